/- Checksum of the model and of the program answer the same plain number. -/
import Derived.Test.YtaefebcfgcnhlaaNK
namespace Go.Proofs.Ytaefebcfgcnhlaa
open Go.RowKit

theorem sum_at {s : ByteArray} {m : Nat} (h : 2 * m + 1 < s.size) (h0 : 2 * m < s.size) : psum (at8 s) (min (2 * (m + 1)) s.size) = psum (at8 s) (min (2 * m) s.size) + (256 * s[2 * m].toNat + s[2 * m + 1].toNat) := by
  rw [show min (2 * (m + 1)) s.size = 2 * m + 2 by omega, show min (2 * m) s.size = 2 * m by omega, psum_two _ _ (by omega), at8_eq h0, at8_eq h]
theorem sum_last {s : ByteArray} {m : Nat} (h : ¬ 2 * m + 1 < s.size) (h0 : 2 * m < s.size) : psum (at8 s) (min (2 * (m + 1)) s.size) = psum (at8 s) (min (2 * m) s.size) + 256 * s[2 * m].toNat := by
  rw [show min (2 * (m + 1)) s.size = 2 * m + 1 by omega, show min (2 * m) s.size = 2 * m by omega, psum_one _ _ (by omega), at8_eq h0]

theorem fold_next {t n x : Nat} (hx : x = fold t) (hn : n ≤ 65535) : fold (t + n) = if 65535 < x + n then x + n - 65535 else x + n := by
  subst hx
  rw [← fold_add]
  have := fold_lt t
  split
  · exact fold_over (by omega) (by omega)
  · exact fold_small (by omega)

set_option maxHeartbeats 1000000 in
theorem specSum_any (s : ByteArray) (w : World) (hn : s.size ≤ 1048576) :
    Calls Try.prog 15 #[.string s] w fun e w' => e = .returned (.int .i64 (cks s : Nat)) ∧ w' = w := by
  go_enter Try.func15, Try.ntmps15
  go_wp2
  go_loop [3, 4] (fun x i => ∃ m q : Nat, 2 * m ≤ s.size + 1 ∧ i = .int .i64 ((2 * m : Nat) : Int) ∧ x = .int .i64 (q : Int) ∧ q = fold (psum (at8 s) (min (2 * m) s.size))) (fun _ i => s.size + 1 - (intOf i).toNat)
  case atStart => exact ⟨0, 0, by omega, rfl, rfl, by simp [psum, fold]⟩
  case round =>
    obtain ⟨m, q, hm, rfl, rfl, hq⟩ := hrel
    have HQ := hid hq
    have hq1 : q ≤ 65535 := by rw [hq]; exact fold_lt _
    clear hq
    by_cases h0 : 2 * m < s.size
    · have h0' : ((2 * m : Nat) : Int) < (s.size : Int) := by omega
      have b0 : s[2 * m].toNat < 256 := UInt8.toNat_lt _
      by_cases h1 : 2 * m + 1 < s.size
      · have h1' : ((2 * m : Nat) : Int) + 1 < (s.size : Int) := by omega
        have b1 : s[2 * m + 1].toNat < 256 := UInt8.toNat_lt _
        have HE := hid (sum_at h1 h0)
        go_wp2
        · rename_i hc
          refine ⟨⟨m + 1, q + (256 * s[2 * m].toNat + s[2 * m + 1].toNat) - 65535, by omega, by congr 1 <;> omega, by congr 1 <;> omega, ?_⟩, by simp [intOf]; omega⟩
          rw [HE.out, fold_next HQ.out (by omega), if_pos (by omega)]
        · rename_i hc
          refine ⟨⟨m + 1, q + (256 * s[2 * m].toNat + s[2 * m + 1].toNat), by omega, by congr 1 <;> omega, by congr 1 <;> omega, ?_⟩, by simp [intOf]; omega⟩
          rw [HE.out, fold_next HQ.out (by omega), if_neg (by omega)]
      · have h1' : ¬ ((2 * m : Nat) : Int) + 1 < (s.size : Int) := by omega
        have HE := hid (sum_last h1 h0)
        go_wp2
        · rename_i hc
          refine ⟨⟨m + 1, q + 256 * s[2 * m].toNat - 65535, by omega, by congr 1 <;> omega, by congr 1 <;> omega, ?_⟩, by simp [intOf]; omega⟩
          rw [HE.out, fold_next HQ.out (by omega), if_pos (by omega)]
        · rename_i hc
          refine ⟨⟨m + 1, q + 256 * s[2 * m].toNat, by omega, by congr 1 <;> omega, by congr 1 <;> omega, ?_⟩, by simp [intOf]; omega⟩
          rw [HE.out, fold_next HQ.out (by omega), if_neg (by omega)]
    · have h0' : ¬ ((2 * m : Nat) : Int) < (s.size : Int) := by omega
      go_wp2
      go_ret
      refine ⟨ret_int ?_, rfl⟩
      have e := HQ.out
      rw [show min (2 * m) s.size = s.size by omega] at e
      unfold cks
      omega

theorem xor_all (y : Nat) (h : y < 65536) : 65535 ^^^ y = 65535 - y := by
  have e := congrArg BitVec.toNat (BitVec.allOnes_xor (x := BitVec.ofNat 16 y))
  rw [BitVec.toNat_xor, BitVec.toNat_not, BitVec.toNat_allOnes, BitVec.toNat_ofNat, Nat.mod_eq_of_lt h] at e
  simpa using e

set_option maxHeartbeats 1000000 in
theorem implSum_any (s : ByteArray) (w : World) (hn : s.size ≤ 1048576) :
    Calls Try.prog 11 #[.string s] w fun e w' => e = .returned (.int .i64 (cks s : Nat)) ∧ w' = w := by
  go_enter Try.func11, Try.ntmps11
  go_wp2
  go_loop [3, 8] (fun x i => ∃ m q : Nat, m ≤ s.size ∧ i = .int .i64 (m : Int) ∧ x = .int .u64 (q : Int) ∧ q = psum (at8 s) m) (fun _ i => s.size - (intOf i).toNat)
  case atStart => exact ⟨0, 0, by omega, rfl, rfl, by simp [psum]⟩
  case round =>
    obtain ⟨m, q, hm, rfl, rfl, hq⟩ := hrel
    have HQ := hid hq
    have hq1 : q ≤ m * 65280 := by rw [hq]; exact psum_le _ (at8_lt s) _
    clear hq
    by_cases h0 : m < s.size
    · have h0' : (m : Int) < (s.size : Int) := by omega
      have b0 : s[m].toNat < 256 := UInt8.toNat_lt _
      have e0 := at8_eq h0
      have E0 := hid e0
      clear e0
      go_wp2
      · rename_i hc
        refine ⟨⟨m + 1, q + s[m].toNat * 256, by omega, by congr 1 <;> omega, by congr 1 <;> omega, ?_⟩, by simp [intOf]; omega⟩
        have hc' : m % 2 = 0 := by simp at hc; omega
        rw [HQ.out, psum, if_pos hc', E0.out]
      · rename_i hc
        refine ⟨⟨m + 1, q + s[m].toNat, by omega, by congr 1 <;> omega, by congr 1 <;> omega, ?_⟩, by simp [intOf]; omega⟩
        have hc' : ¬ m % 2 = 0 := by simp at hc; omega
        rw [HQ.out, psum, if_neg hc', E0.out]
    · have h0' : ¬ (m : Int) < (s.size : Int) := by omega
      have e : Hid (fold q = fold (psum (at8 s) s.size)) := by
        show fold q = _
        rw [HQ.out, show m = s.size by omega]
      have hq2 : q ≤ 68451041280 := by have : m = s.size := by omega
                                       omega
      clear HQ hq1
      go_wp2
      go_loop [3] (fun x => ∃ y : Nat, x = .int .u64 (y : Int) ∧ y ≤ 68451041280 ∧ fold y = fold (psum (at8 s) s.size)) (fun x => (intOf x).toNat)
      case atStart => exact ⟨q, rfl, hq2, e.out⟩
      case round =>
        obtain ⟨y, rfl, hy, he⟩ := hrel
        have HE := hid he
        clear he e
        by_cases h : y < 65536
        · have hz : (y : Int) / 65536 = 0 := by omega
          go_wp2
          go_ret
          refine ⟨ret_int ?_, rfl⟩
          have e2 := fold_small (n := y) (by omega)
          have e3 := HE.out
          unfold cks
          rw [show (IntKind.u16.max : Int) = ((65535 : Nat) : Int) from rfl, u16_xor_nat 65535 y (by omega) (by omega), xor_all y (by omega)]
          unfold wrap64
          omega
        · have ha : bits BinOp.and IntKind.u64 (y : Int) 65535 = (y : Int) % 65536 := by
            rw [show (65535 : Int) = ((65535 : Nat) : Int) from rfl, u64_and_nat y 65535 (by omega) (by omega), nat_mask16]; omega
          go_wp2
          refine ⟨⟨y / 65536 + y % 65536, by congr 1 <;> omega, by omega, ?_⟩, by simp [intOf]; omega⟩
          rw [fold_step (by omega)]; exact HE.out

end Go.Proofs.Ytaefebcfgcnhlaa
