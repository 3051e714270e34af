/- FnBitTurned, its walk. -/
import Derived.Test.YtbopcgokmgifhaaDoorPB
import Derived.Test.YtbopcgokmgifhaaDoorQA
namespace Go.Proofs.YtbopcgokmgifhaaDoor
open Go Go.RowKit Go.Deep Go.Maps
open Go.WideShapes (add_plain)

/-- the byte with one bit turned over -/
def flip8 (x : UInt8) (k : Nat) : UInt8 := UInt8.ofNat (x.toNat ^^^ 2 ^ k)
theorem flip8_val (x : UInt8) (k : Nat) (hk : k < 8) : (flip8 x k).toNat = x.toNat ^^^ 2 ^ k := by
  have h1 := UInt8.toNat_lt x
  have h2 : 2 ^ k < 2 ^ 8 := Nat.pow_lt_pow_right (by decide) hk
  exact UInt8.toNat_ofNat_of_lt' (Nat.xor_lt_two_pow (n := 8) (by omega) h2)
theorem flip8_ne (x : UInt8) (k : Nat) (hk : k < 8) : flip8 x k ≠ x := fun h => by
  have e := flip8_val x k hk
  rw [h] at e
  have h0 : 0 < 2 ^ k := Nat.pow_pos (by decide)
  have t : x.toNat ^^^ 0 = x.toNat ^^^ 2 ^ k := by rw [Nat.xor_zero]; exact e
  have := xor_left t
  omega

theorem flip_bits (x : UInt8) (k : Nat) (hk : k < 8) : bits .xor .u8 ((x.toNat : Nat) : Int) (2 ^ k % 256) = ((flip8 x k).toNat : Nat) := by
  have h1 := UInt8.toNat_lt x
  have h2 : 2 ^ k < 2 ^ 8 := Nat.pow_lt_pow_right (by decide) hk
  have e : ((2 : Int) ^ k % 256) = ((2 ^ k : Nat) : Int) := by
    rw [show ((2 : Int) ^ k) = ((2 ^ k : Nat) : Int) by simp]
    exact Int.emod_eq_of_lt (Int.natCast_nonneg _) (Int.ofNat_lt.2 h2)
  rw [e, u8_xor_nat _ _ (by omega) (by omega), flip8_val x k hk]
theorem set_text {w : World} {g c j : Nat} {X : ByteArray} {v : UInt8} (hj : j < X.size) (h : BRow w g X.size (fun i => (at8 X i : Nat))) :
    (convert 22 9 (.slice (some ⟨g, 0, none⟩) X.size c)).run Tryd.prog (w.setCell ⟨g, j, none⟩ (.int .u8 (v.toNat : Nat))) = .ok (.string ⟨(X.data.toList.set j v).toArray⟩) (w.setCell ⟨g, j, none⟩ (.int .u8 (v.toNat : Nat))) := by
  have R := h.set hj (v.toNat : Nat)
  have hl : (X.data.toList.set j v).length = X.size := by rw [List.length_set, Array.length_toList]; rfl
  have e := run_convert_bytes_back (P := Tryd.prog) (w.setCell ⟨g, j, none⟩ (.int .u8 (v.toNat : Nat))) 22 9 5 ⟨g, 0, none⟩ c (X.data.toList.set j v) Tryd.underlying22 Tryd.underlying5 Tryd.underlying9 fun k hk => by
    rw [hl] at hk
    rw [add_plain]
    simp only [Nat.zero_add]
    rw [R.cell hk, List.getElem_set]
    by_cases e : k = j
    · subst e; simp
    · have e' : ¬ j = k := fun h => e h.symm
      simp only [e, e', if_false]
      rw [at8_eq hk]
      rfl
  rw [hl] at e
  exact e

set_option maxRecDepth 100000 in
set_option maxHeartbeats 4000000 in
theorem turned_walk (a : Option Addr) (n cap : Nat) (w : World) (hb : BytesAt w a n) (hT : Tab4 w) : Calls Tryd.prog 4 #[.slice a n cap] w fun e w' => e = .returned (.bool true) ∧ Below w.heap.size w w' := by
  by_cases hn : n ≤ 1048576
  · have hn' : decide (1048576 < n) = false := decide_eq_false (by omega)
    have P0 := hid (drawSealed_any a n cap w hn hb)
    have HT : Hid (∀ W, Below w.heap.size w W → Tab4 W) := fun W h => hT.below h
    clear hT hb
    go_enter Tryd.func4, Tryd.ntmps4
    go_wp2_with (first
      | (go_at_call 5; refine (big_any a n cap _).mono ?_; rintro e w1 ⟨rfl, hw1⟩; subst w1)
      | (go_at_call 6; refine P0.out.mono ?_; rintro e w1 ⟨s, b, t, rfl, ht, c1⟩))
    clear P0
    have PS := hid (fun W h => implSealed_any s b t W (HT.out W h))
    have PT := hid (fun W => specSealed_any s b t W)
    cases ho : (sealAns s b t).2 with
    | false =>
      rw [ho] at PS PT
      generalize (sealAns s b t).1 = X at *
      refine (PS.out _ c1).mono ?_
      rintro e w2 ⟨rfl, h2⟩
      have c2 := hid (then_ c1 h2)
      go_wp2_with (go_at_call 8; refine (PT.out _).mono ?_; rintro e w3 ⟨rfl, h3⟩; have c3 := hid (then_ c2.out h3))
      go_ret
      exact ⟨rfl, c3.out⟩
    | true =>
      have HO : openAns s (sealAns s b t).1 = (b, t, true) := sealed_opened s b t ho
      have hzX : (sealAns s b t).1.size ≤ 1048576 := by have := sealAns_size s b t; omega
      rw [ho] at PS PT
      generalize (sealAns s b t).1 = X at *
      have HK : Hid (openOk s X) := by
        by_cases hh : openOk s X
        · exact hh
        · rw [openNo hh] at HO; cases HO
      have U3 := hid (fun W h => implOpened_any s X W hzX (HT.out W h))
      rw [HO] at U3
      refine (PS.out _ c1).mono ?_
      rintro e w2 ⟨rfl, h2⟩
      have c2 := hid (then_ c1 h2)
      go_wp2_with (go_at_call 8; refine (PT.out _).mono ?_; rintro e w3 ⟨rfl, h3⟩; have c3 := hid (then_ c2.out h3))
      clear PS PT HO
      go_loopw [10] (fun iv W => ∃ i : Nat, i ≤ 320 ∧ iv = .int .i64 i ∧ Below w.heap.size w W) (fun i _ => 320 - (intOf i).toNat)
      case atStart => exact ⟨0, by omega, rfl, c3.out⟩
      case round =>
        clear c2 c3
        obtain ⟨i, hi, rfl, hB⟩ := hrel
        by_cases h0 : i < 8 * X.size ∧ i < 320
        · obtain ⟨h01, h02⟩ := h0
          have h01' : (i : Int) < 8 * (X.size : Int) := by omega
          have h02' : (i : Int) < 320 := by omega
          have hcv := run_bytes_of_string (P := Tryd.prog) wr 9 22 5 X Tryd.underlying9 Tryd.underlying22 Tryd.underlying5
          have R0 := BRow.made wr X
          have sz := hB.size
          have B0 : Below w.heap.size w (wr.drew.alloc (.cells (bytesRow X (grownCap wr X.size 0 5)) 5 ((bytesRow X (grownCap wr X.size 0 5)).size, (bytesRow X (grownCap wr X.size 0 5)).size + 1))) := hB.drew.alloc sz _
          generalize wr.drew.alloc (.cells (bytesRow X (grownCap wr X.size 0 5)) 5 ((bytesRow X (grownCap wr X.size 0 5)).size, (bytesRow X (grownCap wr X.size 0 5)).size + 1)) = V at *
          generalize grownCap wr X.size 0 5 = cp at *
          have hj : i / 8 < X.size := by omega
          have c8 := R0.cell hj
          have f8 := R0.frozen hj
          have j1 : ((i : Int) / 8).toNat = i / 8 := by omega
          have j2 : (i : Int) / 8 < (X.size : Int) := by omega
          simp only [at8_eq hj] at c8
          have HR0 := hid R0
          clear R0
          have hk8 : i % 8 < 8 := by omega
          have hxv := flip_bits X[i / 8] (i % 8) hk8
          have htx := set_text (c := cp) (v := flip8 X[i / 8] (i % 8)) hj HR0.out
          have hne : flip8 X[i / 8] (i % 8) ≠ X.data.toList[i / 8]'(by rw [Array.length_toList]; exact hj) := flip8_ne _ _ hk8
          have hfalse := turned s X.data.toList (i / 8) (flip8 X[i / 8] (i % 8)) (by rw [Array.length_toList]; exact hj) hne (by have := HK.out; rwa [list_text X] at this)
          have hzz : (⟨(X.data.toList.set (i / 8) (flip8 X[i / 8] (i % 8))).toArray⟩ : ByteArray).size ≤ 1048576 := by rw [size_ofR, List.length_set, Array.length_toList]; exact hzX
          have V1 : Below w.heap.size w (V.setCell ⟨wr.heap.size, i / 8, none⟩ (.int .u8 ((flip8 X[i / 8] (i % 8)).toNat : Nat))) := B0.setCell sz _
          generalize flip8 X[i / 8] (i % 8) = v at *
          generalize (⟨(X.data.toList.set (i / 8) v).toArray⟩ : ByteArray) = Y at *
          have U4 := hid (fun W h => implOpened_any s Y W hzz (HT.out W h))
          rw [hfalse] at U4
          generalize (openAns s Y).1 = N at *
          generalize (openAns s Y).2.1 = T at *
          have HV1 := hid V1
          clear hfalse hne V1 U3
          go_wp2_with (go_at_call 9; refine (U4.out _ HV1.out).mono ?_; rintro e w4 ⟨rfl, h4⟩)
          exact ⟨⟨i + 1, by omega, rfl, then_ HV1.out h4⟩, by simp [intOf]; omega⟩
        · have hcase : ¬ (i : Int) < 8 * (X.size : Int) ∨ ((i : Int) < 8 * (X.size : Int) ∧ ¬ (i : Int) < 320) := by omega
          rcases hcase with hc | ⟨hc, hc2⟩
          · go_wp2_with (go_at_call 9; refine (U3.out _ hB).mono ?_; rintro e w4 ⟨rfl, h4⟩)
            go_ret
            exact ⟨rfl, then_ hB h4⟩
          · go_wp2_with (go_at_call 9; refine (U3.out _ hB).mono ?_; rintro e w4 ⟨rfl, h4⟩)
            go_ret
            exact ⟨rfl, then_ hB h4⟩
  · have hn' : decide (1048576 < n) = true := decide_eq_true (by omega)
    go_enter Tryd.func4, Tryd.ntmps4
    go_wp2_with (go_at_call 5; refine (big_any a n cap _).mono ?_; rintro e w1 ⟨rfl, hw1⟩; subst w1)
    go_ret
    exact ⟨rfl, Below.refl _ _⟩
end Go.Proofs.YtbopcgokmgifhaaDoor
