/- Decimals and texts of labels, as the model writes them. -/
import Derived.Test.YtcpphobokdkkeaaDoorLD
import Derived.Laws.IdiomStrings
namespace Go.Proofs.YtcpphobokdkkeaaDoor
open Go.RowKit Go.Deep

theorem one_byte (w : World) (x : Int) (h0 : 0 ≤ x) (h1 : x < 256) :
    (convert 66 9 (Value.slice (some ⟨w.heap.size, 0, none⟩) 1 1)).run Tryd.prog (w.alloc (.cells #[.int .u8 x] 5)) = .ok (.string ⟨#[UInt8.ofNat x.toNat]⟩) (w.alloc (.cells #[.int .u8 x] 5)) := by
  refine run_convert_bytes_back (P := Tryd.prog) (w.alloc (.cells #[.int .u8 x] 5)) 66 9 5 ⟨w.heap.size, 0, none⟩ 1 [UInt8.ofNat x.toNat] Tryd.underlying66 Tryd.underlying5 Tryd.underlying9 fun j hj => ?_
  obtain rfl : j = 0 := by simpa using hj
  have e : (((UInt8.ofNat x.toNat).toNat : Nat) : Int) = x := by
    rw [UInt8.toNat_ofNat_of_lt' (by simp [UInt8.size]; omega)]
    omega
  simp only [List.getElem_cons_zero, e]
  simp [Addr.add]

theorem bytes_cons (b : UInt8) (l : List UInt8) : ((⟨#[b]⟩ : ByteArray) ++ (⟨l.toArray⟩ : ByteArray)) = ⟨(b :: l).toArray⟩ := by
  apply ByteArray.ext
  apply Array.ext'
  simp
theorem bytes_app (a l : List UInt8) : ((⟨a.toArray⟩ : ByteArray) ++ (⟨l.toArray⟩ : ByteArray)) = ⟨(a ++ l).toArray⟩ := by
  apply ByteArray.ext
  apply Array.ext'
  simp
theorem decL_len (n : Nat) : (decL n).length ≤ n + 1 := by
  induction n using Nat.strongRecOn with
  | _ n ih =>
    by_cases h : n < 10
    · rw [decL_small h]; simp
    · rw [decL_big h, List.length_append]
      have := ih (n / 10) (by omega)
      simp
      omega

set_option maxRecDepth 100000 in
set_option maxHeartbeats 2000000 in
theorem l1Dec_any (n : Nat) (w : World) (hn : n ≤ 10000000000) :
    Calls Tryd.prog 16 #[.int .i64 n] w fun e w' => e = .returned (.string ⟨(decL n).toArray⟩) ∧ Below w.heap.size w w' := by
  have hlen := decL_len n
  go_enter Tryd.func16, Tryd.ntmps16
  go_wp2
  go_loopw [0, 3] (fun x s wr => ∃ (k : Nat) (l : List UInt8), k ≤ n ∧ x = .int .i64 k ∧ s = .string ⟨l.toArray⟩ ∧ decL n = decL k ++ l ∧ Below w.heap.size w wr) (fun x _ _ => (intOf x).toNat)
  case atStart => exact ⟨n, [], Nat.le_refl _, rfl, rfl, by simp, Below.refl _ _⟩
  case round =>
    obtain ⟨k, l, hk, rfl, rfl, hd, hB⟩ := hrel
    have hl : l.length ≤ 10000000001 := by
      have := congrArg List.length hd
      rw [List.length_append] at this
      omega
    have HD : Hid (decL n = decL k ++ l) := hd
    clear hd
    by_cases h10 : k < 10
    · have h10' : ¬ (10 : Int) ≤ (k : Int) := by omega
      obtain ⟨b, hb⟩ : ∃ b, b = UInt8.ofNat (48 + (k : Int)).toNat := ⟨_, rfl⟩
      have ob := fun (w : World) => one_byte w (48 + (k : Int)) (by omega) (by omega)
      rw [← hb] at ob
      have HB : Hid (b = UInt8.ofNat (48 + k)) := hb
      clear hb
      go_wp2
      go_ret
      refine ⟨?_, hB.alloc hB.size _⟩
      rw [bytes_cons, HD.out, decL_small h10, ← HB.out]
      rfl
    · have h10' : (10 : Int) ≤ (k : Int) := by omega
      obtain ⟨b, hb⟩ : ∃ b, b = UInt8.ofNat (48 + (k : Int) % 10).toNat := ⟨_, rfl⟩
      have ob := fun (w : World) => one_byte w (48 + (k : Int) % 10) (by omega) (by omega)
      rw [← hb] at ob
      have HB : Hid (b = UInt8.ofNat (48 + k % 10)) := hb
      clear hb
      go_wp2
      go_roundw
      case rel =>
        refine ⟨k / 10, b :: l, by omega, by go_num, by rw [bytes_cons], ?_, hB.alloc hB.size _⟩
        rw [HD.out, decL_big h10, ← HB.out, List.append_assoc]
        rfl
      case measure => simp [intOf]; omega
end Go.Proofs.YtcpphobokdkkeaaDoor
