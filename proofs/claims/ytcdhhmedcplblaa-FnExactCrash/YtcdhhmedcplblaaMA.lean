/- Texts of marks. -/
import Derived.Test.YtcdhhmedcplblaaDC
import Derived.Laws.IdiomStrings
namespace Go.Proofs.Ytcdhhmedcplblaa
open Go.RowKit Go.Deep

set_option maxRecDepth 100000 in
theorem one_byte (w : World) (x : Int) (h0 : 0 ≤ x) (h1 : x < 256) :
    (convert 107 9 (Value.slice (some ⟨w.heap.size, 0, none⟩) 1 1)).run Try.prog (w.alloc (.cells #[.int .u8 x] 5)) = .ok (.string ⟨#[UInt8.ofNat x.toNat]⟩) (w.alloc (.cells #[.int .u8 x] 5)) := by
  refine run_convert_bytes_back (P := Try.prog) (w.alloc (.cells #[.int .u8 x] 5)) 107 9 5 ⟨w.heap.size, 0, none⟩ 1 [UInt8.ofNat x.toNat] Try.underlying107 Try.underlying5 Try.underlying9 fun j hj => ?_
  obtain rfl : j = 0 := by simpa using hj
  have e : (((UInt8.ofNat x.toNat).toNat : Nat) : Int) = x := by
    rw [UInt8.toNat_ofNat_of_lt' (by simp [UInt8.size]; omega)]
    omega
  simp only [List.getElem_cons_zero, e]
  simp [Addr.add]
theorem bytes_cons (b : UInt8) (l : List UInt8) : ((⟨#[b]⟩ : ByteArray) ++ (⟨l.toArray⟩ : ByteArray)) = ⟨(b :: l).toArray⟩ := by
  apply ByteArray.ext
  apply Array.ext'
  simp

/-- the digits of a number, none of 0 -/
def digs (n : Nat) : List UInt8 := if _h : n = 0 then [] else digs (n / 10) ++ [UInt8.ofNat (48 + n % 10)]
termination_by n
decreasing_by omega
theorem digs_zero : digs 0 = [] := by rw [digs, dif_pos rfl]
theorem digs_pos {n : Nat} (h : ¬ n = 0) : digs n = digs (n / 10) ++ [UInt8.ofNat (48 + n % 10)] := by rw [digs, dif_neg h]
theorem digs_len (n : Nat) : (digs n).length ≤ n := by
  induction n using Nat.strongRecOn with
  | _ n ih =>
    by_cases h : n = 0
    · subst h; rw [digs_zero]; simp
    · rw [digs_pos h, List.length_append]
      have := ih (n / 10) (by omega)
      simp
      omega

set_option maxRecDepth 100000 in
set_option maxHeartbeats 2000000 in
theorem markText_any (n : Nat) (w : World) (h1 : 0 < n) (hn : n ≤ 100000000000000000) :
    Calls Try.prog 59 #[.int .i64 n] w fun e w' => e = .returned (.string ⟨(109 :: digs n).toArray⟩) ∧ Below w.heap.size w w' := by
  have hlen := digs_len n
  go_enter Try.func59, Try.ntmps59
  go_wp2
  go_loopw [0, 3] (fun x s wr => ∃ (k : Nat) (l : List UInt8), k ≤ n ∧ x = .int .i64 k ∧ s = .string ⟨l.toArray⟩ ∧ digs n = digs k ++ l ∧ Below w.heap.size w wr) (fun x _ _ => (intOf x).toNat)
  case atStart => exact ⟨n, [], Nat.le_refl _, rfl, rfl, by simp, Below.refl _ _⟩
  case round =>
    obtain ⟨k, l, hk, rfl, rfl, hd, hB⟩ := hrel
    have hl : l.length ≤ 100000000000000001 := by
      have := congrArg List.length hd
      rw [List.length_append] at this
      omega
    have HD : Hid (digs n = digs k ++ l) := hd
    clear hd
    by_cases h0 : k = 0
    · subst h0
      go_wp2
      go_ret
      refine ⟨?_, hB⟩
      rw [bytes_cons, HD.out, digs_zero]
      rfl
    · have h0' : (0 : Int) < (k : Int) := by omega
      obtain ⟨b, hb⟩ : ∃ b, b = UInt8.ofNat (48 + (k : Int) % 10).toNat := ⟨_, rfl⟩
      have ob := fun (w : World) => one_byte w (48 + (k : Int) % 10) (by omega) (by omega)
      rw [← hb] at ob
      have HB : Hid (b = UInt8.ofNat (48 + k % 10)) := hb
      clear hb
      go_wp2
      go_roundw
      case rel =>
        refine ⟨k / 10, b :: l, by omega, by go_num, by rw [bytes_cons], ?_, hB.alloc hB.size _⟩
        rw [HD.out, digs_pos h0, ← HB.out, List.append_assoc]
        rfl
      case measure => simp [intOf]; omega
end Go.Proofs.Ytcdhhmedcplblaa
