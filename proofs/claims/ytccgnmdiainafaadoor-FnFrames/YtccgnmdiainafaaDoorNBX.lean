/- Numbers in bytes: highFirst of the program. -/
import Derived.Test.YtccgnmdiainafaaDoorNBW
namespace Go.Proofs.YtccgnmdiainafaaDoor
open Go Go.RowKit Go.Deep Go.Maps
open Go.WideShapes (add_plain)

/-- the bytes that are written when k of m are, from behind -/
def part (n : Int) (m k j : Nat) : Value := .int .u8 (if m - k ≤ j then (n / 2 ^ (8 * (m - 1 - j))) % 256 else 0)

theorem byte_low (n : Int) (i : Nat) (hi : i ≤ 7) : ((n % 18446744073709551616) / 2 ^ (8 * i)) % 256 = (n / 2 ^ (8 * i)) % 256 := by
  match i, hi with
  | 0, _ => simp only [Nat.mul_zero, Int.pow_zero]; omega
  | 1, _ => omega
  | 2, _ => omega
  | 3, _ => omega
  | 4, _ => omega
  | 5, _ => omega
  | 6, _ => omega
  | 7, _ => omega

theorem part_zero (n : Int) (m j : Nat) (h : j < m) : part n m 0 j = .int .u8 0 := by
  unfold part; rw [if_neg (by omega)]
theorem part_row {w : World} {b m k : Nat} {n : Int} (hk : k < m) (hr : w.rowIs b 5 m (part n m k)) (x : Int) (hx : x = (n / 2 ^ (8 * k)) % 256) :
    (w.setCell ⟨b, m - 1 - k, none⟩ (.int .u8 x)).rowIs b 5 m (part n m (k + 1)) := by
  refine (hr.set (m - 1 - k) _).congr fun j hj => ?_
  by_cases e : j = m - 1 - k
  · subst e
    unfold part
    rw [if_pos rfl, show m - 1 - (m - 1 - k) = k by omega, hx, if_pos (by omega)]
  · simp only [e, if_false]
    unfold part
    by_cases h1 : m - k ≤ j
    · rw [if_pos h1, if_pos (by omega)]
    · rw [if_neg h1, if_neg (by omega)]
theorem bigL_at (n : Int) (m j : Nat) (h : j < m) (h' : j < (bigL n m).length) : (bigL n m)[j] = byteOf n (m - 1 - j) := by
  induction m generalizing j with
  | zero => omega
  | succ m ih =>
    cases j with
    | zero => simp [bigL]
    | succ j =>
      simp only [bigL, List.getElem_cons_succ]
      rw [ih j (by omega)]
      congr 1
      omega
theorem part_text {w : World} {b m : Nat} {n : Int} (hr : w.rowIs b 5 m (part n m m)) :
    (convert 22 9 (.slice (some ⟨b, 0, none⟩) m m)).run Tryd.prog w = .ok (.string ⟨(bigL n m).toArray⟩) w := by
  have e := run_convert_bytes_back (P := Tryd.prog) w 22 9 5 ⟨b, 0, none⟩ m (bigL n m) Tryd.underlying22 Tryd.underlying5 Tryd.underlying9 (fun j hj => by
    rw [bigL_len] at hj
    rw [add_plain, bigL_at n m j hj, byteOf_val]
    have c := hr.cell (i := j) hj
    simp only [Nat.zero_add]
    rw [c]
    unfold part
    rw [if_pos (by omega)])
  rw [bigL_len] at e
  exact e

set_option maxHeartbeats 1000000 in
theorem highFirst_any (n : Int) (m : Nat) (w : World) (hm : m ≤ 8) :
    Calls Tryd.prog 20 #[.int .i64 n, .int .i64 m] w fun e w' => e = .returned (.string ⟨(bigL n m).toArray⟩) ∧ Below w.heap.size w w' := by
  have hmk := run_make_row' (P := Tryd.prog) 22 5 _ 1 Tryd.underlying22 Tryd.info5 rfl .i64 .i64 m (by omega) (by omega)
  go_enter Tryd.func20, Tryd.ntmps20
  go_wp2
  go_loopw [11] (fun i wr => ∃ k : Nat, k ≤ m ∧ i = .int .i64 k ∧ wr.rowIs w.heap.size 5 m (part n m k) ∧ Below w.heap.size w wr) (fun i _ => m - (intOf i).toNat)
  case atStart => exact ⟨0, Nat.zero_le _, rfl, (World.rowIs_made w (.int .u8 0) m 5).congr (fun j hj => (part_zero n m j hj).symm), (Below.refl _ _).alloc (Nat.le_refl _) _⟩
  case round =>
    obtain ⟨k, hk, rfl, hrow, hB⟩ := hrel
    clear hmk
    by_cases hlt' : k < m
    · have c1 := hrow.cell (i := m - 1 - k) (by omega)
      have f1 := hrow.frozen (m - 1 - k)
      have hi : ((m : Int) - 1 - (k : Int)).toNat = m - 1 - k := by omega
      go_wp2
      refine ⟨⟨k + 1, by omega, by congr 1, part_row hlt' hrow _ ?_, hB.setCell (Nat.le_refl _) _⟩, by simp [intOf]; omega⟩
      rw [IntKind.wrap_u64]
      exact byte_low n k (by omega)
    · have e : k = m := by omega
      subst e
      have ht := part_text hrow
      go_wp2
      go_ret
      exact ⟨rfl, hB⟩
end Go.Proofs.YtccgnmdiainafaaDoor
