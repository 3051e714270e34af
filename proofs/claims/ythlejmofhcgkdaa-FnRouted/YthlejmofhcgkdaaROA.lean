/- Routes: the copies that the exact laws make, and their comparison. -/
import Derived.Test.YthlejmofhcgkdaaNK
import Derived.Deep.OwnRows
import Derived.Deep.RegionHeld3
namespace Go.Proofs.Ythlejmofhcgkdaa
open Go Go.RowKit Go.Deep

theorem Try.info29 : (Try.prog.info? 29).map (fun i => (i.zero, i.size, i.bytes)) = some (some (.agg #[.int .i64 0, .int .i64 0, .int .i64 0]), 3, 24) := by kernel_rfl
theorem bcell {W w1 : World} (hb : Below W.heap.size W w1) : (∀ b o, b < W.heap.size → w1.cell? ⟨b, o, none⟩ = W.cell? ⟨b, o, none⟩) ∧ (∀ b o, b < W.heap.size → w1.frozen? ⟨b, o, none⟩ = W.frozen? ⟨b, o, none⟩) :=
  ⟨fun b o h => hb.cell (p := ⟨b, o, none⟩) h, fun b o h => hb.frozen (p := ⟨b, o, none⟩) h⟩

theorem run_make_rts (n : Nat) (hn : n ≤ 1048576) (w : World) :
    (Instr.makeSlice 24 (.int .i64 (n : Int)) (.int .i64 (n : Int))).run Try.prog w = .ok (.slice (some ⟨w.heap.size, 0, none⟩) n n) (w.alloc (.cells (madeCells #[.int .i64 0, .int .i64 0, .int .i64 0] (n * 3)) 29)) := by
  obtain ⟨i, hi, hzz⟩ := Option.map_eq_some_iff.1 Try.info29
  simp only [Prod.mk.injEq] at hzz
  obtain ⟨hz, hs, hb⟩ := hzz
  have hr := run_make (P := Try.prog) w 24 29 i _ Try.underlying24 hi hz .i64 .i64 n n (by omega) (Int.le_refl _) (by rw [hb]; omega) (by omega)
  simp only [Int.toNat_natCast, hs] at hr
  exact hr

/-- the numbers of a row of triples, cell by cell -/
def triCell (f g h : Nat → Int) (j : Nat) : Value := .int .i64 (if j % 3 = 0 then f (j / 3) else if j % 3 = 1 then g (j / 3) else h (j / 3))
def RtsAt (w : World) (a : Option Addr) (n : Nat) (f g h : Nat → Int) : Prop :=
  0 < n → ∃ b off, a = some ⟨b, off, none⟩ ∧ b < w.heap.size ∧ ∀ i, i < n → w.cell? ⟨b, off + i * 3, none⟩ = some (.int .i64 (f i)) ∧ w.cell? ⟨b, off + i * 3 + 1, none⟩ = some (.int .i64 (g i)) ∧ w.cell? ⟨b, off + i * 3 + 2, none⟩ = some (.int .i64 (h i))
theorem RtsAt.below {w w' : World} {a : Option Addr} {n : Nat} {f g h : Nat → Int} (H : RtsAt w a n f g h) (hb : Below w.heap.size w w') : RtsAt w' a n f g h := fun hn => by
  obtain ⟨b, off, rfl, hlt, hc⟩ := H hn
  obtain ⟨h1, _⟩ := bcell hb
  exact ⟨b, off, rfl, Nat.lt_of_lt_of_le hlt hb.size, fun i hi => by rw [h1 _ _ hlt, h1 _ _ hlt, h1 _ _ hlt]; exact hc i hi⟩
theorem tri0 (f g h : Nat → Int) (i : Nat) : triCell f g h (i * 3) = .int .i64 (f i) := by
  unfold triCell; rw [if_pos (by omega), show i * 3 / 3 = i by omega]
theorem tri1 (f g h : Nat → Int) (i : Nat) : triCell f g h (i * 3 + 1) = .int .i64 (g i) := by
  unfold triCell; rw [if_neg (by omega), if_pos (by omega), show (i * 3 + 1) / 3 = i by omega]
theorem tri2 (f g h : Nat → Int) (i : Nat) : triCell f g h (i * 3 + 2) = .int .i64 (h i) := by
  unfold triCell; rw [if_neg (by omega), if_neg (by omega), show (i * 3 + 2) / 3 = i by omega]
theorem RtsAt.row {w : World} {b n : Nat} {f g h : Nat → Int} (H : w.rowIs b 29 (n * 3) (triCell f g h)) : RtsAt w (some ⟨b, 0, none⟩) n f g h := fun _ => by
  refine ⟨b, 0, rfl, H.lt, fun i hi => ⟨?_, ?_, ?_⟩⟩
  · rw [Nat.zero_add, H.cell (i := i * 3) (by omega), tri0]
  · rw [Nat.zero_add, H.cell (i := i * 3 + 1) (by omega), tri1]
  · rw [Nat.zero_add, H.cell (i := i * 3 + 2) (by omega), tri2]
theorem made_row (w : World) (n : Nat) : (w.alloc (.cells (madeCells #[.int .i64 0, .int .i64 0, .int .i64 0] (n * 3)) 29)).rowIs w.heap.size 29 (n * 3) (triCell (fun _ => 0) (fun _ => 0) (fun _ => 0)) :=
  ⟨_, blk_alloc_new _ _, size_madeCells _ _, fun i hi => by
    have h3 : i % 3 = 0 ∨ i % 3 = 1 ∨ i % 3 = 2 := by omega
    rcases h3 with h | h | h <;> simp [madeCells, hi, triCell, h]⟩
def upto (k : Nat) (f : Nat → Int) (i : Nat) : Int := if i < k then f i else 0
theorem upto_zero (f : Nat → Int) : upto 0 f = fun _ => 0 := by funext i; simp [upto]
theorem upto_row {w : World} {b n k : Nat} {f g h : Nat → Int} (H : w.rowIs b 29 (n * 3) (triCell (upto k f) (upto k g) (upto k h))) :
    (((w.setCell ⟨b, k * 3, none⟩ (.int .i64 (f k))).setCell ⟨b, k * 3 + 1, none⟩ (.int .i64 (g k))).setCell ⟨b, k * 3 + 2, none⟩ (.int .i64 (h k))).rowIs b 29 (n * 3) (triCell (upto (k + 1) f) (upto (k + 1) g) (upto (k + 1) h)) := by
  refine (((H.set (k * 3) _).set (k * 3 + 1) _).set (k * 3 + 2) _).congr fun j _ => ?_
  by_cases e2 : j = k * 3 + 2
  · subst e2; simp only [if_true]; rw [tri2]; simp [upto]
  by_cases e1 : j = k * 3 + 1
  · subst e1; simp only [if_true, e2, if_false]; rw [tri1]; simp [upto]
  by_cases e0 : j = k * 3
  · subst e0; simp only [if_true, e1, e2, if_false]; rw [tri0]; simp [upto]
  · have a1 : (j / 3 < k + 1) = (j / 3 < k) := by apply propext; omega
    simp [triCell, upto, e0, e1, e2, a1]
theorem upto_done {w : World} {b n : Nat} {f g h : Nat → Int} (H : w.rowIs b 29 (n * 3) (triCell (upto n f) (upto n g) (upto n h))) : w.rowIs b 29 (n * 3) (triCell f g h) :=
  H.congr fun j hj => by have : j / 3 < n := by omega
                         simp [triCell, upto, this]
theorem World.rowIs.below {w w' : World} {B b n : Nat} {t : TypeId} {f : Nat → Value} (h : w.rowIs b t n f) (hb : Below B w w') (hB : b < B) : w'.rowIs b t n f := h.of_block (hb.block b hB)

end Go.Proofs.Ythlejmofhcgkdaa
