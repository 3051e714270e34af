/- Lists of whole numbers: copies, comparison, marks. -/
import Derived.Test.YtcchpeebhkiacaaZC
import Derived.Deep.QuietTactic
import Derived.BigQuiet
namespace Go.Proofs.Ytcchpeebhkiacaa
open Go Go.RowKit Go.Deep Go.Maps

def IntsAt (w : World) (a : Option Addr) (n : Nat) (h : Nat → Int) : Prop :=
  0 < n → ∃ b off, a = some ⟨b, off, none⟩ ∧ b < w.heap.size ∧ ∀ i, i < n → w.cell? ⟨b, off + i, none⟩ = some (.int .i64 (h i))

theorem IntsAt.below {w w' : World} {a : Option Addr} {n : Nat} {h : Nat → Int} (hc : IntsAt w a n h) (hb : Below w.heap.size w w') : IntsAt w' a n h := fun hn => by
  obtain ⟨b, off, rfl, hlt, hc⟩ := hc hn
  obtain ⟨h1, _⟩ := bcell hb
  exact ⟨b, off, rfl, Nat.lt_of_lt_of_le hlt hb.size, fun i hi => by rw [h1 _ _ hlt]; exact hc i hi⟩

theorem IntsAt.row {w : World} {b n : Nat} {t : TypeId} {h : Nat → Int} (hr : w.rowIs b t n (fun i => .int .i64 (h i))) : IntsAt w (some ⟨b, 0, none⟩) n h := fun _ =>
  ⟨b, 0, rfl, hr.lt, fun i hi => by rw [Nat.zero_add]; exact hr.cell hi⟩

theorem Try.info2 : (Try.prog.info? 2).map (fun i => (i.zero, i.size, i.bytes)) = some (some (.int .i64 0), 1, 8) := by kernel_rfl

def upto (k : Nat) (f : Nat → Int) (i : Nat) : Int := if i < k then f i else 0
theorem upto_zero (f : Nat → Int) : upto 0 f = fun _ => 0 := by funext i; simp [upto]
theorem upto_int_row {w : World} {b n k : Nat} {h : Nat → Int} (hr : w.rowIs b 2 n (fun i => .int .i64 (upto k h i))) :
    (w.setCell ⟨b, k, none⟩ (.int .i64 (h k))).rowIs b 2 n (fun i => .int .i64 (upto (k + 1) h i)) := by
  refine (hr.set k _).congr fun j _ => ?_
  by_cases e : j = k
  · subst e; simp [upto]
  · have a1 : (j < k + 1) = (j < k) := by apply propext; omega
    simp [upto, e, a1]

theorem upto_int_done {w : World} {b n : Nat} {h : Nat → Int} (hr : w.rowIs b 2 n (fun i => .int .i64 (upto n h i))) : w.rowIs b 2 n (fun i => .int .i64 (h i)) :=
  hr.congr fun j hj => by simp [upto, hj]

theorem grown_set {a b : World} {P : Nat} (h : a.grownBy b (some P)) (i : Nat) (v : Value) : a.grownBy (b.setCell ⟨P, i, none⟩ v) (some P) :=
  ⟨h.os, h.tape, h.output, by rw [nblk_setCell]; exact h.size, fun j hj hne => (blk_setCell_other _ _ _ _ (by dsimp only; intro e; exact hne (by rw [e]))).trans (h.block j hj hne)⟩
theorem grown_refl (a : World) (P : Nat) : a.grownBy a (some P) := ⟨rfl, rfl, rfl, Nat.le_refl _, fun _ _ _ => rfl⟩
def RowI (w : World) (a : Option Addr) (b n : Nat) : Prop := 0 < n → a = some ⟨b, 0, none⟩ ∧ ∃ m F, n ≤ m ∧ w.rowIs b 2 m F
def mkI (k0 : Int) (i : Nat) : Int := k0 + i
end Go.Proofs.Ytcchpeebhkiacaa
