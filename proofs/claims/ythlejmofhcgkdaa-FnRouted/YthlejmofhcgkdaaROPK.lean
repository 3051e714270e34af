/- Routed, both sides in one form. -/
import Derived.Test.YthlejmofhcgkdaaROPJ
namespace Go.Proofs.Ythlejmofhcgkdaa
open Go Go.RowKit Go.Deep Go.BigFrame Go.Maps

def at3 (X : List R3) (i : Nat) : R3 := X[i]?.getD (0, 0, 0)
/-- what Routed lays: its list and whether it answers -/
def rtdL (n : Nat) (f g h : Nat → Int) (x y z : Int) : List R3 := if (rtsOk n f g h && rOk x y z) = true ∧ (laidAll f g h (x, y, z) n).length ≤ 20 then laidAll f g h (x, y, z) n else []
def rtdOk (n : Nat) (f g h : Nat → Int) (x y z : Int) : Bool := decide ((rtsOk n f g h && rOk x y z) = true ∧ (laidAll f g h (x, y, z) n).length ≤ 20)
def ResR (w w' : World) (e : Ending) (X : List R3) (ok : Bool) : Prop :=
  ∃ a b c, e = .returned (.tuple #[.slice a X.length c, .bool ok]) ∧ RtsAt w' a X.length (fun i => (at3 X i).1) (fun i => (at3 X i).2.1) (fun i => (at3 X i).2.2) ∧ RowR w' a b X.length ∧ w.heap.size ≤ b ∧ Below w.heap.size w w'
theorem rtdL_len (n : Nat) (f g h : Nat → Int) (x y z : Int) : (rtdL n f g h x y z).length ≤ 20 := by
  unfold rtdL; split
  · rename_i h; exact h.2
  · simp

theorem ownAt {w : World} {B g c : Nat} {X : List R3} (h : OwnR w B (.slice (some ⟨g, 0, none⟩) X.length c) X) : RtsAt w (some ⟨g, 0, none⟩) X.length (fun i => (at3 X i).1) (fun i => (at3 X i).2.1) (fun i => (at3 X i).2.2) := fun hn => by
  have hl := (World.ownsRow.lt h g rfl).2
  refine ⟨g, 0, rfl, hl, fun i hi => ?_⟩
  have hc : ∀ j, j < X.length * 3 → w.cell? ⟨g, j, none⟩ = (rcells X)[j]? := fun j hj => World.ownsRow.cellAt h j hj
  have e : X[i]? = some (at3 X i) := by rw [at3, List.getElem?_eq_getElem hi]; rfl
  rw [hc _ (by omega), hc _ (by omega), hc _ (by omega), rcells_get, rcells_get, rcells_get, show (0 + i * 3) / 3 = i by omega, show (0 + i * 3 + 1) / 3 = i by omega, show (0 + i * 3 + 2) / 3 = i by omega, show (0 + i * 3) % 3 = 0 by omega, show (0 + i * 3 + 1) % 3 = 1 by omega, show (0 + i * 3 + 2) % 3 = 2 by omega, e]
  exact ⟨rfl, rfl, rfl⟩
theorem ownRow {w : World} {B g c : Nat} {X : List R3} (h : OwnR w B (.slice (some ⟨g, 0, none⟩) X.length c) X) : RowR w (some ⟨g, 0, none⟩) g X.length := fun _ => by
  obtain ⟨_, hx⟩ := h
  rcases hx with ⟨hv, _⟩ | ⟨g', cap, cur, hv, _, hh, hnc, _, hcs, _⟩
  · simp at hv
  · simp only [Value.slice.injEq, Option.some.injEq, Addr.mk.injEq, and_true] at hv
    obtain ⟨rfl, _, rfl⟩ := hv
    refine ⟨rfl, c * 3, fun i => cur[i]!, Nat.mul_le_mul_right _ hnc, ?_⟩
    refine ⟨cur, hh, hcs, fun i hi => ?_⟩
    show _ = some cur[i]!
    rw [Array.getElem?_eq_getElem (by omega), getElem!_pos cur i (by omega)]
theorem ResR.nil {w w' : World} (hb : Below w.heap.size w w') : ResR w w' (.returned (.tuple #[.slice none 0 0, .bool false])) [] false :=
  ⟨none, w.heap.size, 0, rfl, fun h => absurd h (by simp), fun h => absurd h (by simp), Nat.le_refl _, hb⟩
theorem ResR.of {w w' : World} {n : Nat} {f g h : Nat → Int} {x y z : Int} {e : Ending} (ho : (rtsOk n f g h && rOk x y z) = true) (hb : Below w.heap.size w w') (hr : RtdIs w (laidAll f g h (x, y, z) n) e w') : ResR w w' e (rtdL n f g h x y z) (rtdOk n f g h x y z) := by
  rcases hr with ⟨hl, g', c, rfl, o⟩ | ⟨hl, rfl⟩
  · rw [rtdL, rtdOk, if_pos ⟨ho, hl⟩, decide_eq_true ⟨ho, hl⟩]
    exact ⟨some ⟨g', 0, none⟩, g', c, rfl, ownAt o, ownRow o, (World.ownsRow.lt o g' rfl).1, hb⟩
  · have hn : ¬ ((rtsOk n f g h && rOk x y z) = true ∧ (laidAll f g h (x, y, z) n).length ≤ 20) := fun h => by have := h.2; omega
    rw [rtdL, rtdOk, if_neg hn, decide_eq_false hn]
    exact ResR.nil hb
theorem ResR.no {w w' : World} {n : Nat} {f g h : Nat → Int} {x y z : Int} (ho : (rtsOk n f g h && rOk x y z) = false) (hb : Below w.heap.size w w') : ResR w w' (.returned (.tuple #[.slice none 0 0, .bool false])) (rtdL n f g h x y z) (rtdOk n f g h x y z) := by
  have hn : ¬ ((rtsOk n f g h && rOk x y z) = true ∧ (laidAll f g h (x, y, z) n).length ≤ 20) := fun h => by rw [ho] at h; exact absurd h.1 (by decide)
  rw [rtdL, rtdOk, if_neg hn, decide_eq_false hn]
  exact ResR.nil hb
theorem res13 (a : Option Addr) (n cap : Nat) (f g h : Nat → Int) (x y z : Int) (w : World) (hn : n ≤ maxLen) (H : RtsAt w a n f g h) :
    Calls Try.prog 11 #[.slice a n cap, .agg #[.int .i64 x, .int .i64 y, .int .i64 z]] w fun e w' => ResR w w' e (rtdL n f g h x y z) (rtdOk n f g h x y z) := by
  cases ho : (rtsOk n f g h && rOk x y z) with
  | true =>
    have h2 := ho
    rw [Bool.and_eq_true] at h2
    exact (specRouted_any a n cap f g h x y z w hn H h2.1 h2.2).mono fun e w' ⟨hb, hr⟩ => ResR.of ho hb hr
  | false => exact (specRouted_no a n cap f g h x y z w hn H ho).mono fun e w' ⟨he, hb⟩ => he ▸ ResR.no ho hb
theorem res15 (b off n cap : Nat) (f g h : Nat → Int) (x y z : Int) (w : World) (hcap : n ≤ cap) (hn : n ≤ maxLen) (H : RtsAt w (some ⟨b, off, none⟩) n f g h) :
    Calls Try.prog 10 #[.slice (some ⟨b, off, none⟩) n cap, .agg #[.int .i64 x, .int .i64 y, .int .i64 z]] w fun e w' => ResR w w' e (rtdL n f g h x y z) (rtdOk n f g h x y z) := by
  cases ho : (rtsOk n f g h && rOk x y z) with
  | true =>
    have h2 := ho
    rw [Bool.and_eq_true] at h2
    exact (implRouted_any b off n cap f g h x y z w hcap H h2.1 h2.2).mono fun e w' ⟨hb, hr⟩ => ResR.of ho hb hr
  | false => exact (implRouted_no (some ⟨b, off, none⟩) n cap f g h x y z w hn H ho).mono fun e w' ⟨he, hb⟩ => he ▸ ResR.no ho hb
end Go.Proofs.Ythlejmofhcgkdaa
