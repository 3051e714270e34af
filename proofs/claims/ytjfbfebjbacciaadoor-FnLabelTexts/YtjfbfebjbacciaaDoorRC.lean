/- The reader's label: what is kept while it is drawn. -/
import Derived.Test.YtjfbfebjbacciaaDoorRB
import Derived.Test.YtjfbfebjbacciaaDoorJL
namespace Go.Proofs.YtjfbfebjbacciaaDoor
open Go.RowKit Go.Deep Go.Maps

theorem cell_far {W : World} {P b o i : Nat} {v x : Value} (hne : b ≠ P) (h : W.cell? ⟨b, o, none⟩ = some x) : (W.setCell ⟨P, i, none⟩ v).cell? ⟨b, o, none⟩ = some x :=
  (World.cell?_of_block (w := W) (blk_setCell_other _ _ _ _ (by dsimp only; exact hne))).trans h

theorem Blk.set0 {W : World} {P t : Nat} {x y : Value} (h : Blk W P (.cells #[x, y] t)) (v : Value) : Blk (W.setCell ⟨P, 0, none⟩ v) P (.cells #[v, y] t) := by
  unfold Blk at *
  simp [World.setCell, Array.getElem?_modify, h]

theorem grown_below {a b c : World} {P : Nat} (h : a.grownBy b (some P)) (k : Below b.heap.size b c) : a.grownBy c (some P) :=
  ⟨k.os.trans h.os, k.tape.trans h.tape, k.output.trans h.output, Nat.le_trans h.size k.size, fun j hj hne => (k.block j (Nat.lt_of_lt_of_le hj h.size)).trans (h.block j hj hne)⟩

/-- a label is being drawn: it lies at block Z, its categories in memory of its own -/
structure LSt (w0 w W : World) (rb : Nat) (a : Option Addr) (n cap : Nat) (Z : Nat) (base : Int) (va : Option Addr) (vc : Nat) (l : List (Int × Int)) : Prop where
  z : Blk W Z (.cells #[.int .i64 base, .slice va l.length vc] 26)
  r : Rd w0 W rb a n cap
  o : OwnList W (Z + 1) (.slice va l.length vc) l
  g : w.grownBy W (some rb)

section
variable {w0 w W W' : World} {rb : Nat} {a : Option Addr} {n cap Z : Nat} {base : Int} {va : Option Addr} {vc : Nat} {l : List (Int × Int)}

theorem LSt.below (h : LSt w0 w W rb a n cap Z base va vc l) (hb : Below W.heap.size W W') : LSt w0 w W' rb a n cap Z base va vc l :=
  ⟨h.z.below hb, h.r.below hb, OwnList.below h.o hb, grown_below h.g hb⟩

theorem LSt.call (h : LSt w0 w W rb a n cap Z base va vc l) (hz : rb < Z) (r : Rd w0 W' rb a n cap) (hg : W.grownBy W' (some rb)) : LSt w0 w W' rb a n cap Z base va vc l :=
  ⟨h.z.grown hg (by simp; omega), r, World.ownsRow.kept h.o hg (Or.inr (fun e => by have := (World.ownsRow.lt h.o _ e).1; omega)), grown_pair h.g hg⟩

theorem grown_over {x y : World} {P Z : Nat} (h : x.grownBy y (some P)) (hz : x.heap.size ≤ Z) (i : Nat) (v : Value) : x.grownBy (y.setCell ⟨Z, i, none⟩ v) (some P) :=
  ⟨h.os, h.tape, h.output, by rw [nblk_setCell]; exact h.size, fun j hj hne => (blk_setCell_other _ _ _ _ (by dsimp only; omega)).trans (h.block j hj hne)⟩

theorem Rd.set (h : Rd w0 W rb a n cap) (hz : rb < Z) (i : Nat) (v : Value) : Rd w0 (W.setCell ⟨Z, i, none⟩ v) rb a n cap := by
  obtain ⟨E, le, by', hn, p, hp, hB⟩ := h
  exact ⟨E.setCell (by dsimp only; omega) _, le, by', hn, p, hp, (blk_setCell_other _ _ _ _ (by dsimp only; omega)).trans hB⟩

theorem LSt.put {l' : List (Int × Int)} {ua : Option Addr} {uc : Nat} (h : LSt w0 w W rb a n cap Z base va vc l) (hz : rb < Z) (hw : w.heap.size ≤ Z) (o' : OwnList W (Z + 1) (.slice ua l'.length uc) l') :
    LSt w0 w ((W.setCell ⟨Z, 0, none⟩ (.int .i64 base)).setCell ⟨Z, 1, none⟩ (.slice ua l'.length uc)) rb a n cap Z base ua uc l' :=
  ⟨(h.z.set0 _).set1 _, (h.r.set hz _ _).set hz _ _, OwnList.set (OwnList.set o' (by omega) _ _) (by omega) _ _, grown_over (grown_over h.g hw _ _) hw _ _⟩

theorem LSt.put0 (h : LSt w0 w W rb a n cap Z base va vc l) (hz : rb < Z) (hw : w.heap.size ≤ Z) (b' : Int) :
    LSt w0 w (W.setCell ⟨Z, 0, none⟩ (.int .i64 b')) rb a n cap Z b' va vc l :=
  ⟨h.z.set0 _, h.r.set hz _ _, OwnList.set h.o (by omega) _ _, grown_over h.g hw _ _⟩

theorem LSt.put1 {l' : List (Int × Int)} {ua : Option Addr} {uc : Nat} (h : LSt w0 w W rb a n cap Z base va vc l) (hz : rb < Z) (hw : w.heap.size ≤ Z) (o' : OwnList W (Z + 1) (.slice ua l'.length uc) l') :
    LSt w0 w (W.setCell ⟨Z, 1, none⟩ (.slice ua l'.length uc)) rb a n cap Z base ua uc l' :=
  ⟨h.z.set1 _, h.r.set hz _ _, OwnList.set o' (by omega) _ _, grown_over h.g hw _ _⟩

theorem LSt.frame {row : Option Nat} (h : LSt w0 w W rb a n cap Z base va vc l) (hz : rb < Z) (hw : w.heap.size ≤ Z) (hg : W.grownBy W' row) (hr : ∀ j, row = some j → Z + 1 ≤ j) :
    Blk W' Z (.cells #[.int .i64 base, .slice va l.length vc] 26) ∧ Rd w0 W' rb a n cap ∧ w.grownBy W' (some rb) := by
  refine ⟨h.z.grown hg (fun e => by have := hr Z e.symm; omega), ?_, grown_trans h.g hg (fun j e => by have := hr j e; omega)⟩
  obtain ⟨E, le, by', hn, p, hp, hB⟩ := h.r
  exact ⟨E.grown hg E.size (fun j e => by have := hr j e; omega), le, by', hn, p, hp, hB.grown hg (fun e => by have := hr rb e.symm; omega)⟩
end

/-- the categories that a drawn label takes -/
def litv (x : Nat) : Int := if x = 0 then 1001 else if x = 1 then 2001 else if x = 2 then 3001 else 5
theorem lit_cell {W : World} {q : Nat} (h : Blk W q (.cells #[.int .i64 1001, .int .i64 2001, .int .i64 3001, .int .i64 5] 2)) {x : Nat} (hx : x < 4) : W.cell? ⟨q, x, none⟩ = some (.int .i64 (litv x)) := by
  unfold Blk at h
  have : x = 0 ∨ x = 1 ∨ x = 2 ∨ x = 3 := by omega
  rcases this with rfl | rfl | rfl | rfl <;> simp [World.cell?, h, litv]

section
variable {P : Program} {ops : Array Oper} {Q : Exit → Act → World → Prop} {md : Region.Mode} {S : World → Prop} {n : Nat}
theorem AnyL.two {i j : Nat} {oi oj : Oper} {f : Nat} {L : Array Bool} {a : Act} {w : World} (hi : ops[i]? = some oi) (hj : ops[j]? = some oj) (hr : Region.ready md ops L = [i, j])
    (h1 : ∀ K' : Act → World → Prop, Hid (∀ a w, (i ≠ n → S w) → AnyL P md ops Q S n f (L.setIfInBounds i true) a w → K' a w) → if Region.wanted oi (yielded ops a.tmps) = true then Oper.wp P oi a w K' Q else K' (a.put oi.dst undef) w)
    (h2 : ∀ K' : Act → World → Prop, Hid (∀ a w, (j ≠ n → S w) → AnyL P md ops Q S n f (L.setIfInBounds j true) a w → K' a w) → if Region.wanted oj (yielded ops a.tmps) = true then Oper.wp P oj a w K' Q else K' (a.put oj.dst undef) w) : AnyL P md ops Q S n (f + 1) L a w :=
  ⟨fun e => absurd (hr.symm.trans e) (by simp), fun k hk => by
    rw [hr] at hk
    have : k = i ∨ k = j := by simpa using hk
    rcases this with rfl | rfl
    · exact wpOp_step hi (fun K' hK => h1 K' (fun a w q1 q2 => hK a w ⟨q1, q2⟩))
    · exact wpOp_step hj (fun K' hK => h2 K' (fun a w q1 q2 => hK a w ⟨q1, q2⟩))⟩
end
end Go.Proofs.YtjfbfebjbacciaaDoor
