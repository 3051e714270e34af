/- The thread of a kernel and of a copy of it. -/
import Derived.Test.YtonpoakimpoojaaKX8
import Derived.Test.YtonpoakimpoojaaKD1
namespace Go.Proofs.Ytonpoakimpoojaa
open Go Go.RowKit Go.Deep Go.Maps

theorem ThrV.same.trans' {t u v : ThrV} (h : t.same u) (h' : t.same v) : u.same v := by
  obtain ⟨e1, e2, ⟨e3, e4, e5⟩, e6, ⟨e7, e8, e9⟩, ⟨e10, e11⟩, e12⟩ := h
  obtain ⟨i1, i2, ⟨i3, i4, i5⟩, i6, ⟨i7, i8, i9⟩, ⟨i10, i11⟩, i12⟩ := h'
  exact ⟨i1.trans e1.symm, i2.trans e2.symm, ⟨i3.trans e3.symm, i4.trans e4.symm, i5.trans e5.symm⟩, i6.trans e6.symm, ⟨i7.trans e7.symm, i8.trans e8.symm, i9.trans e9.symm⟩, ⟨i10.trans e10.symm, i11.trans e11.symm⟩, i12.trans e12.symm⟩
theorem ThrV.same.up {t u v : ThrV} (h : t.same u) (h' : u.same v) : t.same v := by
  obtain ⟨e1, e2, ⟨e3, e4, e5⟩, e6, ⟨e7, e8, e9⟩, ⟨e10, e11⟩, e12⟩ := h
  obtain ⟨i1, i2, ⟨i3, i4, i5⟩, i6, ⟨i7, i8, i9⟩, ⟨i10, i11⟩, i12⟩ := h'
  exact ⟨i1.trans e1, i2.trans e2, ⟨i3.trans e3, i4.trans e4, i5.trans e5⟩, i6.trans e6, ⟨i7.trans e7, i8.trans e8, i9.trans e9⟩, ⟨i10.trans e10, i11.trans e11⟩, i12.trans e12⟩
theorem thrL_same {k l : KerV} {x : Int} (h : k.same l) : thrL l x = thrL k x := by
  have e0 := kerOk_same h
  obtain ⟨h1, h2, _, _⟩ := h
  unfold thrL
  rw [e0, h1, findI_congr (fun i hi => (h2 i hi).1)]
theorem theT_same {k l : KerV} {x : Int} (h : k.same l) : (theT k x).same (theT l x) := by
  have e := thrL_same (x := x) h
  unfold theT
  rw [e]
  cases q : thrL k x with
  | none => exact ThrV.same.refl _
  | some i =>
    have hi : i < k.tn := by
      unfold thrL at q
      split at q
      · exact (findI_some q).1
      · cases q
    exact h.2.1 i hi
theorem theT_small {k : KerV} {x : Int} (h : k.small) : (theT k x).small := by
  unfold theT
  cases q : thrL k x with
  | none => exact ⟨by simp [zeroT], by simp [zeroT], by simp [zeroT]⟩
  | some i =>
    have hi : i < k.tn := by
      unfold thrL at q
      split at q
      · exact (findI_some q).1
      · cases q
    exact h.1.2 i hi
/-- the rows of a thread that a call made lie at B and beyond -/
theorem ThrV.new.since {B : Nat} {w : World} {g : ThrV} (h : g.new B w) : ∀ b, g.has b → B ≤ b := fun b hb => by
  rcases hb with ⟨h1, h2⟩ | ⟨h1, h2⟩ | ⟨h1, h2⟩
  · obtain ⟨b', _, _, e, hB, _⟩ := h.1.2 h1; rw [h2] at e; cases e; exact hB
  · obtain ⟨b', _, _, e, hB, _⟩ := h.2.1.2 h1; rw [h2] at e; cases e; exact hB
  · obtain ⟨b', _, _, e, hB, _⟩ := h.2.2.2 h1; rw [h2] at e; cases e; exact hB
theorem ThrV.new.lt {B : Nat} {w : World} {g : ThrV} (h : g.new B w) : ∀ b, g.has b → b < w.heap.size := fun b hb => by
  rcases hb with ⟨h1, h2⟩ | ⟨h1, h2⟩ | ⟨h1, h2⟩
  · obtain ⟨b', _, _, e, _, _, r⟩ := h.1.2 h1; rw [h2] at e; cases e; exact r.lt
  · obtain ⟨b', _, _, e, _, _, r⟩ := h.2.1.2 h1; rw [h2] at e; cases e; exact r.lt
  · obtain ⟨b', _, _, e, _, _, r⟩ := h.2.2.2 h1; rw [h2] at e; cases e; exact r.lt
/-- a box is no row of the thread's -/
theorem ThrV.new.box {B P t : Nat} {w : World} {g : ThrV} {cs : Array Value} (h : g.new B w) (hP : Blk w P (.cells cs t)) (h1 : t ≠ 112) (h2 : t ≠ 2) : ¬ g.has P := fun hb => by
  rcases hb with ⟨a, b⟩ | ⟨a, b⟩ | ⟨a, b⟩
  · exact h.1.ne hP h1 _ b a rfl
  · exact h.2.1.ne hP h1 _ b a rfl
  · exact h.2.2.ne hP h2 _ b a rfl
theorem ThrV.new.of {B : Nat} {w w' : World} {g : ThrV} (h : g.new B w) (hs : w.heap.size ≤ w'.heap.size) (hb : ∀ b, g.has b → w'.heap[b]? = w.heap[b]?) : g.new B w' :=
  ⟨h.1.of hs (fun b e hn => hb b (.inl ⟨hn, e⟩)), h.2.1.of hs (fun b e hn => hb b (.inr (.inl ⟨hn, e⟩))), h.2.2.of hs (fun b e hn => hb b (.inr (.inr ⟨hn, e⟩)))⟩
theorem ThrV.new.mk {B lo hi : Nat} {w w' : World} {g : ThrV} (h : g.new B w) (hm : Mk lo hi w w') (hb : ∀ b, g.has b → b < lo ∨ hi ≤ b) : g.new B w' :=
  h.of hm.size (fun b hh => hm.block b (h.lt b hh) (hb b hh))
theorem ThrV.new.at {B : Nat} {w : World} {g : ThrV} (h : g.new B w) : g.at w := ⟨h.1.1, h.2.1.1, h.2.2.1⟩
def ThrV.cells (g : ThrV) : Array Value := #[.int .i64 g.id, .int .i64 g.b1, .slice g.c1.a g.c1.n g.c1.k, .int .i64 g.b2, .slice g.c2.a g.c2.n g.c2.k, .slice g.own.a g.own.n g.own.k, .int .i64 g.made]
theorem ThrV.val_eq (g : ThrV) : g.val = .agg g.cells := rfl
end Go.Proofs.Ytonpoakimpoojaa
