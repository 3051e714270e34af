/- The object of a kernel and of a copy of it. -/
import Derived.Test.YtonpoakimpoojaaKO5
import Derived.Test.YtonpoakimpoojaaKO3
import Derived.Test.YtonpoakimpoojaaKD1
namespace Go.Proofs.Ytonpoakimpoojaa
open Go Go.RowKit Go.Deep Go.Maps

theorem ObjV.same.trans' {t u v : ObjV} (h : t.same u) (h' : t.same v) : u.same v := by
  obtain ⟨e1, e2, e3, e4, ⟨e5, e6, e7⟩, e8, ⟨e9, e10⟩, ⟨e11, e12⟩, e13, ⟨e14, e15, e16⟩⟩ := h
  obtain ⟨i1, i2, i3, i4, ⟨i5, i6, i7⟩, i8, ⟨i9, i10⟩, ⟨i11, i12⟩, i13, ⟨i14, i15, i16⟩⟩ := h'
  exact ⟨i1.trans e1.symm, i2.trans e2.symm, i3.trans e3.symm, i4.trans e4.symm, ⟨i5.trans e5.symm, i6.trans e6.symm, i7.trans e7.symm⟩, i8.trans e8.symm, ⟨i9.trans e9.symm, i10.trans e10.symm⟩, ⟨i11.trans e11.symm, i12.trans e12.symm⟩, i13.trans e13.symm, ⟨i14.trans e14.symm, i15.trans e15.symm, i16.trans e16.symm⟩⟩
theorem ObjV.same.up' {t u v : ObjV} (h : t.same u) (h' : u.same v) : t.same v := by
  obtain ⟨e1, e2, e3, e4, ⟨e5, e6, e7⟩, e8, ⟨e9, e10⟩, ⟨e11, e12⟩, e13, ⟨e14, e15, e16⟩⟩ := h
  obtain ⟨i1, i2, i3, i4, ⟨i5, i6, i7⟩, i8, ⟨i9, i10⟩, ⟨i11, i12⟩, i13, ⟨i14, i15, i16⟩⟩ := h'
  exact ⟨i1.trans e1, i2.trans e2, i3.trans e3, i4.trans e4, ⟨i5.trans e5, i6.trans e6, i7.trans e7⟩, i8.trans e8, ⟨i9.trans e9, i10.trans e10⟩, ⟨i11.trans e11, i12.trans e12⟩, i13.trans e13, ⟨i14.trans e14, i15.trans e15, i16.trans e16⟩⟩
theorem objL_same {k l : KerV} {x : Int} (h : k.same l) : objL l x = objL k x := by
  have e0 := kerOk_same h
  obtain ⟨_, _, h1, h2⟩ := h
  unfold objL
  rw [e0, h1, findI_congr (fun i hi => (h2 i hi).1)]
theorem theO_same {k l : KerV} {x : Int} (h : k.same l) : (theO k x).same (theO l x) := by
  have e := objL_same (x := x) h
  unfold theO
  rw [e]
  cases q : objL k x with
  | none => exact ObjV.same.refl _
  | some i =>
    have hi : i < k.on := by
      unfold objL at q
      split at q
      · exact (findI_some q).1
      · cases q
    exact h.2.2.2 i hi
theorem theO_small {k : KerV} {x : Int} (h : k.small) : (theO k x).small := by
  unfold theO
  cases q : objL k x with
  | none => exact ⟨by simp [zeroO], by simp [zeroO, ByteArray.size], ⟨by simp [zeroO], fun i h => by simp [zeroO] at h⟩, by simp [zeroO], by simp [zeroO]⟩
  | some i =>
    have hi : i < k.on := by
      unfold objL at q
      split at q
      · exact (findI_some q).1
      · cases q
    exact h.2.2 i hi
theorem ObjV.new.ownLt {B : Nat} {w : World} {g : ObjV} (h : g.new B w) {b : Nat} (hb : g.has b) : b < w.heap.size ∧ B ≤ b := by
  rcases hb with h1 | h1 | h1 | h1
  · exact ⟨(h.1.ownLt h1).1, (h.1.ownLt h1).2.1⟩
  · exact ⟨(h.2.1.ownLt h1).1, (h.2.1.ownLt h1).2.1⟩
  · exact ⟨(h.2.2.1.ownLt h1).1, (h.2.2.1.ownLt h1).2.1⟩
  · exact ⟨(h.2.2.2.ownLt h1).1, (h.2.2.2.ownLt h1).2.1⟩
theorem ObjV.new.since {B : Nat} {w : World} {g : ObjV} (h : g.new B w) : ∀ b, g.has b → B ≤ b := fun _ hb => (h.ownLt hb).2
theorem ObjV.new.lt {B : Nat} {w : World} {g : ObjV} (h : g.new B w) : ∀ b, g.has b → b < w.heap.size := fun _ hb => (h.ownLt hb).1
theorem ObjV.new.box {B P t : Nat} {w : World} {g : ObjV} {cs : Array Value} (h : g.new B w) (hP : Blk w P (.cells cs t)) (h1 : t ≠ 112) (h2 : t ≠ 2) (h3 : t ≠ 9) : ¬ g.has P := fun hb => by
  rcases hb with ⟨a, b⟩ | ⟨a, b⟩ | ⟨a, b⟩ | ⟨a, b⟩
  · exact h.1.ne hP h1 _ b a rfl
  · exact h.2.1.ne hP h3 _ b a rfl
  · exact h.2.2.1.ne hP h2 _ b a rfl
  · exact h.2.2.2.ne hP h1 _ b a rfl
theorem ObjV.new.of {B : Nat} {w w' : World} {g : ObjV} (h : g.new B w) (hs : w.heap.size ≤ w'.heap.size) (hb : ∀ b, g.has b → w'.heap[b]? = w.heap[b]?) : g.new B w' :=
  ⟨h.1.of hs (fun b e hn => hb b (.inl ⟨hn, e⟩)), h.2.1.of hs (fun b e hn => hb b (.inr (.inl ⟨hn, e⟩))), h.2.2.1.of hs (fun b e hn => hb b (.inr (.inr (.inl ⟨hn, e⟩)))), h.2.2.2.of hs (fun b e hn => hb b (.inr (.inr (.inr ⟨hn, e⟩))))⟩
theorem ObjV.new.mk {B lo hi : Nat} {w w' : World} {g : ObjV} (h : g.new B w) (hm : Mk lo hi w w') (hb : ∀ b, g.has b → b < lo ∨ hi ≤ b) : g.new B w' :=
  h.of hm.size (fun b hh => hm.block b (h.lt b hh) (hb b hh))
theorem ObjV.new.at {B : Nat} {w : World} {g : ObjV} (h : g.new B w) (hs : g.small) : g.at w := ⟨h.1.1, h.2.1.1, h.2.2.1.1, h.2.2.2.1, by have := hs.2.1; unfold maxLen; omega⟩
def ObjV.cells' (g : ObjV) : Array Value := #[.int .i64 g.id, .int .i64 g.kind, .int .i64 g.up, .int .i64 g.b1, .slice g.c1.a g.c1.n g.c1.k, .string g.data, .slice g.items.a g.items.n g.items.k, .slice g.own.a g.own.n g.own.k, .int .i64 g.b2, .slice g.c2.a g.c2.n g.c2.k]
theorem ObjV.val_eq (g : ObjV) : g.val = .agg g.cells' := rfl
end Go.Proofs.Ytonpoakimpoojaa
