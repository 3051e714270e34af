/- A kernel that a call made and may change: its lists of threads and objects, with all that lies in them. -/
import Derived.Test.YtkoinmddcnnipaaZ13
import Derived.Test.YtkoinmddcnnipaaKO2
namespace Go.Proofs.Ytkoinmddcnnipaa
open Go Go.RowKit Go.Deep Go.Maps
structure KeepsK (w w' : World) : Prop where
  size : w.heap.size ≤ w'.heap.size
  block : ∀ (k : Nat) (cs : Array Value) (t : TypeId), w.heap[k]? = some (Obj.cells cs t (0, 0)) → t ≠ 62 → t ≠ 38 → w'.heap[k]? = w.heap[k]?
theorem KeepsK.blk {w w' : World} {P t : Nat} {cs : Array Value} (h : KeepsK w w') (hb : Blk w P (.cells cs t)) (h1 : t ≠ 62) (h2 : t ≠ 38) : Blk w' P (.cells cs t) := (h.block P cs t hb h1 h2).trans hb
theorem KeepsK.of_below {w w' : World} (h : Below w.heap.size w w') : KeepsK w w' := ⟨h.size, fun k _ _ hk _ _ => h.block k (Array.getElem?_eq_some_iff.1 hk).1⟩
theorem keep_row {w : World} {b ty m : Nat} {F : Nat → Value} (hr : w.rowIs b ty m F) : ∃ cs, w.heap[b]? = some (.cells cs ty (0, 0)) := by
  obtain ⟨c, h1, _⟩ := hr
  exact ⟨c, h1⟩
theorem IntL.new.over {B : Nat} {w w' : World} {c : IntL} (h : c.new B w) (hs : w.heap.size ≤ w'.heap.size) (hb : ∀ b m F, w.rowIs b 2 m F → w'.heap[b]? = w.heap[b]?) : c.new B w' := h.of hs (fun b e hn => by
  obtain ⟨b', m, F, e', _, _, hr⟩ := h.2 hn
  rw [e] at e'
  cases e'
  exact hb b m F hr)
theorem StrL.new.over {B : Nat} {w w' : World} {c : StrL} (h : c.new B w) (hs : w.heap.size ≤ w'.heap.size) (hb : ∀ b m F, w.rowIs b 9 m F → w'.heap[b]? = w.heap[b]?) : c.new B w' := h.of hs (fun b e hn => by
  obtain ⟨b', m, F, e', _, _, hr⟩ := h.2 hn
  rw [e] at e'
  cases e'
  exact hb b m F hr)
structure KeepsL (w w' : World) : Prop where
  size : w.heap.size ≤ w'.heap.size
  block : ∀ (k : Nat) (cs : Array Value) (t : TypeId), w.heap[k]? = some (Obj.cells cs t (0, 0)) → t = 90 ∨ t = 2 ∨ t = 9 → w'.heap[k]? = w.heap[k]?
theorem KeepsK.l {w w' : World} (h : KeepsK w w') : KeepsL w w' := ⟨h.size, fun k cs t hk ht => h.block k cs t hk (by rcases ht with rfl | rfl | rfl <;> decide) (by rcases ht with rfl | rfl | rfl <;> decide)⟩
theorem CatL.new.keeps {B : Nat} {w w' : World} {c : CatL} (h : c.new B w) (k : KeepsL w w') : c.new B w' := h.over k.size (fun b m F hr => by obtain ⟨cs, hh⟩ := keep_row hr; exact k.block b cs _ hh (.inl rfl))
theorem IntL.new.keeps {B : Nat} {w w' : World} {c : IntL} (h : c.new B w) (k : KeepsL w w') : c.new B w' := h.over k.size (fun b m F hr => by obtain ⟨cs, hh⟩ := keep_row hr; exact k.block b cs _ hh (.inr (.inl rfl)))
theorem StrL.new.keeps {B : Nat} {w w' : World} {c : StrL} (h : c.new B w) (k : KeepsL w w') : c.new B w' := h.over k.size (fun b m F hr => by obtain ⟨cs, hh⟩ := keep_row hr; exact k.block b cs _ hh (.inr (.inr rfl)))
theorem ThrV.new.keeps {B : Nat} {w w' : World} {t : ThrV} (h : t.new B w) (k : KeepsL w w') : t.new B w' := ⟨h.1.keeps k, h.2.1.keeps k, h.2.2.keeps k⟩
theorem ObjV.new.keeps {B : Nat} {w w' : World} {t : ObjV} (h : t.new B w) (k : KeepsL w w') : t.new B w' := ⟨h.1.keeps k, h.2.1.keeps k, h.2.2.1.keeps k, h.2.2.2.keeps k⟩
theorem ThrV.new.low {B B' : Nat} {w : World} {t : ThrV} (h : t.new B w) (hB : B' ≤ B) : t.new B' w := ⟨h.1.low hB, h.2.1.low hB, h.2.2.low hB⟩
theorem ObjV.new.low {B B' : Nat} {w : World} {t : ObjV} (h : t.new B w) (hB : B' ≤ B) : t.new B' w := ⟨h.1.low hB, h.2.1.low hB, h.2.2.1.low hB, h.2.2.2.low hB⟩
theorem keeps_set {w : World} {P i t : Nat} {cs : Array Value} (hb : Blk w P (.cells cs t)) (ht : t ≠ 90 ∧ t ≠ 2 ∧ t ≠ 9) (v : Value) : KeepsL w (w.setCell ⟨P, i, none⟩ v) := by
  refine ⟨by rw [nblk_setCell]; exact Nat.le_refl _, fun k ck tk hk hh => blk_setCell_other _ _ _ _ (fun e => ?_)⟩
  dsimp only at e
  unfold Blk at hb
  rw [e] at hk
  rw [hk] at hb
  simp only [Option.some.injEq, Obj.cells.injEq, and_true] at hb
  rcases hh with h | h | h
  · exact ht.1 (hb.2.symm.trans h)
  · exact ht.2.1 (hb.2.symm.trans h)
  · exact ht.2.2 (hb.2.symm.trans h)
theorem OwnT.set {w : World} {B P i t : Nat} {v : Value} {l : List ThrV} {cs : Array Value} (h : OwnT w B v l) (hb : Blk w P (.cells cs t)) (ht : t ≠ 62) (u : Value) : OwnT (w.setCell ⟨P, i, none⟩ u) B v l := by
  refine ⟨h.1, ?_⟩
  rcases h.2 with hn | ⟨g, cap, cur, hv, hbg, hg, rest⟩
  · exact .inl hn
  · refine .inr ⟨g, cap, cur, hv, hbg, ?_, rest⟩
    have hh : Blk w g (.cells cur 62) := hg
    refine hh.other (fun e => ?_) u
    unfold Blk at hb hh
    rw [e, hh] at hb
    simp only [Option.some.injEq, Obj.cells.injEq, and_true] at hb
    exact ht hb.2.symm
theorem OwnOb.set {w : World} {B P i t : Nat} {v : Value} {l : List ObjV} {cs : Array Value} (h : OwnOb w B v l) (hb : Blk w P (.cells cs t)) (ht : t ≠ 38) (u : Value) : OwnOb (w.setCell ⟨P, i, none⟩ u) B v l := by
  refine ⟨h.1, ?_⟩
  rcases h.2 with hn | ⟨g, cap, cur, hv, hbg, hg, rest⟩
  · exact .inl hn
  · refine .inr ⟨g, cap, cur, hv, hbg, ?_, rest⟩
    have hh : Blk w g (.cells cur 38) := hg
    refine hh.other (fun e => ?_) u
    unfold Blk at hb hh
    rw [e, hh] at hb
    simp only [Option.some.injEq, Obj.cells.injEq, and_true] at hb
    exact ht hb.2.symm
structure KSt (w : World) (B : Nat) (vt vo : Value) (lt : List ThrV) (lo : List ObjV) : Prop where
  t : OwnT w B vt lt
  o : OwnOb w B vo lo
  tn : ∀ x ∈ lt, x.new B w
  on : ∀ x ∈ lo, x.new B w
  tc : ∀ x ∈ lt, x.own.n ≤ x.own.k ∧ x.own.k ≤ maxLen
  oc : ∀ x ∈ lo, x.items.n ≤ x.items.k ∧ x.items.k ≤ maxLen
theorem KSt.below {w w' : World} {B : Nat} {vt vo : Value} {lt : List ThrV} {lo : List ObjV} (h : KSt w B vt vo lt lo) (hb : Below w.heap.size w w') : KSt w' B vt vo lt lo :=
  ⟨h.t.below hb, h.o.below hb, fun x hx => (h.tn x hx).keeps (KeepsK.of_below hb).l, fun x hx => (h.on x hx).keeps (KeepsK.of_below hb).l, h.tc, h.oc⟩
theorem KSt.base {w : World} {B B' : Nat} {vt vo : Value} {lt : List ThrV} {lo : List ObjV} (h : KSt w B vt vo lt lo) (hB : B' ≤ B) : KSt w B' vt vo lt lo := ⟨h.t.base hB, h.o.base hB, fun x hx => (h.tn x hx).low hB, fun x hx => (h.on x hx).low hB, h.tc, h.oc⟩
theorem KSt.set {w : World} {B P i t : Nat} {vt vo : Value} {lt : List ThrV} {lo : List ObjV} {cs : Array Value} (h : KSt w B vt vo lt lo) (hb : Blk w P (.cells cs t)) (ht : t = 27 ∨ t = 77) (u : Value) : KSt (w.setCell ⟨P, i, none⟩ u) B vt vo lt lo := by
  have k := keeps_set (i := i) hb (by rcases ht with rfl | rfl <;> decide) u
  exact ⟨h.t.set hb (by rcases ht with rfl | rfl <;> decide) u, h.o.set hb (by rcases ht with rfl | rfl <;> decide) u, fun x hx => (h.tn x hx).keeps k, fun x hx => (h.on x hx).keeps k, h.tc, h.oc⟩
theorem ThrV.new.at {B : Nat} {w : World} {t : ThrV} (h : t.new B w) : t.at w := ⟨h.1.1, h.2.1.1, h.2.2.1⟩
def kOf (ta : Option Addr) (ca : Nat) (oa : Option Addr) (co : Nat) (lt : List ThrV) (lo : List ObjV) : KerV := ⟨ta, lt.length, ca, atOwnT lt, oa, lo.length, co, atOwnOb lo⟩
theorem KSt.at {w : World} {B ca co : Nat} {ta oa : Option Addr} {lt : List ThrV} {lo : List ObjV} (h : KSt w B (.slice ta lt.length ca) (.slice oa lo.length co) lt lo) (h1 : lt.length ≤ 1048576) (h2 : lo.length ≤ 1048576) (h3 : ∀ x ∈ lo, x.data.size ≤ maxLen) : (kOf ta ca oa co lt lo).at w :=
  ⟨Nat.le_trans h1 (by unfold maxLen; omega), Nat.le_trans h2 (by unfold maxLen; omega), h.t.lies (fun x hx => (h.tn x hx).at), h.o.lies (fun x hx => ⟨(h.on x hx).1.1, (h.on x hx).2.1.1, (h.on x hx).2.2.1.1, (h.on x hx).2.2.2.1, h3 x hx⟩)⟩
theorem KSt.addT {w w' : World} {B : Nat} {vt vo vt' : Value} {lt : List ThrV} {lo : List ObjV} {x : ThrV} (h : KSt w B vt vo lt lo) (ho : OwnT w' B vt' (lt ++ [x])) (hg : w.grownBy w' vt.ownBlock) (hx : x.new B w) (hc : x.own.n ≤ x.own.k ∧ x.own.k ≤ maxLen) : KSt w' B vt' vo (lt ++ [x]) lo ∧ KeepsK w w' := by
  have kk : KeepsK w w' := ⟨hg.size, fun k cs t hk h1 _ => hg.block k (Array.getElem?_eq_some_iff.1 hk).1 (fun e => by
    rcases h.t.2 with ⟨hv, _⟩ | ⟨g, cap, cur, hv, _, hgg, _⟩
    · rw [hv] at e; cases e
    · rw [hv] at e
      cases e
      rw [hgg] at hk
      simp only [Option.some.injEq, Obj.cells.injEq, and_true] at hk
      exact h1 hk.2.symm)⟩
  refine ⟨⟨ho, ?_, fun y hy => ?_, fun y hy => (h.on y hy).keeps kk.l, fun y hy => ?_, h.oc⟩, kk⟩
  · refine ⟨h.o.1, ?_⟩
    rcases h.o.2 with hn | ⟨g, cap, cur, hv, hbg, hgg, rest⟩
    · exact .inl hn
    · refine .inr ⟨g, cap, cur, hv, hbg, ?_, rest⟩
      refine (hg.block g (Array.getElem?_eq_some_iff.1 hgg).1 (fun e => ?_)).trans hgg
      rcases h.t.2 with ⟨hv, _⟩ | ⟨g', cap', cur', hv', _, hgg', _⟩
      · rw [hv] at e; cases e
      · rw [hv'] at e
        cases e
        rw [hgg'] at hgg
        simp at hgg
  · rcases List.mem_append.1 hy with hy | hy
    · exact (h.tn y hy).keeps kk.l
    · rw [List.mem_singleton.1 hy]; exact hx.keeps kk.l
  · rcases List.mem_append.1 hy with hy | hy
    · exact h.tc y hy
    · rw [List.mem_singleton.1 hy]; exact hc
theorem KSt.addO {w w' : World} {B : Nat} {vt vo vo' : Value} {lt : List ThrV} {lo : List ObjV} {x : ObjV} (h : KSt w B vt vo lt lo) (ho : OwnOb w' B vo' (lo ++ [x])) (hg : w.grownBy w' vo.ownBlock) (hx : x.new B w) (hc : x.items.n ≤ x.items.k ∧ x.items.k ≤ maxLen) : KSt w' B vt vo' lt (lo ++ [x]) ∧ KeepsK w w' := by
  have kk : KeepsK w w' := ⟨hg.size, fun k cs t hk _ h1 => hg.block k (Array.getElem?_eq_some_iff.1 hk).1 (fun e => by
    rcases h.o.2 with ⟨hv, _⟩ | ⟨g, cap, cur, hv, _, hgg, _⟩
    · rw [hv] at e; cases e
    · rw [hv] at e
      cases e
      rw [hgg] at hk
      simp only [Option.some.injEq, Obj.cells.injEq, and_true] at hk
      exact h1 hk.2.symm)⟩
  refine ⟨⟨?_, ho, fun y hy => (h.tn y hy).keeps kk.l, fun y hy => ?_, h.tc, fun y hy => ?_⟩, kk⟩
  · refine ⟨h.t.1, ?_⟩
    rcases h.t.2 with hn | ⟨g, cap, cur, hv, hbg, hgg, rest⟩
    · exact .inl hn
    · refine .inr ⟨g, cap, cur, hv, hbg, ?_, rest⟩
      refine (hg.block g (Array.getElem?_eq_some_iff.1 hgg).1 (fun e => ?_)).trans hgg
      rcases h.o.2 with ⟨hv, _⟩ | ⟨g', cap', cur', hv', _, hgg', _⟩
      · rw [hv] at e; cases e
      · rw [hv'] at e
        cases e
        rw [hgg'] at hgg
        simp at hgg
  · rcases List.mem_append.1 hy with hy | hy
    · exact (h.on y hy).keeps kk.l
    · rw [List.mem_singleton.1 hy]; exact hx.keeps kk.l
  · rcases List.mem_append.1 hy with hy | hy
    · exact h.oc y hy
    · rw [List.mem_singleton.1 hy]; exact hc
end Go.Proofs.Ytkoinmddcnnipaa
