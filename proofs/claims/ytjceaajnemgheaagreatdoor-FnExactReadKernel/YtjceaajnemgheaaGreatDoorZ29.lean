/- A kernel that a call made and may change: its lists of threads and objects, with all that lies in them. -/
import Derived.Test.YtjceaajnemgheaaGreatDoorZ16
import Derived.Test.YtjceaajnemgheaaGreatDoorZ28
import Derived.Test.YtjceaajnemgheaaGreatDoorZ27
namespace Go.Proofs.YtjceaajnemgheaaGreatDoor
open Go Go.RowKit Go.Deep Go.Maps
structure KeepsK (w w' : World) : Prop where
  size : w.heap.size ≤ w'.heap.size
  block : ∀ (k : Nat) (cs : Array Value) (t : TypeId), w.heap[k]? = some (Obj.cells cs t (0, 0)) → t ≠ 41 → t ≠ 45 → w'.heap[k]? = w.heap[k]?
theorem KeepsK.blk {w w' : World} {P t : Nat} {cs : Array Value} (h : KeepsK w w') (hb : Blk w P (.cells cs t)) (h1 : t ≠ 41) (h2 : t ≠ 45) : Blk w' P (.cells cs t) := (h.block P cs t hb h1 h2).trans hb
theorem KeepsK.of_below {w w' : World} (h : Below w.heap.size w w') : KeepsK w w' := ⟨h.size, fun k _ _ hk _ _ => h.block k (Array.getElem?_eq_some_iff.1 hk).1⟩
theorem keep_row {w : World} {b ty m : Nat} {F : Nat → Value} (hr : w.rowIs b ty m F) : ∃ cs, w.heap[b]? = some (.cells cs ty (0, 0)) := by
  obtain ⟨c, h1, _⟩ := hr
  exact ⟨c, h1⟩
theorem IntL.new.over {B : Nat} {w w' : World} {c : IntL} (h : c.new B w) (hs : w.heap.size ≤ w'.heap.size) (hb : ∀ b m F, w.rowIs b 2 m F → w'.heap[b]? = w.heap[b]?) : c.new B w' := h.of hs (fun b e hn => by
  obtain ⟨b', m, F, e', _, _, hr⟩ := h.2 hn
  rw [e] at e'
  cases e'
  exact hb b m F hr)
theorem StrL.new.over {B : Nat} {w w' : World} {c : StrL} (h : c.new B w) (hs : w.heap.size ≤ w'.heap.size) (hb : ∀ b m F, w.rowIs b 9 m F → w'.heap[b]? = w.heap[b]?) : c.new B w' := h.of hs (fun b e hn => by
  obtain ⟨b', m, F, e', _, _, hr⟩ := h.2 hn
  rw [e] at e'
  cases e'
  exact hb b m F hr)
structure KeepsL (w w' : World) : Prop where
  size : w.heap.size ≤ w'.heap.size
  block : ∀ (k : Nat) (cs : Array Value) (t : TypeId), w.heap[k]? = some (Obj.cells cs t (0, 0)) → t = 58 ∨ t = 2 ∨ t = 9 → w'.heap[k]? = w.heap[k]?
theorem KeepsK.l {w w' : World} (h : KeepsK w w') : KeepsL w w' := ⟨h.size, fun k cs t hk ht => h.block k cs t hk (by rcases ht with rfl | rfl | rfl <;> decide) (by rcases ht with rfl | rfl | rfl <;> decide)⟩
theorem CatL.new.keeps {B : Nat} {w w' : World} {c : CatL} (h : c.new B w) (k : KeepsL w w') : c.new B w' := h.over k.size (fun b m F hr => by obtain ⟨cs, hh⟩ := keep_row hr; exact k.block b cs _ hh (.inl rfl))
theorem IntL.new.keeps {B : Nat} {w w' : World} {c : IntL} (h : c.new B w) (k : KeepsL w w') : c.new B w' := h.over k.size (fun b m F hr => by obtain ⟨cs, hh⟩ := keep_row hr; exact k.block b cs _ hh (.inr (.inl rfl)))
theorem StrL.new.keeps {B : Nat} {w w' : World} {c : StrL} (h : c.new B w) (k : KeepsL w w') : c.new B w' := h.over k.size (fun b m F hr => by obtain ⟨cs, hh⟩ := keep_row hr; exact k.block b cs _ hh (.inr (.inr rfl)))
theorem ThrV.new.keeps {B : Nat} {w w' : World} {t : ThrV} (h : t.new B w) (k : KeepsL w w') : t.new B w' := ⟨h.1.keeps k, h.2.1.keeps k, h.2.2.keeps k⟩
theorem ObjV.new.keeps {B : Nat} {w w' : World} {t : ObjV} (h : t.new B w) (k : KeepsL w w') : t.new B w' := ⟨h.1.keeps k, h.2.1.keeps k, h.2.2.1.keeps k, h.2.2.2.keeps k⟩
theorem ObjV.new.low {B B' : Nat} {w : World} {t : ObjV} (h : t.new B w) (hB : B' ≤ B) : t.new B' w := ⟨h.1.low hB, h.2.1.low hB, h.2.2.1.low hB, h.2.2.2.low hB⟩
theorem keeps_set {w : World} {P i t : Nat} {cs : Array Value} (hb : Blk w P (.cells cs t)) (ht : t ≠ 58 ∧ t ≠ 2 ∧ t ≠ 9) (v : Value) : KeepsL w (w.setCell ⟨P, i, none⟩ v) := by
  refine ⟨by rw [nblk_setCell]; exact Nat.le_refl _, fun k ck tk hk hh => blk_setCell_other _ _ _ _ (fun e => ?_)⟩
  dsimp only at e
  unfold Blk at hb
  rw [e] at hk
  rw [hk] at hb
  simp only [Option.some.injEq, Obj.cells.injEq, and_true] at hb
  rcases hh with h | h | h
  · exact ht.1 (hb.2.symm.trans h)
  · exact ht.2.1 (hb.2.symm.trans h)
  · exact ht.2.2 (hb.2.symm.trans h)
theorem OwnT.set {w : World} {B P i t : Nat} {v : Value} {l : List ThrV} {cs : Array Value} (h : OwnT w B v l) (hb : Blk w P (.cells cs t)) (ht : t ≠ 41) (u : Value) : OwnT (w.setCell ⟨P, i, none⟩ u) B v l := by
  refine ⟨h.1, ?_⟩
  rcases h.2 with hn | ⟨g, cap, cur, hv, hbg, hg, rest⟩
  · exact .inl hn
  · refine .inr ⟨g, cap, cur, hv, hbg, ?_, rest⟩
    have hh : Blk w g (.cells cur 41) := hg
    refine hh.other (fun e => ?_) u
    unfold Blk at hb hh
    rw [e, hh] at hb
    simp only [Option.some.injEq, Obj.cells.injEq, and_true] at hb
    exact ht hb.2.symm
theorem OwnOb.set {w : World} {B P i t : Nat} {v : Value} {l : List ObjV} {cs : Array Value} (h : OwnOb w B v l) (hb : Blk w P (.cells cs t)) (ht : t ≠ 45) (u : Value) : OwnOb (w.setCell ⟨P, i, none⟩ u) B v l := by
  refine ⟨h.1, ?_⟩
  rcases h.2 with hn | ⟨g, cap, cur, hv, hbg, hg, rest⟩
  · exact .inl hn
  · refine .inr ⟨g, cap, cur, hv, hbg, ?_, rest⟩
    have hh : Blk w g (.cells cur 45) := hg
    refine hh.other (fun e => ?_) u
    unfold Blk at hb hh
    rw [e, hh] at hb
    simp only [Option.some.injEq, Obj.cells.injEq, and_true] at hb
    exact ht hb.2.symm
structure KSt (w : World) (B : Nat) (vt vo : Value) (lt : List ThrV) (lo : List ObjV) : Prop where
  t : OwnT w B vt lt
  o : OwnOb w B vo lo
  tn : ∀ x ∈ lt, x.new B w
  on : ∀ x ∈ lo, x.new B w
  tc : ∀ x ∈ lt, x.own.n ≤ x.own.k ∧ x.own.k ≤ maxLen
  oc : ∀ x ∈ lo, x.items.n ≤ x.items.k ∧ x.items.k ≤ maxLen
theorem KSt.below {w w' : World} {B : Nat} {vt vo : Value} {lt : List ThrV} {lo : List ObjV} (h : KSt w B vt vo lt lo) (hb : Below w.heap.size w w') : KSt w' B vt vo lt lo :=
  ⟨h.t.below hb, h.o.below hb, fun x hx => (h.tn x hx).keeps (KeepsK.of_below hb).l, fun x hx => (h.on x hx).keeps (KeepsK.of_below hb).l, h.tc, h.oc⟩
theorem KSt.base {w : World} {B B' : Nat} {vt vo : Value} {lt : List ThrV} {lo : List ObjV} (h : KSt w B vt vo lt lo) (hB : B' ≤ B) : KSt w B' vt vo lt lo := ⟨h.t.base hB, h.o.base hB, fun x hx => (h.tn x hx).low hB, fun x hx => (h.on x hx).low hB, h.tc, h.oc⟩
theorem ThrV.new.at {B : Nat} {w : World} {t : ThrV} (h : t.new B w) : t.at w := ⟨h.1.1, h.2.1.1, h.2.2.1⟩
def kOf (ta : Option Addr) (ca : Nat) (oa : Option Addr) (co : Nat) (lt : List ThrV) (lo : List ObjV) : KerV := ⟨ta, lt.length, ca, atOwnT lt, oa, lo.length, co, atOwnOb lo⟩
theorem KSt.at {w : World} {B ca co : Nat} {ta oa : Option Addr} {lt : List ThrV} {lo : List ObjV} (h : KSt w B (.slice ta lt.length ca) (.slice oa lo.length co) lt lo) (h1 : lt.length ≤ 1048576) (h2 : lo.length ≤ 1048576) (h3 : ∀ x ∈ lo, x.data.size ≤ maxLen) : (kOf ta ca oa co lt lo).at w :=
  ⟨Nat.le_trans h1 (by unfold maxLen; omega), Nat.le_trans h2 (by unfold maxLen; omega), h.t.lies (fun x hx => (h.tn x hx).at), h.o.lies (fun x hx => ⟨(h.on x hx).1.1, (h.on x hx).2.1.1, (h.on x hx).2.2.1.1, (h.on x hx).2.2.2.1, h3 x hx⟩)⟩
theorem KSt.addT {w w' : World} {B : Nat} {vt vo vt' : Value} {lt : List ThrV} {lo : List ObjV} {x : ThrV} (h : KSt w B vt vo lt lo) (ho : OwnT w' B vt' (lt ++ [x])) (hg : w.grownBy w' vt.ownBlock) (hx : x.new B w) (hc : x.own.n ≤ x.own.k ∧ x.own.k ≤ maxLen) : KSt w' B vt' vo (lt ++ [x]) lo ∧ KeepsK w w' := by
  have kk : KeepsK w w' := ⟨hg.size, fun k cs t hk h1 _ => hg.block k (Array.getElem?_eq_some_iff.1 hk).1 (fun e => by
    rcases h.t.2 with ⟨hv, _⟩ | ⟨g, cap, cur, hv, _, hgg, _⟩
    · rw [hv] at e; cases e
    · rw [hv] at e
      cases e
      rw [hgg] at hk
      simp only [Option.some.injEq, Obj.cells.injEq, and_true] at hk
      exact h1 hk.2.symm)⟩
  refine ⟨⟨ho, ?_, fun y hy => ?_, fun y hy => (h.on y hy).keeps kk.l, fun y hy => ?_, h.oc⟩, kk⟩
  · refine ⟨h.o.1, ?_⟩
    rcases h.o.2 with hn | ⟨g, cap, cur, hv, hbg, hgg, rest⟩
    · exact .inl hn
    · refine .inr ⟨g, cap, cur, hv, hbg, ?_, rest⟩
      refine (hg.block g (Array.getElem?_eq_some_iff.1 hgg).1 (fun e => ?_)).trans hgg
      rcases h.t.2 with ⟨hv, _⟩ | ⟨g', cap', cur', hv', _, hgg', _⟩
      · rw [hv] at e; cases e
      · rw [hv'] at e
        cases e
        rw [hgg'] at hgg
        simp at hgg
  · rcases List.mem_append.1 hy with hy | hy
    · exact (h.tn y hy).keeps kk.l
    · rw [List.mem_singleton.1 hy]; exact hx.keeps kk.l
  · rcases List.mem_append.1 hy with hy | hy
    · exact h.tc y hy
    · rw [List.mem_singleton.1 hy]; exact hc
theorem KSt.addO {w w' : World} {B : Nat} {vt vo vo' : Value} {lt : List ThrV} {lo : List ObjV} {x : ObjV} (h : KSt w B vt vo lt lo) (ho : OwnOb w' B vo' (lo ++ [x])) (hg : w.grownBy w' vo.ownBlock) (hx : x.new B w) (hc : x.items.n ≤ x.items.k ∧ x.items.k ≤ maxLen) : KSt w' B vt vo' lt (lo ++ [x]) ∧ KeepsK w w' := by
  have kk : KeepsK w w' := ⟨hg.size, fun k cs t hk _ h1 => hg.block k (Array.getElem?_eq_some_iff.1 hk).1 (fun e => by
    rcases h.o.2 with ⟨hv, _⟩ | ⟨g, cap, cur, hv, _, hgg, _⟩
    · rw [hv] at e; cases e
    · rw [hv] at e
      cases e
      rw [hgg] at hk
      simp only [Option.some.injEq, Obj.cells.injEq, and_true] at hk
      exact h1 hk.2.symm)⟩
  refine ⟨⟨?_, ho, fun y hy => (h.tn y hy).keeps kk.l, fun y hy => ?_, h.tc, fun y hy => ?_⟩, kk⟩
  · refine ⟨h.t.1, ?_⟩
    rcases h.t.2 with hn | ⟨g, cap, cur, hv, hbg, hgg, rest⟩
    · exact .inl hn
    · refine .inr ⟨g, cap, cur, hv, hbg, ?_, rest⟩
      refine (hg.block g (Array.getElem?_eq_some_iff.1 hgg).1 (fun e => ?_)).trans hgg
      rcases h.o.2 with ⟨hv, _⟩ | ⟨g', cap', cur', hv', _, hgg', _⟩
      · rw [hv] at e; cases e
      · rw [hv'] at e
        cases e
        rw [hgg'] at hgg
        simp at hgg
  · rcases List.mem_append.1 hy with hy | hy
    · exact (h.on y hy).keeps kk.l
    · rw [List.mem_singleton.1 hy]; exact hx.keeps kk.l
  · rcases List.mem_append.1 hy with hy | hy
    · exact h.oc y hy
    · rw [List.mem_singleton.1 hy]; exact hc
end Go.Proofs.YtjceaajnemgheaaGreatDoor
namespace Go.Proofs.YtjceaajnemgheaaGreatDoor
open Go Go.RowKit Go.Deep Go.Maps

def scells (l : List (List UInt8)) : List Value := l.map fun x => Value.string (bytesOf x)
def OwnS (w : World) (B : Nat) (v : Value) (l : List (List UInt8)) : Prop := w.ownsRow B 9 1 v l.length (scells l)
theorem OwnS.below {w w' : World} {B : Nat} {v : Value} {l : List (List UInt8)} (h : OwnS w B v l) (hb : Below w.heap.size w w') : OwnS w' B v l := by
  refine ⟨h.1, ?_⟩
  rcases h.2 with hn | ⟨g, cap, cur, hv, hbg, hg, rest⟩
  · exact .inl hn
  · exact .inr ⟨g, cap, cur, hv, hbg, (hb.block g (Array.getElem?_eq_some_iff.1 hg).1).trans hg, rest⟩
theorem OwnS.nil (w : World) (B : Nat) : OwnS w B (.slice none 0 0) [] := World.ownsRow_nil _ _ _ _
theorem OwnS.alloc {w : World} {B : Nat} {v : Value} {l : List (List UInt8)} (h : OwnS w B v l) (o : Obj) : OwnS (w.alloc o) B v l := World.ownsRow.alloc h o
theorem OwnS.made (w : World) (B : Nat) (hb : B ≤ w.heap.size) : OwnS (w.alloc (.cells #[] 9)) B (.slice (some ⟨w.heap.size, 0, none⟩) 0 0) [] := World.ownsRow_made w #[] 0 hb (Nat.zero_le _) rfl
theorem one_str {w : World} (x : ByteArray) : LiesC (w.alloc (.cells #[.string x] 9)) (some ⟨w.heap.size, 0, none⟩) 1 [.string x] := fun _ =>
  ⟨w.heap.size, 0, rfl, by simp, fun j u hu => by
    cases j with
    | zero => simp at hu; subst hu; simp
    | succ j => simp at hu⟩
theorem wpList_append_str {ops : Array Oper} {rest : List Oper} {o : Oper} {a : Act} {Q : Exit → Act → World → Prop} (w : World) (hgd : o.guard = none) (s x : Operand)
    (ho : o.op = .call { callee := .builtin .append, args := #[s, x], argTypes := #[33, 33] })
    (B : Nat) (v : Value) (l : List (List UInt8)) (hs : a.eval s = v) (hown : OwnS w B v l) (ad : Option Addr) (c : Nat) (r : List UInt8) (hx : a.eval x = .slice ad 1 c) (hc : LiesC w ad 1 [.string (bytesOf r)])
    (hm : l.length ≤ 2000000) (hB : B ≤ w.heap.size)
    (h : ∀ g c' w', OwnS w' B (.slice (some ⟨g, 0, none⟩) (l.length + 1) c') (l ++ [r]) → w.grownBy w' v.ownBlock → wpList Tryz.prog ops Q rest (a.put o.dst (.slice (some ⟨g, 0, none⟩) (l.length + 1) c')) w') : wpList Tryz.prog ops Q (o :: rest) a w := by
  refine wpList_plain hgd fun _ hK => wp_append_gen Tryz.underlying33 Tryz.info9 rfl (by omega) w s x ho B v l.length _ hs hown ad 1 c [.string (bytesOf r)] hx (by simp) hc (fun u hu => by simp at hu; subst hu; rfl) (by omega) (by omega) hB fun a' c' w' h2 h3 _ => hK _ _ ?_
  have e1 : scells l ++ [Value.string (bytesOf r)] = scells (l ++ [r]) := by simp [scells]
  have e2 : (l ++ [r]).length = l.length + 1 := by simp
  rw [e1] at h2
  obtain ⟨g, cap, hv, _, _⟩ := World.ownsRow.form h2 (by omega)
  simp only [Value.slice.injEq] at hv
  obtain ⟨rfl, _, _⟩ := hv
  exact h g c' w' (by unfold OwnS; rw [e2]; exact h2) h3
theorem OwnS.cells {w : World} {B c n g : Nat} {l : List (List UInt8)} (h : OwnS w B (.slice (some ⟨g, 0, none⟩) n c) l) : ∀ j u, l[j]? = some u → w.cell? ⟨g, j, none⟩ = some (.string (bytesOf u)) := fun j u hu => by
  have t := World.ownsRow.cells h (g := g) rfl j (.string (bytesOf u)) (by simp [scells, hu])
  rw [Go.WideShapes.add_plain] at t
  simpa using t
theorem OwnS.lt {w : World} {B c n g : Nat} {l : List (List UInt8)} (h : OwnS w B (.slice (some ⟨g, 0, none⟩) n c) l) : B ≤ g ∧ g < w.heap.size := World.ownsRow.lt h g rfl
def ncells (l : List Int) : List Value := l.map (Value.int .i64)
def OwnN (w : World) (B : Nat) (v : Value) (l : List Int) : Prop := w.ownsRow B 2 1 v l.length (ncells l)
theorem OwnN.below {w w' : World} {B : Nat} {v : Value} {l : List Int} (h : OwnN w B v l) (hb : Below w.heap.size w w') : OwnN w' B v l := by
  refine ⟨h.1, ?_⟩
  rcases h.2 with hn | ⟨g, cap, cur, hv, hbg, hg, rest⟩
  · exact .inl hn
  · exact .inr ⟨g, cap, cur, hv, hbg, (hb.block g (Array.getElem?_eq_some_iff.1 hg).1).trans hg, rest⟩
theorem OwnN.nil (w : World) (B : Nat) : OwnN w B (.slice none 0 0) [] := World.ownsRow_nil _ _ _ _
theorem OwnN.alloc {w : World} {B : Nat} {v : Value} {l : List Int} (h : OwnN w B v l) (o : Obj) : OwnN (w.alloc o) B v l := World.ownsRow.alloc h o
theorem OwnN.made (w : World) (B : Nat) (hb : B ≤ w.heap.size) : OwnN (w.alloc (.cells #[] 2)) B (.slice (some ⟨w.heap.size, 0, none⟩) 0 0) [] := World.ownsRow_made w #[] 0 hb (Nat.zero_le _) rfl
theorem one_num {w : World} (x : Int) : LiesC (w.alloc (.cells #[.int .i64 x] 2)) (some ⟨w.heap.size, 0, none⟩) 1 [.int .i64 x] := fun _ =>
  ⟨w.heap.size, 0, rfl, by simp, fun j u hu => by
    cases j with
    | zero => simp at hu; subst hu; simp
    | succ j => simp at hu⟩
theorem wpList_append_num {ops : Array Oper} {rest : List Oper} {o : Oper} {a : Act} {Q : Exit → Act → World → Prop} (w : World) (hgd : o.guard = none) (s x : Operand)
    (ho : o.op = .call { callee := .builtin .append, args := #[s, x], argTypes := #[35, 35] })
    (B : Nat) (v : Value) (l : List Int) (hs : a.eval s = v) (hown : OwnN w B v l) (ad : Option Addr) (c : Nat) (r : Int) (hx : a.eval x = .slice ad 1 c) (hc : LiesC w ad 1 [.int .i64 r])
    (hm : l.length ≤ 2000000) (hB : B ≤ w.heap.size)
    (h : ∀ g c' w', OwnN w' B (.slice (some ⟨g, 0, none⟩) (l.length + 1) c') (l ++ [r]) → w.grownBy w' v.ownBlock → wpList Tryz.prog ops Q rest (a.put o.dst (.slice (some ⟨g, 0, none⟩) (l.length + 1) c')) w') : wpList Tryz.prog ops Q (o :: rest) a w := by
  refine wpList_plain hgd fun _ hK => wp_append_gen Tryz.underlying35 Tryz.info2 rfl (by omega) w s x ho B v l.length _ hs hown ad 1 c [.int .i64 r] hx (by simp) hc (fun u hu => by simp at hu; subst hu; rfl) (by omega) (by omega) hB fun a' c' w' h2 h3 _ => hK _ _ ?_
  have e1 : ncells l ++ [Value.int .i64 r] = ncells (l ++ [r]) := by simp [ncells]
  have e2 : (l ++ [r]).length = l.length + 1 := by simp
  rw [e1] at h2
  obtain ⟨g, cap, hv, _, _⟩ := World.ownsRow.form h2 (by omega)
  simp only [Value.slice.injEq] at hv
  obtain ⟨rfl, _, _⟩ := hv
  exact h g c' w' (by unfold OwnN; rw [e2]; exact h2) h3
theorem OwnN.cells {w : World} {B c n g : Nat} {l : List Int} (h : OwnN w B (.slice (some ⟨g, 0, none⟩) n c) l) : ∀ j u, l[j]? = some u → w.cell? ⟨g, j, none⟩ = some (.int .i64 u) := fun j u hu => by
  have t := World.ownsRow.cells h (g := g) rfl j (.int .i64 u) (by simp [ncells, hu])
  rw [Go.WideShapes.add_plain] at t
  simpa using t
theorem OwnN.lt {w : World} {B c n g : Nat} {l : List Int} (h : OwnN w B (.slice (some ⟨g, 0, none⟩) n c) l) : B ≤ g ∧ g < w.heap.size := World.ownsRow.lt h g rfl
theorem own_low {w : World} {B ty sz n : Nat} {v : Value} {cs : List Value} (h : w.ownsRow B ty sz v n cs) : ∀ j, v.ownBlock = some j → B ≤ j := fun j hj => (World.ownsRow.lt h j hj).1

set_option maxRecDepth 100000 in
set_option maxHeartbeats 4000000 in
theorem l10Words_any (L : List UInt8) (w : World) (hL : L.length ≤ 1048576) :
    Calls Tryz.prog 10 #[.string (bytesOf L)] w fun e w' => ∃ g c, e = .returned (.slice (some ⟨g, 0, none⟩) (wordsL L).length c) ∧ OwnS w' w.heap.size (.slice (some ⟨g, 0, none⟩) (wordsL L).length c) (wordsL L) ∧ Below w.heap.size w w' := by
  have O0 := hid (OwnS.made w w.heap.size (Nat.le_refl _))
  have L0 := hid ((Below.refl _ w).alloc (Nat.le_refl _) (.cells #[] 9))
  go_enter Tryz.func10, Tryz.ntmps10
  go_wp2
  go_loopw [0, 3, 4] (fun s v m wr => ∃ (l : List (List UInt8)) (R : List UInt8) (mo : Bool), s = .string (bytesOf R) ∧ m = .bool mo ∧ Hid (wordsL L = l ++ (if mo = true then wordsL R else [])) ∧ l.length + R.length + (if mo = true then 1 else 0) ≤ L.length + 1 ∧ R.length ≤ 1048576 ∧ (∃ g c, v = .slice (some ⟨g, 0, none⟩) l.length c) ∧ OwnS wr w.heap.size v l ∧ Below w.heap.size w wr) (fun s _ m _ => strN s + boolN m)
  case atStart => exact ⟨[], L, true, rfl, rfl, hid (by simp), by simp, hL, ⟨_, _, rfl⟩, O0.out, L0.out⟩
  case round =>
    obtain ⟨l, R, mo, rfl, rfl, HW, hl, hR, ⟨g, c, rfl⟩, hO, hB⟩ := hrel
    have OO := hid hO
    clear hO O0 L0
    cases mo with
    | false =>
      go_wp2
      go_ret
      have e : wordsL L = l := by have := HW.out; simpa using this
      exact ⟨g, c, by rw [e]; rfl, by rw [e]; exact OO.out, hB⟩
    | true =>
      have hl2 : l.length + R.length ≤ L.length := by simp at hl; omega
      have CT := hid (l1Cut_any (bytesOf R) 32 wr (by rw [bytesOf_size]; unfold maxLen; omega))
      rw [bytesOf_list] at CT
      unfold cutV at CT
      have k1 := cutL_len1 32 R
      have k2 := cutL_len2 32 R
      have HN : Hid (wordsL L = (l ++ [(cutL 32 R).1]) ++ (if (cutL 32 R).2.2 = true then wordsL (cutL 32 R).2.1 else [])) := hid (by
        have := HW.out
        rw [if_pos rfl, wordsL_cut R] at this
        rw [this]
        simp)
      have km : (cutL 32 R).2.1.length + (if (cutL 32 R).2.2 = true then 1 else 0) ≤ R.length := by
        cases h : (cutL 32 R).2.2 with
        | true => have := cutL_more h; simpa using this
        | false => rw [cutL_none 32 R h]; simp
      generalize (cutL 32 R).1 = one at *
      generalize (cutL 32 R).2.1 = rest at *
      generalize (cutL 32 R).2.2 = mo' at *
      clear HW hl
      go_wp2_with fail
      refine CT.out.mono ?_
      rintro e w1 ⟨rfl, hb1⟩
      have O1 := hid ((OO.out.below hb1).alloc (.cells #[.string (bytesOf one)] 9))
      have C1 := hid (one_str (w := w1) (bytesOf one))
      have B1 := hid ((then_ hB hb1).alloc (then_ hB hb1).size (.cells #[.string (bytesOf one)] 9))
      have lm : l.length ≤ 2000000 := by omega
      have sz := B1.out.size
      clear OO CT hb1 hB
      go_wp2_with (at_builtin; refine wpList_append_str _ rfl _ _ rfl w.heap.size _ l rfl O1.out _ 1 one rfl C1.out lm sz ?_; intro g4 c4 w4 O4 G4; have OX := hid O4; have GX := hid G4; clear O4 G4)
      refine ⟨⟨l ++ [one], rest, mo', rfl, rfl, HN, by simp; omega, by omega, ⟨g4, c4, by rw [List.length_append]; rfl⟩, OX.out, B1.out.trans (below_grown GX.out sz (own_low O1.out))⟩, ?_⟩
      show strN (Value.string (bytesOf rest)) + boolN (Value.bool mo') < strN (Value.string (bytesOf R)) + 1
      rw [show strN (Value.string (bytesOf rest)) = rest.length from bytesOf_size rest, show strN (Value.string (bytesOf R)) = R.length from bytesOf_size R]
      cases mo' with
      | true => show _ + 1 < _; simp at km; omega
      | false => show _ + 0 < _; omega

theorem numM_eq (w : List UInt8) : numM w = if okD w = true then numL w else -1 := rfl
set_option maxRecDepth 100000 in
set_option maxHeartbeats 4000000 in
theorem l10Nums_any (a : Option Addr) (cap : Nat) (ws : List (List UInt8)) (w : World) (hn : ws.length ≤ 1048576) (hz : ∀ x ∈ ws, x.length ≤ 1048576) (hS : 0 < ws.length → ∃ b off, a = some ⟨b, off, none⟩ ∧ b < w.heap.size ∧ ∀ i u, ws[i]? = some u → w.cell? ⟨b, off + i, none⟩ = some (.string (bytesOf u))) :
    Calls Tryz.prog 11 #[.slice a ws.length cap] w fun e w' => ∃ g c, e = .returned (.slice (some ⟨g, 0, none⟩) ws.length c) ∧ OwnN w' w.heap.size (.slice (some ⟨g, 0, none⟩) ws.length c) (ws.map numM) ∧ Below w.heap.size w w' := by
  have O0 := hid (OwnN.made w w.heap.size (Nat.le_refl _))
  have L0 := hid ((Below.refl _ w).alloc (Nat.le_refl _) (.cells #[] 2))
  have HS := hid hS
  have HZ := hid hz
  clear hS hz
  obtain ⟨n, hw⟩ : ∃ n, ws.length = n := ⟨_, rfl⟩
  rw [hw] at hn
  have HW := hid hw
  simp only [hw]
  clear hw
  go_enter Tryz.func11, Tryz.ntmps11
  go_wp2
  go_loopw [3, 4] (fun v i wr => ∃ k : Nat, k ≤ n ∧ i = .int .i64 k ∧ (∃ g c, v = .slice (some ⟨g, 0, none⟩) k c) ∧ OwnN wr w.heap.size v ((ws.take k).map numM) ∧ Below w.heap.size w wr) (fun _ i _ => n - (intOf i).toNat)
  case atStart => exact ⟨0, Nat.zero_le _, rfl, ⟨_, _, rfl⟩, by simpa using O0.out, L0.out⟩
  case round =>
    obtain ⟨k, hk, rfl, ⟨g, c, rfl⟩, hO, hB⟩ := hrel
    have OO := hid hO
    clear hO O0 L0
    by_cases hlt : k < n
    · have i1 : (k : Int) < (n : Int) := by omega
      have i0 : (0 : Int) ≤ (k : Int) := by omega
      have hk' : k < ws.length := by rw [HW.out]; exact hlt
      obtain ⟨u, hu⟩ : ∃ u, ws[k]? = some u := ⟨_, List.getElem?_eq_getElem hk'⟩
      obtain ⟨b, off, rfl, hb, hc⟩ := HS.out (by omega)
      have c0 : wr.cell? ⟨b, off + k, none⟩ = some (.string (bytesOf u)) := (hB.cell (p := ⟨b, off + k, none⟩) hb).trans (hc k u hu)
      have ul : u.length ≤ 1048576 := HZ.out u (List.mem_of_getElem? hu)
      have ET : Hid ((ws.take k).map numM ++ [numM u] = (ws.take (k + 1)).map numM) := hid (by
        rw [List.take_add_one, hu]
        simp)
      have EL : Hid (((ws.take k).map numM).length = k) := hid (by simp; omega)
      have EL2 : Hid (((ws.take (k + 1)).map numM).length = k + 1) := hid (by simp; omega)
      have EM := hid (numM_eq u)
      have CT := hid (l1Int_any (bytesOf u) wr (by rw [bytesOf_size]; unfold maxLen; omega))
      rw [bytesOf_list] at CT
      unfold numV at CT
      have lm : ((ws.take k).map numM).length ≤ 2000000 := by rw [EL.out]; omega
      generalize (ws.take k).map numM = l at *
      clear hc hu hb
      go_wp2_with fail
      refine CT.out.mono ?_
      rintro e w1 ⟨rfl, rfl⟩
      clear CT c0
      cases hd : okD u with
      | true =>
        have ex : Hid (numM u = numL u) := hid (by rw [EM.out, hd]; rfl)
        rw [ex.out] at ET
        generalize numL u = x at *
        have O1 := hid (OO.out.alloc (.cells #[.int .i64 x] 2))
        have C1 := hid (one_num (w := w1) x)
        have B1 := hid (hB.alloc hB.size (.cells #[.int .i64 x] 2))
        have sz := B1.out.size
        clear OO hB EM ex
        go_wp2_with (at_builtin; refine wpList_append_num _ rfl _ _ rfl w.heap.size _ l rfl O1.out _ 1 x rfl C1.out lm sz ?_; intro g4 c4 w4 O4 G4; have OX := hid O4; have GX := hid G4; clear O4 G4)
        have OF := OX.out
        rw [ET.out, EL.out] at OF
        exact ⟨⟨k + 1, by omega, by go_num, ⟨g4, c4, by rw [EL.out]⟩, by rw [EL.out]; exact OF, B1.out.trans (below_grown GX.out sz (own_low O1.out))⟩, by simp [intOf]; omega⟩
      | false =>
        have ex : Hid (numM u = -1) := hid (by rw [EM.out, hd]; rfl)
        rw [ex.out] at ET
        have O1 := hid (OO.out.alloc (.cells #[.int .i64 (-1)] 2))
        have C1 := hid (one_num (w := w1) (-1))
        have B1 := hid (hB.alloc hB.size (.cells #[.int .i64 (-1)] 2))
        have sz := B1.out.size
        clear OO hB EM ex
        go_wp2_with (at_builtin; refine wpList_append_num _ rfl _ _ rfl w.heap.size _ l rfl O1.out _ 1 (-1) rfl C1.out lm sz ?_; intro g4 c4 w4 O4 G4; have OX := hid O4; have GX := hid G4; clear O4 G4)
        have OF := OX.out
        rw [ET.out, EL.out] at OF
        exact ⟨⟨k + 1, by omega, by go_num, ⟨g4, c4, by rw [EL.out]⟩, by rw [EL.out]; exact OF, B1.out.trans (below_grown GX.out sz (own_low O1.out))⟩, by simp [intOf]; omega⟩
    · have ek : n = k := by omega
      have i1 : ¬ (k : Int) < (n : Int) := by omega
      have e : ws.take k = ws := List.take_of_length_le (by rw [HW.out]; omega)
      rw [e] at OO
      subst ek
      go_wp2
      go_ret
      exact ⟨g, c, rfl, OO.out, hB⟩
end Go.Proofs.YtjceaajnemgheaaGreatDoor
