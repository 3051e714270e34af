/- l4Use, by the model. -/
import Derived.Test.YthbmfbnnemgbpaaGreatDoorZ0
import Derived.Test.YthbmfbnnemgbpaaGreatDoorZ28
import Derived.Test.YthbmfbnnemgbpaaGreatDoorND2
import Derived.Test.YthbmfbnnemgbpaaGreatDoorZ22
namespace Go.Proofs.YthbmfbnnemgbpaaGreatDoor
open Go Go.RowKit Go.Deep Go.Maps Go.BigFrame Go.Shelf
def putTo (L : List Int) (h : Nat → Int) : Nat → List Int
 | 0 => L
 | q + 1 => putL (putTo L h q) (h q)
theorem putTo_len (L : List Int) (h : Nat → Int) : ∀ q, (putTo L h q).length ≤ L.length + q
 | 0 => Nat.le_refl _
 | q + 1 => by
  have := putTo_len L h q
  have := putL_len (putTo L h q) (h q)
  simp only [putTo]
  omega
theorem range_nth (L : List Int) : (List.range L.length).map (nthI L) = L := by
 refine List.ext_getElem (by simp) (fun i h1 h2 => ?_)
 simp [nthI, h2]
theorem OwnI.base {w : World} {B B' : Nat} {v : Value} {l : List Int} (h : OwnI w B v l) (hB : B' ≤ B) : OwnI w B' v l := by
 obtain ⟨h0, h⟩ := h
 refine ⟨h0, ?_⟩
 rcases h with ⟨hv, hn⟩ | ⟨g, cap, cur, hv, hg, r⟩
 ·exact .inl ⟨hv, hn⟩
 ·exact .inr ⟨g, cap, cur, hv, Nat.le_trans hB hg, r⟩
def jnT (h : Nat → Int) : Nat → ByteArray
 | 0 => ⟨#[]⟩
 | q + 1 => (if 0 < q then jnT h q ++ ByteArray.mk #[32] else jnT h q) ++ ⟨(decL (h q).toNat).toArray⟩
theorem jnT_len {h : Nat → Int} : ∀ {q : Nat}, (∀ i, i < q → (h i).toNat ≤ 1000000) → (jnT h q).size ≤ q * 1000002
 | 0, _ => Nat.le_refl _
 | q + 1, hs => by
  have ih := jnT_len (q := q) (fun i hi => hs i (by omega))
  have h1 := decL_len (h q).toNat
  have h2 := hs q (by omega)
  have e : (⟨(decL (h q).toNat).toArray⟩ : ByteArray).size = (decL (h q).toNat).length := by show (decL (h q).toNat).toArray.size = _; simp
  have e2 : (ByteArray.mk #[32]).size = 1 := rfl
  simp only [jnT]
  split
  ·rw [ByteArray.size_append, ByteArray.size_append, e, e2]; omega
  ·rw [ByteArray.size_append, e]; omega
theorem kids_v {w : World} {B ca co : Nat} {ta oa : Option Addr} {lt : List ThrV} {lo : List ObjV} (h : KSt w B (.slice ta lt.length ca) (.slice oa lo.length co) lt lo) (h1 : lt.length ≤ 1048576) (h2 : lo.length ≤ 271) (h3 : ∀ x ∈ lo, x.data.size ≤ maxLen) (x : Int) :
 Calls Tryz.prog 98 #[.agg #[.slice ta lt.length ca, .slice oa lo.length co], .int .i64 x] w fun e w' => ∃ a c, e = .returned (.slice a (inX (atOwnOb lo) x lo.length).length c) ∧ OwnI w' w.heap.size (.slice a (inX (atOwnOb lo) x lo.length).length c) (inX (atOwnOb lo) x lo.length) ∧ Below w.heap.size w w' := by
 have hh := l3Kids_any (kOf ta ca oa co lt lo) x w (h.at h1 (by omega) h3) h2
 refine hh.mono ?_
 rintro e w' ⟨v, rfl, h1, h2⟩
 obtain ⟨a, c, rfl⟩ := OwnI.form h1
 exact ⟨a, c, rfl, h1, h2⟩
theorem inX_id {lo : List ObjV} {x : Int} {P : Int → Prop} (h : ∀ o ∈ lo, P o.id) {j : Nat} (hj : j < (inX (atOwnOb lo) x lo.length).length) : P (nthI (inX (atOwnOb lo) x lo.length) j) := by
 have hm : nthI (inX (atOwnOb lo) x lo.length) j ∈ inX (atOwnOb lo) x lo.length := by
  unfold nthI
  rw [List.getD_eq_getElem?_getD, List.getElem?_eq_getElem hj]
  exact List.getElem_mem hj
 unfold inX at hm
 obtain ⟨i, hi, e⟩ := List.mem_map.1 hm
 have hl : i < lo.length := List.mem_range.1 (List.mem_filter.1 hi).1
 have e2 : atOwnOb lo i = lo[i] := by simp [atOwnOb, hl]
 unfold inX
 rw [← e, e2]
 exact h _ (List.getElem_mem hl)
def Use6 (X : ThrV) (s : StepV) (lt : List ThrV) (lo : List ObjV) (_t : Nat) (c : Int) (tx : ByteArray) (lt' : List ThrV) (lo' : List ObjV) : Prop :=
 (useAt X lo s.id 1 = none ∧ c = 4 ∧ tx = ⟨#[]⟩ ∧ lt' = lt ∧ lo' = lo) ∨ ∃ u, useAt X lo s.id 1 = some u ∧ ((changesB X (atOwnOb lo u).b1 (atOwnOb lo u).c1 = false ∧ c = 4 ∧ tx = ⟨#[]⟩ ∧ lt' = lt ∧ lo' = lo) ∨ (changesB X (atOwnOb lo u).b1 (atOwnOb lo u).c1 = true ∧ c = 0 ∧ tx = ⟨#[]⟩ ∧ lt' = lt ∧ lo' = lo.set u ⟨(atOwnOb lo u).id, (atOwnOb lo u).kind, (atOwnOb lo u).up, (atOwnOb lo u).b1, (atOwnOb lo u).c1, s.data, (atOwnOb lo u).items, (atOwnOb lo u).own, (atOwnOb lo u).b2, (atOwnOb lo u).c2⟩))
def Use7 (X : ThrV) (s : StepV) (lt : List ThrV) (lo : List ObjV) (_t : Nat) (c : Int) (tx : ByteArray) (lt' : List ThrV) (lo' : List ObjV) : Prop :=
 (useAt X lo s.id 1 = none ∧ c = 4 ∧ tx = ⟨#[]⟩ ∧ lt' = lt ∧ lo' = lo) ∨ ∃ u, useAt X lo s.id 1 = some u ∧ (c = 0 ∧ tx = (atOwnOb lo u).data ∧ lt' = lt ∧ lo' = lo)
def Use8 (X : ThrV) (s : StepV) (lt : List ThrV) (lo : List ObjV) (_t : Nat) (c : Int) (tx : ByteArray) (lt' : List ThrV) (lo' : List ObjV) : Prop :=
 (useAt X lo s.id 1 = none ∧ c = 4 ∧ tx = ⟨#[]⟩ ∧ lt' = lt ∧ lo' = lo) ∨ ∃ u, useAt X lo s.id 1 = some u ∧ ((atL lo s.to = none ∧ c = 4 ∧ tx = ⟨#[]⟩ ∧ lt' = lt ∧ lo' = lo) ∨ ∃ p, atL lo s.to = some p ∧ (((((atOwnOb lo p).kind ≠ 1) ∨ changesB X (atOwnOb lo p).b1 (atOwnOb lo p).c1 = false) ∧ c = 4 ∧ tx = ⟨#[]⟩ ∧ lt' = lt ∧ lo' = lo) ∨ ((atOwnOb lo p).kind = 1 ∧ changesB X (atOwnOb lo p).b1 (atOwnOb lo p).c1 = true ∧ c = 0 ∧ tx = ⟨#[]⟩ ∧ lt' = lt ∧ lo' = lo.set p ⟨(atOwnOb lo p).id, (atOwnOb lo p).kind, (atOwnOb lo p).up, (atOwnOb lo p).b1, (atOwnOb lo p).c1, (atOwnOb lo u).data, (atOwnOb lo p).items, (atOwnOb lo p).own, (atOwnOb lo p).b2, (atOwnOb lo p).c2⟩)))
def Use9 (X : ThrV) (s : StepV) (lt : List ThrV) (lo : List ObjV) (_t : Nat) (c : Int) (tx : ByteArray) (lt' : List ThrV) (lo' : List ObjV) : Prop :=
 (useAt X lo s.id 2 = none ∧ c = 4 ∧ tx = ⟨#[]⟩ ∧ lt' = lt ∧ lo' = lo) ∨ ∃ u, useAt X lo s.id 2 = some u ∧ ((changesB X (atOwnOb lo u).b1 (atOwnOb lo u).c1 = false ∧ c = 4 ∧ tx = ⟨#[]⟩ ∧ lt' = lt ∧ lo' = lo) ∨ (changesB X (atOwnOb lo u).b1 (atOwnOb lo u).c1 = true ∧ (atOwnOb lo u).items.n = 8 ∧ c = 5 ∧ tx = ⟨#[]⟩ ∧ lt' = lt ∧ lo' = lo) ∨ (changesB X (atOwnOb lo u).b1 (atOwnOb lo u).c1 = true ∧ (atOwnOb lo u).items.n ≠ 8 ∧ c = 0 ∧ tx = ⟨#[]⟩ ∧ lt' = lt ∧ ∃ a c', lo' = lo.set u ⟨(atOwnOb lo u).id, (atOwnOb lo u).kind, (atOwnOb lo u).up, (atOwnOb lo u).b1, (atOwnOb lo u).c1, (atOwnOb lo u).data, ⟨a, (atOwnOb lo u).items.n + 1, c', moreF (atOwnOb lo u).items.n (atOwnOb lo u).items.f s.data⟩, (atOwnOb lo u).own, (atOwnOb lo u).b2, (atOwnOb lo u).c2⟩))
def Use10 (X : ThrV) (s : StepV) (lt : List ThrV) (lo : List ObjV) (_t : Nat) (c : Int) (tx : ByteArray) (lt' : List ThrV) (lo' : List ObjV) : Prop :=
 (useAt X lo s.id 2 = none ∧ c = 4 ∧ tx = ⟨#[]⟩ ∧ lt' = lt ∧ lo' = lo) ∨ ∃ u, useAt X lo s.id 2 = some u ∧ ((changesB X (atOwnOb lo u).b1 (atOwnOb lo u).c1 = false ∧ c = 4 ∧ tx = ⟨#[]⟩ ∧ lt' = lt ∧ lo' = lo) ∨ (changesB X (atOwnOb lo u).b1 (atOwnOb lo u).c1 = true ∧ (atOwnOb lo u).items.n = 0 ∧ c = 6 ∧ tx = ⟨#[]⟩ ∧ lt' = lt ∧ lo' = lo) ∨ (changesB X (atOwnOb lo u).b1 (atOwnOb lo u).c1 = true ∧ (atOwnOb lo u).items.n ≠ 0 ∧ c = 0 ∧ tx = (atOwnOb lo u).items.f 0 ∧ lt' = lt ∧ ∃ a c', lo' = lo.set u ⟨(atOwnOb lo u).id, (atOwnOb lo u).kind, (atOwnOb lo u).up, (atOwnOb lo u).b1, (atOwnOb lo u).c1, (atOwnOb lo u).data, ⟨a, (atOwnOb lo u).items.n - 1, c', fun i => (atOwnOb lo u).items.f (i + 1)⟩, (atOwnOb lo u).own, (atOwnOb lo u).b2, (atOwnOb lo u).c2⟩))
def Use13 (X : ThrV) (s : StepV) (lt : List ThrV) (lo : List ObjV) (t : Nat) (c : Int) (tx : ByteArray) (lt' : List ThrV) (lo' : List ObjV) : Prop :=
 (useAt X lo s.id 4 = none ∧ c = 4 ∧ tx = ⟨#[]⟩ ∧ lt' = lt ∧ lo' = lo) ∨ ∃ u, useAt X lo s.id 4 = some u ∧ ((flowB X.b1 X.c1 X.own (atOwnOb lo u).b2 (atOwnOb lo u).c2 = false ∧ c = 4 ∧ tx = ⟨#[]⟩ ∧ lt' = lt ∧ lo' = lo) ∨ (flowB X.b1 X.c1 X.own (atOwnOb lo u).b2 (atOwnOb lo u).c2 = true ∧ 10 < (putTo ((List.range X.own.n).map X.own.h) (atOwnOb lo u).own.h (atOwnOb lo u).own.n).length ∧ c = 5 ∧ tx = ⟨#[]⟩ ∧ lt' = lt ∧ lo' = lo) ∨ (flowB X.b1 X.c1 X.own (atOwnOb lo u).b2 (atOwnOb lo u).c2 = true ∧ ¬ 10 < (putTo ((List.range X.own.n).map X.own.h) (atOwnOb lo u).own.h (atOwnOb lo u).own.n).length ∧ c = 0 ∧ tx = ⟨#[]⟩ ∧ ∃ a c', lt' = lt.set t ⟨X.id, X.b1, X.c1, X.b2, X.c2, ⟨a, (putTo ((List.range X.own.n).map X.own.h) (atOwnOb lo u).own.h (atOwnOb lo u).own.n).length, c', nthI (putTo ((List.range X.own.n).map X.own.h) (atOwnOb lo u).own.h (atOwnOb lo u).own.n)⟩, X.made⟩ ∧ lo' = lo))
def Use15 (X : ThrV) (s : StepV) (lt : List ThrV) (lo : List ObjV) (_t : Nat) (c : Int) (tx : ByteArray) (lt' : List ThrV) (lo' : List ObjV) : Prop :=
 (useAt X lo s.id 3 = none ∧ c = 4 ∧ tx = ⟨#[]⟩ ∧ lt' = lt ∧ lo' = lo) ∨ ∃ u, useAt X lo s.id 3 = some u ∧ (c = 0 ∧ tx = jnT (nthI (inX (atOwnOb lo) s.id lo.length)) (inX (atOwnOb lo) s.id lo.length).length ∧ lt' = lt ∧ lo' = lo)
def wantI (k : Int) : Int := if k = 6 ∨ k = 7 ∨ k = 8 then 1 else if k = 9 ∨ k = 10 then 2 else if k = 13 then 4 else 3
theorem want_any {k : Int} (h : k = 6 ∨ k = 7 ∨ k = 8 ∨ k = 9 ∨ k = 10 ∨ k = 13 ∨ k = 15) (W : World) : Calls Tryz.prog 96 #[.int .i64 k] W fun e w' => ∃ x, e = .returned x ∧ (x = .int .i64 (wantI k) ∧ Below W.heap.size W w') := by
 rcases h with rfl | rfl | rfl | rfl | rfl | rfl | rfl
 ·exact want6 W
 ·exact want7 W
 ·exact want8 W
 ·exact want9 W
 ·exact want10 W
 ·exact want13 W
 ·exact want15 W
inductive UseAll (X : ThrV) (s : StepV) (lt : List ThrV) (lo : List ObjV) (t : Nat) (c : Int) (tx : ByteArray) (lt' : List ThrV) (lo' : List ObjV) : Prop
 | no (h : useAt X lo s.id (wantI s.kind) = none) (hc : c = 4) (ht : tx = ⟨#[]⟩) (e1 : lt' = lt) (e2 : lo' = lo)
 | k6 (h : s.kind = 6) (p : Use6 X s lt lo t c tx lt' lo')
 | k7 (h : s.kind = 7) (p : Use7 X s lt lo t c tx lt' lo')
 | k8 (h : s.kind = 8) (p : Use8 X s lt lo t c tx lt' lo')
 | k9 (h : s.kind = 9) (p : Use9 X s lt lo t c tx lt' lo')
 | k10 (h : s.kind = 10) (p : Use10 X s lt lo t c tx lt' lo')
 | k13 (h : s.kind = 13) (p : Use13 X s lt lo t c tx lt' lo')
 | k15 (h : s.kind = 15) (p : Use15 X s lt lo t c tx lt' lo')
set_option maxRecDepth 100000 in
set_option maxHeartbeats 64000000 in
theorem l4Use_any (lt : List ThrV) (lo : List ObjV) (g ca q co B : Nat) (w : World) (st : KSt w B (.slice (some ⟨g, 0, none⟩) lt.length ca) (.slice (some ⟨q, 0, none⟩) lo.length co) lt lo) (hB : B ≤ w.heap.size) (t : Nat) (ht : t < lt.length) (X : ThrV) (hX : X = lt[t]) (xs : X.small) (s : StepV) (hs : ∀ W, Below B w W → s.at W)
 (ra : RiseL X.c1) (hl1 : lt.length ≤ 1048576) (hl2 : lo.length ≤ 1048000) (hd : ∀ x ∈ lo, x.data.size ≤ maxLen) (hO : ∀ x ∈ lo, x.c1.n ≤ 1048576 ∧ RiseL x.c1) (hI : ∀ x ∈ lo, x.items.n ≤ 1048000) (hn : lo.length ≤ 271) (hi : ∀ x ∈ lo, 0 ≤ x.id ∧ x.id ≤ 1000000) (hO2 : ∀ x ∈ lo, x.c2.n ≤ 1048576 ∧ RiseL x.c2) (hO3 : ∀ x ∈ lo, x.own.n ≤ 1000) (hw : X.own.n ≤ 1000)
 (hk : s.kind = 6 ∨ s.kind = 7 ∨ s.kind = 8 ∨ s.kind = 9 ∨ s.kind = 10 ∨ s.kind = 13 ∨ s.kind = 15) :
 Calls Tryz.prog 79 #[.agg #[.slice (some ⟨g, 0, none⟩) lt.length ca, .slice (some ⟨q, 0, none⟩) lo.length co], .int .i64 t, .agg #[.int .i64 s.th, .int .i64 s.kind, .int .i64 s.id, .int .i64 s.to, .int .i64 s.cat, .string s.data, .int .i64 s.b1, .slice s.c1.a s.c1.n s.c1.k, .int .i64 s.b2, .slice s.c2.a s.c2.n s.c2.k]] w fun e w' => ∃ (lt' : List ThrV) (lo' : List ObjV) (c : Int) (tx : ByteArray), e = .returned (.tuple #[.agg #[.slice (some ⟨g, 0, none⟩) lt.length ca, .slice (some ⟨q, 0, none⟩) lo.length co], .int .i64 c, .string tx]) ∧ KSt w' B (.slice (some ⟨g, 0, none⟩) lt.length ca) (.slice (some ⟨q, 0, none⟩) lo.length co) lt' lo' ∧ Below B w w' ∧ UseAll X s lt lo t c tx lt' lo' := by
 obtain ⟨th, kd, id_, to_, cat, dat, sb1, sc1, sb2, sc2⟩ := s
 simp only at hk
 have HK := hid hk
 clear hk
 obtain ⟨wn, ewn⟩ : ∃ wn, wn = wantI kd := ⟨_, rfl⟩
 have WN := hid ewn
 clear ewn
 have XN : Hid (X.new B w ∧ (X.own.n ≤ X.own.k ∧ X.own.k ≤ maxLen)) := hid (by rw [hX]; exact ⟨st.tn _ (List.getElem_mem ht), st.tc _ (List.getElem_mem ht)⟩)
 have XA : Hid (X.at w) := hid XN.out.1.at
 have QS : Hid (q < w.heap.size) := hid (World.ownsRow.lt st.o q rfl).2
 have GZ : Hid (g < w.heap.size) := hid (World.ownsRow.lt st.t g rfl).2
 obtain ⟨CW, gl⟩ := st.cell7 ht
 rw [← hX] at CW
 have b3 : Below w.heap.size w (((w.alloc (.cells #[.slice (some ⟨g, 0, none⟩) lt.length ca, .slice (some ⟨q, 0, none⟩) lo.length co] 42)).alloc (.cells #[.int .i64 th, .int .i64 kd, .int .i64 id_, .int .i64 to_, .int .i64 cat, .string dat, .int .i64 sb1, .slice sc1.a sc1.n sc1.k, .int .i64 sb2, .slice sc2.a sc2.n sc2.k] 28)).alloc (.cells #[.slice none 0 0, .slice none 0 0] 42)) := (((Below.refl _ w).alloc (Nat.le_refl _) _).alloc (by simp) _).alloc (by simp; omega) _
 have CC := CW.below gl b3
 have q0 : (((w.alloc (.cells #[.slice (some ⟨g, 0, none⟩) lt.length ca, .slice (some ⟨q, 0, none⟩) lo.length co] 42)).alloc (.cells #[.int .i64 th, .int .i64 kd, .int .i64 id_, .int .i64 to_, .int .i64 cat, .string dat, .int .i64 sb1, .slice sc1.a sc1.n sc1.k, .int .i64 sb2, .slice sc2.a sc2.n sc2.k] 28)).alloc (.cells #[.slice none 0 0, .slice none 0 0] 42)).cell? ⟨g, t * 7, none⟩ = some (.int .i64 X.id) := CC.c0
 have q1 : (((w.alloc (.cells #[.slice (some ⟨g, 0, none⟩) lt.length ca, .slice (some ⟨q, 0, none⟩) lo.length co] 42)).alloc (.cells #[.int .i64 th, .int .i64 kd, .int .i64 id_, .int .i64 to_, .int .i64 cat, .string dat, .int .i64 sb1, .slice sc1.a sc1.n sc1.k, .int .i64 sb2, .slice sc2.a sc2.n sc2.k] 28)).alloc (.cells #[.slice none 0 0, .slice none 0 0] 42)).cell? ⟨g, t * 7 + 1, none⟩ = some (.int .i64 X.b1) := CC.c1
 have q2 : (((w.alloc (.cells #[.slice (some ⟨g, 0, none⟩) lt.length ca, .slice (some ⟨q, 0, none⟩) lo.length co] 42)).alloc (.cells #[.int .i64 th, .int .i64 kd, .int .i64 id_, .int .i64 to_, .int .i64 cat, .string dat, .int .i64 sb1, .slice sc1.a sc1.n sc1.k, .int .i64 sb2, .slice sc2.a sc2.n sc2.k] 28)).alloc (.cells #[.slice none 0 0, .slice none 0 0] 42)).cell? ⟨g, t * 7 + 2, none⟩ = some (.slice X.c1.a X.c1.n X.c1.k) := CC.c2
 have q3 : (((w.alloc (.cells #[.slice (some ⟨g, 0, none⟩) lt.length ca, .slice (some ⟨q, 0, none⟩) lo.length co] 42)).alloc (.cells #[.int .i64 th, .int .i64 kd, .int .i64 id_, .int .i64 to_, .int .i64 cat, .string dat, .int .i64 sb1, .slice sc1.a sc1.n sc1.k, .int .i64 sb2, .slice sc2.a sc2.n sc2.k] 28)).alloc (.cells #[.slice none 0 0, .slice none 0 0] 42)).cell? ⟨g, t * 7 + 3, none⟩ = some (.int .i64 X.b2) := CC.c3
 have q4 : (((w.alloc (.cells #[.slice (some ⟨g, 0, none⟩) lt.length ca, .slice (some ⟨q, 0, none⟩) lo.length co] 42)).alloc (.cells #[.int .i64 th, .int .i64 kd, .int .i64 id_, .int .i64 to_, .int .i64 cat, .string dat, .int .i64 sb1, .slice sc1.a sc1.n sc1.k, .int .i64 sb2, .slice sc2.a sc2.n sc2.k] 28)).alloc (.cells #[.slice none 0 0, .slice none 0 0] 42)).cell? ⟨g, t * 7 + 4, none⟩ = some (.slice X.c2.a X.c2.n X.c2.k) := CC.c4
 have q5 : (((w.alloc (.cells #[.slice (some ⟨g, 0, none⟩) lt.length ca, .slice (some ⟨q, 0, none⟩) lo.length co] 42)).alloc (.cells #[.int .i64 th, .int .i64 kd, .int .i64 id_, .int .i64 to_, .int .i64 cat, .string dat, .int .i64 sb1, .slice sc1.a sc1.n sc1.k, .int .i64 sb2, .slice sc2.a sc2.n sc2.k] 28)).alloc (.cells #[.slice none 0 0, .slice none 0 0] 42)).cell? ⟨g, t * 7 + 5, none⟩ = some (.slice X.own.a X.own.n X.own.k) := CC.c5
 have q6 : (((w.alloc (.cells #[.slice (some ⟨g, 0, none⟩) lt.length ca, .slice (some ⟨q, 0, none⟩) lo.length co] 42)).alloc (.cells #[.int .i64 th, .int .i64 kd, .int .i64 id_, .int .i64 to_, .int .i64 cat, .string dat, .int .i64 sb1, .slice sc1.a sc1.n sc1.k, .int .i64 sb2, .slice sc2.a sc2.n sc2.k] 28)).alloc (.cells #[.slice none 0 0, .slice none 0 0] 42)).cell? ⟨g, t * 7 + 6, none⟩ = some (.int .i64 X.made) := CC.c6
 have b0 : Below w.heap.size w ((((w.alloc (.cells #[.slice (some ⟨g, 0, none⟩) lt.length ca, .slice (some ⟨q, 0, none⟩) lo.length co] 42)).alloc (.cells #[.int .i64 th, .int .i64 kd, .int .i64 id_, .int .i64 to_, .int .i64 cat, .string dat, .int .i64 sb1, .slice sc1.a sc1.n sc1.k, .int .i64 sb2, .slice sc2.a sc2.n sc2.k] 28)).alloc (.cells #[.slice none 0 0, .slice none 0 0] 42)).alloc (.cells #[.int .i64 X.id, .int .i64 X.b1, .slice X.c1.a X.c1.n X.c1.k, .int .i64 X.b2, .slice X.c2.a X.c2.n X.c2.k, .slice X.own.a X.own.n X.own.k, .int .i64 X.made] 79)) := ((((Below.refl _ w).alloc (Nat.le_refl _) _).alloc (by simp) _).alloc (by simp; omega) _).alloc (by simp; omega) _
 have A0 : Blk ((((w.alloc (.cells #[.slice (some ⟨g, 0, none⟩) lt.length ca, .slice (some ⟨q, 0, none⟩) lo.length co] 42)).alloc (.cells #[.int .i64 th, .int .i64 kd, .int .i64 id_, .int .i64 to_, .int .i64 cat, .string dat, .int .i64 sb1, .slice sc1.a sc1.n sc1.k, .int .i64 sb2, .slice sc2.a sc2.n sc2.k] 28)).alloc (.cells #[.slice none 0 0, .slice none 0 0] 42)).alloc (.cells #[.int .i64 X.id, .int .i64 X.b1, .slice X.c1.a X.c1.n X.c1.k, .int .i64 X.b2, .slice X.c2.a X.c2.n X.c2.k, .slice X.own.a X.own.n X.own.k, .int .i64 X.made] 79)) w.heap.size (.cells #[.slice (some ⟨g, 0, none⟩) lt.length ca, .slice (some ⟨q, 0, none⟩) lo.length co] 42) := (((Blk.new w _).alloc _).alloc _).alloc _
 have P0 : Blk ((((w.alloc (.cells #[.slice (some ⟨g, 0, none⟩) lt.length ca, .slice (some ⟨q, 0, none⟩) lo.length co] 42)).alloc (.cells #[.int .i64 th, .int .i64 kd, .int .i64 id_, .int .i64 to_, .int .i64 cat, .string dat, .int .i64 sb1, .slice sc1.a sc1.n sc1.k, .int .i64 sb2, .slice sc2.a sc2.n sc2.k] 28)).alloc (.cells #[.slice none 0 0, .slice none 0 0] 42)).alloc (.cells #[.int .i64 X.id, .int .i64 X.b1, .slice X.c1.a X.c1.n X.c1.k, .int .i64 X.b2, .slice X.c2.a X.c2.n X.c2.k, .slice X.own.a X.own.n X.own.k, .int .i64 X.made] 79)) (w.heap.size + 1) (.cells #[.int .i64 th, .int .i64 kd, .int .i64 id_, .int .i64 to_, .int .i64 cat, .string dat, .int .i64 sb1, .slice sc1.a sc1.n sc1.k, .int .i64 sb2, .slice sc2.a sc2.n sc2.k] 28) := by have := ((Blk.new (w.alloc (.cells #[.slice (some ⟨g, 0, none⟩) lt.length ca, .slice (some ⟨q, 0, none⟩) lo.length co] 42)) (.cells #[.int .i64 th, .int .i64 kd, .int .i64 id_, .int .i64 to_, .int .i64 cat, .string dat, .int .i64 sb1, .slice sc1.a sc1.n sc1.k, .int .i64 sb2, .slice sc2.a sc2.n sc2.k] 28)).alloc (.cells #[.slice none 0 0, .slice none 0 0] 42)).alloc (.cells #[.int .i64 X.id, .int .i64 X.b1, .slice X.c1.a X.c1.n X.c1.k, .int .i64 X.b2, .slice X.c2.a X.c2.n X.c2.k, .slice X.own.a X.own.n X.own.k, .int .i64 X.made] 79); simpa using this
 have R0 : Blk ((((w.alloc (.cells #[.slice (some ⟨g, 0, none⟩) lt.length ca, .slice (some ⟨q, 0, none⟩) lo.length co] 42)).alloc (.cells #[.int .i64 th, .int .i64 kd, .int .i64 id_, .int .i64 to_, .int .i64 cat, .string dat, .int .i64 sb1, .slice sc1.a sc1.n sc1.k, .int .i64 sb2, .slice sc2.a sc2.n sc2.k] 28)).alloc (.cells #[.slice none 0 0, .slice none 0 0] 42)).alloc (.cells #[.int .i64 X.id, .int .i64 X.b1, .slice X.c1.a X.c1.n X.c1.k, .int .i64 X.b2, .slice X.c2.a X.c2.n X.c2.k, .slice X.own.a X.own.n X.own.k, .int .i64 X.made] 79)) (w.heap.size + 1 + 1) (.cells #[.slice none 0 0, .slice none 0 0] 42) := by have := (Blk.new ((w.alloc (.cells #[.slice (some ⟨g, 0, none⟩) lt.length ca, .slice (some ⟨q, 0, none⟩) lo.length co] 42)).alloc (.cells #[.int .i64 th, .int .i64 kd, .int .i64 id_, .int .i64 to_, .int .i64 cat, .string dat, .int .i64 sb1, .slice sc1.a sc1.n sc1.k, .int .i64 sb2, .slice sc2.a sc2.n sc2.k] 28)) (.cells #[.slice none 0 0, .slice none 0 0] 42)).alloc (.cells #[.int .i64 X.id, .int .i64 X.b1, .slice X.c1.a X.c1.n X.c1.k, .int .i64 X.b2, .slice X.c2.a X.c2.n X.c2.k, .slice X.own.a X.own.n X.own.k, .int .i64 X.made] 79); simpa using this
 have X0 : Blk ((((w.alloc (.cells #[.slice (some ⟨g, 0, none⟩) lt.length ca, .slice (some ⟨q, 0, none⟩) lo.length co] 42)).alloc (.cells #[.int .i64 th, .int .i64 kd, .int .i64 id_, .int .i64 to_, .int .i64 cat, .string dat, .int .i64 sb1, .slice sc1.a sc1.n sc1.k, .int .i64 sb2, .slice sc2.a sc2.n sc2.k] 28)).alloc (.cells #[.slice none 0 0, .slice none 0 0] 42)).alloc (.cells #[.int .i64 X.id, .int .i64 X.b1, .slice X.c1.a X.c1.n X.c1.k, .int .i64 X.b2, .slice X.c2.a X.c2.n X.c2.k, .slice X.own.a X.own.n X.own.k, .int .i64 X.made] 79)) (w.heap.size + 1 + 1 + 1) (.cells #[.int .i64 X.id, .int .i64 X.b1, .slice X.c1.a X.c1.n X.c1.k, .int .i64 X.b2, .slice X.c2.a X.c2.n X.c2.k, .slice X.own.a X.own.n X.own.k, .int .i64 X.made] 79) := by have := Blk.new (((w.alloc (.cells #[.slice (some ⟨g, 0, none⟩) lt.length ca, .slice (some ⟨q, 0, none⟩) lo.length co] 42)).alloc (.cells #[.int .i64 th, .int .i64 kd, .int .i64 id_, .int .i64 to_, .int .i64 cat, .string dat, .int .i64 sb1, .slice sc1.a sc1.n sc1.k, .int .i64 sb2, .slice sc2.a sc2.n sc2.k] 28)).alloc (.cells #[.slice none 0 0, .slice none 0 0] 42)) (.cells #[.int .i64 X.id, .int .i64 X.b1, .slice X.c1.a X.c1.n X.c1.k, .int .i64 X.b2, .slice X.c2.a X.c2.n X.c2.k, .slice X.own.a X.own.n X.own.k, .int .i64 X.made] 79); simpa using this
 have HS := hid (st.below b0)
 have HB := hid b0
 have HA := hid A0
 have HP := hid P0
 have HR := hid R0
 have HX := hid X0
 have SA := hid hs
 have EX := hid hX
 have i0 : (0 : Int) ≤ (t : Int) := by omega
 have i1 : (t : Int) < (lt.length : Int) := by omega
 clear CC CW b3 b0 A0 P0 R0 X0 hs hX st
 go_enter Tryz.func79, Tryz.ntmps79
 obtain ⟨x0, x1⟩ := HA.out.two
 obtain ⟨s0, s1, s2, s3, s4, s5, s6, s7, s8, s9⟩ := HP.out.ten
 obtain ⟨y0, y1, y2, y3, y4, y5, y6⟩ := HX.out.seven
 go_wp2_with fail
 have BX : Hid (∀ W, Below ((((w.alloc (.cells #[.slice (some ⟨g, 0, none⟩) lt.length ca, .slice (some ⟨q, 0, none⟩) lo.length co] 42)).alloc (.cells #[.int .i64 th, .int .i64 kd, .int .i64 id_, .int .i64 to_, .int .i64 cat, .string dat, .int .i64 sb1, .slice sc1.a sc1.n sc1.k, .int .i64 sb2, .slice sc2.a sc2.n sc2.k] 28)).alloc (.cells #[.slice none 0 0, .slice none 0 0] 42)).alloc (.cells #[.int .i64 X.id, .int .i64 X.b1, .slice X.c1.a X.c1.n X.c1.k, .int .i64 X.b2, .slice X.c2.a X.c2.n X.c2.k, .slice X.own.a X.own.n X.own.k, .int .i64 X.made] 79)).heap.size ((((w.alloc (.cells #[.slice (some ⟨g, 0, none⟩) lt.length ca, .slice (some ⟨q, 0, none⟩) lo.length co] 42)).alloc (.cells #[.int .i64 th, .int .i64 kd, .int .i64 id_, .int .i64 to_, .int .i64 cat, .string dat, .int .i64 sb1, .slice sc1.a sc1.n sc1.k, .int .i64 sb2, .slice sc2.a sc2.n sc2.k] 28)).alloc (.cells #[.slice none 0 0, .slice none 0 0] 42)).alloc (.cells #[.int .i64 X.id, .int .i64 X.b1, .slice X.c1.a X.c1.n X.c1.k, .int .i64 X.b2, .slice X.c2.a X.c2.n X.c2.k, .slice X.own.a X.own.n X.own.k, .int .i64 X.made] 79)) W → Blk W w.heap.size (.cells #[.slice (some ⟨g, 0, none⟩) lt.length ca, .slice (some ⟨q, 0, none⟩) lo.length co] 42) ∧ Blk W (w.heap.size + 1) (.cells #[.int .i64 th, .int .i64 kd, .int .i64 id_, .int .i64 to_, .int .i64 cat, .string dat, .int .i64 sb1, .slice sc1.a sc1.n sc1.k, .int .i64 sb2, .slice sc2.a sc2.n sc2.k] 28) ∧ Blk W (w.heap.size + 1 + 1) (.cells #[.slice none 0 0, .slice none 0 0] 42) ∧ Blk W (w.heap.size + 1 + 1 + 1) (.cells #[.int .i64 X.id, .int .i64 X.b1, .slice X.c1.a X.c1.n X.c1.k, .int .i64 X.b2, .slice X.c2.a X.c2.n X.c2.k, .slice X.own.a X.own.n X.own.k, .int .i64 X.made] 79) ∧ KSt W B (.slice (some ⟨g, 0, none⟩) lt.length ca) (.slice (some ⟨q, 0, none⟩) lo.length co) lt lo) := hid (fun W hW => ⟨HA.out.below hW, HP.out.below hW, HR.out.below hW, HX.out.below hW, HS.out.below hW⟩)
 have LW : Hid (∀ W, Below ((((w.alloc (.cells #[.slice (some ⟨g, 0, none⟩) lt.length ca, .slice (some ⟨q, 0, none⟩) lo.length co] 42)).alloc (.cells #[.int .i64 th, .int .i64 kd, .int .i64 id_, .int .i64 to_, .int .i64 cat, .string dat, .int .i64 sb1, .slice sc1.a sc1.n sc1.k, .int .i64 sb2, .slice sc2.a sc2.n sc2.k] 28)).alloc (.cells #[.slice none 0 0, .slice none 0 0] 42)).alloc (.cells #[.int .i64 X.id, .int .i64 X.b1, .slice X.c1.a X.c1.n X.c1.k, .int .i64 X.b2, .slice X.c2.a X.c2.n X.c2.k, .slice X.own.a X.own.n X.own.k, .int .i64 X.made] 79)).heap.size ((((w.alloc (.cells #[.slice (some ⟨g, 0, none⟩) lt.length ca, .slice (some ⟨q, 0, none⟩) lo.length co] 42)).alloc (.cells #[.int .i64 th, .int .i64 kd, .int .i64 id_, .int .i64 to_, .int .i64 cat, .string dat, .int .i64 sb1, .slice sc1.a sc1.n sc1.k, .int .i64 sb2, .slice sc2.a sc2.n sc2.k] 28)).alloc (.cells #[.slice none 0 0, .slice none 0 0] 42)).alloc (.cells #[.int .i64 X.id, .int .i64 X.b1, .slice X.c1.a X.c1.n X.c1.k, .int .i64 X.b2, .slice X.c2.a X.c2.n X.c2.k, .slice X.own.a X.own.n X.own.k, .int .i64 X.made] 79)) W → Below w.heap.size w W) := hid (fun W hW => then_ HB.out hW)
 have LB : Hid (∀ W, Below ((((w.alloc (.cells #[.slice (some ⟨g, 0, none⟩) lt.length ca, .slice (some ⟨q, 0, none⟩) lo.length co] 42)).alloc (.cells #[.int .i64 th, .int .i64 kd, .int .i64 id_, .int .i64 to_, .int .i64 cat, .string dat, .int .i64 sb1, .slice sc1.a sc1.n sc1.k, .int .i64 sb2, .slice sc2.a sc2.n sc2.k] 28)).alloc (.cells #[.slice none 0 0, .slice none 0 0] 42)).alloc (.cells #[.int .i64 X.id, .int .i64 X.b1, .slice X.c1.a X.c1.n X.c1.k, .int .i64 X.b2, .slice X.c2.a X.c2.n X.c2.k, .slice X.own.a X.own.n X.own.k, .int .i64 X.made] 79)).heap.size ((((w.alloc (.cells #[.slice (some ⟨g, 0, none⟩) lt.length ca, .slice (some ⟨q, 0, none⟩) lo.length co] 42)).alloc (.cells #[.int .i64 th, .int .i64 kd, .int .i64 id_, .int .i64 to_, .int .i64 cat, .string dat, .int .i64 sb1, .slice sc1.a sc1.n sc1.k, .int .i64 sb2, .slice sc2.a sc2.n sc2.k] 28)).alloc (.cells #[.slice none 0 0, .slice none 0 0] 42)).alloc (.cells #[.int .i64 X.id, .int .i64 X.b1, .slice X.c1.a X.c1.n X.c1.k, .int .i64 X.b2, .slice X.c2.a X.c2.n X.c2.k, .slice X.own.a X.own.n X.own.k, .int .i64 X.made] 79)) W → Below B w W) := hid (fun W hW => (then_ HB.out hW).mono hB)
 have V0 := hid (Below.refl ((((w.alloc (.cells #[.slice (some ⟨g, 0, none⟩) lt.length ca, .slice (some ⟨q, 0, none⟩) lo.length co] 42)).alloc (.cells #[.int .i64 th, .int .i64 kd, .int .i64 id_, .int .i64 to_, .int .i64 cat, .string dat, .int .i64 sb1, .slice sc1.a sc1.n sc1.k, .int .i64 sb2, .slice sc2.a sc2.n sc2.k] 28)).alloc (.cells #[.slice none 0 0, .slice none 0 0] 42)).alloc (.cells #[.int .i64 X.id, .int .i64 X.b1, .slice X.c1.a X.c1.n X.c1.k, .int .i64 X.b2, .slice X.c2.a X.c2.n X.c2.k, .slice X.own.a X.own.n X.own.k, .int .i64 X.made] 79)).heap.size ((((w.alloc (.cells #[.slice (some ⟨g, 0, none⟩) lt.length ca, .slice (some ⟨q, 0, none⟩) lo.length co] 42)).alloc (.cells #[.int .i64 th, .int .i64 kd, .int .i64 id_, .int .i64 to_, .int .i64 cat, .string dat, .int .i64 sb1, .slice sc1.a sc1.n sc1.k, .int .i64 sb2, .slice sc2.a sc2.n sc2.k] 28)).alloc (.cells #[.slice none 0 0, .slice none 0 0] 42)).alloc (.cells #[.int .i64 X.id, .int .i64 X.b1, .slice X.c1.a X.c1.n X.c1.k, .int .i64 X.b2, .slice X.c2.a X.c2.n X.c2.k, .slice X.own.a X.own.n X.own.k, .int .i64 X.made] 79)))
 clear x0 x1 s0 s1 s2 s3 s4 s5 s6 s7 s8 s9 y0 y1 y2 y3 y4 y5 y6 q0 q1 q2 q3 q4 q5 q6 HA HP HR HX HS
 generalize ((((w.alloc (.cells #[.slice (some ⟨g, 0, none⟩) lt.length ca, .slice (some ⟨q, 0, none⟩) lo.length co] 42)).alloc (.cells #[.int .i64 th, .int .i64 kd, .int .i64 id_, .int .i64 to_, .int .i64 cat, .string dat, .int .i64 sb1, .slice sc1.a sc1.n sc1.k, .int .i64 sb2, .slice sc2.a sc2.n sc2.k] 28)).alloc (.cells #[.slice none 0 0, .slice none 0 0] 42)).alloc (.cells #[.int .i64 X.id, .int .i64 X.b1, .slice X.c1.a X.c1.n X.c1.k, .int .i64 X.b2, .slice X.c2.a X.c2.n X.c2.k, .slice X.own.a X.own.n X.own.k, .int .i64 X.made] 79)) = V at *
 refine (find_v (BX.out _ V0.out).2.2.2.2 hl1 (by omega) hd id_).mono ?_
 rintro e w1 ⟨rfl, hb1⟩
 have V1 := hid (then_ V0.out hb1)
 clear hb1
 have D0 := hid (below_drew V1.out)
 cases hu : atL lo id_ with
 | none =>
  have UA : Hid (useAt X lo id_ wn = none) := hid (by unfold useAt; rw [hu])
  simp only [idxI]
  have j0 : decide (((-1 : Int)) < 0) = true := rfl
  go_wp2_with fail
  refine wp_region_G 25 (fun W => Below V.heap.size V W) (by kernel_rfl) ?_
  refine tq 0 28 (.int .i64 (-1)) D0.out ?_
  simp only [ap, List.set]
  refine tq 1 29 (.bool true) D0.out ?_
  simp only [ap, List.set]
  refine tq 2 30 (.bool true) D0.out ?_
  simp only [ap, List.set]
  refine sks 10 [(3, 31), (4, 32), (5, 33), (6, 34), (7, 35), (8, 36), (9, 37), (10, 38), (11, 39), (12, 40)] rfl (by kernel_rfl) D0.out ?_
  simp only [putsU, ap, List.set]
  refine tq 13 41 (.bool true) D0.out ?_
  simp only [ap, List.set]
  refine tq 14 42 (.bool true) D0.out ?_
  simp only [ap, List.set]
  refine sks 9 [(15, 43), (16, 44), (17, 45), (18, 46), (19, 47), (20, 48), (21, 49), (22, 50), (23, 51)] rfl (by kernel_rfl) D0.out ?_
  simp only [putsU, ap, List.set]
  refine tq 24 52 (.bool true) D0.out ?_
  simp only [ap, List.set]
  refine wpAnyG_done (by kernel_rfl) ?_ _
  have VL := hid (D0.out)
  clear D0
  generalize w1.drew = wd at *
  obtain ⟨x0, x1⟩ := (BX.out _ VL.out).1.two
  obtain ⟨s0, s1, s2, s3, s4, s5, s6, s7, s8, s9⟩ := (BX.out _ VL.out).2.1.ten
  obtain ⟨r0, r1⟩ := (BX.out _ VL.out).2.2.1.two
  have rf := (BX.out _ VL.out).2.2.1.warm
  obtain ⟨y0, y1, y2, y3, y4, y5, y6⟩ := (BX.out _ VL.out).2.2.2.1.seven
  go_wp2
  have RB := hid (BX.out _ VL.out).2.2.1
  have KB := hid (BX.out _ VL.out).2.2.2.2
  refine bodyPost_ret (self_results _ _ (w.heap.size + 1 + 1) 6 _ _ _ _ Tryz.results79 ((RB.out.setAt (i := 0) _).setAt (i := 1) _) rfl rfl rfl) rfl ⟨lt, lo, 4, _, rfl, ?_, ?_, .no (by have h := UA.out; rw [WN.out] at h; exact h) rfl rfl rfl rfl⟩
  ·exact (KB.out.set RB.out (.inl rfl) _).set (RB.out.setAt (i := 0) _) (.inl rfl) _
  ·exact ((LB.out _ VL.out).setCell (by dsimp only; omega) _).setCell (by dsimp only; omega) _
 | some u =>
  obtain ⟨ul, eu⟩ := atL_some hu
  have eo : atOwnOb lo u = lo[u] := by simp [atOwnOb, ul]
  obtain ⟨o, ho⟩ : ∃ o, o = lo[u] := ⟨_, rfl⟩
  have HO := hid (hO _ (List.getElem_mem ul))
  have EO := hid ho
  rw [← ho] at HO eo
  have EA := hid eo
  have UA : Hid (useAt X lo id_ wn = if (decide (o.kind = wn) && seesB X o.b1 o.c1) = true then some u else none) := hid (by unfold useAt; rw [hu]; simp only [eo])
  simp only [idxI]
  clear eu hu ho eo
  have j0 : decide (((u : Nat) : Int) < 0) = false := decide_eq_false (by omega)
  have j1 : (u : Int) < (lo.length : Int) := by omega
  have j2 : (0 : Int) ≤ (u : Int) := by omega
  have OC : Hid (∀ W, Below V.heap.size V W → W.cell? ⟨q, u * 10, none⟩ = some (.int .i64 o.id) ∧ W.cell? ⟨q, u * 10 + 1, none⟩ = some (.int .i64 o.kind) ∧ W.cell? ⟨q, u * 10 + 2, none⟩ = some (.int .i64 o.up) ∧ W.cell? ⟨q, u * 10 + 3, none⟩ = some (.int .i64 o.b1) ∧ W.cell? ⟨q, u * 10 + 4, none⟩ = some (.slice o.c1.a o.c1.n o.c1.k) ∧ W.cell? ⟨q, u * 10 + 5, none⟩ = some (.string o.data) ∧ W.cell? ⟨q, u * 10 + 6, none⟩ = some (.slice o.items.a o.items.n o.items.k) ∧ W.cell? ⟨q, u * 10 + 7, none⟩ = some (.slice o.own.a o.own.n o.own.k) ∧ W.cell? ⟨q, u * 10 + 8, none⟩ = some (.int .i64 o.b2) ∧ W.cell? ⟨q, u * 10 + 9, none⟩ = some (.slice o.c2.a o.c2.n o.c2.k)) := hid (fun W hW => by
   have C := ((BX.out _ hW).2.2.2.2.cell10 ul hd).1
   rw [← EO.out] at C
   exact ⟨C.c0, C.c1, C.c2, C.c3, C.c4, C.c5, C.c6, C.c7, C.c8, C.c9⟩)
  have E1 : Hid (∀ args w, (callFunc 96 args).run Tryz.prog w = .ok (.enter 96 args) w) := hid (enters_of Tryz.func96 (by kernel_rfl) rfl)
  have E2 : Hid (∀ args w, (callFunc 97 args).run Tryz.prog w = .ok (.enter 97 args) w) := hid (enters_of Tryz.func97 (by kernel_rfl) rfl)
  have F1 : Hid (∀ W, Calls Tryz.prog 96 #[.int .i64 kd] W fun e w' => ∃ x, e = .returned x ∧ (x = .int .i64 wn ∧ Below W.heap.size W w')) := hid (fun W => by rw [WN.out]; exact want_any HK.out W)
  have F2 : Hid (∀ W, Below w.heap.size w W → Below V.heap.size V W → Calls Tryz.prog 97 #[.agg #[.int .i64 X.id, .int .i64 X.b1, .slice X.c1.a X.c1.n X.c1.k, .int .i64 X.b2, .slice X.c2.a X.c2.n X.c2.k, .slice X.own.a X.own.n X.own.k, .int .i64 X.made], .agg #[.int .i64 o.b1, .slice o.c1.a o.c1.n o.c1.k]] W fun e w' => ∃ v, e = .returned v ∧ (v = .bool (seesB X o.b1 o.c1) ∧ Below W.heap.size W w')) := hid (fun W hW hV => calls_v <| sees_v X o.b1 o.c1 W (XA.out.below hW) xs ra (by
   have := ((BX.out _ hV).2.2.2.2.on _ (List.getElem_mem ul)).1.1
   rw [← EO.out] at this
   exact this) HO.out.1 HO.out.2)
  generalize seesB X o.b1 o.c1 = c2 at *
  by_cases k3 : o.kind = wn
  ·have k3' : (o.kind == wn) = true := by simpa using k3
   have k3'' : decide (o.kind = wn) = true := decide_eq_true k3
   have k4 : (o.kind != wn) = false := by simp [k3]
   rw [k3'', Bool.true_and] at UA
   clear k3
   cases c2 with
   | false =>
    have UB : Hid (useAt X lo id_ wn = none) := hid (by simpa using UA.out)
    clear UA
    have UA := UB
    go_wp2_with fail
    refine wp_region_G 25 (fun W => Below V.heap.size V W) (by kernel_rfl) ?_
    refine tq 0 28 (.int .i64 u) D0.out ?_
    simp only [ap, List.set]
    refine tq 1 29 (.bool false) D0.out ?_
    simp only [ap, List.set]
    refine tq 2 30 (.bool false) D0.out ?_
    simp only [ap, List.set]
    refine tq 3 31 (.pointer (some ⟨w.heap.size, 1, none⟩)) D0.out ?_
    simp only [ap, List.set]
    refine tq 4 32 (.slice (some ⟨q, 0, none⟩) lo.length co) D0.out ?_ (hy := fun W h => by obtain ⟨z0, z1⟩ := (BX.out W h).1.two; go_simp)
    simp only [ap, List.set]
    refine tq 5 33 (.int .i64 u) D0.out ?_
    simp only [ap, List.set]
    refine tq 6 34 (.pointer (some ⟨q, u * 10, none⟩)) D0.out ?_
    simp only [ap, List.set]
    refine tq 7 35 (.pointer (some ⟨q, u * 10 + 1, none⟩)) D0.out ?_
    simp only [ap, List.set]
    refine tq 8 36 (.int .i64 o.kind) D0.out ?_ (hy := fun W h => by obtain ⟨z0, z1, z2, z3, z4, z5, z6, z7, z8, z9⟩ := OC.out W h; go_simp)
    simp only [ap, List.set]
    refine tq 9 37 (.pointer (some ⟨w.heap.size + 1, 1, none⟩)) D0.out ?_
    simp only [ap, List.set]
    refine tq 10 38 (.int .i64 kd) D0.out ?_ (hy := fun W h => by obtain ⟨z0, z1, z2, z3, z4, z5, z6, z7, z8, z9⟩ := (BX.out W h).2.1.ten; go_simp)
    simp only [ap, List.set]
    refine wpAnyG_one (i := 11) (by kernel_rfl) rfl ?_
    intro K hK
    refine step_call1g (by rfl) 96 _ _ (by rfl) E1.out _ (by rfl) (some 39) (by rfl) _ (F1.out _) ?_
    rintro v w2 ⟨rfl, hb⟩
    have H1 := then_ D0.out hb
    refine hK.out _ _ (fun _ => H1) ?_
    clear hK K hb
    simp only [ap, List.set]
    refine tq 12 40 (.bool false) H1 ?_
    simp only [ap, List.set]
    refine tq 13 41 (.bool false) H1 ?_
    simp only [ap, List.set]
    refine tq 14 42 (.bool false) H1 ?_
    simp only [ap, List.set]
    refine tq 15 43 (.agg #[.int .i64 X.id, .int .i64 X.b1, .slice X.c1.a X.c1.n X.c1.k, .int .i64 X.b2, .slice X.c2.a X.c2.n X.c2.k, .slice X.own.a X.own.n X.own.k, .int .i64 X.made]) H1 ?_ (hy := fun W h => by obtain ⟨z0, z1, z2, z3, z4, z5, z6⟩ := (BX.out W h).2.2.2.1.seven; go_simp)
    simp only [ap, List.set]
    refine tq 16 44 (.pointer (some ⟨w.heap.size, 1, none⟩)) H1 ?_
    simp only [ap, List.set]
    refine tq 17 45 (.slice (some ⟨q, 0, none⟩) lo.length co) H1 ?_ (hy := fun W h => by obtain ⟨z0, z1⟩ := (BX.out W h).1.two; go_simp)
    simp only [ap, List.set]
    refine tq 18 46 (.int .i64 u) H1 ?_
    simp only [ap, List.set]
    refine tq 19 47 (.pointer (some ⟨q, u * 10, none⟩)) H1 ?_
    simp only [ap, List.set]
    refine tq 20 48 (.pointer (some ⟨q, u * 10 + 3, none⟩)) H1 ?_
    simp only [ap, List.set]
    refine tq 21 49 (.agg #[.int .i64 o.b1, .slice o.c1.a o.c1.n o.c1.k]) H1 ?_ (hy := fun W h => by obtain ⟨z0, z1, z2, z3, z4, z5, z6, z7, z8, z9⟩ := OC.out W h; go_simp)
    simp only [ap, List.set]
    refine wpAnyG_one (i := 22) (by kernel_rfl) rfl ?_
    intro K hK
    refine step_call2g (by rfl) 97 _ _ _ (by rfl) E2.out _ _ (by rfl) (by rfl) (some 50) (by rfl) _ (F2.out _ (LW.out _ H1) H1) ?_
    rintro v w3 ⟨rfl, hb⟩
    have H2 := then_ H1 hb
    refine hK.out _ _ (fun _ => H2) ?_
    clear hK K hb
    simp only [ap, List.set]
    refine tq 23 51 (.bool true) H2 ?_
    simp only [ap, List.set]
    refine tq 24 52 (.bool true) H2 ?_
    simp only [ap, List.set]
    refine wpAnyG_done (by kernel_rfl) ?_ _
    have VL := hid (H2)
    obtain ⟨x0, x1⟩ := (BX.out _ VL.out).1.two
    obtain ⟨s0, s1, s2, s3, s4, s5, s6, s7, s8, s9⟩ := (BX.out _ VL.out).2.1.ten
    obtain ⟨r0, r1⟩ := (BX.out _ VL.out).2.2.1.two
    have rf := (BX.out _ VL.out).2.2.1.warm
    obtain ⟨y0, y1, y2, y3, y4, y5, y6⟩ := (BX.out _ VL.out).2.2.2.1.seven
    go_wp2
    have RB := hid (BX.out _ VL.out).2.2.1
    have KB := hid (BX.out _ VL.out).2.2.2.2
    refine bodyPost_ret (self_results _ _ (w.heap.size + 1 + 1) 6 _ _ _ _ Tryz.results79 ((RB.out.setAt (i := 0) _).setAt (i := 1) _) rfl rfl rfl) rfl ⟨lt, lo, 4, _, rfl, ?_, ?_, .no (by have h := UA.out; rw [WN.out] at h; exact h) rfl rfl rfl rfl⟩
    ·exact (KB.out.set RB.out (.inl rfl) _).set (RB.out.setAt (i := 0) _) (.inl rfl) _
    ·exact ((LB.out _ VL.out).setCell (by dsimp only; omega) _).setCell (by dsimp only; omega) _
   | true =>
   have UB : Hid (useAt X lo id_ wn = some u) := hid (by simpa using UA.out)
   clear UA
   go_wp2_with fail
   refine wp_region_G 25 (fun W => Below V.heap.size V W) (by kernel_rfl) ?_
   refine tq 0 28 (.int .i64 u) D0.out ?_
   simp only [ap, List.set]
   refine tq 1 29 (.bool false) D0.out ?_
   simp only [ap, List.set]
   refine tq 2 30 (.bool false) D0.out ?_
   simp only [ap, List.set]
   refine tq 3 31 (.pointer (some ⟨w.heap.size, 1, none⟩)) D0.out ?_
   simp only [ap, List.set]
   refine tq 4 32 (.slice (some ⟨q, 0, none⟩) lo.length co) D0.out ?_ (hy := fun W h => by obtain ⟨z0, z1⟩ := (BX.out W h).1.two; go_simp)
   simp only [ap, List.set]
   refine tq 5 33 (.int .i64 u) D0.out ?_
   simp only [ap, List.set]
   refine tq 6 34 (.pointer (some ⟨q, u * 10, none⟩)) D0.out ?_
   simp only [ap, List.set]
   refine tq 7 35 (.pointer (some ⟨q, u * 10 + 1, none⟩)) D0.out ?_
   simp only [ap, List.set]
   refine tq 8 36 (.int .i64 o.kind) D0.out ?_ (hy := fun W h => by obtain ⟨z0, z1, z2, z3, z4, z5, z6, z7, z8, z9⟩ := OC.out W h; go_simp)
   simp only [ap, List.set]
   refine tq 9 37 (.pointer (some ⟨w.heap.size + 1, 1, none⟩)) D0.out ?_
   simp only [ap, List.set]
   refine tq 10 38 (.int .i64 kd) D0.out ?_ (hy := fun W h => by obtain ⟨z0, z1, z2, z3, z4, z5, z6, z7, z8, z9⟩ := (BX.out W h).2.1.ten; go_simp)
   simp only [ap, List.set]
   refine wpAnyG_one (i := 11) (by kernel_rfl) rfl ?_
   intro K hK
   refine step_call1g (by rfl) 96 _ _ (by rfl) E1.out _ (by rfl) (some 39) (by rfl) _ (F1.out _) ?_
   rintro v w2 ⟨rfl, hb⟩
   have H1 := then_ D0.out hb
   refine hK.out _ _ (fun _ => H1) ?_
   clear hK K hb
   simp only [ap, List.set]
   refine tq 12 40 (.bool false) H1 ?_
   simp only [ap, List.set]
   refine tq 13 41 (.bool false) H1 ?_
   simp only [ap, List.set]
   refine tq 14 42 (.bool false) H1 ?_
   simp only [ap, List.set]
   refine tq 15 43 (.agg #[.int .i64 X.id, .int .i64 X.b1, .slice X.c1.a X.c1.n X.c1.k, .int .i64 X.b2, .slice X.c2.a X.c2.n X.c2.k, .slice X.own.a X.own.n X.own.k, .int .i64 X.made]) H1 ?_ (hy := fun W h => by obtain ⟨z0, z1, z2, z3, z4, z5, z6⟩ := (BX.out W h).2.2.2.1.seven; go_simp)
   simp only [ap, List.set]
   refine tq 16 44 (.pointer (some ⟨w.heap.size, 1, none⟩)) H1 ?_
   simp only [ap, List.set]
   refine tq 17 45 (.slice (some ⟨q, 0, none⟩) lo.length co) H1 ?_ (hy := fun W h => by obtain ⟨z0, z1⟩ := (BX.out W h).1.two; go_simp)
   simp only [ap, List.set]
   refine tq 18 46 (.int .i64 u) H1 ?_
   simp only [ap, List.set]
   refine tq 19 47 (.pointer (some ⟨q, u * 10, none⟩)) H1 ?_
   simp only [ap, List.set]
   refine tq 20 48 (.pointer (some ⟨q, u * 10 + 3, none⟩)) H1 ?_
   simp only [ap, List.set]
   refine tq 21 49 (.agg #[.int .i64 o.b1, .slice o.c1.a o.c1.n o.c1.k]) H1 ?_ (hy := fun W h => by obtain ⟨z0, z1, z2, z3, z4, z5, z6, z7, z8, z9⟩ := OC.out W h; go_simp)
   simp only [ap, List.set]
   refine wpAnyG_one (i := 22) (by kernel_rfl) rfl ?_
   intro K hK
   refine step_call2g (by rfl) 97 _ _ _ (by rfl) E2.out _ _ (by rfl) (by rfl) (some 50) (by rfl) _ (F2.out _ (LW.out _ H1) H1) ?_
   rintro v w3 ⟨rfl, hb⟩
   have H2 := then_ H1 hb
   refine hK.out _ _ (fun _ => H2) ?_
   clear hK K hb
   simp only [ap, List.set]
   refine tq 23 51 (.bool false) H2 ?_
   simp only [ap, List.set]
   refine tq 24 52 (.bool false) H2 ?_
   simp only [ap, List.set]
   refine wpAnyG_done (by kernel_rfl) ?_ _
   rcases HK.out with e | e | e | e | e | e | e
   ·subst e
    have ew : wn = 1 := WN.out
    subst ew
    have F3 : Hid (∀ W, Below V.heap.size V W → Calls Tryz.prog 93 #[.agg #[.int .i64 X.id, .int .i64 X.b1, .slice X.c1.a X.c1.n X.c1.k, .int .i64 X.b2, .slice X.c2.a X.c2.n X.c2.k, .slice X.own.a X.own.n X.own.k, .int .i64 X.made], .agg #[.int .i64 o.b1, .slice o.c1.a o.c1.n o.c1.k]] W fun e w' => ∃ v, e = .returned v ∧ (v = .bool (changesB X o.b1 o.c1) ∧ Below W.heap.size W w')) := hid (fun W hV => calls_v <| changes_v X o.b1 o.c1 W (XA.out.below (LW.out _ hV)) xs ra (by
     have := ((BX.out _ hV).2.2.2.2.on _ (List.getElem_mem ul)).1.1
     rw [← EO.out] at this
     exact this) HO.out.1 HO.out.2)
    have CB : Hid (changesB X (atOwnOb lo u).b1 (atOwnOb lo u).c1 = changesB X o.b1 o.c1) := hid (by rw [EA.out])
    generalize changesB X o.b1 o.c1 = c3 at *
    have VL := hid H2
    clear H1 H2 F1 F2 E1 E2 D0 V1 V0
    obtain ⟨x0, x1⟩ := (BX.out _ VL.out).1.two
    obtain ⟨s0, s1, s2, s3, s4, s5, s6, s7, s8, s9⟩ := (BX.out _ VL.out).2.1.ten
    obtain ⟨r0, r1⟩ := (BX.out _ VL.out).2.2.1.two
    have rf := (BX.out _ VL.out).2.2.1.warm
    obtain ⟨y0, y1, y2, y3, y4, y5, y6⟩ := (BX.out _ VL.out).2.2.2.1.seven
    obtain ⟨q0, q1, q2, q3, q4, q5, q6, q7, q8, q9⟩ := OC.out _ VL.out
    have V5 := hid (VL.out.alloc VL.out.size (.cells #[.int .i64 o.id, .int .i64 o.kind, .int .i64 o.up, .int .i64 o.b1, .slice o.c1.a o.c1.n o.c1.k, .string o.data, .slice o.items.a o.items.n o.items.k, .slice o.own.a o.own.n o.own.k, .int .i64 o.b2, .slice o.c2.a o.c2.n o.c2.k] 88))
    have O5 := hid (Blk.new w3 (.cells #[.int .i64 o.id, .int .i64 o.kind, .int .i64 o.up, .int .i64 o.b1, .slice o.c1.a o.c1.n o.c1.k, .string o.data, .slice o.items.a o.items.n o.items.k, .slice o.own.a o.own.n o.own.k, .int .i64 o.b2, .slice o.c2.a o.c2.n o.c2.k] 88))
    have S5 := hid VL.out.size
    obtain ⟨bx0, bx1⟩ := (BX.out _ V5.out).1.two
    obtain ⟨bs0, bs1, bs2, bs3, bs4, bs5, bs6, bs7, bs8, bs9⟩ := (BX.out _ V5.out).2.1.ten
    obtain ⟨br0, br1⟩ := (BX.out _ V5.out).2.2.1.two
    have brf := (BX.out _ V5.out).2.2.1.warm
    obtain ⟨by0, by1, by2, by3, by4, by5, by6⟩ := (BX.out _ V5.out).2.2.2.1.seven
    obtain ⟨o0, o1, o2, o3, o4, o5, o6, o7, o8, o9⟩ := O5.out.ten
    go_wp2_with fail
    clear x0 x1 s0 s1 s2 s3 s4 s5 s6 s7 s8 s9 r0 r1 rf y0 y1 y2 y3 y4 y5 y6 q0 q1 q2 q3 q4 q5 q6 q7 q8 q9 bx0 bx1 bs0 bs1 bs2 bs3 bs4 bs5 bs6 bs7 bs8 bs9 br0 br1 brf by0 by1 by2 by3 by4 by5 by6 o0 o1 o2 o3 o4 o5 o6 o7 o8 o9 VL
    generalize (w3.alloc (.cells #[.int .i64 o.id, .int .i64 o.kind, .int .i64 o.up, .int .i64 o.b1, .slice o.c1.a o.c1.n o.c1.k, .string o.data, .slice o.items.a o.items.n o.items.k, .slice o.own.a o.own.n o.own.k, .int .i64 o.b2, .slice o.c2.a o.c2.n o.c2.k] 88)) = W5 at *
    generalize w3.heap.size = Q at *
    have OB : Hid (∀ W, Below W5.heap.size W5 W → Blk W Q (.cells #[.int .i64 o.id, .int .i64 o.kind, .int .i64 o.up, .int .i64 o.b1, .slice o.c1.a o.c1.n o.c1.k, .string o.data, .slice o.items.a o.items.n o.items.k, .slice o.own.a o.own.n o.own.k, .int .i64 o.b2, .slice o.c2.a o.c2.n o.c2.k] 88)) := hid (fun W hW => O5.out.below hW)
    have VW : Hid (∀ W, Below W5.heap.size W5 W → Below V.heap.size V W) := hid (fun W hW => then_ V5.out hW)
    have Z5 := hid (Below.refl W5.heap.size W5)
    have nR : ¬ w.heap.size + 1 + 1 = Q := by have h1 := (BX.out _ (Below.refl V.heap.size V)).2.2.1.lt; have h2 := S5.out; omega
    refine (F3.out _ V5.out).mono ?_
    rintro e w6 ⟨v, rfl, rfl, hb6⟩
    have V6 := hid hb6
    clear hb6
    obtain ⟨x0, x1⟩ := (BX.out _ (VW.out _ V6.out)).1.two
    obtain ⟨s0, s1, s2, s3, s4, s5, s6, s7, s8, s9⟩ := (BX.out _ (VW.out _ V6.out)).2.1.ten
    obtain ⟨r0, r1⟩ := (BX.out _ (VW.out _ V6.out)).2.2.1.two
    have rf := (BX.out _ (VW.out _ V6.out)).2.2.1.warm
    obtain ⟨y0, y1, y2, y3, y4, y5, y6⟩ := (BX.out _ (VW.out _ V6.out)).2.2.2.1.seven
    obtain ⟨q0, q1, q2, q3, q4, q5, q6, q7, q8, q9⟩ := OC.out _ (VW.out _ V6.out)
    obtain ⟨o0, o1, o2, o3, o4, o5, o6, o7, o8, o9⟩ := (OB.out _ V6.out).ten
    cases c3 with
    | false =>
     go_wp2
     have RB := hid (BX.out _ (VW.out _ V6.out)).2.2.1
     have KB := hid (BX.out _ (VW.out _ V6.out)).2.2.2.2
     refine bodyPost_ret (self_results _ _ (w.heap.size + 1 + 1) 6 _ _ _ _ Tryz.results79 ((RB.out.setAt (i := 0) _).setAt (i := 1) _) rfl rfl rfl) rfl ⟨lt, lo, 4, _, rfl, ?_, ?_, .k6 rfl (.inr ⟨u, UB.out, .inl ⟨CB.out, rfl, rfl, rfl, rfl⟩⟩)⟩
     ·exact (KB.out.set RB.out (.inl rfl) _).set (RB.out.setAt (i := 0) _) (.inl rfl) _
     ·exact ((LB.out _ (VW.out _ V6.out)).setCell (by dsimp only; omega) _).setCell (by dsimp only; omega) _
    | true =>
    have KB := hid (BX.out _ (VW.out _ V6.out)).2.2.2.2
    have GF := hid (KB.out.setData (d := dat) ul EO.out)
    have gf := GF.out.2.1.choose_spec.warm
    have qs : q < w.heap.size := QS.out
    have n1 : ¬ q = w.heap.size := by omega
    have n2 : ¬ q = w.heap.size + 1 := by omega
    have n3 : ¬ q = w.heap.size + 1 + 1 := by omega
    have RB := hid ((BX.out _ (VW.out _ V6.out)).2.2.1.other (Q := q) n3 (i := u * 10 + 5) (.string dat))
    go_wp2
    refine bodyPost_ret (self_results _ _ (w.heap.size + 1 + 1) 6 _ _ _ _ Tryz.results79 ((RB.out.setAt (i := 0) _).setAt (i := 1) _) rfl rfl rfl) rfl ⟨lt, lo.set u ⟨o.id, o.kind, o.up, o.b1, o.c1, dat, o.items, o.own, o.b2, o.c2⟩, 0, _, rfl, ?_, ?_, .k6 rfl (.inr ⟨u, UB.out, .inr ⟨CB.out, rfl, rfl, rfl, by rw [EA.out]⟩⟩)⟩
    ·exact (GF.out.1.set RB.out (.inl rfl) _).set (RB.out.setAt (i := 0) _) (.inl rfl) _
    ·exact (((LB.out _ (VW.out _ V6.out)).setCell (by dsimp only; exact GF.out.2.2) _).setCell (by dsimp only; omega) _).setCell (by dsimp only; omega) _
   ·subst e
    have ew : wn = 1 := WN.out
    subst ew
    have VL := hid H2
    clear H1 H2 F1 F2 E1 E2 D0 V1 V0
    obtain ⟨x0, x1⟩ := (BX.out _ VL.out).1.two
    obtain ⟨s0, s1, s2, s3, s4, s5, s6, s7, s8, s9⟩ := (BX.out _ VL.out).2.1.ten
    obtain ⟨r0, r1⟩ := (BX.out _ VL.out).2.2.1.two
    have rf := (BX.out _ VL.out).2.2.1.warm
    obtain ⟨y0, y1, y2, y3, y4, y5, y6⟩ := (BX.out _ VL.out).2.2.2.1.seven
    obtain ⟨q0, q1, q2, q3, q4, q5, q6, q7, q8, q9⟩ := OC.out _ VL.out
    have V5 := hid (VL.out.alloc VL.out.size (.cells #[.int .i64 o.id, .int .i64 o.kind, .int .i64 o.up, .int .i64 o.b1, .slice o.c1.a o.c1.n o.c1.k, .string o.data, .slice o.items.a o.items.n o.items.k, .slice o.own.a o.own.n o.own.k, .int .i64 o.b2, .slice o.c2.a o.c2.n o.c2.k] 88))
    have O5 := hid (Blk.new w3 (.cells #[.int .i64 o.id, .int .i64 o.kind, .int .i64 o.up, .int .i64 o.b1, .slice o.c1.a o.c1.n o.c1.k, .string o.data, .slice o.items.a o.items.n o.items.k, .slice o.own.a o.own.n o.own.k, .int .i64 o.b2, .slice o.c2.a o.c2.n o.c2.k] 88))
    have S5 := hid VL.out.size
    obtain ⟨bx0, bx1⟩ := (BX.out _ V5.out).1.two
    obtain ⟨bs0, bs1, bs2, bs3, bs4, bs5, bs6, bs7, bs8, bs9⟩ := (BX.out _ V5.out).2.1.ten
    obtain ⟨br0, br1⟩ := (BX.out _ V5.out).2.2.1.two
    have brf := (BX.out _ V5.out).2.2.1.warm
    obtain ⟨by0, by1, by2, by3, by4, by5, by6⟩ := (BX.out _ V5.out).2.2.2.1.seven
    obtain ⟨o0, o1, o2, o3, o4, o5, o6, o7, o8, o9⟩ := O5.out.ten
    go_wp2_with fail
    clear x0 x1 s0 s1 s2 s3 s4 s5 s6 s7 s8 s9 r0 r1 rf y0 y1 y2 y3 y4 y5 y6 q0 q1 q2 q3 q4 q5 q6 q7 q8 q9 bx0 bx1 bs0 bs1 bs2 bs3 bs4 bs5 bs6 bs7 bs8 bs9 br0 br1 brf by0 by1 by2 by3 by4 by5 by6 o0 o1 o2 o3 o4 o5 o6 o7 o8 o9 VL
    generalize (w3.alloc (.cells #[.int .i64 o.id, .int .i64 o.kind, .int .i64 o.up, .int .i64 o.b1, .slice o.c1.a o.c1.n o.c1.k, .string o.data, .slice o.items.a o.items.n o.items.k, .slice o.own.a o.own.n o.own.k, .int .i64 o.b2, .slice o.c2.a o.c2.n o.c2.k] 88)) = W5 at *
    generalize w3.heap.size = Q at *
    have OB : Hid (∀ W, Below W5.heap.size W5 W → Blk W Q (.cells #[.int .i64 o.id, .int .i64 o.kind, .int .i64 o.up, .int .i64 o.b1, .slice o.c1.a o.c1.n o.c1.k, .string o.data, .slice o.items.a o.items.n o.items.k, .slice o.own.a o.own.n o.own.k, .int .i64 o.b2, .slice o.c2.a o.c2.n o.c2.k] 88)) := hid (fun W hW => O5.out.below hW)
    have VW : Hid (∀ W, Below W5.heap.size W5 W → Below V.heap.size V W) := hid (fun W hW => then_ V5.out hW)
    have Z5 := hid (Below.refl W5.heap.size W5)
    have nR : ¬ w.heap.size + 1 + 1 = Q := by have h1 := (BX.out _ (Below.refl V.heap.size V)).2.2.1.lt; have h2 := S5.out; omega
    have DR := hid (below_drew Z5.out)
    refine wp_region_G 6 (fun W => Blk W w.heap.size (.cells #[.slice (some ⟨g, 0, none⟩) lt.length ca, .slice (some ⟨q, 0, none⟩) lo.length co] 42) ∧ Blk W Q (.cells #[.int .i64 o.id, .int .i64 o.kind, .int .i64 o.up, .int .i64 o.b1, .slice o.c1.a o.c1.n o.c1.k, .string o.data, .slice o.items.a o.items.n o.items.k, .slice o.own.a o.own.n o.own.k, .int .i64 o.b2, .slice o.c2.a o.c2.n o.c2.k] 88)) (by kernel_rfl) ?_
    refine tq 0 94 (.agg #[.slice (some ⟨g, 0, none⟩) lt.length ca, .slice (some ⟨q, 0, none⟩) lo.length co]) ⟨(BX.out _ (VW.out _ DR.out)).1, OB.out _ DR.out⟩ ?_ (hy := fun W h => by obtain ⟨z0, z1⟩ := h.1.two; go_simp)
    simp only [ap, List.set]
    refine tq 1 95 (.pointer (some ⟨Q, 5, none⟩)) ⟨(BX.out _ (VW.out _ DR.out)).1, OB.out _ DR.out⟩ ?_
    simp only [ap, List.set]
    refine tq 2 96 (.string o.data) ⟨(BX.out _ (VW.out _ DR.out)).1, OB.out _ DR.out⟩ ?_ (hy := fun W h => by obtain ⟨z0, z1, z2, z3, z4, z5, z6, z7, z8, z9⟩ := h.2.ten; go_simp)
    simp only [ap, List.set]
    generalize W5.drew = WD at *
    have RD := hid (BX.out _ (VW.out _ DR.out)).2.2.1
    obtain ⟨r0, r1⟩ := RD.out.two
    have rf := RD.out.warm
    refine wpAnyG_one (i := 3) (by kernel_rfl) rfl ?_
    intro K hK
    go_simp
    refine hK.out _ _ (fun _ => ⟨((BX.out _ (VW.out _ DR.out)).1.other (by omega) _).other (by omega) _, ((OB.out _ DR.out).other nR _).other nR _⟩) ?_
    clear hK K
    try simp only [ap, List.set]
    refine tq 4 7 (.int .i64 0) ⟨((BX.out _ (VW.out _ DR.out)).1.other (by omega) _).other (by omega) _, ((OB.out _ DR.out).other nR _).other nR _⟩ ?_
    simp only [ap, List.set]
    refine tq 5 8 (.string o.data) ⟨((BX.out _ (VW.out _ DR.out)).1.other (by omega) _).other (by omega) _, ((OB.out _ DR.out).other nR _).other nR _⟩ ?_
    simp only [ap, List.set]
    refine wpAnyG_done (by kernel_rfl) ?_ _
    have KB := hid (BX.out _ (VW.out _ DR.out)).2.2.2.2
    have LD := hid (LB.out _ (VW.out _ DR.out))
    clear r0 r1 rf
    go_wp2
    refine bodyPost_ret (self_results _ _ (w.heap.size + 1 + 1) 6 _ _ _ _ Tryz.results79 ((RD.out.setAt (i := 0) _).setAt (i := 1) _) rfl rfl rfl) rfl ⟨lt, lo, 0, _, rfl, ?_, ?_, .k7 rfl (.inr ⟨u, UB.out, rfl, by rw [EA.out], rfl, rfl⟩)⟩
    ·exact (KB.out.set RD.out (.inl rfl) _).set (RD.out.setAt (i := 0) _) (.inl rfl) _
    ·exact (LD.out.setCell (by dsimp only; omega) _).setCell (by dsimp only; omega) _
   ·subst e
    have ew : wn = 1 := WN.out
    subst ew
    have VL := hid H2
    clear H1 H2 F1 F2 E1 E2 D0 V1 V0
    obtain ⟨x0, x1⟩ := (BX.out _ VL.out).1.two
    obtain ⟨s0, s1, s2, s3, s4, s5, s6, s7, s8, s9⟩ := (BX.out _ VL.out).2.1.ten
    obtain ⟨r0, r1⟩ := (BX.out _ VL.out).2.2.1.two
    have rf := (BX.out _ VL.out).2.2.1.warm
    obtain ⟨y0, y1, y2, y3, y4, y5, y6⟩ := (BX.out _ VL.out).2.2.2.1.seven
    obtain ⟨q0, q1, q2, q3, q4, q5, q6, q7, q8, q9⟩ := OC.out _ VL.out
    have V5 := hid (VL.out.alloc VL.out.size (.cells #[.int .i64 o.id, .int .i64 o.kind, .int .i64 o.up, .int .i64 o.b1, .slice o.c1.a o.c1.n o.c1.k, .string o.data, .slice o.items.a o.items.n o.items.k, .slice o.own.a o.own.n o.own.k, .int .i64 o.b2, .slice o.c2.a o.c2.n o.c2.k] 88))
    have O5 := hid (Blk.new w3 (.cells #[.int .i64 o.id, .int .i64 o.kind, .int .i64 o.up, .int .i64 o.b1, .slice o.c1.a o.c1.n o.c1.k, .string o.data, .slice o.items.a o.items.n o.items.k, .slice o.own.a o.own.n o.own.k, .int .i64 o.b2, .slice o.c2.a o.c2.n o.c2.k] 88))
    have S5 := hid VL.out.size
    obtain ⟨bx0, bx1⟩ := (BX.out _ V5.out).1.two
    obtain ⟨bs0, bs1, bs2, bs3, bs4, bs5, bs6, bs7, bs8, bs9⟩ := (BX.out _ V5.out).2.1.ten
    obtain ⟨br0, br1⟩ := (BX.out _ V5.out).2.2.1.two
    have brf := (BX.out _ V5.out).2.2.1.warm
    obtain ⟨by0, by1, by2, by3, by4, by5, by6⟩ := (BX.out _ V5.out).2.2.2.1.seven
    obtain ⟨o0, o1, o2, o3, o4, o5, o6, o7, o8, o9⟩ := O5.out.ten
    go_wp2_with fail
    clear x0 x1 s0 s1 s2 s3 s4 s5 s6 s7 s8 s9 r0 r1 rf y0 y1 y2 y3 y4 y5 y6 q0 q1 q2 q3 q4 q5 q6 q7 q8 q9 bx0 bx1 bs0 bs1 bs2 bs3 bs4 bs5 bs6 bs7 bs8 bs9 br0 br1 brf by0 by1 by2 by3 by4 by5 by6 o0 o1 o2 o3 o4 o5 o6 o7 o8 o9 VL
    generalize (w3.alloc (.cells #[.int .i64 o.id, .int .i64 o.kind, .int .i64 o.up, .int .i64 o.b1, .slice o.c1.a o.c1.n o.c1.k, .string o.data, .slice o.items.a o.items.n o.items.k, .slice o.own.a o.own.n o.own.k, .int .i64 o.b2, .slice o.c2.a o.c2.n o.c2.k] 88)) = W5 at *
    generalize w3.heap.size = Q at *
    have OB : Hid (∀ W, Below W5.heap.size W5 W → Blk W Q (.cells #[.int .i64 o.id, .int .i64 o.kind, .int .i64 o.up, .int .i64 o.b1, .slice o.c1.a o.c1.n o.c1.k, .string o.data, .slice o.items.a o.items.n o.items.k, .slice o.own.a o.own.n o.own.k, .int .i64 o.b2, .slice o.c2.a o.c2.n o.c2.k] 88)) := hid (fun W hW => O5.out.below hW)
    have VW : Hid (∀ W, Below W5.heap.size W5 W → Below V.heap.size V W) := hid (fun W hW => then_ V5.out hW)
    have Z5 := hid (Below.refl W5.heap.size W5)
    have nR : ¬ w.heap.size + 1 + 1 = Q := by have h1 := (BX.out _ (Below.refl V.heap.size V)).2.2.1.lt; have h2 := S5.out; omega
    refine (find_v (BX.out _ (VW.out _ Z5.out)).2.2.2.2 hl1 (by omega) hd to_).mono ?_
    rintro e w6 ⟨rfl, hb6⟩
    have D6 := hid (below_drew (then_ Z5.out hb6))
    clear hb6
    cases hp : atL lo to_ with
    | none =>
     have HP := hid hp
     simp only [idxI]
     have j3 : decide (((-1 : Int)) < 0) = true := rfl
     go_wp2_with fail
     refine wp_region_G 22 (fun W => Below W5.heap.size W5 W) (by kernel_rfl) ?_
     refine tq 0 103 (.int .i64 (-1)) D6.out ?_
     simp only [ap, List.set]
     refine tq 1 104 (.bool true) D6.out ?_
     simp only [ap, List.set]
     refine tq 2 105 (.bool true) D6.out ?_
     simp only [ap, List.set]
     refine sks 7 [(3, 106), (4, 107), (5, 108), (6, 109), (7, 110), (8, 111), (9, 112)] rfl (by kernel_rfl) D6.out ?_
     simp only [putsU, ap, List.set]
     refine tq 10 113 (.bool true) D6.out ?_
     simp only [ap, List.set]
     refine tq 11 114 (.bool true) D6.out ?_
     simp only [ap, List.set]
     refine sks 9 [(12, 115), (13, 116), (14, 117), (15, 118), (16, 119), (17, 120), (18, 121), (19, 122), (20, 123)] rfl (by kernel_rfl) D6.out ?_
     simp only [putsU, ap, List.set]
     refine tq 21 124 (.bool true) D6.out ?_
     simp only [ap, List.set]
     refine wpAnyG_done (by kernel_rfl) ?_ _
     have V6 := hid (D6.out)
     clear D6
     generalize w6.drew = wd at *
     obtain ⟨x0, x1⟩ := (BX.out _ (VW.out _ V6.out)).1.two
     obtain ⟨s0, s1, s2, s3, s4, s5, s6, s7, s8, s9⟩ := (BX.out _ (VW.out _ V6.out)).2.1.ten
     obtain ⟨r0, r1⟩ := (BX.out _ (VW.out _ V6.out)).2.2.1.two
     have rf := (BX.out _ (VW.out _ V6.out)).2.2.1.warm
     obtain ⟨y0, y1, y2, y3, y4, y5, y6⟩ := (BX.out _ (VW.out _ V6.out)).2.2.2.1.seven
     go_wp2
     have RB := hid (BX.out _ (VW.out _ V6.out)).2.2.1
     have KB := hid (BX.out _ (VW.out _ V6.out)).2.2.2.2
     refine bodyPost_ret (self_results _ _ (w.heap.size + 1 + 1) 6 _ _ _ _ Tryz.results79 ((RB.out.setAt (i := 0) _).setAt (i := 1) _) rfl rfl rfl) rfl ⟨lt, lo, 4, _, rfl, ?_, ?_, .k8 rfl (.inr ⟨u, UB.out, .inl ⟨HP.out, rfl, rfl, rfl, rfl⟩⟩)⟩
     ·exact (KB.out.set RB.out (.inl rfl) _).set (RB.out.setAt (i := 0) _) (.inl rfl) _
     ·exact ((LB.out _ (VW.out _ V6.out)).setCell (by dsimp only; omega) _).setCell (by dsimp only; omega) _
    | some p =>
     obtain ⟨pl, ep⟩ := atL_some hp
     obtain ⟨b, hb⟩ : ∃ o, o = lo[p] := ⟨_, rfl⟩
     have EP : Hid (atOwnOb lo p = b) := hid (by rw [hb]; simp [atOwnOb, pl])
     have HOb := hid (hO _ (List.getElem_mem pl))
     have EB := hid hb
     rw [← hb] at HOb
     have HP := hid hp
     simp only [idxI]
     clear hp hb ep
     have j3 : decide (((p : Nat) : Int) < 0) = false := decide_eq_false (by omega)
     have j4 : (p : Int) < (lo.length : Int) := by omega
     have j5 : (0 : Int) ≤ (p : Int) := by omega
     have PC : Hid (∀ W, Below V.heap.size V W → W.cell? ⟨q, p * 10, none⟩ = some (.int .i64 b.id) ∧ W.cell? ⟨q, p * 10 + 1, none⟩ = some (.int .i64 b.kind) ∧ W.cell? ⟨q, p * 10 + 2, none⟩ = some (.int .i64 b.up) ∧ W.cell? ⟨q, p * 10 + 3, none⟩ = some (.int .i64 b.b1) ∧ W.cell? ⟨q, p * 10 + 4, none⟩ = some (.slice b.c1.a b.c1.n b.c1.k) ∧ W.cell? ⟨q, p * 10 + 5, none⟩ = some (.string b.data) ∧ W.cell? ⟨q, p * 10 + 6, none⟩ = some (.slice b.items.a b.items.n b.items.k) ∧ W.cell? ⟨q, p * 10 + 7, none⟩ = some (.slice b.own.a b.own.n b.own.k) ∧ W.cell? ⟨q, p * 10 + 8, none⟩ = some (.int .i64 b.b2) ∧ W.cell? ⟨q, p * 10 + 9, none⟩ = some (.slice b.c2.a b.c2.n b.c2.k)) := hid (fun W hW => by
      have C := ((BX.out _ hW).2.2.2.2.cell10 pl hd).1
      rw [← EB.out] at C
      exact ⟨C.c0, C.c1, C.c2, C.c3, C.c4, C.c5, C.c6, C.c7, C.c8, C.c9⟩)
     have E3 : Hid (∀ args w, (callFunc 93 args).run Tryz.prog w = .ok (.enter 93 args) w) := hid (enters_of Tryz.func93 (by kernel_rfl) rfl)
     have F4 : Hid (∀ W, Below V.heap.size V W → Calls Tryz.prog 93 #[.agg #[.int .i64 X.id, .int .i64 X.b1, .slice X.c1.a X.c1.n X.c1.k, .int .i64 X.b2, .slice X.c2.a X.c2.n X.c2.k, .slice X.own.a X.own.n X.own.k, .int .i64 X.made], .agg #[.int .i64 b.b1, .slice b.c1.a b.c1.n b.c1.k]] W fun e w' => ∃ v, e = .returned v ∧ (v = .bool (changesB X b.b1 b.c1) ∧ Below W.heap.size W w')) := hid (fun W hV => calls_v <| changes_v X b.b1 b.c1 W (XA.out.below (LW.out _ hV)) xs ra (by
      have := ((BX.out _ hV).2.2.2.2.on _ (List.getElem_mem pl)).1.1
      rw [← EB.out] at this
      exact this) HOb.out.1 HOb.out.2)
     have CB : Hid (changesB X (atOwnOb lo p).b1 (atOwnOb lo p).c1 = changesB X b.b1 b.c1) := hid (by rw [EP.out])
     generalize changesB X b.b1 b.c1 = c3 at *
     by_cases k5 : b.kind = 1
     ·have k6 : (b.kind == 1) = true := by simpa using k5
      have k7 : (b.kind != 1) = false := by simp [k5]
      have K5 : Hid ((atOwnOb lo p).kind = 1) := hid (by rw [EP.out]; exact k5)
      clear k5
      cases c3 with
      | false =>
       go_wp2_with fail
       refine wp_region_G 22 (fun W => Below W5.heap.size W5 W) (by kernel_rfl) ?_
       refine tq 0 103 (.int .i64 p) D6.out ?_
       simp only [ap, List.set]
       refine tq 1 104 (.bool false) D6.out ?_
       simp only [ap, List.set]
       refine tq 2 105 (.bool false) D6.out ?_
       simp only [ap, List.set]
       refine tq 3 106 (.pointer (some ⟨w.heap.size, 1, none⟩)) D6.out ?_
       simp only [ap, List.set]
       refine tq 4 107 (.slice (some ⟨q, 0, none⟩) lo.length co) D6.out ?_ (hy := fun W h => by obtain ⟨z0, z1⟩ := (BX.out W (VW.out _ h)).1.two; go_simp)
       simp only [ap, List.set]
       refine tq 5 108 (.int .i64 p) D6.out ?_
       simp only [ap, List.set]
       refine tq 6 109 (.pointer (some ⟨q, p * 10, none⟩)) D6.out ?_
       simp only [ap, List.set]
       refine tq 7 110 (.pointer (some ⟨q, p * 10 + 1, none⟩)) D6.out ?_
       simp only [ap, List.set]
       refine tq 8 111 (.int .i64 b.kind) D6.out ?_ (hy := fun W h => by obtain ⟨z0, z1, z2, z3, z4, z5, z6, z7, z8, z9⟩ := PC.out W (VW.out _ h); go_simp)
       simp only [ap, List.set]
       refine tq 9 112 (.bool false) D6.out ?_
       simp only [ap, List.set]
       refine tq 10 113 (.bool false) D6.out ?_
       simp only [ap, List.set]
       refine tq 11 114 (.bool false) D6.out ?_
       simp only [ap, List.set]
       refine tq 12 115 (.agg #[.int .i64 X.id, .int .i64 X.b1, .slice X.c1.a X.c1.n X.c1.k, .int .i64 X.b2, .slice X.c2.a X.c2.n X.c2.k, .slice X.own.a X.own.n X.own.k, .int .i64 X.made]) D6.out ?_ (hy := fun W h => by obtain ⟨z0, z1, z2, z3, z4, z5, z6⟩ := (BX.out W (VW.out _ h)).2.2.2.1.seven; go_simp)
       simp only [ap, List.set]
       refine tq 13 116 (.pointer (some ⟨w.heap.size, 1, none⟩)) D6.out ?_
       simp only [ap, List.set]
       refine tq 14 117 (.slice (some ⟨q, 0, none⟩) lo.length co) D6.out ?_ (hy := fun W h => by obtain ⟨z0, z1⟩ := (BX.out W (VW.out _ h)).1.two; go_simp)
       simp only [ap, List.set]
       refine tq 15 118 (.int .i64 p) D6.out ?_
       simp only [ap, List.set]
       refine tq 16 119 (.pointer (some ⟨q, p * 10, none⟩)) D6.out ?_
       simp only [ap, List.set]
       refine tq 17 120 (.pointer (some ⟨q, p * 10 + 3, none⟩)) D6.out ?_
       simp only [ap, List.set]
       refine tq 18 121 (.agg #[.int .i64 b.b1, .slice b.c1.a b.c1.n b.c1.k]) D6.out ?_ (hy := fun W h => by obtain ⟨z0, z1, z2, z3, z4, z5, z6, z7, z8, z9⟩ := PC.out W (VW.out _ h); go_simp)
       simp only [ap, List.set]
       refine wpAnyG_one (i := 19) (by kernel_rfl) rfl ?_
       intro K hK
       refine step_call2g (by rfl) 93 _ _ _ (by rfl) E3.out _ _ (by rfl) (by rfl) (some 122) (by rfl) _ (F4.out _ (VW.out _ D6.out)) ?_
       rintro v w7 ⟨rfl, hb⟩
       have H1 := then_ D6.out hb
       refine hK.out _ _ (fun _ => H1) ?_
       clear hK K hb
       simp only [ap, List.set]
       refine tq 20 123 (.bool true) H1 ?_
       simp only [ap, List.set]
       refine tq 21 124 (.bool true) H1 ?_
       simp only [ap, List.set]
       refine wpAnyG_done (by kernel_rfl) ?_ _
       have V6 := hid (H1)
       obtain ⟨x0, x1⟩ := (BX.out _ (VW.out _ V6.out)).1.two
       obtain ⟨s0, s1, s2, s3, s4, s5, s6, s7, s8, s9⟩ := (BX.out _ (VW.out _ V6.out)).2.1.ten
       obtain ⟨r0, r1⟩ := (BX.out _ (VW.out _ V6.out)).2.2.1.two
       have rf := (BX.out _ (VW.out _ V6.out)).2.2.1.warm
       obtain ⟨y0, y1, y2, y3, y4, y5, y6⟩ := (BX.out _ (VW.out _ V6.out)).2.2.2.1.seven
       go_wp2
       have RB := hid (BX.out _ (VW.out _ V6.out)).2.2.1
       have KB := hid (BX.out _ (VW.out _ V6.out)).2.2.2.2
       refine bodyPost_ret (self_results _ _ (w.heap.size + 1 + 1) 6 _ _ _ _ Tryz.results79 ((RB.out.setAt (i := 0) _).setAt (i := 1) _) rfl rfl rfl) rfl ⟨lt, lo, 4, _, rfl, ?_, ?_, .k8 rfl (.inr ⟨u, UB.out, .inr ⟨p, HP.out, .inl ⟨.inr CB.out, rfl, rfl, rfl, rfl⟩⟩⟩)⟩
       ·exact (KB.out.set RB.out (.inl rfl) _).set (RB.out.setAt (i := 0) _) (.inl rfl) _
       ·exact ((LB.out _ (VW.out _ V6.out)).setCell (by dsimp only; omega) _).setCell (by dsimp only; omega) _
      | true =>
       go_wp2_with fail
       refine wp_region_G 22 (fun W => Below W5.heap.size W5 W) (by kernel_rfl) ?_
       refine tq 0 103 (.int .i64 p) D6.out ?_
       simp only [ap, List.set]
       refine tq 1 104 (.bool false) D6.out ?_
       simp only [ap, List.set]
       refine tq 2 105 (.bool false) D6.out ?_
       simp only [ap, List.set]
       refine tq 3 106 (.pointer (some ⟨w.heap.size, 1, none⟩)) D6.out ?_
       simp only [ap, List.set]
       refine tq 4 107 (.slice (some ⟨q, 0, none⟩) lo.length co) D6.out ?_ (hy := fun W h => by obtain ⟨z0, z1⟩ := (BX.out W (VW.out _ h)).1.two; go_simp)
       simp only [ap, List.set]
       refine tq 5 108 (.int .i64 p) D6.out ?_
       simp only [ap, List.set]
       refine tq 6 109 (.pointer (some ⟨q, p * 10, none⟩)) D6.out ?_
       simp only [ap, List.set]
       refine tq 7 110 (.pointer (some ⟨q, p * 10 + 1, none⟩)) D6.out ?_
       simp only [ap, List.set]
       refine tq 8 111 (.int .i64 b.kind) D6.out ?_ (hy := fun W h => by obtain ⟨z0, z1, z2, z3, z4, z5, z6, z7, z8, z9⟩ := PC.out W (VW.out _ h); go_simp)
       simp only [ap, List.set]
       refine tq 9 112 (.bool false) D6.out ?_
       simp only [ap, List.set]
       refine tq 10 113 (.bool false) D6.out ?_
       simp only [ap, List.set]
       refine tq 11 114 (.bool false) D6.out ?_
       simp only [ap, List.set]
       refine tq 12 115 (.agg #[.int .i64 X.id, .int .i64 X.b1, .slice X.c1.a X.c1.n X.c1.k, .int .i64 X.b2, .slice X.c2.a X.c2.n X.c2.k, .slice X.own.a X.own.n X.own.k, .int .i64 X.made]) D6.out ?_ (hy := fun W h => by obtain ⟨z0, z1, z2, z3, z4, z5, z6⟩ := (BX.out W (VW.out _ h)).2.2.2.1.seven; go_simp)
       simp only [ap, List.set]
       refine tq 13 116 (.pointer (some ⟨w.heap.size, 1, none⟩)) D6.out ?_
       simp only [ap, List.set]
       refine tq 14 117 (.slice (some ⟨q, 0, none⟩) lo.length co) D6.out ?_ (hy := fun W h => by obtain ⟨z0, z1⟩ := (BX.out W (VW.out _ h)).1.two; go_simp)
       simp only [ap, List.set]
       refine tq 15 118 (.int .i64 p) D6.out ?_
       simp only [ap, List.set]
       refine tq 16 119 (.pointer (some ⟨q, p * 10, none⟩)) D6.out ?_
       simp only [ap, List.set]
       refine tq 17 120 (.pointer (some ⟨q, p * 10 + 3, none⟩)) D6.out ?_
       simp only [ap, List.set]
       refine tq 18 121 (.agg #[.int .i64 b.b1, .slice b.c1.a b.c1.n b.c1.k]) D6.out ?_ (hy := fun W h => by obtain ⟨z0, z1, z2, z3, z4, z5, z6, z7, z8, z9⟩ := PC.out W (VW.out _ h); go_simp)
       simp only [ap, List.set]
       refine wpAnyG_one (i := 19) (by kernel_rfl) rfl ?_
       intro K hK
       refine step_call2g (by rfl) 93 _ _ _ (by rfl) E3.out _ _ (by rfl) (by rfl) (some 122) (by rfl) _ (F4.out _ (VW.out _ D6.out)) ?_
       rintro v w7 ⟨rfl, hb⟩
       have H1 := then_ D6.out hb
       refine hK.out _ _ (fun _ => H1) ?_
       clear hK K hb
       simp only [ap, List.set]
       refine tq 20 123 (.bool false) H1 ?_
       simp only [ap, List.set]
       refine tq 21 124 (.bool false) H1 ?_
       simp only [ap, List.set]
       refine wpAnyG_done (by kernel_rfl) ?_ _
       have V6 := hid H1
       clear H1 D6
       generalize w7 = w7 at *
       obtain ⟨x0, x1⟩ := (BX.out _ (VW.out _ V6.out)).1.two
       obtain ⟨s0, s1, s2, s3, s4, s5, s6, s7, s8, s9⟩ := (BX.out _ (VW.out _ V6.out)).2.1.ten
       obtain ⟨r0, r1⟩ := (BX.out _ (VW.out _ V6.out)).2.2.1.two
       have rf := (BX.out _ (VW.out _ V6.out)).2.2.1.warm
       obtain ⟨y0, y1, y2, y3, y4, y5, y6⟩ := (BX.out _ (VW.out _ V6.out)).2.2.2.1.seven
       obtain ⟨o0, o1, o2, o3, o4, o5, o6, o7, o8, o9⟩ := (OB.out _ V6.out).ten
       have KB := hid (BX.out _ (VW.out _ V6.out)).2.2.2.2
       have GF := hid (KB.out.setData (d := o.data) pl EB.out)
       have gf := GF.out.2.1.choose_spec.warm
       obtain ⟨q0, q1, q2, q3, q4, q5, q6, q7, q8, q9⟩ := PC.out _ (VW.out _ V6.out)
       have qs : q < w.heap.size := QS.out
       have n1 : ¬ q = w.heap.size := by omega
       have n2 : ¬ q = w.heap.size + 1 := by omega
       have n3 : ¬ q = w.heap.size + 1 + 1 := by omega
       have RB := hid ((BX.out _ (VW.out _ V6.out)).2.2.1.other (Q := q) n3 (i := p * 10 + 5) (.string o.data))
       go_wp2
       refine bodyPost_ret (self_results _ _ (w.heap.size + 1 + 1) 6 _ _ _ _ Tryz.results79 ((RB.out.setAt (i := 0) _).setAt (i := 1) _) rfl rfl rfl) rfl ⟨lt, lo.set p ⟨b.id, b.kind, b.up, b.b1, b.c1, o.data, b.items, b.own, b.b2, b.c2⟩, 0, _, rfl, ?_, ?_, .k8 rfl (.inr ⟨u, UB.out, .inr ⟨p, HP.out, .inr ⟨K5.out, CB.out, rfl, rfl, rfl, by rw [EP.out, EA.out]⟩⟩⟩)⟩
       ·exact (GF.out.1.set RB.out (.inl rfl) _).set (RB.out.setAt (i := 0) _) (.inl rfl) _
       ·exact (((LB.out _ (VW.out _ V6.out)).setCell (by dsimp only; exact GF.out.2.2) _).setCell (by dsimp only; omega) _).setCell (by dsimp only; omega) _
     ·have k6 : (b.kind == 1) = false := by simpa using k5
      have k7 : (b.kind != 1) = true := by simp [k5]
      have K5 : Hid ((atOwnOb lo p).kind ≠ 1) := hid (by rw [EP.out]; exact k5)
      clear k5
      go_wp2_with fail
      refine wp_region_G 22 (fun W => Below W5.heap.size W5 W) (by kernel_rfl) ?_
      refine tq 0 103 (.int .i64 p) D6.out ?_
      simp only [ap, List.set]
      refine tq 1 104 (.bool false) D6.out ?_
      simp only [ap, List.set]
      refine tq 2 105 (.bool false) D6.out ?_
      simp only [ap, List.set]
      refine tq 3 106 (.pointer (some ⟨w.heap.size, 1, none⟩)) D6.out ?_
      simp only [ap, List.set]
      refine tq 4 107 (.slice (some ⟨q, 0, none⟩) lo.length co) D6.out ?_ (hy := fun W h => by obtain ⟨z0, z1⟩ := (BX.out W (VW.out _ h)).1.two; go_simp)
      simp only [ap, List.set]
      refine tq 5 108 (.int .i64 p) D6.out ?_
      simp only [ap, List.set]
      refine tq 6 109 (.pointer (some ⟨q, p * 10, none⟩)) D6.out ?_
      simp only [ap, List.set]
      refine tq 7 110 (.pointer (some ⟨q, p * 10 + 1, none⟩)) D6.out ?_
      simp only [ap, List.set]
      refine tq 8 111 (.int .i64 b.kind) D6.out ?_ (hy := fun W h => by obtain ⟨z0, z1, z2, z3, z4, z5, z6, z7, z8, z9⟩ := PC.out W (VW.out _ h); go_simp)
      simp only [ap, List.set]
      refine tq 9 112 (.bool true) D6.out ?_
      simp only [ap, List.set]
      refine tq 10 113 (.bool true) D6.out ?_
      simp only [ap, List.set]
      refine tq 11 114 (.bool true) D6.out ?_
      simp only [ap, List.set]
      refine sks 9 [(12, 115), (13, 116), (14, 117), (15, 118), (16, 119), (17, 120), (18, 121), (19, 122), (20, 123)] rfl (by kernel_rfl) D6.out ?_
      simp only [putsU, ap, List.set]
      refine tq 21 124 (.bool true) D6.out ?_
      simp only [ap, List.set]
      refine wpAnyG_done (by kernel_rfl) ?_ _
      have V6 := hid (D6.out)
      clear D6
      generalize w6.drew = wd at *
      obtain ⟨x0, x1⟩ := (BX.out _ (VW.out _ V6.out)).1.two
      obtain ⟨s0, s1, s2, s3, s4, s5, s6, s7, s8, s9⟩ := (BX.out _ (VW.out _ V6.out)).2.1.ten
      obtain ⟨r0, r1⟩ := (BX.out _ (VW.out _ V6.out)).2.2.1.two
      have rf := (BX.out _ (VW.out _ V6.out)).2.2.1.warm
      obtain ⟨y0, y1, y2, y3, y4, y5, y6⟩ := (BX.out _ (VW.out _ V6.out)).2.2.2.1.seven
      go_wp2
      have RB := hid (BX.out _ (VW.out _ V6.out)).2.2.1
      have KB := hid (BX.out _ (VW.out _ V6.out)).2.2.2.2
      refine bodyPost_ret (self_results _ _ (w.heap.size + 1 + 1) 6 _ _ _ _ Tryz.results79 ((RB.out.setAt (i := 0) _).setAt (i := 1) _) rfl rfl rfl) rfl ⟨lt, lo, 4, _, rfl, ?_, ?_, .k8 rfl (.inr ⟨u, UB.out, .inr ⟨p, HP.out, .inl ⟨.inl K5.out, rfl, rfl, rfl, rfl⟩⟩⟩)⟩
      ·exact (KB.out.set RB.out (.inl rfl) _).set (RB.out.setAt (i := 0) _) (.inl rfl) _
      ·exact ((LB.out _ (VW.out _ V6.out)).setCell (by dsimp only; omega) _).setCell (by dsimp only; omega) _
   ·subst e
    have ew : wn = 2 := WN.out
    subst ew
    have F3 : Hid (∀ W, Below V.heap.size V W → Calls Tryz.prog 93 #[.agg #[.int .i64 X.id, .int .i64 X.b1, .slice X.c1.a X.c1.n X.c1.k, .int .i64 X.b2, .slice X.c2.a X.c2.n X.c2.k, .slice X.own.a X.own.n X.own.k, .int .i64 X.made], .agg #[.int .i64 o.b1, .slice o.c1.a o.c1.n o.c1.k]] W fun e w' => ∃ v, e = .returned v ∧ (v = .bool (changesB X o.b1 o.c1) ∧ Below W.heap.size W w')) := hid (fun W hV => calls_v <| changes_v X o.b1 o.c1 W (XA.out.below (LW.out _ hV)) xs ra (by
     have := ((BX.out _ hV).2.2.2.2.on _ (List.getElem_mem ul)).1.1
     rw [← EO.out] at this
     exact this) HO.out.1 HO.out.2)
    have CB : Hid (changesB X (atOwnOb lo u).b1 (atOwnOb lo u).c1 = changesB X o.b1 o.c1) := hid (by rw [EA.out])
    generalize changesB X o.b1 o.c1 = c3 at *
    have VL := hid H2
    clear H1 H2 F1 F2 E1 E2 D0 V1 V0
    obtain ⟨x0, x1⟩ := (BX.out _ VL.out).1.two
    obtain ⟨s0, s1, s2, s3, s4, s5, s6, s7, s8, s9⟩ := (BX.out _ VL.out).2.1.ten
    obtain ⟨r0, r1⟩ := (BX.out _ VL.out).2.2.1.two
    have rf := (BX.out _ VL.out).2.2.1.warm
    obtain ⟨y0, y1, y2, y3, y4, y5, y6⟩ := (BX.out _ VL.out).2.2.2.1.seven
    obtain ⟨q0, q1, q2, q3, q4, q5, q6, q7, q8, q9⟩ := OC.out _ VL.out
    have V5 := hid (VL.out.alloc VL.out.size (.cells #[.int .i64 o.id, .int .i64 o.kind, .int .i64 o.up, .int .i64 o.b1, .slice o.c1.a o.c1.n o.c1.k, .string o.data, .slice o.items.a o.items.n o.items.k, .slice o.own.a o.own.n o.own.k, .int .i64 o.b2, .slice o.c2.a o.c2.n o.c2.k] 88))
    have O5 := hid (Blk.new w3 (.cells #[.int .i64 o.id, .int .i64 o.kind, .int .i64 o.up, .int .i64 o.b1, .slice o.c1.a o.c1.n o.c1.k, .string o.data, .slice o.items.a o.items.n o.items.k, .slice o.own.a o.own.n o.own.k, .int .i64 o.b2, .slice o.c2.a o.c2.n o.c2.k] 88))
    have S5 := hid VL.out.size
    obtain ⟨bx0, bx1⟩ := (BX.out _ V5.out).1.two
    obtain ⟨bs0, bs1, bs2, bs3, bs4, bs5, bs6, bs7, bs8, bs9⟩ := (BX.out _ V5.out).2.1.ten
    obtain ⟨br0, br1⟩ := (BX.out _ V5.out).2.2.1.two
    have brf := (BX.out _ V5.out).2.2.1.warm
    obtain ⟨by0, by1, by2, by3, by4, by5, by6⟩ := (BX.out _ V5.out).2.2.2.1.seven
    obtain ⟨o0, o1, o2, o3, o4, o5, o6, o7, o8, o9⟩ := O5.out.ten
    go_wp2_with fail
    clear x0 x1 s0 s1 s2 s3 s4 s5 s6 s7 s8 s9 r0 r1 rf y0 y1 y2 y3 y4 y5 y6 q0 q1 q2 q3 q4 q5 q6 q7 q8 q9 bx0 bx1 bs0 bs1 bs2 bs3 bs4 bs5 bs6 bs7 bs8 bs9 br0 br1 brf by0 by1 by2 by3 by4 by5 by6 o0 o1 o2 o3 o4 o5 o6 o7 o8 o9 VL
    generalize (w3.alloc (.cells #[.int .i64 o.id, .int .i64 o.kind, .int .i64 o.up, .int .i64 o.b1, .slice o.c1.a o.c1.n o.c1.k, .string o.data, .slice o.items.a o.items.n o.items.k, .slice o.own.a o.own.n o.own.k, .int .i64 o.b2, .slice o.c2.a o.c2.n o.c2.k] 88)) = W5 at *
    generalize w3.heap.size = Q at *
    have OB : Hid (∀ W, Below W5.heap.size W5 W → Blk W Q (.cells #[.int .i64 o.id, .int .i64 o.kind, .int .i64 o.up, .int .i64 o.b1, .slice o.c1.a o.c1.n o.c1.k, .string o.data, .slice o.items.a o.items.n o.items.k, .slice o.own.a o.own.n o.own.k, .int .i64 o.b2, .slice o.c2.a o.c2.n o.c2.k] 88)) := hid (fun W hW => O5.out.below hW)
    have VW : Hid (∀ W, Below W5.heap.size W5 W → Below V.heap.size V W) := hid (fun W hW => then_ V5.out hW)
    have Z5 := hid (Below.refl W5.heap.size W5)
    have nR : ¬ w.heap.size + 1 + 1 = Q := by have h1 := (BX.out _ (Below.refl V.heap.size V)).2.2.1.lt; have h2 := S5.out; omega
    refine (F3.out _ V5.out).mono ?_
    rintro e w6 ⟨v, rfl, rfl, hb6⟩
    have V6 := hid hb6
    clear hb6
    obtain ⟨x0, x1⟩ := (BX.out _ (VW.out _ V6.out)).1.two
    obtain ⟨s0, s1, s2, s3, s4, s5, s6, s7, s8, s9⟩ := (BX.out _ (VW.out _ V6.out)).2.1.ten
    obtain ⟨r0, r1⟩ := (BX.out _ (VW.out _ V6.out)).2.2.1.two
    have rf := (BX.out _ (VW.out _ V6.out)).2.2.1.warm
    obtain ⟨y0, y1, y2, y3, y4, y5, y6⟩ := (BX.out _ (VW.out _ V6.out)).2.2.2.1.seven
    obtain ⟨q0, q1, q2, q3, q4, q5, q6, q7, q8, q9⟩ := OC.out _ (VW.out _ V6.out)
    obtain ⟨o0, o1, o2, o3, o4, o5, o6, o7, o8, o9⟩ := (OB.out _ V6.out).ten
    cases c3 with
    | false =>
     go_wp2
     have RB := hid (BX.out _ (VW.out _ V6.out)).2.2.1
     have KB := hid (BX.out _ (VW.out _ V6.out)).2.2.2.2
     refine bodyPost_ret (self_results _ _ (w.heap.size + 1 + 1) 6 _ _ _ _ Tryz.results79 ((RB.out.setAt (i := 0) _).setAt (i := 1) _) rfl rfl rfl) rfl ⟨lt, lo, 4, _, rfl, ?_, ?_, .k9 rfl (.inr ⟨u, UB.out, .inl ⟨CB.out, rfl, rfl, rfl, rfl⟩⟩)⟩
     ·exact (KB.out.set RB.out (.inl rfl) _).set (RB.out.setAt (i := 0) _) (.inl rfl) _
     ·exact ((LB.out _ (VW.out _ V6.out)).setCell (by dsimp only; omega) _).setCell (by dsimp only; omega) _
    | true =>
    by_cases n0 : o.items.n = 8
    ·have n1 : (((o.items.n : Nat) : Int) == 8) = true := by rw [n0]; rfl
     have n2 : decide (((o.items.n : Nat) : Int) = 8) = true := decide_eq_true (by rw [n0]; rfl)
     have NE : Hid ((atOwnOb lo u).items.n = 8) := hid (by rw [EA.out]; exact n0)
     clear n0
     go_wp2
     have RB := hid (BX.out _ (VW.out _ V6.out)).2.2.1
     have KB := hid (BX.out _ (VW.out _ V6.out)).2.2.2.2
     refine bodyPost_ret (self_results _ _ (w.heap.size + 1 + 1) 6 _ _ _ _ Tryz.results79 ((RB.out.setAt (i := 0) _).setAt (i := 1) _) rfl rfl rfl) rfl ⟨lt, lo, 5, _, rfl, ?_, ?_, .k9 rfl (.inr ⟨u, UB.out, .inr (.inl ⟨CB.out, NE.out, rfl, rfl, rfl, rfl⟩)⟩)⟩
     ·exact (KB.out.set RB.out (.inl rfl) _).set (RB.out.setAt (i := 0) _) (.inl rfl) _
     ·exact ((LB.out _ (VW.out _ V6.out)).setCell (by dsimp only; omega) _).setCell (by dsimp only; omega) _
    have n1 : (((o.items.n : Nat) : Int) == 8) = false := by simp only [beq_eq_false_iff_ne, ne_eq]; omega
    have n2 : decide (((o.items.n : Nat) : Int) = 8) = false := decide_eq_false (by omega)
    have NE : Hid ((atOwnOb lo u).items.n ≠ 8) := hid (by rw [EA.out]; exact n0)
    go_wp2_with fail
    clear x0 x1 s0 s1 s2 s3 s4 s5 s6 s7 s8 s9 r0 r1 rf y0 y1 y2 y3 y4 y5 y6 q0 q1 q2 q3 q4 q5 q6 q7 q8 q9 o0 o1 o2 o3 o4 o5 o6 o7 o8 o9
    have IA : Hid (∀ W, Below V.heap.size V W → o.items.new B W) := hid (fun W hW => by
     have := ((BX.out _ hW).2.2.2.2.on _ (List.getElem_mem ul)).2.1
     rw [← EO.out] at this
     exact this)
    have IC : Hid (o.items.n ≤ o.items.k ∧ o.items.k ≤ maxLen) := hid (by
     have := (BX.out _ (VW.out _ V6.out)).2.2.2.2.oc _ (List.getElem_mem ul)
     rw [← EO.out] at this
     exact this)
    have IS : Hid (o.items.n ≤ 1048000) := hid (by rw [EO.out]; exact hI _ (List.getElem_mem ul))
    have DR := hid (below_drew V6.out)
    have BV : Hid (B ≤ V.heap.size) := hid (by have h1 := (LW.out _ (Below.refl V.heap.size V)).size; omega)
    clear n0
    refine wp_region_G 13 (fun W => Below W5.heap.size W5 W) (by kernel_rfl) ?_
    refine tq 0 140 (.pointer (some ⟨w.heap.size, 1, none⟩)) DR.out ?_
    simp only [ap, List.set]
    refine tq 1 141 (.slice (some ⟨q, 0, none⟩) lo.length co) DR.out ?_ (hy := fun W h => by obtain ⟨z0, z1⟩ := (BX.out W (VW.out _ h)).1.two; go_simp)
    simp only [ap, List.set]
    refine tq 2 142 (.int .i64 u) DR.out ?_
    simp only [ap, List.set]
    refine tq 4 144 (.pointer (some ⟨Q, 6, none⟩)) DR.out ?_
    simp only [ap, List.set]
    refine tq 5 145 (.slice o.items.a o.items.n o.items.k) DR.out ?_ (hy := fun W h => by obtain ⟨z0, z1, z2, z3, z4, z5, z6, z7, z8, z9⟩ := (OB.out W h).ten; go_simp)
    simp only [ap, List.set]
    refine tq 7 147 (.pointer (some ⟨w.heap.size + 1, 5, none⟩)) DR.out ?_
    simp only [ap, List.set]
    refine tq 8 148 (.string dat) DR.out ?_ (hy := fun W h => by obtain ⟨z0, z1, z2, z3, z4, z5, z6, z7, z8, z9⟩ := (BX.out W (VW.out _ h)).2.1.ten; go_simp)
    simp only [ap, List.set]
    generalize w6.drew = WD at *
    refine wpAnyG_two (i := 3) (j := 9) (by kernel_rfl) rfl rfl ?_ ?_
    ·have OE : Hid (OwnSt (WD.alloc (.cells #[] 9)) W5.heap.size (.slice (some ⟨WD.heap.size, 0, none⟩) 0 0) 0 o.items.f) := hid (OwnSt.empty WD W5.heap.size DR.out.size _)
     have GW : Hid (W5.heap.size ≤ WD.heap.size) := hid DR.out.size
     have GE : Hid (WD.heap.size < (WD.alloc (.cells #[] 9)).heap.size) := hid (by simp)
     have DA := hid (DR.out.alloc DR.out.size (.cells #[] 9))
     intro K hK
     go_simp
     refine hK.out _ _ (fun _ => DA.out) ?_
     clear hK K
     try simp only [ap, List.set]
     clear DR
     generalize WD.heap.size = G at *
     generalize WD.alloc (.cells #[] 9) = WE at *
     refine wpAnyG_two (i := 6) (j := 9) (by kernel_rfl) rfl rfl ?_ ?_
     ·intro K hK
      refine step_append_str0 (by rfl) _ _ (by rfl) W5.heap.size G o.items.f (by rfl) OE.out o.items.a o.items.n o.items.k o.items.f (by rfl) (IA.out _ (VW.out _ DA.out)).1.2.1 (by have := IS.out; omega) DA.out.size (some 146) (by rfl) ?_
      intro a7 c7 w7 o7 g7
      have O7 := hid o7
      have B7 : Hid (Below W5.heap.size W5 w7) := hid (DA.out.trans (below_grown g7 DA.out.size (fun j e => by cases e; exact GW.out)))
      have G7 := hid g7
      refine hK.out _ _ (fun _ => B7.out) ?_
      clear hK K o7 g7
      simp only [ap, List.set]
      refine wpAnyG_one (i := 9) (by kernel_rfl) rfl ?_
      have DB := hid (B7.out.alloc B7.out.size (.cells #[.string dat] 9))
      intro K hK
      go_simp
      refine hK.out _ _ (fun _ => DB.out) ?_
      clear hK K
      try simp only [ap, List.set]
      have L9 := hid (one_lies w7 dat)
      have O8 := hid (World.ownsRow.alloc O7.out (.cells #[.string dat] 9))
      clear O7 B7 G7
      have O7 := O8
      clear O8
      generalize w7.heap.size = G9 at *
      generalize w7.alloc (.cells #[.string dat] 9) = WF at *
      refine wpAnyG_one (i := 10) (by kernel_rfl) rfl ?_
      intro K hK
      refine step_append_str1 (by rfl) _ _ (by rfl) W5.heap.size (.slice a7 o.items.n c7) o.items.n o.items.f (by rfl) O7.out (some ⟨G9, 0, none⟩) 1 dat (by rfl) L9.out (by have := IS.out; omega) DB.out.size (some 150) (by rfl) ?_
      intro a10 c10 w10 o10 g10
      have O10 := hid o10
      have B10 : Hid (Below W5.heap.size W5 w10) := hid (DB.out.trans (below_grown g10 DB.out.size (fun j e => (World.ownsRow.lt O7.out j e).1)))
      refine hK.out _ _ (fun _ => B10.out) ?_
      clear hK K o10 g10
      simp only [ap, List.set]
      refine wpAnyG_one (i := 11) (by kernel_rfl) rfl ?_
      intro K hK
      go_simp
      refine hK.out _ _ (fun _ => B10.out) ?_
      clear hK K
      try simp only [ap, List.set]
      refine tq 12 152 (.pointer (some ⟨q, u * 10 + 6, none⟩)) B10.out ?_
      simp only [ap, List.set]
      have NW : Hid (StrL.new B w10 (⟨a10, o.items.n + 1, c10, moreF o.items.n o.items.f dat⟩ : StrL) ∧ ((⟨a10, o.items.n + 1, c10, moreF o.items.n o.items.f dat⟩ : StrL).n ≤ (⟨a10, o.items.n + 1, c10, moreF o.items.n o.items.f dat⟩ : StrL).k ∧ (⟨a10, o.items.n + 1, c10, moreF o.items.n o.items.f dat⟩ : StrL).k ≤ maxLen)) := hid (by
       have h := O10.out.newL (by have := IS.out; omega) (fun i hi => by
        unfold moreF
        split
        ·rename_i h1; exact (IA.out _ (VW.out _ B10.out)).1.2.2 i h1
        ·exact (SA.out _ (LB.out _ (VW.out _ B10.out))).2.2)
       exact ⟨h.1.low (Nat.le_trans BV.out V5.out.size), h.2⟩)
      have KB := hid (BX.out _ (VW.out _ B10.out)).2.2.2.2
      have GF := hid (KB.out.setItems (d := (⟨a10, o.items.n + 1, c10, moreF o.items.n o.items.f dat⟩ : StrL)) ul EO.out NW.out.1 NW.out.2)
      have gf := GF.out.2.1.choose_spec.warm
      obtain ⟨q0, q1, q2, q3, q4, q5, q6, q7, q8, q9⟩ := OC.out _ (VW.out _ B10.out)
      obtain ⟨x0, x1⟩ := (BX.out _ (VW.out _ B10.out)).1.two
      obtain ⟨r0, r1⟩ := (BX.out _ (VW.out _ B10.out)).2.2.1.two
      have rf := (BX.out _ (VW.out _ B10.out)).2.2.1.warm
      have qs : q < w.heap.size := QS.out
      have n1 : ¬ q = w.heap.size := by omega
      have n2 : ¬ q = w.heap.size + 1 := by omega
      have n3 : ¬ q = w.heap.size + 1 + 1 := by omega
      have RB := hid ((BX.out _ (VW.out _ B10.out)).2.2.1.other (Q := q) n3 (i := u * 10 + 6) (.slice a10 (o.items.n + 1) c10))
      refine wpAnyG_one (i := 13) (by kernel_rfl) rfl ?_
      intro K hK
      go_simp
      refine hK.out _ _ (fun h => absurd h (by decide)) ?_
      clear hK K
      try simp only [ap, List.set]
      refine wpAnyG_done (by kernel_rfl) ?_ _
      go_wp2
      refine bodyPost_ret (self_results _ _ (w.heap.size + 1 + 1) 6 _ _ _ _ Tryz.results79 ((RB.out.setAt (i := 0) _).setAt (i := 1) _) rfl rfl rfl) rfl ⟨lt, lo.set u (⟨o.id, o.kind, o.up, o.b1, o.c1, o.data, (⟨a10, o.items.n + 1, c10, moreF o.items.n o.items.f dat⟩ : StrL), o.own, o.b2, o.c2⟩ : ObjV), 0, _, rfl, ?_, ?_, .k9 rfl (.inr ⟨u, UB.out, .inr (.inr ⟨CB.out, NE.out, rfl, rfl, rfl, a10, c10, by rw [EA.out]⟩)⟩)⟩
      ·exact (GF.out.1.set RB.out (.inl rfl) _).set (RB.out.setAt (i := 0) _) (.inl rfl) _
      ·exact (((LB.out _ (VW.out _ B10.out)).setCell (by dsimp only; exact GF.out.2.2) _).setCell (by dsimp only; omega) _).setCell (by dsimp only; omega) _
     ·have L9 := hid (one_lies WE dat)
      have O8 := hid (World.ownsRow.alloc OE.out (.cells #[.string dat] 9))
      have DB := hid (DA.out.alloc DA.out.size (.cells #[.string dat] 9))
      intro K hK
      go_simp
      refine hK.out _ _ (fun _ => DB.out) ?_
      clear hK K
      try simp only [ap, List.set]
      clear OE
      have OE := O8
      clear O8 DA
      generalize WE.heap.size = G9 at *
      generalize WE.alloc (.cells #[.string dat] 9) = WF at *
      refine wpAnyG_one (i := 6) (by kernel_rfl) rfl ?_
      intro K hK
      refine step_append_str0 (by rfl) _ _ (by rfl) W5.heap.size G o.items.f (by rfl) OE.out o.items.a o.items.n o.items.k o.items.f (by rfl) (IA.out _ (VW.out _ DB.out)).1.2.1 (by have := IS.out; omega) DB.out.size (some 146) (by rfl) ?_
      intro a7 c7 w7 o7 g7
      have O7 := hid o7
      have B7 : Hid (Below W5.heap.size W5 w7) := hid (DB.out.trans (below_grown g7 DB.out.size (fun j e => by cases e; exact GW.out)))
      have G7 := hid g7
      refine hK.out _ _ (fun _ => B7.out) ?_
      clear hK K o7 g7
      simp only [ap, List.set]
      have L8 := hid (lies_grown L9.out G7.out (fun e => by cases e; exact absurd GE.out (Nat.lt_irrefl _)))
      clear L9 G7
      have L9 := L8
      refine wpAnyG_one (i := 10) (by kernel_rfl) rfl ?_
      intro K hK
      refine step_append_str1 (by rfl) _ _ (by rfl) W5.heap.size (.slice a7 o.items.n c7) o.items.n o.items.f (by rfl) O7.out (some ⟨G9, 0, none⟩) 1 dat (by rfl) L9.out (by have := IS.out; omega) B7.out.size (some 150) (by rfl) ?_
      intro a10 c10 w10 o10 g10
      have O10 := hid o10
      have B10 : Hid (Below W5.heap.size W5 w10) := hid (B7.out.trans (below_grown g10 B7.out.size (fun j e => (World.ownsRow.lt O7.out j e).1)))
      refine hK.out _ _ (fun _ => B10.out) ?_
      clear hK K o10 g10
      simp only [ap, List.set]
      refine wpAnyG_one (i := 11) (by kernel_rfl) rfl ?_
      intro K hK
      go_simp
      refine hK.out _ _ (fun _ => B10.out) ?_
      clear hK K
      try simp only [ap, List.set]
      refine tq 12 152 (.pointer (some ⟨q, u * 10 + 6, none⟩)) B10.out ?_
      simp only [ap, List.set]
      have NW : Hid (StrL.new B w10 (⟨a10, o.items.n + 1, c10, moreF o.items.n o.items.f dat⟩ : StrL) ∧ ((⟨a10, o.items.n + 1, c10, moreF o.items.n o.items.f dat⟩ : StrL).n ≤ (⟨a10, o.items.n + 1, c10, moreF o.items.n o.items.f dat⟩ : StrL).k ∧ (⟨a10, o.items.n + 1, c10, moreF o.items.n o.items.f dat⟩ : StrL).k ≤ maxLen)) := hid (by
       have h := O10.out.newL (by have := IS.out; omega) (fun i hi => by
        unfold moreF
        split
        ·rename_i h1; exact (IA.out _ (VW.out _ B10.out)).1.2.2 i h1
        ·exact (SA.out _ (LB.out _ (VW.out _ B10.out))).2.2)
       exact ⟨h.1.low (Nat.le_trans BV.out V5.out.size), h.2⟩)
      have KB := hid (BX.out _ (VW.out _ B10.out)).2.2.2.2
      have GF := hid (KB.out.setItems (d := (⟨a10, o.items.n + 1, c10, moreF o.items.n o.items.f dat⟩ : StrL)) ul EO.out NW.out.1 NW.out.2)
      have gf := GF.out.2.1.choose_spec.warm
      obtain ⟨q0, q1, q2, q3, q4, q5, q6, q7, q8, q9⟩ := OC.out _ (VW.out _ B10.out)
      obtain ⟨x0, x1⟩ := (BX.out _ (VW.out _ B10.out)).1.two
      obtain ⟨r0, r1⟩ := (BX.out _ (VW.out _ B10.out)).2.2.1.two
      have rf := (BX.out _ (VW.out _ B10.out)).2.2.1.warm
      have qs : q < w.heap.size := QS.out
      have n1 : ¬ q = w.heap.size := by omega
      have n2 : ¬ q = w.heap.size + 1 := by omega
      have n3 : ¬ q = w.heap.size + 1 + 1 := by omega
      have RB := hid ((BX.out _ (VW.out _ B10.out)).2.2.1.other (Q := q) n3 (i := u * 10 + 6) (.slice a10 (o.items.n + 1) c10))
      refine wpAnyG_one (i := 13) (by kernel_rfl) rfl ?_
      intro K hK
      go_simp
      refine hK.out _ _ (fun h => absurd h (by decide)) ?_
      clear hK K
      try simp only [ap, List.set]
      refine wpAnyG_done (by kernel_rfl) ?_ _
      go_wp2
      refine bodyPost_ret (self_results _ _ (w.heap.size + 1 + 1) 6 _ _ _ _ Tryz.results79 ((RB.out.setAt (i := 0) _).setAt (i := 1) _) rfl rfl rfl) rfl ⟨lt, lo.set u (⟨o.id, o.kind, o.up, o.b1, o.c1, o.data, (⟨a10, o.items.n + 1, c10, moreF o.items.n o.items.f dat⟩ : StrL), o.own, o.b2, o.c2⟩ : ObjV), 0, _, rfl, ?_, ?_, .k9 rfl (.inr ⟨u, UB.out, .inr (.inr ⟨CB.out, NE.out, rfl, rfl, rfl, a10, c10, by rw [EA.out]⟩)⟩)⟩
      ·exact (GF.out.1.set RB.out (.inl rfl) _).set (RB.out.setAt (i := 0) _) (.inl rfl) _
      ·exact (((LB.out _ (VW.out _ B10.out)).setCell (by dsimp only; exact GF.out.2.2) _).setCell (by dsimp only; omega) _).setCell (by dsimp only; omega) _
    ·have L9 := hid (one_lies WD dat)
     have GF9 : Hid (WD.heap.size < (WD.alloc (.cells #[.string dat] 9)).heap.size) := hid (by simp)
     have DA := hid (DR.out.alloc DR.out.size (.cells #[.string dat] 9))
     intro K hK
     go_simp
     refine hK.out _ _ (fun _ => DA.out) ?_
     clear hK K
     try simp only [ap, List.set]
     clear DR
     generalize WD.heap.size = G9 at *
     generalize WD.alloc (.cells #[.string dat] 9) = WE at *
     have OE : Hid (OwnSt (WE.alloc (.cells #[] 9)) W5.heap.size (.slice (some ⟨WE.heap.size, 0, none⟩) 0 0) 0 o.items.f) := hid (OwnSt.empty WE W5.heap.size DA.out.size _)
     have GW : Hid (W5.heap.size ≤ WE.heap.size) := hid DA.out.size
     have L8 := hid (L9.out.below ((Below.refl _ WE).alloc (Nat.le_refl _) (.cells #[] 9)))
     clear L9
     have L9 := L8
     clear L8
     refine wpAnyG_one (i := 3) (by kernel_rfl) rfl ?_
     have DB := hid (DA.out.alloc DA.out.size (.cells #[] 9))
     intro K hK
     go_simp
     refine hK.out _ _ (fun _ => DB.out) ?_
     clear hK K
     try simp only [ap, List.set]
     clear DA
     generalize WE.heap.size = G at *
     generalize WE.alloc (.cells #[] 9) = WF at *
     refine wpAnyG_one (i := 6) (by kernel_rfl) rfl ?_
     intro K hK
     refine step_append_str0 (by rfl) _ _ (by rfl) W5.heap.size G o.items.f (by rfl) OE.out o.items.a o.items.n o.items.k o.items.f (by rfl) (IA.out _ (VW.out _ DB.out)).1.2.1 (by have := IS.out; omega) DB.out.size (some 146) (by rfl) ?_
     intro a7 c7 w7 o7 g7
     have O7 := hid o7
     have B7 : Hid (Below W5.heap.size W5 w7) := hid (DB.out.trans (below_grown g7 DB.out.size (fun j e => by cases e; exact GW.out)))
     have G7 := hid g7
     refine hK.out _ _ (fun _ => B7.out) ?_
     clear hK K o7 g7
     simp only [ap, List.set]
     have L8 := hid (lies_grown L9.out G7.out (fun e => by cases e; exact absurd GF9.out (Nat.lt_irrefl _)))
     clear L9 G7
     have L9 := L8
     refine wpAnyG_one (i := 10) (by kernel_rfl) rfl ?_
     intro K hK
     refine step_append_str1 (by rfl) _ _ (by rfl) W5.heap.size (.slice a7 o.items.n c7) o.items.n o.items.f (by rfl) O7.out (some ⟨G9, 0, none⟩) 1 dat (by rfl) L9.out (by have := IS.out; omega) B7.out.size (some 150) (by rfl) ?_
     intro a10 c10 w10 o10 g10
     have O10 := hid o10
     have B10 : Hid (Below W5.heap.size W5 w10) := hid (B7.out.trans (below_grown g10 B7.out.size (fun j e => (World.ownsRow.lt O7.out j e).1)))
     refine hK.out _ _ (fun _ => B10.out) ?_
     clear hK K o10 g10
     simp only [ap, List.set]
     refine wpAnyG_one (i := 11) (by kernel_rfl) rfl ?_
     intro K hK
     go_simp
     refine hK.out _ _ (fun _ => B10.out) ?_
     clear hK K
     try simp only [ap, List.set]
     refine tq 12 152 (.pointer (some ⟨q, u * 10 + 6, none⟩)) B10.out ?_
     simp only [ap, List.set]
     have NW : Hid (StrL.new B w10 (⟨a10, o.items.n + 1, c10, moreF o.items.n o.items.f dat⟩ : StrL) ∧ ((⟨a10, o.items.n + 1, c10, moreF o.items.n o.items.f dat⟩ : StrL).n ≤ (⟨a10, o.items.n + 1, c10, moreF o.items.n o.items.f dat⟩ : StrL).k ∧ (⟨a10, o.items.n + 1, c10, moreF o.items.n o.items.f dat⟩ : StrL).k ≤ maxLen)) := hid (by
      have h := O10.out.newL (by have := IS.out; omega) (fun i hi => by
       unfold moreF
       split
       ·rename_i h1; exact (IA.out _ (VW.out _ B10.out)).1.2.2 i h1
       ·exact (SA.out _ (LB.out _ (VW.out _ B10.out))).2.2)
      exact ⟨h.1.low (Nat.le_trans BV.out V5.out.size), h.2⟩)
     have KB := hid (BX.out _ (VW.out _ B10.out)).2.2.2.2
     have GF := hid (KB.out.setItems (d := (⟨a10, o.items.n + 1, c10, moreF o.items.n o.items.f dat⟩ : StrL)) ul EO.out NW.out.1 NW.out.2)
     have gf := GF.out.2.1.choose_spec.warm
     obtain ⟨q0, q1, q2, q3, q4, q5, q6, q7, q8, q9⟩ := OC.out _ (VW.out _ B10.out)
     obtain ⟨x0, x1⟩ := (BX.out _ (VW.out _ B10.out)).1.two
     obtain ⟨r0, r1⟩ := (BX.out _ (VW.out _ B10.out)).2.2.1.two
     have rf := (BX.out _ (VW.out _ B10.out)).2.2.1.warm
     have qs : q < w.heap.size := QS.out
     have n1 : ¬ q = w.heap.size := by omega
     have n2 : ¬ q = w.heap.size + 1 := by omega
     have n3 : ¬ q = w.heap.size + 1 + 1 := by omega
     have RB := hid ((BX.out _ (VW.out _ B10.out)).2.2.1.other (Q := q) n3 (i := u * 10 + 6) (.slice a10 (o.items.n + 1) c10))
     refine wpAnyG_one (i := 13) (by kernel_rfl) rfl ?_
     intro K hK
     go_simp
     refine hK.out _ _ (fun h => absurd h (by decide)) ?_
     clear hK K
     try simp only [ap, List.set]
     refine wpAnyG_done (by kernel_rfl) ?_ _
     go_wp2
     refine bodyPost_ret (self_results _ _ (w.heap.size + 1 + 1) 6 _ _ _ _ Tryz.results79 ((RB.out.setAt (i := 0) _).setAt (i := 1) _) rfl rfl rfl) rfl ⟨lt, lo.set u (⟨o.id, o.kind, o.up, o.b1, o.c1, o.data, (⟨a10, o.items.n + 1, c10, moreF o.items.n o.items.f dat⟩ : StrL), o.own, o.b2, o.c2⟩ : ObjV), 0, _, rfl, ?_, ?_, .k9 rfl (.inr ⟨u, UB.out, .inr (.inr ⟨CB.out, NE.out, rfl, rfl, rfl, a10, c10, by rw [EA.out]⟩)⟩)⟩
     ·exact (GF.out.1.set RB.out (.inl rfl) _).set (RB.out.setAt (i := 0) _) (.inl rfl) _
     ·exact (((LB.out _ (VW.out _ B10.out)).setCell (by dsimp only; exact GF.out.2.2) _).setCell (by dsimp only; omega) _).setCell (by dsimp only; omega) _
   ·subst e
    have ew : wn = 2 := WN.out
    subst ew
    have F3 : Hid (∀ W, Below V.heap.size V W → Calls Tryz.prog 93 #[.agg #[.int .i64 X.id, .int .i64 X.b1, .slice X.c1.a X.c1.n X.c1.k, .int .i64 X.b2, .slice X.c2.a X.c2.n X.c2.k, .slice X.own.a X.own.n X.own.k, .int .i64 X.made], .agg #[.int .i64 o.b1, .slice o.c1.a o.c1.n o.c1.k]] W fun e w' => ∃ v, e = .returned v ∧ (v = .bool (changesB X o.b1 o.c1) ∧ Below W.heap.size W w')) := hid (fun W hV => calls_v <| changes_v X o.b1 o.c1 W (XA.out.below (LW.out _ hV)) xs ra (by
     have := ((BX.out _ hV).2.2.2.2.on _ (List.getElem_mem ul)).1.1
     rw [← EO.out] at this
     exact this) HO.out.1 HO.out.2)
    have CB : Hid (changesB X (atOwnOb lo u).b1 (atOwnOb lo u).c1 = changesB X o.b1 o.c1) := hid (by rw [EA.out])
    generalize changesB X o.b1 o.c1 = c3 at *
    have VL := hid H2
    clear H1 H2 F1 F2 E1 E2 D0 V1 V0
    obtain ⟨x0, x1⟩ := (BX.out _ VL.out).1.two
    obtain ⟨s0, s1, s2, s3, s4, s5, s6, s7, s8, s9⟩ := (BX.out _ VL.out).2.1.ten
    obtain ⟨r0, r1⟩ := (BX.out _ VL.out).2.2.1.two
    have rf := (BX.out _ VL.out).2.2.1.warm
    obtain ⟨y0, y1, y2, y3, y4, y5, y6⟩ := (BX.out _ VL.out).2.2.2.1.seven
    obtain ⟨q0, q1, q2, q3, q4, q5, q6, q7, q8, q9⟩ := OC.out _ VL.out
    have V5 := hid (VL.out.alloc VL.out.size (.cells #[.int .i64 o.id, .int .i64 o.kind, .int .i64 o.up, .int .i64 o.b1, .slice o.c1.a o.c1.n o.c1.k, .string o.data, .slice o.items.a o.items.n o.items.k, .slice o.own.a o.own.n o.own.k, .int .i64 o.b2, .slice o.c2.a o.c2.n o.c2.k] 88))
    have O5 := hid (Blk.new w3 (.cells #[.int .i64 o.id, .int .i64 o.kind, .int .i64 o.up, .int .i64 o.b1, .slice o.c1.a o.c1.n o.c1.k, .string o.data, .slice o.items.a o.items.n o.items.k, .slice o.own.a o.own.n o.own.k, .int .i64 o.b2, .slice o.c2.a o.c2.n o.c2.k] 88))
    have S5 := hid VL.out.size
    obtain ⟨bx0, bx1⟩ := (BX.out _ V5.out).1.two
    obtain ⟨bs0, bs1, bs2, bs3, bs4, bs5, bs6, bs7, bs8, bs9⟩ := (BX.out _ V5.out).2.1.ten
    obtain ⟨br0, br1⟩ := (BX.out _ V5.out).2.2.1.two
    have brf := (BX.out _ V5.out).2.2.1.warm
    obtain ⟨by0, by1, by2, by3, by4, by5, by6⟩ := (BX.out _ V5.out).2.2.2.1.seven
    obtain ⟨o0, o1, o2, o3, o4, o5, o6, o7, o8, o9⟩ := O5.out.ten
    go_wp2_with fail
    clear x0 x1 s0 s1 s2 s3 s4 s5 s6 s7 s8 s9 r0 r1 rf y0 y1 y2 y3 y4 y5 y6 q0 q1 q2 q3 q4 q5 q6 q7 q8 q9 bx0 bx1 bs0 bs1 bs2 bs3 bs4 bs5 bs6 bs7 bs8 bs9 br0 br1 brf by0 by1 by2 by3 by4 by5 by6 o0 o1 o2 o3 o4 o5 o6 o7 o8 o9 VL
    generalize (w3.alloc (.cells #[.int .i64 o.id, .int .i64 o.kind, .int .i64 o.up, .int .i64 o.b1, .slice o.c1.a o.c1.n o.c1.k, .string o.data, .slice o.items.a o.items.n o.items.k, .slice o.own.a o.own.n o.own.k, .int .i64 o.b2, .slice o.c2.a o.c2.n o.c2.k] 88)) = W5 at *
    generalize w3.heap.size = Q at *
    have OB : Hid (∀ W, Below W5.heap.size W5 W → Blk W Q (.cells #[.int .i64 o.id, .int .i64 o.kind, .int .i64 o.up, .int .i64 o.b1, .slice o.c1.a o.c1.n o.c1.k, .string o.data, .slice o.items.a o.items.n o.items.k, .slice o.own.a o.own.n o.own.k, .int .i64 o.b2, .slice o.c2.a o.c2.n o.c2.k] 88)) := hid (fun W hW => O5.out.below hW)
    have VW : Hid (∀ W, Below W5.heap.size W5 W → Below V.heap.size V W) := hid (fun W hW => then_ V5.out hW)
    have Z5 := hid (Below.refl W5.heap.size W5)
    have nR : ¬ w.heap.size + 1 + 1 = Q := by have h1 := (BX.out _ (Below.refl V.heap.size V)).2.2.1.lt; have h2 := S5.out; omega
    refine (F3.out _ V5.out).mono ?_
    rintro e w6 ⟨v, rfl, rfl, hb6⟩
    have V6 := hid hb6
    clear hb6
    obtain ⟨x0, x1⟩ := (BX.out _ (VW.out _ V6.out)).1.two
    obtain ⟨s0, s1, s2, s3, s4, s5, s6, s7, s8, s9⟩ := (BX.out _ (VW.out _ V6.out)).2.1.ten
    obtain ⟨r0, r1⟩ := (BX.out _ (VW.out _ V6.out)).2.2.1.two
    have rf := (BX.out _ (VW.out _ V6.out)).2.2.1.warm
    obtain ⟨y0, y1, y2, y3, y4, y5, y6⟩ := (BX.out _ (VW.out _ V6.out)).2.2.2.1.seven
    obtain ⟨q0, q1, q2, q3, q4, q5, q6, q7, q8, q9⟩ := OC.out _ (VW.out _ V6.out)
    obtain ⟨o0, o1, o2, o3, o4, o5, o6, o7, o8, o9⟩ := (OB.out _ V6.out).ten
    cases c3 with
    | false =>
     go_wp2
     have RB := hid (BX.out _ (VW.out _ V6.out)).2.2.1
     have KB := hid (BX.out _ (VW.out _ V6.out)).2.2.2.2
     refine bodyPost_ret (self_results _ _ (w.heap.size + 1 + 1) 6 _ _ _ _ Tryz.results79 ((RB.out.setAt (i := 0) _).setAt (i := 1) _) rfl rfl rfl) rfl ⟨lt, lo, 4, _, rfl, ?_, ?_, .k10 rfl (.inr ⟨u, UB.out, .inl ⟨CB.out, rfl, rfl, rfl, rfl⟩⟩)⟩
     ·exact (KB.out.set RB.out (.inl rfl) _).set (RB.out.setAt (i := 0) _) (.inl rfl) _
     ·exact ((LB.out _ (VW.out _ V6.out)).setCell (by dsimp only; omega) _).setCell (by dsimp only; omega) _
    | true =>
    by_cases n0 : o.items.n = 0
    ·have n1 : (((o.items.n : Nat) : Int) == 0) = true := by rw [n0]; rfl
     have n2 : decide (((o.items.n : Nat) : Int) = 0) = true := decide_eq_true (by rw [n0]; rfl)
     have NE : Hid ((atOwnOb lo u).items.n = 0) := hid (by rw [EA.out]; exact n0)
     clear n0
     go_wp2
     have RB := hid (BX.out _ (VW.out _ V6.out)).2.2.1
     have KB := hid (BX.out _ (VW.out _ V6.out)).2.2.2.2
     refine bodyPost_ret (self_results _ _ (w.heap.size + 1 + 1) 6 _ _ _ _ Tryz.results79 ((RB.out.setAt (i := 0) _).setAt (i := 1) _) rfl rfl rfl) rfl ⟨lt, lo, 6, _, rfl, ?_, ?_, .k10 rfl (.inr ⟨u, UB.out, .inr (.inl ⟨CB.out, NE.out, rfl, rfl, rfl, rfl⟩)⟩)⟩
     ·exact (KB.out.set RB.out (.inl rfl) _).set (RB.out.setAt (i := 0) _) (.inl rfl) _
     ·exact ((LB.out _ (VW.out _ V6.out)).setCell (by dsimp only; omega) _).setCell (by dsimp only; omega) _
    have n1 : (((o.items.n : Nat) : Int) == 0) = false := by simp only [beq_eq_false_iff_ne, ne_eq]; omega
    have n2 : decide (((o.items.n : Nat) : Int) = 0) = false := decide_eq_false (by omega)
    have NE : Hid ((atOwnOb lo u).items.n ≠ 0) := hid (by rw [EA.out]; exact n0)
    go_wp2_with fail
    clear x0 x1 s0 s1 s2 s3 s4 s5 s6 s7 s8 s9 r0 r1 rf y0 y1 y2 y3 y4 y5 y6 q0 q1 q2 q3 q4 q5 q6 q7 q8 q9 o0 o1 o2 o3 o4 o5 o6 o7 o8 o9
    have IA : Hid (∀ W, Below V.heap.size V W → o.items.new B W) := hid (fun W hW => by
     have := ((BX.out _ hW).2.2.2.2.on _ (List.getElem_mem ul)).2.1
     rw [← EO.out] at this
     exact this)
    have IC : Hid (o.items.n ≤ o.items.k ∧ o.items.k ≤ maxLen) := hid (by
     have := (BX.out _ (VW.out _ V6.out)).2.2.2.2.oc _ (List.getElem_mem ul)
     rw [← EO.out] at this
     exact this)
    have IS : Hid (o.items.n ≤ 1048576) := hid (by rw [EO.out]; exact Nat.le_trans (hI _ (List.getElem_mem ul)) (by omega))
    have DR := hid (below_drew V6.out)
    have BV : Hid (B ≤ V.heap.size) := hid (by have h1 := (LW.out _ (Below.refl V.heap.size V)).size; omega)
    obtain ⟨m, em⟩ : ∃ m, o.items.n = m + 1 := ⟨o.items.n - 1, by omega⟩
    obtain ⟨ib, hib⟩ : ∃ ib, o.items.a = some ⟨ib, 0, none⟩ := by
     obtain ⟨b, _, _, e, _⟩ := (IA.out _ (VW.out _ V6.out)).2 (by omega)
     exact ⟨b, e⟩
    have EM := hid em
    have EI := hid hib
    have mk : m + 1 ≤ o.items.k := by rw [← em]; exact IC.out.1
    have ms : m ≤ 1048576 := by have := IS.out; omega
    obtain ⟨sa, hsa⟩ : ∃ sa : Option Addr, sa = if o.items.k = 1 then some ⟨ib, 0, none⟩ else some ⟨ib, 1, none⟩ := ⟨_, rfl⟩
    have ESA := hid hsa
    clear n0 em hib hsa
    have TL : Hid (∀ W, Below V.heap.size V W → StrAt W sa m (fun i => o.items.f (i + 1))) := hid (fun W hW h0 => by
     obtain ⟨b, off, e, hlt, hc⟩ := (IA.out _ hW).1.2.1 (by rw [EM.out]; omega)
     rw [EI.out] at e
     cases e
     refine ⟨ib, 1, by rw [ESA.out, if_neg (by omega)], hlt, fun i hi => ?_⟩
     have := hc (i + 1) (by rw [EM.out]; omega)
     rw [Nat.zero_add] at this
     show W.cell? ⟨ib, 1 + i, none⟩ = some (.string (o.items.f (i + 1)))
     rw [Nat.add_comm 1 i]
     exact this)
    refine wp_region_G 10 (fun W => Below W5.heap.size W5 W) (by kernel_rfl) ?_
    refine tq 0 160 (.pointer (some ⟨w.heap.size, 1, none⟩)) DR.out ?_
    simp only [ap, List.set]
    refine tq 1 161 (.slice (some ⟨q, 0, none⟩) lo.length co) DR.out ?_ (hy := fun W h => by obtain ⟨z0, z1⟩ := (BX.out W (VW.out _ h)).1.two; go_simp)
    simp only [ap, List.set]
    refine tq 2 162 (.int .i64 u) DR.out ?_
    simp only [ap, List.set]
    refine tq 4 164 (.pointer (some ⟨Q, 6, none⟩)) DR.out ?_
    simp only [ap, List.set]
    refine tq 5 165 (.slice o.items.a o.items.n o.items.k) DR.out ?_ (hy := fun W h => by obtain ⟨z0, z1, z2, z3, z4, z5, z6, z7, z8, z9⟩ := (OB.out W h).ten; go_simp)
    simp only [ap, List.set]
    refine tq 6 166 (.slice sa m (o.items.k - 1)) DR.out ?_ (hy := fun W h => by rw [EI.out, EM.out, ESA.out]; have c1 : (1 : Int) ≤ (m : Int) + 1 := (by omega); go_simp)
    simp only [ap, List.set]
    generalize w6.drew = WD at *
    have DA := hid (DR.out.alloc DR.out.size (.cells #[] 9))
    have OE : Hid (OwnSt (WD.alloc (.cells #[] 9)) W5.heap.size (.slice (some ⟨WD.heap.size, 0, none⟩) 0 0) 0 o.items.f) := hid (OwnSt.empty WD W5.heap.size DR.out.size _)
    have gw : W5.heap.size ≤ WD.heap.size := DR.out.size
    refine wpAnyG_one (i := 3) (by kernel_rfl) rfl ?_
    intro K hK
    go_simp
    refine hK.out _ _ (fun _ => DA.out) ?_
    clear hK K
    try simp only [ap, List.set]
    clear DR
    generalize WD.heap.size = G at *
    generalize WD.alloc (.cells #[] 9) = WE at *
    refine wpAnyG_one (i := 7) (by kernel_rfl) rfl ?_
    intro K hK
    refine step_append_str0 (by rfl) _ _ (by rfl) W5.heap.size G o.items.f (by rfl) OE.out sa m (o.items.k - 1) (fun i => o.items.f (i + 1)) (by rfl) (TL.out _ (VW.out _ DA.out)) (by omega) DA.out.size (some 167) (by rfl) ?_
    intro a7 c7 w7 o7 g7
    have O7 := hid o7
    have B7 : Hid (Below W5.heap.size W5 w7) := hid (DA.out.trans (below_grown g7 DA.out.size (fun j e => by cases e; exact gw)))
    refine hK.out _ _ (fun _ => B7.out) ?_
    clear hK K o7 g7
    simp only [ap, List.set]
    refine wpAnyG_one (i := 8) (by kernel_rfl) rfl ?_
    intro K hK
    go_simp
    refine hK.out _ _ (fun _ => B7.out) ?_
    clear hK K
    try simp only [ap, List.set]
    refine tq 9 169 (.pointer (some ⟨q, u * 10 + 6, none⟩)) B7.out ?_
    simp only [ap, List.set]
    have NW : Hid (StrL.new B w7 (⟨a7, m, c7, fun i => o.items.f (i + 1)⟩ : StrL) ∧ ((⟨a7, m, c7, fun i => o.items.f (i + 1)⟩ : StrL).n ≤ (⟨a7, m, c7, fun i => o.items.f (i + 1)⟩ : StrL).k ∧ (⟨a7, m, c7, fun i => o.items.f (i + 1)⟩ : StrL).k ≤ maxLen)) := hid (by have h := O7.out.newL (by omega) (fun i hi => (IA.out _ (VW.out _ B7.out)).1.2.2 (i + 1) (by rw [EM.out]; omega)); exact ⟨h.1.low (Nat.le_trans BV.out V5.out.size), h.2⟩)
    have KB := hid (BX.out _ (VW.out _ B7.out)).2.2.2.2
    have GF := hid (KB.out.setItems (d := (⟨a7, m, c7, fun i => o.items.f (i + 1)⟩ : StrL)) ul EO.out NW.out.1 NW.out.2)
    have gf := GF.out.2.1.choose_spec.warm
    obtain ⟨q0, q1, q2, q3, q4, q5, q6, q7, q8, q9⟩ := OC.out _ (VW.out _ B7.out)
    have qs : q < w.heap.size := QS.out
    have n1 : ¬ q = w.heap.size := by omega
    have n2 : ¬ q = w.heap.size + 1 := by omega
    have n3 : ¬ q = w.heap.size + 1 + 1 := by omega
    refine wpAnyG_one (i := 10) (by kernel_rfl) rfl ?_
    intro K hK
    go_simp
    refine hK.out _ _ (fun h => absurd h (by decide)) ?_
    clear hK K
    try simp only [ap, List.set]
    refine wpAnyG_done (by kernel_rfl) ?_ _
    clear q0 q1 q2 q3 q4 q5 q6 q7 q8 q9 gf
    go_wp2_with fail
    have nq : ¬ q = Q := by have h1 := S5.out; have h2 := (LW.out _ (Below.refl V.heap.size V)).size; omega
    have A8 := hid ((BX.out _ (VW.out _ B7.out)).1.other (Q := q) n1 (i := u * 10 + 6) (.slice a7 m c7))
    have R8 := hid ((BX.out _ (VW.out _ B7.out)).2.2.1.other (Q := q) n3 (i := u * 10 + 6) (.slice a7 m c7))
    have O8 := hid ((OB.out _ B7.out).other (Q := q) nq (i := u * 10 + 6) (.slice a7 m c7))
    have I8 := hid ((IA.out _ (VW.out _ B7.out)).keeps (keeps_set (i := u * 10 + 6) GF.out.2.1.choose_spec (by decide) (.slice a7 m c7)))
    have K8 := hid GF.out.1
    have L8 : Hid (Below B w (w7.setCell ⟨q, u * 10 + 6, none⟩ (.slice a7 m c7))) := hid ((LB.out _ (VW.out _ B7.out)).setCell (by dsimp only; exact GF.out.2.2) _)
    clear GF KB
    generalize (w7.setCell ⟨q, u * 10 + 6, none⟩ (.slice a7 m c7)) = W8 at *
    have IT : Hid (∀ W, o.items.new B W → W.cell? ⟨ib, 0, none⟩ = some (.string (o.items.f 0))) := hid (fun W hW => by
     obtain ⟨b, off, e, hlt, hc⟩ := hW.1.2.1 (by rw [EM.out]; omega)
     rw [EI.out] at e
     cases e
     exact hc 0 (by rw [EM.out]; omega))
    have D8 := hid (below_drew (Below.refl W8.heap.size W8))
    have A9 := hid (A8.out.below D8.out)
    have R9 := hid (R8.out.below D8.out)
    have O9 := hid (O8.out.below D8.out)
    have I9 := hid (I8.out.below D8.out)
    have K9 := hid (K8.out.below D8.out)
    have L9 := hid (L8.out.trans (D8.out.mono (Nat.le_trans hB (by have h1 := L8.out.size; exact h1))))
    clear A8 R8 O8 I8 K8 L8 D8
    refine wp_region_G 8 (fun W => Blk W w.heap.size (.cells #[.slice (some ⟨g, 0, none⟩) lt.length ca, .slice (some ⟨q, 0, none⟩) lo.length co] 42) ∧ Blk W Q (.cells #[.int .i64 o.id, .int .i64 o.kind, .int .i64 o.up, .int .i64 o.b1, .slice o.c1.a o.c1.n o.c1.k, .string o.data, .slice o.items.a o.items.n o.items.k, .slice o.own.a o.own.n o.own.k, .int .i64 o.b2, .slice o.c2.a o.c2.n o.c2.k] 88) ∧ o.items.new B W) (by kernel_rfl) ?_
    refine tq 0 170 (.agg #[.slice (some ⟨g, 0, none⟩) lt.length ca, .slice (some ⟨q, 0, none⟩) lo.length co]) ⟨A9.out, O9.out, I9.out⟩ ?_ (hy := fun W h => by obtain ⟨z0, z1⟩ := h.1.two; go_simp)
    simp only [ap, List.set]
    refine tq 1 171 (.pointer (some ⟨Q, 6, none⟩)) ⟨A9.out, O9.out, I9.out⟩ ?_
    simp only [ap, List.set]
    refine tq 2 172 (.slice o.items.a o.items.n o.items.k) ⟨A9.out, O9.out, I9.out⟩ ?_ (hy := fun W h => by obtain ⟨z0, z1, z2, z3, z4, z5, z6, z7, z8, z9⟩ := h.2.1.ten; go_simp)
    simp only [ap, List.set]
    refine tq 3 173 (.pointer (some ⟨ib, 0, none⟩)) ⟨A9.out, O9.out, I9.out⟩ ?_ (hy := fun W h => by rw [EI.out, EM.out]; have c1 : (0 : Int) < (m : Int) + 1 := (by omega); go_simp)
    simp only [ap, List.set]
    refine tq 4 174 (.string (o.items.f 0)) ⟨A9.out, O9.out, I9.out⟩ ?_ (hy := fun W h => by have z := IT.out W h.2.2; go_simp)
    simp only [ap, List.set]
    have A8 := A9
    have O8 := O9
    have R8 := R9
    have I8 := I9
    generalize W8.drew = WD at *
    obtain ⟨r0, r1⟩ := R8.out.two
    have rf := R8.out.warm
    refine wpAnyG_one (i := 5) (by kernel_rfl) rfl ?_
    intro K hK
    go_simp
    refine hK.out _ _ (fun _ => ⟨(A8.out.other (by omega) _).other (by omega) _, (O8.out.other nR _).other nR _, (I8.out.keeps (keeps_set R8.out (by decide) _)).keeps (keeps_set (R8.out.setAt (i := 0) _) (by decide) _)⟩) ?_
    clear hK K
    try simp only [ap, List.set]
    refine tq 6 7 (.int .i64 0) ⟨(A8.out.other (by omega) _).other (by omega) _, (O8.out.other nR _).other nR _, (I8.out.keeps (keeps_set R8.out (by decide) _)).keeps (keeps_set (R8.out.setAt (i := 0) _) (by decide) _)⟩ ?_
    simp only [ap, List.set]
    refine tq 7 8 (.string (o.items.f 0)) ⟨(A8.out.other (by omega) _).other (by omega) _, (O8.out.other nR _).other nR _, (I8.out.keeps (keeps_set R8.out (by decide) _)).keeps (keeps_set (R8.out.setAt (i := 0) _) (by decide) _)⟩ ?_
    simp only [ap, List.set]
    refine wpAnyG_done (by kernel_rfl) ?_ _
    clear r0 r1 rf
    go_wp2
    refine bodyPost_ret (self_results _ _ (w.heap.size + 1 + 1) 6 _ _ _ _ Tryz.results79 ((R8.out.setAt (i := 0) _).setAt (i := 1) _) rfl rfl rfl) rfl ⟨lt, lo.set u (⟨o.id, o.kind, o.up, o.b1, o.c1, o.data, (⟨a7, m, c7, fun i => o.items.f (i + 1)⟩ : StrL), o.own, o.b2, o.c2⟩ : ObjV), 0, _, rfl, ?_, ?_, .k10 rfl (.inr ⟨u, UB.out, .inr (.inr ⟨CB.out, NE.out, rfl, by rw [EA.out], rfl, a7, c7, by rw [EA.out, EM.out]; rfl⟩)⟩)⟩
    ·exact (K9.out.set R8.out (.inl rfl) _).set (R8.out.setAt (i := 0) _) (.inl rfl) _
    ·exact (L9.out.setCell (by dsimp only; omega) _).setCell (by dsimp only; omega) _
   ·subst e
    have ew : wn = 4 := WN.out
    subst ew
    have F5 : Hid (∀ W, Below V.heap.size V W → Calls Tryz.prog 90 #[.agg #[.int .i64 X.b1, .slice X.c1.a X.c1.n X.c1.k], .slice X.own.a X.own.n X.own.k, .agg #[.int .i64 o.b2, .slice o.c2.a o.c2.n o.c2.k]] W fun e w' => e = .returned (.bool (flowB X.b1 X.c1 X.own o.b2 o.c2)) ∧ Below W.heap.size W w') := hid (fun W hV => flows_v _ X.c1 X.own _ o.c2 W (XA.out.below (LW.out _ hV)).1 (XA.out.below (LW.out _ hV)).2.2 (by
     have := ((BX.out _ hV).2.2.2.2.on _ (List.getElem_mem ul)).2.2.2.1
     rw [← EO.out] at this
     exact this) xs.1 (by rw [EO.out]; exact (hO2 _ (List.getElem_mem ul)).1) ra (by rw [EO.out]; exact (hO2 _ (List.getElem_mem ul)).2))
    have FB : Hid (flowB X.b1 X.c1 X.own (atOwnOb lo u).b2 (atOwnOb lo u).c2 = flowB X.b1 X.c1 X.own o.b2 o.c2) := hid (by rw [EA.out])
    have OI : Hid (∀ W, Below V.heap.size V W → o.own.at W) := hid (fun W hV => by
     have := ((BX.out _ hV).2.2.2.2.on _ (List.getElem_mem ul)).2.2.1.1
     rw [← EO.out] at this
     exact this)
    have on2 : o.own.n ≤ 1000 := by rw [EO.out]; exact (hO3 _ (List.getElem_mem ul))
    generalize flowB X.b1 X.c1 X.own o.b2 o.c2 = c5 at *
    have VL := hid H2
    clear H1 H2 F1 F2 E1 E2 D0 V1 V0
    obtain ⟨x0, x1⟩ := (BX.out _ VL.out).1.two
    obtain ⟨s0, s1, s2, s3, s4, s5, s6, s7, s8, s9⟩ := (BX.out _ VL.out).2.1.ten
    obtain ⟨r0, r1⟩ := (BX.out _ VL.out).2.2.1.two
    have rf := (BX.out _ VL.out).2.2.1.warm
    obtain ⟨y0, y1, y2, y3, y4, y5, y6⟩ := (BX.out _ VL.out).2.2.2.1.seven
    obtain ⟨q0, q1, q2, q3, q4, q5, q6, q7, q8, q9⟩ := OC.out _ VL.out
    have V5 := hid (VL.out.alloc VL.out.size (.cells #[.int .i64 o.id, .int .i64 o.kind, .int .i64 o.up, .int .i64 o.b1, .slice o.c1.a o.c1.n o.c1.k, .string o.data, .slice o.items.a o.items.n o.items.k, .slice o.own.a o.own.n o.own.k, .int .i64 o.b2, .slice o.c2.a o.c2.n o.c2.k] 88))
    have O5 := hid (Blk.new w3 (.cells #[.int .i64 o.id, .int .i64 o.kind, .int .i64 o.up, .int .i64 o.b1, .slice o.c1.a o.c1.n o.c1.k, .string o.data, .slice o.items.a o.items.n o.items.k, .slice o.own.a o.own.n o.own.k, .int .i64 o.b2, .slice o.c2.a o.c2.n o.c2.k] 88))
    have S5 := hid VL.out.size
    obtain ⟨bx0, bx1⟩ := (BX.out _ V5.out).1.two
    obtain ⟨bs0, bs1, bs2, bs3, bs4, bs5, bs6, bs7, bs8, bs9⟩ := (BX.out _ V5.out).2.1.ten
    obtain ⟨br0, br1⟩ := (BX.out _ V5.out).2.2.1.two
    have brf := (BX.out _ V5.out).2.2.1.warm
    obtain ⟨by0, by1, by2, by3, by4, by5, by6⟩ := (BX.out _ V5.out).2.2.2.1.seven
    obtain ⟨o0, o1, o2, o3, o4, o5, o6, o7, o8, o9⟩ := O5.out.ten
    go_wp2_with fail
    clear x0 x1 s0 s1 s2 s3 s4 s5 s6 s7 s8 s9 r0 r1 rf y0 y1 y2 y3 y4 y5 y6 q0 q1 q2 q3 q4 q5 q6 q7 q8 q9 bx0 bx1 bs0 bs1 bs2 bs3 bs4 bs5 bs6 bs7 bs8 bs9 br0 br1 brf by0 by1 by2 by3 by4 by5 by6 o0 o1 o2 o3 o4 o5 o6 o7 o8 o9 VL
    generalize (w3.alloc (.cells #[.int .i64 o.id, .int .i64 o.kind, .int .i64 o.up, .int .i64 o.b1, .slice o.c1.a o.c1.n o.c1.k, .string o.data, .slice o.items.a o.items.n o.items.k, .slice o.own.a o.own.n o.own.k, .int .i64 o.b2, .slice o.c2.a o.c2.n o.c2.k] 88)) = W5 at *
    generalize w3.heap.size = Q at *
    have OB : Hid (∀ W, Below W5.heap.size W5 W → Blk W Q (.cells #[.int .i64 o.id, .int .i64 o.kind, .int .i64 o.up, .int .i64 o.b1, .slice o.c1.a o.c1.n o.c1.k, .string o.data, .slice o.items.a o.items.n o.items.k, .slice o.own.a o.own.n o.own.k, .int .i64 o.b2, .slice o.c2.a o.c2.n o.c2.k] 88)) := hid (fun W hW => O5.out.below hW)
    have VW : Hid (∀ W, Below W5.heap.size W5 W → Below V.heap.size V W) := hid (fun W hW => then_ V5.out hW)
    have Z5 := hid (Below.refl W5.heap.size W5)
    have nR : ¬ w.heap.size + 1 + 1 = Q := by have h1 := (BX.out _ (Below.refl V.heap.size V)).2.2.1.lt; have h2 := S5.out; omega
    refine (F5.out _ (VW.out _ Z5.out)).mono ?_
    rintro e w6 ⟨rfl, hb6⟩
    have V6 := hid hb6
    clear hb6
    obtain ⟨x0, x1⟩ := (BX.out _ (VW.out _ V6.out)).1.two
    obtain ⟨s0, s1, s2, s3, s4, s5, s6, s7, s8, s9⟩ := (BX.out _ (VW.out _ V6.out)).2.1.ten
    obtain ⟨r0, r1⟩ := (BX.out _ (VW.out _ V6.out)).2.2.1.two
    have rf := (BX.out _ (VW.out _ V6.out)).2.2.1.warm
    obtain ⟨y0, y1, y2, y3, y4, y5, y6⟩ := (BX.out _ (VW.out _ V6.out)).2.2.2.1.seven
    obtain ⟨q0, q1, q2, q3, q4, q5, q6, q7, q8, q9⟩ := OC.out _ (VW.out _ V6.out)
    obtain ⟨o0, o1, o2, o3, o4, o5, o6, o7, o8, o9⟩ := (OB.out _ V6.out).ten
    cases c5 with
    | false =>
     go_wp2
     have RB := hid (BX.out _ (VW.out _ V6.out)).2.2.1
     have KB := hid (BX.out _ (VW.out _ V6.out)).2.2.2.2
     refine bodyPost_ret (self_results _ _ (w.heap.size + 1 + 1) 6 _ _ _ _ Tryz.results79 ((RB.out.setAt (i := 0) _).setAt (i := 1) _) rfl rfl rfl) rfl ⟨lt, lo, 4, _, rfl, ?_, ?_, .k13 rfl (.inr ⟨u, UB.out, .inl ⟨FB.out, rfl, rfl, rfl, rfl⟩⟩)⟩
     ·exact (KB.out.set RB.out (.inl rfl) _).set (RB.out.setAt (i := 0) _) (.inl rfl) _
     ·exact ((LB.out _ (VW.out _ V6.out)).setCell (by dsimp only; omega) _).setCell (by dsimp only; omega) _
    | true =>
    have O0 := hid (OwnI.made w6 w6.heap.size (Nat.le_refl _))
    have E0 : Hid (Below w6.heap.size w6 (w6.alloc (.cells #[] 2))) := hid ((Below.refl _ w6).alloc (Nat.le_refl _) _)
    have el : ((List.range X.own.n).map X.own.h).length = X.own.n := by simp
    have LN : Hid (NumL (w6.alloc (.cells #[] 2)) X.own.a ((List.range X.own.n).map X.own.h)) := hid (IntsAt.intL (XA.out.below (then_ (LW.out _ (VW.out _ V6.out)) E0.out)).2.2.2)
    have VE := hid (V6.out.alloc V6.out.size (.cells #[] 2))
    obtain ⟨bx0, bx1⟩ := (BX.out _ (VW.out _ VE.out)).1.two
    obtain ⟨bs0, bs1, bs2, bs3, bs4, bs5, bs6, bs7, bs8, bs9⟩ := (BX.out _ (VW.out _ VE.out)).2.1.ten
    obtain ⟨br0, br1⟩ := (BX.out _ (VW.out _ VE.out)).2.2.1.two
    have brf := (BX.out _ (VW.out _ VE.out)).2.2.1.warm
    obtain ⟨by0, by1, by2, by3, by4, by5, by6⟩ := (BX.out _ (VW.out _ VE.out)).2.2.2.1.seven
    have on1 : X.own.n ≤ 1048576 := xs.2.2
    go_wp2_with (at_builtin; refine wpList_append_intsR _ rfl _ _ rfl w6.heap.size (.slice (some ⟨w6.heap.size, 0, none⟩) 0 0) [] rfl O0.out _ _ _ ((List.range X.own.n).map X.own.h) rfl el LN.out ((List.range X.own.n).map X.own.h) rfl (by rw [el]; omega) E0.out.size ?_; intro a7 c7 w7 o7 g7 _; have O7 := hid o7; have B7 : Hid (Below w6.heap.size w6 w7) := hid (E0.out.grown g7 E0.out.size (fun j e => by cases e; exact Nat.le_refl _)); clear o7 g7)
    clear x0 x1 s0 s1 s2 s3 s4 s5 s6 s7 s8 s9 r0 r1 rf y0 y1 y2 y3 y4 y5 y6 q0 q1 q2 q3 q4 q5 q6 q7 q8 q9 o0 o1 o2 o3 o4 o5 o6 o7 o8 o9
    clear bx0 bx1 bs0 bs1 bs2 bs3 bs4 bs5 bs6 bs7 bs8 bs9 br0 br1 brf by0 by1 by2 by3 by4 by5 by6
    go_loopw [17, 18] (fun v i wr => ∃ (j : Nat) (la : Option Addr) (lc : Nat), j ≤ o.own.n ∧ i = .int .i64 j ∧ v = .slice la (putTo ((List.range X.own.n).map X.own.h) o.own.h j).length lc ∧ OwnI wr w6.heap.size (.slice la (putTo ((List.range X.own.n).map X.own.h) o.own.h j).length lc) (putTo ((List.range X.own.n).map X.own.h) o.own.h j) ∧ Below w6.heap.size w6 wr) (fun _ i _ => o.own.n - (intOf i).toNat)
    case atStart => exact ⟨0, a7, c7, Nat.zero_le _, rfl, by rw [show (putTo ((List.range X.own.n).map X.own.h) o.own.h 0).length = X.own.n from by simp [putTo]], O7.out, B7.out⟩
    case round =>
     clear O0 E0 LN O7 B7 VE
     obtain ⟨j, la, lc, hj, rfl, rfl, ow, be⟩ := hrel
     have OW := hid ow
     have BB := hid be
     have VW6 := hid (V6.out.trans (be.mono V6.out.size))
     have ll := putTo_len ((List.range X.own.n).map X.own.h) o.own.h j
     rw [el] at ll
     obtain ⟨SL, eSL⟩ : ∃ l, l = putTo ((List.range X.own.n).map X.own.h) o.own.h j := ⟨_, rfl⟩
     rw [← eSL] at OW ll ⊢
     have ES := hid eSL
     clear ow be eSL
     obtain ⟨x0, x1⟩ := (BX.out _ (VW.out _ VW6.out)).1.two
     obtain ⟨s0, s1, s2, s3, s4, s5, s6, s7, s8, s9⟩ := (BX.out _ (VW.out _ VW6.out)).2.1.ten
     obtain ⟨r0, r1⟩ := (BX.out _ (VW.out _ VW6.out)).2.2.1.two
     have rf := (BX.out _ (VW.out _ VW6.out)).2.2.1.warm
     obtain ⟨y0, y1, y2, y3, y4, y5, y6⟩ := (BX.out _ (VW.out _ VW6.out)).2.2.2.1.seven
     obtain ⟨q0, q1, q2, q3, q4, q5, q6, q7, q8, q9⟩ := OC.out _ (VW.out _ VW6.out)
     obtain ⟨o0, o1, o2, o3, o4, o5, o6, o7, o8, o9⟩ := (OB.out _ VW6.out).ten
     by_cases hlt : j < o.own.n
     ·have i2 : (j : Int) < (o.own.n : Int) := by omega
      have i3 : (0 : Int) ≤ (j : Int) := by omega
      have HLT := hid hlt
      have cj : ∃ b off, o.own.a = some ⟨b, off, none⟩ ∧ wr.cell? ⟨b, off + j, none⟩ = some (.int .i64 (o.own.h j)) := by
       obtain ⟨b, off, e, _, hc⟩ := (OI.out _ (VW.out _ VW6.out)).2 (by omega)
       exact ⟨b, off, e, hc j hlt⟩
      obtain ⟨b, off, eoa, c1⟩ := cj
      have CP : Hid (Calls Tryz.prog 89 #[.slice la SL.length lc, .int .i64 (o.own.h j)] wr fun e w' => ∃ va vc, e = .returned (.slice va (putL SL (o.own.h j)).length vc) ∧ OwnI w' wr.heap.size (.slice va (putL SL (o.own.h j)).length vc) (putL SL (o.own.h j)) ∧ Below wr.heap.size wr w') := hid (by
       have h := l2Put_all ⟨la, SL.length, lc, nthI SL⟩ (o.own.h j) wr (OW.out.newL (by omega)).1 (by show SL.length ≤ 1048576; omega) (own_cap OW.out)
       have e : (List.range SL.length).map (nthI SL) = SL := range_nth SL
       simp only [e] at h
       exact h)
      have EP : Hid (putTo ((List.range X.own.n).map X.own.h) o.own.h (j + 1) = putL SL (o.own.h j)) := hid (by simp only [putTo]; rw [ES.out])
      rw [eoa] at o7
      clear eoa
      go_wp2_with fail
      refine CP.out.mono ?_
      rintro e w8 ⟨va, vc, rfl, o8, b8⟩
      have O8 := hid (OwnI.base o8 BB.out.size)
      have B8 := hid (BB.out.trans (b8.mono BB.out.size))
      clear o8 b8
      go_wp2
      go_roundw
      case rel => exact ⟨j + 1, va, vc, by have := HLT.out; omega, by go_num, by rw [EP.out], by rw [EP.out]; exact O8.out, B8.out⟩
      case measure => have := HLT.out; simp [intOf]; omega
     ·obtain rfl : j = o.own.n := by omega
      have i2 : ¬ (o.own.n : Int) < (o.own.n : Int) := by omega
      have RB := hid (BX.out _ (VW.out _ VW6.out)).2.2.1
      have KB := hid (BX.out _ (VW.out _ VW6.out)).2.2.2.2
      have LD := hid (LB.out _ (VW.out _ VW6.out))
      have EQ : Hid (SL = putTo ((List.range X.own.n).map X.own.h) (atOwnOb lo u).own.h (atOwnOb lo u).own.n) := hid (by rw [EA.out]; exact ES.out)
      by_cases big : 10 < SL.length
      ·have g1 : decide ((10 : Int) < (SL.length : Int)) = true := decide_eq_true (by omega)
       have g2 : (10 : Int) < (SL.length : Int) := by omega
       have BG := hid big
       clear big
       go_wp2
       refine bodyPost_ret (self_results _ _ (w.heap.size + 1 + 1) 6 _ _ _ _ Tryz.results79 ((RB.out.setAt (i := 0) _).setAt (i := 1) _) rfl rfl rfl) rfl ⟨lt, lo, 5, _, rfl, ?_, ?_, .k13 rfl (.inr ⟨u, UB.out, .inr (.inl ⟨FB.out, by rw [← EQ.out]; exact BG.out, rfl, rfl, rfl, rfl⟩)⟩)⟩
       ·exact (KB.out.set RB.out (.inl rfl) _).set (RB.out.setAt (i := 0) _) (.inl rfl) _
       ·exact (LD.out.setCell (by dsimp only; omega) _).setCell (by dsimp only; omega) _
      have g1 : decide ((10 : Int) < (SL.length : Int)) = false := decide_eq_false (by omega)
      have g2 : ¬ (10 : Int) < (SL.length : Int) := by omega
      have BG := hid big
      clear big
      have B6 : Hid (B ≤ w6.heap.size) := hid (Nat.le_trans hB (LW.out _ (VW.out _ V6.out)).size)
      have NW : Hid (IntL.new B wr ⟨la, SL.length, lc, nthI SL⟩ ∧ (SL.length ≤ lc ∧ lc ≤ maxLen)) := hid ⟨(OW.out.newL (by omega)).low B6.out, own_cap OW.out⟩
      have CC := (KB.out.cell7 ht).1
      rw [← EX.out] at CC
      have c0 := CC.c0
      have c1 := CC.c1
      have c2 := CC.c2
      have c3 := CC.c3
      have c4 := CC.c4
      have c5 := CC.c5
      have c6 := CC.c6
      have GF := hid (KB.out.setOwn (d := ⟨la, SL.length, lc, nthI SL⟩) ht EX.out NW.out.1 NW.out.2)
      have gf := GF.out.2.1.choose_spec.warm
      have gs : g < w.heap.size := GZ.out
      have n1 : ¬ g = w.heap.size := by omega
      have n2 : ¬ g = w.heap.size + 1 := by omega
      have n3 : ¬ g = w.heap.size + 1 + 1 := by omega
      have RC := hid (RB.out.other (Q := g) n3 (i := t * 7 + 5) (.slice la SL.length lc))
      clear CC
      go_wp2
      refine bodyPost_ret (self_results _ _ (w.heap.size + 1 + 1) 6 _ _ _ _ Tryz.results79 ((RC.out.setAt (i := 0) _).setAt (i := 1) _) rfl rfl rfl) rfl ⟨(lt.set t ⟨X.id, X.b1, X.c1, X.b2, X.c2, ⟨la, SL.length, lc, nthI SL⟩, X.made⟩), lo, 0, _, rfl, ?_, ?_, .k13 rfl (.inr ⟨u, UB.out, .inr (.inr ⟨FB.out, by rw [← EQ.out]; exact BG.out, rfl, rfl, la, lc, by rw [← EQ.out], rfl⟩)⟩)⟩
      ·exact (GF.out.1.set RC.out (.inl rfl) _).set (RC.out.setAt (i := 0) _) (.inl rfl) _
      ·exact ((LD.out.setCell (by dsimp only; exact GF.out.2.2) _).setCell (by dsimp only; omega) _).setCell (by dsimp only; omega) _
   ·subst e
    have ew : wn = 3 := WN.out
    subst ew
    have VL := hid H2
    clear H1 H2 F1 F2 E1 E2 D0 V1 V0
    obtain ⟨x0, x1⟩ := (BX.out _ VL.out).1.two
    obtain ⟨s0, s1, s2, s3, s4, s5, s6, s7, s8, s9⟩ := (BX.out _ VL.out).2.1.ten
    obtain ⟨r0, r1⟩ := (BX.out _ VL.out).2.2.1.two
    have rf := (BX.out _ VL.out).2.2.1.warm
    obtain ⟨y0, y1, y2, y3, y4, y5, y6⟩ := (BX.out _ VL.out).2.2.2.1.seven
    obtain ⟨q0, q1, q2, q3, q4, q5, q6, q7, q8, q9⟩ := OC.out _ VL.out
    have V5 := hid (VL.out.alloc VL.out.size (.cells #[.int .i64 o.id, .int .i64 o.kind, .int .i64 o.up, .int .i64 o.b1, .slice o.c1.a o.c1.n o.c1.k, .string o.data, .slice o.items.a o.items.n o.items.k, .slice o.own.a o.own.n o.own.k, .int .i64 o.b2, .slice o.c2.a o.c2.n o.c2.k] 88))
    have O5 := hid (Blk.new w3 (.cells #[.int .i64 o.id, .int .i64 o.kind, .int .i64 o.up, .int .i64 o.b1, .slice o.c1.a o.c1.n o.c1.k, .string o.data, .slice o.items.a o.items.n o.items.k, .slice o.own.a o.own.n o.own.k, .int .i64 o.b2, .slice o.c2.a o.c2.n o.c2.k] 88))
    have S5 := hid VL.out.size
    obtain ⟨bx0, bx1⟩ := (BX.out _ V5.out).1.two
    obtain ⟨bs0, bs1, bs2, bs3, bs4, bs5, bs6, bs7, bs8, bs9⟩ := (BX.out _ V5.out).2.1.ten
    obtain ⟨br0, br1⟩ := (BX.out _ V5.out).2.2.1.two
    have brf := (BX.out _ V5.out).2.2.1.warm
    obtain ⟨by0, by1, by2, by3, by4, by5, by6⟩ := (BX.out _ V5.out).2.2.2.1.seven
    obtain ⟨o0, o1, o2, o3, o4, o5, o6, o7, o8, o9⟩ := O5.out.ten
    go_wp2_with fail
    clear x0 x1 s0 s1 s2 s3 s4 s5 s6 s7 s8 s9 r0 r1 rf y0 y1 y2 y3 y4 y5 y6 q0 q1 q2 q3 q4 q5 q6 q7 q8 q9 bx0 bx1 bs0 bs1 bs2 bs3 bs4 bs5 bs6 bs7 bs8 bs9 br0 br1 brf by0 by1 by2 by3 by4 by5 by6 o0 o1 o2 o3 o4 o5 o6 o7 o8 o9 VL
    generalize (w3.alloc (.cells #[.int .i64 o.id, .int .i64 o.kind, .int .i64 o.up, .int .i64 o.b1, .slice o.c1.a o.c1.n o.c1.k, .string o.data, .slice o.items.a o.items.n o.items.k, .slice o.own.a o.own.n o.own.k, .int .i64 o.b2, .slice o.c2.a o.c2.n o.c2.k] 88)) = W5 at *
    generalize w3.heap.size = Q at *
    have OB : Hid (∀ W, Below W5.heap.size W5 W → Blk W Q (.cells #[.int .i64 o.id, .int .i64 o.kind, .int .i64 o.up, .int .i64 o.b1, .slice o.c1.a o.c1.n o.c1.k, .string o.data, .slice o.items.a o.items.n o.items.k, .slice o.own.a o.own.n o.own.k, .int .i64 o.b2, .slice o.c2.a o.c2.n o.c2.k] 88)) := hid (fun W hW => O5.out.below hW)
    have VW : Hid (∀ W, Below W5.heap.size W5 W → Below V.heap.size V W) := hid (fun W hW => then_ V5.out hW)
    have Z5 := hid (Below.refl W5.heap.size W5)
    have nR : ¬ w.heap.size + 1 + 1 = Q := by have h1 := (BX.out _ (Below.refl V.heap.size V)).2.2.1.lt; have h2 := S5.out; omega
    refine (kids_v (BX.out _ (VW.out _ Z5.out)).2.2.2.2 hl1 hn hd id_).mono ?_
    rintro e w6 ⟨ka, kc, rfl, ok, hb6⟩
    have V6 := hid hb6
    have kl := inX_len (atOwnOb lo) id_ lo.length
    obtain ⟨KL, eKL⟩ : ∃ l, l = inX (atOwnOb lo) id_ lo.length := ⟨_, rfl⟩
    have KI : Hid (∀ j, j < KL.length → 0 ≤ nthI KL j ∧ nthI KL j ≤ 1000000) := hid (fun j hj => by rw [eKL] at hj ⊢; exact inX_id (P := fun x => 0 ≤ x ∧ x ≤ 1000000) hi hj)
    rw [← eKL] at ok kl ⊢
    have EK := hid eKL
    have KA : Hid (∀ W, Below w6.heap.size w6 W → IntL.at W ⟨ka, KL.length, kc, nthI KL⟩) := hid (fun W hW => (ok.newL (by omega)).1.below hW)
    clear hb6 ok eKL
    obtain ⟨x0, x1⟩ := (BX.out _ (VW.out _ V6.out)).1.two
    obtain ⟨s0, s1, s2, s3, s4, s5, s6, s7, s8, s9⟩ := (BX.out _ (VW.out _ V6.out)).2.1.ten
    obtain ⟨r0, r1⟩ := (BX.out _ (VW.out _ V6.out)).2.2.1.two
    have rf := (BX.out _ (VW.out _ V6.out)).2.2.1.warm
    obtain ⟨y0, y1, y2, y3, y4, y5, y6⟩ := (BX.out _ (VW.out _ V6.out)).2.2.2.1.seven
    go_wp2
    clear x0 x1 s0 s1 s2 s3 s4 s5 s6 s7 s8 s9 r0 r1 rf y0 y1 y2 y3 y4 y5 y6
    go_loopw [14, 16] (fun v i wr => ∃ j : Nat, j ≤ KL.length ∧ i = .int .i64 j ∧ v = .string (jnT (nthI KL) j) ∧ Below w6.heap.size w6 wr) (fun _ i _ => KL.length - (intOf i).toNat)
    case atStart => exact ⟨0, Nat.zero_le _, rfl, rfl, Below.refl _ _⟩
    case round =>
     obtain ⟨j, hj, rfl, rfl, be⟩ := hrel
     have BB := hid be
     clear be
     by_cases hlt : j < KL.length
     ·have i2 : (j : Int) < (KL.length : Int) := by omega
      have i3 : (0 : Int) ≤ (j : Int) := by omega
      have HLT := hid hlt
      have cj : ∃ b off, ka = some ⟨b, off, none⟩ ∧ wr.cell? ⟨b, off + j, none⟩ = some (.int .i64 (nthI KL j)) := by
       obtain ⟨b, off, e, _, hc⟩ := (KA.out _ BB.out).2 (by show 0 < KL.length; omega)
       exact ⟨b, off, e, hc j hlt⟩
      obtain ⟨b, off, rfl, c1⟩ := cj
      have kj := KI.out j hlt
      have D : Hid (∀ W, Calls Tryz.prog 22 #[.int .i64 (nthI KL j)] W fun e w' => e = .returned (.string ⟨(decL (nthI KL j).toNat).toArray⟩) ∧ Below W.heap.size W w') := hid (fun W => by
       have e : (((nthI KL j).toNat : Nat) : Int) = nthI KL j := by omega
       have h := l1Dec_any (nthI KL j).toNat W (by omega)
       rw [e] at h
       exact h)
      have l1 := jnT_len (h := nthI KL) (q := j) (fun i hi' => by have := KI.out i (by omega); omega)
      have l2 := decL_len (nthI KL j).toNat
      have l3 : (⟨(decL (nthI KL j).toNat).toArray⟩ : ByteArray).size = (decL (nthI KL j).toNat).length := by show (decL (nthI KL j).toNat).toArray.size = _; simp
      have s1 : (jnT (nthI KL) j).size ≤ 300000000 := by omega
      have s2 : (⟨(decL (nthI KL j).toNat).toArray⟩ : ByteArray).size ≤ 1000001 := by omega
      have EX : Hid (jnT (nthI KL) (j + 1) = (if 0 < j then jnT (nthI KL) j ++ ByteArray.mk #[32] else jnT (nthI KL) j) ++ ⟨(decL (nthI KL j).toNat).toArray⟩) := hid rfl
      have lt0 : (ByteArray.mk #[32]).size = 1 := rfl
      generalize jnT (nthI KL) j = S at *
      generalize (⟨(decL (nthI KL j).toNat).toArray⟩ : ByteArray) = D1 at *
      have r1 : ¬ 9223372036854775807 < S.size + (ByteArray.mk #[32]).size := by omega
      have r2 : ¬ 9223372036854775807 < (S ++ ByteArray.mk #[32]).size + D1.size := by rw [ByteArray.size_append]; omega
      have r3 : ¬ 9223372036854775807 < S.size + D1.size := by omega
      clear l1 l2 l3 lt0 hlt kj
      by_cases j0 : 0 < j
      ·have j1' : decide ((0 : Int) < (j : Int)) = true := decide_eq_true (by omega)
       have j2' : (0 : Int) < (j : Int) := by omega
       rw [if_pos j0] at EX
       go_wp2_with fail
       refine (D.out _).mono ?_
       rintro e w8 ⟨rfl, b8⟩
       have B8 := hid (BB.out.trans (b8.mono BB.out.size))
       clear b8
       go_wp2
       go_roundw
       case rel => exact ⟨j + 1, by have := HLT.out; omega, by go_num, by rw [EX.out], B8.out⟩
       case measure => have := HLT.out; simp [intOf]; omega
      ·have j1' : decide ((0 : Int) < (j : Int)) = false := decide_eq_false (by omega)
       have j2' : ¬ (0 : Int) < (j : Int) := by omega
       rw [if_neg j0] at EX
       go_wp2_with fail
       refine (D.out _).mono ?_
       rintro e w8 ⟨rfl, b8⟩
       have B8 := hid (BB.out.trans (b8.mono BB.out.size))
       clear b8
       go_wp2
       go_roundw
       case rel => exact ⟨j + 1, by have := HLT.out; omega, by go_num, by rw [EX.out], B8.out⟩
       case measure => have := HLT.out; simp [intOf]; omega
     ·obtain rfl : j = KL.length := by omega
      have i2 : ¬ (KL.length : Int) < (KL.length : Int) := by omega
      have VR := hid (VW.out _ (V6.out.trans (BB.out.mono V6.out.size)))
      obtain ⟨x0, x1⟩ := (BX.out _ VR.out).1.two
      obtain ⟨r0, r1⟩ := (BX.out _ VR.out).2.2.1.two
      have rf := (BX.out _ VR.out).2.2.1.warm
      have RB := hid (BX.out _ VR.out).2.2.1
      have KB := hid (BX.out _ VR.out).2.2.2.2
      go_wp2
      refine bodyPost_ret (self_results _ _ (w.heap.size + 1 + 1) 6 _ _ _ _ Tryz.results79 ((RB.out.setAt (i := 0) _).setAt (i := 1) _) rfl rfl rfl) rfl ⟨lt, lo, 0, _, rfl, ?_, ?_, .k15 rfl (.inr ⟨u, UB.out, rfl, by rw [EK.out], rfl, rfl⟩)⟩
      ·exact (KB.out.set RB.out (.inl rfl) _).set (RB.out.setAt (i := 0) _) (.inl rfl) _
      ·exact ((LB.out _ VR.out).setCell (by dsimp only; omega) _).setCell (by dsimp only; omega) _
  ·have k3' : (o.kind == wn) = false := by simpa using k3
   have k3'' : decide (o.kind = wn) = false := decide_eq_false k3
   have k4 : (o.kind != wn) = true := by simp [k3]
   rw [k3'', Bool.false_and] at UA
   have UB : Hid (useAt X lo id_ wn = none) := hid (by simpa using UA.out)
   clear UA
   have UA := UB
   clear k3
   go_wp2_with fail
   refine wp_region_G 25 (fun W => Below V.heap.size V W) (by kernel_rfl) ?_
   refine tq 0 28 (.int .i64 u) D0.out ?_
   simp only [ap, List.set]
   refine tq 1 29 (.bool false) D0.out ?_
   simp only [ap, List.set]
   refine tq 2 30 (.bool false) D0.out ?_
   simp only [ap, List.set]
   refine tq 3 31 (.pointer (some ⟨w.heap.size, 1, none⟩)) D0.out ?_
   simp only [ap, List.set]
   refine tq 4 32 (.slice (some ⟨q, 0, none⟩) lo.length co) D0.out ?_ (hy := fun W h => by obtain ⟨z0, z1⟩ := (BX.out W h).1.two; go_simp)
   simp only [ap, List.set]
   refine tq 5 33 (.int .i64 u) D0.out ?_
   simp only [ap, List.set]
   refine tq 6 34 (.pointer (some ⟨q, u * 10, none⟩)) D0.out ?_
   simp only [ap, List.set]
   refine tq 7 35 (.pointer (some ⟨q, u * 10 + 1, none⟩)) D0.out ?_
   simp only [ap, List.set]
   refine tq 8 36 (.int .i64 o.kind) D0.out ?_ (hy := fun W h => by obtain ⟨z0, z1, z2, z3, z4, z5, z6, z7, z8, z9⟩ := OC.out W h; go_simp)
   simp only [ap, List.set]
   refine tq 9 37 (.pointer (some ⟨w.heap.size + 1, 1, none⟩)) D0.out ?_
   simp only [ap, List.set]
   refine tq 10 38 (.int .i64 kd) D0.out ?_ (hy := fun W h => by obtain ⟨z0, z1, z2, z3, z4, z5, z6, z7, z8, z9⟩ := (BX.out W h).2.1.ten; go_simp)
   simp only [ap, List.set]
   refine wpAnyG_one (i := 11) (by kernel_rfl) rfl ?_
   intro K hK
   refine step_call1g (by rfl) 96 _ _ (by rfl) E1.out _ (by rfl) (some 39) (by rfl) _ (F1.out _) ?_
   rintro v w2 ⟨rfl, hb⟩
   have H1 := then_ D0.out hb
   refine hK.out _ _ (fun _ => H1) ?_
   clear hK K hb
   simp only [ap, List.set]
   refine tq 12 40 (.bool true) H1 ?_
   simp only [ap, List.set]
   refine tq 13 41 (.bool true) H1 ?_
   simp only [ap, List.set]
   refine tq 14 42 (.bool true) H1 ?_
   simp only [ap, List.set]
   refine sks 9 [(15, 43), (16, 44), (17, 45), (18, 46), (19, 47), (20, 48), (21, 49), (22, 50), (23, 51)] rfl (by kernel_rfl) H1 ?_
   simp only [putsU, ap, List.set]
   refine tq 24 52 (.bool true) H1 ?_
   simp only [ap, List.set]
   refine wpAnyG_done (by kernel_rfl) ?_ _
   have VL := hid (H1)
   obtain ⟨x0, x1⟩ := (BX.out _ VL.out).1.two
   obtain ⟨s0, s1, s2, s3, s4, s5, s6, s7, s8, s9⟩ := (BX.out _ VL.out).2.1.ten
   obtain ⟨r0, r1⟩ := (BX.out _ VL.out).2.2.1.two
   have rf := (BX.out _ VL.out).2.2.1.warm
   obtain ⟨y0, y1, y2, y3, y4, y5, y6⟩ := (BX.out _ VL.out).2.2.2.1.seven
   go_wp2
   have RB := hid (BX.out _ VL.out).2.2.1
   have KB := hid (BX.out _ VL.out).2.2.2.2
   refine bodyPost_ret (self_results _ _ (w.heap.size + 1 + 1) 6 _ _ _ _ Tryz.results79 ((RB.out.setAt (i := 0) _).setAt (i := 1) _) rfl rfl rfl) rfl ⟨lt, lo, 4, _, rfl, ?_, ?_, .no (by have h := UA.out; rw [WN.out] at h; exact h) rfl rfl rfl rfl⟩
   ·exact (KB.out.set RB.out (.inl rfl) _).set (RB.out.setAt (i := 0) _) (.inl rfl) _
   ·exact ((LB.out _ VL.out).setCell (by dsimp only; omega) _).setCell (by dsimp only; omega) _
end Go.Proofs.YthbmfbnnemgbpaaGreatDoor
