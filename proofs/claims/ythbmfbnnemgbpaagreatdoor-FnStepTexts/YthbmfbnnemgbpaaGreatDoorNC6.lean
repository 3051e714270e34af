/- l4Self: a thread that leaves a category, by the model. -/
import Derived.Test.YthbmfbnnemgbpaaGreatDoorNC5
namespace Go.Proofs.YthbmfbnnemgbpaaGreatDoor
open Go Go.RowKit Go.Deep Go.Maps Go.BigFrame Go.Shelf
theorem OwnI.newL {w : World} {B c : Nat} {a : Option Addr} {l : List Int} (h : OwnI w B (.slice a l.length c) l) (hl : l.length ≤ 1048576) : IntL.new B w ⟨a, l.length, c, nthI l⟩ := by
 refine ownI_newL ?_ hl
 have e : (List.range l.length).map (nthI l) = l := List.ext_getElem (by simp) fun i h1 h2 => by simp [nthI, h2]
 rw [e]
 exact h
theorem OwnI.below' {w w' : World} {B : Nat} {v : Value} {l : List Int} (h : OwnI w B v l) (hb : Below w.heap.size w w') : OwnI w' B v l := World.ownsRow.kept (row := none) h ⟨hb.os, hb.tape, hb.output, hb.size, fun k hk _ => hb.block k hk⟩ (by cases v.ownBlock <;> simp)
theorem KSt.setOwn {w : World} {B g ca : Nat} {vo : Value} {lt : List ThrV} {lo : List ObjV} (h : KSt w B (.slice (some ⟨g, 0, none⟩) lt.length ca) vo lt lo) {t : Nat} {d : IntL} (ht : t < lt.length) {X : ThrV} (hX : X = lt[t]) (hd : d.new B w) (hdc : d.n ≤ d.k ∧ d.k ≤ maxLen) :
 KSt (w.setCell ⟨g, t * 7 + 5, none⟩ (.slice d.a d.n d.k)) B (.slice (some ⟨g, 0, none⟩) lt.length ca) vo (lt.set t ⟨X.id, X.b1, X.c1, X.b2, X.c2, d, X.made⟩) lo ∧ (∃ cur, Blk w g (.cells cur 79)) ∧ B ≤ g := by
 have hn := h.tn _ (List.getElem_mem ht)
 rw [← hX] at hn
 obtain ⟨k1, hcur, hg⟩ := h.setT (x := ⟨X.id, X.b1, X.c1, X.b2, X.c2, d, X.made⟩) (u := .slice d.a d.n d.k) ht (i := 5) (by omega) (by rw [← hX]; rfl) ⟨hn.1, hn.2.1, hd⟩ hdc
 have el : (lt.set t (⟨X.id, X.b1, X.c1, X.b2, X.c2, d, X.made⟩ : ThrV)).length = lt.length := by simp
 rw [el] at k1
 exact ⟨k1, hcur, hg⟩
def leftL (h : Nat → Int) (c : Int) (j : Nat) : List Int := ((List.range j).map h).filter (fun y => !decide (y = c))
theorem leftL_skip {h : Nat → Int} {c : Int} {j : Nat} (e : h j = c) : leftL h c (j + 1) = leftL h c j := by
 unfold leftL
 rw [List.range_succ, List.map_append, List.filter_append]
 simp [e]
theorem leftL_more {h : Nat → Int} {c : Int} {j : Nat} (e : h j ≠ c) : leftL h c (j + 1) = leftL h c j ++ [h j] := by
 unfold leftL
 rw [List.range_succ, List.map_append, List.filter_append]
 simp [e]
theorem leftL_len (h : Nat → Int) (c : Int) (j : Nat) : (leftL h c j).length ≤ j := by
 unfold leftL
 refine Nat.le_trans (List.length_filter_le _ _) ?_
 simp
set_option maxRecDepth 100000 in
set_option maxHeartbeats 16000000 in
theorem l4Self_leave (lt : List ThrV) (lo : List ObjV) (g ca : Nat) (oa : Option Addr) (co B : Nat) (w : World) (st : KSt w B (.slice (some ⟨g, 0, none⟩) lt.length ca) (.slice oa lo.length co) lt lo) (hB : B ≤ w.heap.size) (t : Nat) (ht : t < lt.length) (X : ThrV) (hX : X = lt[t]) (xs : X.small) (s : StepV) (hk : s.kind = 14) :
 Calls Tryz.prog 76 #[.agg #[.slice (some ⟨g, 0, none⟩) lt.length ca, .slice oa lo.length co], .int .i64 t, .agg #[.int .i64 s.th, .int .i64 s.kind, .int .i64 s.id, .int .i64 s.to, .int .i64 s.cat, .string s.data, .int .i64 s.b1, .slice s.c1.a s.c1.n s.c1.k, .int .i64 s.b2, .slice s.c2.a s.c2.n s.c2.k]] w fun e w' => ∃ (x : ThrV) (c : Int), e = .returned (.tuple #[.agg #[.slice (some ⟨g, 0, none⟩) lt.length ca, .slice oa lo.length co], .int .i64 c, .string ⟨#[]⟩]) ∧ KSt w' B (.slice (some ⟨g, 0, none⟩) lt.length ca) (.slice oa lo.length co) (lt.set t x) lo ∧ Below B w w' ∧ ((c = 4 ∧ hasB X.own.n X.own.h s.cat = false ∧ x = X) ∨ (c = 0 ∧ hasB X.own.n X.own.h s.cat = true ∧ ∃ (a : Option Addr) (cc : Nat), x = ⟨X.id, X.b1, X.c1, X.b2, X.c2, ⟨a, (leftL X.own.h s.cat X.own.n).length, cc, nthI (leftL X.own.h s.cat X.own.n)⟩, X.made⟩)) := by
 obtain ⟨th, kd, id_, to_, cat, dat, sb1, sc1, sb2, sc2⟩ := s
 simp only at hk ⊢
 subst hk
 have XN : Hid (X.new B w ∧ (X.own.n ≤ X.own.k ∧ X.own.k ≤ maxLen)) := hid (by rw [hX]; exact ⟨st.tn _ (List.getElem_mem ht), st.tc _ (List.getElem_mem ht)⟩)
 have XA : Hid (X.at w) := hid XN.out.1.at
 have on1 : X.own.n ≤ 1048576 := xs.2.2
 obtain ⟨CW, gl⟩ := st.cell7 ht
 rw [← hX] at CW
 have b3 : Below w.heap.size w (((w.alloc (.cells #[.slice (some ⟨g, 0, none⟩) lt.length ca, .slice oa lo.length co] 42)).alloc (.cells #[.int .i64 th, .int .i64 14, .int .i64 id_, .int .i64 to_, .int .i64 cat, .string dat, .int .i64 sb1, .slice sc1.a sc1.n sc1.k, .int .i64 sb2, .slice sc2.a sc2.n sc2.k] 28)).alloc (.cells #[.slice none 0 0, .slice none 0 0] 42)) := (((Below.refl _ w).alloc (Nat.le_refl _) _).alloc (by simp) _).alloc (by simp; omega) _
 have CC := CW.below gl b3
 have q0 : (((w.alloc (.cells #[.slice (some ⟨g, 0, none⟩) lt.length ca, .slice oa lo.length co] 42)).alloc (.cells #[.int .i64 th, .int .i64 14, .int .i64 id_, .int .i64 to_, .int .i64 cat, .string dat, .int .i64 sb1, .slice sc1.a sc1.n sc1.k, .int .i64 sb2, .slice sc2.a sc2.n sc2.k] 28)).alloc (.cells #[.slice none 0 0, .slice none 0 0] 42)).cell? ⟨g, t * 7, none⟩ = some (.int .i64 X.id) := CC.c0
 have q1 : (((w.alloc (.cells #[.slice (some ⟨g, 0, none⟩) lt.length ca, .slice oa lo.length co] 42)).alloc (.cells #[.int .i64 th, .int .i64 14, .int .i64 id_, .int .i64 to_, .int .i64 cat, .string dat, .int .i64 sb1, .slice sc1.a sc1.n sc1.k, .int .i64 sb2, .slice sc2.a sc2.n sc2.k] 28)).alloc (.cells #[.slice none 0 0, .slice none 0 0] 42)).cell? ⟨g, t * 7 + 1, none⟩ = some (.int .i64 X.b1) := CC.c1
 have q2 : (((w.alloc (.cells #[.slice (some ⟨g, 0, none⟩) lt.length ca, .slice oa lo.length co] 42)).alloc (.cells #[.int .i64 th, .int .i64 14, .int .i64 id_, .int .i64 to_, .int .i64 cat, .string dat, .int .i64 sb1, .slice sc1.a sc1.n sc1.k, .int .i64 sb2, .slice sc2.a sc2.n sc2.k] 28)).alloc (.cells #[.slice none 0 0, .slice none 0 0] 42)).cell? ⟨g, t * 7 + 2, none⟩ = some (.slice X.c1.a X.c1.n X.c1.k) := CC.c2
 have q3 : (((w.alloc (.cells #[.slice (some ⟨g, 0, none⟩) lt.length ca, .slice oa lo.length co] 42)).alloc (.cells #[.int .i64 th, .int .i64 14, .int .i64 id_, .int .i64 to_, .int .i64 cat, .string dat, .int .i64 sb1, .slice sc1.a sc1.n sc1.k, .int .i64 sb2, .slice sc2.a sc2.n sc2.k] 28)).alloc (.cells #[.slice none 0 0, .slice none 0 0] 42)).cell? ⟨g, t * 7 + 3, none⟩ = some (.int .i64 X.b2) := CC.c3
 have q4 : (((w.alloc (.cells #[.slice (some ⟨g, 0, none⟩) lt.length ca, .slice oa lo.length co] 42)).alloc (.cells #[.int .i64 th, .int .i64 14, .int .i64 id_, .int .i64 to_, .int .i64 cat, .string dat, .int .i64 sb1, .slice sc1.a sc1.n sc1.k, .int .i64 sb2, .slice sc2.a sc2.n sc2.k] 28)).alloc (.cells #[.slice none 0 0, .slice none 0 0] 42)).cell? ⟨g, t * 7 + 4, none⟩ = some (.slice X.c2.a X.c2.n X.c2.k) := CC.c4
 have q5 : (((w.alloc (.cells #[.slice (some ⟨g, 0, none⟩) lt.length ca, .slice oa lo.length co] 42)).alloc (.cells #[.int .i64 th, .int .i64 14, .int .i64 id_, .int .i64 to_, .int .i64 cat, .string dat, .int .i64 sb1, .slice sc1.a sc1.n sc1.k, .int .i64 sb2, .slice sc2.a sc2.n sc2.k] 28)).alloc (.cells #[.slice none 0 0, .slice none 0 0] 42)).cell? ⟨g, t * 7 + 5, none⟩ = some (.slice X.own.a X.own.n X.own.k) := CC.c5
 have q6 : (((w.alloc (.cells #[.slice (some ⟨g, 0, none⟩) lt.length ca, .slice oa lo.length co] 42)).alloc (.cells #[.int .i64 th, .int .i64 14, .int .i64 id_, .int .i64 to_, .int .i64 cat, .string dat, .int .i64 sb1, .slice sc1.a sc1.n sc1.k, .int .i64 sb2, .slice sc2.a sc2.n sc2.k] 28)).alloc (.cells #[.slice none 0 0, .slice none 0 0] 42)).cell? ⟨g, t * 7 + 6, none⟩ = some (.int .i64 X.made) := CC.c6
 have b0 : Below w.heap.size w ((((w.alloc (.cells #[.slice (some ⟨g, 0, none⟩) lt.length ca, .slice oa lo.length co] 42)).alloc (.cells #[.int .i64 th, .int .i64 14, .int .i64 id_, .int .i64 to_, .int .i64 cat, .string dat, .int .i64 sb1, .slice sc1.a sc1.n sc1.k, .int .i64 sb2, .slice sc2.a sc2.n sc2.k] 28)).alloc (.cells #[.slice none 0 0, .slice none 0 0] 42)).alloc (.cells #[.int .i64 X.id, .int .i64 X.b1, .slice X.c1.a X.c1.n X.c1.k, .int .i64 X.b2, .slice X.c2.a X.c2.n X.c2.k, .slice X.own.a X.own.n X.own.k, .int .i64 X.made] 79)) := ((((Below.refl _ w).alloc (Nat.le_refl _) _).alloc (by simp) _).alloc (by simp; omega) _).alloc (by simp; omega) _
 have A0 : Blk ((((w.alloc (.cells #[.slice (some ⟨g, 0, none⟩) lt.length ca, .slice oa lo.length co] 42)).alloc (.cells #[.int .i64 th, .int .i64 14, .int .i64 id_, .int .i64 to_, .int .i64 cat, .string dat, .int .i64 sb1, .slice sc1.a sc1.n sc1.k, .int .i64 sb2, .slice sc2.a sc2.n sc2.k] 28)).alloc (.cells #[.slice none 0 0, .slice none 0 0] 42)).alloc (.cells #[.int .i64 X.id, .int .i64 X.b1, .slice X.c1.a X.c1.n X.c1.k, .int .i64 X.b2, .slice X.c2.a X.c2.n X.c2.k, .slice X.own.a X.own.n X.own.k, .int .i64 X.made] 79)) w.heap.size (.cells #[.slice (some ⟨g, 0, none⟩) lt.length ca, .slice oa lo.length co] 42) := (((Blk.new w _).alloc _).alloc _).alloc _
 have P0 : Blk ((((w.alloc (.cells #[.slice (some ⟨g, 0, none⟩) lt.length ca, .slice oa lo.length co] 42)).alloc (.cells #[.int .i64 th, .int .i64 14, .int .i64 id_, .int .i64 to_, .int .i64 cat, .string dat, .int .i64 sb1, .slice sc1.a sc1.n sc1.k, .int .i64 sb2, .slice sc2.a sc2.n sc2.k] 28)).alloc (.cells #[.slice none 0 0, .slice none 0 0] 42)).alloc (.cells #[.int .i64 X.id, .int .i64 X.b1, .slice X.c1.a X.c1.n X.c1.k, .int .i64 X.b2, .slice X.c2.a X.c2.n X.c2.k, .slice X.own.a X.own.n X.own.k, .int .i64 X.made] 79)) (w.heap.size + 1) (.cells #[.int .i64 th, .int .i64 14, .int .i64 id_, .int .i64 to_, .int .i64 cat, .string dat, .int .i64 sb1, .slice sc1.a sc1.n sc1.k, .int .i64 sb2, .slice sc2.a sc2.n sc2.k] 28) := by have := ((Blk.new (w.alloc (.cells #[.slice (some ⟨g, 0, none⟩) lt.length ca, .slice oa lo.length co] 42)) (.cells #[.int .i64 th, .int .i64 14, .int .i64 id_, .int .i64 to_, .int .i64 cat, .string dat, .int .i64 sb1, .slice sc1.a sc1.n sc1.k, .int .i64 sb2, .slice sc2.a sc2.n sc2.k] 28)).alloc (.cells #[.slice none 0 0, .slice none 0 0] 42)).alloc (.cells #[.int .i64 X.id, .int .i64 X.b1, .slice X.c1.a X.c1.n X.c1.k, .int .i64 X.b2, .slice X.c2.a X.c2.n X.c2.k, .slice X.own.a X.own.n X.own.k, .int .i64 X.made] 79); simpa using this
 have R0 : Blk ((((w.alloc (.cells #[.slice (some ⟨g, 0, none⟩) lt.length ca, .slice oa lo.length co] 42)).alloc (.cells #[.int .i64 th, .int .i64 14, .int .i64 id_, .int .i64 to_, .int .i64 cat, .string dat, .int .i64 sb1, .slice sc1.a sc1.n sc1.k, .int .i64 sb2, .slice sc2.a sc2.n sc2.k] 28)).alloc (.cells #[.slice none 0 0, .slice none 0 0] 42)).alloc (.cells #[.int .i64 X.id, .int .i64 X.b1, .slice X.c1.a X.c1.n X.c1.k, .int .i64 X.b2, .slice X.c2.a X.c2.n X.c2.k, .slice X.own.a X.own.n X.own.k, .int .i64 X.made] 79)) (w.heap.size + 1 + 1) (.cells #[.slice none 0 0, .slice none 0 0] 42) := by have := (Blk.new ((w.alloc (.cells #[.slice (some ⟨g, 0, none⟩) lt.length ca, .slice oa lo.length co] 42)).alloc (.cells #[.int .i64 th, .int .i64 14, .int .i64 id_, .int .i64 to_, .int .i64 cat, .string dat, .int .i64 sb1, .slice sc1.a sc1.n sc1.k, .int .i64 sb2, .slice sc2.a sc2.n sc2.k] 28)) (.cells #[.slice none 0 0, .slice none 0 0] 42)).alloc (.cells #[.int .i64 X.id, .int .i64 X.b1, .slice X.c1.a X.c1.n X.c1.k, .int .i64 X.b2, .slice X.c2.a X.c2.n X.c2.k, .slice X.own.a X.own.n X.own.k, .int .i64 X.made] 79); simpa using this
 have X0 : Blk ((((w.alloc (.cells #[.slice (some ⟨g, 0, none⟩) lt.length ca, .slice oa lo.length co] 42)).alloc (.cells #[.int .i64 th, .int .i64 14, .int .i64 id_, .int .i64 to_, .int .i64 cat, .string dat, .int .i64 sb1, .slice sc1.a sc1.n sc1.k, .int .i64 sb2, .slice sc2.a sc2.n sc2.k] 28)).alloc (.cells #[.slice none 0 0, .slice none 0 0] 42)).alloc (.cells #[.int .i64 X.id, .int .i64 X.b1, .slice X.c1.a X.c1.n X.c1.k, .int .i64 X.b2, .slice X.c2.a X.c2.n X.c2.k, .slice X.own.a X.own.n X.own.k, .int .i64 X.made] 79)) (w.heap.size + 1 + 1 + 1) (.cells #[.int .i64 X.id, .int .i64 X.b1, .slice X.c1.a X.c1.n X.c1.k, .int .i64 X.b2, .slice X.c2.a X.c2.n X.c2.k, .slice X.own.a X.own.n X.own.k, .int .i64 X.made] 79) := by have := Blk.new (((w.alloc (.cells #[.slice (some ⟨g, 0, none⟩) lt.length ca, .slice oa lo.length co] 42)).alloc (.cells #[.int .i64 th, .int .i64 14, .int .i64 id_, .int .i64 to_, .int .i64 cat, .string dat, .int .i64 sb1, .slice sc1.a sc1.n sc1.k, .int .i64 sb2, .slice sc2.a sc2.n sc2.k] 28)).alloc (.cells #[.slice none 0 0, .slice none 0 0] 42)) (.cells #[.int .i64 X.id, .int .i64 X.b1, .slice X.c1.a X.c1.n X.c1.k, .int .i64 X.b2, .slice X.c2.a X.c2.n X.c2.k, .slice X.own.a X.own.n X.own.k, .int .i64 X.made] 79); simpa using this
 have HS := hid (st.below b0)
 have HB := hid b0
 have HA := hid A0
 have HP := hid P0
 have HR := hid R0
 have HX := hid X0
 have EX := hid hX
 have i0 : (0 : Int) ≤ (t : Int) := by omega
 have i1 : (t : Int) < (lt.length : Int) := by omega
 have F1 : Hid (∀ W, Below w.heap.size w W → Calls Tryz.prog 92 #[.slice X.own.a X.own.n X.own.k, .int .i64 cat] W fun e w' => e = .returned (.bool (hasB X.own.n X.own.h cat)) ∧ w' = W) := hid (fun W hW => l1Has_any _ _ _ X.own.h cat W XA.out.2.2.1 ((XA.out.below hW).2.2.2))
 have OI : Hid (∀ W, Below w.heap.size w W → IntsAt W X.own.a X.own.n X.own.h) := hid (fun W hW => (XA.out.below hW).2.2.2)
 obtain ⟨hb_, eh⟩ : ∃ b, b = hasB X.own.n X.own.h cat := ⟨_, rfl⟩
 rw [← eh] at F1
 have EH := hid eh
 clear CC CW b3 b0 A0 P0 R0 X0 hX st eh
 go_enter Tryz.func76, Tryz.ntmps76
 obtain ⟨x0, x1⟩ := HA.out.two
 obtain ⟨s0, s1, s2, s3, s4, s5, s6, s7, s8, s9⟩ := HP.out.ten
 obtain ⟨y0, y1, y2, y3, y4, y5, y6⟩ := HX.out.seven
 go_wp2_with fail
 have BX : Hid (∀ W, Below ((((w.alloc (.cells #[.slice (some ⟨g, 0, none⟩) lt.length ca, .slice oa lo.length co] 42)).alloc (.cells #[.int .i64 th, .int .i64 14, .int .i64 id_, .int .i64 to_, .int .i64 cat, .string dat, .int .i64 sb1, .slice sc1.a sc1.n sc1.k, .int .i64 sb2, .slice sc2.a sc2.n sc2.k] 28)).alloc (.cells #[.slice none 0 0, .slice none 0 0] 42)).alloc (.cells #[.int .i64 X.id, .int .i64 X.b1, .slice X.c1.a X.c1.n X.c1.k, .int .i64 X.b2, .slice X.c2.a X.c2.n X.c2.k, .slice X.own.a X.own.n X.own.k, .int .i64 X.made] 79)).heap.size ((((w.alloc (.cells #[.slice (some ⟨g, 0, none⟩) lt.length ca, .slice oa lo.length co] 42)).alloc (.cells #[.int .i64 th, .int .i64 14, .int .i64 id_, .int .i64 to_, .int .i64 cat, .string dat, .int .i64 sb1, .slice sc1.a sc1.n sc1.k, .int .i64 sb2, .slice sc2.a sc2.n sc2.k] 28)).alloc (.cells #[.slice none 0 0, .slice none 0 0] 42)).alloc (.cells #[.int .i64 X.id, .int .i64 X.b1, .slice X.c1.a X.c1.n X.c1.k, .int .i64 X.b2, .slice X.c2.a X.c2.n X.c2.k, .slice X.own.a X.own.n X.own.k, .int .i64 X.made] 79)) W → Blk W w.heap.size (.cells #[.slice (some ⟨g, 0, none⟩) lt.length ca, .slice oa lo.length co] 42) ∧ Blk W (w.heap.size + 1) (.cells #[.int .i64 th, .int .i64 14, .int .i64 id_, .int .i64 to_, .int .i64 cat, .string dat, .int .i64 sb1, .slice sc1.a sc1.n sc1.k, .int .i64 sb2, .slice sc2.a sc2.n sc2.k] 28) ∧ Blk W (w.heap.size + 1 + 1) (.cells #[.slice none 0 0, .slice none 0 0] 42) ∧ Blk W (w.heap.size + 1 + 1 + 1) (.cells #[.int .i64 X.id, .int .i64 X.b1, .slice X.c1.a X.c1.n X.c1.k, .int .i64 X.b2, .slice X.c2.a X.c2.n X.c2.k, .slice X.own.a X.own.n X.own.k, .int .i64 X.made] 79) ∧ KSt W B (.slice (some ⟨g, 0, none⟩) lt.length ca) (.slice oa lo.length co) lt lo) := hid (fun W hW => ⟨HA.out.below hW, HP.out.below hW, HR.out.below hW, HX.out.below hW, HS.out.below hW⟩)
 have LW : Hid (∀ W, Below ((((w.alloc (.cells #[.slice (some ⟨g, 0, none⟩) lt.length ca, .slice oa lo.length co] 42)).alloc (.cells #[.int .i64 th, .int .i64 14, .int .i64 id_, .int .i64 to_, .int .i64 cat, .string dat, .int .i64 sb1, .slice sc1.a sc1.n sc1.k, .int .i64 sb2, .slice sc2.a sc2.n sc2.k] 28)).alloc (.cells #[.slice none 0 0, .slice none 0 0] 42)).alloc (.cells #[.int .i64 X.id, .int .i64 X.b1, .slice X.c1.a X.c1.n X.c1.k, .int .i64 X.b2, .slice X.c2.a X.c2.n X.c2.k, .slice X.own.a X.own.n X.own.k, .int .i64 X.made] 79)).heap.size ((((w.alloc (.cells #[.slice (some ⟨g, 0, none⟩) lt.length ca, .slice oa lo.length co] 42)).alloc (.cells #[.int .i64 th, .int .i64 14, .int .i64 id_, .int .i64 to_, .int .i64 cat, .string dat, .int .i64 sb1, .slice sc1.a sc1.n sc1.k, .int .i64 sb2, .slice sc2.a sc2.n sc2.k] 28)).alloc (.cells #[.slice none 0 0, .slice none 0 0] 42)).alloc (.cells #[.int .i64 X.id, .int .i64 X.b1, .slice X.c1.a X.c1.n X.c1.k, .int .i64 X.b2, .slice X.c2.a X.c2.n X.c2.k, .slice X.own.a X.own.n X.own.k, .int .i64 X.made] 79)) W → Below w.heap.size w W) := hid (fun W hW => then_ HB.out hW)
 have LB : Hid (∀ W, Below ((((w.alloc (.cells #[.slice (some ⟨g, 0, none⟩) lt.length ca, .slice oa lo.length co] 42)).alloc (.cells #[.int .i64 th, .int .i64 14, .int .i64 id_, .int .i64 to_, .int .i64 cat, .string dat, .int .i64 sb1, .slice sc1.a sc1.n sc1.k, .int .i64 sb2, .slice sc2.a sc2.n sc2.k] 28)).alloc (.cells #[.slice none 0 0, .slice none 0 0] 42)).alloc (.cells #[.int .i64 X.id, .int .i64 X.b1, .slice X.c1.a X.c1.n X.c1.k, .int .i64 X.b2, .slice X.c2.a X.c2.n X.c2.k, .slice X.own.a X.own.n X.own.k, .int .i64 X.made] 79)).heap.size ((((w.alloc (.cells #[.slice (some ⟨g, 0, none⟩) lt.length ca, .slice oa lo.length co] 42)).alloc (.cells #[.int .i64 th, .int .i64 14, .int .i64 id_, .int .i64 to_, .int .i64 cat, .string dat, .int .i64 sb1, .slice sc1.a sc1.n sc1.k, .int .i64 sb2, .slice sc2.a sc2.n sc2.k] 28)).alloc (.cells #[.slice none 0 0, .slice none 0 0] 42)).alloc (.cells #[.int .i64 X.id, .int .i64 X.b1, .slice X.c1.a X.c1.n X.c1.k, .int .i64 X.b2, .slice X.c2.a X.c2.n X.c2.k, .slice X.own.a X.own.n X.own.k, .int .i64 X.made] 79)) W → Below B w W) := hid (fun W hW => (then_ HB.out hW).mono hB)
 have V0 := hid (Below.refl ((((w.alloc (.cells #[.slice (some ⟨g, 0, none⟩) lt.length ca, .slice oa lo.length co] 42)).alloc (.cells #[.int .i64 th, .int .i64 14, .int .i64 id_, .int .i64 to_, .int .i64 cat, .string dat, .int .i64 sb1, .slice sc1.a sc1.n sc1.k, .int .i64 sb2, .slice sc2.a sc2.n sc2.k] 28)).alloc (.cells #[.slice none 0 0, .slice none 0 0] 42)).alloc (.cells #[.int .i64 X.id, .int .i64 X.b1, .slice X.c1.a X.c1.n X.c1.k, .int .i64 X.b2, .slice X.c2.a X.c2.n X.c2.k, .slice X.own.a X.own.n X.own.k, .int .i64 X.made] 79)).heap.size ((((w.alloc (.cells #[.slice (some ⟨g, 0, none⟩) lt.length ca, .slice oa lo.length co] 42)).alloc (.cells #[.int .i64 th, .int .i64 14, .int .i64 id_, .int .i64 to_, .int .i64 cat, .string dat, .int .i64 sb1, .slice sc1.a sc1.n sc1.k, .int .i64 sb2, .slice sc2.a sc2.n sc2.k] 28)).alloc (.cells #[.slice none 0 0, .slice none 0 0] 42)).alloc (.cells #[.int .i64 X.id, .int .i64 X.b1, .slice X.c1.a X.c1.n X.c1.k, .int .i64 X.b2, .slice X.c2.a X.c2.n X.c2.k, .slice X.own.a X.own.n X.own.k, .int .i64 X.made] 79)))
 clear x0 x1 s0 s1 s2 s3 s4 s5 s6 s7 s8 s9 y0 y1 y2 y3 y4 y5 y6 q0 q1 q2 q3 q4 q5 q6 HA HP HR HX HS
 generalize ((((w.alloc (.cells #[.slice (some ⟨g, 0, none⟩) lt.length ca, .slice oa lo.length co] 42)).alloc (.cells #[.int .i64 th, .int .i64 14, .int .i64 id_, .int .i64 to_, .int .i64 cat, .string dat, .int .i64 sb1, .slice sc1.a sc1.n sc1.k, .int .i64 sb2, .slice sc2.a sc2.n sc2.k] 28)).alloc (.cells #[.slice none 0 0, .slice none 0 0] 42)).alloc (.cells #[.int .i64 X.id, .int .i64 X.b1, .slice X.c1.a X.c1.n X.c1.k, .int .i64 X.b2, .slice X.c2.a X.c2.n X.c2.k, .slice X.own.a X.own.n X.own.k, .int .i64 X.made] 79)) = V at *
 refine (F1.out _ (LW.out _ V0.out)).mono ?_
 rintro e w1 ⟨rfl, rfl⟩
 obtain ⟨x0, x1⟩ := (BX.out _ V0.out).1.two
 obtain ⟨s0, s1, s2, s3, s4, s5, s6, s7, s8, s9⟩ := (BX.out _ V0.out).2.1.ten
 obtain ⟨r0, r1⟩ := (BX.out _ V0.out).2.2.1.two
 have rf := (BX.out _ V0.out).2.2.1.warm
 obtain ⟨y0, y1, y2, y3, y4, y5, y6⟩ := (BX.out _ V0.out).2.2.2.1.seven
 cases hb_ with
 | false =>
  go_wp2
  have RB := hid (BX.out _ V0.out).2.2.1
  have KB := hid (BX.out _ V0.out).2.2.2.2
  refine bodyPost_ret (self_results _ _ (w.heap.size + 1 + 1) 6 _ _ _ _ Tryz.results76 ((RB.out.setAt (i := 0) _).setAt (i := 1) _) rfl rfl rfl) rfl ⟨X, 4, rfl, ?_, ?_, .inl ⟨rfl, EH.out.symm, rfl⟩⟩
  ·rw [EX.out, set_same]
   exact (KB.out.set RB.out (.inl rfl) _).set (RB.out.setAt (i := 0) _) (.inl rfl) _
  ·exact ((LB.out _ V0.out).setCell (by dsimp only; omega) _).setCell (by dsimp only; omega) _
 | true =>
 have E0 := hid (OwnI.made w1 w1.heap.size (Nat.le_refl _))
 have BE := hid ((Below.refl _ w1).alloc (Nat.le_refl _) (.cells #[] 2))
 go_wp2
 clear x0 x1 s0 s1 s2 s3 s4 s5 s6 s7 s8 s9 r0 r1 rf y0 y1 y2 y3 y4 y5 y6
 go_loopw [11, 12] (fun v i wr => ∃ (j : Nat) (la : Option Addr) (lc : Nat), j ≤ X.own.n ∧ i = .int .i64 j ∧ v = .slice la (leftL X.own.h cat j).length lc ∧ OwnI wr w1.heap.size (.slice la (leftL X.own.h cat j).length lc) (leftL X.own.h cat j) ∧ Below w1.heap.size w1 wr) (fun _ i _ => X.own.n - (intOf i).toNat)
 case atStart => exact ⟨0, _, 0, Nat.zero_le _, rfl, rfl, E0.out, BE.out⟩
 case round =>
  clear E0 BE
  obtain ⟨j, la, lc, hj, rfl, rfl, ow, be⟩ := hrel
  have OW := hid ow
  have BB := hid be
  have ll := leftL_len X.own.h cat j
  clear ow be
  obtain ⟨x0, x1⟩ := (BX.out _ BB.out).1.two
  obtain ⟨s0, s1, s2, s3, s4, s5, s6, s7, s8, s9⟩ := (BX.out _ BB.out).2.1.ten
  obtain ⟨r0, r1⟩ := (BX.out _ BB.out).2.2.1.two
  have rf := (BX.out _ BB.out).2.2.1.warm
  obtain ⟨y0, y1, y2, y3, y4, y5, y6⟩ := (BX.out _ BB.out).2.2.2.1.seven
  by_cases hlt : j < X.own.n
  ·have i2 : (j : Int) < (X.own.n : Int) := by omega
   have i3 : (0 : Int) ≤ (j : Int) := by omega
   obtain ⟨b, off, ea, hbl, hc⟩ := OI.out _ (LW.out _ BB.out) (by omega)
   have c0 := hc j hlt
   have EA := hid ea
   rw [ea] at y5
   have HC : Hid (∀ W, Below w1.heap.size w1 W → W.cell? ⟨b, off + j, none⟩ = some (.int .i64 (X.own.h j))) := hid (fun W hW => by
    obtain ⟨b', off', ea', _, hc'⟩ := OI.out _ (LW.out _ hW) (by omega)
    rw [EA.out] at ea'
    cases ea'
    exact hc' j hlt)
   clear hc ea
   have HLT := hid hlt
   by_cases he : X.own.h j = cat
   ·have EE := hid he
    have hd : (X.own.h j == cat) = true := by simpa using he
    have hd' : decide (X.own.h j = cat) = true := decide_eq_true he
    clear he
    go_wp2_with fail
    go_quiet (fail)
    go_wp2
    go_roundw
    case rel => exact ⟨j + 1, la, lc, by have := HLT.out; omega, by go_num, by rw [leftL_skip EE.out], by rw [leftL_skip EE.out]; exact OW.out.below' (below_drewN (Below.refl _ wr) _), BB.out.trans ((below_drewN (Below.refl _ wr) _).mono BB.out.size)⟩
    case measure => have := HLT.out; simp [intOf]; omega
   ·have EE := hid he
    have hd : (X.own.h j == cat) = false := by simpa using he
    have hd' : decide (X.own.h j = cat) = false := decide_eq_false he
    clear he
    go_wp2_with fail
    go_quiet (fail)
    have bn : Below wr.heap.size wr (wr.drewN nq) := below_drewN (Below.refl _ wr) nq
    have OWn := hid (OW.out.below' bn)
    have BBn := hid (BB.out.trans (bn.mono BB.out.size))
    clear x0 x1 s0 s1 s2 s3 s4 s5 s6 s7 s8 s9 r0 r1 rf y0 y1 y2 y3 y4 y5 y6
    clear bn OW BB c0
    generalize wr.drewN nq = W at *
    obtain ⟨x0, x1⟩ := (BX.out _ BBn.out).1.two
    obtain ⟨s0, s1, s2, s3, s4, s5, s6, s7, s8, s9⟩ := (BX.out _ BBn.out).2.1.ten
    obtain ⟨r0, r1⟩ := (BX.out _ BBn.out).2.2.1.two
    have rf := (BX.out _ BBn.out).2.2.1.warm
    obtain ⟨y0, y1, y2, y3, y4, y5, y6⟩ := (BX.out _ BBn.out).2.2.2.1.seven
    rw [EA.out] at y5
    have c0 := HC.out _ BBn.out
    have QO := hid (OWn.out.alloc (.cells #[.int .i64 (X.own.h j)] 2))
    have QL := hid (NumL.one (w := W) (X.own.h j))
    have sQ : w1.heap.size ≤ (W.alloc (.cells #[.int .i64 (X.own.h j)] 2)).heap.size := by have := BBn.out.size; simp; omega
    have bQ := hid (BBn.out.alloc BBn.out.size (.cells #[.int .i64 (X.own.h j)] 2))
    have ER := hid (leftL_more EE.out)
    have lR : (leftL X.own.h cat (j + 1)).length ≤ 4194304 := by have := leftL_len X.own.h cat (j + 1); omega
    go_wp2_with (at_builtin; refine wpList_append_intsR _ rfl _ _ rfl w1.heap.size (.slice la (leftL X.own.h cat j).length lc) (leftL X.own.h cat j) rfl QO.out _ 1 1 [X.own.h j] rfl rfl QL.out (leftL X.own.h cat (j + 1)) ER.out lR sQ ?_; intro a7 c7 w7 o7 g7 h7; have O7 := hid o7; have B7 : Hid (Below w1.heap.size w1 w7) := hid (bQ.out.trans (below_grown g7 sQ (fun j e => (World.ownsRow.lt QO.out j e).1))); clear o7 g7 h7)
    go_roundw
    case rel => exact ⟨j + 1, a7, c7, by have := HLT.out; omega, by go_num, rfl, O7.out, B7.out⟩
    case measure => have := HLT.out; simp [intOf]; omega
  ·obtain rfl : j = X.own.n := by omega
   have i2 : ¬ (X.own.n : Int) < (X.own.n : Int) := by omega
   have ND : Hid (IntL.new B wr ⟨la, (leftL X.own.h cat X.own.n).length, lc, nthI (leftL X.own.h cat X.own.n)⟩) := hid (((OW.out.newL (by omega)).low (Nat.le_trans hB HB.out.size)))
   have CP := hid (own_cap OW.out)
   have KB := hid (BX.out _ BB.out).2.2.2.2
   have CC := (KB.out.cell7 ht).1
   have c5 := CC.c5
   have GF := hid (KB.out.setOwn (d := ⟨la, (leftL X.own.h cat X.own.n).length, lc, nthI (leftL X.own.h cat X.own.n)⟩) ht EX.out ND.out CP.out)
   have gf := GF.out.2.1.choose_spec.warm
   have ng1 : ¬ g = w.heap.size := by omega
   have ng2 : ¬ g = w.heap.size + 1 + 1 := by omega
   have ng3 : ¬ w.heap.size = g := by omega
   have ng4 : ¬ w.heap.size + 1 + 1 = g := by omega
   have A4 := hid ((BX.out _ BB.out).1.other (Q := g) ng1 (i := t * 7 + 5) (.slice la (leftL X.own.h cat X.own.n).length lc))
   have R4 := hid ((BX.out _ BB.out).2.2.1.other (Q := g) ng2 (i := t * 7 + 5) (.slice la (leftL X.own.h cat X.own.n).length lc))
   have L4 : Hid (Below B w (wr.setCell ⟨g, t * 7 + 5, none⟩ (.slice la (leftL X.own.h cat X.own.n).length lc))) := hid ((LB.out _ BB.out).setCell (by dsimp only; exact GF.out.2.2) _)
   clear CC
   go_wp2
   refine bodyPost_ret (self_results _ _ (w.heap.size + 1 + 1) 6 _ _ _ _ Tryz.results76 ((R4.out.setAt (i := 0) _).setAt (i := 1) _) rfl rfl rfl) rfl ⟨_, 0, rfl, (GF.out.1.set R4.out (.inl rfl) _).set (R4.out.setAt (i := 0) _) (.inl rfl) _, (L4.out.setCell (by dsimp only; omega) _).setCell (by dsimp only; omega) _, .inr ⟨rfl, EH.out.symm, la, lc, rfl⟩⟩
end Go.Proofs.YthbmfbnnemgbpaaGreatDoor
