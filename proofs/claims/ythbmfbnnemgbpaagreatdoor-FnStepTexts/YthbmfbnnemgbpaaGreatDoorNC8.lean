/- l4Self: a new category, by the model. -/
import Derived.Test.YthbmfbnnemgbpaaGreatDoorZ22
import Derived.Test.YthbmfbnnemgbpaaGreatDoorZ4
namespace Go.Proofs.YthbmfbnnemgbpaaGreatDoor
open Go Go.RowKit Go.Deep Go.Maps Go.BigFrame Go.Shelf
theorem step_call2 {ops : Array Oper} {o : Oper} {a : Act} {w : World} {K : Act → World → Prop} {Q : Exit → Act → World → Prop} {E : Prop} (hgd : o.guard = none) (f : Nat) (x y : Operand) (ats : Array TypeId)
 (ho : o.op = .call { callee := .value (.func f), args := #[x, y], argTypes := ats }) (eg : ∀ args w, (callFunc f args).run Tryz.prog w = .ok (.enter f args) w) (v0 v1 : Value) (hv : a.eval x = v0) (hv1 : a.eval y = v1)
 (R : Value → World → Prop) (hc : Calls Tryz.prog f #[v0, v1] w fun e w' => ∃ v, e = .returned v ∧ R v w') (h : ∀ v w', R v w' → K (a.put o.dst v) w') :
 if Region.wanted o (yielded ops a.tmps) = true then Oper.wp Tryz.prog o a w K Q else E := by
 have hw : Region.wanted o (yielded ops a.tmps) = true := by simp [Region.wanted, hgd]
 rw [if_pos hw]
 have e : (execOp a.eval o).run Tryz.prog w = .ok (.enter f #[v0, v1]) w := by
  unfold execOp
  simp only [ho, resolve, invoke, Sem.run_bind, List.map_toArray, List.map_cons, List.map_nil, hv, hv1]
  simp [go_sem, eg, Act.eval]
 unfold Oper.wp
 rw [e, Oper.upon_enter]
 exact hc.mono fun e w' ⟨v, he, hr⟩ => by subst he; exact h v w' hr
theorem KSt.setMade {w : World} {B g ca : Nat} {vo : Value} {lt : List ThrV} {lo : List ObjV} (h : KSt w B (.slice (some ⟨g, 0, none⟩) lt.length ca) vo lt lo) {t : Nat} {m : Int} (ht : t < lt.length) {X : ThrV} (hX : X = lt[t]) :
 KSt (w.setCell ⟨g, t * 7 + 6, none⟩ (.int .i64 m)) B (.slice (some ⟨g, 0, none⟩) lt.length ca) vo (lt.set t ⟨X.id, X.b1, X.c1, X.b2, X.c2, X.own, m⟩) lo ∧ (∃ cur, Blk w g (.cells cur 79)) ∧ B ≤ g := by
 have hn := h.tn _ (List.getElem_mem ht)
 have hc := h.tc _ (List.getElem_mem ht)
 rw [← hX] at hn hc
 obtain ⟨k1, hcur, hg⟩ := h.setT (x := ⟨X.id, X.b1, X.c1, X.b2, X.c2, X.own, m⟩) (u := .int .i64 m) ht (i := 6) (by omega) (by rw [← hX]; rfl) hn hc
 have el : (lt.set t (⟨X.id, X.b1, X.c1, X.b2, X.c2, X.own, m⟩ : ThrV)).length = lt.length := by simp
 rw [el] at k1
 exact ⟨k1, hcur, hg⟩
def newCat (X : ThrV) : Int := 1000 * X.id + X.made + 1
set_option maxRecDepth 100000 in
set_option maxHeartbeats 16000000 in
theorem l4Self_cat (lt : List ThrV) (lo : List ObjV) (g ca : Nat) (oa : Option Addr) (co B : Nat) (w : World) (st : KSt w B (.slice (some ⟨g, 0, none⟩) lt.length ca) (.slice oa lo.length co) lt lo) (hB : B ≤ w.heap.size) (t : Nat) (ht : t < lt.length) (X : ThrV) (hX : X = lt[t]) (xs : X.small) (s : StepV) (hk : s.kind = 1) (hi : 1 ≤ X.id ∧ X.id ≤ 9) (hm : 0 ≤ X.made ∧ X.made ≤ 30) (ho : X.own.n ≤ 10) :
 Calls Tryz.prog 76 #[.agg #[.slice (some ⟨g, 0, none⟩) lt.length ca, .slice oa lo.length co], .int .i64 t, .agg #[.int .i64 s.th, .int .i64 s.kind, .int .i64 s.id, .int .i64 s.to, .int .i64 s.cat, .string s.data, .int .i64 s.b1, .slice s.c1.a s.c1.n s.c1.k, .int .i64 s.b2, .slice s.c2.a s.c2.n s.c2.k]] w fun e w' => ∃ (x : ThrV) (c : Int) (tx : ByteArray), e = .returned (.tuple #[.agg #[.slice (some ⟨g, 0, none⟩) lt.length ca, .slice oa lo.length co], .int .i64 c, .string tx]) ∧ KSt w' B (.slice (some ⟨g, 0, none⟩) lt.length ca) (.slice oa lo.length co) (lt.set t x) lo ∧ Below B w w' ∧ ((c = 5 ∧ (X.made = 30 ∨ X.own.n = 10) ∧ x = X ∧ tx = ⟨#[]⟩) ∨ (c = 0 ∧ ¬ (X.made = 30 ∨ X.own.n = 10) ∧ tx = ⟨(decL (newCat X).toNat).toArray⟩ ∧ ∃ (a : Option Addr) (cc : Nat), x = ⟨X.id, X.b1, X.c1, X.b2, X.c2, ⟨a, (putL ((List.range X.own.n).map X.own.h) (newCat X)).length, cc, nthI (putL ((List.range X.own.n).map X.own.h) (newCat X))⟩, X.made + 1⟩)) := by
 obtain ⟨th, kd, id_, to_, cat, dat, sb1, sc1, sb2, sc2⟩ := s
 simp only at hk ⊢
 subst hk
 have XN : Hid (X.new B w ∧ (X.own.n ≤ X.own.k ∧ X.own.k ≤ maxLen)) := hid (by rw [hX]; exact ⟨st.tn _ (List.getElem_mem ht), st.tc _ (List.getElem_mem ht)⟩)
 have XA : Hid (X.at w) := hid XN.out.1.at
 have on1 : X.own.n ≤ 1048576 := xs.2.2
 obtain ⟨CW, gl⟩ := st.cell7 ht
 rw [← hX] at CW
 have b3 : Below w.heap.size w (((w.alloc (.cells #[.slice (some ⟨g, 0, none⟩) lt.length ca, .slice oa lo.length co] 42)).alloc (.cells #[.int .i64 th, .int .i64 1, .int .i64 id_, .int .i64 to_, .int .i64 cat, .string dat, .int .i64 sb1, .slice sc1.a sc1.n sc1.k, .int .i64 sb2, .slice sc2.a sc2.n sc2.k] 28)).alloc (.cells #[.slice none 0 0, .slice none 0 0] 42)) := (((Below.refl _ w).alloc (Nat.le_refl _) _).alloc (by simp) _).alloc (by simp; omega) _
 have CC := CW.below gl b3
 have q0 : (((w.alloc (.cells #[.slice (some ⟨g, 0, none⟩) lt.length ca, .slice oa lo.length co] 42)).alloc (.cells #[.int .i64 th, .int .i64 1, .int .i64 id_, .int .i64 to_, .int .i64 cat, .string dat, .int .i64 sb1, .slice sc1.a sc1.n sc1.k, .int .i64 sb2, .slice sc2.a sc2.n sc2.k] 28)).alloc (.cells #[.slice none 0 0, .slice none 0 0] 42)).cell? ⟨g, t * 7, none⟩ = some (.int .i64 X.id) := CC.c0
 have q1 : (((w.alloc (.cells #[.slice (some ⟨g, 0, none⟩) lt.length ca, .slice oa lo.length co] 42)).alloc (.cells #[.int .i64 th, .int .i64 1, .int .i64 id_, .int .i64 to_, .int .i64 cat, .string dat, .int .i64 sb1, .slice sc1.a sc1.n sc1.k, .int .i64 sb2, .slice sc2.a sc2.n sc2.k] 28)).alloc (.cells #[.slice none 0 0, .slice none 0 0] 42)).cell? ⟨g, t * 7 + 1, none⟩ = some (.int .i64 X.b1) := CC.c1
 have q2 : (((w.alloc (.cells #[.slice (some ⟨g, 0, none⟩) lt.length ca, .slice oa lo.length co] 42)).alloc (.cells #[.int .i64 th, .int .i64 1, .int .i64 id_, .int .i64 to_, .int .i64 cat, .string dat, .int .i64 sb1, .slice sc1.a sc1.n sc1.k, .int .i64 sb2, .slice sc2.a sc2.n sc2.k] 28)).alloc (.cells #[.slice none 0 0, .slice none 0 0] 42)).cell? ⟨g, t * 7 + 2, none⟩ = some (.slice X.c1.a X.c1.n X.c1.k) := CC.c2
 have q3 : (((w.alloc (.cells #[.slice (some ⟨g, 0, none⟩) lt.length ca, .slice oa lo.length co] 42)).alloc (.cells #[.int .i64 th, .int .i64 1, .int .i64 id_, .int .i64 to_, .int .i64 cat, .string dat, .int .i64 sb1, .slice sc1.a sc1.n sc1.k, .int .i64 sb2, .slice sc2.a sc2.n sc2.k] 28)).alloc (.cells #[.slice none 0 0, .slice none 0 0] 42)).cell? ⟨g, t * 7 + 3, none⟩ = some (.int .i64 X.b2) := CC.c3
 have q4 : (((w.alloc (.cells #[.slice (some ⟨g, 0, none⟩) lt.length ca, .slice oa lo.length co] 42)).alloc (.cells #[.int .i64 th, .int .i64 1, .int .i64 id_, .int .i64 to_, .int .i64 cat, .string dat, .int .i64 sb1, .slice sc1.a sc1.n sc1.k, .int .i64 sb2, .slice sc2.a sc2.n sc2.k] 28)).alloc (.cells #[.slice none 0 0, .slice none 0 0] 42)).cell? ⟨g, t * 7 + 4, none⟩ = some (.slice X.c2.a X.c2.n X.c2.k) := CC.c4
 have q5 : (((w.alloc (.cells #[.slice (some ⟨g, 0, none⟩) lt.length ca, .slice oa lo.length co] 42)).alloc (.cells #[.int .i64 th, .int .i64 1, .int .i64 id_, .int .i64 to_, .int .i64 cat, .string dat, .int .i64 sb1, .slice sc1.a sc1.n sc1.k, .int .i64 sb2, .slice sc2.a sc2.n sc2.k] 28)).alloc (.cells #[.slice none 0 0, .slice none 0 0] 42)).cell? ⟨g, t * 7 + 5, none⟩ = some (.slice X.own.a X.own.n X.own.k) := CC.c5
 have q6 : (((w.alloc (.cells #[.slice (some ⟨g, 0, none⟩) lt.length ca, .slice oa lo.length co] 42)).alloc (.cells #[.int .i64 th, .int .i64 1, .int .i64 id_, .int .i64 to_, .int .i64 cat, .string dat, .int .i64 sb1, .slice sc1.a sc1.n sc1.k, .int .i64 sb2, .slice sc2.a sc2.n sc2.k] 28)).alloc (.cells #[.slice none 0 0, .slice none 0 0] 42)).cell? ⟨g, t * 7 + 6, none⟩ = some (.int .i64 X.made) := CC.c6
 have b0 : Below w.heap.size w ((((w.alloc (.cells #[.slice (some ⟨g, 0, none⟩) lt.length ca, .slice oa lo.length co] 42)).alloc (.cells #[.int .i64 th, .int .i64 1, .int .i64 id_, .int .i64 to_, .int .i64 cat, .string dat, .int .i64 sb1, .slice sc1.a sc1.n sc1.k, .int .i64 sb2, .slice sc2.a sc2.n sc2.k] 28)).alloc (.cells #[.slice none 0 0, .slice none 0 0] 42)).alloc (.cells #[.int .i64 X.id, .int .i64 X.b1, .slice X.c1.a X.c1.n X.c1.k, .int .i64 X.b2, .slice X.c2.a X.c2.n X.c2.k, .slice X.own.a X.own.n X.own.k, .int .i64 X.made] 79)) := ((((Below.refl _ w).alloc (Nat.le_refl _) _).alloc (by simp) _).alloc (by simp; omega) _).alloc (by simp; omega) _
 have A0 : Blk ((((w.alloc (.cells #[.slice (some ⟨g, 0, none⟩) lt.length ca, .slice oa lo.length co] 42)).alloc (.cells #[.int .i64 th, .int .i64 1, .int .i64 id_, .int .i64 to_, .int .i64 cat, .string dat, .int .i64 sb1, .slice sc1.a sc1.n sc1.k, .int .i64 sb2, .slice sc2.a sc2.n sc2.k] 28)).alloc (.cells #[.slice none 0 0, .slice none 0 0] 42)).alloc (.cells #[.int .i64 X.id, .int .i64 X.b1, .slice X.c1.a X.c1.n X.c1.k, .int .i64 X.b2, .slice X.c2.a X.c2.n X.c2.k, .slice X.own.a X.own.n X.own.k, .int .i64 X.made] 79)) w.heap.size (.cells #[.slice (some ⟨g, 0, none⟩) lt.length ca, .slice oa lo.length co] 42) := (((Blk.new w _).alloc _).alloc _).alloc _
 have P0 : Blk ((((w.alloc (.cells #[.slice (some ⟨g, 0, none⟩) lt.length ca, .slice oa lo.length co] 42)).alloc (.cells #[.int .i64 th, .int .i64 1, .int .i64 id_, .int .i64 to_, .int .i64 cat, .string dat, .int .i64 sb1, .slice sc1.a sc1.n sc1.k, .int .i64 sb2, .slice sc2.a sc2.n sc2.k] 28)).alloc (.cells #[.slice none 0 0, .slice none 0 0] 42)).alloc (.cells #[.int .i64 X.id, .int .i64 X.b1, .slice X.c1.a X.c1.n X.c1.k, .int .i64 X.b2, .slice X.c2.a X.c2.n X.c2.k, .slice X.own.a X.own.n X.own.k, .int .i64 X.made] 79)) (w.heap.size + 1) (.cells #[.int .i64 th, .int .i64 1, .int .i64 id_, .int .i64 to_, .int .i64 cat, .string dat, .int .i64 sb1, .slice sc1.a sc1.n sc1.k, .int .i64 sb2, .slice sc2.a sc2.n sc2.k] 28) := by have := ((Blk.new (w.alloc (.cells #[.slice (some ⟨g, 0, none⟩) lt.length ca, .slice oa lo.length co] 42)) (.cells #[.int .i64 th, .int .i64 1, .int .i64 id_, .int .i64 to_, .int .i64 cat, .string dat, .int .i64 sb1, .slice sc1.a sc1.n sc1.k, .int .i64 sb2, .slice sc2.a sc2.n sc2.k] 28)).alloc (.cells #[.slice none 0 0, .slice none 0 0] 42)).alloc (.cells #[.int .i64 X.id, .int .i64 X.b1, .slice X.c1.a X.c1.n X.c1.k, .int .i64 X.b2, .slice X.c2.a X.c2.n X.c2.k, .slice X.own.a X.own.n X.own.k, .int .i64 X.made] 79); simpa using this
 have R0 : Blk ((((w.alloc (.cells #[.slice (some ⟨g, 0, none⟩) lt.length ca, .slice oa lo.length co] 42)).alloc (.cells #[.int .i64 th, .int .i64 1, .int .i64 id_, .int .i64 to_, .int .i64 cat, .string dat, .int .i64 sb1, .slice sc1.a sc1.n sc1.k, .int .i64 sb2, .slice sc2.a sc2.n sc2.k] 28)).alloc (.cells #[.slice none 0 0, .slice none 0 0] 42)).alloc (.cells #[.int .i64 X.id, .int .i64 X.b1, .slice X.c1.a X.c1.n X.c1.k, .int .i64 X.b2, .slice X.c2.a X.c2.n X.c2.k, .slice X.own.a X.own.n X.own.k, .int .i64 X.made] 79)) (w.heap.size + 1 + 1) (.cells #[.slice none 0 0, .slice none 0 0] 42) := by have := (Blk.new ((w.alloc (.cells #[.slice (some ⟨g, 0, none⟩) lt.length ca, .slice oa lo.length co] 42)).alloc (.cells #[.int .i64 th, .int .i64 1, .int .i64 id_, .int .i64 to_, .int .i64 cat, .string dat, .int .i64 sb1, .slice sc1.a sc1.n sc1.k, .int .i64 sb2, .slice sc2.a sc2.n sc2.k] 28)) (.cells #[.slice none 0 0, .slice none 0 0] 42)).alloc (.cells #[.int .i64 X.id, .int .i64 X.b1, .slice X.c1.a X.c1.n X.c1.k, .int .i64 X.b2, .slice X.c2.a X.c2.n X.c2.k, .slice X.own.a X.own.n X.own.k, .int .i64 X.made] 79); simpa using this
 have X0 : Blk ((((w.alloc (.cells #[.slice (some ⟨g, 0, none⟩) lt.length ca, .slice oa lo.length co] 42)).alloc (.cells #[.int .i64 th, .int .i64 1, .int .i64 id_, .int .i64 to_, .int .i64 cat, .string dat, .int .i64 sb1, .slice sc1.a sc1.n sc1.k, .int .i64 sb2, .slice sc2.a sc2.n sc2.k] 28)).alloc (.cells #[.slice none 0 0, .slice none 0 0] 42)).alloc (.cells #[.int .i64 X.id, .int .i64 X.b1, .slice X.c1.a X.c1.n X.c1.k, .int .i64 X.b2, .slice X.c2.a X.c2.n X.c2.k, .slice X.own.a X.own.n X.own.k, .int .i64 X.made] 79)) (w.heap.size + 1 + 1 + 1) (.cells #[.int .i64 X.id, .int .i64 X.b1, .slice X.c1.a X.c1.n X.c1.k, .int .i64 X.b2, .slice X.c2.a X.c2.n X.c2.k, .slice X.own.a X.own.n X.own.k, .int .i64 X.made] 79) := by have := Blk.new (((w.alloc (.cells #[.slice (some ⟨g, 0, none⟩) lt.length ca, .slice oa lo.length co] 42)).alloc (.cells #[.int .i64 th, .int .i64 1, .int .i64 id_, .int .i64 to_, .int .i64 cat, .string dat, .int .i64 sb1, .slice sc1.a sc1.n sc1.k, .int .i64 sb2, .slice sc2.a sc2.n sc2.k] 28)).alloc (.cells #[.slice none 0 0, .slice none 0 0] 42)) (.cells #[.int .i64 X.id, .int .i64 X.b1, .slice X.c1.a X.c1.n X.c1.k, .int .i64 X.b2, .slice X.c2.a X.c2.n X.c2.k, .slice X.own.a X.own.n X.own.k, .int .i64 X.made] 79); simpa using this
 have HS := hid (st.below b0)
 have HB := hid b0
 have ST := hid st
 have HA := hid A0
 have HP := hid P0
 have HR := hid R0
 have HX := hid X0
 have EX := hid hX
 have i0 : (0 : Int) ≤ (t : Int) := by omega
 have i1 : (t : Int) < (lt.length : Int) := by omega
 have w1_ : IntKind.i64.wrap (1000 * X.id) = 1000 * X.id := by rw [IntKind.wrap_i64]; omega
 have w2_ : IntKind.i64.wrap (1000 * X.id + X.made) = 1000 * X.id + X.made := by rw [IntKind.wrap_i64]; omega
 have w3_ : IntKind.i64.wrap (1000 * X.id + X.made + 1) = 1000 * X.id + X.made + 1 := by rw [IntKind.wrap_i64]; omega
 have w4_ : IntKind.i64.wrap (X.made + 1) = X.made + 1 := by rw [IntKind.wrap_i64]; omega
 obtain ⟨x0, x1⟩ := HA.out.two
 obtain ⟨s0, s1, s2, s3, s4, s5, s6, s7, s8, s9⟩ := HP.out.ten
 obtain ⟨y0, y1, y2, y3, y4, y5, y6⟩ := HX.out.seven
 obtain ⟨r0, r1⟩ := HR.out.two
 have rf := HR.out.warm
 clear CC CW b3 b0 A0 P0 R0 X0 hX st
 by_cases hf : X.made = 30 ∨ X.own.n = 10
 ·have HF := hid hf
  have NB : Hid (Below w.heap.size w ((((w.alloc (.cells #[.slice (some ⟨g, 0, none⟩) lt.length ca, .slice oa lo.length co] 42)).alloc (.cells #[.int .i64 th, .int .i64 1, .int .i64 id_, .int .i64 to_, .int .i64 cat, .string dat, .int .i64 sb1, .slice sc1.a sc1.n sc1.k, .int .i64 sb2, .slice sc2.a sc2.n sc2.k] 28)).alloc (.cells #[.slice (some ⟨g, 0, none⟩) lt.length ca, .slice oa lo.length co] 42)).alloc (.cells #[.int .i64 X.id, .int .i64 X.b1, .slice X.c1.a X.c1.n X.c1.k, .int .i64 X.b2, .slice X.c2.a X.c2.n X.c2.k, .slice X.own.a X.own.n X.own.k, .int .i64 X.made] 79))) := hid (((((Below.refl _ w).alloc (Nat.le_refl _) _).alloc (by simp) _).alloc (by simp; omega) _).alloc (by simp; omega) _)
  have NOF : Hid (KSt ((((w.alloc (.cells #[.slice (some ⟨g, 0, none⟩) lt.length ca, .slice oa lo.length co] 42)).alloc (.cells #[.int .i64 th, .int .i64 1, .int .i64 id_, .int .i64 to_, .int .i64 cat, .string dat, .int .i64 sb1, .slice sc1.a sc1.n sc1.k, .int .i64 sb2, .slice sc2.a sc2.n sc2.k] 28)).alloc (.cells #[.slice (some ⟨g, 0, none⟩) lt.length ca, .slice oa lo.length co] 42)).alloc (.cells #[.int .i64 X.id, .int .i64 X.b1, .slice X.c1.a X.c1.n X.c1.k, .int .i64 X.b2, .slice X.c2.a X.c2.n X.c2.k, .slice X.own.a X.own.n X.own.k, .int .i64 X.made] 79)) B (.slice (some ⟨g, 0, none⟩) lt.length ca) (.slice oa lo.length co) (lt.set t X) lo) := hid (by
   have e := set_same ht
   rw [← EX.out] at e
   rw [e]
   exact ST.out.below NB.out)
  have NR : Hid (Blk ((((w.alloc (.cells #[.slice (some ⟨g, 0, none⟩) lt.length ca, .slice oa lo.length co] 42)).alloc (.cells #[.int .i64 th, .int .i64 1, .int .i64 id_, .int .i64 to_, .int .i64 cat, .string dat, .int .i64 sb1, .slice sc1.a sc1.n sc1.k, .int .i64 sb2, .slice sc2.a sc2.n sc2.k] 28)).alloc (.cells #[.slice (some ⟨g, 0, none⟩) lt.length ca, .slice oa lo.length co] 42)).alloc (.cells #[.int .i64 X.id, .int .i64 X.b1, .slice X.c1.a X.c1.n X.c1.k, .int .i64 X.b2, .slice X.c2.a X.c2.n X.c2.k, .slice X.own.a X.own.n X.own.k, .int .i64 X.made] 79)) (w.heap.size + 1 + 1) (.cells #[.slice (some ⟨g, 0, none⟩) lt.length ca, .slice oa lo.length co] 42)) := hid (by have := (Blk.new ((w.alloc (.cells #[.slice (some ⟨g, 0, none⟩) lt.length ca, .slice oa lo.length co] 42)).alloc (.cells #[.int .i64 th, .int .i64 1, .int .i64 id_, .int .i64 to_, .int .i64 cat, .string dat, .int .i64 sb1, .slice sc1.a sc1.n sc1.k, .int .i64 sb2, .slice sc2.a sc2.n sc2.k] 28)) (.cells #[.slice (some ⟨g, 0, none⟩) lt.length ca, .slice oa lo.length co] 42)).alloc (.cells #[.int .i64 X.id, .int .i64 X.b1, .slice X.c1.a X.c1.n X.c1.k, .int .i64 X.b2, .slice X.c2.a X.c2.n X.c2.k, .slice X.own.a X.own.n X.own.k, .int .i64 X.made] 79); simpa using this)
  by_cases h3 : X.made = 30
  ·have h3' : (X.made == 30) = true := by simpa using h3
   have h3'' : decide (X.made = 30) = true := decide_eq_true h3
   clear hf h3
   go_enter Tryz.func76, Tryz.ntmps76
   go_wp2
   exact bodyPost_ret (self_results _ _ (w.heap.size + 1 + 1) 6 _ _ _ _ Tryz.results76 NR.out rfl rfl rfl) rfl ⟨X, 5, _, rfl, NOF.out, NB.out.mono hB, .inl ⟨rfl, HF.out, rfl, rfl⟩⟩
  ·have h4 : X.own.n = 10 := hf.resolve_left h3
   have h3' : (X.made == 30) = false := by simpa using h3
   have h3'' : decide (X.made = 30) = false := decide_eq_false h3
   have h4' : (X.own.n : Int) = 10 := by omega
   have H4 := hid h4
   clear hf h3 h4
   go_enter Tryz.func76, Tryz.ntmps76
   go_wp2
   exact bodyPost_ret (self_results _ _ (w.heap.size + 1 + 1) 6 _ _ _ _ Tryz.results76 NR.out rfl rfl rfl) rfl ⟨X, 5, _, rfl, NOF.out, NB.out.mono hB, .inl ⟨rfl, HF.out, rfl, rfl⟩⟩
 ·have h3 : ¬ X.made = 30 := fun h => hf (.inl h)
  have h4 : ¬ X.own.n = 10 := fun h => hf (.inr h)
  have h3' : (X.made == 30) = false := by simpa using h3
  have h3'' : decide (X.made = 30) = false := decide_eq_false h3
  have h4' : ¬ (X.own.n : Int) = 10 := by omega
  have HF := hid hf
  have KB := hid HS.out
  have CC := (KB.out.cell7 ht).1
  have c0 := CC.c0
  have c1 := CC.c1
  have c2 := CC.c2
  have c3 := CC.c3
  have c4 := CC.c4
  have c5 := CC.c5
  have c6 := CC.c6
  have GF := hid (KB.out.setMade (m := X.made + 1) ht EX.out)
  have gf := GF.out.2.1.choose_spec.warm
  have ng1 : ¬ g = w.heap.size := by omega
  have ng2 : ¬ g = w.heap.size + 1 := by omega
  have ng3 : ¬ g = w.heap.size + 1 + 1 := by omega
  have ng4 : ¬ g = w.heap.size + 1 + 1 + 1 := by omega
  clear hf CC h3 h4
  go_enter Tryz.func76, Tryz.ntmps76
  go_wp2_with fail
  have A7 := hid (HA.out.other (Q := g) ng1 (i := t * 7 + 6) (.int .i64 (X.made + 1)))
  have P7 := hid (HP.out.other (Q := g) ng2 (i := t * 7 + 6) (.int .i64 (X.made + 1)))
  have R7 := hid (HR.out.other (Q := g) ng3 (i := t * 7 + 6) (.int .i64 (X.made + 1)))
  have X7 := hid (HX.out.other (Q := g) ng4 (i := t * 7 + 6) (.int .i64 (X.made + 1)))
  have L7 : Hid (Below B w (((((w.alloc (.cells #[.slice (some ⟨g, 0, none⟩) lt.length ca, .slice oa lo.length co] 42)).alloc (.cells #[.int .i64 th, .int .i64 1, .int .i64 id_, .int .i64 to_, .int .i64 cat, .string dat, .int .i64 sb1, .slice sc1.a sc1.n sc1.k, .int .i64 sb2, .slice sc2.a sc2.n sc2.k] 28)).alloc (.cells #[.slice none 0 0, .slice none 0 0] 42)).alloc (.cells #[.int .i64 X.id, .int .i64 X.b1, .slice X.c1.a X.c1.n X.c1.k, .int .i64 X.b2, .slice X.c2.a X.c2.n X.c2.k, .slice X.own.a X.own.n X.own.k, .int .i64 X.made] 79)).setCell ⟨g, t * 7 + 6, none⟩ (.int .i64 (X.made + 1)))) := hid ((HB.out.mono hB).setCell (by dsimp only; exact GF.out.2.2) _)
  have S7 : Hid (w.heap.size ≤ (((((w.alloc (.cells #[.slice (some ⟨g, 0, none⟩) lt.length ca, .slice oa lo.length co] 42)).alloc (.cells #[.int .i64 th, .int .i64 1, .int .i64 id_, .int .i64 to_, .int .i64 cat, .string dat, .int .i64 sb1, .slice sc1.a sc1.n sc1.k, .int .i64 sb2, .slice sc2.a sc2.n sc2.k] 28)).alloc (.cells #[.slice none 0 0, .slice none 0 0] 42)).alloc (.cells #[.int .i64 X.id, .int .i64 X.b1, .slice X.c1.a X.c1.n X.c1.k, .int .i64 X.b2, .slice X.c2.a X.c2.n X.c2.k, .slice X.own.a X.own.n X.own.k, .int .i64 X.made] 79)).setCell ⟨g, t * 7 + 6, none⟩ (.int .i64 (X.made + 1))).heap.size) := hid (by rw [nblk_setCell]; exact HB.out.size)
  have XI : Hid (X.own.at (((((w.alloc (.cells #[.slice (some ⟨g, 0, none⟩) lt.length ca, .slice oa lo.length co] 42)).alloc (.cells #[.int .i64 th, .int .i64 1, .int .i64 id_, .int .i64 to_, .int .i64 cat, .string dat, .int .i64 sb1, .slice sc1.a sc1.n sc1.k, .int .i64 sb2, .slice sc2.a sc2.n sc2.k] 28)).alloc (.cells #[.slice none 0 0, .slice none 0 0] 42)).alloc (.cells #[.int .i64 X.id, .int .i64 X.b1, .slice X.c1.a X.c1.n X.c1.k, .int .i64 X.b2, .slice X.c2.a X.c2.n X.c2.k, .slice X.own.a X.own.n X.own.k, .int .i64 X.made] 79)).setCell ⟨g, t * 7 + 6, none⟩ (.int .i64 (X.made + 1)))) := hid (((XN.out.1.keeps (KeepsK.of_below HB.out).l).keeps (keeps_set (i := t * 7 + 6) GF.out.2.1.choose_spec (by decide) (.int .i64 (X.made + 1)))).at.2.2)
  have K7 := hid GF.out.1
  have gB := GF.out.2.2
  clear gf GF KB HA HP HR HX HS c0 c1 c2 c3 c4 c5 c6 x0 x1 s0 s1 s2 s3 s4 s5 s6 s7 s8 s9 r0 r1 rf y0 y1 y2 y3 y4 y5 y6 q0 q1 q2 q3 q4 q5 q6 HB
  generalize ((((w.alloc (.cells #[.slice (some ⟨g, 0, none⟩) lt.length ca, .slice oa lo.length co] 42)).alloc (.cells #[.int .i64 th, .int .i64 1, .int .i64 id_, .int .i64 to_, .int .i64 cat, .string dat, .int .i64 sb1, .slice sc1.a sc1.n sc1.k, .int .i64 sb2, .slice sc2.a sc2.n sc2.k] 28)).alloc (.cells #[.slice none 0 0, .slice none 0 0] 42)).alloc (.cells #[.int .i64 X.id, .int .i64 X.b1, .slice X.c1.a X.c1.n X.c1.k, .int .i64 X.b2, .slice X.c2.a X.c2.n X.c2.k, .slice X.own.a X.own.n X.own.k, .int .i64 X.made] 79)).setCell ⟨g, t * 7 + 6, none⟩ (.int .i64 (X.made + 1)) = W7 at *
  obtain ⟨LS, eLS⟩ : ∃ l, l = lt.set t (⟨X.id, X.b1, X.c1, X.b2, X.c2, X.own, X.made + 1⟩ : ThrV) := ⟨_, rfl⟩
  rw [← eLS] at K7
  have el1 : LS.length = lt.length := by rw [eLS]; simp
  have ht' : t < LS.length := by rw [el1]; exact ht
  have EL : Hid ((⟨X.id, X.b1, X.c1, X.b2, X.c2, X.own, X.made + 1⟩ : ThrV) = LS[t] ∧ ∀ y, LS.set t y = lt.set t y) := hid ⟨by simp only [eLS, List.getElem_set_self], fun y => by rw [eLS, List.set_set]⟩
  rw [← el1] at K7
  clear eLS
  have BX : Hid (∀ W, Below W7.heap.size W7 W → Blk W w.heap.size (.cells #[.slice (some ⟨g, 0, none⟩) lt.length ca, .slice oa lo.length co] 42) ∧ Blk W (w.heap.size + 1) (.cells #[.int .i64 th, .int .i64 1, .int .i64 id_, .int .i64 to_, .int .i64 cat, .string dat, .int .i64 sb1, .slice sc1.a sc1.n sc1.k, .int .i64 sb2, .slice sc2.a sc2.n sc2.k] 28) ∧ Blk W (w.heap.size + 1 + 1) (.cells #[.slice none 0 0, .slice none 0 0] 42) ∧ Blk W (w.heap.size + 1 + 1 + 1) (.cells #[.int .i64 X.id, .int .i64 X.b1, .slice X.c1.a X.c1.n X.c1.k, .int .i64 X.b2, .slice X.c2.a X.c2.n X.c2.k, .slice X.own.a X.own.n X.own.k, .int .i64 X.made] 79) ∧ KSt W B (.slice (some ⟨g, 0, none⟩) LS.length ca) (.slice oa lo.length co) LS lo) := hid (fun W hW => ⟨A7.out.below hW, P7.out.below hW, R7.out.below hW, X7.out.below hW, K7.out.below hW⟩)
  have LB : Hid (∀ W, Below W7.heap.size W7 W → Below B w W) := hid (fun W hW => L7.out.trans (hW.mono (Nat.le_trans hB S7.out)))
  have V0 := hid (Below.refl W7.heap.size W7)
  have D0 := hid (below_drew V0.out)
  have IA : Hid (∀ W, Below W7.heap.size W7 W → X.own.at W) := hid (fun W hW => XI.out.below hW)
  have EG : Hid (∀ args w, (callFunc 89 args).run Tryz.prog w = .ok (.enter 89 args) w) := hid (enters_of Tryz.func89 (by kernel_rfl) rfl)
  obtain ⟨N, eN⟩ : ∃ l, l = putL ((List.range X.own.n).map X.own.h) (newCat X) := ⟨_, rfl⟩
  have PL : Hid (N.length ≤ 1048576) := hid (by
   have h1 := putL_len ((List.range X.own.n).map X.own.h) (newCat X)
   have h2 : ((List.range X.own.n).map X.own.h).length = X.own.n := by simp
   rw [eN]
   omega)
  have CP : Hid (Calls Tryz.prog 89 #[.slice X.own.a X.own.n X.own.k, .int .i64 (1000 * X.id + X.made + 1)] W7.drew fun e w' => ∃ v, e = .returned v ∧ (∃ va vc, v = .slice va N.length vc ∧ OwnI w' W7.drew.heap.size (.slice va N.length vc) N ∧ Below W7.drew.heap.size W7.drew w')) := hid ((l2Put_all X.own (1000 * X.id + X.made + 1) W7.drew (IA.out _ D0.out) on1 XN.out.2).mono fun _ _ ⟨va, vc, e1, h1, h2⟩ => ⟨_, e1, va, vc, by rw [eN]; rfl, by rw [eN]; exact h1, h2⟩)
  have EN := hid eN
  clear eN
  clear A7 P7 R7 X7 XI L7
  obtain ⟨x0, x1⟩ := (BX.out _ D0.out).1.two
  obtain ⟨s0, s1, s2, s3, s4, s5, s6, s7, s8, s9⟩ := (BX.out _ D0.out).2.1.ten
  obtain ⟨y0, y1, y2, y3, y4, y5, y6⟩ := (BX.out _ D0.out).2.2.2.1.seven
  go_region_law (first
   | (refine step_call2 (by rfl) 89 _ _ _ (by rfl) EG.out _ _ (by rfl) (by rfl) _ CP.out ?_; rintro v w8 ⟨va, vc, rfl, o8, b8⟩; have V8 := hid (then_ D0.out b8); have O8 := hid o8; obtain ⟨m0, m1⟩ := (BX.out _ V8.out).1.two; obtain ⟨n0, n1, n2, n3, n4, n5, n6⟩ := (BX.out _ V8.out).2.2.2.1.seven; have KB := hid (BX.out _ V8.out).2.2.2.2; have CC := (KB.out.cell7 ht').1; rw [← EL.out.1] at CC; have ND : Hid (IntL.new B w8 ⟨va, N.length, vc, nthI N⟩) := hid ((O8.out.newL PL.out).low (Nat.le_trans hB (Nat.le_trans S7.out D0.out.size))); have CQ := hid (own_cap O8.out); have c5 := CC.c5; have GF := hid (KB.out.setOwn (d := ⟨va, N.length, vc, nthI N⟩) ht' EL.out.1 ND.out CQ.out); have gf := GF.out.2.1.choose_spec.warm; clear o8 b8 CC))
  all_goals (
   have ng1' : g ≠ w.heap.size := ng1
   have A8 := hid ((BX.out _ V8.out).1.other (Q := g) ng1 (i := t * 7 + 5) (.slice va N.length vc))
   have R8 := hid ((BX.out _ V8.out).2.2.1.other (Q := g) ng3 (i := t * 7 + 5) (.slice va N.length vc))
   have L8 : Hid (Below B w (w8.setCell ⟨g, t * 7 + 5, none⟩ (.slice va N.length vc))) := hid ((LB.out _ V8.out).setCell (by dsimp only; exact gB) _)
   have S8 : Hid (w.heap.size ≤ (w8.setCell ⟨g, t * 7 + 5, none⟩ (.slice va N.length vc)).heap.size) := hid (by rw [nblk_setCell]; exact Nat.le_trans S7.out V8.out.size)
   have K8 := hid GF.out.1
   clear GF gf c5 KB ND CQ m0 m1 n0 n1 n2 n3 n4 n5 n6 x0 x1 s0 s1 s2 s3 s4 s5 s6 s7 s8 s9 y0 y1 y2 y3 y4 y5 y6
   generalize w8.setCell ⟨g, t * 7 + 5, none⟩ (.slice va N.length vc) = W8 at *
   have D8 := hid (below_drew (Below.refl W8.heap.size W8))
   have BY : Hid (∀ W, Below W8.heap.size W8 W → Blk W w.heap.size (.cells #[.slice (some ⟨g, 0, none⟩) lt.length ca, .slice oa lo.length co] 42) ∧ Blk W (w.heap.size + 1 + 1) (.cells #[.slice none 0 0, .slice none 0 0] 42)) := hid (fun W hW => ⟨A8.out.below hW, R8.out.below hW⟩)
   obtain ⟨x0, x1⟩ := (BY.out _ D8.out).1.two
   obtain ⟨r0, r1⟩ := (BY.out _ D8.out).2.two
   have rf := (BY.out _ D8.out).2.warm
   have EG9 : Hid (∀ args w, (callFunc 22 args).run Tryz.prog w = .ok (.enter 22 args) w) := hid (enters_of Tryz.func22 (by kernel_rfl) rfl)
   have CP9 : Hid (Calls Tryz.prog 22 #[.int .i64 (1000 * X.id + X.made + 1)] W8.drew fun e w' => ∃ v, e = .returned v ∧ (v = .string ⟨(decL (newCat X).toNat).toArray⟩ ∧ Below W8.drew.heap.size W8.drew w')) := hid (by
    have e : (((newCat X).toNat : Nat) : Int) = 1000 * X.id + X.made + 1 := by unfold newCat; omega
    rw [← e]
    exact (l1Dec_any _ _ (by unfold newCat; omega)).mono fun _ _ ⟨e1, h1⟩ => ⟨_, e1, rfl, h1⟩)
   go_wp2_with fail
   go_region_law (first
    | (refine step_call (by rfl) 22 _ _ (by rfl) EG9.out _ (by rfl) _ CP9.out ?_; rintro v w9 ⟨rfl, b9⟩; have V9 := hid (then_ D8.out b9); obtain ⟨m0, m1⟩ := (BY.out _ V9.out).1.two; obtain ⟨z0, z1⟩ := (BY.out _ V9.out).2.two; have zf := (BY.out _ V9.out).2.warm; clear b9))
   all_goals (
    go_wp2
    refine bodyPost_ret (self_results _ _ (w.heap.size + 1 + 1) 6 _ _ _ _ Tryz.results76 (((BY.out _ V9.out).2.setAt (i := 0) _).setAt (i := 1) _) rfl rfl rfl) rfl ⟨_, 0, _, rfl, ?_, ?_, .inr ⟨rfl, HF.out, rfl, va, vc, by rw [← EN.out]⟩⟩
    ·have k9 := ((K8.out.below V9.out).set (BY.out _ V9.out).2 (.inl rfl) (i := 0) (.slice (some ⟨g, 0, none⟩) lt.length ca)).set ((BY.out _ V9.out).2.setAt (i := 0) _) (.inl rfl) (i := 1) (.slice oa lo.length co)
     rw [EL.out.2, el1] at k9
     exact k9
    ·exact (((L8.out.trans (V9.out.mono (Nat.le_trans hB S8.out))).setCell (by dsimp only; omega) _).setCell (by dsimp only; omega) _)))
end Go.Proofs.YthbmfbnnemgbpaaGreatDoor
