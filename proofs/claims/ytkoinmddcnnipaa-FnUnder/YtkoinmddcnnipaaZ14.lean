/- Copies that the program makes: texts, labels, threads. -/
import Derived.Test.YtkoinmddcnnipaaZ13
import Derived.Deep.RegionLaw
import Derived.Shelf.Abstract
import Derived.Test.YtkoinmddcnnipaaZ11
import Derived.Test.YtkoinmddcnnipaaZ3
namespace Go.Proofs.Ytkoinmddcnnipaa
open Go Go.RowKit Go.Deep Go.Maps

set_option maxRecDepth 100000 in
set_option maxHeartbeats 2000000 in
theorem copiedStr_any (c : StrL) (w : World) (hc : c.at w) (hn : c.n ≤ 1048576) :
    Calls Try.prog 38 #[c.val] w fun e w' => ∃ d : StrL, e = .returned d.val ∧ c.same d ∧ d.new w.heap.size w' ∧ Below w.heap.size w w' := by
  obtain ⟨a, n, cap, f⟩ := c
  obtain ⟨hm, hc, hz⟩ := hc
  unfold StrL.val
  simp only at hm hc hn hz ⊢
  have L := hid (strs_lies hc)
  have HZ := hid hz
  clear hc hz
  go_enter Try.func38, Try.ntmps38
  go_wp2_with (refine wpList_append_any Try.underlying36 Try.info9 rfl (by omega) _ rfl _ _ rfl w.heap.size (.slice none 0 0) 0 [] rfl (World.ownsRow_nil _ _ _ _) a n cap ((List.range n).map (fun i => Value.string (f i))) rfl (by simp) L.out (fun u hu => by obtain ⟨y, _, rfl⟩ := List.mem_map.1 hu; rfl) (by omega) (by omega) (Nat.le_refl _) ?_; intro a3 c3 w3 o3 g3; rw [Nat.zero_add, List.nil_append] at o3; rw [Nat.zero_add])
  go_ret
  have hi : StrAt w3 a3 n f := fun h0 => by
    obtain ⟨b, off, e, hlt, hcc⟩ := LiesC.own o3 h0
    exact ⟨b, off, e, hlt, fun i hi => hcc i _ (by simp [hi])⟩
  exact ⟨⟨a3, n, c3, f⟩, rfl, ⟨rfl, rfl⟩, ⟨⟨hm, hi, HZ.out⟩, fun h0 => by have := row_of_own o3 h0; simpa using this⟩, below_grown g3 (Nat.le_refl _) (fun j hj => by cases hj)⟩

theorem CatL.new.of {B : Nat} {w w' : World} {c : CatL} (h : c.new B w) (hs : w.heap.size ≤ w'.heap.size) (hb : ∀ b, c.a = some ⟨b, 0, none⟩ → 0 < c.n → w'.heap[b]? = w.heap[b]?) : c.new B w' :=
  ⟨⟨h.1.1, fun hn => by
    obtain ⟨b, off, e, hlt, hc⟩ := h.1.2 hn
    obtain ⟨b', _, _, e', _⟩ := h.2 hn
    have eb := e.symm.trans e'
    cases eb
    have ce : ∀ o, w'.cell? ⟨b, o, none⟩ = w.cell? ⟨b, o, none⟩ := fun o => World.cell?_of_block (a := ⟨b, o, none⟩) (hb b e' hn)
    exact ⟨b, 0, e, Nat.lt_of_lt_of_le hlt hs, fun i hi => by rw [ce, ce]; exact hc i hi⟩⟩, fun hn => by
    obtain ⟨b, m, F, e, h1, h2, h3⟩ := h.2 hn
    exact ⟨b, m, F, e, h1, h2, h3.of_block (hb b e hn)⟩⟩
theorem CatL.new.ne {B : Nat} {w : World} {c : CatL} (h : c.new B w) {P t : Nat} {cs : Array Value} (hP : Blk w P (.cells cs t)) (ht : t ≠ 90) : ∀ b, c.a = some ⟨b, 0, none⟩ → 0 < c.n → b ≠ P := fun b e hn => by
  obtain ⟨b', m, F, e', _, _, h3⟩ := h.2 hn
  rw [e] at e'
  cases e'
  exact row_ne h3 hP.row (fun e => ht e.symm)
theorem IntL.new.of {B : Nat} {w w' : World} {c : IntL} (h : c.new B w) (hs : w.heap.size ≤ w'.heap.size) (hb : ∀ b, c.a = some ⟨b, 0, none⟩ → 0 < c.n → w'.heap[b]? = w.heap[b]?) : c.new B w' :=
  ⟨⟨h.1.1, fun hn => by
    obtain ⟨b, off, e, hlt, hc⟩ := h.1.2 hn
    obtain ⟨b', _, _, e', _⟩ := h.2 hn
    have eb := e.symm.trans e'
    cases eb
    have ce : ∀ o, w'.cell? ⟨b, o, none⟩ = w.cell? ⟨b, o, none⟩ := fun o => World.cell?_of_block (a := ⟨b, o, none⟩) (hb b e' hn)
    exact ⟨b, 0, e, Nat.lt_of_lt_of_le hlt hs, fun i hi => by rw [ce]; exact hc i hi⟩⟩, fun hn => by
    obtain ⟨b, m, F, e, h1, h2, h3⟩ := h.2 hn
    exact ⟨b, m, F, e, h1, h2, h3.of_block (hb b e hn)⟩⟩
theorem IntL.new.ne {B : Nat} {w : World} {c : IntL} (h : c.new B w) {P t : Nat} {cs : Array Value} (hP : Blk w P (.cells cs t)) (ht : t ≠ 2) : ∀ b, c.a = some ⟨b, 0, none⟩ → 0 < c.n → b ≠ P := fun b e hn => by
  obtain ⟨b', m, F, e', _, _, h3⟩ := h.2 hn
  rw [e] at e'
  cases e'
  exact row_ne h3 hP.row (fun e => ht e.symm)
theorem StrL.new.of {B : Nat} {w w' : World} {c : StrL} (h : c.new B w) (hs : w.heap.size ≤ w'.heap.size) (hb : ∀ b, c.a = some ⟨b, 0, none⟩ → 0 < c.n → w'.heap[b]? = w.heap[b]?) : c.new B w' :=
  ⟨⟨h.1.1, fun hn => by
    obtain ⟨b, off, e, hlt, hc⟩ := h.1.2.1 hn
    obtain ⟨b', _, _, e', _⟩ := h.2 hn
    have eb := e.symm.trans e'
    cases eb
    have ce : ∀ o, w'.cell? ⟨b, o, none⟩ = w.cell? ⟨b, o, none⟩ := fun o => World.cell?_of_block (a := ⟨b, o, none⟩) (hb b e' hn)
    exact ⟨b, 0, e, Nat.lt_of_lt_of_le hlt hs, fun i hi => by rw [ce]; exact hc i hi⟩, h.1.2.2⟩, fun hn => by
    obtain ⟨b, m, F, e, h1, h2, h3⟩ := h.2 hn
    exact ⟨b, m, F, e, h1, h2, h3.of_block (hb b e hn)⟩⟩
theorem StrL.new.ne {B : Nat} {w : World} {c : StrL} (h : c.new B w) {P t : Nat} {cs : Array Value} (hP : Blk w P (.cells cs t)) (ht : t ≠ 9) : ∀ b, c.a = some ⟨b, 0, none⟩ → 0 < c.n → b ≠ P := fun b e hn => by
  obtain ⟨b', m, F, e', _, _, h3⟩ := h.2 hn
  rw [e] at e'
  cases e'
  exact row_ne h3 hP.row (fun e => ht e.symm)

theorem results73 (tmps : Array Value) (W : World) (P : Nat) (x y : Value) (h : Blk W P (.cells #[x, y] 35)) (h2 : tmps[2]? = some (.pointer (some ⟨P, 0, none⟩))) :
    (results Try.f36 tmps).run Try.prog W = .ok (.agg #[x, y]) W := by
  obtain ⟨z0, z1⟩ := h.two
  simp [results, Try.results36, go_sem, h2, z0, z1]

set_option maxRecDepth 100000 in
set_option maxHeartbeats 2000000 in
theorem copiedLabel_any (b : Int) (c : CatL) (w : World) (hc : c.at w) (hn : c.n ≤ 1048576) :
    Calls Try.prog 36 #[.agg #[.int .i64 b, c.val]] w fun e w' => ∃ d : CatL, e = .returned (.agg #[.int .i64 b, d.val]) ∧ c.same d ∧ d.new w.heap.size w' ∧ Below w.heap.size w w' := by
  have b0 : Below w.heap.size w ((w.alloc (.cells #[.int .i64 b, c.val] 35)).alloc (.cells #[.int .i64 0, .slice none 0 0] 35)) := ((Below.refl _ w).alloc (Nat.le_refl _) _).alloc (by simp) _
  have A0 := (Blk.new w (.cells #[.int .i64 b, c.val] 35)).alloc (.cells #[.int .i64 0, .slice none 0 0] 35)
  have R0 : Blk ((w.alloc (.cells #[.int .i64 b, c.val] 35)).alloc (.cells #[.int .i64 0, .slice none 0 0] 35)) (w.heap.size + 1) (.cells #[.int .i64 0, .slice none 0 0] 35) := by
    have := Blk.new (w.alloc (.cells #[.int .i64 b, c.val] 35)) (.cells #[.int .i64 0, .slice none 0 0] 35)
    simpa using this
  have C1 := hid (copiedCat_any c _ (hc.below b0) hn)
  obtain ⟨x0, x1⟩ := A0.two
  clear hc
  go_enter Try.func36, Try.ntmps36
  go_wp2_with fail
  refine C1.out.mono ?_
  rintro e w1 ⟨d, rfl, hs, hd, hb1⟩
  have A1 := A0.below hb1
  have R1 := R0.below hb1
  have B1 := then_ b0 hb1
  have HD := hid (hd.low b0.size)
  have HS := hid hs
  obtain ⟨x0', x1'⟩ := A1.two
  obtain ⟨y0, y1⟩ := R1.two
  have xf := A1.warm
  have yf := R1.warm
  have ne1 : ¬ w.heap.size = w.heap.size + 1 := by omega
  have ne2 : ¬ w.heap.size + 1 = w.heap.size := by omega
  clear hs hd C1 x0 x1 A0 R0 b0 hb1
  unfold CatL.val at x1' ⊢
  go_wp2
  refine bodyPost_ret (results73 _ _ (w.heap.size + 1) (.int .i64 b) (.slice d.a d.n d.k) (((R1.other (Q := w.heap.size) (i := 1) (by omega) _).setAt (i := 0) _).setAt (i := 1) _) rfl) rfl ⟨d, rfl, HS.out, ?_, ?_⟩
  · refine HD.out.of (by simp) (fun g hg hn' => ?_)
    have n1 := HD.out.ne A1 (by decide) g hg hn'
    have n2 := HD.out.ne R1 (by decide) g hg hn'
    rw [blk_setCell_other _ _ _ _ (by dsimp only; omega), blk_setCell_other _ _ _ _ (by dsimp only; omega), blk_setCell_other _ _ _ _ (by dsimp only; omega)]
  · exact ((B1.setCell (by dsimp only; omega) _).setCell (by dsimp only; omega) _).setCell (by dsimp only; omega) _
end Go.Proofs.Ytkoinmddcnnipaa
namespace Go.Proofs.Ytkoinmddcnnipaa
open Go Go.RowKit Go.Deep Go.Maps Go.BigFrame Go.Shelf

theorem step_call {ops : Array Oper} {o : Oper} {a : Act} {w : World} {K : Act → World → Prop} {Q : Exit → Act → World → Prop} {E : Prop} (hgd : o.guard = none) (f : Nat) (x : Operand) (ats : Array TypeId)
    (ho : o.op = .call { callee := .value (.func f), args := #[x], argTypes := ats }) (eg : ∀ args w, (callFunc f args).run Try.prog w = .ok (.enter f args) w) (v0 : Value) (hv : a.eval x = v0)
    (R : Value → World → Prop) (hc : Calls Try.prog f #[v0] w fun e w' => ∃ v, e = .returned v ∧ R v w') (h : ∀ v w', R v w' → K (a.put o.dst v) w') :
    if Region.wanted o (yielded ops a.tmps) = true then Oper.wp Try.prog o a w K Q else E := by
  have hw : Region.wanted o (yielded ops a.tmps) = true := by simp [Region.wanted, hgd]
  rw [if_pos hw]
  have e : (execOp a.eval o).run Try.prog w = .ok (.enter f #[v0]) w := by
    unfold execOp
    simp only [ho, resolve, invoke, Sem.run_bind, List.map_toArray, List.map_cons, List.map_nil, hv]
    simp [go_sem, eg, Act.eval]
  unfold Oper.wp
  rw [e, Oper.upon_enter]
  exact hc.mono fun e w' ⟨v, he, hr⟩ => by subst he; exact h v w' hr
def ThrV.new (B : Nat) (w : World) (t : ThrV) : Prop := t.c1.new B w ∧ t.c2.new B w ∧ t.own.new B w
def ThrV.apart (t : ThrV) : Prop := ∀ b b', t.c1.a = some ⟨b, 0, none⟩ → 0 < t.c1.n → t.c2.a = some ⟨b', 0, none⟩ → 0 < t.c2.n → b ≠ b'
theorem Blk.seven {W : World} {P t : Nat} {x0 x1 x2 x3 x4 x5 x6 : Value} (h : Blk W P (.cells #[x0, x1, x2, x3, x4, x5, x6] t)) : W.cell? ⟨P, 0, none⟩ = some x0 ∧ W.cell? ⟨P, 1, none⟩ = some x1 ∧ W.cell? ⟨P, 2, none⟩ = some x2 ∧ W.cell? ⟨P, 3, none⟩ = some x3 ∧ W.cell? ⟨P, 4, none⟩ = some x4 ∧ W.cell? ⟨P, 5, none⟩ = some x5 ∧ W.cell? ⟨P, 6, none⟩ = some x6 := by
  unfold Blk at h
  simp [World.cell?, h]

theorem Blk.all7 {W : World} {P t : Nat} {z0 z1 z2 z3 z4 z5 z6 : Value} (h : Blk W P (.cells #[z0, z1, z2, z3, z4, z5, z6] t)) (x0 x1 x2 x3 x4 x5 x6 : Value) :
    Blk (((((((W.setCell ⟨P, 0, none⟩ x0).setCell ⟨P, 1, none⟩ x1).setCell ⟨P, 2, none⟩ x2).setCell ⟨P, 3, none⟩ x3).setCell ⟨P, 4, none⟩ x4).setCell ⟨P, 5, none⟩ x5).setCell ⟨P, 6, none⟩ x6) P (.cells #[x0, x1, x2, x3, x4, x5, x6] t) := by
  have h0 : Blk (W.setCell ⟨P, 0, none⟩ x0) P (.cells #[x0, z1, z2, z3, z4, z5, z6] t) := h.setAt (i := 0) x0
  have h1 : Blk ((W.setCell ⟨P, 0, none⟩ x0).setCell ⟨P, 1, none⟩ x1) P (.cells #[x0, x1, z2, z3, z4, z5, z6] t) := h0.setAt (i := 1) x1
  have h2 : Blk (((W.setCell ⟨P, 0, none⟩ x0).setCell ⟨P, 1, none⟩ x1).setCell ⟨P, 2, none⟩ x2) P (.cells #[x0, x1, x2, z3, z4, z5, z6] t) := h1.setAt (i := 2) x2
  have h3 : Blk ((((W.setCell ⟨P, 0, none⟩ x0).setCell ⟨P, 1, none⟩ x1).setCell ⟨P, 2, none⟩ x2).setCell ⟨P, 3, none⟩ x3) P (.cells #[x0, x1, x2, x3, z4, z5, z6] t) := h2.setAt (i := 3) x3
  have h4 : Blk (((((W.setCell ⟨P, 0, none⟩ x0).setCell ⟨P, 1, none⟩ x1).setCell ⟨P, 2, none⟩ x2).setCell ⟨P, 3, none⟩ x3).setCell ⟨P, 4, none⟩ x4) P (.cells #[x0, x1, x2, x3, x4, z5, z6] t) := h3.setAt (i := 4) x4
  have h5 : Blk ((((((W.setCell ⟨P, 0, none⟩ x0).setCell ⟨P, 1, none⟩ x1).setCell ⟨P, 2, none⟩ x2).setCell ⟨P, 3, none⟩ x3).setCell ⟨P, 4, none⟩ x4).setCell ⟨P, 5, none⟩ x5) P (.cells #[x0, x1, x2, x3, x4, x5, z6] t) := h4.setAt (i := 5) x5
  exact h5.setAt (i := 6) x6

end Go.Proofs.Ytkoinmddcnnipaa
namespace Go.Proofs.Ytkoinmddcnnipaa
open Go Go.RowKit Go.Deep Go.Maps Go.BigFrame Go.Shelf
def ObjV.new (B : Nat) (w : World) (t : ObjV) : Prop := t.c1.new B w ∧ t.items.new B w ∧ t.own.new B w ∧ t.c2.new B w
def ObjV.apart (t : ObjV) : Prop := ∀ b b', t.c1.a = some ⟨b, 0, none⟩ → 0 < t.c1.n → t.c2.a = some ⟨b', 0, none⟩ → 0 < t.c2.n → b ≠ b'
theorem results48 (tmps : Array Value) (W : World) (P : Nat) (x0 x1 x2 x3 x4 x5 x6 x7 x8 x9 : Value) (h : Blk W P (.cells #[x0, x1, x2, x3, x4, x5, x6, x7, x8, x9] 38)) (h2 : tmps[2]? = some (.pointer (some ⟨P, 0, none⟩))) :
    (results Try.f21 tmps).run Try.prog W = .ok (.agg #[x0, x1, x2, x3, x4, x5, x6, x7, x8, x9]) W := by
  obtain ⟨z0, z1, z2, z3, z4, z5, z6, z7, z8, z9⟩ := h.ten
  simp [results, Try.results21, go_sem, h2, z0, z1, z2, z3, z4, z5, z6, z7, z8, z9]
def zeroBlk : Obj := .cells #[.int .i64 0, .int .i64 0, .int .i64 0, .int .i64 0, .slice none 0 0, .string (ByteArray.mk #[]), .slice none 0 0, .slice none 0 0, .int .i64 0, .slice none 0 0] 38

set_option maxRecDepth 100000 in
set_option maxHeartbeats 8000000 in
theorem copiedObject_any (t : ObjV) (w : World) (ht : t.at w) (hs : t.small) :
    Calls Try.prog 21 #[t.val] w fun e w' => ∃ u : ObjV, e = .returned u.val ∧ t.same u ∧ u.new w.heap.size w' ∧ u.apart ∧ Below w.heap.size w w' := by
  have EG : ∀ args w, (callFunc 36 args).run Try.prog w = .ok (.enter 36 args) w := enters_of Try.func36 (by kernel_rfl) rfl
  have EH : ∀ args w, (callFunc 37 args).run Try.prog w = .ok (.enter 37 args) w := enters_of Try.func37 (by kernel_rfl) rfl
  have EI : ∀ args w, (callFunc 38 args).run Try.prog w = .ok (.enter 38 args) w := enters_of Try.func38 (by kernel_rfl) rfl
  have b0 : Below w.heap.size w ((w.alloc t.blk).alloc zeroBlk) := ((Below.refl _ w).alloc (Nat.le_refl _) _).alloc (by simp) _
  have A0 := (Blk.new w t.blk).alloc zeroBlk
  have R0 : Blk ((w.alloc t.blk).alloc zeroBlk) (w.heap.size + 1) zeroBlk := by
    have := Blk.new (w.alloc t.blk) zeroBlk
    simpa using this
  have T0 := hid (ht.below b0)
  unfold ObjV.blk zeroBlk at b0 A0 R0 T0
  unfold ObjV.val
  obtain ⟨x0, x1, x2, x3, x4, x5, x6, x7, x8, x9⟩ := A0.ten
  obtain ⟨m1, m2, m3, m4, m5⟩ := hs
  clear ht
  go_enter Try.func21, Try.ntmps21
  go_wp2
  generalize hV : ((w.alloc (.cells #[.int .i64 t.id, .int .i64 t.kind, .int .i64 t.up, .int .i64 t.b1, t.c1.val, .string t.data, t.items.val, t.own.val, .int .i64 t.b2, t.c2.val] 38)).alloc (.cells #[.int .i64 0, .int .i64 0, .int .i64 0, .int .i64 0, .slice none 0 0, .string (ByteArray.mk #[]), .slice none 0 0, .slice none 0 0, .int .i64 0, .slice none 0 0] 38)) = V at *
  have B0 := hid b0
  have A0' := hid A0
  have R0' := hid R0
  have PA : Hid (∀ W, Below V.heap.size V W → Calls Try.prog 36 #[.agg #[.int .i64 t.b1, t.c1.val]] W fun e w' => ∃ v, e = .returned v ∧ ∃ d : CatL, v = .agg #[.int .i64 t.b1, d.val] ∧ t.c1.same d ∧ d.new W.heap.size w' ∧ Below W.heap.size W w') := hid (fun W hW => (copiedLabel_any t.b1 t.c1 W (T0.out.below hW).1 m1).mono fun e w' ⟨d, h1, h2, h3, h4⟩ => ⟨_, h1, d, rfl, h2, h3, h4⟩)
  have PB : Hid (∀ W, Below V.heap.size V W → Calls Try.prog 36 #[.agg #[.int .i64 t.b2, t.c2.val]] W fun e w' => ∃ v, e = .returned v ∧ ∃ d : CatL, v = .agg #[.int .i64 t.b2, d.val] ∧ t.c2.same d ∧ d.new W.heap.size w' ∧ Below W.heap.size W w') := hid (fun W hW => (copiedLabel_any t.b2 t.c2 W (T0.out.below hW).2.2.2.1 m5).mono fun e w' ⟨d, h1, h2, h3, h4⟩ => ⟨_, h1, d, rfl, h2, h3, h4⟩)
  have PC : Hid (∀ W, Below V.heap.size V W → Calls Try.prog 37 #[t.own.val] W fun e w' => ∃ v, e = .returned v ∧ ∃ d : IntL, v = d.val ∧ t.own.same d ∧ d.new W.heap.size w' ∧ Below W.heap.size W w') := hid (fun W hW => (copiedInt_any t.own W (T0.out.below hW).2.2.1 m4).mono fun e w' ⟨d, h1, h2, h3, h4⟩ => ⟨_, h1, d, rfl, h2, h3, h4⟩)
  have PD : Hid (∀ W, Below V.heap.size V W → Calls Try.prog 38 #[t.items.val] W fun e w' => ∃ v, e = .returned v ∧ ∃ d : StrL, v = d.val ∧ t.items.same d ∧ d.new W.heap.size w' ∧ Below W.heap.size W w') := hid (fun W hW => (copiedStr_any t.items W (T0.out.below hW).2.1 m3.1).mono fun e w' ⟨d, h1, h2, h3, h4⟩ => ⟨_, h1, d, rfl, h2, h3, h4⟩)
  have V0 : Hid (Below V.heap.size V V.drew) := hid (Below.refl _ V).drew
  have Ad : Hid (Blk V.drew w.heap.size (.cells #[.int .i64 t.id, .int .i64 t.kind, .int .i64 t.up, .int .i64 t.b1, t.c1.val, .string t.data, t.items.val, t.own.val, .int .i64 t.b2, t.c2.val] 38)) := hid A0
  clear hV b0 A0 R0
  have HS0 : Blk V.drew w.heap.size (.cells #[.int .i64 t.id, .int .i64 t.kind, .int .i64 t.up, .int .i64 t.b1, t.c1.val, .string t.data, t.items.val, t.own.val, .int .i64 t.b2, t.c2.val] 38) := Ad.out
  refine wp_region_G 13 (fun W => Blk W w.heap.size (.cells #[.int .i64 t.id, .int .i64 t.kind, .int .i64 t.up, .int .i64 t.b1, t.c1.val, .string t.data, t.items.val, t.own.val, .int .i64 t.b2, t.c2.val] 38)) (by kernel_rfl) ?_
  have HS1 : (fun W => Blk W w.heap.size (.cells #[.int .i64 t.id, .int .i64 t.kind, .int .i64 t.up, .int .i64 t.b1, t.c1.val, .string t.data, t.items.val, t.own.val, .int .i64 t.b2, t.c2.val] 38)) V.drew := HS0
  clear HS0
  refine wpAnyG_takeD (i := 0) (d := 3) (.pointer (some ⟨w.heap.size, 3, none⟩)) rfl rfl (by kernel_rfl) (by kernel_rfl) (by kernel_rfl) (by kernel_rfl) (by kernel_rfl) (by kernel_rfl) (fun _ _ _ h => h) (Or.inl ⟨by rfl, fun W hSw => by go_simp⟩) HS1 ?_
  simp only [ap, List.set]
  refine wpAnyG_takeD (i := 1) (d := 4) (.agg #[.int .i64 t.b1, t.c1.val]) rfl rfl (by kernel_rfl) (by kernel_rfl) (by kernel_rfl) (by kernel_rfl) (by kernel_rfl) (by kernel_rfl) (fun _ _ _ h => h) (Or.inl ⟨by rfl, fun W hSw => by obtain ⟨q0, q1, q2, q3, q4, q5, q6, q7, q8, q9⟩ := Blk.ten hSw; go_simp⟩) HS1 ?_
  simp only [ap, List.set]
  refine wpAnyG_takeD (i := 3) (d := 6) (.pointer (some ⟨w.heap.size, 8, none⟩)) rfl rfl (by kernel_rfl) (by kernel_rfl) (by kernel_rfl) (by kernel_rfl) (by kernel_rfl) (by kernel_rfl) (fun _ _ _ h => h) (Or.inl ⟨by rfl, fun W hSw => by go_simp⟩) HS1 ?_
  simp only [ap, List.set]
  refine wpAnyG_takeD (i := 4) (d := 7) (.agg #[.int .i64 t.b2, t.c2.val]) rfl rfl (by kernel_rfl) (by kernel_rfl) (by kernel_rfl) (by kernel_rfl) (by kernel_rfl) (by kernel_rfl) (fun _ _ _ h => h) (Or.inl ⟨by rfl, fun W hSw => by obtain ⟨q0, q1, q2, q3, q4, q5, q6, q7, q8, q9⟩ := Blk.ten hSw; go_simp⟩) HS1 ?_
  simp only [ap, List.set]
  refine wpAnyG_takeD (i := 6) (d := 9) (.pointer (some ⟨w.heap.size, 7, none⟩)) rfl rfl (by kernel_rfl) (by kernel_rfl) (by kernel_rfl) (by kernel_rfl) (by kernel_rfl) (by kernel_rfl) (fun _ _ _ h => h) (Or.inl ⟨by rfl, fun W hSw => by go_simp⟩) HS1 ?_
  simp only [ap, List.set]
  refine wpAnyG_takeD (i := 7) (d := 10) (t.own.val) rfl rfl (by kernel_rfl) (by kernel_rfl) (by kernel_rfl) (by kernel_rfl) (by kernel_rfl) (by kernel_rfl) (fun _ _ _ h => h) (Or.inl ⟨by rfl, fun W hSw => by obtain ⟨q0, q1, q2, q3, q4, q5, q6, q7, q8, q9⟩ := Blk.ten hSw; go_simp⟩) HS1 ?_
  simp only [ap, List.set]
  refine wpAnyG_takeD (i := 9) (d := 12) (.pointer (some ⟨w.heap.size, 6, none⟩)) rfl rfl (by kernel_rfl) (by kernel_rfl) (by kernel_rfl) (by kernel_rfl) (by kernel_rfl) (by kernel_rfl) (fun _ _ _ h => h) (Or.inl ⟨by rfl, fun W hSw => by go_simp⟩) HS1 ?_
  simp only [ap, List.set]
  refine wpAnyG_takeD (i := 10) (d := 13) (t.items.val) rfl rfl (by kernel_rfl) (by kernel_rfl) (by kernel_rfl) (by kernel_rfl) (by kernel_rfl) (by kernel_rfl) (fun _ _ _ h => h) (Or.inl ⟨by rfl, fun W hSw => by obtain ⟨q0, q1, q2, q3, q4, q5, q6, q7, q8, q9⟩ := Blk.ten hSw; go_simp⟩) HS1 ?_
  simp only [ap, List.set]
  refine wpAnyG_one (i := 2) (by kernel_rfl) rfl ?_
  intro K hK
  refine step_call1g (by rfl) 36 _ _ (by rfl) EG _ (by rfl) (some 5) (by rfl) _ (PA.out _ V0.out) ?_
  rintro v w1 ⟨d1, rfl, s1, n1, h1⟩
  refine hK.out _ _ (fun _ => Blk.below HS1 h1) ?_
  have V1 := hid (then_ V0.out h1)
  have HS2 : (fun W => Blk W w.heap.size (.cells #[.int .i64 t.id, .int .i64 t.kind, .int .i64 t.up, .int .i64 t.b1, t.c1.val, .string t.data, t.items.val, t.own.val, .int .i64 t.b2, t.c2.val] 38)) w1 := Blk.below HS1 h1
  clear hK K HS1
  try simp only [ap, List.set]
  refine wpAnyG_takeD (i := 12) (d := 15) (.pointer (some ⟨w.heap.size, 3, none⟩)) rfl rfl (by kernel_rfl) (by kernel_rfl) (by kernel_rfl) (by kernel_rfl) (by kernel_rfl) (by kernel_rfl) (fun _ _ _ h => h) (Or.inl ⟨by rfl, fun W hSw => by go_simp⟩) HS2 ?_
  simp only [ap, List.set]
  refine wpAnyG_one (i := 5) (by kernel_rfl) rfl ?_
  intro K hK
  refine step_call1g (by rfl) 36 _ _ (by rfl) EG _ (by rfl) (some 8) (by rfl) _ (PB.out _ V1.out) ?_
  rintro v w2 ⟨d2, rfl, s2, n2, h2⟩
  refine hK.out _ _ (fun _ => Blk.below HS2 h2) ?_
  have V2 := hid (then_ V1.out h2)
  have HS3 : (fun W => Blk W w.heap.size (.cells #[.int .i64 t.id, .int .i64 t.kind, .int .i64 t.up, .int .i64 t.b1, t.c1.val, .string t.data, t.items.val, t.own.val, .int .i64 t.b2, t.c2.val] 38)) w2 := Blk.below HS2 h2
  clear hK K HS2
  try simp only [ap, List.set]
  refine wpAnyG_one (i := 8) (by kernel_rfl) rfl ?_
  intro K hK
  refine step_call1g (by rfl) 37 _ _ (by rfl) EH _ (by rfl) (some 11) (by rfl) _ (PC.out _ V2.out) ?_
  rintro v w3 ⟨d3, rfl, s3, n3, h3⟩
  refine hK.out _ _ (fun _ => Blk.below HS3 h3) ?_
  have V3 := hid (then_ V2.out h3)
  have HS4 : (fun W => Blk W w.heap.size (.cells #[.int .i64 t.id, .int .i64 t.kind, .int .i64 t.up, .int .i64 t.b1, t.c1.val, .string t.data, t.items.val, t.own.val, .int .i64 t.b2, t.c2.val] 38)) w3 := Blk.below HS3 h3
  clear hK K HS3
  try simp only [ap, List.set]
  refine wpAnyG_one (i := 11) (by kernel_rfl) rfl ?_
  intro K hK
  refine step_call1g (by rfl) 38 _ _ (by rfl) EI _ (by rfl) (some 14) (by rfl) _ (PD.out _ V3.out) ?_
  rintro v w4 ⟨d4, rfl, s4, n4, h4⟩
  refine hK.out _ _ (fun _ => Blk.below HS4 h4) ?_
  have V4 := hid (then_ V3.out h4)
  have HS5 : (fun W => Blk W w.heap.size (.cells #[.int .i64 t.id, .int .i64 t.kind, .int .i64 t.up, .int .i64 t.b1, t.c1.val, .string t.data, t.items.val, t.own.val, .int .i64 t.b2, t.c2.val] 38)) w4 := Blk.below HS4 h4
  clear hK K HS4
  try simp only [ap, List.set]
  unfold CatL.val IntL.val StrL.val
  obtain ⟨g0, g1, g2, g3, g4, g5, g6, g7, g8, g9⟩ := Blk.ten HS5
  have gf := Blk.warm HS5
  simp only [CatL.val, IntL.val, StrL.val] at g4 g6 g7 g9
  refine wpAnyG_one (i := 13) (by kernel_rfl) rfl ?_
  intro K hK
  go_simp
  refine hK.out _ _ (fun h => absurd h (by decide)) ?_
  clear hK K
  try simp only [ap, List.set]
  refine wpAnyG_one (i := 14) (by kernel_rfl) rfl ?_
  intro K hK
  go_simp
  refine hK.out _ _ (fun h => absurd h (by decide)) ?_
  clear hK K
  try simp only [ap, List.set]
  refine wpAnyG_one (i := 15) (by kernel_rfl) rfl ?_
  intro K hK
  go_simp
  refine hK.out _ _ (fun h => absurd h (by decide)) ?_
  clear hK K
  try simp only [ap, List.set]
  refine wpAnyG_one (i := 16) (by kernel_rfl) rfl ?_
  intro K hK
  go_simp
  refine hK.out _ _ (fun h => absurd h (by decide)) ?_
  clear hK K
  try simp only [ap, List.set]
  refine wpAnyG_one (i := 17) (by kernel_rfl) rfl ?_
  intro K hK
  go_simp
  refine hK.out _ _ (fun h => absurd h (by decide)) ?_
  clear hK K
  try simp only [ap, List.set]
  refine wpAnyG_one (i := 18) (by kernel_rfl) rfl ?_
  intro K hK
  go_simp
  refine hK.out _ _ (fun h => absurd h (by decide)) ?_
  clear hK K
  try simp only [ap, List.set]
  refine wpAnyG_one (i := 19) (by kernel_rfl) rfl ?_
  intro K hK
  go_simp
  refine hK.out _ _ (fun h => absurd h (by decide)) ?_
  clear hK K
  try simp only [ap, List.set]
  refine wpAnyG_done (by kernel_rfl) ?_ _
  have A3 := hid HS5
  have R3 : Hid (Blk w4 (w.heap.size + 1) _) := hid (R0'.out.below V4.out)
  have N1 := hid (((n1.below h2).below h3).below h4)
  have N2 := hid ((n2.below h3).below h4)
  have N3 := hid (n3.below h4)
  have N4 := hid n4
  have S1 := hid s1
  have S2 := hid s2
  have S3 := hid s3
  have S4 := hid s4
  have AP : Hid (∀ b b', d1.a = some ⟨b, 0, none⟩ → 0 < d1.n → d2.a = some ⟨b', 0, none⟩ → 0 < d2.n → b ≠ b') := hid (fun b b' e1 p1 e2 p2 => by
    obtain ⟨c, _, _, q1, _, _, q2⟩ := n1.2 p1
    obtain ⟨c', _, _, q3, q4, _⟩ := n2.2 p2
    rw [e1] at q1
    rw [e2] at q3
    cases q1
    cases q3
    have := q2.lt
    omega)
  have B3 := hid (then_ B0.out V4.out)
  have L0 := hid (show w.heap.size ≤ V.drew.heap.size from B0.out.size)
  have L1 := hid (Nat.le_trans L0.out h1.size)
  have L2 := hid (Nat.le_trans L1.out h2.size)
  have L3 := hid (Nat.le_trans L2.out h3.size)
  obtain ⟨r0, r1, r2, r3, r4, r5, r6, r7, r8, r9⟩ := R3.out.ten
  have rf := R3.out.warm
  have ne1 : ¬ w.heap.size + 1 = w.heap.size := by omega
  have ne2 : ¬ w.heap.size = w.heap.size + 1 := by omega
  clear h1 h2 h3 h4 n1 n2 n3 n4 s1 s2 s3 s4 x0 x1 x2 x3 x4 x5 x6 x7 x8 x9 PA PB PC PD EG EH EI V0 V1 V2 V3 V4 Ad HS5
  go_wp2
  refine bodyPost_ret (results48 _ _ (w.heap.size + 1) (.int .i64 t.id) (.int .i64 t.kind) (.int .i64 t.up) (.int .i64 t.b1) (.slice d1.a d1.n d1.k) (.string t.data) (.slice d4.a d4.n d4.k) (.slice d3.a d3.n d3.k) (.int .i64 t.b2) (.slice d2.a d2.n d2.k) (Blk.all10 ((((((R3.out.other (by omega) _).other (by omega) _).other (by omega) _).other (by omega) _).other (by omega) _).other (by omega) _) _ _ _ _ _ _ _ _ _ _) rfl) rfl ⟨⟨t.id, t.kind, t.up, t.b1, d1, t.data, d4, d3, t.b2, d2⟩, rfl, ⟨rfl, rfl, rfl, rfl, S1.out, rfl, S4.out, S3.out, rfl, S2.out⟩, ⟨?_, ?_, ?_, ?_⟩, AP.out, ?_⟩
  · refine (N1.out.low L0.out).of (by simp) (fun g hg hn' => ?_)
    have q1 := N1.out.ne A3.out (by decide) g hg hn'
    have q2 := N1.out.ne R3.out (by decide) g hg hn'
    iterate 16 rw [blk_setCell_other _ _ _ _ (by dsimp only; omega)]
  · refine (N4.out.low L3.out).of (by simp) (fun g hg hn' => ?_)
    have q1 := N4.out.ne A3.out (by decide) g hg hn'
    have q2 := N4.out.ne R3.out (by decide) g hg hn'
    iterate 16 rw [blk_setCell_other _ _ _ _ (by dsimp only; omega)]
  · refine (N3.out.low L2.out).of (by simp) (fun g hg hn' => ?_)
    have q1 := N3.out.ne A3.out (by decide) g hg hn'
    have q2 := N3.out.ne R3.out (by decide) g hg hn'
    iterate 16 rw [blk_setCell_other _ _ _ _ (by dsimp only; omega)]
  · refine (N2.out.low L1.out).of (by simp) (fun g hg hn' => ?_)
    have q1 := N2.out.ne A3.out (by decide) g hg hn'
    have q2 := N2.out.ne R3.out (by decide) g hg hn'
    iterate 16 rw [blk_setCell_other _ _ _ _ (by dsimp only; omega)]
  · iterate 16 refine Below.setCell ?_ (by dsimp only; omega) _
    exact B3.out
end Go.Proofs.Ytkoinmddcnnipaa
