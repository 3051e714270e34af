/- Copies that the program makes: threads. -/
import Derived.Test.YtimacbpfnkephaaKX2
import Derived.Shelf.Abstract
namespace Go.Proofs.Ytimacbpfnkephaa
open Go Go.RowKit Go.Deep Go.Maps Go.BigFrame Go.Shelf

theorem step_call {ops : Array Oper} {o : Oper} {a : Act} {w : World} {K : Act → World → Prop} {Q : Exit → Act → World → Prop} {E : Prop} (hgd : o.guard = none) (f : Nat) (x : Operand) (ats : Array TypeId)
    (ho : o.op = .call { callee := .value (.func f), args := #[x], argTypes := ats }) (eg : ∀ args w, (callFunc f args).run Try.prog w = .ok (.enter f args) w) (v0 : Value) (hv : a.eval x = v0)
    (R : Value → World → Prop) (hc : Calls Try.prog f #[v0] w fun e w' => ∃ v, e = .returned v ∧ R v w') (h : ∀ v w', R v w' → K (a.put o.dst v) w') :
    if Region.wanted o (yielded ops a.tmps) = true then Oper.wp Try.prog o a w K Q else E := by
  have hw : Region.wanted o (yielded ops a.tmps) = true := by simp [Region.wanted, hgd]
  rw [if_pos hw]
  have e : (execOp a.eval o).run Try.prog w = .ok (.enter f #[v0]) w := by
    unfold execOp
    simp only [ho, resolve, invoke, Sem.run_bind, List.map_toArray, List.map_cons, List.map_nil, hv]
    simp [go_sem, eg, Act.eval]
  unfold Oper.wp
  rw [e, Oper.upon_enter]
  exact hc.mono fun e w' ⟨v, he, hr⟩ => by subst he; exact h v w' hr

/-- a thread that a call made -/
def ThrV.new (B : Nat) (w : World) (t : ThrV) : Prop := t.c1.new B w ∧ t.c2.new B w ∧ t.own.new B w
def ThrV.apart (t : ThrV) : Prop := ∀ b b', t.c1.a = some ⟨b, 0, none⟩ → 0 < t.c1.n → t.c2.a = some ⟨b', 0, none⟩ → 0 < t.c2.n → b ≠ b'
theorem Blk.seven {W : World} {P t : Nat} {x0 x1 x2 x3 x4 x5 x6 : Value} (h : Blk W P (.cells #[x0, x1, x2, x3, x4, x5, x6] t)) : W.cell? ⟨P, 0, none⟩ = some x0 ∧ W.cell? ⟨P, 1, none⟩ = some x1 ∧ W.cell? ⟨P, 2, none⟩ = some x2 ∧ W.cell? ⟨P, 3, none⟩ = some x3 ∧ W.cell? ⟨P, 4, none⟩ = some x4 ∧ W.cell? ⟨P, 5, none⟩ = some x5 ∧ W.cell? ⟨P, 6, none⟩ = some x6 := by
  unfold Blk at h
  simp [World.cell?, h]

theorem results59 (tmps : Array Value) (W : World) (P : Nat) (x0 x1 x2 x3 x4 x5 x6 : Value) (h : Blk W P (.cells #[x0, x1, x2, x3, x4, x5, x6] 41)) (h2 : tmps[2]? = some (.pointer (some ⟨P, 0, none⟩))) :
    (results Try.f18 tmps).run Try.prog W = .ok (.agg #[x0, x1, x2, x3, x4, x5, x6]) W := by
  obtain ⟨z0, z1, z2, z3, z4, z5, z6⟩ := h.seven
  simp [results, Try.results18, go_sem, h2, z0, z1, z2, z3, z4, z5, z6]
theorem Blk.all7 {W : World} {P t : Nat} {z0 z1 z2 z3 z4 z5 z6 : Value} (h : Blk W P (.cells #[z0, z1, z2, z3, z4, z5, z6] t)) (x0 x1 x2 x3 x4 x5 x6 : Value) :
    Blk (((((((W.setCell ⟨P, 0, none⟩ x0).setCell ⟨P, 1, none⟩ x1).setCell ⟨P, 2, none⟩ x2).setCell ⟨P, 3, none⟩ x3).setCell ⟨P, 4, none⟩ x4).setCell ⟨P, 5, none⟩ x5).setCell ⟨P, 6, none⟩ x6) P (.cells #[x0, x1, x2, x3, x4, x5, x6] t) := by
  have h0 : Blk (W.setCell ⟨P, 0, none⟩ x0) P (.cells #[x0, z1, z2, z3, z4, z5, z6] t) := h.setAt (i := 0) x0
  have h1 : Blk ((W.setCell ⟨P, 0, none⟩ x0).setCell ⟨P, 1, none⟩ x1) P (.cells #[x0, x1, z2, z3, z4, z5, z6] t) := h0.setAt (i := 1) x1
  have h2 : Blk (((W.setCell ⟨P, 0, none⟩ x0).setCell ⟨P, 1, none⟩ x1).setCell ⟨P, 2, none⟩ x2) P (.cells #[x0, x1, x2, z3, z4, z5, z6] t) := h1.setAt (i := 2) x2
  have h3 : Blk ((((W.setCell ⟨P, 0, none⟩ x0).setCell ⟨P, 1, none⟩ x1).setCell ⟨P, 2, none⟩ x2).setCell ⟨P, 3, none⟩ x3) P (.cells #[x0, x1, x2, x3, z4, z5, z6] t) := h2.setAt (i := 3) x3
  have h4 : Blk (((((W.setCell ⟨P, 0, none⟩ x0).setCell ⟨P, 1, none⟩ x1).setCell ⟨P, 2, none⟩ x2).setCell ⟨P, 3, none⟩ x3).setCell ⟨P, 4, none⟩ x4) P (.cells #[x0, x1, x2, x3, x4, z5, z6] t) := h3.setAt (i := 4) x4
  have h5 : Blk ((((((W.setCell ⟨P, 0, none⟩ x0).setCell ⟨P, 1, none⟩ x1).setCell ⟨P, 2, none⟩ x2).setCell ⟨P, 3, none⟩ x3).setCell ⟨P, 4, none⟩ x4).setCell ⟨P, 5, none⟩ x5) P (.cells #[x0, x1, x2, x3, x4, x5, z6] t) := h4.setAt (i := 5) x5
  exact h5.setAt (i := 6) x6

set_option maxRecDepth 100000 in
set_option maxHeartbeats 8000000 in
theorem copiedThread_any (t : ThrV) (w : World) (ht : t.at w) (hs : t.small) :
    Calls Try.prog 18 #[t.val] w fun e w' => ∃ u : ThrV, e = .returned u.val ∧ t.same u ∧ u.new w.heap.size w' ∧ u.apart ∧ Below w.heap.size w w' := by
  have EG : ∀ args w, (callFunc 28 args).run Try.prog w = .ok (.enter 28 args) w := enters_of Try.func28 (by kernel_rfl) rfl
  have EH : ∀ args w, (callFunc 29 args).run Try.prog w = .ok (.enter 29 args) w := enters_of Try.func29 (by kernel_rfl) rfl
  have b0 : Below w.heap.size w ((w.alloc t.blk).alloc (.cells #[.int .i64 0, .int .i64 0, .slice none 0 0, .int .i64 0, .slice none 0 0, .slice none 0 0, .int .i64 0] 41)) := ((Below.refl _ w).alloc (Nat.le_refl _) _).alloc (by simp) _
  have A0 := (Blk.new w t.blk).alloc (.cells #[.int .i64 0, .int .i64 0, .slice none 0 0, .int .i64 0, .slice none 0 0, .slice none 0 0, .int .i64 0] 41)
  have R0 : Blk ((w.alloc t.blk).alloc (.cells #[.int .i64 0, .int .i64 0, .slice none 0 0, .int .i64 0, .slice none 0 0, .slice none 0 0, .int .i64 0] 41)) (w.heap.size + 1) (.cells #[.int .i64 0, .int .i64 0, .slice none 0 0, .int .i64 0, .slice none 0 0, .slice none 0 0, .int .i64 0] 41) := by
    have := Blk.new (w.alloc t.blk) (.cells #[.int .i64 0, .int .i64 0, .slice none 0 0, .int .i64 0, .slice none 0 0, .slice none 0 0, .int .i64 0] 41)
    simpa using this
  have T0 := hid (ht.below b0)
  unfold ThrV.blk at b0 A0 R0 T0
  unfold ThrV.val
  obtain ⟨x0, x1, x2, x3, x4, x5, x6⟩ := A0.seven
  obtain ⟨m1, m2, m3⟩ := hs
  clear ht
  go_enter Try.func18, Try.ntmps18
  go_wp2
  generalize hV : ((w.alloc (.cells #[.int .i64 t.id, .int .i64 t.b1, t.c1.val, .int .i64 t.b2, t.c2.val, t.own.val, .int .i64 t.made] 41)).alloc (.cells #[.int .i64 0, .int .i64 0, .slice none 0 0, .int .i64 0, .slice none 0 0, .slice none 0 0, .int .i64 0] 41)) = V at *
  have B0 := hid b0
  have A0' := hid A0
  have R0' := hid R0
  have PA : Hid (∀ W, Below V.heap.size V W → Calls Try.prog 28 #[.agg #[.int .i64 t.b1, t.c1.val]] W fun e w' => ∃ v, e = .returned v ∧ ∃ d : CatL, v = .agg #[.int .i64 t.b1, d.val] ∧ t.c1.same d ∧ d.new W.heap.size w' ∧ Below W.heap.size W w') := hid (fun W hW => (copiedLabel_any t.b1 t.c1 W (T0.out.below hW).1 m1).mono fun e w' ⟨d, h1, h2, h3, h4⟩ => ⟨_, h1, d, rfl, h2, h3, h4⟩)
  have PB : Hid (∀ W, Below V.heap.size V W → Calls Try.prog 28 #[.agg #[.int .i64 t.b2, t.c2.val]] W fun e w' => ∃ v, e = .returned v ∧ ∃ d : CatL, v = .agg #[.int .i64 t.b2, d.val] ∧ t.c2.same d ∧ d.new W.heap.size w' ∧ Below W.heap.size W w') := hid (fun W hW => (copiedLabel_any t.b2 t.c2 W (T0.out.below hW).2.1 m2).mono fun e w' ⟨d, h1, h2, h3, h4⟩ => ⟨_, h1, d, rfl, h2, h3, h4⟩)
  have PC : Hid (∀ W, Below V.heap.size V W → Calls Try.prog 29 #[t.own.val] W fun e w' => ∃ v, e = .returned v ∧ ∃ d : IntL, v = d.val ∧ t.own.same d ∧ d.new W.heap.size w' ∧ Below W.heap.size W w') := hid (fun W hW => (copiedInt_any t.own W (T0.out.below hW).2.2 m3).mono fun e w' ⟨d, h1, h2, h3, h4⟩ => ⟨_, h1, d, rfl, h2, h3, h4⟩)
  have V0 : Hid (Below V.heap.size V V.drew) := hid (Below.refl _ V).drew
  have Ad : Hid (Blk V.drew w.heap.size (.cells #[.int .i64 t.id, .int .i64 t.b1, t.c1.val, .int .i64 t.b2, t.c2.val, t.own.val, .int .i64 t.made] 41)) := hid A0
  clear hV b0 A0 R0
  have mk1 : True := trivial
  have mk2 : True := trivial
  go_region_law (first
    | (clear mk1; refine step_call (by rfl) 28 _ _ (by rfl) EG _ (by rfl) _ (PA.out _ V0.out) ?_; rintro v w1 ⟨d1, rfl, s1, n1, h1⟩; have V1 := hid (then_ V0.out h1); obtain ⟨e0, e1, e2, e3, e4, e5, e6⟩ := (Ad.out.below h1).seven)
    | (clear mk2; refine step_call (by rfl) 28 _ _ (by rfl) EG _ (by rfl) _ (PB.out _ V1.out) ?_; rintro v w2 ⟨d2, rfl, s2, n2, h2⟩; have V2 := hid (then_ V1.out h2); obtain ⟨f0, f1, f2, f3, f4, f5, f6⟩ := ((Ad.out.below h1).below h2).seven)
    | (refine step_call (by rfl) 29 _ _ (by rfl) EH _ (by rfl) _ (PC.out _ V2.out) ?_; rintro v w3 ⟨d3, rfl, s3, n3, h3⟩; have V3 := hid (then_ V2.out h3); unfold CatL.val IntL.val; obtain ⟨g0, g1, g2, g3, g4, g5, g6⟩ := (((Ad.out.below h1).below h2).below h3).seven; have gf := (((Ad.out.below h1).below h2).below h3).warm))
  all_goals (
    have A3 := hid (((Ad.out.below h1).below h2).below h3)
    have R3 : Hid (Blk w3 (w.heap.size + 1) _) := hid (R0'.out.below V3.out)
    have N1 := hid ((n1.below h2).below h3)
    have N2 := hid (n2.below h3)
    have N3 := hid n3
    have S1 := hid s1
    have S2 := hid s2
    have S3 := hid s3
    have AP : Hid (∀ b b', d1.a = some ⟨b, 0, none⟩ → 0 < d1.n → d2.a = some ⟨b', 0, none⟩ → 0 < d2.n → b ≠ b') := hid (fun b b' e1 p1 e2 p2 => by
      obtain ⟨c, _, _, q1, _, _, q2⟩ := n1.2 p1
      obtain ⟨c', _, _, q3, q4, _⟩ := n2.2 p2
      rw [e1] at q1
      rw [e2] at q3
      cases q1
      cases q3
      have := q2.lt
      omega)
    have B3 := hid (then_ B0.out V3.out)
    have L0 := hid (show w.heap.size ≤ V.drew.heap.size from B0.out.size)
    have L1 := hid (Nat.le_trans L0.out h1.size)
    have L2 := hid (Nat.le_trans L1.out h2.size)
    obtain ⟨r0, r1, r2, r3, r4, r5, r6⟩ := R3.out.seven
    have rf := R3.out.warm
    have ne1 : ¬ w.heap.size + 1 = w.heap.size := by omega
    have ne2 : ¬ w.heap.size = w.heap.size + 1 := by omega
    clear h1 h2 h3 n1 n2 n3 s1 s2 s3 e0 e1 e2 e3 e4 e5 e6 f0 f1 f2 f3 f4 f5 f6 x0 x1 x2 x3 x4 x5 x6 PA PB PC EG EH V0 V1 V2 V3 Ad
    simp only [CatL.val, IntL.val] at g2 g4 g5
    go_wp2
    refine bodyPost_ret (results59 _ _ (w.heap.size + 1) (.int .i64 t.id) (.int .i64 t.b1) (.slice d1.a d1.n d1.k) (.int .i64 t.b2) (.slice d2.a d2.n d2.k) (.slice d3.a d3.n d3.k) (.int .i64 t.made) (Blk.all7 (((((R3.out.other (by omega) _).other (by omega) _).other (by omega) _).other (by omega) _).other (by omega) _) _ _ _ _ _ _ _) rfl) rfl ⟨⟨t.id, t.b1, d1, t.b2, d2, d3, t.made⟩, rfl, ⟨rfl, rfl, S1.out, rfl, S2.out, S3.out, rfl⟩, ⟨?_, ?_, ?_⟩, AP.out, ?_⟩
    · refine (N1.out.low L0.out).of (by simp) (fun g hg hn' => ?_)
      have q1 := N1.out.ne A3.out (by decide) g hg hn'
      have q2 := N1.out.ne R3.out (by decide) g hg hn'
      iterate 12 rw [blk_setCell_other _ _ _ _ (by dsimp only; omega)]
    · refine (N2.out.low L1.out).of (by simp) (fun g hg hn' => ?_)
      have q1 := N2.out.ne A3.out (by decide) g hg hn'
      have q2 := N2.out.ne R3.out (by decide) g hg hn'
      iterate 12 rw [blk_setCell_other _ _ _ _ (by dsimp only; omega)]
    · refine (N3.out.low L2.out).of (by simp) (fun g hg hn' => ?_)
      have q1 := N3.out.ne A3.out (by decide) g hg hn'
      have q2 := N3.out.ne R3.out (by decide) g hg hn'
      iterate 12 rw [blk_setCell_other _ _ _ _ (by dsimp only; omega)]
    · iterate 12 refine Below.setCell ?_ (by dsimp only; omega) _
      exact B3.out)
end Go.Proofs.Ytimacbpfnkephaa
