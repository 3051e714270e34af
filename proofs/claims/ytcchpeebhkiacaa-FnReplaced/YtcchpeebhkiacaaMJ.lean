/- An op done to a right disk, the program: doneTo; Do, both sides. -/
import Derived.Test.YtcchpeebhkiacaaMI
namespace Go.Proofs.Ytcchpeebhkiacaa
open Go Go.RowKit Go.Deep Go.Maps Go.BigFrame Go.Shelf

theorem step_call {ops : Array Oper} {o : Oper} {a : Act} {w : World} {K : Act → World → Prop} {Q : Exit → Act → World → Prop} {E : Prop} (hgd : o.guard = none) (f : Nat) (x : Operand) (ats : Array TypeId)
    (ho : o.op = .call { callee := .value (.func f), args := #[x], argTypes := ats }) (eg : ∀ args w, (callFunc f args).run Try.prog w = .ok (.enter f args) w) (v0 : Value) (hv : a.eval x = v0)
    (R : Value → World → Prop) (hc : Calls Try.prog f #[v0] w fun e w' => ∃ v, e = .returned v ∧ R v w') (h : ∀ v w', R v w' → K (a.put o.dst v) w') :
    if Region.wanted o (yielded ops a.tmps) = true then Oper.wp Try.prog o a w K Q else E := by
  have hw : Region.wanted o (yielded ops a.tmps) = true := by simp [Region.wanted, hgd]
  rw [if_pos hw]
  have e : (execOp a.eval o).run Try.prog w = .ok (.enter f #[v0]) w := by
    unfold execOp
    simp only [ho, resolve, invoke, Sem.run_bind, List.map_toArray, List.map_cons, List.map_nil, hv]
    simp [go_sem, eg, Act.eval]
  unfold Oper.wp
  rw [e, Oper.upon_enter]
  exact hc.mono fun e w' ⟨v, he, hr⟩ => by subst he; exact h v w' hr
theorem step_append_z {ops : Array Oper} {oo : Oper} {a : Act} {w : World} {K : Act → World → Prop} {Q : Exit → Act → World → Prop} {E : Prop} (hgd : oo.guard = none) (s x : Operand)
    (ho : oo.op = .call { callee := .builtin .append, args := #[s, x], argTypes := #[25, 25] })
    (B : Nat) (v : Value) (l : List OpV) (hs : a.eval s = v) (hown : ZO w B v l) (ad : Option Addr) (c : Nat) (o : OpV) (hx : a.eval x = .slice ad 1 c) (hc : OplL w ad [o]) (hn : l.length ≤ 1048576) (hB : B ≤ w.heap.size)
    (h : ∀ a' c' w', OwnO w' B (.slice a' (l.length + 1) c') (l ++ [o]) → KeepsR w w' → Below B w w' → K (a.put oo.dst (.slice a' (l.length + 1) c')) w') :
    if Region.wanted oo (yielded ops a.tmps) = true then Oper.wp Try.prog oo a w K Q else E := by
  have hw : Region.wanted oo (yielded ops a.tmps) = true := by simp [Region.wanted, hgd]
  rw [if_pos hw]
  obtain ⟨a', c', w', hr, h2, h3, h4⟩ := run_append_z w oo.type B v l hown ad c o hc hn hB
  unfold Oper.wp execOp
  simp only [ho, resolve, invoke, builtin, Sem.run_bind, Sem.run_pure, Result.andThen_ok, List.map_toArray, List.map_cons, List.map_nil, hs, hx, hr]
  exact h a' c' w' h2 h3 h4
theorem filesEnter : ∀ args w, (callFunc 26 args).run Try.prog w = .ok (.enter 26 args) w := enters_of Try.func26 (by kernel_rfl) rfl
theorem step_files {ops : Array Oper} {o : Oper} {a : Act} {w : World} {K : Act → World → Prop} {Q : Exit → Act → World → Prop} {E : Prop} (hgd : o.guard = none) (x : Operand) (ats : Array TypeId)
    (ho : o.op = .call { callee := .value (.func 26), args := #[x], argTypes := ats }) (c : Nat) (hv : a.eval x = .map (some c)) (V : World) (L : List FileV)
    (hc : ∀ W, Below V.heap.size V W → Calls Try.prog 26 #[.map (some c)] W fun e w' => ∃ v, e = .returned v ∧ OwnF w' W.heap.size v L ∧ Below W.heap.size W w') (hV : Below V.heap.size V w)
    (h : ∀ a' k' w', OwnF w' w.heap.size (.slice a' L.length k') L → Below w.heap.size w w' → K (a.put o.dst (.slice a' L.length k')) w') :
    if Region.wanted o (yielded ops a.tmps) = true then Oper.wp Try.prog o a w K Q else E :=
  step_call hgd 26 x ats ho filesEnter _ hv (fun v w' => OwnF w' w.heap.size v L ∧ Below w.heap.size w w') (hc w hV) (fun v w' hh => by
    obtain ⟨a', k', rfl⟩ := ownsRow_shape hh.1
    exact h a' k' w' hh.1 hh.2)
theorem OwnF.baseR {w : World} {B B' : Nat} {v : Value} {l : List FileV} (h : OwnF w B v l) (hB : B' ≤ B) : OwnF w B' v l := own_base h hB
theorem OplL.below {w w' : World} {ad : Option Addr} {l : List OpV} (h : OplL w ad l) (hb : Below w.heap.size w w') : OplL w' ad l := LiesC.below h hb
theorem AnsI.keeps {w w' : World} {B : Nat} {vl vs vo : Value} {L S : List FileV} {O : List OpV} (h : AnsI w B vl vs vo L S O) (hk : KeepsR w w') : OwnF w' B vl L ∧ OwnF w' B vs S := ⟨hk.ownF h.l, hk.ownF h.s⟩
/-- what doneOn says to a disk that is right -/
theorem okL_small {l : FileL} (h : fsOk l.n l.f = true) : l.n ≤ 60 := fsOk_len h

set_option maxRecDepth 100000 in
set_option maxHeartbeats 16000000 in
theorem doneTo_any (d : DiskV) (o : OpV) (w : World) (hd : d.at w) (hs : d.small) (hok : fsOk d.live.n d.live.f = true) (ho : o.wf) (hz : o.data.size ≤ 1048576) :
    Calls Try.prog 36 #[d.val, o.val] w fun e w' => ∃ vl vs vo, e = .returned (.tuple #[.agg #[vl, vs, vo], .int .i64 (actC d o)]) ∧ AnsI w' w.heap.size vl vs vo (actL d o) d.safe.toL (actO d o) ∧ Below w.heap.size w w' := by
  obtain ⟨A0, O0, R0, b0⟩ := three_boxes w (.cells #[.slice d.live.a d.live.n d.live.k, .slice d.safe.a d.safe.n d.safe.k, .slice d.ops.a d.ops.n d.ops.k] 27) (.cells #[.int .i64 o.kind, .string o.name, .string o.to, .string o.data] 36) (.cells #[.slice none 0 0, .slice none 0 0, .slice none 0 0] 27)
  have HD := hid hd
  have HOW := hid ho
  have OKL : Hid (okL d.live.toL = true) := hid (by rw [okL_toL]; exact hok)
  have MW : Hid (∀ x ∈ d.live.toL, x.wf) := hid (fun x hx => by obtain ⟨i, hi, rfl⟩ := toL_mem hx; exact hd.1.2.2 i hi)
  have NW := hid (doF_wf OKL.out MW.out HOW.out hz)
  have n60 : d.live.n ≤ 60 := fsOk_len hok
  have CS : Hid (∀ W, Below w.heap.size w W → Calls Try.prog 23 #[.slice d.live.a d.live.n d.live.k] W fun e w' => ∃ c, e = .returned (.map (some c)) ∧ SL w' W.heap.size c d.live.n 1 d.live.toL ∧ Below W.heap.size W w') := hid (fun W hW => shelfOf_L d.live W (HD.out.1.below hW) hok)
  have CC : Hid (∀ W, Below w.heap.size w W → Calls Try.prog 42 #[.agg #[.slice d.live.a d.live.n d.live.k, .slice d.safe.a d.safe.n d.safe.k, .slice d.ops.a d.ops.n d.ops.k]] W fun e w' => ∃ vl vs vo, e = .returned (.agg #[vl, vs, vo]) ∧ AnsI w' W.heap.size vl vs vo d.live.toL d.safe.toL d.ops.toL ∧ Below W.heap.size W w') := hid (fun W hW => copiedDisk_any d W (HD.out.below hW) hs)
  have n2 := hs.2.2
  unfold DiskV.val OpV.val
  obtain ⟨x0, x1, x2⟩ := A0.three
  obtain ⟨y0, y1, y2, y3⟩ := O0.four
  clear hd hs hok ho
  go_enter Try.func36, Try.ntmps36
  go_wp2_with fail
  refine (CS.out _ b0).mono ?_
  rintro e w1 ⟨c, rfl, hS, hb⟩
  have lR0 := R0.lt
  have A1 := A0.below hb
  have O1 := O0.below hb
  have R1 := R0.below hb
  have B1 := then_ b0 hb
  obtain ⟨B, hB⟩ : ∃ B, B = (((w.alloc (.cells #[.slice d.live.a d.live.n d.live.k, .slice d.safe.a d.safe.n d.safe.k, .slice d.ops.a d.ops.n d.ops.k] 27)).alloc (.cells #[.int .i64 o.kind, .string o.name, .string o.to, .string o.data] 36)).alloc (.cells #[.slice none 0 0, .slice none 0 0, .slice none 0 0] 27)).heap.size := ⟨_, rfl⟩
  rw [← hB] at hS lR0
  have bB : w.heap.size ≤ B := by rw [hB]; exact b0.size
  have BN := okL_bytes OKL.out
  have PD : Hid (PreD o w1 B c d.live.n 1 d.live.toL) := hid ⟨hS, neat_ok OKL.out, HOW.out, Nat.le_of_lt hS.lt, by unfold maxLen; omega, by omega, by omega, by omega⟩
  have CN := hid (doneOn_any o PD.out)
  unfold OpV.val at CN
  clear x0 x1 x2 y0 y1 y2 y3 A0 O0 R0 b0 hb hB hS
  obtain ⟨x0, x1, x2⟩ := A1.three
  obtain ⟨y0, y1, y2, y3⟩ := O1.four
  go_wp2_with fail
  refine CN.out.mono ?_
  rintro e w2 ⟨rfl, hS2, hb⟩
  have A2 := A1.under hb (by omega)
  have O2 := O1.under hb (by omega)
  have R2 := R1.under hb (by omega)
  have B2 : Below w.heap.size w w2 := B1.trans (hb.mono bB)
  have HS2 := hid hS2
  clear x0 x1 x2 y0 y1 y2 y3 A1 O1 R1 B1 hb hS2 CN
  obtain ⟨x0, x1, x2⟩ := A2.three
  obtain ⟨y0, y1, y2, y3⟩ := O2.four
  by_cases cd : codeL d.live.toL o = 0
  rotate_left
  · obtain ⟨k, hk⟩ : ∃ k, k = codeL d.live.toL o := ⟨_, rfl⟩
    have EC : Hid (actC d o = k) := hid (actC_not hk.symm (by rw [hk]; exact cd))
    have NZ : Hid (actC d o ≠ 0) := hid (by rw [EC.out, hk]; exact cd)
    rw [← hk] at cd ⊢
    clear HS2 hk
    go_wp2_with fail
    refine (CC.out _ B2).mono ?_
    rintro e w3 ⟨vl, vs, vo, rfl, hA, hb⟩
    obtain ⟨al, cl, rfl⟩ := ownsRow_shape hA.l
    obtain ⟨aq, cq, rfl⟩ := ownsRow_shape hA.s
    obtain ⟨ao, co, rfl⟩ := ownsRow_shape hA.o
    have R3 := R2.below hb
    have B3 := then_ B2 hb
    have ltR : w.heap.size + 1 + 1 < w3.heap.size := R3.lt
    have neR : ¬ w.heap.size + 1 + 1 = w3.heap.size := by omega
    have HA := hid (hA.base B2.size)
    have HR3 := hid R3
    have HB3 := hid B3
    clear hA hb x0 x1 x2 y0 y1 y2 y3 B3
    obtain ⟨r0, r1, r2⟩ := R3.three
    have rf := R3.warm
    clear R3
    go_wp2
    refine bodyPost_ret (two_results _ _ (w.heap.size + 1 + 1) _ _ _ (.int .i64 k) Try.results36 ((((HR3.out.setAt (i := 0) _).setAt (i := 1) _).setAt (i := 2) _).alloc _) rfl rfl) rfl ⟨_, _, _, by rw [EC.out], ?_, ?_⟩
    · rw [(actL_no NZ.out).1, (actL_no NZ.out).2]
      exact (HA.out.set3 HR3.out _ _ _).below ((Below.refl _ _).alloc (Nat.le_refl _) _)
    · refine Below.alloc ?_ (by simp only [nblk_setCell]; omega) _
      iterate 3 refine Below.setCell ?_ (by dsimp only; omega) _
      exact HB3.out
  have HS3 := hid (HS2.out cd)
  have CZ := hid cd
  rw [cd]
  clear HS2 cd
  by_cases t3 : d.ops.n = 200
  · have t3' : (d.ops.n : Int) = 200 := by omega
    have EC := hid (actC_full CZ.out t3)
    have NZ : Hid (actC d o ≠ 0) := hid (by rw [EC.out]; decide)
    clear t3
    go_wp2_with fail
    refine (CC.out _ B2).mono ?_
    rintro e w3 ⟨vl, vs, vo, rfl, hA, hb⟩
    obtain ⟨al, cl, rfl⟩ := ownsRow_shape hA.l
    obtain ⟨aq, cq, rfl⟩ := ownsRow_shape hA.s
    obtain ⟨ao, co, rfl⟩ := ownsRow_shape hA.o
    have R3 := R2.below hb
    have B3 := then_ B2 hb
    have ltR : w.heap.size + 1 + 1 < w3.heap.size := R3.lt
    have neR : ¬ w.heap.size + 1 + 1 = w3.heap.size := by omega
    have HA := hid (hA.base B2.size)
    have HR3 := hid R3
    have HB3 := hid B3
    clear hA hb x0 x1 x2 y0 y1 y2 y3 B3
    obtain ⟨r0, r1, r2⟩ := R3.three
    have rf := R3.warm
    clear R3
    go_wp2
    refine bodyPost_ret (two_results _ _ (w.heap.size + 1 + 1) _ _ _ (.int .i64 4) Try.results36 ((((HR3.out.setAt (i := 0) _).setAt (i := 1) _).setAt (i := 2) _).alloc _) rfl rfl) rfl ⟨_, _, _, by rw [EC.out], ?_, ?_⟩
    · rw [(actL_no NZ.out).1, (actL_no NZ.out).2]
      exact (HA.out.set3 HR3.out _ _ _).below ((Below.refl _ _).alloc (Nat.le_refl _) _)
    · refine Below.alloc ?_ (by simp only [nblk_setCell]; omega) _
      iterate 3 refine Below.setCell ?_ (by dsimp only; omega) _
      exact HB3.out
  · have t3' : ¬ (d.ops.n : Int) = 200 := by omega
    have EC := hid (actC_ok CZ.out t3)
    clear t3
    go_wp2_with fail
    refine (CC.out _ B2).mono ?_
    rintro e w3 ⟨vl, vs, vo, rfl, hA, hb⟩
    obtain ⟨al, cl, rfl⟩ := ownsRow_shape hA.l
    obtain ⟨aq, cq, rfl⟩ := ownsRow_shape hA.s
    obtain ⟨ao, co, rfl⟩ := ownsRow_shape hA.o
    have R3 := R2.below hb
    have O3 := O2.below hb
    have B3 := then_ B2 hb
    obtain ⟨XC, hXC⟩ : ∃ XC, XC = Obj.cells #[.slice al d.live.toL.length cl, .slice aq d.safe.toL.length cq, .slice ao d.ops.toL.length co] 27 := ⟨_, rfl⟩
    have bx : Below w3.heap.size w3 (w3.alloc XC) := (Below.refl _ w3).alloc (Nat.le_refl _) _
    have X4 := Blk.new w3 XC
    have R4 := R3.below bx
    have O4 := O3.below bx
    have B4 := then_ B3 bx
    have HA := hid (hA.below bx)
    have HS4 := hid ((HS3.out.below hb).below bx)
    have ltR : w.heap.size + 1 + 1 < w3.heap.size := R3.lt
    have lt2 : w2.heap.size ≤ w3.heap.size := hb.size
    have lt3 : w3.heap.size < (w3.alloc XC).heap.size := by simp
    subst hXC
    clear hA hb x0 x1 x2 y0 y1 y2 y3 R3 O3 B3 bx HS3 A2 O2 R2
    have ol : d.ops.toL.length ≤ 1048576 := by rw [OpL.toL_len]; exact n2
    go_wp2_with fail
    generalize w3.alloc (.cells #[.slice al d.live.toL.length cl, .slice aq d.safe.toL.length cq, .slice ao d.ops.toL.length co] 27) = V at *
    have HV := hid (Below.refl V.heap.size V)
    have NL : Hid (okL (nextL d o) = true) := hid (codeL_good CZ.out).1
    have NN := hid (okL_bytes NL.out)
    have CF : Hid (∀ W, Below V.heap.size V W → Calls Try.prog 26 #[.map (some c)] W fun e w' => ∃ v, e = .returned v ∧ OwnF w' W.heap.size v (nextL d o) ∧ Below W.heap.size W w') := hid (fun W hW => files_any (M := nextL d o) (HS4.out.below hW) (neat_ok NL.out).rise (by omega) (fun f hf => (NW.out.2 f hf).1) (by have := NN.out; omega) (by omega) (by have := NN.out; omega))
    have XB : Hid (∀ W, Below V.heap.size V W → W.cell? ⟨w3.heap.size, 0, none⟩ = some (.slice al d.live.toL.length cl) ∧ W.cell? ⟨w3.heap.size, 1, none⟩ = some (.slice aq d.safe.toL.length cq) ∧ W.cell? ⟨w3.heap.size, 2, none⟩ = some (.slice ao d.ops.toL.length co)) := hid (fun W hW => (X4.below hW).three)
    have OB : Hid (∀ W, Below V.heap.size V W → W.cell? ⟨w.heap.size + 1, 0, none⟩ = some (.int .i64 o.kind) ∧ W.cell? ⟨w.heap.size + 1, 1, none⟩ = some (.string o.name) ∧ W.cell? ⟨w.heap.size + 1, 2, none⟩ = some (.string o.to) ∧ W.cell? ⟨w.heap.size + 1, 3, none⟩ = some (.string o.data)) := hid (fun W hW => (O4.below hW).four)
    have HX4 := hid X4
    have HR4 := hid R4
    have HB4 := hid B4
    obtain ⟨x0, x1, x2⟩ := XB.out _ (bD HV.out)
    obtain ⟨y0, y1, y2, y3⟩ := OB.out _ (bD HV.out)
    obtain ⟨xa0, xa1, xa2⟩ := XB.out _ (bD (bA HV.out (.cells #[.int .i64 o.kind, .string o.name, .string o.to, .string o.data] 36)))
    obtain ⟨ya0, ya1, ya2, ya3⟩ := OB.out _ (bD (bA HV.out (.cells #[.int .i64 o.kind, .string o.name, .string o.to, .string o.data] 36)))
    have LAd : Hid (OplL (V.alloc (.cells #[.int .i64 o.kind, .string o.name, .string o.to, .string o.data] 36)).drew (some ⟨V.heap.size, 0, none⟩) [o]) := hid ((OplL.one (w := V) o).below (Below.refl _ _).drew)
    have s0 : w2.heap.size ≤ V.heap.size := by omega
    have ND : (27 : Nat) ≠ 36 := by decide
    clear X4 R4 O4 B4 HS4
    go_region_law (first
      | (refine step_files (by rfl) _ _ (by rfl) c (by rfl) V (nextL d o) CF.out (by first | with_reducible exact bD HV.out | with_reducible exact bD (bA HV.out _)) ?_; intro a5 k5 w5 o5 b5; have K5 : Hid (Below V.heap.size V w5) := hid (by first | with_reducible exact then_ (bD HV.out) b5 | with_reducible exact then_ (bD (bA HV.out _)) b5); have F5 : Hid (OwnF w5 V.heap.size (.slice a5 (nextL d o).length k5) (nextL d o)) := hid (by first | with_reducible exact o5.baseR (Below.size (bD HV.out)) | with_reducible exact o5.baseR (Below.size (bD (bA HV.out _)))); obtain ⟨p0, p1, p2⟩ := XB.out _ K5.out; obtain ⟨q0, q1, q2, q3⟩ := OB.out _ K5.out; obtain ⟨pa0, pa1, pa2⟩ := XB.out _ (bA K5.out (.cells #[.int .i64 o.kind, .string o.name, .string o.to, .string o.data] 36)); (try with_reducible have LB := hid (LAd.out.below b5)); have LC := hid (OplL.one (w := w5) o); have Z5 : Hid (ZO w5 w2.heap.size (.slice ao d.ops.toL.length co) d.ops.toL) := hid (.inl (HA.out.o.below K5.out)); have Z6 : Hid (ZO (w5.alloc (.cells #[.int .i64 o.kind, .string o.name, .string o.to, .string o.data] 36)) w2.heap.size (.slice ao d.ops.toL.length co) d.ops.toL) := hid (Z5.out.below ((Below.refl _ w5).alloc (Nat.le_refl _) _)); have s5 : w2.heap.size ≤ w5.heap.size := Nat.le_trans s0 K5.out.size; have s6 : w2.heap.size ≤ (w5.alloc (.cells #[.int .i64 o.kind, .string o.name, .string o.to, .string o.data] 36)).heap.size := Nat.le_trans s0 (bA K5.out _).size; have F6 : Hid (OwnF (w5.alloc (.cells #[.int .i64 o.kind, .string o.name, .string o.to, .string o.data] 36)) V.heap.size (.slice a5 (nextL d o).length k5) (nextL d o)) := hid (F5.out.alloc _); have mk5 : True := trivial; clear o5 b5)
      | (have mq := mk5; refine step_append_z (by rfl) _ _ (by rfl) w2.heap.size (.slice ao d.ops.toL.length co) d.ops.toL (by rfl) (by first | with_reducible exact Z5.out | with_reducible exact Z6.out) _ _ o (by rfl) (by first | with_reducible exact LB.out | with_reducible exact LC.out) ol (by first | with_reducible exact s5 | with_reducible exact s6) ?_; intro a7 c7 w7 o7 k7 b7; have X7 : Hid (Blk w7 w3.heap.size (.cells #[.slice al d.live.toL.length cl, .slice aq d.safe.toL.length cq, .slice ao d.ops.toL.length co] 27)) := hid (by first | with_reducible exact k7.blk (HX4.out.below K5.out) ND | with_reducible exact k7.blk (HX4.out.below (bA K5.out _)) ND); have R7 : Hid (Blk w7 (w.heap.size + 1 + 1) (.cells #[.slice none 0 0, .slice none 0 0, .slice none 0 0] 27)) := hid (by first | with_reducible exact k7.blk (HR4.out.below K5.out) ND | with_reducible exact k7.blk (HR4.out.below (bA K5.out _)) ND); have F7 : Hid (OwnF w7 V.heap.size (.slice a5 (nextL d o).length k5) (nextL d o)) := hid (by first | with_reducible exact k7.ownF F5.out | with_reducible exact k7.ownF F6.out); have S7 : Hid (OwnF w7 w2.heap.size (.slice aq d.safe.toL.length cq) d.safe.toL) := hid (by first | with_reducible exact k7.ownF (HA.out.s.below K5.out) | with_reducible exact k7.ownF (HA.out.s.below (bA K5.out _))); have B7 : Hid (Below w2.heap.size V w7) := hid (by first | with_reducible exact (Below.mono K5.out s0).trans b7 | with_reducible exact (Below.mono (bA K5.out _) s0).trans b7); have O7 := hid o7; obtain ⟨u0, u1, u2⟩ := X7.out.three; have uf := X7.out.warm; obtain ⟨r0, r1, r2⟩ := R7.out.three; have rf := R7.out.warm; clear o7 k7 b7))
    all_goals (
      clear x0 x1 x2 y0 y1 y2 y3 xa0 xa1 xa2 ya0 ya1 ya2 ya3 p0 p1 p2 q0 q1 q2 q3 pa0 pa1 pa2
      have neR : ¬ w.heap.size + 1 + 1 = w3.heap.size := by omega
      have neR2 : ¬ w3.heap.size = w.heap.size + 1 + 1 := by omega
      have HE : Hid (AnsI w7 w.heap.size (.slice a5 (nextL d o).length k5) (.slice aq d.safe.toL.length cq) (.slice a7 (d.ops.toL.length + 1) c7) (nextL d o) d.safe.toL (d.ops.toL ++ [o])) := hid ⟨own_base F7.out HB4.out.size, own_base S7.out B2.size, own_base O7.out B2.size, apart_symm (own_apart HA.out.s F5.out)⟩
      have R8 := hid ((R7.out.other (Q := w3.heap.size) (i := 0) (by omega) (.slice a5 (nextL d o).length k5)).other (Q := w3.heap.size) (i := 2) (by omega) (.slice a7 (d.ops.toL.length + 1) c7))
      go_wp2
      refine bodyPost_ret (two_results _ _ (w.heap.size + 1 + 1) _ _ _ (.int .i64 0) Try.results36 (((R8.out.setAt (i := 0) _).setAt (i := 1) _).setAt (i := 2) _) rfl rfl) rfl ⟨_, _, _, by rw [EC.out], ?_, ?_⟩
      · rw [(actL_yes EC.out).1, (actL_yes EC.out).2]
        exact ((HE.out.set X7.out _).set (X7.out.setAt (i := 0) _) _).set3 R8.out _ _ _
      · iterate 3 refine Below.setCell ?_ (by dsimp only; omega) _
        iterate 2 refine Below.setCell ?_ (by dsimp only; omega) _
        exact HB4.out.trans (B7.out.mono B2.size))

theorem dkOk_live {d : DiskV} (h : dkOk d = true) : fsOk d.live.n d.live.f = true := by
  unfold dkOk at h
  simp only [Bool.and_eq_true] at h
  exact h.1.1.1
def doC (d : DiskV) (o : OpV) : Int := if dkOk d = true then actC d o else 1
def doLi (d : DiskV) (o : OpV) : List FileV := if dkOk d = true then actL d o else []
def doSa (d : DiskV) : List FileV := if dkOk d = true then d.safe.toL else []
def doOp (d : DiskV) (o : OpV) : List OpV := if dkOk d = true then actO d o else []
theorem do_no {d : DiskV} {o : OpV} (h : dkOk d = false) : doC d o = 1 ∧ doLi d o = [] ∧ doSa d = [] ∧ doOp d o = [] := by
  have : ¬ dkOk d = true := by rw [h]; decide
  unfold doC doLi doSa doOp
  rw [if_neg this, if_neg this, if_neg this, if_neg this]
  exact ⟨rfl, rfl, rfl, rfl⟩
theorem do_yes {d : DiskV} {o : OpV} (h : dkOk d = true) : doC d o = actC d o ∧ doLi d o = actL d o ∧ doSa d = d.safe.toL ∧ doOp d o = actO d o := by
  unfold doC doLi doSa doOp
  rw [if_pos h, if_pos h, if_pos h, if_pos h]
  exact ⟨rfl, rfl, rfl, rfl⟩

set_option maxRecDepth 100000 in
set_option maxHeartbeats 4000000 in
theorem specDo_ap (d : DiskV) (o : OpV) (w : World) (hd : d.at w) (hs : d.sz ≤ 1048576) (ho : o.wf) (hz : o.data.size ≤ 1048576) :
    Calls Try.prog 15 #[d.val, o.val] w fun e w' => ∃ vl vs vo, e = .returned (.tuple #[.agg #[vl, vs, vo], .int .i64 (doC d o)]) ∧ AnsS w' w.heap.size vl vs vo (doLi d o) (doSa d) (doOp d o) ∧ Below w.heap.size w w' ∧ (doC d o = 0 → Apt vl vs) := by
  obtain ⟨A0, O0, R0, b0⟩ := three_boxes w (.cells #[.slice d.live.a d.live.n d.live.k, .slice d.safe.a d.safe.n d.safe.k, .slice d.ops.a d.ops.n d.ops.k] 27) (.cells #[.int .i64 o.kind, .string o.name, .string o.to, .string o.data] 36) (.cells #[.slice none 0 0, .slice none 0 0, .slice none 0 0] 27)
  have HD := hid hd
  have SM := hid (DiskV.small_of hs)
  have C1 := hid (specDisk_any d _ (hd.below b0) hs)
  have C2 : Hid (∀ W, Below w.heap.size w W → dkOk d = true → Calls Try.prog 37 #[d.val, o.val] W fun e w' => ∃ vl vs vo, e = .returned (.tuple #[.agg #[vl, vs, vo], .int .i64 (actC d o)]) ∧ AnsS w' W.heap.size vl vs vo (actL d o) d.safe.toL (actO d o) ∧ Below W.heap.size W w' ∧ (actC d o = 0 → Apt vl vs)) := hid (fun W hW hk => l11Act_ap d o W (HD.out.below hW) SM.out (dkOk_live hk) ho hz)
  unfold DiskV.val at C1 C2 ⊢
  unfold OpV.val at C2 ⊢
  obtain ⟨x0, x1, x2⟩ := A0.three
  clear hd hs
  go_enter Try.func15, Try.ntmps15
  go_wp2_with fail
  refine C1.out.mono ?_
  rintro e w1 ⟨rfl, hb1⟩
  have A1 := A0.below hb1
  have O1 := O0.below hb1
  have R1 := R0.below hb1
  have B1 := then_ b0 hb1
  clear x0 x1 x2 C1 A0 O0 R0 b0 hb1
  obtain ⟨x0, x1, x2⟩ := A1.three
  obtain ⟨y0, y1, y2, y3⟩ := O1.four
  obtain ⟨r0, r1, r2⟩ := R1.three
  have rw1 := R1.warm
  cases t1 : dkOk d with
  | false =>
    have E : Hid (doC d o = 1 ∧ doLi d o = [] ∧ doSa d = [] ∧ doOp d o = []) := hid (do_no t1)
    go_wp2
    refine bodyPost_ret (two_results _ _ (w.heap.size + 1 + 1) (.slice none 0 0) (.slice none 0 0) (.slice none 0 0) (.int .i64 1) Try.results15 (((R1.setAt (i := 0) _).setAt (i := 1) _).setAt (i := 2) _) rfl rfl) rfl ⟨_, _, _, by rw [E.out.1], ?_, ?_, fun h => absurd (E.out.1.symm.trans h) (by decide)⟩
    · rw [E.out.2.1, E.out.2.2.1, E.out.2.2.2]
      exact AnsS.none _ _
    · iterate 3 refine Below.setCell ?_ (by dsimp only; omega) _
      exact B1
  | true =>
    have E : Hid (doC d o = actC d o ∧ doLi d o = actL d o ∧ doSa d = d.safe.toL ∧ doOp d o = actO d o) := hid (do_yes t1)
    go_wp2_with fail
    refine (C2.out _ B1 t1).mono ?_
    rintro e w2 ⟨vl, vs, vo, rfl, hA, hb2, hap⟩
    have AP := hid hap
    clear hap
    have R2 := R1.below hb2
    have B2 := then_ B1 hb2
    have HA := hid hA
    clear x0 x1 x2 y0 y1 y2 y3 r0 r1 r2 rw1 hA t1
    obtain ⟨r0, r1, r2⟩ := R2.three
    have rf := R2.warm
    obtain ⟨al, cl, rfl⟩ := HA.out.l.shape
    obtain ⟨aq, cs, rfl⟩ := HA.out.s.shape
    obtain ⟨ao, co, rfl⟩ := HA.out.o.shape
    go_wp2
    refine bodyPost_ret (two_results _ _ (w.heap.size + 1 + 1) _ _ _ (.int .i64 (actC d o)) Try.results15 (((R2.setAt (i := 0) _).setAt (i := 1) _).setAt (i := 2) _) rfl rfl) rfl ⟨_, _, _, by rw [E.out.1], ?_, ?_, fun h => AP.out (E.out.1.symm.trans h)⟩
    · rw [E.out.2.1, E.out.2.2.1, E.out.2.2.2]
      exact (HA.out.base B1.size).set3 R2 _ _ _
    · iterate 3 refine Below.setCell ?_ (by dsimp only; omega) _
      exact B2
theorem specDo_any (d : DiskV) (o : OpV) (w : World) (hd : d.at w) (hs : d.sz ≤ 1048576) (ho : o.wf) (hz : o.data.size ≤ 1048576) :
    Calls Try.prog 15 #[d.val, o.val] w fun e w' => ∃ vl vs vo, e = .returned (.tuple #[.agg #[vl, vs, vo], .int .i64 (doC d o)]) ∧ AnsS w' w.heap.size vl vs vo (doLi d o) (doSa d) (doOp d o) ∧ Below w.heap.size w w' :=
  (specDo_ap d o w hd hs ho hz).mono fun _ _ ⟨vl, vs, vo, h1, h2, h3, _⟩ => ⟨vl, vs, vo, h1, h2, h3⟩

set_option maxRecDepth 100000 in
set_option maxHeartbeats 4000000 in
theorem implDo_any (d : DiskV) (o : OpV) (w : World) (hd : d.at w) (hs : d.sz ≤ 1048576) (ho : o.wf) (hz : o.data.size ≤ 1048576) :
    Calls Try.prog 14 #[d.val, o.val] w fun e w' => ∃ vl vs vo, e = .returned (.tuple #[.agg #[vl, vs, vo], .int .i64 (doC d o)]) ∧ AnsI w' w.heap.size vl vs vo (doLi d o) (doSa d) (doOp d o) ∧ Below w.heap.size w w' := by
  obtain ⟨A0, O0, R0, b0⟩ := three_boxes w (.cells #[.slice d.live.a d.live.n d.live.k, .slice d.safe.a d.safe.n d.safe.k, .slice d.ops.a d.ops.n d.ops.k] 27) (.cells #[.int .i64 o.kind, .string o.name, .string o.to, .string o.data] 36) (.cells #[.slice none 0 0, .slice none 0 0, .slice none 0 0] 27)
  have HD := hid hd
  have SM := hid (DiskV.small_of hs)
  have C1 := hid (implDisk_any d _ (hd.below b0) hs)
  have C2 : Hid (∀ W, Below w.heap.size w W → dkOk d = true → Calls Try.prog 36 #[d.val, o.val] W fun e w' => ∃ vl vs vo, e = .returned (.tuple #[.agg #[vl, vs, vo], .int .i64 (actC d o)]) ∧ AnsI w' W.heap.size vl vs vo (actL d o) d.safe.toL (actO d o) ∧ Below W.heap.size W w') := hid (fun W hW hk => doneTo_any d o W (HD.out.below hW) SM.out (dkOk_live hk) ho hz)
  unfold DiskV.val at C1 C2 ⊢
  unfold OpV.val at C2 ⊢
  obtain ⟨x0, x1, x2⟩ := A0.three
  clear hd hs
  go_enter Try.func14, Try.ntmps14
  go_wp2_with fail
  refine C1.out.mono ?_
  rintro e w1 ⟨rfl, hb1⟩
  have A1 := A0.below hb1
  have O1 := O0.below hb1
  have R1 := R0.below hb1
  have B1 := then_ b0 hb1
  clear x0 x1 x2 C1 A0 O0 R0 b0 hb1
  obtain ⟨x0, x1, x2⟩ := A1.three
  obtain ⟨y0, y1, y2, y3⟩ := O1.four
  obtain ⟨r0, r1, r2⟩ := R1.three
  have rw1 := R1.warm
  cases t1 : dkOk d with
  | false =>
    have E : Hid (doC d o = 1 ∧ doLi d o = [] ∧ doSa d = [] ∧ doOp d o = []) := hid (do_no t1)
    go_wp2
    refine bodyPost_ret (two_results _ _ (w.heap.size + 1 + 1) (.slice none 0 0) (.slice none 0 0) (.slice none 0 0) (.int .i64 1) Try.results14 (((R1.setAt (i := 0) _).setAt (i := 1) _).setAt (i := 2) _) rfl rfl) rfl ⟨_, _, _, by rw [E.out.1], ?_, ?_⟩
    · rw [E.out.2.1, E.out.2.2.1, E.out.2.2.2]
      exact AnsI.none _ _
    · iterate 3 refine Below.setCell ?_ (by dsimp only; omega) _
      exact B1
  | true =>
    have E : Hid (doC d o = actC d o ∧ doLi d o = actL d o ∧ doSa d = d.safe.toL ∧ doOp d o = actO d o) := hid (do_yes t1)
    go_wp2_with fail
    refine (C2.out _ B1 t1).mono ?_
    rintro e w2 ⟨vl, vs, vo, rfl, hA, hb2⟩
    have R2 := R1.below hb2
    have B2 := then_ B1 hb2
    have HA := hid hA
    clear x0 x1 x2 y0 y1 y2 y3 r0 r1 r2 rw1 hA t1
    obtain ⟨r0, r1, r2⟩ := R2.three
    have rf := R2.warm
    obtain ⟨al, cl, rfl⟩ := ownsRow_shape HA.out.l
    obtain ⟨aq, cs, rfl⟩ := ownsRow_shape HA.out.s
    obtain ⟨ao, co, rfl⟩ := ownsRow_shape HA.out.o
    go_wp2
    refine bodyPost_ret (two_results _ _ (w.heap.size + 1 + 1) _ _ _ (.int .i64 (actC d o)) Try.results14 (((R2.setAt (i := 0) _).setAt (i := 1) _).setAt (i := 2) _) rfl rfl) rfl ⟨_, _, _, by rw [E.out.1], ?_, ?_⟩
    · rw [E.out.2.1, E.out.2.2.1, E.out.2.2.2]
      exact (HA.out.base B1.size).set3 R2 _ _ _
    · iterate 3 refine Below.setCell ?_ (by dsimp only; omega) _
      exact B2
end Go.Proofs.Ytcchpeebhkiacaa
