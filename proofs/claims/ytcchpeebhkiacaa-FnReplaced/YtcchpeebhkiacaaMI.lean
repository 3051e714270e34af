/- An op done to a right disk, the model: l11Act. -/
import Derived.Test.YtcchpeebhkiacaaMH
namespace Go.Proofs.Ytcchpeebhkiacaa
open Go Go.RowKit Go.Deep Go.Maps

def actC (d : DiskV) (o : OpV) : Int := if codeL d.live.toL o = 0 ∧ d.ops.n = 200 then 4 else codeL d.live.toL o
def nextL (d : DiskV) (o : OpV) : List FileV := (doF d.live.toL.length (fileAt d.live.toL) o).1
def actL (d : DiskV) (o : OpV) : List FileV := if actC d o = 0 then nextL d o else d.live.toL
def actO (d : DiskV) (o : OpV) : List OpV := if actC d o = 0 then d.ops.toL ++ [o] else d.ops.toL
theorem actL_no {d : DiskV} {o : OpV} (h : actC d o ≠ 0) : actL d o = d.live.toL ∧ actO d o = d.ops.toL := by unfold actL actO; rw [if_neg h, if_neg h]; exact ⟨rfl, rfl⟩
theorem actL_yes {d : DiskV} {o : OpV} (h : actC d o = 0) : actL d o = nextL d o ∧ actO d o = d.ops.toL ++ [o] := by unfold actL actO; rw [if_pos h, if_pos h]; exact ⟨rfl, rfl⟩
theorem actC_not {d : DiskV} {o : OpV} {k : Int} (h : codeL d.live.toL o = k) (hk : k ≠ 0) : actC d o = k := by unfold actC; rw [if_neg (fun hh => hk (h.symm.trans hh.1)), h]
theorem actC_full {d : DiskV} {o : OpV} (h : codeL d.live.toL o = 0) (hn : d.ops.n = 200) : actC d o = 4 := by unfold actC; rw [if_pos ⟨h, hn⟩]
theorem actC_ok {d : DiskV} {o : OpV} (h : codeL d.live.toL o = 0) (hn : d.ops.n ≠ 200) : actC d o = 0 := by unfold actC; rw [if_neg (fun hh => hn hh.2), h]
theorem find_congr {p q : Nat → Bool} : ∀ (l : List Nat), (∀ i ∈ l, p i = q i) → l.find? p = l.find? q
  | [], _ => rfl
  | x :: r, h => by
    rw [List.find?_cons, List.find?_cons, h x (List.mem_cons_self ..), find_congr r (fun i hi => h i (List.mem_cons_of_mem _ hi))]
theorem doF_toL (l : FileL) (o : OpV) : doF l.n l.f o = doF l.toL.length (fileAt l.toL) o := by
  rw [toL_len]
  have e : ∀ i, i < l.n → fileAt l.toL i = l.f i := fun i hi => fileAt_toL hi
  have hm : (List.range l.n).map (fileAt l.toL) = (List.range l.n).map l.f := List.map_congr_left fun i hi => e i (List.mem_range.1 hi)
  have hl : ∀ s, lookF l.n (fileAt l.toL) s = lookF l.n l.f s := fun s => by
    unfold lookF
    have : (List.range l.n).find? (fun i => (fileAt l.toL i).name.toList == s.toList) = (List.range l.n).find? (fun i => (l.f i).name.toList == s.toList) := by
      refine find_congr _ fun i hi => ?_
      rw [e i (List.mem_range.1 hi)]
    rw [this]
    cases h : (List.range l.n).find? (fun i => (l.f i).name.toList == s.toList) with
    | none => rfl
    | some i => simp only [Option.map_some]; rw [e i (List.mem_range.1 (List.mem_of_find?_eq_some h))]
  have hp : ∀ s d k, k ≤ l.n → putSt (fileAt l.toL) s d k = putSt l.f s d k := fun s d k => by
    induction k with
    | zero => intro _; rfl
    | succ k ih =>
      intro hk
      rw [putSt, putSt, ih (by omega), e k (by omega)]
  have hq : ∀ s d, putF l.n (fileAt l.toL) s d = putF l.n l.f s d := fun s d => by unfold putF; rw [hp s d l.n (Nat.le_refl _)]
  have hc : ∀ s, cutTo (fileAt l.toL) s l.n = cutTo l.f s l.n := fun s => by unfold cutTo; rw [hm]
  unfold doF
  rw [hl, hq, hc, hm]
theorem two_results {F : Func} (tmps : Array Value) (W : World) (P : Nat) (x y z u : Value) (hF : F.results = #[.cell 4 27, .tmp 5]) (h : Blk W P (.cells #[x, y, z] 27)) (h2 : tmps[4]? = some (.pointer (some ⟨P, 0, none⟩))) (h5 : tmps[5]? = some u) :
    (results F tmps).run Try.prog W = .ok (.tuple #[.agg #[x, y, z], u]) W := by
  obtain ⟨z0, z1, z2⟩ := h.three
  simp [results, hF, go_sem, h2, h5, z0, z1, z2]
theorem three_boxes (w : World) (c1 c2 c3 : Obj) : Blk (((w.alloc c1).alloc c2).alloc c3) w.heap.size c1 ∧ Blk (((w.alloc c1).alloc c2).alloc c3) (w.heap.size + 1) c2 ∧ Blk (((w.alloc c1).alloc c2).alloc c3) (w.heap.size + 1 + 1) c3 ∧ Below w.heap.size w (((w.alloc c1).alloc c2).alloc c3) := by
  obtain ⟨h1, h2, h3⟩ := two_boxes w c1 c2
  refine ⟨h1.alloc c3, h2.alloc c3, ?_, h3.alloc h3.size _⟩
  have := Blk.new ((w.alloc c1).alloc c2) c3
  simpa using this
/-- blocks that are no rows of ops stay -/
structure KeepsR (w w' : World) : Prop where
  size : w.heap.size ≤ w'.heap.size
  block : ∀ (k : Nat) (cs : Array Value) (t : TypeId), w.heap[k]? = some (Obj.cells cs t (0, 0)) → t ≠ 36 → w'.heap[k]? = w.heap[k]?
theorem KeepsR.blk {w w' : World} {P t : Nat} {cs : Array Value} (h : KeepsR w w') (hb : Blk w P (.cells cs t)) (ht : t ≠ 36) : Blk w' P (.cells cs t) := (h.block P cs t hb ht).trans hb
theorem KeepsR.ownF {w w' : World} {B : Nat} {v : Value} {l : List FileV} (h : KeepsR w w') (ho : OwnF w B v l) : OwnF w' B v l := by
  refine ⟨ho.1, ?_⟩
  rcases ho.2 with hn | ⟨g, cap, cur, hv, hbg, hg, rest⟩
  · exact .inl hn
  · exact .inr ⟨g, cap, cur, hv, hbg, (h.block g cur _ hg (by decide)).trans hg, rest⟩
theorem KeepsR.zF {w w' : World} {B : Nat} {v : Value} {l : List FileV} (h : KeepsR w w') (ho : ZF w B v l) : ZF w' B v l := by
  rcases ho with ho | ho
  · exact .inl (h.ownF ho)
  · exact .inr ho
theorem KeepsR.of_below {w w' : World} (h : Below w.heap.size w w') : KeepsR w w' := ⟨h.size, fun k _ _ hk _ => h.block k (Array.getElem?_eq_some_iff.1 hk).1⟩
theorem OplL.one {w : World} (x : OpV) : OplL (w.alloc (.cells #[.int .i64 x.kind, .string x.name, .string x.to, .string x.data] 36)) (some ⟨w.heap.size, 0, none⟩) [x] := fun _ =>
  ⟨_, 0, rfl, by simp, fun j u hu => by
    have hj : j = 0 ∨ j = 1 ∨ j = 2 ∨ j = 3 ∨ 4 ≤ j := by omega
    rcases hj with rfl | rfl | rfl | rfl | h
    · simp [cellsO, OpV.cs] at hu; subst hu; simp
    · simp [cellsO, OpV.cs] at hu; subst hu; simp
    · simp [cellsO, OpV.cs] at hu; subst hu; simp
    · simp [cellsO, OpV.cs] at hu; subst hu; simp
    · have : (cellsO [x]).length ≤ j := by simpa [cellsO, OpV.cs] using h
      rw [List.getElem?_eq_none this] at hu
      cases hu⟩
theorem run_append_z (w : World) (tt : TypeId) (B : Nat) (v : Value) (l : List OpV) (hown : ZO w B v l) (ad : Option Addr) (c : Nat) (o : OpV) (hc : OplL w ad [o]) (hn : l.length ≤ 1048576) (hB : B ≤ w.heap.size) :
    ∃ a' c' w', (Builtin.append_ #[25, 25] tt #[v, .slice ad 1 c]).run Try.prog w = .ok (.slice a' (l.length + 1) c') w' ∧ OwnO w' B (.slice a' (l.length + 1) c') (l ++ [o]) ∧ KeepsR w w' ∧ Below B w w' := by
  rcases hown with hown | ⟨rfl, ab, rfl⟩
  · obtain ⟨a', c', w', h1, h2, h3, _⟩ := run_append_gen Try.underlying25 Try.info36 rfl (by omega) w tt B v l.length (cellsO l) hown ad 1 c (cellsO [o]) (cellsO_len [o]) hc cellsO_one (by omega) (by omega) hB
    refine ⟨a', c', w', h1, ?_, ⟨h3.size, fun k cs t hk ht => h3.block k (Array.getElem?_eq_some_iff.1 hk).1 (fun e => ?_)⟩, below_grown h3 hB (fun j e => (World.ownsRow.lt hown j e).1)⟩
    · unfold OwnO
      rw [List.length_append, cellsO_append]
      exact h2
    · obtain ⟨cur, hcur⟩ := hown.rowO.block e.symm
      rw [hk] at hcur
      simp at hcur
      exact ht hcur.2
  · obtain ⟨a', c', w', h1, _, _, h4, h5⟩ := run_append_zeroO w tt ab ad c [o] hc (by simp)
    rcases h4 with h4 | ⟨h4, _⟩
    · exact ⟨a', c', w', h1, own_base h4 hB, KeepsR.of_below h5, h5.mono hB⟩
    · cases h4
theorem wpList_append_z {ops : Array Oper} {rest : List Oper} {oo : Oper} {a : Act} {Q : Exit → Act → World → Prop} (w : World) (hgd : oo.guard = none) (s x : Operand)
    (ho : oo.op = .call { callee := .builtin .append, args := #[s, x], argTypes := #[25, 25] })
    (B : Nat) (v : Value) (l : List OpV) (hs : a.eval s = v) (hown : ZO w B v l) (ad : Option Addr) (c : Nat) (o : OpV) (hx : a.eval x = .slice ad 1 c) (hc : OplL w ad [o]) (hn : l.length ≤ 1048576) (hB : B ≤ w.heap.size)
    (h : ∀ a' c' w', OwnO w' B (.slice a' (l.length + 1) c') (l ++ [o]) → KeepsR w w' → Below B w w' → wpList Try.prog ops Q rest (a.put oo.dst (.slice a' (l.length + 1) c')) w') : wpList Try.prog ops Q (oo :: rest) a w := by
  refine wpList_plain hgd fun K hK => ?_
  obtain ⟨a', c', w', hr, h2, h3, h4⟩ := run_append_z w oo.type B v l hown ad c o hc hn hB
  unfold Oper.wp execOp
  simp only [ho, resolve, invoke, builtin, Sem.run_bind, Sem.run_pure, Result.andThen_ok, List.map_toArray, List.map_cons, List.map_nil, hs, hx, hr]
  exact hK _ _ (h a' c' w' h2 h3 h4)

set_option maxRecDepth 100000 in
set_option maxHeartbeats 16000000 in
theorem l11Act_ap (d : DiskV) (o : OpV) (w : World) (hd : d.at w) (hs : d.small) (hok : fsOk d.live.n d.live.f = true) (ho : o.wf) (hz : o.data.size ≤ 1048576) :
    Calls Try.prog 37 #[d.val, o.val] w fun e w' => ∃ vl vs vo, e = .returned (.tuple #[.agg #[vl, vs, vo], .int .i64 (actC d o)]) ∧ AnsS w' w.heap.size vl vs vo (actL d o) d.safe.toL (actO d o) ∧ Below w.heap.size w w' ∧ (actC d o = 0 → Apt vl vs) := by
  obtain ⟨A0, O0, R0, b0⟩ := three_boxes w (.cells #[.slice d.live.a d.live.n d.live.k, .slice d.safe.a d.safe.n d.safe.k, .slice d.ops.a d.ops.n d.ops.k] 27) (.cells #[.int .i64 o.kind, .string o.name, .string o.to, .string o.data] 36) (.cells #[.slice none 0 0, .slice none 0 0, .slice none 0 0] 27)
  have HD := hid hd
  have HOW := hid ho
  have HOK := hid hok
  have MW : Hid (∀ x ∈ d.live.toL, x.wf) := hid (fun x hx => by obtain ⟨i, hi, rfl⟩ := toL_mem hx; exact hd.1.2.2 i hi)
  have OKL : Hid (okL d.live.toL = true) := hid (by rw [okL_toL]; exact hok)
  have CC : Hid (∀ W, Below w.heap.size w W → Calls Try.prog 44 #[.agg #[.slice d.live.a d.live.n d.live.k, .slice d.safe.a d.safe.n d.safe.k, .slice d.ops.a d.ops.n d.ops.k]] W fun e w' => ∃ vl vs vo, e = .returned (.agg #[vl, vs, vo]) ∧ AnsS w' W.heap.size vl vs vo d.live.toL d.safe.toL d.ops.toL ∧ Below W.heap.size W w') := hid (fun W hW => l11Copy_any d W (HD.out.below hW) hs)
  have CM : Hid (∀ W, Calls Try.prog 29 #[.agg #[.int .i64 o.kind, .string o.name, .string o.to, .string o.data]] W fun e w' => e = .returned (.bool (opForm o)) ∧ Below W.heap.size W w') := hid (fun W => l11Form_any o W HOW.out)
  have CD : Hid (∀ W, Below w.heap.size w W → Calls Try.prog 28 #[.slice d.live.a d.live.n d.live.k, .agg #[.int .i64 o.kind, .string o.name, .string o.to, .string o.data]] W fun e w' => ∃ v, e = .returned (.tuple #[v, .bool (doF d.live.toL.length (fileAt d.live.toL) o).2]) ∧ OwnF w' W.heap.size v (nextL d o) ∧ Below W.heap.size W w') := hid (fun W hW => by
    have h := l11Do_any d.live o W (HD.out.1.below hW) hs.1 (fun i hi => by have := fsOk_data HOK.out hi; omega) (by omega)
    rw [doF_toL] at h
    exact h)
  have NW := hid (doF_wf OKL.out MW.out HOW.out hz)
  have CF : Hid (∀ W a c, OwnF W W.heap.size (.slice a (nextL d o).length c) (nextL d o) ∨ (∃ B, OwnF W B (.slice a (nextL d o).length c) (nextL d o)) → Calls Try.prog 27 #[.slice a (nextL d o).length c] W fun e w' => e = .returned (.bool (okL (nextL d o))) ∧ Below W.heap.size W w') := hid (fun W a c h => by
    have hB : ∃ B, OwnF W B (.slice a (nextL d o).length c) (nextL d o) := by
      rcases h with h | h
      · exact ⟨_, h⟩
      · exact h
    obtain ⟨B, hB⟩ := hB
    have nl : (nextL d o).length ≤ 121 := NW.out.1
    exact l11Files_any ⟨a, (nextL d o).length, c, fileAt (nextL d o)⟩ W (hB.at (by omega) (fun x hx => (NW.out.2 x hx).1)) (Nat.le_trans (tot_bound (c := 1300000) (fun i hi => (NW.out.2 _ (fileAt_mem hi)).2)) (by show (nextL d o).length * _ ≤ _; omega)))
  have m2 : d.ops.toL.length ≤ 1000000 ∨ True := .inr trivial
  have n2 := hs.2.2
  unfold DiskV.val OpV.val
  obtain ⟨x0, x1, x2⟩ := A0.three
  obtain ⟨y0, y1, y2, y3⟩ := O0.four
  clear hd hs hok ho m2
  go_enter Try.func37, Try.ntmps37
  go_wp2_with fail
  refine (CM.out _).mono ?_
  rintro e w1 ⟨rfl, hb⟩
  have A1 := A0.below hb
  have O1 := O0.below hb
  have R1 := R0.below hb
  have B1 := then_ b0 hb
  clear x0 x1 x2 y0 y1 y2 y3 A0 O0 R0 b0 hb
  obtain ⟨x0, x1, x2⟩ := A1.three
  obtain ⟨y0, y1, y2, y3⟩ := O1.four
  cases f1 : opForm o with
  | false =>
    have EC := hid (actC_not (d := d) (codeL_form f1) (by decide))
    clear f1
    go_wp2_with fail
    refine (CC.out _ B1).mono ?_
    rintro e wc ⟨vl, vs, vo, rfl, hA, hb⟩
    have Rc := R1.below hb
    have Bc := then_ B1 hb
    have HA := hid hA
    obtain ⟨al, cl, rfl⟩ := hA.l.shape
    obtain ⟨aq, cq, rfl⟩ := hA.s.shape
    obtain ⟨ao, co, rfl⟩ := hA.o.shape
    clear hA hb x0 x1 x2 y0 y1 y2 y3
    obtain ⟨r0, r1, r2⟩ := Rc.three
    have rf := Rc.warm
    have Sc := hid (((Rc.setAt (i := 0) (.slice al d.live.toL.length cl)).setAt (i := 1) (.slice aq d.safe.toL.length cq)).setAt (i := 2) (.slice ao d.ops.toL.length co))
    go_wp2
    refine bodyPost_ret (two_results _ _ (w.heap.size + 1 + 1) _ _ _ (.int .i64 2) Try.results37 Sc.out rfl rfl) rfl ⟨_, _, _, by rw [EC.out], ?_, ?_, fun h => absurd (EC.out.symm.trans h) (by decide)⟩
    · rw [(actL_no (by rw [EC.out]; decide)).1, (actL_no (by rw [EC.out]; decide)).2]
      exact (HA.out.base B1.size).set3 Rc _ _ _
    · iterate 3 refine Below.setCell ?_ (by dsimp only; omega) _
      exact Bc
  | true =>
  have F1 := hid f1
  clear f1
  go_wp2_with fail
  refine (CD.out _ B1).mono ?_
  rintro e w2 ⟨nv, rfl, on, hb⟩
  have A2 := A1.below hb
  have O2 := O1.below hb
  have R2 := R1.below hb
  have B2 := then_ B1 hb
  have ON := hid (own_base on B1.size)
  obtain ⟨na, nc, rfl⟩ := ownsRow_shape on
  clear x0 x1 x2 y0 y1 y2 y3 A1 O1 R1 B1 hb on
  obtain ⟨x0, x1, x2⟩ := A2.three
  obtain ⟨y0, y1, y2, y3⟩ := O2.four
  cases f2 : (doF d.live.toL.length (fileAt d.live.toL) o).2 with
  | false =>
    have EC := hid (actC_not (d := d) (codeL_none F1.out f2) (by decide))
    clear f2
    go_wp2_with fail
    refine (CC.out _ B2).mono ?_
    rintro e wc ⟨vl, vs, vo, rfl, hA, hb⟩
    have Rc := R2.below hb
    have Bc := then_ B2 hb
    have HA := hid hA
    obtain ⟨al, cl, rfl⟩ := hA.l.shape
    obtain ⟨aq, cq, rfl⟩ := hA.s.shape
    obtain ⟨ao, co, rfl⟩ := hA.o.shape
    clear hA hb x0 x1 x2 y0 y1 y2 y3
    obtain ⟨r0, r1, r2⟩ := Rc.three
    have rf := Rc.warm
    have Sc := hid (((Rc.setAt (i := 0) (.slice al d.live.toL.length cl)).setAt (i := 1) (.slice aq d.safe.toL.length cq)).setAt (i := 2) (.slice ao d.ops.toL.length co))
    go_wp2
    refine bodyPost_ret (two_results _ _ (w.heap.size + 1 + 1) _ _ _ (.int .i64 3) Try.results37 Sc.out rfl rfl) rfl ⟨_, _, _, by rw [EC.out], ?_, ?_, fun h => absurd (EC.out.symm.trans h) (by decide)⟩
    · rw [(actL_no (by rw [EC.out]; decide)).1, (actL_no (by rw [EC.out]; decide)).2]
      exact (HA.out.base B2.size).set3 Rc _ _ _
    · iterate 3 refine Below.setCell ?_ (by dsimp only; omega) _
      exact Bc
  | true =>
  have F2 := hid f2
  clear f2
  by_cases t3 : d.ops.n = 200
  · have t3' : (d.ops.n : Int) = 200 := by omega
    have EC : Hid (actC d o = 4) := hid (by
      cases f3 : okL (nextL d o) with
      | false => exact actC_not (codeL_full F1.out F2.out f3) (by decide)
      | true => exact actC_full (codeL_ok F1.out F2.out f3) t3)
    clear t3
    go_wp2_with fail
    refine (CC.out _ B2).mono ?_
    rintro e wc ⟨vl, vs, vo, rfl, hA, hb⟩
    have Rc := R2.below hb
    have Bc := then_ B2 hb
    have HA := hid hA
    obtain ⟨al, cl, rfl⟩ := hA.l.shape
    obtain ⟨aq, cq, rfl⟩ := hA.s.shape
    obtain ⟨ao, co, rfl⟩ := hA.o.shape
    clear hA hb x0 x1 x2 y0 y1 y2 y3
    obtain ⟨r0, r1, r2⟩ := Rc.three
    have rf := Rc.warm
    have Sc := hid (((Rc.setAt (i := 0) (.slice al d.live.toL.length cl)).setAt (i := 1) (.slice aq d.safe.toL.length cq)).setAt (i := 2) (.slice ao d.ops.toL.length co))
    go_wp2
    refine bodyPost_ret (two_results _ _ (w.heap.size + 1 + 1) _ _ _ (.int .i64 4) Try.results37 Sc.out rfl rfl) rfl ⟨_, _, _, by rw [EC.out], ?_, ?_, fun h => absurd (EC.out.symm.trans h) (by decide)⟩
    · rw [(actL_no (by rw [EC.out]; decide)).1, (actL_no (by rw [EC.out]; decide)).2]
      exact (HA.out.base B2.size).set3 Rc _ _ _
    · iterate 3 refine Below.setCell ?_ (by dsimp only; omega) _
      exact Bc
  · have t3' : ¬ (d.ops.n : Int) = 200 := by omega
    have T3 := hid t3
    clear t3
    go_wp2_with fail
    refine (CF.out _ _ _ (.inr ⟨_, ON.out⟩)).mono ?_
    rintro e w3 ⟨rfl, hb⟩
    have A3 := A2.below hb
    have O3 := O2.below hb
    have R3 := R2.below hb
    have B3 := then_ B2 hb
    have ON3 := hid (OwnF.below ON.out hb)
    clear x0 x1 x2 y0 y1 y2 y3 A2 O2 R2 B2 hb ON
    obtain ⟨x0, x1, x2⟩ := A3.three
    obtain ⟨y0, y1, y2, y3⟩ := O3.four
    cases f3 : okL (nextL d o) with
    | false =>
    have EC := hid (actC_not (d := d) (codeL_full F1.out F2.out f3) (by decide))
    clear f3
    go_wp2_with fail
    refine (CC.out _ B3).mono ?_
    rintro e wc ⟨vl, vs, vo, rfl, hA, hb⟩
    have Rc := R3.below hb
    have Bc := then_ B3 hb
    have HA := hid hA
    obtain ⟨al, cl, rfl⟩ := hA.l.shape
    obtain ⟨aq, cq, rfl⟩ := hA.s.shape
    obtain ⟨ao, co, rfl⟩ := hA.o.shape
    clear hA hb x0 x1 x2 y0 y1 y2 y3
    obtain ⟨r0, r1, r2⟩ := Rc.three
    have rf := Rc.warm
    have Sc := hid (((Rc.setAt (i := 0) (.slice al d.live.toL.length cl)).setAt (i := 1) (.slice aq d.safe.toL.length cq)).setAt (i := 2) (.slice ao d.ops.toL.length co))
    go_wp2
    refine bodyPost_ret (two_results _ _ (w.heap.size + 1 + 1) _ _ _ (.int .i64 4) Try.results37 Sc.out rfl rfl) rfl ⟨_, _, _, by rw [EC.out], ?_, ?_, fun h => absurd (EC.out.symm.trans h) (by decide)⟩
    · rw [(actL_no (by rw [EC.out]; decide)).1, (actL_no (by rw [EC.out]; decide)).2]
      exact (HA.out.base B3.size).set3 Rc _ _ _
    · iterate 3 refine Below.setCell ?_ (by dsimp only; omega) _
      exact Bc
    | true =>
    have EC := hid (actC_ok (codeL_ok F1.out F2.out f3) T3.out)
    clear f3
    go_wp2_with fail
    refine (CC.out _ B3).mono ?_
    rintro e w4 ⟨vl, vs, vo, rfl, hA, hb⟩
    have O4 := O3.below hb
    have R4 := R3.below hb
    have B4 := then_ B3 hb
    have HA := hid hA
    have ON4 := hid (OwnF.below ON3.out hb)
    have AP := hid (zf_apt (.inl ON3.out) hA.s)
    obtain ⟨al, cl, rfl⟩ := hA.l.shape
    obtain ⟨aq, cq, rfl⟩ := hA.s.shape
    obtain ⟨ao, co, rfl⟩ := hA.o.shape
    obtain ⟨XC, hXC⟩ : ∃ XC, XC = Obj.cells #[.slice na (nextL d o).length nc, .slice aq d.safe.toL.length cq, .slice ao d.ops.toL.length co] 27 := ⟨_, rfl⟩
    have bx : Below w4.heap.size w4 (w4.alloc XC) := (Below.refl _ w4).alloc (Nat.le_refl _) _
    have X5 := Blk.new w4 XC
    have O5 := O4.below bx
    have R5 := R4.below bx
    have B5 := then_ B4 bx
    have HA5 := hid (HA.out.below bx)
    have ON5 := hid (OwnF.below ON4.out bx)
    have ltR : w.heap.size + 1 + 1 < w4.heap.size := R4.lt
    have lt3 : w3.heap.size ≤ w4.heap.size := hb.size
    have lt4 : w4.heap.size ≤ (w4.alloc XC).heap.size := bx.size
    obtain ⟨y0, y1, y2, y3⟩ := O5.four
    have by_ : Below (w4.alloc XC).heap.size (w4.alloc XC) ((w4.alloc XC).alloc (.cells #[.int .i64 o.kind, .string o.name, .string o.to, .string o.data] 36)) := (Below.refl _ _).alloc (Nat.le_refl _) _
    have ZO6 := hid (HA5.out.o.below by_)
    have ZS6 := hid (HA5.out.s.below by_)
    have ON6 := hid (OwnF.below ON5.out by_)
    have X6 := hid (X5.below by_)
    have R6 := hid (R5.below by_)
    have l6 := OplL.one (w := w4.alloc XC) o
    simp only [World.size_alloc] at l6
    have L6 := hid l6
    clear l6
    have B6 := hid (then_ B5 by_)
    have s6 : w3.heap.size ≤ ((w4.alloc XC).alloc (.cells #[.int .i64 o.kind, .string o.name, .string o.to, .string o.data] 36)).heap.size := Nat.le_trans (Nat.le_trans lt3 lt4) by_.size
    have ol : d.ops.toL.length ≤ 1000000 ∨ True := .inr trivial
    subst hXC
    clear x0 x1 x2 hA hb A3 O3 R3 O4 R4 B4 HA ON3 ON4 bx by_ ol HA5 ON5 X5 R5 O5
    have ol : d.ops.toL.length ≤ 1048576 := by rw [OpL.toL_len]; exact n2
    go_wp2_with (at_builtin; refine wpList_append_z _ rfl _ _ rfl w3.heap.size (.slice ao d.ops.toL.length co) d.ops.toL rfl ZO6.out _ _ o rfl L6.out ol s6 ?_; intro a7 c7 w7 o7 k7 b7; have KK := hid k7; have X7 := hid (k7.blk X6.out (by decide)); have R7 := hid (k7.blk R6.out (by decide)); obtain ⟨x0, x1, x2⟩ := X7.out.three; have xf := X7.out.warm; obtain ⟨r0, r1, r2⟩ := R7.out.three; have rf := R7.out.warm; have O7 := hid o7; have B7 := hid b7; clear o7 b7 k7 y0 y1 y2 y3)
    have b3s := B3.size
    have HE : AnsS w7 w.heap.size (.slice na (nextL d o).length nc) (.slice aq d.safe.toL.length cq) (.slice a7 (d.ops.toL.length + 1) c7) (nextL d o) d.safe.toL (d.ops.toL ++ [o]) := ⟨.inl (KK.out.ownF ON6.out), (KK.out.zF ZS6.out).base b3s, .inl (own_base O7.out b3s)⟩
    have R8 := R7.out.other (Q := w4.heap.size) (i := 2) (by omega) (.slice a7 (d.ops.toL.length + 1) c7)
    refine bodyPost_ret (two_results _ _ (w.heap.size + 1 + 1) _ _ _ (.int .i64 0) Try.results37 (((R8.setAt (i := 0) _).setAt (i := 1) _).setAt (i := 2) _) rfl rfl) rfl ⟨_, _, _, by rw [EC.out], ?_, ?_, fun _ => AP.out⟩
    · rw [(actL_yes EC.out).1, (actL_yes EC.out).2]
      exact (HE.set X7.out _).set3 R8 _ _ _
    · iterate 3 refine Below.setCell ?_ (by dsimp only; omega) _
      refine Below.setCell ?_ (by dsimp only; omega) _
      exact B6.out.trans (B7.out.mono b3s)
theorem l11Act_any (d : DiskV) (o : OpV) (w : World) (hd : d.at w) (hs : d.small) (hok : fsOk d.live.n d.live.f = true) (ho : o.wf) (hz : o.data.size ≤ 1048576) :
    Calls Try.prog 37 #[d.val, o.val] w fun e w' => ∃ vl vs vo, e = .returned (.tuple #[.agg #[vl, vs, vo], .int .i64 (actC d o)]) ∧ AnsS w' w.heap.size vl vs vo (actL d o) d.safe.toL (actO d o) ∧ Below w.heap.size w w' :=
  (l11Act_ap d o w hd hs hok ho hz).mono fun _ _ ⟨vl, vs, vo, h1, h2, h3, _⟩ => ⟨vl, vs, vo, h1, h2, h3⟩
end Go.Proofs.Ytcchpeebhkiacaa
