/- How great a disk is behind an op. -/
import Derived.Test.YtcchpeebhkiacaaIH
import Derived.Test.YtcchpeebhkiacaaURN
namespace Go.Proofs.Ytcchpeebhkiacaa
open Go Go.RowKit Go.Deep Go.Maps

theorem tot_add {g h : Nat → Nat} : ∀ {n : Nat}, tot (fun i => g i + h i) n = tot g n + tot h n
  | 0 => rfl
  | n + 1 => by rw [tot, tot, tot, tot_add]; omega
theorem fsOk_sz {n : Nat} {f : Nat → FileV} (h : fsOk n f = true) : n + tot (fun i => (f i).sz) n ≤ 206060 := by
  have h1 := fsOk_len h
  have h2 : ∀ i, i < n → (f i).name.size ≤ 100 := fun i hi => by
    simp only [fsOk, Bool.and_eq_true] at h
    have := List.all_eq_true.1 h.1.2 i (List.mem_range.2 hi)
    unfold fileOk nmOk at this
    simp only [Bool.and_eq_true, decide_eq_true_eq] at this
    exact this.1.2
  have h3 : tot (dsz f) n ≤ 200000 := by
    simp only [fsOk, Bool.and_eq_true, decide_eq_true_eq] at h
    exact h.2
  have h4 : tot (fun i => (f i).name.size) n ≤ n * 100 := tot_bound h2
  have h5 : tot (fun i => (f i).sz) n = tot (fun i => (f i).name.size) n + tot (dsz f) n := tot_add (g := fun i => (f i).name.size) (h := dsz f)
  omega
/-- how much the ops are -/
def DiskV.osz (d : DiskV) : Nat := d.ops.n + tot (fun i => (d.ops.f i).sz) d.ops.n
theorem do_good {W : World} {d : DiskV} {o : OpV} (hd : d.at W) (hc : doC d o = 0) (ho : o.wf) (hz : o.data.size ≤ 1048576) : GoodD (doLi d o) (doSa d) (doOp d o) 201 ∧ okL (doSa d) = true ∧ doOp d o = d.ops.toL ++ [o] ∧ dkOk d = true ∧ actC d o = 0 := by
  cases t : dkOk d with
  | false => rw [(do_no t).1] at hc; cases hc
  | true =>
    obtain ⟨e1, e2, e3, e4⟩ := do_yes (o := o) t
    rw [e1] at hc
    have hn : ¬ (codeL d.live.toL o = 0 ∧ d.ops.n = 200) := fun hh => by unfold actC at hc; rw [if_pos hh] at hc; cases hc
    have c0 : codeL d.live.toL o = 0 := by unfold actC at hc; rw [if_neg hn] at hc; exact hc
    have eL : actL d o = (doF d.live.toL.length (fileAt d.live.toL) o).1 := by unfold actL; rw [if_pos hc]; rfl
    have eO : actO d o = d.ops.toL ++ [o] := by unfold actO; rw [if_pos hc]
    have g := dkOk_good hd t
    rw [e2, e3, e4, eL, eO]
    refine ⟨⟨(codeL_good c0).1, fun x hx => ((doF_wf g.ok g.lw ho hz).2 x hx).1, g.sw, fun x hx => ?_, g.sn, ?_⟩, (dkOk_safe t).1, rfl, rfl, hc⟩
    · rcases List.mem_append.1 hx with hx | hx
      · exact g.ow x hx
      · rw [List.mem_singleton.1 hx]; exact ho
    · rw [List.length_append]
      have := g.on
      simp
      omega
theorem opAt_toL {l : OpL} {o : OpV} {i : Nat} (hi : i < l.n) : opAt (l.toL ++ [o]) i = l.f i := by simp [opAt, OpL.toL, List.getElem?_append, hi]
theorem opAt_end {l : OpL} {o : OpV} : opAt (l.toL ++ [o]) l.n = o := by simp [opAt, OpL.toL]
theorem do_sz {W : World} {d : DiskV} {o : OpV} {al as_ ao : Option Addr} {ax ay az : Nat} (hd : d.at W) (hc : doC d o = 0) (ho : o.wf) (hz : o.data.size ≤ 1048576) :
    (mkD al ax as_ ay ao az (doLi d o) (doSa d) (doOp d o)).osz ≤ d.osz + 1 + o.sz ∧ (mkD al ax as_ ay ao az (doLi d o) (doSa d) (doOp d o)).sz ≤ 412120 + (d.osz + 1 + o.sz) := by
  obtain ⟨g, h2, h3, _⟩ := do_good hd hc ho hz
  have e1 := fsOk_sz (n := (doLi d o).length) (f := fileAt (doLi d o)) g.ok
  have e2 := fsOk_sz (n := (doSa d).length) (f := fileAt (doSa d)) h2
  have e3 : (mkD al ax as_ ay ao az (doLi d o) (doSa d) (doOp d o)).osz ≤ d.osz + 1 + o.sz := by
    show (doOp d o).length + tot (fun i => (opAt (doOp d o) i).sz) (doOp d o).length ≤ _
    rw [h3]
    have el : (d.ops.toL ++ [o]).length = d.ops.n + 1 := by rw [List.length_append, OpL.toL_len]; rfl
    rw [el]
    show d.ops.n + 1 + (tot (fun i => (opAt (d.ops.toL ++ [o]) i).sz) d.ops.n + (opAt (d.ops.toL ++ [o]) d.ops.n).sz) ≤ _
    rw [opAt_end, tot_ext (h := fun i => (d.ops.f i).sz) fun i hi => by rw [opAt_toL hi]]
    unfold DiskV.osz
    omega
  refine ⟨e3, ?_⟩
  have e4 : d.osz = d.ops.n + tot (fun i => (d.ops.f i).sz) d.ops.n := rfl
  unfold DiskV.osz mkD at e3
  unfold DiskV.sz mkD
  simp only at e3 ⊢
  omega
def opb : OpV := ⟨1, ⟨#[98]⟩, ⟨#[]⟩, ⟨#[]⟩⟩
/-- the model's Do of a small op, by disks -/
theorem specDo_D (d : DiskV) (W : World) (hd : d.at W) (hs : d.sz ≤ 1048576) (ho : d.osz ≤ 600000) :
    Calls Try.prog 15 #[.agg #[.slice d.live.a d.live.n d.live.k, .slice d.safe.a d.safe.n d.safe.k, .slice d.ops.a d.ops.n d.ops.k], .agg #[.int .i64 1, .string ⟨#[98]⟩, .string ⟨#[]⟩, .string ⟨#[]⟩]] W fun e w' => ∃ (c : Int) (D : DiskV), e = .returned (.tuple #[.agg #[.slice D.live.a D.live.n D.live.k, .slice D.safe.a D.safe.n D.safe.k, .slice D.ops.a D.ops.n D.ops.k], .int .i64 c]) ∧ (c = 0 → D.at w' ∧ D.new W.heap.size ∧ D.sz ≤ 1048576 ∧ D.osz ≤ d.osz + 2) ∧ Below W.heap.size W w' := by
  refine (specDo_any d opb W hd hs ⟨by decide, by decide, by decide⟩ (by decide)).mono ?_
  rintro e w' ⟨vl, vs, vo, rfl, h2, h3⟩
  obtain ⟨bl, bx, rfl⟩ := h2.l.shape
  obtain ⟨bs, by_, rfl⟩ := h2.s.shape
  obtain ⟨bo, bz, rfl⟩ := h2.o.shape
  refine ⟨doC d opb, mkD bl bx bs by_ bo bz (doLi d opb) (doSa d) (doOp d opb), rfl, fun hc => ?_, h3⟩
  obtain ⟨g, _, _⟩ := do_good hd hc ⟨by decide, by decide, by decide⟩ (by decide)
  have hz := do_sz (al := bl) (ax := bx) (as_ := bs) (ay := by_) (ao := bo) (az := bz) hd hc ⟨by decide, by decide, by decide⟩ (by decide)
  have eo : opb.sz = 1 := by decide
  have l1 := (okL_bytes g.ok).2
  have hh := h2.disk g.lw g.sw g.ow (by omega) g.sn (by have := g.on; omega)
  exact ⟨hh.1, hh.2, by omega, by omega⟩
end Go.Proofs.Ytcchpeebhkiacaa
/- DrawDo. -/
namespace Go.Proofs.Ytcchpeebhkiacaa
open Go Go.RowKit Go.Deep Go.Maps

theorem FilesAt.kept2 {V W W' : World} {a : Option Addr} {n B : Nat} {f g : Nat → FileV} (hV : FilesAt V a n g) (h : FilesAt W a n f) (hn : NewA B a n) (hs : W.heap.size ≤ W'.heap.size) (hk : ∀ k, B ≤ k → k < V.heap.size → W'.heap[k]? = W.heap[k]?) : FilesAt W' a n f := fun h0 => by
  obtain ⟨b, off, e, hlt, hc⟩ := h h0
  obtain ⟨b', off', e', hb⟩ := hn h0
  obtain ⟨b2, off2, e2, hl2, _⟩ := hV h0
  rw [e] at e' e2
  cases e'
  cases e2
  refine ⟨b, off, e, Nat.lt_of_lt_of_le hlt hs, fun i hi => ?_⟩
  obtain ⟨h1, h2⟩ := hc i hi
  exact ⟨(World.cell?_of_block (w := W) (hk b hb hl2)).trans h1, (World.cell?_of_block (w := W) (hk b hb hl2)).trans h2⟩
theorem DOpsAt.kept2 {V W W' : World} {a : Option Addr} {n B : Nat} {f g : Nat → OpV} (hV : DOpsAt V a n g) (h : DOpsAt W a n f) (hn : NewA B a n) (hs : W.heap.size ≤ W'.heap.size) (hk : ∀ k, B ≤ k → k < V.heap.size → W'.heap[k]? = W.heap[k]?) : DOpsAt W' a n f := fun h0 => by
  obtain ⟨b, off, e, hlt, hc⟩ := h h0
  obtain ⟨b', off', e', hb⟩ := hn h0
  obtain ⟨b2, off2, e2, hl2, _⟩ := hV h0
  rw [e] at e' e2
  cases e'
  cases e2
  refine ⟨b, off, e, Nat.lt_of_lt_of_le hlt hs, fun i hi => ?_⟩
  obtain ⟨h1, h2, h3, h4⟩ := hc i hi
  exact ⟨(World.cell?_of_block (w := W) (hk b hb hl2)).trans h1, (World.cell?_of_block (w := W) (hk b hb hl2)).trans h2, (World.cell?_of_block (w := W) (hk b hb hl2)).trans h3, (World.cell?_of_block (w := W) (hk b hb hl2)).trans h4⟩
theorem DiskV.at.kept2 {V W W' : World} {d : DiskV} {B : Nat} (hV : d.at V) (h : d.at W) (hn : d.new B) (hs : W.heap.size ≤ W'.heap.size) (hk : ∀ k, B ≤ k → k < V.heap.size → W'.heap[k]? = W.heap[k]?) : d.at W' :=
  ⟨⟨h.1.1, FilesAt.kept2 hV.1.2.1 h.1.2.1 hn.1 hs hk, h.1.2.2⟩, ⟨h.2.1.1, FilesAt.kept2 hV.2.1.2.1 h.2.1.2.1 hn.2.1 hs hk, h.2.1.2.2⟩, ⟨h.2.2.1, DOpsAt.kept2 hV.2.2.2.1 h.2.2.2.1 hn.2.2 hs hk, h.2.2.2.2⟩⟩
theorem NewA.mono {B C : Nat} {a : Option Addr} {n : Nat} (h : NewA B a n) (hc : C ≤ B) : NewA C a n := fun hn => by
  obtain ⟨b, off, e, hb⟩ := h hn
  exact ⟨b, off, e, Nat.le_trans hc hb⟩
theorem DiskV.new.mono {B C : Nat} {d : DiskV} (h : d.new B) (hc : C ≤ B) : d.new C := ⟨NewA.mono h.1 hc, NewA.mono h.2.1 hc, NewA.mono h.2.2 hc⟩
/-- what stands in memory while an op is drawn -/
structure DoSt (w w0 : World) (rb : Nat) (a : Option Addr) (n cap B PD PO : Nat) (wr : World) (d : DiskV) (o : OpV) : Prop where
  dat : d.at wr
  dnew : d.new B
  hd : Blk wr PD (.cells #[.slice d.live.a d.live.n d.live.k, .slice d.safe.a d.safe.n d.safe.k, .slice d.ops.a d.ops.n d.ops.k] 27)
  ho : Blk wr PO (.cells #[.int .i64 o.kind, .string o.name, .string o.to, .string o.data] 36)
  r1 : Blk wr w.heap.size (.cells #[.slice none 0 0, .slice none 0 0, .slice none 0 0] 27)
  r2 : Blk wr (w.heap.size + 1) (.cells #[.int .i64 0, .string ⟨#[]⟩, .string ⟨#[]⟩, .string ⟨#[]⟩] 36)
  rd : Rd w0 wr rb a n cap
  be : Below w.heap.size w wr
  l0 : w.heap.size + 2 ≤ w0.heap.size
  l1 : w0.heap.size ≤ rb
  l2 : rb < B
  l3 : B ≤ PD
  l4 : PD < PO
theorem DoSt.grown {w w0 : World} {rb : Nat} {a : Option Addr} {n cap B PD PO : Nat} {wr : World} {d : DiskV} {o : OpV} {wr' : World} (h : DoSt w w0 rb a n cap B PD PO wr d o) (hg : wr.grownBy wr' (some rb)) (hr : Rd w0 wr' rb a n cap) : DoSt w w0 rb a n cap B PD PO wr' d o := by
  obtain ⟨h1, h2, h3, h4, h5, h6, h7, h8, l0, l1, l2, l3, l4⟩ := h
  exact ⟨h1.grown h2 hg l2, h2, h3.grown hg (by simp; omega), h4.grown hg (by simp; omega), h5.grown hg (by simp; omega), h6.grown hg (by simp; omega), hr, h8.trans (below_grown hg h8.size (fun j e => by cases e; omega)), l0, l1, l2, l3, l4⟩
theorem DoSt.below {w w0 : World} {rb : Nat} {a : Option Addr} {n cap B PD PO : Nat} {wr : World} {d : DiskV} {o : OpV} {wr' : World} (h : DoSt w w0 rb a n cap B PD PO wr d o) (hb : Below wr.heap.size wr wr') : DoSt w w0 rb a n cap B PD PO wr' d o :=
  ⟨h.dat.below hb, h.dnew, h.hd.below hb, h.ho.below hb, h.r1.below hb, h.r2.below hb, h.rd.below hb, h.be.trans (hb.mono h.be.size), h.l0, h.l1, h.l2, h.l3, h.l4⟩
/-- one field of the op is set -/
theorem DoSt.setO {w w0 : World} {rb : Nat} {a : Option Addr} {n cap B PD PO : Nat} {wr : World} {d : DiskV} {o : OpV} {V : World} {i : Nat} {v : Value} {p : OpV} (h : DoSt w w0 rb a n cap B PD PO wr d o) (hV : d.at V) (hl : V.heap.size ≤ PO) (hp : Blk (wr.setCell ⟨PO, i, none⟩ v) PO (.cells #[.int .i64 p.kind, .string p.name, .string p.to, .string p.data] 36)) : DoSt w w0 rb a n cap B PD PO (wr.setCell ⟨PO, i, none⟩ v) d p := by
  obtain ⟨h1, h2, h3, h4, h5, h6, h7, h8, l0, l1, l2, l3, l4⟩ := h
  have e0 := h8.size
  have e1 := h6.lt
  exact ⟨DiskV.at.kept2 hV h1 h2 (by simp only [nblk_setCell]; exact Nat.le_refl _) (fun k _ hk => blk_setCell_other _ _ _ _ (by dsimp only; omega)), h2, h3.other (by omega) v, hp, h5.other (by omega) v, h6.other (by omega) v, h7.new (by omega) (by omega), h8.setCell (by dsimp only; omega) v, l0, l1, l2, l3, l4⟩
/-- a new disk is put into its box -/
theorem DoSt.put {w w0 : World} {rb : Nat} {a : Option Addr} {n cap B PD PO : Nat} {wr : World} {d : DiskV} {o : OpV} {D : DiskV} {C : Nat} (h : DoSt w w0 rb a n cap B PD PO wr d o) (hD : D.at wr) (hn : D.new C) (hC : PO < C) : DoSt w w0 rb a n cap B PD PO (((wr.setCell ⟨PD, 0, none⟩ (.slice D.live.a D.live.n D.live.k)).setCell ⟨PD, 1, none⟩ (.slice D.safe.a D.safe.n D.safe.k)).setCell ⟨PD, 2, none⟩ (.slice D.ops.a D.ops.n D.ops.k)) D o := by
  obtain ⟨h1, h2, h3, h4, h5, h6, h7, h8, l0, l1, l2, l3, l4⟩ := h
  exact ⟨hD.set3 hn (by omega) _ _ _, hn.mono (by omega), h3.put3' _ _ _, h4.other3 (by omega) _ _ _, h5.other3 (by omega) _ _ _, h6.other3 (by omega) _ _ _, h7.new3 (by omega) (by omega) _ _ _, set3_low h8 (by omega) _ _ _, l0, l1, l2, l3, l4⟩
theorem do_results {F : Func} (tmps : Array Value) (W : World) (P R : Nat) (x y z : Value) (p q r s : Value) (hF : F.results = #[.cell 2 27, .cell 3 36]) (h : Blk W P (.cells #[x, y, z] 27)) (k : Blk W R (.cells #[p, q, r, s] 36)) (h2 : tmps[2]? = some (.pointer (some ⟨P, 0, none⟩))) (h3 : tmps[3]? = some (.pointer (some ⟨R, 0, none⟩))) :
    (results F tmps).run Try.prog W = .ok (.tuple #[.agg #[x, y, z], .agg #[p, q, r, s]]) W := by
  obtain ⟨z0, z1, z2⟩ := h.three
  obtain ⟨y0, y1, y2, y3⟩ := k.four
  simp [results, hF, go_sem, h2, h3, z0, z1, z2, y0, y1, y2, y3]
theorem Blk.other4 {W : World} {P Q : Nat} {o : Obj} (h : Blk W P o) (hne : Q ≠ P) (x y z u : Value) : Blk ((((W.setCell ⟨Q, 0, none⟩ x).setCell ⟨Q, 1, none⟩ y).setCell ⟨Q, 2, none⟩ z).setCell ⟨Q, 3, none⟩ u) P o := (((h.other hne x).other hne y).other hne z).other hne u
/-- at the end both boxes are written -/
theorem DoSt.fin {w w0 : World} {rb : Nat} {a : Option Addr} {n cap B PD PO : Nat} {wr : World} {d : DiskV} {o : OpV} (h : DoSt w w0 rb a n cap B PD PO wr d o) : d.at (((((((wr.setCell ⟨w.heap.size, 0, none⟩ (.slice d.live.a d.live.n d.live.k)).setCell ⟨w.heap.size, 1, none⟩ (.slice d.safe.a d.safe.n d.safe.k)).setCell ⟨w.heap.size, 2, none⟩ (.slice d.ops.a d.ops.n d.ops.k)).setCell ⟨w.heap.size + 1, 0, none⟩ (.int .i64 o.kind)).setCell ⟨w.heap.size + 1, 1, none⟩ (.string o.name)).setCell ⟨w.heap.size + 1, 2, none⟩ (.string o.to)).setCell ⟨w.heap.size + 1, 3, none⟩ (.string o.data)) ∧ Below w.heap.size w (((((((wr.setCell ⟨w.heap.size, 0, none⟩ (.slice d.live.a d.live.n d.live.k)).setCell ⟨w.heap.size, 1, none⟩ (.slice d.safe.a d.safe.n d.safe.k)).setCell ⟨w.heap.size, 2, none⟩ (.slice d.ops.a d.ops.n d.ops.k)).setCell ⟨w.heap.size + 1, 0, none⟩ (.int .i64 o.kind)).setCell ⟨w.heap.size + 1, 1, none⟩ (.string o.name)).setCell ⟨w.heap.size + 1, 2, none⟩ (.string o.to)).setCell ⟨w.heap.size + 1, 3, none⟩ (.string o.data)) := by
  obtain ⟨h1, h2, h3, h4, h5, h6, h7, h8, l0, l1, l2, l3, l4⟩ := h
  refine ⟨(h1.set3 h2 (P := w.heap.size) (by omega) (.slice d.live.a d.live.n d.live.k) (.slice d.safe.a d.safe.n d.safe.k) (.slice d.ops.a d.ops.n d.ops.k)).kept h2 (by simp only [nblk_setCell]; exact Nat.le_refl _) (fun k hk _ => ?_), ?_⟩
  · rw [blk_setCell_other _ _ _ _ (by dsimp only; omega), blk_setCell_other _ _ _ _ (by dsimp only; omega), blk_setCell_other _ _ _ _ (by dsimp only; omega), blk_setCell_other _ _ _ _ (by dsimp only; omega)]
  · iterate 4 refine Below.setCell ?_ (by dsimp only; omega) _
    exact set3_low h8 (Nat.le_refl _) _ _ _

set_option maxRecDepth 100000 in
set_option maxHeartbeats 16000000 in
theorem drawDo_any (a : Option Addr) (n cap : Nat) (w : World) (hn : n ≤ 1048576) (hb : BytesAt w a n) :
    Calls Try.prog 13 #[.slice a n cap] w fun e w' => ∃ (d : DiskV) (o : OpV), e = .returned (.tuple #[d.val, o.val]) ∧ d.at w' ∧ (d.sz ≤ 1048576 ∧ d.osz ≤ 600000) ∧ (o.name.size ≤ 8 ∧ o.to.size ≤ 8 ∧ o.data.size ≤ 8) ∧ Below w.heap.size w w' := by
  obtain ⟨A0, O0, b0⟩ := two_boxes w (.cells #[.slice none 0 0, .slice none 0 0, .slice none 0 0] 27) (.cells #[.int .i64 0, .string ⟨#[]⟩, .string ⟨#[]⟩, .string ⟨#[]⟩] 36)
  have hsz : ((w.alloc (.cells #[.slice none 0 0, .slice none 0 0, .slice none 0 0] 27)).alloc (.cells #[.int .i64 0, .string ⟨#[]⟩, .string ⟨#[]⟩, .string ⟨#[]⟩] 36)).heap.size = w.heap.size + 2 := by simp
  have C1 := hid (l1Open_any a n cap _ hn (hb.below b0))
  clear hb
  go_enter Try.func13, Try.ntmps13
  go_wp2_with fail
  refine C1.out.mono ?_
  rintro e w1 ⟨rb, rfl, R1⟩
  have hr := R1.le
  have lr := R1.lt
  have A1 := A0.below R1.E
  have O1 := O0.below R1.E
  have B1 := then_ b0 R1.E
  have C2 := hid (disk_any _ rb a n cap w1 R1)
  clear C1 R1
  go_wp2_with fail
  refine C2.out.mono ?_
  rintro e w2 ⟨d, rfl, hd, hs, hw, R2, g2⟩
  have A2 := A1.grown g2 (by simp; omega)
  have O2 := O1.grown g2 (by simp; omega)
  have B2 := B1.trans (below_grown g2 B1.size (fun j e => by cases e; omega))
  have s2 := g2.size
  unfold DiskV.val
  have bd : Below w2.heap.size w2 (w2.alloc (.cells #[.slice d.live.a d.live.n d.live.k, .slice d.safe.a d.safe.n d.safe.k, .slice d.ops.a d.ops.n d.ops.k] 27)) := (Below.refl _ w2).alloc (Nat.le_refl _) _
  have D3 := Blk.new w2 (.cells #[.slice d.live.a d.live.n d.live.k, .slice d.safe.a d.safe.n d.safe.k, .slice d.ops.a d.ops.n d.ops.k] 27)
  have C3 := hid (dop_any _ rb a n cap _ (R2.below bd))
  clear C2 A0 A1 O0 O1 B1
  go_wp2_with fail
  refine C3.out.mono ?_
  rintro e w3 ⟨o, rfl, ho, R3, g3⟩
  have l23 : w2.heap.size < w3.heap.size := by have := g3.size; simp at this; omega
  unfold OpV.val
  have bo : Below w3.heap.size w3 (w3.alloc (.cells #[.int .i64 o.kind, .string o.name, .string o.to, .string o.data] 36)) := (Below.refl _ w3).alloc (Nat.le_refl _) _
  have HD := hid hd
  have S3 : Hid (DoSt w ((w.alloc (.cells #[.slice none 0 0, .slice none 0 0, .slice none 0 0] 27)).alloc (.cells #[.int .i64 0, .string ⟨#[]⟩, .string ⟨#[]⟩, .string ⟨#[]⟩] 36)) rb a n cap w1.heap.size w2.heap.size w3.heap.size (w3.alloc (.cells #[.int .i64 o.kind, .string o.name, .string o.to, .string o.data] 36)) d o) := hid ⟨((hd.below bd).grown hw g3 lr).below bo, hw, (D3.grown g3 (by simp; omega)).below bo, Blk.new w3 _, ((A2.below bd).grown g3 (by simp; omega)).below bo, ((O2.below bd).grown g3 (by simp; omega)).below bo, R3.below bo, ((then_ B2 bd).trans (below_grown g3 (then_ B2 bd).size (fun j e => by cases e; omega))).trans (bo.mono (by have := B2.size; omega)), by omega, hr, lr, s2, l23⟩
  have OZ : Hid (d.osz ≤ 500000) := hid (by unfold DiskV.osz; unfold DiskV.sz at hs; omega)
  have C4 := hid (below_any _ rb a n cap 20 _ (by omega) S3.out.rd)
  have hs' : d.sz ≤ 1048576 := by omega
  clear C3 A2 O2 B2 bd D3 bo hd hw R2 g2 R3 g3 hs b0
  generalize ((w.alloc (.cells #[.slice none 0 0, .slice none 0 0, .slice none 0 0] 27)).alloc (.cells #[.int .i64 0, .string ⟨#[]⟩, .string ⟨#[]⟩, .string ⟨#[]⟩] 36)) = w0 at *
  go_wp2_with fail
  refine C4.out.mono ?_
  rintro e w4 ⟨y, rfl, _, hy20, R4, g4⟩
  have hy : y < 20 := hy20 (by omega)
  have S4 := hid (S3.out.grown g4 R4)
  clear C4 S3 R4 g4 hy20
  by_cases y0 : y = 0
  · subst y0
    have C5 := hid (off_big _ rb a n cap 1 3 _ (by omega) (by omega) S4.out.rd)
    go_wp2_with fail
    refine C5.out.mono ?_
    rintro e w5 ⟨x, rfl, hx, R5, g5⟩
    have S5 := hid (S4.out.grown g5 R5)
    clear C5 S4 R5 g5 hx
    have S6 := hid (S5.out.setO (i := 0) (v := .int .i64 x) (p := ⟨x, o.name, o.to, o.data⟩) HD.out (by omega) (S5.out.ho.setAt (i := 0) _))
    obtain ⟨t0, t1, t2, t3⟩ := S5.out.ho.four
    have tf := S5.out.ho.warm
    go_wp2_with fail
    generalize (w5.setCell ⟨w3.heap.size, 0, none⟩ (.int .i64 x)) = W at *
    have SD := hid (S6.out.below (Below.refl _ _).drew)
    have EN := hid S6.out.fin
    obtain ⟨x0, x1, x2⟩ := SD.out.hd.three
    obtain ⟨y0, y1, y2, y3⟩ := SD.out.ho.four
    obtain ⟨r0, r1, r2⟩ := SD.out.r1.three
    obtain ⟨q0, q1, q2, q3⟩ := SD.out.r2.four
    have rf := SD.out.r1.warm
    have qf := SD.out.r2.warm
    obtain ⟨ra0, ra1, ra2⟩ := S6.out.r1.three
    obtain ⟨qa0, qa1, qa2, qa3⟩ := S6.out.r2.four
    have raf := S6.out.r1.warm
    have qaf := S6.out.r2.warm
    have k1 : ¬ w.heap.size = w2.heap.size := by omega
    have k2 : ¬ w.heap.size = w3.heap.size := by omega
    have k3 : ¬ w.heap.size + 1 = w2.heap.size := by omega
    have k4 : ¬ w.heap.size + 1 = w3.heap.size := by omega
    have k6 : ¬ w2.heap.size = w.heap.size := by omega
    have k7 : ¬ w3.heap.size = w.heap.size := by omega
    have k8 : ¬ w2.heap.size = w.heap.size + 1 := by omega
    have k9 : ¬ w3.heap.size = w.heap.size + 1 := by omega
    have k5 : ¬ w.heap.size + 1 = w.heap.size := by omega
    have H3 := hid (And.intro ((S6.out.hd.other3 (Q := w.heap.size) k1 (.slice d.live.a d.live.n d.live.k) (.slice d.safe.a d.safe.n d.safe.k) (.slice d.ops.a d.ops.n d.ops.k)).below (Below.refl _ _).drew) ((S6.out.ho.other3 (Q := w.heap.size) k2 (.slice d.live.a d.live.n d.live.k) (.slice d.safe.a d.safe.n d.safe.k) (.slice d.ops.a d.ops.n d.ops.k)).below (Below.refl _ _).drew))
    have H4 := hid (And.intro (((S6.out.hd.other3 (Q := w.heap.size) k1 (.slice d.live.a d.live.n d.live.k) (.slice d.safe.a d.safe.n d.safe.k) (.slice d.ops.a d.ops.n d.ops.k)).other4 (Q := w.heap.size + 1) k3 (.int .i64 (⟨x, o.name, o.to, o.data⟩ : OpV).kind) (.string (⟨x, o.name, o.to, o.data⟩ : OpV).name) (.string (⟨x, o.name, o.to, o.data⟩ : OpV).to) (.string (⟨x, o.name, o.to, o.data⟩ : OpV).data)).below (Below.refl _ _).drew) (((S6.out.ho.other3 (Q := w.heap.size) k2 (.slice d.live.a d.live.n d.live.k) (.slice d.safe.a d.safe.n d.safe.k) (.slice d.ops.a d.ops.n d.ops.k)).other4 (Q := w.heap.size + 1) k4 (.int .i64 (⟨x, o.name, o.to, o.data⟩ : OpV).kind) (.string (⟨x, o.name, o.to, o.data⟩ : OpV).name) (.string (⟨x, o.name, o.to, o.data⟩ : OpV).to) (.string (⟨x, o.name, o.to, o.data⟩ : OpV).data)).below (Below.refl _ _).drew))
    have Z3 := hid ((S6.out.r2.other3 (Q := w.heap.size) (fun e => k5 e.symm) (.slice d.live.a d.live.n d.live.k) (.slice d.safe.a d.safe.n d.safe.k) (.slice d.ops.a d.ops.n d.ops.k)).below (Below.refl _ _).drew)
    obtain ⟨qb0, qb1, qb2, qb3⟩ := Z3.out.four
    have qbf := Z3.out.warm
    go_region_held3 (fun w' => (w'.cell? ⟨w2.heap.size, 0, none⟩ = some (.slice d.live.a d.live.n d.live.k) ∧ w'.cell? ⟨w2.heap.size, 1, none⟩ = some (.slice d.safe.a d.safe.n d.safe.k) ∧ w'.cell? ⟨w2.heap.size, 2, none⟩ = some (.slice d.ops.a d.ops.n d.ops.k)) ∧ (w'.cell? ⟨w3.heap.size, 0, none⟩ = some (.int .i64 (⟨x, o.name, o.to, o.data⟩ : OpV).kind) ∧ w'.cell? ⟨w3.heap.size, 1, none⟩ = some (.string (⟨x, o.name, o.to, o.data⟩ : OpV).name) ∧ w'.cell? ⟨w3.heap.size, 2, none⟩ = some (.string (⟨x, o.name, o.to, o.data⟩ : OpV).to) ∧ w'.cell? ⟨w3.heap.size, 3, none⟩ = some (.string (⟨x, o.name, o.to, o.data⟩ : OpV).data))) (first | with_reducible exact ⟨⟨x0, x1, x2⟩, ⟨y0, y1, y2, y3⟩⟩ | with_reducible exact ⟨H3.out.1.three, H3.out.2.four⟩ | with_reducible exact ⟨H4.out.1.three, H4.out.2.four⟩ | go_keep | (simp only [*, and_self])) (fail)
    all_goals (
      go_wp2
      exact bodyPost_ret (do_results _ _ w.heap.size (w.heap.size + 1) _ _ _ _ _ _ _ Try.results13 (((S6.out.r1.put3' _ _ _).other4 (by omega) _ _ _ _).below (Below.refl _ _).drew) (((S6.out.r2.other3 (by omega) _ _ _).put4 _ _ _ _).below (Below.refl _ _).drew) rfl rfl) rfl ⟨d, (⟨x, o.name, o.to, o.data⟩ : OpV), rfl, EN.out.1.below (Below.refl _ _).drew, ⟨hs', Nat.le_trans OZ.out (by omega)⟩, ho, EN.out.2.drew⟩)

  by_cases y1 : y = 1
  · subst y1
    have S6 := hid (S4.out.setO (i := 1) (v := .string ⟨#[]⟩) (p := ⟨o.kind, ⟨#[]⟩, o.to, o.data⟩) HD.out (by omega) (S4.out.ho.setAt (i := 1) _))
    obtain ⟨t0, t1, t2, t3⟩ := S4.out.ho.four
    have tf := S4.out.ho.warm
    go_wp2_with fail
    generalize (w4.setCell ⟨w3.heap.size, 1, none⟩ (.string ⟨#[]⟩)) = W at *
    have SD := hid (S6.out.below (Below.refl _ _).drew)
    have EN := hid S6.out.fin
    obtain ⟨x0, x1, x2⟩ := SD.out.hd.three
    obtain ⟨y0, y1, y2, y3⟩ := SD.out.ho.four
    obtain ⟨r0, r1, r2⟩ := SD.out.r1.three
    obtain ⟨q0, q1, q2, q3⟩ := SD.out.r2.four
    have rf := SD.out.r1.warm
    have qf := SD.out.r2.warm
    obtain ⟨ra0, ra1, ra2⟩ := S6.out.r1.three
    obtain ⟨qa0, qa1, qa2, qa3⟩ := S6.out.r2.four
    have raf := S6.out.r1.warm
    have qaf := S6.out.r2.warm
    have k1 : ¬ w.heap.size = w2.heap.size := by omega
    have k2 : ¬ w.heap.size = w3.heap.size := by omega
    have k3 : ¬ w.heap.size + 1 = w2.heap.size := by omega
    have k4 : ¬ w.heap.size + 1 = w3.heap.size := by omega
    have k6 : ¬ w2.heap.size = w.heap.size := by omega
    have k7 : ¬ w3.heap.size = w.heap.size := by omega
    have k8 : ¬ w2.heap.size = w.heap.size + 1 := by omega
    have k9 : ¬ w3.heap.size = w.heap.size + 1 := by omega
    have k5 : ¬ w.heap.size + 1 = w.heap.size := by omega
    have H3 := hid (And.intro ((S6.out.hd.other3 (Q := w.heap.size) k1 (.slice d.live.a d.live.n d.live.k) (.slice d.safe.a d.safe.n d.safe.k) (.slice d.ops.a d.ops.n d.ops.k)).below (Below.refl _ _).drew) ((S6.out.ho.other3 (Q := w.heap.size) k2 (.slice d.live.a d.live.n d.live.k) (.slice d.safe.a d.safe.n d.safe.k) (.slice d.ops.a d.ops.n d.ops.k)).below (Below.refl _ _).drew))
    have H4 := hid (And.intro (((S6.out.hd.other3 (Q := w.heap.size) k1 (.slice d.live.a d.live.n d.live.k) (.slice d.safe.a d.safe.n d.safe.k) (.slice d.ops.a d.ops.n d.ops.k)).other4 (Q := w.heap.size + 1) k3 (.int .i64 (⟨o.kind, ⟨#[]⟩, o.to, o.data⟩ : OpV).kind) (.string (⟨o.kind, ⟨#[]⟩, o.to, o.data⟩ : OpV).name) (.string (⟨o.kind, ⟨#[]⟩, o.to, o.data⟩ : OpV).to) (.string (⟨o.kind, ⟨#[]⟩, o.to, o.data⟩ : OpV).data)).below (Below.refl _ _).drew) (((S6.out.ho.other3 (Q := w.heap.size) k2 (.slice d.live.a d.live.n d.live.k) (.slice d.safe.a d.safe.n d.safe.k) (.slice d.ops.a d.ops.n d.ops.k)).other4 (Q := w.heap.size + 1) k4 (.int .i64 (⟨o.kind, ⟨#[]⟩, o.to, o.data⟩ : OpV).kind) (.string (⟨o.kind, ⟨#[]⟩, o.to, o.data⟩ : OpV).name) (.string (⟨o.kind, ⟨#[]⟩, o.to, o.data⟩ : OpV).to) (.string (⟨o.kind, ⟨#[]⟩, o.to, o.data⟩ : OpV).data)).below (Below.refl _ _).drew))
    have Z3 := hid ((S6.out.r2.other3 (Q := w.heap.size) (fun e => k5 e.symm) (.slice d.live.a d.live.n d.live.k) (.slice d.safe.a d.safe.n d.safe.k) (.slice d.ops.a d.ops.n d.ops.k)).below (Below.refl _ _).drew)
    obtain ⟨qb0, qb1, qb2, qb3⟩ := Z3.out.four
    have qbf := Z3.out.warm
    go_region_held3 (fun w' => (w'.cell? ⟨w2.heap.size, 0, none⟩ = some (.slice d.live.a d.live.n d.live.k) ∧ w'.cell? ⟨w2.heap.size, 1, none⟩ = some (.slice d.safe.a d.safe.n d.safe.k) ∧ w'.cell? ⟨w2.heap.size, 2, none⟩ = some (.slice d.ops.a d.ops.n d.ops.k)) ∧ (w'.cell? ⟨w3.heap.size, 0, none⟩ = some (.int .i64 (⟨o.kind, ⟨#[]⟩, o.to, o.data⟩ : OpV).kind) ∧ w'.cell? ⟨w3.heap.size, 1, none⟩ = some (.string (⟨o.kind, ⟨#[]⟩, o.to, o.data⟩ : OpV).name) ∧ w'.cell? ⟨w3.heap.size, 2, none⟩ = some (.string (⟨o.kind, ⟨#[]⟩, o.to, o.data⟩ : OpV).to) ∧ w'.cell? ⟨w3.heap.size, 3, none⟩ = some (.string (⟨o.kind, ⟨#[]⟩, o.to, o.data⟩ : OpV).data))) (first | with_reducible exact ⟨⟨x0, x1, x2⟩, ⟨y0, y1, y2, y3⟩⟩ | with_reducible exact ⟨H3.out.1.three, H3.out.2.four⟩ | with_reducible exact ⟨H4.out.1.three, H4.out.2.four⟩ | go_keep | (simp only [*, and_self])) (fail)
    all_goals (
      go_wp2
      exact bodyPost_ret (do_results _ _ w.heap.size (w.heap.size + 1) _ _ _ _ _ _ _ Try.results13 (((S6.out.r1.put3' _ _ _).other4 (by omega) _ _ _ _).below (Below.refl _ _).drew) (((S6.out.r2.other3 (by omega) _ _ _).put4 _ _ _ _).below (Below.refl _ _).drew) rfl rfl) rfl ⟨d, (⟨o.kind, ⟨#[]⟩, o.to, o.data⟩ : OpV), rfl, EN.out.1.below (Below.refl _ _).drew, ⟨hs', Nat.le_trans OZ.out (by omega)⟩, ⟨Nat.zero_le _, ho.2⟩, EN.out.2.drew⟩)

  by_cases y2 : y = 2
  · subst y2
    have S6 := hid (S4.out.setO (i := 2) (v := .string ⟨#[120]⟩) (p := ⟨o.kind, o.name, ⟨#[120]⟩, o.data⟩) HD.out (by omega) (S4.out.ho.setAt (i := 2) _))
    obtain ⟨t0, t1, t2, t3⟩ := S4.out.ho.four
    have tf := S4.out.ho.warm
    go_wp2_with fail
    generalize (w4.setCell ⟨w3.heap.size, 2, none⟩ (.string ⟨#[120]⟩)) = W at *
    have SD := hid (S6.out.below (Below.refl _ _).drew)
    have EN := hid S6.out.fin
    obtain ⟨x0, x1, x2⟩ := SD.out.hd.three
    obtain ⟨y0, y1, y2, y3⟩ := SD.out.ho.four
    obtain ⟨r0, r1, r2⟩ := SD.out.r1.three
    obtain ⟨q0, q1, q2, q3⟩ := SD.out.r2.four
    have rf := SD.out.r1.warm
    have qf := SD.out.r2.warm
    obtain ⟨ra0, ra1, ra2⟩ := S6.out.r1.three
    obtain ⟨qa0, qa1, qa2, qa3⟩ := S6.out.r2.four
    have raf := S6.out.r1.warm
    have qaf := S6.out.r2.warm
    have k1 : ¬ w.heap.size = w2.heap.size := by omega
    have k2 : ¬ w.heap.size = w3.heap.size := by omega
    have k3 : ¬ w.heap.size + 1 = w2.heap.size := by omega
    have k4 : ¬ w.heap.size + 1 = w3.heap.size := by omega
    have k6 : ¬ w2.heap.size = w.heap.size := by omega
    have k7 : ¬ w3.heap.size = w.heap.size := by omega
    have k8 : ¬ w2.heap.size = w.heap.size + 1 := by omega
    have k9 : ¬ w3.heap.size = w.heap.size + 1 := by omega
    have k5 : ¬ w.heap.size + 1 = w.heap.size := by omega
    have H3 := hid (And.intro ((S6.out.hd.other3 (Q := w.heap.size) k1 (.slice d.live.a d.live.n d.live.k) (.slice d.safe.a d.safe.n d.safe.k) (.slice d.ops.a d.ops.n d.ops.k)).below (Below.refl _ _).drew) ((S6.out.ho.other3 (Q := w.heap.size) k2 (.slice d.live.a d.live.n d.live.k) (.slice d.safe.a d.safe.n d.safe.k) (.slice d.ops.a d.ops.n d.ops.k)).below (Below.refl _ _).drew))
    have H4 := hid (And.intro (((S6.out.hd.other3 (Q := w.heap.size) k1 (.slice d.live.a d.live.n d.live.k) (.slice d.safe.a d.safe.n d.safe.k) (.slice d.ops.a d.ops.n d.ops.k)).other4 (Q := w.heap.size + 1) k3 (.int .i64 (⟨o.kind, o.name, ⟨#[120]⟩, o.data⟩ : OpV).kind) (.string (⟨o.kind, o.name, ⟨#[120]⟩, o.data⟩ : OpV).name) (.string (⟨o.kind, o.name, ⟨#[120]⟩, o.data⟩ : OpV).to) (.string (⟨o.kind, o.name, ⟨#[120]⟩, o.data⟩ : OpV).data)).below (Below.refl _ _).drew) (((S6.out.ho.other3 (Q := w.heap.size) k2 (.slice d.live.a d.live.n d.live.k) (.slice d.safe.a d.safe.n d.safe.k) (.slice d.ops.a d.ops.n d.ops.k)).other4 (Q := w.heap.size + 1) k4 (.int .i64 (⟨o.kind, o.name, ⟨#[120]⟩, o.data⟩ : OpV).kind) (.string (⟨o.kind, o.name, ⟨#[120]⟩, o.data⟩ : OpV).name) (.string (⟨o.kind, o.name, ⟨#[120]⟩, o.data⟩ : OpV).to) (.string (⟨o.kind, o.name, ⟨#[120]⟩, o.data⟩ : OpV).data)).below (Below.refl _ _).drew))
    have Z3 := hid ((S6.out.r2.other3 (Q := w.heap.size) (fun e => k5 e.symm) (.slice d.live.a d.live.n d.live.k) (.slice d.safe.a d.safe.n d.safe.k) (.slice d.ops.a d.ops.n d.ops.k)).below (Below.refl _ _).drew)
    obtain ⟨qb0, qb1, qb2, qb3⟩ := Z3.out.four
    have qbf := Z3.out.warm
    go_region_held3 (fun w' => (w'.cell? ⟨w2.heap.size, 0, none⟩ = some (.slice d.live.a d.live.n d.live.k) ∧ w'.cell? ⟨w2.heap.size, 1, none⟩ = some (.slice d.safe.a d.safe.n d.safe.k) ∧ w'.cell? ⟨w2.heap.size, 2, none⟩ = some (.slice d.ops.a d.ops.n d.ops.k)) ∧ (w'.cell? ⟨w3.heap.size, 0, none⟩ = some (.int .i64 (⟨o.kind, o.name, ⟨#[120]⟩, o.data⟩ : OpV).kind) ∧ w'.cell? ⟨w3.heap.size, 1, none⟩ = some (.string (⟨o.kind, o.name, ⟨#[120]⟩, o.data⟩ : OpV).name) ∧ w'.cell? ⟨w3.heap.size, 2, none⟩ = some (.string (⟨o.kind, o.name, ⟨#[120]⟩, o.data⟩ : OpV).to) ∧ w'.cell? ⟨w3.heap.size, 3, none⟩ = some (.string (⟨o.kind, o.name, ⟨#[120]⟩, o.data⟩ : OpV).data))) (first | with_reducible exact ⟨⟨x0, x1, x2⟩, ⟨y0, y1, y2, y3⟩⟩ | with_reducible exact ⟨H3.out.1.three, H3.out.2.four⟩ | with_reducible exact ⟨H4.out.1.three, H4.out.2.four⟩ | go_keep | (simp only [*, and_self])) (fail)
    all_goals (
      go_wp2
      exact bodyPost_ret (do_results _ _ w.heap.size (w.heap.size + 1) _ _ _ _ _ _ _ Try.results13 (((S6.out.r1.put3' _ _ _).other4 (by omega) _ _ _ _).below (Below.refl _ _).drew) (((S6.out.r2.other3 (by omega) _ _ _).put4 _ _ _ _).below (Below.refl _ _).drew) rfl rfl) rfl ⟨d, (⟨o.kind, o.name, ⟨#[120]⟩, o.data⟩ : OpV), rfl, EN.out.1.below (Below.refl _ _).drew, ⟨hs', Nat.le_trans OZ.out (by omega)⟩, ⟨ho.1, (show (1 : Nat) ≤ 8 by omega), ho.2.2⟩, EN.out.2.drew⟩)

  by_cases y3 : y = 3
  rotate_left
  · have y0' : ¬ (y : Int) = 0 := by omega
    have y1' : ¬ (y : Int) = 1 := by omega
    have y2' : ¬ (y : Int) = 2 := by omega
    have y3' : ¬ (y : Int) = 3 := by omega
    go_wp2_with fail
    have SD := hid (S4.out.below (Below.refl _ _).drew)
    have EN := hid S4.out.fin
    obtain ⟨x0, x1, x2⟩ := SD.out.hd.three
    obtain ⟨y0, y1, y2, y3⟩ := SD.out.ho.four
    obtain ⟨r0, r1, r2⟩ := SD.out.r1.three
    obtain ⟨q0, q1, q2, q3⟩ := SD.out.r2.four
    have rf := SD.out.r1.warm
    have qf := SD.out.r2.warm
    obtain ⟨ra0, ra1, ra2⟩ := S4.out.r1.three
    obtain ⟨qa0, qa1, qa2, qa3⟩ := S4.out.r2.four
    have raf := S4.out.r1.warm
    have qaf := S4.out.r2.warm
    have k1 : ¬ w.heap.size = w2.heap.size := by omega
    have k2 : ¬ w.heap.size = w3.heap.size := by omega
    have k3 : ¬ w.heap.size + 1 = w2.heap.size := by omega
    have k4 : ¬ w.heap.size + 1 = w3.heap.size := by omega
    have k6 : ¬ w2.heap.size = w.heap.size := by omega
    have k7 : ¬ w3.heap.size = w.heap.size := by omega
    have k8 : ¬ w2.heap.size = w.heap.size + 1 := by omega
    have k9 : ¬ w3.heap.size = w.heap.size + 1 := by omega
    have k5 : ¬ w.heap.size + 1 = w.heap.size := by omega
    have H3 := hid (And.intro ((S4.out.hd.other3 (Q := w.heap.size) k1 (.slice d.live.a d.live.n d.live.k) (.slice d.safe.a d.safe.n d.safe.k) (.slice d.ops.a d.ops.n d.ops.k)).below (Below.refl _ _).drew) ((S4.out.ho.other3 (Q := w.heap.size) k2 (.slice d.live.a d.live.n d.live.k) (.slice d.safe.a d.safe.n d.safe.k) (.slice d.ops.a d.ops.n d.ops.k)).below (Below.refl _ _).drew))
    have H4 := hid (And.intro (((S4.out.hd.other3 (Q := w.heap.size) k1 (.slice d.live.a d.live.n d.live.k) (.slice d.safe.a d.safe.n d.safe.k) (.slice d.ops.a d.ops.n d.ops.k)).other4 (Q := w.heap.size + 1) k3 (.int .i64 o.kind) (.string o.name) (.string o.to) (.string o.data)).below (Below.refl _ _).drew) (((S4.out.ho.other3 (Q := w.heap.size) k2 (.slice d.live.a d.live.n d.live.k) (.slice d.safe.a d.safe.n d.safe.k) (.slice d.ops.a d.ops.n d.ops.k)).other4 (Q := w.heap.size + 1) k4 (.int .i64 o.kind) (.string o.name) (.string o.to) (.string o.data)).below (Below.refl _ _).drew))
    have Z3 := hid ((S4.out.r2.other3 (Q := w.heap.size) (fun e => k5 e.symm) (.slice d.live.a d.live.n d.live.k) (.slice d.safe.a d.safe.n d.safe.k) (.slice d.ops.a d.ops.n d.ops.k)).below (Below.refl _ _).drew)
    obtain ⟨qb0, qb1, qb2, qb3⟩ := Z3.out.four
    have qbf := Z3.out.warm
    go_region_held3 (fun w' => (w'.cell? ⟨w2.heap.size, 0, none⟩ = some (.slice d.live.a d.live.n d.live.k) ∧ w'.cell? ⟨w2.heap.size, 1, none⟩ = some (.slice d.safe.a d.safe.n d.safe.k) ∧ w'.cell? ⟨w2.heap.size, 2, none⟩ = some (.slice d.ops.a d.ops.n d.ops.k)) ∧ (w'.cell? ⟨w3.heap.size, 0, none⟩ = some (.int .i64 o.kind) ∧ w'.cell? ⟨w3.heap.size, 1, none⟩ = some (.string o.name) ∧ w'.cell? ⟨w3.heap.size, 2, none⟩ = some (.string o.to) ∧ w'.cell? ⟨w3.heap.size, 3, none⟩ = some (.string o.data))) (first | with_reducible exact ⟨⟨x0, x1, x2⟩, ⟨y0, y1, y2, y3⟩⟩ | with_reducible exact ⟨H3.out.1.three, H3.out.2.four⟩ | with_reducible exact ⟨H4.out.1.three, H4.out.2.four⟩ | go_keep | (simp only [*, and_self])) (fail)
    all_goals (
      go_wp2
      exact bodyPost_ret (do_results _ _ w.heap.size (w.heap.size + 1) _ _ _ _ _ _ _ Try.results13 (((S4.out.r1.put3' _ _ _).other4 (by omega) _ _ _ _).below (Below.refl _ _).drew) (((S4.out.r2.other3 (by omega) _ _ _).put4 _ _ _ _).below (Below.refl _ _).drew) rfl rfl) rfl ⟨d, o, rfl, EN.out.1.below (Below.refl _ _).drew, ⟨hs', Nat.le_trans OZ.out (by omega)⟩, ho, EN.out.2.drew⟩)

  subst y3
  go_wp2
  go_loopw [7] (fun i wr => ∃ (k : Nat) (D : DiskV), i = .int .i64 k ∧ k ≤ 200 ∧ DoSt w w0 rb a n cap w1.heap.size w2.heap.size w3.heap.size wr D o ∧ D.sz ≤ 1048576 ∧ D.osz ≤ 500000 + 2 * k) (fun i _ => 200 - (intOf i).toNat)
  case atStart => exact ⟨0, d, rfl, by omega, S4.out, hs', OZ.out⟩
  case round =>
    clear S4 OZ hs' HD
    obtain ⟨k, D, rfl, hk, st, hs, oz⟩ := hrel
    have ST := hid st
    have OZ := hid oz
    clear st oz
    by_cases hlt : k < 200
    · have hlt' : (k : Int) < 200 := by omega
      have BX : Hid (∀ W, Below wr.heap.size wr W → W.cell? ⟨w2.heap.size, 0, none⟩ = some (.slice D.live.a D.live.n D.live.k) ∧ W.cell? ⟨w2.heap.size, 1, none⟩ = some (.slice D.safe.a D.safe.n D.safe.k) ∧ W.cell? ⟨w2.heap.size, 2, none⟩ = some (.slice D.ops.a D.ops.n D.ops.k)) := hid (fun W hW => (ST.out.hd.below hW).three)
      have H1 := hid (below_drew (Below.refl wr.heap.size wr))
      obtain ⟨x0, x1, x2⟩ := BX.out _ H1.out
      have CB : Hid (∀ W, Below wr.heap.size wr W → Calls Try.prog 34 #[.pointer (some ⟨rb, 0, none⟩), .int .i64 2] W fun e w' => ∃ x : Nat, e = .returned (.int .i64 x) ∧ x < 2 ∧ DoSt w w0 rb a n cap w1.heap.size w2.heap.size w3.heap.size w' D o) := hid (fun W hW => (below_any _ rb a n cap 2 W (by omega) (ST.out.rd.below hW)).mono fun _ _ ⟨x, e1, _, h2, h3, h4⟩ => ⟨x, e1, h2 (by omega), (ST.out.below hW).grown h4 h3⟩)
      clear ST
      go_wp2_with fail
      go_region_held3 (fun w' => w'.cell? ⟨w2.heap.size, 0, none⟩ = some (.slice D.live.a D.live.n D.live.k) ∧ w'.cell? ⟨w2.heap.size, 1, none⟩ = some (.slice D.safe.a D.safe.n D.safe.k) ∧ w'.cell? ⟨w2.heap.size, 2, none⟩ = some (.slice D.ops.a D.ops.n D.ops.k)) (first | with_reducible exact ⟨p0, p1, p2⟩ | with_reducible exact ⟨x0, x1, x2⟩ | go_keep | (simp only [*, and_self])) (first
        | (go_at_call 34; refine (CB.out _ (by with_reducible exact H1.out)).mono ?_; rintro e w5 ⟨x, rfl, hx, d5⟩; have S5 := hid d5; obtain ⟨p0, p1, p2⟩ := S5.out.hd.three; have wx : IntKind.i64.wrap (199 + (x : Int)) = 199 + (x : Int) := (by rw [IntKind.wrap_i64]; omega); clear d5))
      all_goals (
        clear x0 x1 x2 H1 BX CB
        by_cases hc : (D.ops.n : Int) < 199 + (x : Int)
        · have CD := hid (specDo_D D w5 S5.out.dat hs (by have := OZ.out; omega))
          go_wp2_with fail
          refine CD.out.mono ?_
          rintro e w6 ⟨c, E, rfl, hE, hb6⟩
          have ab : Below w6.heap.size w6 (w6.alloc (.cells #[.slice E.live.a E.live.n E.live.k, .slice E.safe.a E.safe.n E.safe.k, .slice E.ops.a E.ops.n E.ops.k] 27)) := (Below.refl _ w6).alloc (Nat.le_refl _) _
          have HE := hid hE
          have S6 := hid (S5.out.below (then_ hb6 ab))
          have X6 := hid (Blk.new w6 (.cells #[.slice E.live.a E.live.n E.live.k, .slice E.safe.a E.safe.n E.safe.k, .slice E.ops.a E.ops.n E.ops.k] 27))
          have l5 := S5.out.ho.lt
          have HAB := hid ab
          clear CD hE ab hb6 p0 p1 p2 hc
          obtain ⟨p0, p1, p2⟩ := S6.out.hd.three
          have pf := S6.out.hd.warm
          obtain ⟨n0, n1, n2⟩ := X6.out.three
          by_cases hc0 : c = 0
          · have H7 := hid (HE.out hc0)
            have S7 := hid (S6.out.put (H7.out.1.below HAB.out) H7.out.2.1 l5)
            clear HE S6
            go_wp2
            go_roundw
            case rel => exact ⟨k + 1, E, by go_num, by omega, S7.out, H7.out.2.2.1, by have := H7.out.2.2.2; have := OZ.out; omega⟩
            case measure => simp [intOf]; omega
          · clear HE
            go_wp2
            go_roundw
            case rel => exact ⟨k + 1, D, by go_num, by omega, S6.out, hs, by have := OZ.out; omega⟩
            case measure => simp [intOf]; omega
        · clear p0 p1 p2
          go_wp2_with fail
          have SD := hid (S5.out.below (Below.refl _ _).drew)
          have EN := hid S5.out.fin
          obtain ⟨x0, x1, x2⟩ := SD.out.hd.three
          obtain ⟨y0, y1, y2, y3⟩ := SD.out.ho.four
          obtain ⟨r0, r1, r2⟩ := SD.out.r1.three
          obtain ⟨q0, q1, q2, q3⟩ := SD.out.r2.four
          have rf := SD.out.r1.warm
          have qf := SD.out.r2.warm
          obtain ⟨ra0, ra1, ra2⟩ := S5.out.r1.three
          obtain ⟨qa0, qa1, qa2, qa3⟩ := S5.out.r2.four
          have raf := S5.out.r1.warm
          have qaf := S5.out.r2.warm
          have k1 : ¬ w.heap.size = w2.heap.size := by omega
          have k2 : ¬ w.heap.size = w3.heap.size := by omega
          have k3 : ¬ w.heap.size + 1 = w2.heap.size := by omega
          have k4 : ¬ w.heap.size + 1 = w3.heap.size := by omega
          have k6 : ¬ w2.heap.size = w.heap.size := by omega
          have k7 : ¬ w3.heap.size = w.heap.size := by omega
          have k8 : ¬ w2.heap.size = w.heap.size + 1 := by omega
          have k9 : ¬ w3.heap.size = w.heap.size + 1 := by omega
          have k5 : ¬ w.heap.size + 1 = w.heap.size := by omega
          have H3 := hid (And.intro ((S5.out.hd.other3 (Q := w.heap.size) k1 (.slice D.live.a D.live.n D.live.k) (.slice D.safe.a D.safe.n D.safe.k) (.slice D.ops.a D.ops.n D.ops.k)).below (Below.refl _ _).drew) ((S5.out.ho.other3 (Q := w.heap.size) k2 (.slice D.live.a D.live.n D.live.k) (.slice D.safe.a D.safe.n D.safe.k) (.slice D.ops.a D.ops.n D.ops.k)).below (Below.refl _ _).drew))
          have H4 := hid (And.intro (((S5.out.hd.other3 (Q := w.heap.size) k1 (.slice D.live.a D.live.n D.live.k) (.slice D.safe.a D.safe.n D.safe.k) (.slice D.ops.a D.ops.n D.ops.k)).other4 (Q := w.heap.size + 1) k3 (.int .i64 o.kind) (.string o.name) (.string o.to) (.string o.data)).below (Below.refl _ _).drew) (((S5.out.ho.other3 (Q := w.heap.size) k2 (.slice D.live.a D.live.n D.live.k) (.slice D.safe.a D.safe.n D.safe.k) (.slice D.ops.a D.ops.n D.ops.k)).other4 (Q := w.heap.size + 1) k4 (.int .i64 o.kind) (.string o.name) (.string o.to) (.string o.data)).below (Below.refl _ _).drew))
          have Z3 := hid ((S5.out.r2.other3 (Q := w.heap.size) (fun e => k5 e.symm) (.slice D.live.a D.live.n D.live.k) (.slice D.safe.a D.safe.n D.safe.k) (.slice D.ops.a D.ops.n D.ops.k)).below (Below.refl _ _).drew)
          obtain ⟨qb0, qb1, qb2, qb3⟩ := Z3.out.four
          have qbf := Z3.out.warm
          go_region_held3 (fun w' => (w'.cell? ⟨w2.heap.size, 0, none⟩ = some (.slice D.live.a D.live.n D.live.k) ∧ w'.cell? ⟨w2.heap.size, 1, none⟩ = some (.slice D.safe.a D.safe.n D.safe.k) ∧ w'.cell? ⟨w2.heap.size, 2, none⟩ = some (.slice D.ops.a D.ops.n D.ops.k)) ∧ (w'.cell? ⟨w3.heap.size, 0, none⟩ = some (.int .i64 o.kind) ∧ w'.cell? ⟨w3.heap.size, 1, none⟩ = some (.string o.name) ∧ w'.cell? ⟨w3.heap.size, 2, none⟩ = some (.string o.to) ∧ w'.cell? ⟨w3.heap.size, 3, none⟩ = some (.string o.data))) (first | with_reducible exact ⟨⟨x0, x1, x2⟩, ⟨y0, y1, y2, y3⟩⟩ | with_reducible exact ⟨H3.out.1.three, H3.out.2.four⟩ | with_reducible exact ⟨H4.out.1.three, H4.out.2.four⟩ | go_keep | (simp only [*, and_self])) (fail)
          all_goals (
            go_wp2
            exact bodyPost_ret (do_results _ _ w.heap.size (w.heap.size + 1) _ _ _ _ _ _ _ Try.results13 (((S5.out.r1.put3' _ _ _).other4 (by omega) _ _ _ _).below (Below.refl _ _).drew) (((S5.out.r2.other3 (by omega) _ _ _).put4 _ _ _ _).below (Below.refl _ _).drew) rfl rfl) rfl ⟨D, o, rfl, EN.out.1.below (Below.refl _ _).drew, ⟨hs, by have := OZ.out; omega⟩, ho, EN.out.2.drew⟩)
        )
    · have hlt' : ¬ (k : Int) < 200 := by omega
      have kd : decide (k < 200) = false := decide_eq_false hlt
      have kd' : decide ((k : Int) < 200) = false := decide_eq_false hlt'
      obtain ⟨x0, x1, x2⟩ := ST.out.hd.three
      go_wp2_with fail
      go_quiet (fail)
      have ST1 := hid (ST.out.below (below_drewN (Below.refl _ wr) nq))
      clear ST x0 x1 x2
      go_wp2_with fail
      generalize (wr.drewN nq) = W at *
      have SD := hid (ST1.out.below (Below.refl _ _).drew)
      have EN := hid ST1.out.fin
      obtain ⟨x0, x1, x2⟩ := SD.out.hd.three
      obtain ⟨y0, y1, y2, y3⟩ := SD.out.ho.four
      obtain ⟨r0, r1, r2⟩ := SD.out.r1.three
      obtain ⟨q0, q1, q2, q3⟩ := SD.out.r2.four
      have rf := SD.out.r1.warm
      have qf := SD.out.r2.warm
      obtain ⟨ra0, ra1, ra2⟩ := ST1.out.r1.three
      obtain ⟨qa0, qa1, qa2, qa3⟩ := ST1.out.r2.four
      have raf := ST1.out.r1.warm
      have qaf := ST1.out.r2.warm
      have k1 : ¬ w.heap.size = w2.heap.size := by omega
      have k2 : ¬ w.heap.size = w3.heap.size := by omega
      have k3 : ¬ w.heap.size + 1 = w2.heap.size := by omega
      have k4 : ¬ w.heap.size + 1 = w3.heap.size := by omega
      have k6 : ¬ w2.heap.size = w.heap.size := by omega
      have k7 : ¬ w3.heap.size = w.heap.size := by omega
      have k8 : ¬ w2.heap.size = w.heap.size + 1 := by omega
      have k9 : ¬ w3.heap.size = w.heap.size + 1 := by omega
      have k5 : ¬ w.heap.size + 1 = w.heap.size := by omega
      have H3 := hid (And.intro ((ST1.out.hd.other3 (Q := w.heap.size) k1 (.slice D.live.a D.live.n D.live.k) (.slice D.safe.a D.safe.n D.safe.k) (.slice D.ops.a D.ops.n D.ops.k)).below (Below.refl _ _).drew) ((ST1.out.ho.other3 (Q := w.heap.size) k2 (.slice D.live.a D.live.n D.live.k) (.slice D.safe.a D.safe.n D.safe.k) (.slice D.ops.a D.ops.n D.ops.k)).below (Below.refl _ _).drew))
      have H4 := hid (And.intro (((ST1.out.hd.other3 (Q := w.heap.size) k1 (.slice D.live.a D.live.n D.live.k) (.slice D.safe.a D.safe.n D.safe.k) (.slice D.ops.a D.ops.n D.ops.k)).other4 (Q := w.heap.size + 1) k3 (.int .i64 o.kind) (.string o.name) (.string o.to) (.string o.data)).below (Below.refl _ _).drew) (((ST1.out.ho.other3 (Q := w.heap.size) k2 (.slice D.live.a D.live.n D.live.k) (.slice D.safe.a D.safe.n D.safe.k) (.slice D.ops.a D.ops.n D.ops.k)).other4 (Q := w.heap.size + 1) k4 (.int .i64 o.kind) (.string o.name) (.string o.to) (.string o.data)).below (Below.refl _ _).drew))
      have Z3 := hid ((ST1.out.r2.other3 (Q := w.heap.size) (fun e => k5 e.symm) (.slice D.live.a D.live.n D.live.k) (.slice D.safe.a D.safe.n D.safe.k) (.slice D.ops.a D.ops.n D.ops.k)).below (Below.refl _ _).drew)
      obtain ⟨qb0, qb1, qb2, qb3⟩ := Z3.out.four
      have qbf := Z3.out.warm
      go_region_held3 (fun w' => (w'.cell? ⟨w2.heap.size, 0, none⟩ = some (.slice D.live.a D.live.n D.live.k) ∧ w'.cell? ⟨w2.heap.size, 1, none⟩ = some (.slice D.safe.a D.safe.n D.safe.k) ∧ w'.cell? ⟨w2.heap.size, 2, none⟩ = some (.slice D.ops.a D.ops.n D.ops.k)) ∧ (w'.cell? ⟨w3.heap.size, 0, none⟩ = some (.int .i64 o.kind) ∧ w'.cell? ⟨w3.heap.size, 1, none⟩ = some (.string o.name) ∧ w'.cell? ⟨w3.heap.size, 2, none⟩ = some (.string o.to) ∧ w'.cell? ⟨w3.heap.size, 3, none⟩ = some (.string o.data))) (first | with_reducible exact ⟨⟨x0, x1, x2⟩, ⟨y0, y1, y2, y3⟩⟩ | with_reducible exact ⟨H3.out.1.three, H3.out.2.four⟩ | with_reducible exact ⟨H4.out.1.three, H4.out.2.four⟩ | go_keep | (simp only [*, and_self])) (fail)
      all_goals (
        go_wp2
        exact bodyPost_ret (do_results _ _ w.heap.size (w.heap.size + 1) _ _ _ _ _ _ _ Try.results13 (((ST1.out.r1.put3' _ _ _).other4 (by omega) _ _ _ _).below (Below.refl _ _).drew) (((ST1.out.r2.other3 (by omega) _ _ _).put4 _ _ _ _).below (Below.refl _ _).drew) rfl rfl) rfl ⟨D, o, rfl, EN.out.1.below (Below.refl _ _).drew, ⟨hs, by have := OZ.out; omega⟩, ho, EN.out.2.drew⟩)
end Go.Proofs.Ytcchpeebhkiacaa
/- DrawReplace. -/
namespace Go.Proofs.Ytcchpeebhkiacaa
open Go Go.RowKit Go.Deep Go.Maps

structure RpSt (w w0 : World) (rb : Nat) (a : Option Addr) (n cap B PD : Nat) (wr : World) (d : DiskV) : Prop where
  dat : d.at wr
  dnew : d.new B
  hd : Blk wr PD (.cells #[.slice d.live.a d.live.n d.live.k, .slice d.safe.a d.safe.n d.safe.k, .slice d.ops.a d.ops.n d.ops.k] 27)
  r1 : Blk wr w.heap.size (.cells #[.slice none 0 0, .slice none 0 0, .slice none 0 0] 27)
  rd : Rd w0 wr rb a n cap
  be : Below w.heap.size w wr
  l0 : w.heap.size + 1 ≤ w0.heap.size
  l1 : w0.heap.size ≤ rb
  l2 : rb < B
  l3 : B ≤ PD
theorem RpSt.grown {w w0 : World} {rb : Nat} {a : Option Addr} {n cap B PD : Nat} {wr : World} {d : DiskV} {wr' : World} (h : RpSt w w0 rb a n cap B PD wr d) (hg : wr.grownBy wr' (some rb)) (hr : Rd w0 wr' rb a n cap) : RpSt w w0 rb a n cap B PD wr' d := by
  obtain ⟨h1, h2, h3, h5, h7, h8, l0, l1, l2, l3⟩ := h
  exact ⟨h1.grown h2 hg l2, h2, h3.grown hg (by simp; omega), h5.grown hg (by simp; omega), hr, h8.trans (below_grown hg h8.size (fun j e => by cases e; omega)), l0, l1, l2, l3⟩
theorem RpSt.below {w w0 : World} {rb : Nat} {a : Option Addr} {n cap B PD : Nat} {wr : World} {d : DiskV} {wr' : World} (h : RpSt w w0 rb a n cap B PD wr d) (hb : Below wr.heap.size wr wr') : RpSt w w0 rb a n cap B PD wr' d :=
  ⟨h.dat.below hb, h.dnew, h.hd.below hb, h.r1.below hb, h.rd.below hb, h.be.trans (hb.mono h.be.size), h.l0, h.l1, h.l2, h.l3⟩
theorem rp_results {F : Func} (tmps : Array Value) (W : World) (P : Nat) (x y z u v : Value) (hF : F.results = #[.cell 2 27, .tmp 3, .tmp 4]) (h : Blk W P (.cells #[x, y, z] 27)) (h2 : tmps[2]? = some (.pointer (some ⟨P, 0, none⟩))) (h3 : tmps[3]? = some u) (h4 : tmps[4]? = some v) :
    (results F tmps).run Try.prog W = .ok (.tuple #[.agg #[x, y, z], u, v]) W := by
  obtain ⟨z0, z1, z2⟩ := h.three
  simp [results, hF, go_sem, h2, h3, h4, z0, z1, z2]

set_option maxRecDepth 100000 in
set_option maxHeartbeats 16000000 in
theorem drawReplace_any (a : Option Addr) (n cap : Nat) (w : World) (hn : n ≤ 1048576) (hb : BytesAt w a n) :
    Calls Try.prog 17 #[.slice a n cap] w fun e w' => ∃ (d : DiskV) (s t : ByteArray), e = .returned (.tuple #[d.val, .string s, .string t]) ∧ d.at w' ∧ d.sz ≤ 500000 ∧ s.size ≤ 100 ∧ t.size ≤ 8 ∧ Below w.heap.size w w' := by
  have b0 : Below w.heap.size w (w.alloc (.cells #[.slice none 0 0, .slice none 0 0, .slice none 0 0] 27)) := (Below.refl _ w).alloc (Nat.le_refl _) _
  have A0 := Blk.new w (.cells #[.slice none 0 0, .slice none 0 0, .slice none 0 0] 27)
  have hsz : (w.alloc (.cells #[.slice none 0 0, .slice none 0 0, .slice none 0 0] 27)).heap.size = w.heap.size + 1 := by simp
  have C1 := hid (l1Open_any a n cap _ hn (hb.below b0))
  clear hb
  go_enter Try.func17, Try.ntmps17
  go_wp2_with fail
  refine C1.out.mono ?_
  rintro e w1 ⟨rb, rfl, R1⟩
  have hr := R1.le
  have lr := R1.lt
  have A1 := A0.below R1.E
  have B1 := then_ b0 R1.E
  have C2 := hid (disk_any _ rb a n cap w1 R1)
  clear C1 R1
  go_wp2_with fail
  refine C2.out.mono ?_
  rintro e w2 ⟨d, rfl, hd, hs, hw, R2, g2⟩
  have A2 := A1.grown g2 (by simp; omega)
  have B2 := B1.trans (below_grown g2 B1.size (fun j e => by cases e; omega))
  have s2 := g2.size
  unfold DiskV.val
  have bd : Below w2.heap.size w2 (w2.alloc (.cells #[.slice d.live.a d.live.n d.live.k, .slice d.safe.a d.safe.n d.safe.k, .slice d.ops.a d.ops.n d.ops.k] 27)) := (Below.refl _ w2).alloc (Nat.le_refl _) _
  have S2 : Hid (RpSt w (w.alloc (.cells #[.slice none 0 0, .slice none 0 0, .slice none 0 0] 27)) rb a n cap w1.heap.size w2.heap.size (w2.alloc (.cells #[.slice d.live.a d.live.n d.live.k, .slice d.safe.a d.safe.n d.safe.k, .slice d.ops.a d.ops.n d.ops.k] 27)) d) := hid ⟨hd.below bd, hw, Blk.new w2 _, A2.below bd, R2.below bd, B2.trans (bd.mono B2.size), by omega, hr, lr, s2⟩
  have bt : Below (w2.alloc (.cells #[.slice d.live.a d.live.n d.live.k, .slice d.safe.a d.safe.n d.safe.k, .slice d.ops.a d.ops.n d.ops.k] 27)).heap.size (w2.alloc (.cells #[.slice d.live.a d.live.n d.live.k, .slice d.safe.a d.safe.n d.safe.k, .slice d.ops.a d.ops.n d.ops.k] 27)) ((w2.alloc (.cells #[.slice d.live.a d.live.n d.live.k, .slice d.safe.a d.safe.n d.safe.k, .slice d.ops.a d.ops.n d.ops.k] 27)).alloc (.cells #[.string ⟨#[98, 97, 115, 101]⟩, .string ⟨#[108, 111, 103]⟩, .string ⟨#[98, 97, 115, 101]⟩, .string ⟨#[]⟩] 9)) := (Below.refl _ _).alloc (Nat.le_refl _) _
  have T3 : Hid (Blk ((w2.alloc (.cells #[.slice d.live.a d.live.n d.live.k, .slice d.safe.a d.safe.n d.safe.k, .slice d.ops.a d.ops.n d.ops.k] 27)).alloc (.cells #[.string ⟨#[98, 97, 115, 101]⟩, .string ⟨#[108, 111, 103]⟩, .string ⟨#[98, 97, 115, 101]⟩, .string ⟨#[]⟩] 9)) (w2.heap.size + 1) (.cells #[.string ⟨#[98, 97, 115, 101]⟩, .string ⟨#[108, 111, 103]⟩, .string ⟨#[98, 97, 115, 101]⟩, .string ⟨#[]⟩] 9)) := hid (by have := Blk.new (w2.alloc (.cells #[.slice d.live.a d.live.n d.live.k, .slice d.safe.a d.safe.n d.safe.k, .slice d.ops.a d.ops.n d.ops.k] 27)) (.cells #[.string ⟨#[98, 97, 115, 101]⟩, .string ⟨#[108, 111, 103]⟩, .string ⟨#[98, 97, 115, 101]⟩, .string ⟨#[]⟩] 9); simpa using this)
  have S3 := hid (S2.out.below bt)
  have C3 := hid (below_any _ rb a n cap 4 _ (by omega) S3.out.rd)
  clear C2 A0 A1 A2 B1 B2 bd hd hw R2 g2 b0 bt S2
  generalize (w.alloc (.cells #[.slice none 0 0, .slice none 0 0, .slice none 0 0] 27)) = w0 at *
  go_wp2_with fail
  refine C3.out.mono ?_
  rintro e w3 ⟨x, rfl, _, hx4, R3, g3⟩
  have hx : x < 4 := hx4 (by omega)
  have S4 := hid (S3.out.grown g3 R3)
  have T4 := T3.out.grown g3 (by simp; omega)
  obtain ⟨s, cs, hsz4⟩ := text4 (m := 8) T4 hx (by decide)
  have hx' : (x : Int) < 4 := by omega
  have hx0 : (0 : Int) ≤ (x : Int) := by omega
  have C4 := hid (once_any _ rb a n cap 12 _ (by omega) S4.out.rd)
  clear C3 S3 T3 T4 R3 g3 hx4
  go_wp2_with fail
  refine C4.out.mono ?_
  rintro e w4 ⟨b, rfl, R4, g4⟩
  have S5 := hid (S4.out.grown g4 R4)
  clear C4 S4 R4 g4 cs
  cases b with
  | false =>
    have hs8 : s.size ≤ 100 := by omega
    have CT : Hid (∀ W, Below w4.heap.size w4 W → Calls Try.prog 40 #[.pointer (some ⟨rb, 0, none⟩)] W fun e w' => ∃ t : ByteArray, e = .returned (.string t) ∧ t.size ≤ 6 ∧ RpSt w w0 rb a n cap w1.heap.size w2.heap.size w' d) := hid (fun W hW => (rdText_any _ rb a n cap W (S5.out.rd.below hW)).mono fun _ _ ⟨t, e1, h1, h2, h3⟩ => ⟨t, e1, h1, (S5.out.below hW).grown h3 h2⟩)
    have BX : Hid (∀ W, Below w4.heap.size w4 W → W.cell? ⟨w2.heap.size, 0, none⟩ = some (.slice d.live.a d.live.n d.live.k) ∧ W.cell? ⟨w2.heap.size, 1, none⟩ = some (.slice d.safe.a d.safe.n d.safe.k) ∧ W.cell? ⟨w2.heap.size, 2, none⟩ = some (.slice d.ops.a d.ops.n d.ops.k)) := hid (fun W hW => (S5.out.hd.below hW).three)
    have H1 := hid (below_drew (Below.refl w4.heap.size w4))
    obtain ⟨x0, x1, x2⟩ := BX.out _ H1.out
    go_wp2_with fail
    have k1 : ¬ w.heap.size = w2.heap.size := by have := S5.out.l0; have := S5.out.l1; have := S5.out.l2; have := S5.out.l3; omega
    go_region_held3 (fun w' => w'.cell? ⟨w2.heap.size, 0, none⟩ = some (.slice d.live.a d.live.n d.live.k) ∧ w'.cell? ⟨w2.heap.size, 1, none⟩ = some (.slice d.safe.a d.safe.n d.safe.k) ∧ w'.cell? ⟨w2.heap.size, 2, none⟩ = some (.slice d.ops.a d.ops.n d.ops.k)) (first | with_reducible exact ⟨p0, p1, p2⟩ | with_reducible exact ⟨x0, x1, x2⟩ | with_reducible exact H9.out.three | go_keep | (simp only [*, and_self])) (first
      | (go_at_call 40; refine (CT.out _ (by with_reducible exact H1.out)).mono ?_; rintro e w7 ⟨t, rfl, ht, d7⟩; have S7 := hid d7; obtain ⟨p0, p1, p2⟩ := S7.out.hd.three; obtain ⟨r0, r1, r2⟩ := S7.out.r1.three; have rf := S7.out.r1.warm; have H9 := hid (S7.out.hd.other3 (Q := w.heap.size) k1 (.slice d.live.a d.live.n d.live.k) (.slice d.safe.a d.safe.n d.safe.k) (.slice d.ops.a d.ops.n d.ops.k)); clear d7))
    all_goals (
      clear x0 x1 x2 H1 BX CT p0 p1 p2
      have lz : w.heap.size < w1.heap.size := by have := S7.out.l0; have := S7.out.l1; have := S7.out.l2; omega
      go_wp2
      exact bodyPost_ret (rp_results _ _ w.heap.size _ _ _ _ _ Try.results17 (S7.out.r1.put3' _ _ _) rfl rfl rfl) rfl ⟨d, s, t, rfl, S7.out.dat.set3 S7.out.dnew lz _ _ _, hs, hs8, by omega, set3_low S7.out.be (Nat.le_refl _) _ _ _⟩)
  | true =>
    have C5 := hid (below_any _ rb a n cap 4 _ (by omega) S5.out.rd)
    go_wp2_with fail
    refine C5.out.mono ?_
    rintro e w5 ⟨z, rfl, _, hz4, R5, g5⟩
    have hz : z < 4 := hz4 (by omega)
    have S6 := hid (S5.out.grown g5 R5)
    clear C5 S5 R5 g5 hz4
    have wz : IntKind.i64.wrap (95 + (z : Int)) = ((95 + z : Nat) : Int) := by rw [IntKind.wrap_i64]; omega
    obtain ⟨m, hm⟩ : ∃ m, m = 95 + z := ⟨_, rfl⟩
    rw [← hm] at wz
    have m1 : m ≤ 1048576 := by omega
    have HM := hid hm
    clear hm
    go_wp2_with (at_make; refine wpList_make_bytes _ rfl _ _ rfl m rfl rfl m1 ?_; intro u w6 hs6 hl6 hb6 hc6; have HU := hid hs6; have SF := hid (S6.out.below hb6); clear hs6 hb6 hl6)
    have hu : u.size ≤ 100 := by have := HU.out; have := HM.out; omega
    clear S6 hc6
    have CT : Hid (∀ W, Below w6.heap.size w6 W → Calls Try.prog 40 #[.pointer (some ⟨rb, 0, none⟩)] W fun e w' => ∃ t : ByteArray, e = .returned (.string t) ∧ t.size ≤ 6 ∧ RpSt w w0 rb a n cap w1.heap.size w2.heap.size w' d) := hid (fun W hW => (rdText_any _ rb a n cap W (SF.out.rd.below hW)).mono fun _ _ ⟨t, e1, h1, h2, h3⟩ => ⟨t, e1, h1, (SF.out.below hW).grown h3 h2⟩)
    have BX : Hid (∀ W, Below w6.heap.size w6 W → W.cell? ⟨w2.heap.size, 0, none⟩ = some (.slice d.live.a d.live.n d.live.k) ∧ W.cell? ⟨w2.heap.size, 1, none⟩ = some (.slice d.safe.a d.safe.n d.safe.k) ∧ W.cell? ⟨w2.heap.size, 2, none⟩ = some (.slice d.ops.a d.ops.n d.ops.k)) := hid (fun W hW => (SF.out.hd.below hW).three)
    have H1 := hid (below_drew (Below.refl w6.heap.size w6))
    obtain ⟨x0, x1, x2⟩ := BX.out _ H1.out
    go_wp2_with fail
    have k1 : ¬ w.heap.size = w2.heap.size := by have := SF.out.l0; have := SF.out.l1; have := SF.out.l2; have := SF.out.l3; omega
    go_region_held3 (fun w' => w'.cell? ⟨w2.heap.size, 0, none⟩ = some (.slice d.live.a d.live.n d.live.k) ∧ w'.cell? ⟨w2.heap.size, 1, none⟩ = some (.slice d.safe.a d.safe.n d.safe.k) ∧ w'.cell? ⟨w2.heap.size, 2, none⟩ = some (.slice d.ops.a d.ops.n d.ops.k)) (first | with_reducible exact ⟨p0, p1, p2⟩ | with_reducible exact ⟨x0, x1, x2⟩ | with_reducible exact H9.out.three | go_keep | (simp only [*, and_self])) (first
      | (go_at_call 40; refine (CT.out _ (by with_reducible exact H1.out)).mono ?_; rintro e w7 ⟨t, rfl, ht, d7⟩; have S7 := hid d7; obtain ⟨p0, p1, p2⟩ := S7.out.hd.three; obtain ⟨r0, r1, r2⟩ := S7.out.r1.three; have rf := S7.out.r1.warm; have H9 := hid (S7.out.hd.other3 (Q := w.heap.size) k1 (.slice d.live.a d.live.n d.live.k) (.slice d.safe.a d.safe.n d.safe.k) (.slice d.ops.a d.ops.n d.ops.k)); clear d7))
    all_goals (
      clear x0 x1 x2 H1 BX CT p0 p1 p2
      have lz : w.heap.size < w1.heap.size := by have := S7.out.l0; have := S7.out.l1; have := S7.out.l2; omega
      go_wp2
      exact bodyPost_ret (rp_results _ _ w.heap.size _ _ _ _ _ Try.results17 (S7.out.r1.put3' _ _ _) rfl rfl rfl) rfl ⟨d, u, t, rfl, S7.out.dat.set3 S7.out.dnew lz _ _ _, hs, hu, by omega, set3_low S7.out.be (Nat.le_refl _) _ _ _⟩)

end Go.Proofs.Ytcchpeebhkiacaa
