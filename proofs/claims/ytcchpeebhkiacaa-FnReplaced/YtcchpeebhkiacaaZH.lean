/- Disks that the model made: what a reader's steps and an added file leave of them. -/
import Derived.Test.YtcchpeebhkiacaaZD
import Derived.Test.YtcchpeebhkiacaaZG
namespace Go.Proofs.Ytcchpeebhkiacaa
open Go Go.RowKit Go.Deep Go.Maps

theorem own_ne {w : World} {B e size n rb : Nat} {v : Value} {xs : List Value} (h : w.ownsRow B e size v n xs) (hr : rb < B) : v.ownBlock = none ∨ v.ownBlock ≠ some rb := by
  cases hv : v.ownBlock with
  | none => exact .inl rfl
  | some g =>
    refine .inr (fun e => ?_)
    have h1 := (World.ownsRow.lt h g hv).1
    cases e
    omega
theorem ZF.grown {w w' : World} {B rb : Nat} {v : Value} {l : List FileV} (h : ZF w B v l) (hg : w.grownBy w' (some rb)) (hr : rb < B) : ZF w' B v l := by
  rcases h with h | h
  · exact .inl (World.ownsRow.kept h hg (own_ne h hr))
  · exact .inr h
theorem ZO.grown {w w' : World} {B rb : Nat} {v : Value} {l : List OpV} (h : ZO w B v l) (hg : w.grownBy w' (some rb)) (hr : rb < B) : ZO w' B v l := by
  rcases h with h | h
  · exact .inl (World.ownsRow.kept h hg (own_ne h hr))
  · exact .inr h
theorem AnsS.grown {w w' : World} {B rb : Nat} {vl vs vo : Value} {L S : List FileV} {O : List OpV} (h : AnsS w B vl vs vo L S O) (hg : w.grownBy w' (some rb)) (hr : rb < B) : AnsS w' B vl vs vo L S O := ⟨h.l.grown hg hr, h.s.grown hg hr, h.o.grown hg hr⟩
/-- a file is added: what else a disk has stays -/
theorem run_append_f (w : World) (tt : TypeId) (B : Nat) (v : Value) (l : List FileV) (hown : ZF w B v l) (ad : Option Addr) (c : Nat) (f : FileV) (hc : FilL w ad [f]) (hn : l.length ≤ 1048576) (hB : B ≤ w.heap.size) :
    ∃ a' c' w', (Builtin.append_ #[24, 24] tt #[v, .slice ad 1 c]).run Try.prog w = .ok (.slice a' (l.length + 1) c') w' ∧ OwnF w' B (.slice a' (l.length + 1) c') (l ++ [f]) ∧ (∀ u m, ZF w B u m → Apt v u → ZF w' B u m) ∧ (∀ u m, ZO w B u m → ZO w' B u m) ∧ (∀ P t cs, t ≠ 56 → Blk w P (.cells cs t) → Blk w' P (.cells cs t)) ∧ Below B w w' := by
  rcases hown with hown | ⟨rfl, ab, rfl⟩
  · obtain ⟨a', c', w', h1, h2, h3, _⟩ := run_append_gen Try.underlying24 Try.info56 rfl (by omega) w tt B v l.length (cellsF l) hown ad 1 c (cellsF [f]) (cellsF_len [f]) hc cellsF_one (by omega) (by omega) hB
    have hk : ∀ P t cs, t ≠ 56 → Blk w P (.cells cs t) → Blk w' P (.cells cs t) := fun P t cs ht hb => by
      refine hb.grown h3 (fun e => ?_)
      rcases hown.2 with ⟨rfl, _⟩ | ⟨g, cap, cur, rfl, _, hg, _⟩
      · cases e
      · cases e
        unfold Blk at hb
        rw [hg] at hb
        simp at hb
        exact ht hb.2.symm
    refine ⟨a', c', w', h1, ?_, fun u m hu ha => ?_, fun u m hu => ?_, hk, below_grown h3 hB (fun j e => (World.ownsRow.lt hown j e).1)⟩
    · unfold OwnF
      rw [List.length_append, cellsF_append]
      exact h2
    · rcases hu with hu | hu
      · rcases ha with ⟨ab, rfl⟩ | ⟨ab, rfl⟩ | ha | ha
        · rcases hown.2 with ⟨e, _⟩ | ⟨g, cap, cur, e, _, hg, h4, h5, h6, _⟩
          · exact .inl (World.ownsRow.kept hu (by rw [e] at h3; exact h3) (by cases u.ownBlock <;> simp [Value.ownBlock]))
          · by_cases hbu : u.ownBlock = some g
            · rcases hu.2 with ⟨e', hn'⟩ | ⟨g', cap', cur', e', _, hg', k4, k5, k6, _⟩
              · exact .inr ⟨List.eq_nil_of_length_eq_zero hn', none, e'⟩
              · rw [e'] at hbu
                simp only [Value.ownBlock, Option.some.injEq] at hbu
                subst hbu
                rw [hg] at hg'
                simp only [Option.some.injEq, Obj.cells.injEq, and_true] at hg'
                subst hg'
                simp only [Value.slice.injEq] at e
                have c0 : cap' = 0 := by omega
                have m0 : m.length = 0 := by omega
                exact .inr ⟨List.eq_nil_of_length_eq_zero m0, some ⟨g', 0, none⟩, by rw [e', m0, c0]⟩
            · refine .inl (World.ownsRow.kept hu h3 (.inr ?_))
              rw [e]
              exact hbu
        · rcases hu.2 with ⟨e, hn⟩ | ⟨g, cap, cur, e, _, hg, h4, _⟩
          · exact .inr ⟨List.eq_nil_of_length_eq_zero hn, ab, rfl⟩
          · simp only [Value.slice.injEq] at e
            exact .inr ⟨List.eq_nil_of_length_eq_zero e.2.1.symm, ab, rfl⟩
        · refine .inl (World.ownsRow.kept hu h3 ?_)
          rw [ha]
          cases u.ownBlock <;> simp
        · exact .inl (World.ownsRow.kept hu h3 (.inr (fun e => ha e.symm)))
      · exact .inr hu
    · rcases hu with hu | hu
      · refine .inl ⟨hu.1, ?_⟩
        rcases hu.2 with hz | ⟨g, cap, cur, hv, hbg, hg, rest⟩
        · exact .inl hz
        · exact .inr ⟨g, cap, cur, hv, hbg, hk g _ cur (by decide) hg, rest⟩
      · exact .inr hu
  · obtain ⟨a', c', w', h1, _, _, h4, h5⟩ := run_append_zeroF w tt ab ad c [f] hc (by simp)
    rcases h4 with h4 | ⟨h4, _⟩
    · exact ⟨a', c', w', h1, own_base h4 hB, fun u m hu _ => hu.below h5, fun u m hu => hu.below h5, fun P t cs _ hb => hb.below h5, h5.mono hB⟩
    · cases h4
theorem wf8 {o : OpV} (h : o.name.size ≤ 8 ∧ o.to.size ≤ 8 ∧ o.data.size ≤ 8) : o.wf := by unfold OpV.wf maxLen; omega
theorem Few.good {L S : List FileV} {O : List OpV} {k : Nat} (h : Few L S O k) (hk : k ≤ 300) : GoodD L S O 300 := by
  have h1 := h.ls
  have h2 := h.lo
  refine ⟨h.okl, fun x hx => ?_, fun x hx => ?_, fun x hx => wf8 (h.fo x hx), by omega, by omega⟩
  · have := h.fl x hx; unfold FileV.wf maxLen; omega
  · have := h.fs x hx; unfold FileV.wf maxLen; omega
theorem few_sync {d : DiskV} {L S : List FileV} {O : List OpV} {k : Nat} (h : Few L S O k) (e : d.live.toL = L) : Few (syncL d) (syncL d) [] k := by
  unfold syncL
  split
  · rw [e]; exact h.sync
  · exact Few.nil.more (Nat.zero_le _)
theorem few_do {d : DiskV} {o : OpV} {L S : List FileV} {O : List OpV} {k : Nat} (h : Few L S O k) (el : d.live.toL = L) (es : d.safe.toL = S) (eo : d.ops.toL = O) (hc : doC d o = 0) (ho : o.name.size ≤ 8 ∧ o.to.size ≤ 8 ∧ o.data.size ≤ 8) : Few (doLi d o) (doSa d) (doOp d o) (k + 1) := by
  cases t : dkOk d with
  | false => rw [(do_no t).1] at hc; cases hc
  | true =>
    obtain ⟨e1, e2, e3, e4⟩ := do_yes (o := o) t
    rw [e1] at hc
    have hn : ¬ (codeL d.live.toL o = 0 ∧ d.ops.n = 200) := fun hh => by unfold actC at hc; rw [if_pos hh] at hc; cases hc
    have c0 : codeL d.live.toL o = 0 := by unfold actC at hc; rw [if_neg hn] at hc; exact hc
    have eL : actL d o = (doF d.live.toL.length (fileAt d.live.toL) o).1 := by unfold actL; rw [if_pos hc]; rfl
    have eO : actO d o = d.ops.toL ++ [o] := by unfold actO; rw [if_pos hc]
    rw [e2, e3, e4, eL, eO, es, eo]
    rw [el] at c0 ⊢
    exact h.do c0 ho
theorem AnsS.mkd {W : World} {B : Nat} {al as_ ao : Option Addr} {ax ay az : Nat} {L S : List FileV} {O : List OpV} (h : AnsS W B (.slice al L.length ax) (.slice as_ S.length ay) (.slice ao O.length az) L S O) {k : Nat} (hf : Few L S O k) (hk : k ≤ 300) : (mkD al ax as_ ay ao az L S O).at W := mkD_at h.dat (hf.good hk) (by omega)
theorem specSync_L (L S : List FileV) (O : List OpV) (k B : Nat) (hf : Few L S O k) (hk : k ≤ 20) (al as_ ao : Option Addr) (ax ay az : Nat) (W : World) (h : AnsS W B (.slice al L.length ax) (.slice as_ S.length ay) (.slice ao O.length az) L S O) :
    Calls Try.prog 46 #[.agg #[.slice al L.length ax, .slice as_ S.length ay, .slice ao O.length az]] W fun e w' => ∃ (M : List FileV) (bl bs bo : Option Addr) (bx by_ bz : Nat), e = .returned (.agg #[.slice bl M.length bx, .slice bs M.length by_, .slice bo 0 bz]) ∧ AnsS w' W.heap.size (.slice bl M.length bx) (.slice bs M.length by_) (.slice bo 0 bz) M M [] ∧ Few M M [] k ∧ Apt (.slice bl M.length bx) (.slice bs M.length by_) ∧ Below W.heap.size W w' := by
  refine (specSync_ap (mkD al ax as_ ay ao az L S O) W (h.mkd hf (by omega)) (Nat.le_trans (hf.sz hk) (by omega))).mono ?_
  rintro e w' ⟨vl, vs, vo, rfl, h2, h3, h4⟩
  obtain ⟨bl, bx, rfl⟩ := h2.l.shape
  obtain ⟨bs, by_, rfl⟩ := h2.s.shape
  obtain ⟨bo, bz, rfl⟩ := h2.o.shape
  exact ⟨_, bl, bs, bo, bx, by_, bz, rfl, h2, few_sync hf mkD_live.1, h4, h3⟩
theorem specDo_L (L S : List FileV) (O : List OpV) (k B : Nat) (hf : Few L S O k) (hk : k ≤ 20) (al as_ ao : Option Addr) (ax ay az : Nat) (o : OpV) (ho : o.name.size ≤ 8 ∧ o.to.size ≤ 8 ∧ o.data.size ≤ 8) (W : World) (h : AnsS W B (.slice al L.length ax) (.slice as_ S.length ay) (.slice ao O.length az) L S O) :
    Calls Try.prog 15 #[.agg #[.slice al L.length ax, .slice as_ S.length ay, .slice ao O.length az], .agg #[.int .i64 o.kind, .string o.name, .string o.to, .string o.data]] W fun e w' => ∃ (c : Int) (M N : List FileV) (Q : List OpV) (bl bs bo : Option Addr) (bx by_ bz : Nat), e = .returned (.tuple #[.agg #[.slice bl M.length bx, .slice bs N.length by_, .slice bo Q.length bz], .int .i64 c]) ∧ AnsS w' W.heap.size (.slice bl M.length bx) (.slice bs N.length by_) (.slice bo Q.length bz) M N Q ∧ (c = 0 → Few M N Q (k + 1) ∧ Apt (.slice bl M.length bx) (.slice bs N.length by_)) ∧ Below W.heap.size W w' := by
  refine (specDo_ap (mkD al ax as_ ay ao az L S O) o W (h.mkd hf (by omega)) (Nat.le_trans (hf.sz hk) (by omega)) (wf8 ho) (by omega)).mono ?_
  rintro e w' ⟨vl, vs, vo, rfl, h2, h3, h4⟩
  obtain ⟨bl, bx, rfl⟩ := h2.l.shape
  obtain ⟨bs, by_, rfl⟩ := h2.s.shape
  obtain ⟨bo, bz, rfl⟩ := h2.o.shape
  exact ⟨_, _, _, _, bl, bs, bo, bx, by_, bz, rfl, h2, fun hc => ⟨few_do hf mkD_live.1 mkD_live.2.1 mkD_live.2.2 hc ho, h4 hc⟩, h3⟩
/-- a disk's lists lie in new memory -/
def DiskV.new (B : Nat) (d : DiskV) : Prop := NewA B d.live.a d.live.n ∧ NewA B d.safe.a d.safe.n ∧ NewA B d.ops.a d.ops.n
theorem ZF.new {w : World} {B : Nat} {a : Option Addr} {c : Nat} {l : List FileV} (h : ZF w B (.slice a l.length c) l) : NewA B a l.length := fun hn => by
  rcases h with h | ⟨rfl, _⟩
  · obtain ⟨g, cap, hv, hg, _⟩ := World.ownsRow.form h hn
    simp only [Value.slice.injEq] at hv
    exact ⟨g, 0, hv.1, hg⟩
  · exact absurd hn (Nat.lt_irrefl 0)
theorem ZO.new {w : World} {B : Nat} {a : Option Addr} {c : Nat} {l : List OpV} (h : ZO w B (.slice a l.length c) l) : NewA B a l.length := fun hn => by
  rcases h with h | ⟨rfl, _⟩
  · obtain ⟨g, cap, hv, hg, _⟩ := World.ownsRow.form h hn
    simp only [Value.slice.injEq] at hv
    exact ⟨g, 0, hv.1, hg⟩
  · exact absurd hn (Nat.lt_irrefl 0)
end Go.Proofs.Ytcchpeebhkiacaa
/- Disks that the model made, put together anew: a file more, an op less, one great file. -/
namespace Go.Proofs.Ytcchpeebhkiacaa
open Go Go.RowKit Go.Deep Go.Maps
open Go.WideShapes (add_plain)

theorem info_u8 : (Try.prog.info? 5).map (fun i => (i.zero, i.size, i.bytes)) = some (some (.int .u8 0), 1, 1) := by kernel_rfl
theorem wpList_make_bytes {ops : Array Oper} {rest : List Oper} {o : Oper} {a : Act} {Q : Exit → Act → World → Prop} (w : World) (hg : o.guard = none) (l c : Operand) (hop : o.op = Op.makeSlice 22 l c)
    (n : Nat) (hl : a.eval l = .int .i64 (n : Int)) (hc : a.eval c = .int .i64 (n : Int)) (hn : n ≤ 1048576)
    (h : ∀ (s : ByteArray) w', s.size = n → w'.heap.size = w.heap.size + 1 → Below w.heap.size w w' → (convert 22 9 (.slice (some ⟨w.heap.size, 0, none⟩) n n)).run Try.prog w' = .ok (.string s) w' → wpList Try.prog ops Q rest (a.put o.dst (.slice (some ⟨w.heap.size, 0, none⟩) n n)) w') : wpList Try.prog ops Q (o :: rest) a w := by
  obtain ⟨i0, hi, hz, hs, hb⟩ := info_parts info_u8
  refine wpList_make_row (P := Try.prog) w hg l c 22 hop 5 i0 (.int .u8 0) Try.underlying22 hi hz hs rfl .i64 .i64 n hl hc (by rw [hb]; omega) (by omega) ?_
  refine h ⟨(List.replicate n (0 : UInt8)).toArray⟩ _ (by show (List.replicate n (0 : UInt8)).toArray.size = n; simp) (by simp) ((Below.refl _ w).alloc (Nat.le_refl _) _) ?_
  have k := run_convert_bytes_back (P := Try.prog) (w.alloc (.cells (madeCells #[.int .u8 0] n) 5)) 22 9 5 ⟨w.heap.size, 0, none⟩ n (List.replicate n (0 : UInt8)) Try.underlying22 Try.underlying5 Try.underlying9 (fun j hj => by
    have hj' : j < n := by simpa using hj
    obtain ⟨cs, h1, h2, h3⟩ := World.rowIs_made w (.int .u8 0) n 5
    have h4 := h3 j hj'
    rw [add_plain]
    have eb : Blk (w.alloc (.cells (madeCells #[.int .u8 0] n) 5)) w.heap.size (.cells cs 5) := h1
    unfold Blk at eb
    generalize w.alloc (.cells (madeCells #[.int .u8 0] n) 5) = W at *
    simp [World.cell?, eb, h4])
  simpa using k
theorem tot_ext {g h : Nat → Nat} : ∀ {n : Nat}, (∀ i, i < n → g i = h i) → tot g n = tot h n
  | 0, _ => rfl
  | n + 1, e => by rw [tot, tot, tot_ext fun i hi => e i (by omega), e n (by omega)]
theorem tot_off {g : Nat → Nat} : ∀ {n : Nat}, tot (fun i => g (i + 1)) n ≤ tot g (n + 1)
  | 0 => by simp [tot]
  | n + 1 => by
    have := tot_off (g := g) (n := n)
    rw [tot, tot]
    omega
theorem fileAt_append {L : List FileV} {f : FileV} {i : Nat} (hi : i < L.length) : fileAt (L ++ [f]) i = fileAt L i := by
  unfold fileAt
  simp [List.getD, hi, List.getElem?_append]
theorem fileAt_last {L : List FileV} {f : FileV} : fileAt (L ++ [f]) L.length = f := by
  unfold fileAt
  simp [List.getD]
theorem AnsS.disk {W : World} {B : Nat} {al as_ ao : Option Addr} {ax ay az : Nat} {L S : List FileV} {O : List OpV} (h : AnsS W B (.slice al L.length ax) (.slice as_ S.length ay) (.slice ao O.length az) L S O) (hl : ∀ x ∈ L, x.wf) (hs : ∀ x ∈ S, x.wf) (ho : ∀ x ∈ O, x.wf) (nl : L.length ≤ 1048576) (ns : S.length ≤ 1048576) (no : O.length ≤ 1048576) :
    (mkD al ax as_ ay ao az L S O).at W ∧ (mkD al ax as_ ay ao az L S O).new B := by
  refine ⟨?_, h.l.new, h.s.new, h.o.new⟩
  obtain ⟨⟨a1, c1, e1, h1⟩, ⟨a2, c2, e2, h2⟩, ⟨a3, c3, e3, h3⟩⟩ := h.dat
  simp only [Value.slice.injEq] at e1 e2 e3
  obtain ⟨rfl, _, _⟩ := e1
  obtain ⟨rfl, _, _⟩ := e2
  obtain ⟨rfl, _, _⟩ := e3
  exact ⟨⟨by unfold maxLen; show L.length ≤ _; omega, h1, fun i hi => hl _ (fileAt_mem hi)⟩, ⟨by unfold maxLen; show S.length ≤ _; omega, h2, fun i hi => hs _ (fileAt_mem hi)⟩, ⟨by unfold maxLen; show O.length ≤ _; omega, h3, fun i hi => ho _ (opAt_mem hi)⟩⟩
theorem AnsS.few {W : World} {B : Nat} {al as_ ao : Option Addr} {ax ay az : Nat} {L S : List FileV} {O : List OpV} {k : Nat} (h : AnsS W B (.slice al L.length ax) (.slice as_ S.length ay) (.slice ao O.length az) L S O) (hf : Few L S O k) (hk : k ≤ 20) :
    (mkD al ax as_ ay ao az L S O).at W ∧ (mkD al ax as_ ay ao az L S O).sz ≤ 500000 ∧ (mkD al ax as_ ay ao az L S O).new B := by
  have h1 := hf.ll
  have h2 := hf.ls
  have h3 := hf.lo
  have g := hf.good (by omega)
  have hh := h.disk g.lw g.sw g.ow (by omega) (by omega) (by omega)
  exact ⟨hh.1, Nat.le_trans (hf.sz hk) (by omega), hh.2⟩
def zz : FileV := ⟨⟨#[122, 122]⟩, ⟨#[]⟩⟩
/-- with one file more -/
theorem ans_more {W : World} {B : Nat} {al as_ ao : Option Addr} {ax ay az : Nat} {L S : List FileV} {O : List OpV} {k : Nat} (h : AnsS W B (.slice al (L ++ [zz]).length ax) (.slice as_ S.length ay) (.slice ao O.length az) (L ++ [zz]) S O) (hf : Few L S O k) (hk : k ≤ 20) :
    (mkD al ax as_ ay ao az (L ++ [zz]) S O).at W ∧ (mkD al ax as_ ay ao az (L ++ [zz]) S O).sz ≤ 500000 ∧ (mkD al ax as_ ay ao az (L ++ [zz]) S O).new B := by
  have h1 := hf.ll
  have h2 := hf.ls
  have h3 := hf.lo
  have g := hf.good (by omega)
  have hh := h.disk (fun x hx => by
    rcases List.mem_append.1 hx with hx | hx
    · exact g.lw x hx
    · rw [List.mem_singleton.1 hx]; exact ⟨by decide, by decide⟩) g.sw g.ow (by simp; omega) (by omega) (by omega)
  refine ⟨hh.1, ?_, hh.2⟩
  have hz := hf.sz (al := al) (as_ := as_) (ao := ao) (ax := ax) (ay := ay) (az := az) hk
  unfold DiskV.sz mkD at hz ⊢
  simp only [List.length_append, List.length_cons, List.length_nil] at hz ⊢
  have e1 : tot (fun i => (fileAt (L ++ [zz]) i).sz) (L.length + (0 + 1)) = tot (fun i => (fileAt L i).sz) L.length + 2 := by
    show tot _ L.length + _ = _
    rw [tot_ext (h := fun i => (fileAt L i).sz) fun i hi => by rw [fileAt_append hi]]
    show _ + (fileAt (L ++ [zz]) L.length).sz = _
    rw [fileAt_last]
    rfl
  omega
/-- with one op less -/
theorem ans_less {W : World} {B g c : Nat} {al as_ ad : Option Addr} {ax ay az : Nat} {L S : List FileV} {O : List OpV} {k : Nat} (h : AnsS W B (.slice al L.length ax) (.slice as_ S.length ay) (.slice (some ⟨g, 0, none⟩) O.length az) L S O) (hf : Few L S O k) (hk : k ≤ 20) (h0 : 0 < O.length) (had : 1 < O.length → ad = some ⟨g, 4, none⟩) :
    let d : DiskV := ⟨⟨al, L.length, ax, fileAt L⟩, ⟨as_, S.length, ay, fileAt S⟩, ⟨ad, O.length - 1, c, fun i => opAt O (i + 1)⟩⟩
    d.at W ∧ d.sz ≤ 500000 ∧ d.new B := by
  obtain ⟨h1, h2, h3⟩ := h.few hf hk
  intro d
  refine ⟨⟨h1.1, h1.2.1, ?_, fun hn => ?_, fun i hi => ?_⟩, ?_, h3.1, h3.2.1, fun hn => ?_⟩
  · have := h1.2.2.1
    exact Nat.le_trans (Nat.sub_le _ _) this
  · obtain ⟨b, off, e, hlt, hc⟩ := h1.2.2.2.1 h0
    have e' : (some (⟨g, 0, none⟩ : Addr)) = some ⟨b, off, none⟩ := e
    simp only [Option.some.injEq, Addr.mk.injEq, and_true] at e'
    obtain ⟨rfl, rfl⟩ := e'
    refine ⟨g, 4, had (by have : 0 < O.length - 1 := hn; omega), hlt, fun i hi => ?_⟩
    have hi' : i + 1 < O.length := by have : i < O.length - 1 := hi; omega
    have := hc (i + 1) hi'
    have ei : 0 + (i + 1) * 4 = 4 + i * 4 := by omega
    rw [ei] at this
    exact this
  · have hi' : i + 1 < O.length := by have : i < O.length - 1 := hi; omega
    exact h1.2.2.2.2 (i + 1) hi'
  · obtain ⟨m, hm⟩ : ∃ m, O.length = m + 1 := ⟨O.length - 1, by omega⟩
    have e := tot_off (g := fun i => (opAt O i).sz) (n := m)
    unfold DiskV.sz mkD at h2
    simp only at h2
    show (L.length + tot (fun i => (fileAt L i).sz) L.length) + (S.length + tot (fun i => (fileAt S i).sz) S.length) + (O.length - 1 + tot (fun i => (opAt O (i + 1)).sz) (O.length - 1)) ≤ 500000
    rw [hm] at h2
    have e1 : O.length - 1 = m := by omega
    rw [e1]
    omega
  · obtain ⟨b, off, e, hb⟩ := h3.2.2 h0
    have e' : (some (⟨g, 0, none⟩ : Addr)) = some ⟨b, off, none⟩ := e
    simp only [Option.some.injEq, Addr.mk.injEq, and_true] at e'
    exact ⟨g, 4, had (by have : 0 < O.length - 1 := hn; omega), by omega⟩
/-- one great file, seen and safe -/
theorem great_disk {W : World} {B b : Nat} {s : ByteArray} (h : Blk W b (.cells #[.string ⟨#[98, 105, 103]⟩, .string s] 56)) (hs : s.size ≤ 200000) (hb : B ≤ b) :
    let l : FileL := ⟨some ⟨b, 0, none⟩, 1, 1, fun _ => ⟨⟨#[98, 105, 103]⟩, s⟩⟩
    let d : DiskV := ⟨l, l, ⟨none, 0, 0, fun _ => OpV.z⟩⟩
    d.at W ∧ d.sz ≤ 500000 ∧ d.new B := by
  intro l d
  obtain ⟨z0, z1⟩ := h.two
  have ha : l.at W := ⟨by unfold maxLen; show 1 ≤ _; omega, fun _ => ⟨b, 0, rfl, h.lt, fun i hi => by
    have : i = 0 := by have : i < 1 := hi; omega
    subst this
    exact ⟨z0, z1⟩⟩, fun i hi => ⟨by unfold maxLen; show 3 ≤ _; omega, by unfold maxLen; show s.size ≤ _; omega⟩⟩
  have hn : NewA B l.a l.n := fun _ => ⟨b, 0, rfl, hb⟩
  refine ⟨⟨ha, ha, ⟨Nat.zero_le _, fun h => absurd h (Nat.lt_irrefl 0), fun i hi => absurd hi (Nat.not_lt_zero i)⟩⟩, ?_, hn, hn, fun h => absurd h (Nat.lt_irrefl 0)⟩
  show (1 + (0 + (3 + s.size))) + (1 + (0 + (3 + s.size))) + (0 + 0) ≤ 500000
  omega
theorem wpList_append_f {ops : Array Oper} {rest : List Oper} {oo : Oper} {a : Act} {Q : Exit → Act → World → Prop} (w : World) (hgd : oo.guard = none) (s x : Operand)
    (ho : oo.op = .call { callee := .builtin .append, args := #[s, x], argTypes := #[24, 24] })
    (B : Nat) (v : Value) (l : List FileV) (hs : a.eval s = v) (hown : ZF w B v l) (ad : Option Addr) (c : Nat) (f : FileV) (hx : a.eval x = .slice ad 1 c) (hc : FilL w ad [f]) (hn : l.length ≤ 1048576) (hB : B ≤ w.heap.size)
    (h : ∀ a' c' w', OwnF w' B (.slice a' (l.length + 1) c') (l ++ [f]) → (∀ u m, ZF w B u m → Apt v u → ZF w' B u m) → (∀ u m, ZO w B u m → ZO w' B u m) → (∀ P t cs, t ≠ 56 → Blk w P (.cells cs t) → Blk w' P (.cells cs t)) → Below B w w' → wpList Try.prog ops Q rest (a.put oo.dst (.slice a' (l.length + 1) c')) w') : wpList Try.prog ops Q (oo :: rest) a w := by
  refine wpList_plain hgd fun K hK => ?_
  obtain ⟨a', c', w', hr, h2, h3, h4, h5, h6⟩ := run_append_f w oo.type B v l hown ad c f hc hn hB
  unfold Oper.wp execOp
  simp only [ho, resolve, invoke, builtin, Sem.run_bind, Sem.run_pure, Result.andThen_ok, List.map_toArray, List.map_cons, List.map_nil, hs, hx, hr]
  exact hK _ _ (h a' c' w' h2 h3 h4 h5 h6)
/-- only block P was written -/
structure Only (P : Nat) (w W : World) : Prop where
  gr : w.grownBy W (some P)
  size : W.heap.size = w.heap.size
theorem Only.blk {P R : Nat} {w W : World} {o : Obj} (h : Only P w W) (hb : Blk w R o) (hne : R ≠ P) : Blk W R o := hb.grown h.gr (by simpa using hne)
theorem Only.below {P B : Nat} {w W : World} (h : Only P w W) (hB : B ≤ P) (hb : B ≤ w.heap.size) : Below B w W := below_grown h.gr hb (fun j e => by cases e; exact hB)
theorem wpList_store3 {ops : Array Oper} {rest : List Oper} {o : Oper} {a : Act} {Q : Exit → Act → World → Prop} (w : World) (hgd : o.guard = none) (hd : o.dst = none) (p x : Operand)
    (ho : o.op = .store 27 p x) (P : Nat) (hp : a.eval p = .pointer (some ⟨P, 0, none⟩)) (u v z : Value) (hx : a.eval x = .agg #[u, v, z]) (c0 c1 c2 : Value) (hb : Blk w P (.cells #[c0, c1, c2] 27))
    (h1 : u.oneCell' = true) (h2 : v.oneCell' = true) (h3 : z.oneCell' = true)
    (h : ∀ W, Blk W P (.cells #[u, v, z] 27) → Only P w W → wpList Try.prog ops Q rest a W) : wpList Try.prog ops Q (o :: rest) a w := by
  refine wpList_plain hgd fun _ hK => ?_
  have hl := run_storeVar_row (P := Try.prog) w P 27 27 #[c0, c1, c2] #[u, v, z] hb (by kernel_rfl) rfl (by simp [h1, h2, h3])
  unfold Oper.wp execOp
  simp only [ho, hp, hx, Instr.storeAt, Instr.sureAddr, Sem.run_bind, Sem.run_pure, Result.andThen_ok, hl]
  refine hK _ _ ?_
  rw [hd]
  exact h _ (setRow_heap w P _ _ _ _ hb) ⟨⟨rfl, rfl, rfl, by simp, fun k hk hne => setRow_other w P k _ (fun e => hne (by rw [e]))⟩, by simp⟩
end Go.Proofs.Ytcchpeebhkiacaa
