/- Ops one behind the other, plainly; what is done to disks said by lists. -/
import Derived.Test.YtcchpeebhkiacaaMJ
import Derived.Test.YtcchpeebhkiacaaEI
namespace Go.Proofs.Ytcchpeebhkiacaa
open Go Go.RowKit Go.Deep Go.Maps

def cdL (L : List FileV) (n : Nat) (o : OpV) : Int := if codeL L o = 0 ∧ n = 200 then 4 else codeL L o
def stL (L : List FileV) (O : List OpV) (o : OpV) : List FileV := if cdL L O.length o = 0 then (doF L.length (fileAt L) o).1 else L
def stO (L : List FileV) (O : List OpV) (o : OpV) : List OpV := if cdL L O.length o = 0 then O ++ [o] else O
/-- right files, and what else a disk has, of bounded size -/
structure GoodD (L S : List FileV) (O : List OpV) (m : Nat) : Prop where
  ok : okL L = true
  lw : ∀ x ∈ L, x.wf
  sw : ∀ x ∈ S, x.wf
  ow : ∀ x ∈ O, x.wf
  sn : S.length ≤ 1048576
  on : O.length ≤ m
theorem GoodD.step {L S : List FileV} {O : List OpV} {m : Nat} {o : OpV} (g : GoodD L S O m) (ho : o.wf) (hz : o.data.size ≤ 1048576) : GoodD (stL L O o) S (stO L O o) (m + 1) := by
  unfold stL stO
  by_cases c : cdL L O.length o = 0
  · rw [if_pos c, if_pos c]
    have c0 : codeL L o = 0 := by
      unfold cdL at c
      split at c
      · cases c
      · exact c
    refine ⟨(codeL_good c0).1, fun x hx => ((doF_wf g.ok g.lw ho hz).2 x hx).1, g.sw, fun x hx => ?_, g.sn, ?_⟩
    · rcases List.mem_append.1 hx with hx | hx
      · exact g.ow x hx
      · rw [List.mem_singleton.1 hx]; exact ho
    · rw [List.length_append]
      have := g.on
      simp
      omega
  · rw [if_neg c, if_neg c]
    exact ⟨g.ok, g.lw, g.sw, g.ow, g.sn, by have := g.on; omega⟩
def mkD (al : Option Addr) (ax : Nat) (as_ : Option Addr) (ay : Nat) (ao : Option Addr) (az : Nat) (L S : List FileV) (O : List OpV) : DiskV := ⟨⟨al, L.length, ax, fileAt L⟩, ⟨as_, S.length, ay, fileAt S⟩, ⟨ao, O.length, az, opAt O⟩⟩
theorem map_opAt (O : List OpV) : (List.range O.length).map (opAt O) = O := by
  refine List.ext_getElem (by simp) fun i h1 h2 => ?_
  simp [opAt, h2]
theorem opAt_mem {O : List OpV} {i : Nat} (hi : i < O.length) : opAt O i ∈ O := by
  have e1 : opAt O i = O[i] := by simp [opAt, hi]
  rw [e1]
  exact List.getElem_mem hi
theorem mkD_at {W : World} {al as_ ao : Option Addr} {ax ay az : Nat} {L S : List FileV} {O : List OpV} {m : Nat} (h : DAt W (.slice al L.length ax) (.slice as_ S.length ay) (.slice ao O.length az) L.length S.length O.length (fileAt L) (fileAt S) (opAt O)) (g : GoodD L S O m) (hm : m ≤ 1048576) : (mkD al ax as_ ay ao az L S O).at W := by
  obtain ⟨⟨a1, c1, e1, h1⟩, ⟨a2, c2, e2, h2⟩, ⟨a3, c3, e3, h3⟩⟩ := h
  simp only [Value.slice.injEq] at e1 e2 e3
  obtain ⟨rfl, _, _⟩ := e1
  obtain ⟨rfl, _, _⟩ := e2
  obtain ⟨rfl, _, _⟩ := e3
  have l1 := (okL_bytes g.ok).2
  have l2 := g.sn
  have l3 := g.on
  exact ⟨⟨by unfold maxLen; show L.length ≤ _; omega, h1, fun i hi => g.lw _ (fileAt_mem hi)⟩, ⟨by unfold maxLen; show S.length ≤ _; omega, h2, fun i hi => g.sw _ (fileAt_mem hi)⟩, ⟨by unfold maxLen; show O.length ≤ _; omega, h3, fun i hi => g.ow _ (opAt_mem hi)⟩⟩
theorem mkD_small {al as_ ao : Option Addr} {ax ay az : Nat} {L S : List FileV} {O : List OpV} {m : Nat} (g : GoodD L S O m) (hm : m ≤ 1048576) : (mkD al ax as_ ay ao az L S O).small := by
  have l1 := (okL_bytes g.ok).2
  have l3 := g.on
  exact ⟨by show L.length ≤ _; omega, g.sn, by show O.length ≤ _; omega⟩
theorem mkD_live {al as_ ao : Option Addr} {ax ay az : Nat} {L S : List FileV} {O : List OpV} : (mkD al ax as_ ay ao az L S O).live.toL = L ∧ (mkD al ax as_ ay ao az L S O).safe.toL = S ∧ (mkD al ax as_ ay ao az L S O).ops.toL = O := ⟨map_fileAt L, map_fileAt S, map_opAt O⟩
theorem mkD_act {al as_ ao : Option Addr} {ax ay az : Nat} {L S : List FileV} {O : List OpV} (o : OpV) : actC (mkD al ax as_ ay ao az L S O) o = cdL L O.length o ∧ actL (mkD al ax as_ ay ao az L S O) o = stL L O o ∧ actO (mkD al ax as_ ay ao az L S O) o = stO L O o := by
  have e := mkD_live (al := al) (as_ := as_) (ao := ao) (ax := ax) (ay := ay) (az := az) (L := L) (S := S) (O := O)
  have e1 : actC (mkD al ax as_ ay ao az L S O) o = cdL L O.length o := by
    unfold actC cdL
    rw [e.1]
    rfl
  refine ⟨e1, ?_, ?_⟩
  · unfold actL stL nextL
    rw [e1, e.1]
  · unfold actO stO
    rw [e1, e.2.2]

theorem specAct_L (L S : List FileV) (O : List OpV) (m : Nat) (g : GoodD L S O m) (hm : m ≤ 1048576) (al as_ ao : Option Addr) (ax ay az : Nat) (o : OpV) (ho : o.wf) (hz : o.data.size ≤ 1048576) (W : World) (h : DAt W (.slice al L.length ax) (.slice as_ S.length ay) (.slice ao O.length az) L.length S.length O.length (fileAt L) (fileAt S) (opAt O)) :
    Calls Try.prog 37 #[.agg #[.slice al L.length ax, .slice as_ S.length ay, .slice ao O.length az], .agg #[.int .i64 o.kind, .string o.name, .string o.to, .string o.data]] W fun e w' => ∃ bl bs bo bx by_ bz, e = .returned (.tuple #[.agg #[.slice bl (stL L O o).length bx, .slice bs S.length by_, .slice bo (stO L O o).length bz], .int .i64 (cdL L O.length o)]) ∧ AnsS w' W.heap.size (.slice bl (stL L O o).length bx) (.slice bs S.length by_) (.slice bo (stO L O o).length bz) (stL L O o) S (stO L O o) ∧ Below W.heap.size W w' := by
  have hc := l11Act_any (mkD al ax as_ ay ao az L S O) o W (mkD_at h g hm) (mkD_small g hm) (by rw [← okL_toL, mkD_live.1]; exact g.ok) ho hz
  rw [(mkD_act o).1, (mkD_act o).2.1, (mkD_act o).2.2, mkD_live.2.1] at hc
  refine hc.mono ?_
  rintro e w' ⟨vl, vs, vo, rfl, h2, h3⟩
  obtain ⟨bl, bx, rfl⟩ := h2.l.shape
  obtain ⟨bs, by_, rfl⟩ := h2.s.shape
  obtain ⟨bo, bz, rfl⟩ := h2.o.shape
  exact ⟨bl, bs, bo, bx, by_, bz, rfl, h2, h3⟩

theorem implAct_L (L S : List FileV) (O : List OpV) (m : Nat) (g : GoodD L S O m) (hm : m ≤ 1048576) (al as_ ao : Option Addr) (ax ay az : Nat) (o : OpV) (ho : o.wf) (hz : o.data.size ≤ 1048576) (W : World) (h : DAt W (.slice al L.length ax) (.slice as_ S.length ay) (.slice ao O.length az) L.length S.length O.length (fileAt L) (fileAt S) (opAt O)) :
    Calls Try.prog 36 #[.agg #[.slice al L.length ax, .slice as_ S.length ay, .slice ao O.length az], .agg #[.int .i64 o.kind, .string o.name, .string o.to, .string o.data]] W fun e w' => ∃ bl bs bo bx by_ bz, e = .returned (.tuple #[.agg #[.slice bl (stL L O o).length bx, .slice bs S.length by_, .slice bo (stO L O o).length bz], .int .i64 (cdL L O.length o)]) ∧ AnsI w' W.heap.size (.slice bl (stL L O o).length bx) (.slice bs S.length by_) (.slice bo (stO L O o).length bz) (stL L O o) S (stO L O o) ∧ Below W.heap.size W w' := by
  have hc := doneTo_any (mkD al ax as_ ay ao az L S O) o W (mkD_at h g hm) (mkD_small g hm) (by rw [← okL_toL, mkD_live.1]; exact g.ok) ho hz
  rw [(mkD_act o).1, (mkD_act o).2.1, (mkD_act o).2.2, mkD_live.2.1] at hc
  refine hc.mono ?_
  rintro e w' ⟨vl, vs, vo, rfl, h2, h3⟩
  obtain ⟨bl, bx, rfl⟩ := ownsRow_shape h2.l
  obtain ⟨bs, by_, rfl⟩ := ownsRow_shape h2.s
  obtain ⟨bo, bz, rfl⟩ := ownsRow_shape h2.o
  exact ⟨bl, bs, bo, bx, by_, bz, rfl, h2, h3⟩

theorem specCopy_L (L S : List FileV) (O : List OpV) (m : Nat) (g : GoodD L S O m) (hm : m ≤ 1048576) (al as_ ao : Option Addr) (ax ay az : Nat) (W : World) (h : DAt W (.slice al L.length ax) (.slice as_ S.length ay) (.slice ao O.length az) L.length S.length O.length (fileAt L) (fileAt S) (opAt O)) :
    Calls Try.prog 44 #[.agg #[.slice al L.length ax, .slice as_ S.length ay, .slice ao O.length az]] W fun e w' => ∃ bl bs bo bx by_ bz, e = .returned (.agg #[.slice bl L.length bx, .slice bs S.length by_, .slice bo O.length bz]) ∧ AnsS w' W.heap.size (.slice bl L.length bx) (.slice bs S.length by_) (.slice bo O.length bz) L S O ∧ Below W.heap.size W w' := by
  have hc := l11Copy_any (mkD al ax as_ ay ao az L S O) W (mkD_at h g hm) (mkD_small g hm)
  rw [mkD_live.1, mkD_live.2.1, mkD_live.2.2] at hc
  refine hc.mono ?_
  rintro e w' ⟨vl, vs, vo, rfl, h2, h3⟩
  obtain ⟨bl, bx, rfl⟩ := h2.l.shape
  obtain ⟨bs, by_, rfl⟩ := h2.s.shape
  obtain ⟨bo, bz, rfl⟩ := h2.o.shape
  exact ⟨bl, bs, bo, bx, by_, bz, rfl, h2, h3⟩

theorem implCopy_L (L S : List FileV) (O : List OpV) (m : Nat) (g : GoodD L S O m) (hm : m ≤ 1048576) (al as_ ao : Option Addr) (ax ay az : Nat) (W : World) (h : DAt W (.slice al L.length ax) (.slice as_ S.length ay) (.slice ao O.length az) L.length S.length O.length (fileAt L) (fileAt S) (opAt O)) :
    Calls Try.prog 42 #[.agg #[.slice al L.length ax, .slice as_ S.length ay, .slice ao O.length az]] W fun e w' => ∃ bl bs bo bx by_ bz, e = .returned (.agg #[.slice bl L.length bx, .slice bs S.length by_, .slice bo O.length bz]) ∧ AnsI w' W.heap.size (.slice bl L.length bx) (.slice bs S.length by_) (.slice bo O.length bz) L S O ∧ Below W.heap.size W w' := by
  have hc := copiedDisk_any (mkD al ax as_ ay ao az L S O) W (mkD_at h g hm) (mkD_small g hm)
  rw [mkD_live.1, mkD_live.2.1, mkD_live.2.2] at hc
  refine hc.mono ?_
  rintro e w' ⟨vl, vs, vo, rfl, h2, h3⟩
  obtain ⟨bl, bx, rfl⟩ := ownsRow_shape h2.l
  obtain ⟨bs, by_, rfl⟩ := ownsRow_shape h2.s
  obtain ⟨bo, bz, rfl⟩ := ownsRow_shape h2.o
  exact ⟨bl, bs, bo, bx, by_, bz, rfl, h2, h3⟩

/-- ops one behind the other, until one is refused -/
def runA : List OpV → List FileV → List OpV → List FileV × List OpV × Int
  | [], L, O => (L, O, 0)
  | o :: r, L, O => if cdL L O.length o = 0 then runA r (stL L O o) (stO L O o) else (L, O, cdL L O.length o)
def dotNew : ByteArray := ⟨#[46, 110, 101, 119]⟩
def repOps (L : List FileV) (name data : ByteArray) : List OpV :=
  (if (lookL L (key (name ++ dotNew))).isSome = true then [⟨3, name ++ dotNew, ⟨#[]⟩, ⟨#[]⟩⟩] else []) ++ [⟨1, name ++ dotNew, ⟨#[]⟩, data⟩, ⟨2, name ++ dotNew, name, ⟨#[]⟩⟩]
/-- what Replace answers -/
def repA (d : DiskV) (name data : ByteArray) : List FileV × List FileV × List OpV × Int :=
  if dkOk d = true then
    (if (runA (repOps d.live.toL name data) d.live.toL d.ops.toL).2.2 = 0 then ((runA (repOps d.live.toL name data) d.live.toL d.ops.toL).1, d.safe.toL, (runA (repOps d.live.toL name data) d.live.toL d.ops.toL).2.1, 0)
     else (d.live.toL, d.safe.toL, d.ops.toL, (runA (repOps d.live.toL name data) d.live.toL d.ops.toL).2.2))
  else ([], [], [], 1)
theorem runA_no {o : OpV} {r : List OpV} {L : List FileV} {O : List OpV} (h : cdL L O.length o ≠ 0) : runA (o :: r) L O = (L, O, cdL L O.length o) := by rw [runA, if_neg h]
theorem runA_yes {o : OpV} {r : List OpV} {L : List FileV} {O : List OpV} (h : cdL L O.length o = 0) : runA (o :: r) L O = runA r (stL L O o) (stO L O o) := by rw [runA, if_pos h]
theorem DiskV.datL {W : World} {d : DiskV} (h : d.at W) : DAt W (.slice d.live.a d.live.toL.length d.live.k) (.slice d.safe.a d.safe.toL.length d.safe.k) (.slice d.ops.a d.ops.toL.length d.ops.k) d.live.toL.length d.safe.toL.length d.ops.toL.length (fileAt d.live.toL) (fileAt d.safe.toL) (opAt d.ops.toL) := by
  rw [toL_len, toL_len, OpL.toL_len]
  exact ⟨⟨_, _, rfl, h.1.2.1.congr fun i hi => (fileAt_toL hi).symm⟩, ⟨_, _, rfl, h.2.1.2.1.congr fun i hi => (fileAt_toL hi).symm⟩, ⟨_, _, rfl, h.2.2.2.1.congr fun i hi => by simp [opAt, OpL.toL, hi]⟩⟩
theorem dkOk_good {W : World} {d : DiskV} (h : d.at W) (hk : dkOk d = true) : GoodD d.live.toL d.safe.toL d.ops.toL 200 := by
  have h3 : d.ops.n ≤ 200 ∧ fsOk d.safe.n d.safe.f = true := by
    unfold dkOk at hk
    simp only [Bool.and_eq_true, decide_eq_true_eq] at hk
    exact ⟨hk.1.2, hk.1.1.2⟩
  refine ⟨by rw [okL_toL]; exact dkOk_live hk, fun x hx => ?_, fun x hx => ?_, fun x hx => ?_, ?_, by rw [OpL.toL_len]; exact h3.1⟩
  · obtain ⟨i, hi, rfl⟩ := toL_mem hx; exact h.1.2.2 i hi
  · obtain ⟨i, hi, rfl⟩ := toL_mem hx; exact h.2.1.2.2 i hi
  · obtain ⟨i, hi, rfl⟩ := List.mem_map.1 hx; exact h.2.2.2.2 i (List.mem_range.1 hi)
  · rw [toL_len]; have := fsOk_len h3.2; omega
end Go.Proofs.Ytcchpeebhkiacaa
