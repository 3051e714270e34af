/- A crash that keeps all, or nothing; plainly. -/
import Derived.Test.YtcchpeebhkiacaaMR
import Derived.Test.YtcchpeebhkiacaaMJ
import Derived.Test.YtcchpeebhkiacaaMN
namespace Go.Proofs.Ytcchpeebhkiacaa
open Go Go.RowKit Go.Deep Go.Maps

theorem sameV_same {a b : FileV} (h : sameV a b = true) : a = b := by
  unfold sameV at h
  simp only [Bool.and_eq_true, beq_iff_eq] at h
  rcases a with ⟨an, ad⟩
  rcases b with ⟨bn, bd⟩
  simp only at h
  obtain ⟨h1, h2⟩ := h
  have e1 : an = bn := key_inj (by unfold key; rw [Lib.toList_data, Lib.toList_data] at h1; exact h1)
  have e2 : ad = bd := key_inj (by unfold key; rw [Lib.toList_data, Lib.toList_data] at h2; exact h2)
  rw [e1, e2]
/-- the ops of a right disk lead from what is safe to what is seen -/
theorem dkOk_run {d : DiskV} (h : dkOk d = true) : runO d.safe.toL d.ops.f d.ops.n = some d.live.toL := by
  unfold dkOk at h
  simp only [Bool.and_eq_true] at h
  cases e : runO d.safe.toL d.ops.f d.ops.n with
  | none => rw [e] at h; cases h.2
  | some M =>
    rw [e] at h
    have h2 := h.2
    simp only [Bool.and_eq_true, decide_eq_true_eq] at h2
    obtain ⟨hl, hs⟩ := h2
    have hs' : ∀ i, i < M.length → fileAt M i = d.live.f i := fun i hi => sameV_same (List.all_eq_true.1 hs i (List.mem_range.2 hi))
    have : M = d.live.toL := by
      rw [← map_fileAt M]
      unfold FileL.toL
      rw [← hl]
      exact List.map_congr_left fun i hi => hs' i (List.mem_range.1 hi)
    rw [this]
theorem stepL_next {M N : List FileV} {o : OpV} (h : stepL M o = some N) : (doF M.length (fileAt M) o).1 = N := by
  unfold stepL at h
  split at h
  · exact Option.some.inj h
  · cases h
/-- all places, each once -/
def allK (i : Nat) : Int := i
theorem allK_ok (n : Nat) : kpAll n allK n = true := by
  refine List.all_eq_true.2 fun i hi => ?_
  have hi := List.mem_range.1 hi
  unfold kpOk inB allK
  by_cases e : i = 0
  · subst e; simp; omega
  · simp [e]; omega
theorem runK_all {L : List FileV} {f : Nat → OpV} {n : Nat} {t : Int} (ht : ∀ i, i < n → ((f i).data.size : Int) ≤ t) : ∀ {i : Nat} {M : List FileV}, i ≤ n → runO L f i = some M → runK n allK f t L i = M
  | 0, M, _, h => Option.some.inj h
  | i + 1, M, hi, h => by
    rw [runO] at h
    obtain ⟨N, h1, h2⟩ := Option.bind_eq_some_iff.1 h
    rw [runK, runK_all ht (by omega) h1]
    have e : opK n allK f t i = f i := by
      unfold opK allK
      split
      · exact cutO_same (ht i (by omega))
      · rfl
    rw [e]
    exact stepL_next h2
/-- a crash that keeps all leaves what is seen -/
theorem crA_all {d : DiskV} {t : Int} (h : dkOk d = true) (h0 : 0 ≤ t) (ht : ∀ i, i < d.ops.n → ((d.ops.f i).data.size : Int) ≤ t) : crA d d.ops.n allK t = (d.live.toL, true) := by
  have e := runK_all ht (Nat.le_refl _) (dkOk_run h)
  rw [crA_yes ⟨h, h0, allK_ok _, by rw [e]; rw [okL_toL]; unfold dkOk at h; simp only [Bool.and_eq_true] at h; exact h.1.1.1⟩, e]
/-- a crash that keeps nothing leaves what is safe -/
theorem crA_none {d : DiskV} {g : Nat → Int} (h : dkOk d = true) : crA d 0 g 0 = (d.safe.toL, true) := by
  have hs := (dkOk_safe h).1
  rw [crA_yes (n := 0) (g := g) (t := 0) ⟨h, Int.le_refl _, rfl, hs⟩]
  rfl
end Go.Proofs.Ytcchpeebhkiacaa
/- What an op does to the files that are seen; plainly. -/
namespace Go.Proofs.Ytcchpeebhkiacaa
open Go Go.RowKit Go.Deep Go.Maps

theorem codeL_zero {M : List FileV} {o : OpV} (h : codeL M o = 0) : opForm o = true ∧ (doF M.length (fileAt M) o).2 = true ∧ okL (doF M.length (fileAt M) o).1 = true := by
  unfold codeL at h
  split at h
  · cases h
  · rename_i h1
    split at h
    · cases h
    · rename_i h2
      split at h
      · rename_i h3
        exact ⟨by simpa using h1, by simpa using h2, h3⟩
      · cases h
/-- behind an append -/
theorem look_one {M : List FileV} {o : OpV} (hM : Rise M) (k : o.kind = 1) : lookL (doF M.length (fileAt M) o).1 (key o.name) = some (addD (lookL M (key o.name)) o.data) := by
  rw [doF_one hM k]
  simp only
  rw [look_putR hM]
  simp [setL]
theorem found_do {M : List FileV} {o : OpV} (k : o.kind ≠ 1) (h : (doF M.length (fileAt M) o).2 = true) : ∃ x, lookL M (key o.name) = some x := by
  cases e : lookL M (key o.name) with
  | none => rw [doF_none k e] at h; cases h
  | some x => exact ⟨x, rfl⟩
/-- behind a rename -/
theorem look_two {M : List FileV} {o : OpV} {x : ByteArray} (hM : Rise M) (k : o.kind = 2) (h : lookL M (key o.name) = some x) :
    lookL (doF M.length (fileAt M) o).1 (key o.to) = some x ∧ (lookL (doF M.length (fileAt M) o).1 (key o.name)).isSome = decide (key o.to = key o.name) := by
  rw [doF_two hM k h]
  simp only
  rw [look_putR (hM.cut _), look_cut]
  constructor
  · simp [setL]
  · by_cases e : key o.to = key o.name
    · simp [setL, e]
    · simp [setL, delL, e]
/-- behind a remove -/
theorem look_three {M : List FileV} {o : OpV} (k : o.kind = 3) (h : (doF M.length (fileAt M) o).2 = true) : lookL (doF M.length (fileAt M) o).1 (key o.name) = none := by
  obtain ⟨x, hx⟩ := found_do (by omega) h
  rw [doF_three (by omega) (by omega) hx]
  simp only
  rw [look_cut]
  simp [delL]
/-- a disk is right by its lists alone -/
theorem runO_congr {L : List FileV} {f g : Nat → OpV} : ∀ {n : Nat}, (∀ i, i < n → f i = g i) → runO L f n = runO L g n
  | 0, _ => rfl
  | n + 1, h => by rw [runO, runO, runO_congr fun i hi => h i (by omega), h n (by omega)]
theorem sameF_of {M : List FileV} {l : FileL} (h : M = l.toL) : (decide (M.length = l.n) && sameF M.length (fileAt M) l.f) = true := by
  have e : M.length = l.n := by rw [h, toL_len]
  simp only [Bool.and_eq_true, decide_eq_true_eq]
  refine ⟨e, List.all_eq_true.2 fun i hi => ?_⟩
  have hi := List.mem_range.1 hi
  rw [h, fileAt_toL (by omega)]
  unfold sameV
  simp
theorem dkOk_of {d : DiskV} {L S : List FileV} {O : List OpV} (h1 : d.live.toL = L) (h2 : d.safe.toL = S) (h3 : d.ops.toL = O) (hl : okL L = true) (hs : okL S = true) (hn : O.length ≤ 200) (hr : runO S (opAt O) O.length = some L) : dkOk d = true := by
  have e3 : O.length = d.ops.n := by rw [← h3, OpL.toL_len]
  have er : runO d.safe.toL d.ops.f d.ops.n = some L := by
    rw [h2, ← e3, ← hr]
    refine runO_congr fun i hi => ?_
    rw [← h3]
    simp [opAt, OpL.toL, show i < d.ops.n by omega]
  unfold dkOk
  simp only [Bool.and_eq_true, decide_eq_true_eq, er]
  refine ⟨⟨⟨?_, ?_⟩, by omega⟩, ?_⟩
  · rw [← okL_toL, h1]; exact hl
  · rw [← okL_toL, h2]; exact hs
  · have := sameF_of (M := L) (l := d.live) h1.symm
    simpa only [Bool.and_eq_true, decide_eq_true_eq] using this
/-- behind an op that is done the disk is right again -/
theorem dkOk_do {d e : DiskV} {o : OpV} (h : dkOk d = true) (hc : actC d o = 0) (h1 : e.live.toL = actL d o) (h2 : e.safe.toL = d.safe.toL) (h3 : e.ops.toL = actO d o) : dkOk e = true := by
  have hn : ¬ (codeL d.live.toL o = 0 ∧ d.ops.n = 200) := fun hh => by unfold actC at hc; rw [if_pos hh] at hc; cases hc
  have c0 : codeL d.live.toL o = 0 := by unfold actC at hc; rw [if_neg hn] at hc; exact hc
  obtain ⟨f1, f2, f3⟩ := codeL_zero c0
  have hs := dkOk_safe h
  have eL : actL d o = (doF d.live.toL.length (fileAt d.live.toL) o).1 := by unfold actL; rw [if_pos hc]; rfl
  have eO : actO d o = d.ops.toL ++ [o] := by unfold actO; rw [if_pos hc]
  have ln : d.ops.toL.length = d.ops.n := OpL.toL_len d.ops
  have ne : d.ops.n ≠ 200 := fun e => hn ⟨c0, e⟩
  refine dkOk_of h1 h2 h3 (by rw [eL]; exact f3) hs.1 (by rw [eO, List.length_append, ln]; have := hs.2; simp; omega) ?_
  rw [eO, eL, List.length_append, ln]
  show runO d.safe.toL (opAt (d.ops.toL ++ [o])) (d.ops.n + 1) = _
  rw [runO]
  have er : runO d.safe.toL (opAt (d.ops.toL ++ [o])) d.ops.n = some d.live.toL := by
    rw [← dkOk_run h]
    refine runO_congr fun i hi => ?_
    simp [opAt, OpL.toL, List.getElem?_append, hi]
  have eo : opAt (d.ops.toL ++ [o]) d.ops.n = o := by simp [opAt, OpL.toL]
  rw [er, eo]
  show stepL _ _ = _
  unfold stepL
  rw [if_pos ⟨f2, f1, f3⟩]
end Go.Proofs.Ytcchpeebhkiacaa
/- Small disks, plainly: what a reader's disk may hold. -/
namespace Go.Proofs.Ytcchpeebhkiacaa
open Go Go.RowKit Go.Deep Go.Maps

structure Few (L S : List FileV) (O : List OpV) (k : Nat) : Prop where
  okl : okL L = true
  oks : okL S = true
  ll : L.length ≤ k
  ls : S.length ≤ k
  lo : O.length ≤ k
  fl : ∀ f ∈ L, f.name.size ≤ 8 ∧ f.data.size ≤ 8 * k
  fs : ∀ f ∈ S, f.name.size ≤ 8 ∧ f.data.size ≤ 8 * k
  fo : ∀ o ∈ O, o.name.size ≤ 8 ∧ o.to.size ≤ 8 ∧ o.data.size ≤ 8
theorem Few.nil : Few [] [] [] 0 := ⟨rfl, rfl, Nat.le_refl _, Nat.le_refl _, Nat.le_refl _, (fun _ h => absurd h List.not_mem_nil), (fun _ h => absurd h List.not_mem_nil), (fun _ h => absurd h List.not_mem_nil)⟩
theorem Few.more {L S : List FileV} {O : List OpV} {k j : Nat} (h : Few L S O k) (hj : k ≤ j) : Few L S O j :=
  ⟨h.okl, h.oks, Nat.le_trans h.ll hj, Nat.le_trans h.ls hj, Nat.le_trans h.lo hj, fun f hf => by have := h.fl f hf; omega, fun f hf => by have := h.fs f hf; omega, h.fo⟩
theorem Few.sync {L S : List FileV} {O : List OpV} {k : Nat} (h : Few L S O k) : Few L L [] k := ⟨h.okl, h.okl, h.ll, h.ll, Nat.zero_le _, h.fl, h.fl, (fun _ h => absurd h List.not_mem_nil)⟩
theorem Few.do {L S : List FileV} {O : List OpV} {k : Nat} {o : OpV} (h : Few L S O k) (hc : codeL L o = 0) (ho : o.name.size ≤ 8 ∧ o.to.size ≤ 8 ∧ o.data.size ≤ 8) : Few (doF L.length (fileAt L) o).1 S (O ++ [o]) (k + 1) := by
  obtain ⟨f1, f2, f3⟩ := codeL_zero hc
  have hb := bytes_do (o := o) (neat_ok h.okl).rise
  have h1 := h.ll
  have h2 := h.lo
  refine ⟨f3, h.oks, by omega, Nat.le_trans h.ls (Nat.le_succ _), by rw [List.length_append]; simp; omega, fun f hf => ?_, fun f hf => by have := h.fs f hf; omega, fun x hx => ?_⟩
  · exact doF_mem (P := fun s => s.size ≤ 8) (Q := fun s => s.size ≤ 8 * (k + 1)) (fun j hj => by have := h.fl _ (fileAt_mem hj); exact ⟨this.1, by have h3 := this.2; show _ ≤ _; omega⟩) ho.1 ho.2.1 (by show _ ≤ _; have := ho.2.2; omega) (fun j hj => by
      show (_ : ByteArray).size ≤ _
      rw [ByteArray.size_append]
      have h3 := (h.fl _ (fileAt_mem hj)).2
      have h4 := ho.2.2
      omega) f hf
  · rcases List.mem_append.1 hx with hx | hx
    · exact h.fo x hx
    · rw [List.mem_singleton.1 hx]; exact ho
/-- such a disk is small -/
theorem Few.sz {al as_ ao : Option Addr} {ax ay az : Nat} {L S : List FileV} {O : List OpV} {k : Nat} (h : Few L S O k) (hk : k ≤ 20) : (mkD al ax as_ ay ao az L S O).sz ≤ 10000 := by
  have h1 := h.ll
  have h2 := h.ls
  have h3 := h.lo
  have t1 : tot (fun i => (fileAt L i).sz) L.length ≤ L.length * 168 := tot_bound (fun i hi => by have := h.fl _ (fileAt_mem hi); unfold FileV.sz; omega)
  have t2 : tot (fun i => (fileAt S i).sz) S.length ≤ S.length * 168 := tot_bound (fun i hi => by have := h.fs _ (fileAt_mem hi); unfold FileV.sz; omega)
  have t3 : tot (fun i => (opAt O i).sz) O.length ≤ O.length * 24 := tot_bound (fun i hi => by have := h.fo _ (opAt_mem hi); unfold OpV.sz; omega)
  unfold DiskV.sz mkD
  simp only
  omega
end Go.Proofs.Ytcchpeebhkiacaa
