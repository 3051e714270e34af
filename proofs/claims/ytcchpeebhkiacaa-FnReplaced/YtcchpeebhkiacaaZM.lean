/- A file that is replaced, and a crash behind it; plainly. -/
import Derived.Test.YtcchpeebhkiacaaZG
import Derived.Test.YtcchpeebhkiacaaMN
import Derived.Test.YtcchpeebhkiacaaZI
namespace Go.Proofs.Ytcchpeebhkiacaa
open Go Go.RowKit Go.Deep Go.Maps

theorem putR_len (s d e : ByteArray) : ∀ M : List FileV, (putR s d M).length = (putR s e M).length
  | [] => rfl
  | f :: r => by
    rw [putR, putR]
    split
    · rw [List.length_cons, List.length_cons, putR_len s d e r]
    · split <;> rfl
theorem run_two {L N : List FileV} {f : Nat → OpV} (h : runO L f 2 = some N) : ∃ M, stepL L (f 0) = some M ∧ stepL M (f 1) = some N := by
  rw [runO] at h
  obtain ⟨M, h1, h2⟩ := Option.bind_eq_some_iff.1 h
  rw [runO] at h1
  obtain ⟨K, h3, h4⟩ := Option.bind_eq_some_iff.1 h1
  cases h3
  exact ⟨M, h4, h2⟩
theorem doF_stay {M : List FileV} {o : OpV} (k : o.kind ≠ 1) (h : lookL M (key o.name) = none) : (doF M.length (fileAt M) o).1 = M := by
  rw [doF, if_neg k, lookF_eq, h]
  exact map_fileAt M
theorem stepL_all {M N : List FileV} {o : OpV} (h : stepL M o = some N) : opForm o = true ∧ okL N = true ∧ (doF M.length (fileAt M) o).1 = N := by
  have e := stepL_next h
  unfold stepL at h
  split at h
  · rename_i hh
    exact ⟨hh.2.1, by rw [← e]; exact hh.2.2, e⟩
  · cases h
theorem keep_two {n : Nat} {g : Nat → Int} (h : kpAll n g 2 = true) : n = 0 ∨ (n = 1 ∧ g 0 = 0) ∨ (n = 1 ∧ g 0 = 1) ∨ (n = 2 ∧ g 0 = 0 ∧ g 1 = 1) := by
  have hn := kp_few h
  have k0 : 0 < n → 0 ≤ g 0 ∧ g 0 < 2 := fun h0 => by have := kpOk_in (kpAll_at h h0); omega
  have k1 : 1 < n → g 0 < g 1 ∧ g 1 < 2 := fun h0 => by
    have h1 := kpAll_at h h0
    have h2 := kpOk_in h1
    unfold kpOk at h1
    simp at h1
    omega
  by_cases e0 : n = 0
  · exact .inl e0
  · have := k0 (by omega)
    by_cases e1 : n = 1
    · by_cases e2 : g 0 = 0
      · exact .inr (.inl ⟨e1, e2⟩)
      · exact .inr (.inr (.inl ⟨e1, by omega⟩))
    · have := k1 (by omega)
      exact .inr (.inr (.inr ⟨by omega, by omega, by omega⟩))
/-- the ops by which a file is replaced: of its other name an append, and a rename; a crash behind them leaves the old file or the new one -/
theorem rep_crash {e : DiskV} {n : Nat} {g : Nat → Int} {t : Int} {s fr data : ByteArray} (h : dkOk e = true) (h2 : e.ops.n = 2) (f0 : e.ops.f 0 = ⟨1, fr, ⟨#[]⟩, data⟩) (f1 : e.ops.f 1 = ⟨2, fr, s, ⟨#[]⟩⟩)
    (hf : lookL e.safe.toL (key fr) = none) (hne : key fr ≠ key s) (hk : kpAll n g 2 = true) (ht : 0 ≤ t) :
    (crA e n g t).2 = true ∧ (lookL (crA e n g t).1 (key s) = lookL e.safe.toL (key s) ∨ lookL (crA e n g t).1 (key s) = some data) ∧ lookL e.live.toL (key s) = some data := by
  have hr := dkOk_run h
  rw [h2] at hr
  obtain ⟨M, s1, s2⟩ := run_two hr
  rw [f0] at s1
  rw [f1] at s2
  obtain ⟨o1, k1, e1⟩ := stepL_all s1
  obtain ⟨o2, k2, e2⟩ := stepL_all s2
  have hL := (dkOk_safe h).1
  have nL := neat_ok hL
  have nM := neat_ok k1
  have hcr : okL (runK n g e.ops.f t e.safe.toL n) = true → crA e n g t = (runK n g e.ops.f t e.safe.toL n, true) := fun hh => crA_yes ⟨h, ht, by rw [h2]; exact hk, hh⟩
  generalize e.safe.toL = L at *
  have lM : lookL M (key fr) = some data := by
    rw [← e1, look_one nL.rise rfl]
    show some (addD (lookL L (key fr)) data) = _
    rw [hf]
    rfl
  have lN : lookL e.live.toL (key s) = some data := by
    rw [← e2]
    exact (look_two (o := ⟨2, fr, s, ⟨#[]⟩⟩) nM.rise rfl lM).1
  suffices hh : okL (runK n g e.ops.f t L n) = true ∧ (lookL (runK n g e.ops.f t L n) (key s) = lookL L (key s) ∨ lookL (runK n g e.ops.f t L n) (key s) = some data) by
    rw [hcr hh.1]
    exact ⟨rfl, hh.2, lN⟩
  rcases keep_two hk with rfl | ⟨rfl, g0⟩ | ⟨rfl, g0⟩ | ⟨rfl, g0, g1⟩
  · exact ⟨hL, .inl rfl⟩
  · have eo : opK 1 g e.ops.f t 0 = cutO ⟨1, fr, ⟨#[]⟩, data⟩ t := by unfold opK; rw [if_pos rfl, g0]; show cutO (e.ops.f 0) t = _; rw [f0]
    have er : runK 1 g e.ops.f t L 1 = putR fr (cutO ⟨1, fr, ⟨#[]⟩, data⟩ t).data L := by
      rw [runK, runK, eo, doF_one nL.rise rfl]
      show putR fr (addD (lookL L (key fr)) _) L = _
      rw [hf]
      rfl
    have em : M = putR fr data L := by
      rw [← e1, doF_one nL.rise rfl]
      show putR fr (addD (lookL L (key fr)) _) L = _
      rw [hf]
      rfl
    have nn : Neat (putR fr (cutO ⟨1, fr, ⟨#[]⟩, data⟩ t).data L) := by
      have := nL.do (o := cutO ⟨1, fr, ⟨#[]⟩, data⟩ t) (cutO_form o1)
      rw [doF_one nL.rise rfl] at this
      simp only at this
      have ea : addD (lookL L (key (cutO ⟨1, fr, ⟨#[]⟩, data⟩ t).name)) (cutO ⟨1, fr, ⟨#[]⟩, data⟩ t).data = (cutO ⟨1, fr, ⟨#[]⟩, data⟩ t).data := by
        show addD (lookL L (key fr)) _ = _
        rw [hf]
        rfl
      rw [ea] at this
      exact this
    rw [er]
    constructor
    · rw [okL_neat nn]
      rw [em] at k1 nM
      rw [okL_neat nM] at k1
      simp only [Bool.and_eq_true, decide_eq_true_eq] at k1 ⊢
      have b1 := bytes_putR (s := fr) (d := data) nL.rise
      have b2 := bytes_putR (s := fr) (d := (cutO ⟨1, fr, ⟨#[]⟩, data⟩ t).data) nL.rise
      have hc : (cutO ⟨1, fr, ⟨#[]⟩, data⟩ t).data.size ≤ data.size := by
        show (data.extract 0 _).size ≤ _
        rw [ByteArray.size_extract]
        omega
      rw [putR_len fr _ data]
      omega
    · left
      rw [look_putR nL.rise]
      simp [setL, hne]
  · have eo : opK 1 g e.ops.f t 0 = ⟨2, fr, s, ⟨#[]⟩⟩ := by unfold opK; rw [if_pos rfl, g0]; show cutO (e.ops.f 1) t = _; rw [f1]; exact cutO_empty rfl
    have er : runK 1 g e.ops.f t L 1 = L := by
      rw [runK, runK, eo]
      exact doF_stay (by show (2 : Int) ≠ 1; decide) hf
    rw [er]
    exact ⟨hL, .inl rfl⟩
  · have e0 : opK 2 g e.ops.f t 0 = ⟨1, fr, ⟨#[]⟩, data⟩ := by unfold opK; rw [if_neg (by decide), g0]; exact f0
    have e1' : opK 2 g e.ops.f t 1 = ⟨2, fr, s, ⟨#[]⟩⟩ := by unfold opK; rw [if_pos rfl, g1]; show cutO (e.ops.f 1) t = _; rw [f1]; exact cutO_empty rfl
    have er : runK 2 g e.ops.f t L 2 = e.live.toL := by
      rw [runK, runK, runK, e0, e1', e1, e2]
    rw [er]
    exact ⟨k2, .inr lN⟩
end Go.Proofs.Ytcchpeebhkiacaa
/- A file that is replaced, plainly: its two ops. -/
namespace Go.Proofs.Ytcchpeebhkiacaa
open Go Go.RowKit Go.Deep Go.Maps

def opA (s t : ByteArray) : OpV := ⟨1, s ++ dotNew, ⟨#[]⟩, t⟩
def opR (s : ByteArray) : OpV := ⟨2, s ++ dotNew, s, ⟨#[]⟩⟩
theorem dkOk_synced {d : DiskV} {L : List FileV} (hL : okL L = true) (h1 : d.live.toL = L) (h2 : d.safe.toL = L) (h3 : d.ops.toL = []) : dkOk d = true := dkOk_of h1 h2 h3 hL hL (Nat.zero_le _) rfl
theorem dkOk_next {L S : List FileV} {O : List OpV} {o : OpV} {e : DiskV} (h : ∀ d : DiskV, d.live.toL = L → d.safe.toL = S → d.ops.toL = O → dkOk d = true) (hc : cdL L O.length o = 0) (h1 : e.live.toL = stL L O o) (h2 : e.safe.toL = S) (h3 : e.ops.toL = stO L O o) : dkOk e = true := by
  have hd := h (mkD none 0 none 0 none 0 L S O) mkD_live.1 mkD_live.2.1 mkD_live.2.2
  exact dkOk_do hd ((mkD_act o).1.trans hc) (h1.trans (mkD_act o).2.1.symm) (h2.trans mkD_live.2.1.symm) (h3.trans (mkD_act o).2.2.symm)
theorem rep_two {d : DiskV} {s t : ByteArray} (hk : dkOk d = true) (ho : d.ops.toL = []) (hS : d.safe.toL = d.live.toL) (hc : (repA d s t).2.2.2 = 0) (hf : lookL d.live.toL (key (s ++ dotNew)) = none) :
    ∃ M, repA d s t = (M, d.live.toL, [opA s t, opR s], 0) ∧ ∀ e : DiskV, e.live.toL = M → e.safe.toL = d.live.toL → e.ops.toL = [opA s t, opR s] → dkOk e = true := by
  have hL : okL d.live.toL = true := by rw [okL_toL]; exact dkOk_live hk
  have eo : repOps d.live.toL s t = [opA s t, opR s] := by
    unfold repOps
    rw [hf]
    rfl
  unfold repA at hc ⊢
  rw [if_pos hk, eo, ho, hS] at hc ⊢
  generalize d.live.toL = L at *
  by_cases c1 : cdL L ([] : List OpV).length (opA s t) = 0
  · have e1 : stO L [] (opA s t) = [opA s t] := by unfold stO; rw [if_pos c1]; rfl
    rw [runA_yes c1, e1] at hc ⊢
    by_cases c2 : cdL (stL L [] (opA s t)) [opA s t].length (opR s) = 0
    · have e2 : stO (stL L [] (opA s t)) [opA s t] (opR s) = [opA s t, opR s] := by unfold stO; rw [if_pos c2]; rfl
      rw [runA_yes c2, e2] at hc ⊢
      refine ⟨stL (stL L [] (opA s t)) [opA s t] (opR s), by rw [show runA [] (stL (stL L [] (opA s t)) [opA s t] (opR s)) [opA s t, opR s] = (stL (stL L [] (opA s t)) [opA s t] (opR s), [opA s t, opR s], 0) from rfl]; exact if_pos rfl, fun e h1 h2 h3 => ?_⟩
      refine dkOk_next (L := stL L [] (opA s t)) (S := L) (O := [opA s t]) (o := opR s) (fun d' k1 k2 k3 => ?_) c2 h1 h2 (h3.trans e2.symm)
      exact dkOk_next (L := L) (S := L) (O := []) (o := opA s t) (fun d2 j1 j2 j3 => dkOk_synced hL j1 j2 j3) c1 k1 k2 (k3.trans e1.symm)
    · rw [runA_no c2] at hc
      rw [if_neg c2] at hc
      exact absurd hc c2
  · rw [runA_no c1] at hc
    rw [if_neg c1] at hc
    exact absurd hc c1
theorem fresh_ne (s : ByteArray) : key (s ++ dotNew) ≠ key s := fun e => by
  have h := key_inj e
  have h2 := congrArg ByteArray.size h
  rw [ByteArray.size_append] at h2
  have : dotNew.size = 4 := rfl
  omega
/-- places that are kept: rising, below k -/
def Kept (l : List Int) (k : Nat) : Prop := l.Pairwise (· < ·) ∧ ∀ x ∈ l, 0 ≤ x ∧ x < (k : Int)
theorem Kept.nil : Kept [] 0 := ⟨List.Pairwise.nil, fun _ h => absurd h List.not_mem_nil⟩
theorem Kept.skip {l : List Int} {k : Nat} (h : Kept l k) : Kept l (k + 1) := ⟨h.1, fun x hx => by have := h.2 x hx; omega⟩
theorem Kept.add {l : List Int} {k : Nat} (h : Kept l k) : Kept (l ++ [(k : Int)]) (k + 1) := by
  refine ⟨List.pairwise_append.2 ⟨h.1, List.pairwise_singleton _ _, fun x hx y hy => ?_⟩, fun x hx => ?_⟩
  · rw [List.mem_singleton.1 hy]; exact (h.2 x hx).2
  · rcases List.mem_append.1 hx with hx | hx
    · have := h.2 x hx; omega
    · rw [List.mem_singleton.1 hx]; omega
theorem Kept.all {l : List Int} {k : Nat} (h : Kept l k) : kpAll l.length (numAt l) k = true := by
  refine List.all_eq_true.2 fun i hi => ?_
  have hi := List.mem_range.1 hi
  have e1 : numAt l i = l[i] := by simp [numAt, hi]
  have h1 := h.2 _ (List.getElem_mem hi)
  unfold kpOk inB
  rw [e1]
  by_cases e : i = 0
  · subst e; simp; omega
  · have hj : i - 1 < l.length := by omega
    have e2 : numAt l (i - 1) = l[i - 1] := by simp [numAt, hj]
    have h2 := List.pairwise_iff_getElem.1 h.1 (i - 1) i hj hi (by omega)
    rw [e2]
    simp [e, h2]
    omega
theorem Kept.len {l : List Int} {k : Nat} (h : Kept l k) : l.length ≤ k := kp_few h.all
end Go.Proofs.Ytcchpeebhkiacaa
