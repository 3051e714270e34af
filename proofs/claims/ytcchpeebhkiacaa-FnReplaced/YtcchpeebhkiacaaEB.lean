/- A shelf that stands for rising files: what the three changes do to it, and whether it fits. -/
import Derived.Test.YtcchpeebhkiacaaEA
namespace Go.Proofs.Ytcchpeebhkiacaa
open Go Go.RowKit Go.Deep Go.Maps

def SL (w : World) (B c n q : Nat) (M : List FileV) : Prop := ∃ m pv ps, Shelf w B c n q (lookL M) m pv ps
theorem SL.below {w w' : World} {B c n q : Nat} {M : List FileV} (h : SL w B c n q M) (hb : Below w.heap.size w w') : SL w' B c n q M := by
  obtain ⟨m, pv, ps, h⟩ := h
  exact ⟨m, pv, ps, h.below hb⟩
theorem SL.lt {w : World} {B c n q : Nat} {M : List FileV} (h : SL w B c n q M) : B < w.heap.size := by
  obtain ⟨m, pv, ps, h⟩ := h
  have := h.lowc
  have := h.map.lt
  omega
theorem SL.more {w : World} {B c n q n' q' : Nat} {M : List FileV} (h : SL w B c n q M) (hn : n ≤ n') (hq : q ≤ q') : SL w B c n' q' M := by
  obtain ⟨m, pv, ps, h⟩ := h
  exact ⟨m, pv, ps, h.map.mono hn, h.dom, h.blk, fun x d hx => ⟨(h.own x d hx).1, (h.own x d hx).2.1, Nat.le_trans (h.own x d hx).2.2 hq⟩, h.inj, h.apart, h.low, h.lowc⟩
/-- sizes -/
theorem sz_lookL {M : List FileV} {f : FileV} (hM : Rise M) (h : f ∈ M) : szL (lookL M) f.k = f.data.size := by
  unfold szL
  rw [lookL_mem hM f h]
theorem sz_cons (f : FileV) (r : List FileV) (x : List UInt8) : szL (lookL (f :: r)) x = if f.k = x then f.data.size else szL (lookL r) x := by
  unfold szL
  rw [lookL_cons]
  by_cases e : f.k = x
  · rw [if_pos e, if_pos e]
  · rw [if_neg e, if_neg e]
theorem bytesL_cons (f : FileV) (r : List FileV) : bytesL (f :: r) = f.data.size + bytesL r := by simp [bytesL]
theorem sum_sizes {M : List FileV} (hM : Rise M) : ((M.map FileV.k).map (szL (lookL M))).sum = bytesL M := by
  unfold bytesL
  rw [List.map_map]
  congr 1
  exact List.map_congr_left fun f hf => sz_lookL hM hf
theorem bytes_putR {s d : ByteArray} : ∀ {M : List FileV}, Rise M → bytesL (putR s d M) + szL (lookL M) (key s) = bytesL M + d.size
  | [], _ => by simp [putR, bytesL, szL, lookL]
  | f :: r, h => by
    obtain ⟨h1, h2⟩ := List.pairwise_cons.1 h
    rw [putR]
    split
    · rename_i e
      have := bytes_putR (s := s) (d := d) h2
      rw [bytesL_cons, bytesL_cons, sz_cons, if_neg (klt_ne e)]
      omega
    · rename_i e
      split
      · rename_i e2
        rw [bytesL_cons, bytesL_cons, sz_cons, if_pos e2]
        show d.size + _ + _ = _
        omega
      · rename_i e2
        have e3 := klt_tri e e2
        have : lookL (f :: r) (key s) = none := lookL_none fun g hg => by
          rcases List.mem_cons.1 hg with rfl | hg
          · exact e2
          · exact fun h => klt_irrefl _ (by have := klt_trans e3 (h1 g hg); rw [h] at this; exact this)
        rw [bytesL_cons]
        unfold szL
        rw [this]
        show d.size + _ + 0 = _
        omega
theorem bytes_cut (M : List FileV) (s : ByteArray) : bytesL (cutTo (fileAt M) s M.length) + szL (lookL M) (key s) ≤ bytesL M := by
  rw [cutTo_eq]
  have le : ∀ (L : List FileV) (p : FileV → Bool), bytesL (L.filter p) ≤ bytesL L := fun L p => by
    induction L with
    | nil => exact Nat.le_refl _
    | cons g r ih =>
      rw [List.filter_cons]
      split
      · rw [bytesL_cons, bytesL_cons]; omega
      · rw [bytesL_cons]; omega
  induction M with
  | nil => simp [bytesL, szL, lookL]
  | cons g r ih =>
    rw [List.filter_cons, sz_cons, bytesL_cons]
    by_cases e : g.k = key s
    · have := le r (fun f => !decide (f.k = key s))
      simp only [e, decide_true, Bool.not_true, Bool.false_eq_true, if_false, if_true]
      omega
    · simp only [e, decide_false, Bool.not_false, if_true, if_false]
      rw [bytesL_cons]
      omega
theorem len_putR {s d : ByteArray} : ∀ {M : List FileV}, (putR s d M).length ≤ M.length + 1
  | [] => Nat.le_refl _
  | f :: r => by
    have := len_putR (s := s) (d := d) (M := r)
    rw [putR]
    split
    · simp; omega
    · split
      · simp
      · simp
theorem look_size {M : List FileV} {x : List UInt8} {d : ByteArray} (h : lookL M x = some d) : szL (lookL M) x = d.size := by
  unfold szL
  rw [h]
theorem bytes_do {M : List FileV} {o : OpV} (hM : Rise M) : bytesL (doF M.length (fileAt M) o).1 ≤ bytesL M + o.data.size ∧ (doF M.length (fileAt M) o).1.length ≤ M.length + 1 := by
  by_cases k1 : o.kind = 1
  · rw [doF_one hM k1]
    refine ⟨?_, len_putR⟩
    have h := bytes_putR (s := o.name) (d := addD (lookL M (key o.name)) o.data) hM
    cases e : lookL M (key o.name) with
    | none =>
      rw [e] at h
      simp only [addD] at h ⊢
      omega
    | some x =>
      rw [e, look_size e] at h
      simp only [addD, ByteArray.size_append] at h ⊢
      omega
  · cases e : lookL M (key o.name) with
    | none =>
      rw [doF, if_neg k1, lookF_eq, e]
      simp only [map_fileAt]
      exact ⟨by omega, by omega⟩
    | some x =>
      have h1 := bytes_cut M o.name
      have h2 := cutTo_len (fileAt M) o.name M.length
      rw [look_size e] at h1
      by_cases k2 : o.kind = 2
      · rw [doF_two hM k2 e]
        have h3 := bytes_putR (s := o.to) (d := x) (hM.cut o.name)
        have h4 := len_putR (s := o.to) (d := x) (M := cutTo (fileAt M) o.name M.length)
        exact ⟨by simp only; omega, by simp only; omega⟩
      · rw [doF_three k1 k2 e]
        exact ⟨by simp only; omega, by simp only; omega⟩
theorem look_bytes {M : List FileV} {x : List UInt8} {d : ByteArray} (h : lookL M x = some d) : d.size ≤ bytesL M := by
  obtain ⟨f, hf, _, rfl⟩ := lookL_get h
  clear h
  induction M with
  | nil => cases hf
  | cons g r ih =>
    rw [bytesL_cons]
    rcases List.mem_cons.1 hf with rfl | hf
    · omega
    · have := ih hf
      omega
theorem fitsL {w : World} {B c n q : Nat} {M : List FileV} (h : SL w B c n q M) (hM : Neat M) (hz : bytesL M ≤ 1000000000) (hl : M.length ≤ 1000000) :
    Calls Try.prog 49 #[.map (some c)] w fun e w' => e = .returned (.bool (okL M)) ∧ Below w.heap.size w w' := by
  obtain ⟨m, pv, ps, h⟩ := h
  have hc := fits_any h (M.map FileV.k) hM.rise.nodup (fun x => by rw [lookL_some, List.mem_map]) (by rw [sum_sizes hM.rise]; exact hz) (by simpa using hl)
  rw [sum_sizes hM.rise, List.length_map, ← okL_neat hM] at hc
  exact hc
/-- the three changes -/
theorem do1 (o : OpV) {w : World} {B c n q : Nat} {M : List FileV} (h : SL w B c n q M) (hM : Rise M) (k : o.kind = 1) (ho : o.wf) (hq : q ≤ 100000) (hn : n < maxLen) (hB : B ≤ w.heap.size) (hz : bytesL M + o.data.size ≤ 1000000000) :
    Calls Try.prog 112 #[o.val, .map (some c)] w fun e w' => e = .returned (.tuple #[]) ∧ SL w' B c (n + 1) (q + 1) (doF M.length (fileAt M) o).1 ∧ Below B w w' := by
  obtain ⟨m, pv, ps, h⟩ := h
  rw [doF_one hM k]
  simp only
  cases e : lookL M (key o.name) with
  | none =>
    refine (appDo_none o h ho.1 hq hn hB e (by omega)).mono ?_
    rintro e' w' ⟨rfl, m', pv', ps', h1, h2⟩
    refine ⟨rfl, ⟨m', pv', ps', ?_⟩, h2⟩
    rw [look_putR hM]
    exact h1
  | some d =>
    have := look_bytes e
    refine (appDo_some o h ho.1 hq hB d e (by omega)).mono ?_
    rintro e' w' ⟨rfl, m', pv', ps', h1, h2⟩
    refine ⟨rfl, ⟨m', pv', ps', ?_⟩, h2⟩
    rw [look_putR hM]
    exact h1.mono (by omega)
theorem do2 (o : OpV) {w : World} {B c n q : Nat} {M : List FileV} (h : SL w B c n q M) (hM : Rise M) (k : o.kind = 2) (ho : o.wf) (hn : n < maxLen) (hB : B ≤ w.heap.size) (hd : (lookL M (key o.name)).isSome = true) :
    Calls Try.prog 116 #[o.val, .map (some c)] w fun e w' => e = .returned (.tuple #[]) ∧ SL w' B c (n + 1) (q + 1) (doF M.length (fileAt M) o).1 ∧ Below B w w' := by
  obtain ⟨m, pv, ps, h⟩ := h
  obtain ⟨d, hd⟩ := Option.isSome_iff_exists.1 hd
  obtain ⟨p, hp⟩ := Option.isSome_iff_exists.1 (show (m (key o.name)).isSome = true by rw [h.dom, hd]; rfl)
  rw [doF_two hM k hd]
  simp only
  refine (renDo_any o c n p m w h.map hp ho.1 ho.2.1 hn).mono ?_
  rintro e' w' ⟨rfl, hm, w1, hb, hg⟩
  refine ⟨rfl, ?_, (hb.mono hB).trans (below_grown hg (Nat.le_trans hB hb.size) (fun j e => by cases e; exact h.lowc))⟩
  have t := (h.below hb).turn (look' := setL (delL (lookL M) (key o.name)) (key o.to) d) (fun x => if key o.to = x then some (key o.name) else if key o.name = x then none else some x)
    (fun x y z h1 h2 => by
      by_cases e1 : key o.to = x
      · by_cases e2 : key o.to = y
        · exact e1.symm.trans e2
        · simp only [e1, if_true, Option.some.injEq] at h1
          rw [if_neg e2] at h2
          split at h2
          · cases h2
          · rename_i e3
            exact absurd (h1.trans (Option.some.inj h2).symm) e3
      · rw [if_neg e1] at h1
        split at h1
        · cases h1
        · rename_i e3
          by_cases e2 : key o.to = y
          · simp only [e2, if_true, Option.some.injEq] at h2
            exact absurd (h2.trans (Option.some.inj h1).symm) e3
          · rw [if_neg e2] at h2
            split at h2
            · cases h2
            · exact (Option.some.inj h1).trans (Option.some.inj h2).symm)
    (fun x => by
      show setS (delS m (key o.name)) (key o.to) p x = _
      unfold setS delS
      split
      · simp [hp]
      · split <;> simp)
    (fun x => by
      unfold setL delL
      split
      · simp [hd]
      · split <;> simp) hm hg
  have t2 : SL w' B c (n + 1) q (putR o.to d (cutTo (fileAt M) o.name M.length)) := by
    unfold SL
    rw [look_putR (hM.cut _), look_cut]
    exact ⟨_, _, _, t⟩
  exact t2.more (Nat.le_refl _) (by omega)
theorem do3 (o : OpV) {w : World} {B c n q : Nat} {M : List FileV} (h : SL w B c n q M) (k : o.kind = 3) (ho : o.wf) (hB : B ≤ w.heap.size) (hd : (lookL M (key o.name)).isSome = true) :
    Calls Try.prog 119 #[o.val, .map (some c)] w fun e w' => e = .returned (.tuple #[]) ∧ SL w' B c (n + 1) (q + 1) (doF M.length (fileAt M) o).1 ∧ Below B w w' := by
  obtain ⟨m, pv, ps, h⟩ := h
  obtain ⟨d, hd⟩ := Option.isSome_iff_exists.1 hd
  rw [doF_three (by omega) (by omega) hd]
  simp only
  refine (remDo_any o c n m w h.map ho.1).mono ?_
  rintro e' w' ⟨rfl, hm, w1, hb, hg⟩
  refine ⟨rfl, ?_, (hb.mono hB).trans (below_grown hg (Nat.le_trans hB hb.size) (fun j e => by cases e; exact h.lowc))⟩
  have t := (h.below hb).turn (look' := delL (lookL M) (key o.name)) (fun x => if key o.name = x then none else some x)
    (fun x y z h1 h2 => by
      split at h1
      · cases h1
      · split at h2
        · cases h2
        · exact (Option.some.inj h1).trans (Option.some.inj h2).symm)
    (fun x => by
      show delS m (key o.name) x = _
      unfold delS
      split <;> simp)
    (fun x => by
      unfold delL
      split <;> simp) hm hg
  have t2 : SL w' B c n q (cutTo (fileAt M) o.name M.length) := by
    unfold SL
    rw [look_cut]
    exact ⟨_, _, _, t⟩
  exact t2.more (by omega) (by omega)
end Go.Proofs.Ytcchpeebhkiacaa
