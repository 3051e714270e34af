/- Files whose names rise, plainly: they are told by what is found under each name. -/
import Derived.Test.YtcchpeebhkiacaaDV
namespace Go.Proofs.Ytcchpeebhkiacaa
open Go Go.RowKit Go.Deep Go.Maps

theorem klt_irrefl (a : List UInt8) : ¬ a < a := List.lt_irrefl a
theorem klt_trans {a b c : List UInt8} (h : a < b) (h' : b < c) : a < c := List.lt_trans h h'
theorem klt_tri {a b : List UInt8} (h1 : ¬ a < b) (h2 : a ≠ b) : b < a := by
  rcases Std.lt_trichotomy a b with h | h | h
  · exact absurd h h1
  · exact absurd h h2
  · exact h
theorem klt_ne {a b : List UInt8} (h : a < b) : a ≠ b := fun e => klt_irrefl b (by rw [e] at h; exact h)
theorem take_get {α : Type} (M : List α) {k : Nat} (h : k < M.length) : M.take (k + 1) = M.take k ++ [M[k]] := by rw [List.take_add_one, List.getElem?_eq_getElem h]; rfl
def FileV.k (f : FileV) : List UInt8 := key f.name
def Rise (M : List FileV) : Prop := M.Pairwise (fun a b => a.k < b.k)
def lookL (M : List FileV) (x : List UInt8) : Option ByteArray := (M.find? (fun f => decide (f.k = x))).map (fun f => f.data)
def delL (look : List UInt8 → Option ByteArray) (k : List UInt8) (x : List UInt8) : Option ByteArray := if k = x then none else look x
theorem eqS_key (x y : ByteArray) : (x.toList == y.toList) = decide (key x = key y) := by
  rw [Lib.toList_data, Lib.toList_data]
  refine Bool.eq_iff_iff.2 ?_
  rw [beq_iff_eq, decide_eq_true_eq]
  rfl
theorem lookL_cons (f : FileV) (r : List FileV) (x : List UInt8) : lookL (f :: r) x = if f.k = x then some f.data else lookL r x := by
  unfold lookL
  by_cases e : f.k = x
  · simp [e]
  · simp [e]
theorem lookL_none {M : List FileV} {x : List UInt8} (h : ∀ f ∈ M, f.k ≠ x) : lookL M x = none := by
  unfold lookL
  rw [List.find?_eq_none.2 (fun f hf => by simpa using h f hf)]
  rfl
theorem lookL_some {M : List FileV} {x : List UInt8} : (lookL M x).isSome = true ↔ ∃ f ∈ M, f.k = x := by
  unfold lookL
  rw [Option.isSome_map, List.find?_isSome]
  simp
theorem lookL_get {M : List FileV} {x : List UInt8} {d : ByteArray} (h : lookL M x = some d) : ∃ f ∈ M, f.k = x ∧ f.data = d := by
  unfold lookL at h
  obtain ⟨f, hf, rfl⟩ := Option.map_eq_some_iff.1 h
  exact ⟨f, List.mem_of_find?_eq_some hf, by simpa using List.find?_some hf, rfl⟩
theorem lookL_mem {M : List FileV} (hM : Rise M) : ∀ f ∈ M, lookL M f.k = some f.data := by
  induction M with
  | nil => intro f hf; cases hf
  | cons g r ih =>
    obtain ⟨h1, h2⟩ := List.pairwise_cons.1 hM
    intro f hf
    rw [lookL_cons]
    rcases List.mem_cons.1 hf with rfl | hf
    · rw [if_pos rfl]
    · have : ¬ g.k = f.k := fun e => klt_irrefl _ (e ▸ h1 f hf)
      rw [if_neg this]
      exact ih h2 f hf
theorem Rise.nodup {M : List FileV} (h : Rise M) : (M.map FileV.k).Nodup := by
  refine List.pairwise_map.2 (h.imp fun {a b} hab => klt_ne hab)
/-- cut -/
theorem map_fileAt (M : List FileV) : (List.range M.length).map (fileAt M) = M := by
  refine List.ext_getElem (by simp) fun i h1 h2 => ?_
  simp [fileAt, h2]
theorem cutTo_eq (M : List FileV) (s : ByteArray) : cutTo (fileAt M) s M.length = M.filter (fun f => !decide (f.k = key s)) := by
  unfold cutTo
  rw [map_fileAt]
  congr 1
  funext f
  rw [eqS_key]
  rfl
theorem Rise.cut {M : List FileV} (h : Rise M) (s : ByteArray) : Rise (cutTo (fileAt M) s M.length) := by
  rw [cutTo_eq]
  exact List.Pairwise.filter _ h
theorem look_cut (M : List FileV) (s : ByteArray) : lookL (cutTo (fileAt M) s M.length) = delL (lookL M) (key s) := by
  rw [cutTo_eq]
  funext x
  unfold delL
  induction M with
  | nil => simp [lookL]
  | cons g r ih =>
    rw [List.filter_cons]
    by_cases e : g.k = key s
    · simp only [e, decide_true, Bool.not_true, Bool.false_eq_true, if_false]
      rw [ih, lookL_cons]
      by_cases e2 : key s = x
      · simp [e2]
      · rw [if_neg e2, if_neg e2, e, if_neg e2]
    · simp only [e, decide_false, Bool.not_false, if_true]
      rw [lookL_cons, ih, lookL_cons]
      by_cases e2 : key s = x
      · have : ¬ g.k = x := fun h => e (h.trans e2.symm)
        rw [if_pos e2, if_neg this, if_pos e2]
      · rw [if_neg e2, if_neg e2]
/-- put -/
def putR (s d : ByteArray) : List FileV → List FileV
  | [] => [⟨s, d⟩]
  | f :: r => if f.k < key s then f :: putR s d r else if f.k = key s then ⟨s, d⟩ :: r else ⟨s, d⟩ :: f :: r
theorem putR_below {s d : ByteArray} : ∀ {A : List FileV}, (∀ f ∈ A, f.k < key s) → ∀ B, putR s d (A ++ B) = A ++ putR s d B
  | [], _, B => rfl
  | f :: r, h, B => by
    rw [List.cons_append, putR, if_pos (h f (List.mem_cons_self ..)), putR_below (fun g hg => h g (List.mem_cons_of_mem _ hg)), List.cons_append]
theorem putR_above {s d : ByteArray} : ∀ {A : List FileV}, (∃ f ∈ A, ¬ f.k < key s) → ∀ B, putR s d (A ++ B) = putR s d A ++ B
  | [], h, B => by obtain ⟨f, hf, _⟩ := h; cases hf
  | f :: r, h, B => by
    rw [List.cons_append, putR, putR]
    by_cases e : f.k < key s
    · rw [if_pos e, if_pos e, putR_above (A := r), List.cons_append]
      obtain ⟨g, hg, hn⟩ := h
      rcases List.mem_cons.1 hg with rfl | hg
      · exact absurd e hn
      · exact ⟨g, hg, hn⟩
    · rw [if_neg e, if_neg e]
      by_cases e2 : f.k = key s
      · rw [if_pos e2, if_pos e2, List.cons_append]
      · rw [if_neg e2, if_neg e2, List.cons_append, List.cons_append]
theorem fileAt_get {M : List FileV} {i : Nat} (hi : i < M.length) : fileAt M i = M[i] := by simp [fileAt, hi]
theorem putSt_eq {M : List FileV} (hM : Rise M) (s d : ByteArray) : ∀ k, k ≤ M.length →
    ((∀ f ∈ M.take k, f.k < key s) ∧ putSt (fileAt M) s d k = (M.take k, false)) ∨ ((∃ f ∈ M.take k, ¬ f.k < key s) ∧ putSt (fileAt M) s d k = (putR s d (M.take k), true)) := by
  intro k
  induction k with
  | zero => intro _; exact .inl ⟨fun f hf => by simp at hf, by simp [putSt]⟩
  | succ k ih =>
    intro hk
    have hk' : k < M.length := by omega
    have et : M.take (k + 1) = M.take k ++ [M[k]] := take_get M hk'
    have eb : ∀ f : FileV, Op.bytesLess f.name.toList s.toList = decide (f.k < key s) := fun f => key_less _ _
    rw [putSt, fileAt_get hk', eb, eqS_key, et]
    rcases ih (by omega) with ⟨h1, h2⟩ | ⟨h1, h2⟩
    · rw [h2]
      by_cases e : M[k].k < key s
      · have e2 : ¬ key M[k].name = key s := fun h => klt_irrefl _ (by have := e; unfold FileV.k at this; rw [h] at this; exact this)
        refine .inl ⟨fun f hf => ?_, ?_⟩
        · rcases List.mem_append.1 hf with hf | hf
          · exact h1 f hf
          · rw [List.mem_singleton.1 hf]; exact e
        · simp [e, e2]
      · refine .inr ⟨⟨M[k], List.mem_append_right _ (List.mem_singleton.2 rfl), e⟩, ?_⟩
        rw [putR_below h1, putR, if_neg e]
        by_cases e2 : M[k].k = key s
        · have e3 : key M[k].name = key s := e2
          rw [if_pos e2]
          simp [e, e3]
        · have e3 : ¬ key M[k].name = key s := e2
          rw [if_neg e2]
          simp [e, e3]
    · rw [h2]
      have gt : ¬ M[k].k < key s ∧ ¬ key M[k].name = key s := by
        obtain ⟨f, hf, hn⟩ := h1
        have hlt : f.k < M[k].k := by
          obtain ⟨i, hi, rfl⟩ := List.mem_take_iff_getElem.1 hf
          exact List.pairwise_iff_getElem.1 hM i k (by omega) hk' (by omega)
        refine ⟨fun h => hn (klt_trans hlt h), fun h => hn ?_⟩
        have : M[k].k = key s := h
        rw [← this]; exact hlt
      refine .inr ⟨?_, ?_⟩
      · obtain ⟨f, hf, hn⟩ := h1
        exact ⟨f, List.mem_append_left _ hf, hn⟩
      · rw [putR_above h1]
        simp [gt.2]
theorem putF_eq {M : List FileV} (hM : Rise M) (s d : ByteArray) : putF M.length (fileAt M) s d = putR s d M := by
  unfold putF
  rcases putSt_eq hM s d M.length (Nat.le_refl _) with ⟨h1, h2⟩ | ⟨h1, h2⟩
  · rw [h2]
    rw [List.take_length] at h1 ⊢
    have := putR_below (d := d) h1 []
    rw [List.append_nil] at this
    rw [this]
    simp [putR]
  · rw [h2, List.take_length]
    simp
theorem mem_putR {s d : ByteArray} {x : FileV} : ∀ {M : List FileV}, x ∈ putR s d M → x = ⟨s, d⟩ ∨ x ∈ M
  | [], h => .inl (by simpa [putR] using h)
  | f :: r, h => by
    rw [putR] at h
    split at h
    · rcases List.mem_cons.1 h with h | h
      · exact .inr (by rw [h]; exact List.mem_cons_self ..)
      · rcases mem_putR h with h | h
        · exact .inl h
        · exact .inr (List.mem_cons_of_mem _ h)
    · split at h
      · rcases List.mem_cons.1 h with h | h
        · exact .inl h
        · exact .inr (List.mem_cons_of_mem _ h)
      · rcases List.mem_cons.1 h with h | h
        · exact .inl h
        · exact .inr h
theorem Rise.putR {s d : ByteArray} : ∀ {M : List FileV}, Rise M → Rise (putR s d M)
  | [], _ => List.pairwise_singleton _ _
  | f :: r, h => by
    obtain ⟨h1, h2⟩ := List.pairwise_cons.1 h
    rw [Ytcchpeebhkiacaa.putR]
    split
    · rename_i e
      refine List.pairwise_cons.2 ⟨fun g hg => ?_, Rise.putR h2⟩
      rcases mem_putR hg with rfl | hg
      · exact e
      · exact h1 g hg
    · rename_i e
      split
      · rename_i e2
        refine List.pairwise_cons.2 ⟨fun g hg => ?_, h2⟩
        show key s < g.k
        rw [← e2]
        exact h1 g hg
      · rename_i e2
        have e3 := klt_tri e e2
        refine List.pairwise_cons.2 ⟨fun g hg => ?_, h⟩
        show key s < g.k
        rcases List.mem_cons.1 hg with rfl | hg
        · exact e3
        · exact klt_trans e3 (h1 g hg)
theorem look_putR {s d : ByteArray} : ∀ {M : List FileV}, Rise M → lookL (putR s d M) = setL (lookL M) (key s) d
  | [], _ => by
    funext x
    rw [putR, lookL_cons]
    rfl
  | f :: r, h => by
    obtain ⟨h1, h2⟩ := List.pairwise_cons.1 h
    funext x
    rw [putR]
    unfold setL
    split
    · rename_i e
      rw [lookL_cons, lookL_cons, look_putR h2]
      unfold setL
      by_cases e1 : f.k = x
      · have : ¬ key s = x := fun h => klt_irrefl _ (by rw [e1, ← h] at e; exact e)
        rw [if_pos e1, if_neg this, if_pos e1]
      · rw [if_neg e1, if_neg e1]
    · rename_i e
      split
      · rename_i e2
        rw [lookL_cons, lookL_cons]
        show (if key s = x then some d else _) = _
        rw [e2]
        by_cases e1 : key s = x
        · rw [if_pos e1, if_pos e1]
        · rw [if_neg e1, if_neg e1, if_neg e1]
      · rw [lookL_cons]
        rfl
theorem lookF_eq (M : List FileV) (s : ByteArray) : lookF M.length (fileAt M) s = lookL M (key s) := by
  unfold lookF lookL
  have : ∀ (p : FileV → Bool), ((List.range M.length).find? (fun i => p (fileAt M i))).map (fileAt M) = M.find? p := fun p => by
    have h := List.find?_map (p := p) (f := fileAt M) (l := List.range M.length)
    rw [map_fileAt] at h
    rw [h]
    rfl
  have h2 := this (fun f => decide (f.k = key s))
  rw [← h2, Option.map_map]
  congr 1
  congr 1
  funext i
  exact eqS_key _ _
theorem lookK_eq (l : FileL) : lookK l.n l.f = lookL l.toL := by
  funext x
  unfold lookK lookL FileL.toL
  rw [List.find?_map, Option.map_map]
  rfl
/-- right files: they rise, and their names are names -/
structure Neat (M : List FileV) : Prop where
  rise : Rise M
  names : ∀ f ∈ M, nmOk f.name = true
def bytesL (M : List FileV) : Nat := (M.map (fun f => f.data.size)).sum
theorem tot_sum (M : List FileV) : tot (dsz (fileAt M)) M.length = bytesL M := by
  have : ∀ k, k ≤ M.length → tot (dsz (fileAt M)) k = bytesL (M.take k) := fun k => by
    induction k with
    | zero => intro _; rfl
    | succ k ih =>
      intro hk
      have hk' : k < M.length := by omega
      have et : M.take (k + 1) = M.take k ++ [M[k]] := take_get M hk'
      rw [tot, ih (by omega), et]
      unfold bytesL dsz
      rw [List.map_append, List.sum_append, fileAt_get hk']
      simp
  rw [this _ (Nat.le_refl _), List.take_length]
theorem okL_neat {M : List FileV} (h : Neat M) : okL M = (decide (M.length ≤ 60) && decide (bytesL M ≤ 200000)) := by
  unfold okL fsOk
  have h1 : (List.range M.length).all (fileOk (fileAt M)) = true := by
    rw [List.all_eq_true]
    intro i hi
    have hi' := List.mem_range.1 hi
    unfold fileOk
    rw [h.names _ (fileAt_mem hi')]
    by_cases e : i = 0
    · simp [e]
    · have := List.pairwise_iff_getElem.1 h.rise (i - 1) i (by omega) hi' (by omega)
      rw [fileAt_get hi', fileAt_get (show i - 1 < M.length by omega)]
      simp only [Bool.true_and, Bool.or_eq_true, decide_eq_true_eq]
      exact .inr this
  rw [h1, tot_sum]
  simp
theorem neat_ok {M : List FileV} (h : okL M = true) : Neat M := by
  unfold okL fsOk at h
  simp only [Bool.and_eq_true, decide_eq_true_eq] at h
  have h1 := List.all_eq_true.1 h.1.2
  have one : ∀ i, i < M.length → fileOk (fileAt M) i = true := fun i hi => h1 i (List.mem_range.2 hi)
  refine ⟨?_, fun f hf => ?_⟩
  · have adj : ∀ i, i + 1 < M.length → (fileAt M i).k < (fileAt M (i + 1)).k := fun i hi => by
      have := one (i + 1) hi
      unfold fileOk at this
      simp at this
      exact this.2
    have all : ∀ j, j < M.length → ∀ i, i < j → (fileAt M i).k < (fileAt M j).k := fun j => by
      induction j with
      | zero => intro _ i hi; omega
      | succ j ih =>
        intro hj i hi
        by_cases e : i = j
        · subst e; exact adj i hj
        · exact klt_trans (ih (by omega) i (by omega)) (adj j hj)
    refine List.pairwise_iff_getElem.2 fun i j hi hj hij => ?_
    have := all j hj i hij
    rw [fileAt_get hi, fileAt_get hj] at this
    exact this
  · obtain ⟨i, hi, rfl⟩ := List.mem_iff_getElem.1 hf
    have := one i hi
    unfold fileOk at this
    rw [fileAt_get hi] at this
    simp only [Bool.and_eq_true] at this
    exact this.1
/-- sorted names -/
theorem sorted_eq {A B : List (List UInt8)} (hA : A.Pairwise (· < ·)) (hB : B.Pairwise (· < ·)) (h : ∀ x, x ∈ A ↔ x ∈ B) : A = B := by
  have nA : A.Nodup := hA.imp fun {a b} hab => klt_ne hab
  have nB : B.Nodup := hB.imp fun {a b} hab => klt_ne hab
  have hp : A.Perm B := (List.perm_ext_iff_of_nodup nA nB).2 h
  exact hp.eq_of_pairwise (fun a b _ _ h1 h2 => absurd (klt_trans h1 h2) (klt_irrefl _)) hA hB
/-- the files by their names -/
theorem back_names {M : List FileV} (h : Rise M) : M = (M.map FileV.k).map (fun x => ⟨⟨x.toArray⟩, (lookL M x).getD ⟨#[]⟩⟩) := by
  rw [List.map_map]
  refine (List.map_id M).symm.trans (List.map_congr_left fun f hf => ?_)
  obtain ⟨n, d⟩ := f
  have := lookL_mem h _ hf
  simp only [Function.comp_apply, id_eq]
  rw [this]
  rfl
/-- what an op leaves -/
theorem doF_one {M : List FileV} {o : OpV} (hM : Rise M) (k : o.kind = 1) : doF M.length (fileAt M) o = (putR o.name (addD (lookL M (key o.name)) o.data) M, true) := by
  rw [doF, if_pos k, putF_eq hM, lookF_eq]
theorem doF_none {M : List FileV} {o : OpV} (k : o.kind ≠ 1) (h : lookL M (key o.name) = none) : (doF M.length (fileAt M) o).2 = false := by
  rw [doF, if_neg k, lookF_eq, h]
theorem doF_two {M : List FileV} {o : OpV} {x : ByteArray} (hM : Rise M) (k : o.kind = 2) (h : lookL M (key o.name) = some x) : doF M.length (fileAt M) o = (putR o.to x (cutTo (fileAt M) o.name M.length), true) := by
  rw [doF, if_neg (by omega), lookF_eq, h]
  simp only
  rw [if_pos k, putF_eq (hM.cut _)]
theorem doF_three {M : List FileV} {o : OpV} {x : ByteArray} (k1 : o.kind ≠ 1) (k2 : o.kind ≠ 2) (h : lookL M (key o.name) = some x) : doF M.length (fileAt M) o = (cutTo (fileAt M) o.name M.length, true) := by
  rw [doF, if_neg k1, lookF_eq, h]
  simp only
  rw [if_neg k2]
theorem Neat.do {M : List FileV} {o : OpV} (hM : Neat M) (hf : opForm o = true) : Neat (doF M.length (fileAt M) o).1 := by
  have hn : nmOk o.name = true := by
    unfold opForm at hf
    simp only [Bool.and_eq_true] at hf
    exact hf.1.2
  have cut : Neat (cutTo (fileAt M) o.name M.length) := ⟨hM.rise.cut _, fun f hf => by rw [cutTo_eq] at hf; exact hM.names f (List.mem_filter.1 hf).1⟩
  by_cases k1 : o.kind = 1
  · rw [doF_one hM.rise k1]
    exact ⟨hM.rise.putR, fun f hf => by
      rcases mem_putR hf with rfl | hf
      · exact hn
      · exact hM.names f hf⟩
  · cases h : lookL M (key o.name) with
    | none =>
      rw [doF, if_neg k1, lookF_eq, h]
      simp only [map_fileAt]
      exact hM
    | some x =>
      by_cases k2 : o.kind = 2
      · rw [doF_two hM.rise k2 h]
        have ht : nmOk o.to = true := by
          unfold opForm at hf
          rw [if_pos k2] at hf
          simp only [Bool.and_eq_true] at hf
          exact hf.2.1
        exact ⟨cut.rise.putR, fun f hf => by
          rcases mem_putR hf with rfl | hf
          · exact ht
          · exact cut.names f hf⟩
      · rw [doF_three k1 k2 h]
        exact cut
end Go.Proofs.Ytcchpeebhkiacaa
