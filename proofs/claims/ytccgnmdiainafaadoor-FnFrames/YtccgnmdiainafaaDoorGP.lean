/- Frames and what is taken of them, plainly. -/
import Derived.Test.YtccgnmdiainafaaDoorFRD
namespace Go.Proofs.YtccgnmdiainafaaDoor
open Go Go.RowKit Go.Deep Go.Maps

theorem list_textP (r : ByteArray) : r = ⟨r.data.toList.toArray⟩ := by cases r; simp
theorem at8_ofP (l : List UInt8) (k : Nat) (h : k < l.length) : at8 ⟨l.toArray⟩ k = l[k].toNat := by
  rw [at8_eq (by rw [size_ofR]; exact h)]
  rfl
theorem num_back4 (b : Int) (h0 : 0 ≤ b) (h1 : b < 4294967296) : numTo ⟨(bigL b 4).toArray⟩ 4 = b.toNat := by
  have e : ∀ i, i < 4 → at8 ⟨(bigL b 4).toArray⟩ i = ((b / 2 ^ (8 * (3 - i))) % 256).toNat := fun i hi => by
    rw [at8_ofP _ i (by rw [bigL_len]; exact hi), bigL_at b 4 i hi (by rw [bigL_len]; exact hi)]
    have := byteOf_val b (4 - 1 - i)
    rw [show 3 - i = 4 - 1 - i by omega]
    omega
  simp only [numTo]
  rw [e 0 (by omega), e 1 (by omega), e 2 (by omega), e 3 (by omega)]
  simp only [Nat.sub_zero, Nat.reduceSub, Nat.reduceMul, Int.reducePow]
  omega
theorem four_text (s : ByteArray) (h : s.size = 4) : s.data.toList = [UInt8.ofNat (at8 s 0), UInt8.ofNat (at8 s 1), UInt8.ofNat (at8 s 2), UInt8.ofNat (at8 s 3)] := by
  rw [at8_eq (by omega), at8_eq (by omega), at8_eq (by omega), at8_eq (by omega)]
  apply List.ext_getElem
  · simp; exact h
  · intro i h1 h2
    simp only [List.length_cons, List.length_nil] at h2
    match i, h2 with
    | 0, _ => simp; rfl
    | 1, _ => simp; rfl
    | 2, _ => simp; rfl
    | 3, _ => simp; rfl
theorem big_back4 (s : ByteArray) (h : s.size = 4) : (⟨(bigL ((numTo s 4 : Nat) : Int) 4).toArray⟩ : ByteArray) = s := by
  rw [list_textP s]
  congr 2
  rw [← list_textP s, four_text s h]
  have b0 := at8_lt s 0
  have b1 := at8_lt s 1
  have b2 := at8_lt s 2
  have b3 := at8_lt s 3
  simp only [bigL, numTo, byteOf]
  congr 1
  · congr 1; omega
  congr 1
  · congr 1; omega
  congr 1
  · congr 1; omega
  congr 1
  · congr 1; omega

theorem frameB_size {d : ByteArray} (h : d.size ≤ 1000000) : (frameB d).size = 8 + d.size := by
  rw [frameB, if_pos h, ByteArray.size_append, ByteArray.size_append, size_ofR, size_ofR, bigL_len]
  rfl
/-- where a frame is, its bytes are those of the frame of its data -/
theorem frame_at {s : ByteArray} {k : Nat} (h : isFr s k) : s.extract k (k + 8 + nAt s k) = frameB (dataAt s k) := by
  obtain ⟨h8, h1, h2, h3⟩ := h
  have hz : (dataAt s k).size = nAt s k := by unfold dataAt; rw [ByteArray.size_extract]; omega
  have h4 : (s.extract k (k + 4)).size = 4 := by rw [ByteArray.size_extract]; omega
  rw [frameB, if_pos (by omega), h3, hz]
  have e := big_back4 (s.extract k (k + 4)) h4
  change (⟨(bigL ((nAt s k : Nat) : Int) 4).toArray⟩ : ByteArray) = _ at e
  rw [e, ByteArray.extract_eq_extract_append_extract (k + 8) (by omega) (by omega), ByteArray.extract_eq_extract_append_extract (a := s) (i := k) (k := k + 8) (k + 4) (by omega) (by omega)]
  rfl
/-- where the bytes of a frame are, the frame is -/
theorem frame_of {s d : ByteArray} {k : Nat} (hd : d.size ≤ 1000000) (hk : k + 8 + d.size ≤ s.size) (h : s.extract k (k + 8 + d.size) = frameB d) : isFr s k ∧ nAt s k = d.size ∧ dataAt s k = d := by
  have sub : ∀ i j, j ≤ 8 + d.size → s.extract (k + i) (k + j) = (frameB d).extract i j := fun i j hj => by
    rw [← h, ByteArray.extract_extract]
    congr 1
    omega
  have l1 : (⟨(bigL (d.size : Int) 4).toArray⟩ : ByteArray).size = 4 := by rw [size_ofR, bigL_len]
  have l2 : (⟨(lowL (crc d : Nat)).toArray⟩ : ByteArray).size = 4 := by rw [size_ofR]; rfl
  have fe : frameB d = (⟨(bigL (d.size : Int) 4).toArray⟩ : ByteArray) ++ ⟨(lowL (crc d : Nat)).toArray⟩ ++ d := by rw [frameB, if_pos hd]
  have e1 : s.extract k (k + 4) = ⟨(bigL (d.size : Int) 4).toArray⟩ := by
    have := sub 0 4 (by omega)
    rw [Nat.add_zero] at this
    rw [this, fe, ByteArray.append_assoc, ByteArray.extract_append_eq_left l1.symm]
  have e2 : s.extract (k + 4) (k + 8) = ⟨(lowL (crc d : Nat)).toArray⟩ := by
    rw [sub 4 8 (by omega), fe, ByteArray.append_assoc]
    have t := ByteArray.extract_append_size_add (a := (⟨(bigL (d.size : Int) 4).toArray⟩ : ByteArray)) (b := ⟨(lowL (crc d : Nat)).toArray⟩ ++ d) (i := 0) (j := 4)
    rw [l1] at t
    rw [show (8 : Nat) = 4 + 4 from rfl, show (4 : Nat) = 4 + 0 from rfl, t, ByteArray.extract_append_eq_left l2.symm]
  have en : nAt s k = d.size := by
    unfold nAt
    rw [e1, num_back4 _ (by omega) (by omega)]
    omega
  have e3 : dataAt s k = d := by
    unfold dataAt
    rw [en, show k + 8 + d.size = k + (8 + d.size) by omega, sub 8 (8 + d.size) (by omega), fe, ByteArray.extract_append_eq_right (by rw [ByteArray.size_append, l1, l2]) (by rw [ByteArray.size_append, l1, l2])]
  exact ⟨⟨by omega, by omega, by omega, by rw [e3, e2]⟩, en, e3⟩
/-- two texts that begin alike have the frames of that beginning in common -/
theorem fr_same {s s' : ByteArray} {K k : Nat} (h : s.extract 0 K = s'.extract 0 K) (hK : K ≤ s'.size) (hf : isFr s k) (hk : k + 8 + nAt s k ≤ K) : isFr s' k ∧ nAt s' k = nAt s k ∧ dataAt s' k = dataAt s k := by
  have sub : ∀ i j, j ≤ K → s.extract i j = s'.extract i j := fun i j hj => by
    have e1 : (s.extract 0 K).extract i j = s.extract i j := by rw [ByteArray.extract_extract]; congr 1 <;> omega
    have e2 : (s'.extract 0 K).extract i j = s'.extract i j := by rw [ByteArray.extract_extract]; congr 1 <;> omega
    rw [← e1, h, e2]
  have en : nAt s' k = nAt s k := by unfold nAt; rw [sub k (k + 4) (by omega)]
  have ed : dataAt s' k = dataAt s k := by unfold dataAt; rw [en, sub _ _ hk]
  exact ⟨⟨by omega, by rw [en]; exact hf.2.1, by omega, by rw [ed, ← sub _ _ (by omega)]; exact hf.2.2.2⟩, en, ed⟩

theorem st_len_le (s : ByteArray) (m : Nat) : (st s m).1.length ≤ m := by
  induction m with
  | zero => simp [st]
  | succ m ih =>
    by_cases h : isFr s (st s m).2
    · rw [st_next h, List.length_append]; simp; omega
    · rw [show st s (m + 1) = st s m from if_neg h]; omega
theorem st_back (s : ByteArray) (j : Nat) : st s (st s j).1.length = st s j := by
  induction j with
  | zero => rfl
  | succ j ih =>
    by_cases h : isFr s (st s j).2
    · have e := st_next h
      have l : (st s (j + 1)).1.length = (st s j).1.length + 1 := by rw [e]; simp
      rw [l, st_next (by rw [ih]; exact h), ih, e]
    · rw [show st s (j + 1) = st s j from if_neg h]; exact ih
theorem st_full {s : ByteArray} {j : Nat} (h : isFr s (st s j).2) : (st s j).1.length = j := by
  induction j with
  | zero => rfl
  | succ j ih =>
    by_cases h' : isFr s (st s j).2
    · rw [st_next h', List.length_append, ih h']; rfl
    · rw [show st s (j + 1) = st s j from if_neg h'] at h
      exact absurd h h'
theorem st_grow (s : ByteArray) (j : Nat) : 8 * (st s j).1.length ≤ (st s j).2 ∧ (st s j).2 ≤ s.size := by
  induction j with
  | zero => simp [st]
  | succ j ih =>
    by_cases h : isFr s (st s j).2
    · rw [st_next h]
      have := h.2.2.1
      simp only [List.length_append, List.length_cons, List.length_nil]
      omega
    · rw [show st s (j + 1) = st s j from if_neg h]; exact ih
theorem taken_end (s : ByteArray) : ¬ isFr s (taken s).2 := fun h => by
  have l := st_full h
  have g := st_grow s s.size
  have := h.1
  unfold taken at this
  omega
theorem st_taken (s : ByteArray) (j : Nat) : (st s j).1 = (taken s).1.take (st s j).1.length := by
  have up : ∀ i, (st s j).1 <+: (st s (j + i)).1 := fun i => by
    induction i with
    | zero => exact List.prefix_refl _
    | succ i ih =>
      by_cases h : isFr s (st s (j + i)).2
      · rw [show j + (i + 1) = (j + i) + 1 by omega, st_next h]
        exact ih.trans (List.prefix_append _ _)
      · rw [show st s (j + (i + 1)) = st s (j + i) from if_neg h]; exact ih
  have t : (st s j).1 <+: (taken s).1 := by
    by_cases hj : j ≤ s.size
    · have := up (s.size - j)
      rwa [show j + (s.size - j) = s.size by omega] at this
    · have := st_stop (taken_end s) (j - s.size)
      rw [show s.size + (j - s.size) = j by omega] at this
      rw [this]
      exact List.prefix_refl _
  exact List.prefix_iff_eq_take.1 t
/-- the frames of texts, one behind the other -/
def encTo (X : List ByteArray) : Nat → ByteArray
  | 0 => ⟨#[]⟩
  | i + 1 => encTo X i ++ frameB (X[i]?.getD ⟨#[]⟩)
theorem encTo_app (X Y : List ByteArray) (i : Nat) (h : i ≤ X.length) : encTo (X ++ Y) i = encTo X i := by
  induction i with
  | zero => rfl
  | succ i ih => rw [encTo, encTo, ih (by omega), List.getElem?_append_left (by omega)]
theorem st_enc (s : ByteArray) (j : Nat) : encTo (st s j).1 (st s j).1.length = s.extract 0 (st s j).2 := by
  induction j with
  | zero => simp [st, encTo]; rfl
  | succ j ih =>
    by_cases h : isFr s (st s j).2
    · rw [st_next h]
      have g := st_grow s j
      show encTo ((st s j).1 ++ [dataAt s (st s j).2]) ((st s j).1 ++ [dataAt s (st s j).2]).length = s.extract 0 ((st s j).2 + 8 + nAt s (st s j).2)
      rw [List.length_append, List.length_cons, List.length_nil, encTo, encTo_app _ _ _ (Nat.le_refl _), ih]
      have e : ((st s j).1 ++ [dataAt s (st s j).2])[(st s j).1.length]? = some (dataAt s (st s j).2) := by simp
      rw [e, ByteArray.extract_eq_extract_append_extract (a := s) (i := 0) (k := (st s j).2 + 8 + nAt s (st s j).2) (st s j).2 (by omega) (by omega), frame_at h]
      rfl
    · rw [show st s (j + 1) = st s j from if_neg h]; exact ih
theorem st_pref {s s' : ByteArray} {K : Nat} (h : s.extract 0 K = s'.extract 0 K) (hK : K ≤ s'.size) (m : Nat) (hl : (st s m).1.length = m) (hk : (st s m).2 ≤ K) : st s' m = st s m := by
  induction m with
  | zero => rfl
  | succ m ih =>
    by_cases hf : isFr s (st s m).2
    · have e := st_next hf
      rw [e] at hl hk
      simp only [List.length_append, List.length_cons, List.length_nil] at hl
      have i := ih (by omega) (by have := hk; simp only at this; omega)
      obtain ⟨a, b, c⟩ := fr_same h hK hf hk
      rw [e, st_next (by rw [i]; exact a), i, b, c]
    · rw [show st s (m + 1) = st s m from if_neg hf] at hl
      have := st_len_le s m
      omega
/-- with one frame more behind all that were taken, one text more is taken -/
theorem taken_more (s t : ByteArray) (ht : t.size ≤ 1000000) : taken (encTo (taken s).1 (taken s).1.length ++ frameB t) = ((taken s).1 ++ [t], (taken s).2 + 8 + t.size) := by
  have hE : encTo (taken s).1 (taken s).1.length = s.extract 0 (taken s).2 := st_enc s s.size
  have g : 8 * (taken s).1.length ≤ (taken s).2 ∧ (taken s).2 ≤ s.size := st_grow s s.size
  have hb : st s (taken s).1.length = taken s := st_back s s.size
  rw [hE]
  have hz : (s.extract 0 (taken s).2).size = (taken s).2 := by rw [ByteArray.size_extract]; omega
  generalize hs' : s.extract 0 (taken s).2 ++ frameB t = s'
  have hz' : s'.size = (taken s).2 + 8 + t.size := by rw [← hs', ByteArray.size_append, hz, frameB_size ht]; omega
  have h0 : s.extract 0 (taken s).2 = s'.extract 0 (taken s).2 := by rw [← hs', ByteArray.extract_append_eq_left hz.symm]
  have hp := st_pref h0 (by omega) (taken s).1.length (by rw [hb]) (by rw [hb]; omega)
  rw [hb] at hp
  have hx : s'.extract (taken s).2 ((taken s).2 + 8 + t.size) = frameB t := by
    rw [← hs', ByteArray.extract_append_eq_right hz.symm (by rw [hz, frameB_size ht]; omega)]
  obtain ⟨f1, f2, f3⟩ := frame_of ht (by omega) hx
  have hn := st_next (s := s') (m := (taken s).1.length) (by rw [hp]; exact f1)
  rw [hp, f2, f3] at hn
  rw [← hn]
  exact taken_of (by rw [hn]; exact fun h => by have := h.1; simp only at this; omega) (by omega)
/-- of a beginning of the frames the first few texts are taken -/
theorem taken_few (s : ByteArray) (k : Nat) (hk : k ≤ (taken s).2) : ∃ j, (taken ((encTo (taken s).1 (taken s).1.length).extract 0 k)).1 = (taken s).1.take j ∧ j ≤ (taken s).1.length := by
  have hE : encTo (taken s).1 (taken s).1.length = s.extract 0 (taken s).2 := st_enc s s.size
  have g : 8 * (taken s).1.length ≤ (taken s).2 ∧ (taken s).2 ≤ s.size := st_grow s s.size
  rw [hE]
  have hp : (s.extract 0 (taken s).2).extract 0 k = s.extract 0 k := by rw [ByteArray.extract_extract]; congr 1; omega
  rw [hp]
  generalize hq : s.extract 0 k = p
  have hz : p.size = k := by rw [← hq, ByteArray.size_extract]; omega
  have h0 : p.extract 0 k = s.extract 0 k := by rw [← hq, ByteArray.extract_extract]; congr 1; omega
  have all : ∀ j, ∃ i, st p j = st s i := fun j => by
    induction j with
    | zero => exact ⟨0, rfl⟩
    | succ j ih =>
      obtain ⟨i, hi⟩ := ih
      by_cases h : isFr p (st p j).2
      · have hle := h.2.2.1
        obtain ⟨a, b, c⟩ := fr_same h0 (by omega) h (by omega)
        refine ⟨i + 1, ?_⟩
        rw [st_next h, st_next (by rw [← hi]; exact a), ← hi, b, c]
      · exact ⟨i, by rw [show st p (j + 1) = st p j from if_neg h]; exact hi⟩
  obtain ⟨i, hi⟩ := all p.size
  refine ⟨(st s i).1.length, ?_, ?_⟩
  · show (st p p.size).1 = _
    rw [hi]
    exact st_taken s i
  · have := st_taken s i
    have l := congrArg List.length this
    rw [List.length_take] at l
    omega
end Go.Proofs.YtccgnmdiainafaaDoor
