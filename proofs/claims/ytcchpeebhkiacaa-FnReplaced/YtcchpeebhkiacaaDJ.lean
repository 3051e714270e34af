/- An op done to files, for the model. -/
import Derived.Test.YtcchpeebhkiacaaZP
namespace Go.Proofs.Ytcchpeebhkiacaa
open Go Go.RowKit Go.Deep Go.Maps

/-- what stands in the file of this name -/
def lookF (n : Nat) (f : Nat → FileV) (s : ByteArray) : Option ByteArray := ((List.range n).find? (fun i => (f i).name.toList == s.toList)).map (fun i => (f i).data)
theorem lookF_none {n : Nat} {f : Nat → FileV} {s : ByteArray} (h : ∀ j, j < n → (f j).name ≠ s) : lookF n f s = none := by
  unfold lookF
  rw [List.find?_eq_none.2 (fun i hi => by rw [eqS_false (h i (List.mem_range.1 hi))]; decide)]
  rfl
theorem lookF_some {n i : Nat} {f : Nat → FileV} {s : ByteArray} (hi : i < n) (h : (f i).name = s) (hj : ∀ j, j < i → (f j).name ≠ s) : lookF n f s = some (f i).data := by
  unfold lookF
  have : (List.range n).find? (fun i => (f i).name.toList == s.toList) = some i := by
    rw [List.find?_range_eq_some]
    exact ⟨eqS_true h, List.mem_range.2 hi, fun j hji => by rw [eqS_false (hj j hji)]; rfl⟩
  rw [this]
  rfl
/-- data behind what stood there -/
def addD (x : Option ByteArray) (d : ByteArray) : ByteArray := match x with | some y => y ++ d | none => d
def doF (n : Nat) (f : Nat → FileV) (o : OpV) : List FileV × Bool :=
  if o.kind = 1 then (putF n f o.name (addD (lookF n f o.name) o.data), true)
  else match lookF n f o.name with
    | none => ((List.range n).map f, false)
    | some x => (if o.kind = 2 then putF (cutTo f o.name n).length (fileAt (cutTo f o.name n)) o.to x else cutTo f o.name n, true)
theorem FilesAt.filL {w : World} {ad : Option Addr} {n : Nat} {f : Nat → FileV} (hc : FilesAt w ad n f) : FilL w ad ((List.range n).map f) := fun hn => by
  have hn' : 0 < n := by simpa using hn
  obtain ⟨b, off, e, hlt, hcc⟩ := hc hn'
  refine ⟨b, off, e, hlt, fun j u hu => ?_⟩
  have hj : j < ((List.range n).map f).length * 2 := by
    rw [← cellsF_len]
    exact (List.getElem?_eq_some_iff.1 hu).1
  simp only [List.length_map, List.length_range] at hj
  have hi : j / 2 < ((List.range n).map f).length := by simp; omega
  obtain ⟨g1, g2⟩ := cellsF_get hi
  have e1 : ((List.range n).map f)[j / 2] = f (j / 2) := by simp
  rw [e1] at g1 g2
  have hcj := hcc (j / 2) (by omega)
  rcases Nat.mod_two_eq_zero_or_one j with h | h
  · have ej : j / 2 * 2 = j := by omega
    rw [ej] at g1 hcj
    rw [g1] at hu
    cases hu
    exact hcj.1
  · have ej : j / 2 * 2 + 1 = j := by omega
    rw [ej] at g2
    rw [g2] at hu
    cases hu
    have := hcj.2
    rw [Nat.add_assoc, ej] at this
    exact this
theorem OwnF.at {w : World} {B c : Nat} {a : Option Addr} {l : List FileV} (h : OwnF w B (.slice a l.length c) l) (hn : l.length ≤ 1048576) (hw : ∀ x ∈ l, x.wf) : FileL.at w ⟨a, l.length, c, fileAt l⟩ :=
  ⟨by unfold maxLen; show l.length ≤ _; omega, h.lies.files, fun i (hi : i < l.length) => by
    have e1 : fileAt l i = l[i] := by simp [fileAt, hi]
    show (fileAt l i).wf
    rw [e1]
    exact hw _ (List.getElem_mem hi)⟩
theorem mem_cutTo {f : Nat → FileV} {s : ByteArray} {k : Nat} {x : FileV} (h : x ∈ cutTo f s k) : ∃ i, i < k ∧ f i = x := by
  obtain ⟨h1, _⟩ := List.mem_filter.1 h
  obtain ⟨i, hi, rfl⟩ := List.mem_map.1 h1
  exact ⟨i, List.mem_range.1 hi, rfl⟩
theorem mem_putSt {f : Nat → FileV} {s d : ByteArray} {k : Nat} {x : FileV} (h : x ∈ (putSt f s d k).1) : x = ⟨s, d⟩ ∨ ∃ i, i < k ∧ f i = x := by
  induction k with
  | zero => cases h
  | succ k ih =>
    simp only [putSt, List.mem_append] at h
    rcases h with (h | h) | h
    · rcases ih h with e | ⟨i, hi, e⟩
      · exact .inl e
      · exact .inr ⟨i, by omega, e⟩
    · split at h
      · exact .inl (by simpa using h)
      · cases h
    · split at h
      · cases h
      · exact .inr ⟨k, by omega, (by simpa using h : x = f k).symm⟩
theorem mem_putF {n : Nat} {f : Nat → FileV} {s d : ByteArray} {x : FileV} (h : x ∈ putF n f s d) : x = ⟨s, d⟩ ∨ ∃ i, i < n ∧ f i = x := by
  unfold putF at h
  split at h
  · exact mem_putSt h
  · rcases List.mem_append.1 h with h | h
    · exact mem_putSt h
    · exact .inl (by simpa using h)
end Go.Proofs.Ytcchpeebhkiacaa
