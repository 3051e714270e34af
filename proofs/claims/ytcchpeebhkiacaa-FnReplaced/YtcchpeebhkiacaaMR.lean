/- Crash, plainly. -/
import Derived.Test.YtcchpeebhkiacaaMN
namespace Go.Proofs.Ytcchpeebhkiacaa
open Go Go.RowKit Go.Deep Go.Maps

/-- is the i-th place one, and above the place ahead of it? -/
def kpOk (g : Nat → Int) (m : Nat) (i : Nat) : Bool := inB (g i) 0 ((m : Int) - 1) && (decide (i = 0) || decide (g (i - 1) < g i))
def kpAll (n : Nat) (g : Nat → Int) (m : Nat) : Bool := (List.range n).all (kpOk g m)
theorem kpAll_no {n i m : Nat} {g : Nat → Int} (hi : i < n) (h : kpOk g m i = false) : kpAll n g m = false := all_no hi h
theorem kpAll_at {n i m : Nat} {g : Nat → Int} (h : kpAll n g m = true) (hi : i < n) : kpOk g m i = true := List.all_eq_true.1 h i (List.mem_range.2 hi)
theorem kpOk_in {g : Nat → Int} {m i : Nat} (h : kpOk g m i = true) : 0 ≤ g i ∧ g i < m := by
  unfold kpOk inB at h
  simp only [Bool.and_eq_true, decide_eq_true_eq] at h
  omega
theorem kp_grow {n m : Nat} {g : Nat → Int} (h : kpAll n g m = true) : ∀ i, i < n → (i : Int) ≤ g i := by
  intro i
  induction i with
  | zero => intro hi; exact (kpOk_in (kpAll_at h hi)).1
  | succ i ih =>
    intro hi
    have h1 := ih (by omega)
    have h2 := kpAll_at h hi
    unfold kpOk at h2
    simp at h2
    omega
theorem kp_few {n m : Nat} {g : Nat → Int} (h : kpAll n g m = true) : n ≤ m := by
  by_cases e : n = 0
  · omega
  · have h1 := kp_grow h (n - 1) (by omega)
    have h2 := kpOk_in (kpAll_at h (show n - 1 < n by omega))
    omega
/-- an op of which only the first bytes came through -/
def cutO (o : OpV) (t : Int) : OpV := ⟨o.kind, o.name, o.to, o.data.extract 0 (min t o.data.size).toNat⟩
/-- the i-th op that is kept -/
def opK (n : Nat) (g : Nat → Int) (f : Nat → OpV) (t : Int) (i : Nat) : OpV := if i = n - 1 then cutO (f (g i).toNat) t else f (g i).toNat
def runK (n : Nat) (g : Nat → Int) (f : Nat → OpV) (t : Int) (M : List FileV) : Nat → List FileV
  | 0 => M
  | i + 1 => (doF (runK n g f t M i).length (fileAt (runK n g f t M i)) (opK n g f t i)).1
theorem ext_all (b : ByteArray) : b.extract 0 b.size = b := ByteArray.extract_zero_size
theorem cutO_same {o : OpV} {t : Int} (h : (o.data.size : Int) ≤ t) : cutO o t = o := by
  unfold cutO
  have e : (min t (o.data.size : Int)).toNat = o.data.size := by omega
  rw [e, ext_all]
theorem cutO_empty {o : OpV} {t : Int} (h : o.data.size = 0) : cutO o t = o := by
  unfold cutO
  have e : o.data = ⟨#[]⟩ := by
    apply key_inj
    unfold key
    have : o.data.data.size = 0 := h
    rw [Array.eq_empty_of_size_eq_zero this]
  rw [e]
  rcases o with ⟨k, n, u, d⟩
  simp only at e
  subst e
  have hx : (⟨#[]⟩ : ByteArray).extract 0 (min t ((⟨#[]⟩ : ByteArray).size : Int)).toNat = ⟨#[]⟩ := by
    apply key_inj
    unfold key
    have hz : ((⟨#[]⟩ : ByteArray).extract 0 (min t ((⟨#[]⟩ : ByteArray).size : Int)).toNat).data.size = 0 := by
      show ((⟨#[]⟩ : ByteArray).extract 0 (min t ((⟨#[]⟩ : ByteArray).size : Int)).toNat).size = 0
      rw [ByteArray.size_extract]
      have : (⟨#[]⟩ : ByteArray).size = 0 := rfl
      omega
    rw [Array.eq_empty_of_size_eq_zero hz]
  simp only [hx]
theorem cutO_form {o : OpV} {t : Int} (h : opForm o = true) : opForm (cutO o t) = true := by
  by_cases k : o.kind = 1
  · have e1 : (cutO o t).kind = 1 := k
    rw [form1 e1]
    rw [form1 k] at h
    exact h
  · have hd : o.data.size = 0 := by
      have hh : o.data.toList.isEmpty = true := by
        unfold opForm at h
        simp only [Bool.and_eq_true] at h
        have h2 := h.2
        split at h2
        · simp only [Bool.and_eq_true] at h2; exact h2.2
        · simp only [Bool.and_eq_true, Bool.or_eq_true, decide_eq_true_eq] at h2
          rcases h2.2 with h3 | h3
          · exact absurd h3 k
          · exact h3
      rw [Lib.toList_data] at hh
      have : o.data.data.toList = [] := List.isEmpty_iff.1 hh
      show o.data.data.size = 0
      simpa using congrArg List.length this
    rw [cutO_empty hd]
    exact h
theorem runO_form {L : List FileV} {f : Nat → OpV} : ∀ {n : Nat} {M : List FileV}, runO L f n = some M → ∀ i, i < n → opForm (f i) = true
  | 0, _, _, i, hi => absurd hi (Nat.not_lt_zero i)
  | n + 1, M, h, i, hi => by
    rw [runO] at h
    obtain ⟨N, h1, h2⟩ := Option.bind_eq_some_iff.1 h
    by_cases e : i = n
    · subst e
      unfold stepL at h2
      split at h2
      · rename_i hh; exact hh.2.1
      · cases h2
    · exact runO_form h1 i (by omega)
theorem dkOk_forms {d : DiskV} (h : dkOk d = true) : ∀ i, i < d.ops.n → opForm (d.ops.f i) = true := by
  have h2 := h
  unfold dkOk at h2
  simp only [Bool.and_eq_true] at h2
  cases e : runO d.safe.toL d.ops.f d.ops.n with
  | none => rw [e] at h2; cases h2.2
  | some M => exact runO_form e
theorem dkOk_safe {d : DiskV} (h : dkOk d = true) : okL d.safe.toL = true ∧ d.ops.n ≤ 200 := by
  unfold dkOk at h
  simp only [Bool.and_eq_true, decide_eq_true_eq] at h
  rw [okL_toL]
  exact ⟨h.1.1.2, h.1.2⟩
/-- what is known of the files on the way -/
structure OnWay (M : List FileV) (i : Nat) : Prop where
  neat : Neat M
  wf : ∀ x ∈ M, x.wf
  len : M.length ≤ 60 + i
  bytes : bytesL M ≤ 200000 + 1048576 * i
theorem OnWay.step {M : List FileV} {i : Nat} {o : OpV} (h : OnWay M i) (hi : i ≤ 200) (hf : opForm o = true) (ho : o.wf) (hz : o.data.size ≤ 1048576) : OnWay (doF M.length (fileAt M) o).1 (i + 1) := by
  have hb := bytes_do (o := o) h.neat.rise
  have h1 := h.len
  have h2 := h.bytes
  refine ⟨h.neat.do hf, fun x hx => ?_, by omega, by omega⟩
  have hh := doF_mem (P := fun s => s.size ≤ maxLen) (Q := fun s => s.size ≤ maxLen) (fun j hj => h.wf _ (fileAt_mem hj)) ho.1 ho.2.1 ho.2.2 (fun j hj => by
    rw [ByteArray.size_append]
    have : (fileAt M j).data.size ≤ bytesL M := look_bytes (lookL_mem h.neat.rise _ (fileAt_mem hj))
    unfold maxLen
    omega) x hx
  exact hh
/-- what Crash answers -/
def crA (d : DiskV) (n : Nat) (g : Nat → Int) (t : Int) : List FileV × Bool :=
  if dkOk d = true ∧ 0 ≤ t ∧ kpAll n g d.ops.n = true ∧ okL (runK n g d.ops.f t d.safe.toL n) = true then (runK n g d.ops.f t d.safe.toL n, true) else ([], false)
theorem crA_no {d : DiskV} {n : Nat} {g : Nat → Int} {t : Int} (h : ¬ (dkOk d = true ∧ 0 ≤ t ∧ kpAll n g d.ops.n = true ∧ okL (runK n g d.ops.f t d.safe.toL n) = true)) : crA d n g t = ([], false) := by rw [crA, if_neg h]
theorem crA_yes {d : DiskV} {n : Nat} {g : Nat → Int} {t : Int} (h : dkOk d = true ∧ 0 ≤ t ∧ kpAll n g d.ops.n = true ∧ okL (runK n g d.ops.f t d.safe.toL n) = true) : crA d n g t = (runK n g d.ops.f t d.safe.toL n, true) := by rw [crA, if_pos h]
theorem cutO_wf {o : OpV} {t : Int} (h : o.wf) : (cutO o t).wf ∧ (cutO o t).data.size ≤ o.data.size := by
  have e : (cutO o t).data.size ≤ o.data.size := by
    show (o.data.extract 0 (min t (o.data.size : Int)).toNat).size ≤ _
    rw [ByteArray.size_extract]
    omega
  exact ⟨⟨h.1, h.2.1, Nat.le_trans e h.2.2⟩, e⟩
theorem opK_good {n m : Nat} {g : Nat → Int} {f : Nat → OpV} {t : Int} (hk : kpAll n g m = true) (hf : ∀ i, i < m → opForm (f i) = true) (hw : ∀ i, i < m → (f i).wf ∧ (f i).data.size ≤ 1048576) {i : Nat} (hi : i < n) : opForm (opK n g f t i) = true ∧ (opK n g f t i).wf ∧ (opK n g f t i).data.size ≤ 1048576 := by
  have h1 := kpOk_in (kpAll_at hk hi)
  have hm : (g i).toNat < m := by omega
  unfold opK
  split
  · have := cutO_wf (t := t) (hw _ hm).1
    exact ⟨cutO_form (hf _ hm), this.1, Nat.le_trans this.2 (hw _ hm).2⟩
  · exact ⟨hf _ hm, (hw _ hm).1, (hw _ hm).2⟩
theorem runK_way {n m : Nat} {g : Nat → Int} {f : Nat → OpV} {t : Int} {M : List FileV} (hM : OnWay M 0) (hm : m ≤ 200) (hk : kpAll n g m = true) (hf : ∀ i, i < m → opForm (f i) = true) (hw : ∀ i, i < m → (f i).wf ∧ (f i).data.size ≤ 1048576) : ∀ i, i ≤ n → OnWay (runK n g f t M i) i
  | 0, _ => hM
  | i + 1, hi => by
    have := opK_good (t := t) hk hf hw (show i < n by omega)
    have hn := kp_few hk
    exact (runK_way hM hm hk hf hw i (by omega)).step (by omega) this.1 this.2.1 this.2.2
theorem way0 {d : DiskV} {W : World} (hd : d.at W) (h : dkOk d = true) : OnWay d.safe.toL 0 := by
  have h1 := (dkOk_safe h).1
  have h2 := okL_bytes h1
  exact ⟨neat_ok h1, fun x hx => by obtain ⟨i, hi, rfl⟩ := toL_mem hx; exact hd.2.1.2.2 i hi, by omega, by omega⟩
end Go.Proofs.Ytcchpeebhkiacaa
