/- With one byte turned over nothing is opened, plainly. -/
import Derived.Test.YtbopcgokmgifhaaDoorPA
namespace Go.Proofs.YtbopcgokmgifhaaDoor
open Go Go.RowKit

theorem at8_set (l : List UInt8) (j k : Nat) (v : UInt8) (hk : k < l.length) : at8 ⟨(l.set j v).toArray⟩ k = if j = k then v.toNat else at8 ⟨l.toArray⟩ k := by
  rw [at8_of _ _ (by rw [List.length_set]; exact hk), at8_of _ _ hk, List.getElem_set]
  split <;> rfl
theorem crcTo_same (l : List UInt8) (j : Nat) (v : UInt8) (k : Nat) (hk : k ≤ j) (hl : k ≤ l.length) : crcTo ⟨(l.set j v).toArray⟩ k = crcTo ⟨l.toArray⟩ k := by
  induction k with
  | zero => rfl
  | succ k ih => rw [crcTo, crcTo, ih (by omega) (by omega), at8_set l j k v (by omega), if_neg (by omega)]
theorem in32 {c x : Nat} (hc : c < 4294967296) (hx : x < 256) : c ^^^ x < 4294967296 := Nat.xor_lt_two_pow (n := 32) (by omega) (by omega)
theorem xor_left {a b c : Nat} (h : c ^^^ a = c ^^^ b) : a = b := by
  have t := congrArg (c ^^^ ·) h
  simp only [← Nat.xor_assoc, Nat.xor_self, Nat.zero_xor] at t
  exact t
theorem xor_right {a b c : Nat} (h : a ^^^ c = b ^^^ c) : a = b := by
  have t := congrArg (· ^^^ c) h
  simp only [Nat.xor_assoc, Nat.xor_self, Nat.xor_zero] at t
  exact t
theorem crcTo_other (l : List UInt8) (j : Nat) (v : UInt8) (hj : j < l.length) (hv : v ≠ l[j]) (k : Nat) (hk : j < k) (hl : k ≤ l.length) : crcTo ⟨(l.set j v).toArray⟩ k ≠ crcTo ⟨l.toArray⟩ k := by
  induction k with
  | zero => omega
  | succ k ih =>
    intro h
    rw [crcTo, crcTo] at h
    have b1 := crcTo_lt ⟨(l.set j v).toArray⟩ k
    have b2 := crcTo_lt ⟨l.toArray⟩ k
    have t := sk_inj (in32 b1 (at8_lt _ k)) (in32 b2 (at8_lt _ k)) 8 h
    rw [at8_set l j k v (by omega)] at t
    by_cases e : j = k
    · subst e
      rw [if_pos rfl, crcTo_same l j v j (Nat.le_refl _) (by omega)] at t
      have t2 := xor_left t
      rw [at8_of l j hj] at t2
      exact hv (UInt8.toNat_inj.1 t2)
    · rw [if_neg e] at t
      exact ih (by omega) (by omega) (xor_right t)
theorem crc_other (l : List UInt8) (j : Nat) (v : UInt8) (hj : j < l.length) (hv : v ≠ l[j]) : crc ⟨(l.set j v).toArray⟩ ≠ crc ⟨l.toArray⟩ := by
  intro h
  unfold crc at h
  rw [size_ofR, size_ofR, List.length_set] at h
  exact crcTo_other l j v hj hv l.length hj (Nat.le_refl _) (xor_left h)
theorem low_inj {n m : Nat} (hn : n < 4294967296) (hm : m < 4294967296) (h : lowL (n : Nat) = lowL (m : Nat)) : n = m := by
  unfold lowL at h
  simp only [List.cons.injEq, and_true] at h
  obtain ⟨h0, h1, h2, h3⟩ := h
  have e : ∀ i, byteOf (n : Int) i = byteOf (m : Int) i → (n : Int) / 2 ^ (8 * i) % 256 = (m : Int) / 2 ^ (8 * i) % 256 := fun i h => by
    rw [← byteOf_val, ← byteOf_val, h]
  have a0 := e 0 h0; have a1 := e 1 h1; have a2 := e 2 h2; have a3 := e 3 h3
  simp only [Nat.mul_zero, Int.pow_zero] at a0
  omega

theorem turned (s : ByteArray) (l : List UInt8) (j : Nat) (v : UInt8) (hj : j < l.length) (hv : v ≠ l[j]) (h : openOk s ⟨l.toArray⟩) : (openAns s ⟨(l.set j v).toArray⟩).2.2 = false := by
  obtain ⟨h1, h2, h3, _⟩ := h
  rw [size_ofR] at h1 h2
  have hno : ¬ openOk s ⟨(l.set j v).toArray⟩ := by
    rintro ⟨_, _, k3, _⟩
    have hz : (⟨(l.set j v).toArray⟩ : ByteArray).size = l.length := by rw [size_ofR, List.length_set]
    have hz0 : (⟨l.toArray⟩ : ByteArray).size = l.length := size_ofR l
    have f0 : fr ⟨l.toArray⟩ = ⟨(l.take (l.length - 4)).toArray⟩ := by rw [fr, hz0, ext_list, List.drop_zero]
    have f1 : fr ⟨(l.set j v).toArray⟩ = ⟨((l.set j v).take (l.length - 4)).toArray⟩ := by rw [fr, hz, ext_list, List.drop_zero]
    have t0 : tl ⟨l.toArray⟩ = ⟨(l.drop (l.length - 4)).toArray⟩ := by rw [tl, hz0, ext_list, List.take_of_length_le (Nat.le_refl _)]
    have t1 : tl ⟨(l.set j v).toArray⟩ = ⟨((l.set j v).drop (l.length - 4)).toArray⟩ := by rw [tl, hz, ext_list, List.take_of_length_le (by rw [List.length_set]; exact Nat.le_refl _)]
    by_cases hlt : j < l.length - 4
    · have e1 : (l.set j v).take (l.length - 4) = (l.take (l.length - 4)).set j v := List.take_set
      have e2 : (l.set j v).drop (l.length - 4) = l.drop (l.length - 4) := List.drop_set_of_lt hlt
      have hsum : sumOf ⟨(l.set j v).toArray⟩ = sumOf ⟨l.toArray⟩ := by rw [k3, h3, t1, t0, e2]
      unfold sumOf at hsum
      rw [f0, f1, e1] at hsum
      have hlow : lowL (crc ⟨((l.take (l.length - 4)).set j v).toArray⟩ : Nat) = lowL (crc ⟨(l.take (l.length - 4)).toArray⟩ : Nat) := by
        have := congrArg (fun x : ByteArray => x.data.toList) hsum
        simpa using this
      refine crc_other (l.take (l.length - 4)) j v (by rw [List.length_take]; omega) ?_ (low_inj (crc_lt _) (crc_lt _) hlow)
      rw [List.getElem_take]
      exact hv
    · have e1 : (l.set j v).take (l.length - 4) = l.take (l.length - 4) := List.take_set_of_le (by omega)
      have e2 : tl ⟨(l.set j v).toArray⟩ = tl ⟨l.toArray⟩ := by
        rw [← k3, ← h3]
        unfold sumOf
        rw [f0, f1, e1]
      rw [t0, t1] at e2
      have e3 : (l.set j v).drop (l.length - 4) = l.drop (l.length - 4) := by
        have := congrArg (fun x : ByteArray => x.data.toList) e2
        simpa using this
      have e4 := congrArg (fun x : List UInt8 => x[j - (l.length - 4)]?) e3
      simp only [List.getElem?_drop] at e4
      rw [show l.length - 4 + (j - (l.length - 4)) = j by omega, List.getElem?_set_self hj, List.getElem?_eq_getElem hj] at e4
      exact hv (Option.some.inj e4)
  rw [openNo hno]
end Go.Proofs.YtbopcgokmgifhaaDoor
