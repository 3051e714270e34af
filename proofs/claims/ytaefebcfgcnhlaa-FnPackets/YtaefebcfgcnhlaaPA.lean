/- Packets come back from their bytes, the sum of which is nought, plainly. -/
import Derived.Test.YtaefebcfgcnhlaaNRB
import Derived.Test.YtaefebcfgcnhlaaSB
namespace Go.Proofs.Ytaefebcfgcnhlaa
open Go Go.RowKit

theorem ext_listP (l : List UInt8) (i j : Nat) : (⟨l.toArray⟩ : ByteArray).extract i j = ⟨((l.take j).drop i).toArray⟩ := by
  apply ByteArray.ext
  apply Array.ext'
  rw [List.drop_take]
  simp
theorem at8_of (l : List UInt8) (k : Nat) (h : k < l.length) : at8 ⟨l.toArray⟩ k = l[k].toNat := by
  have h' : k < (⟨l.toArray⟩ : ByteArray).size := by rw [size_ofR]; exact h
  rw [at8_eq h']
  rfl
theorem num_back4 (b : Int) (h0 : 0 ≤ b) (h1 : b < 4294967296) : numTo ⟨(bigL b 4).toArray⟩ 4 = b.toNat := by
  obtain ⟨B, rfl⟩ : ∃ B : Nat, b = (B : Int) := ⟨b.toNat, by omega⟩
  have e : ∀ j, j < 4 → at8 ⟨(bigL (B : Int) 4).toArray⟩ j = B / 2 ^ (8 * (3 - j)) % 256 := fun j hj => by
    rw [at8_of _ _ (by rw [bigL_len]; exact hj), bigL_at _ _ _ hj]
    have t := byteOf_val (B : Int) (4 - 1 - j)
    have t2 : ((B : Int) / 2 ^ (8 * (4 - 1 - j)) % 256) = ((B / 2 ^ (8 * (3 - j)) % 256 : Nat) : Int) := by simp
    rw [t2] at t
    exact Int.ofNat.inj t
  simp only [numTo, e 0 (by omega), e 1 (by omega), e 2 (by omega), e 3 (by omega)]
  simp only [Int.toNat_natCast]
  omega
theorem big2 (c : Nat) (h : c < 65536) : psL (bigL (c : Int) 2) = c := by
  have e1 := byteOf_val (c : Int) 1
  have e0 := byteOf_val (c : Int) 0
  have : psL (bigL (c : Int) 2) = (byteOf (c : Int) 1).toNat * 256 + (byteOf (c : Int) 0).toNat := by simp [bigL, psL, psum]
  rw [this]
  simp only [Nat.mul_zero, Int.pow_zero, Nat.mul_one] at e0 e1
  omega
theorem fold_top : fold 65535 = 65535 := by decide
theorem text_sum (f t k : Int) (B : List UInt8) (h : pOk f t k B = true) : cks ⟨(ptext f t k B).toArray⟩ = 0 := by
  unfold ptext
  rw [if_pos h]
  have hh := headL_len k B
  obtain ⟨c, hc⟩ : ∃ c, cks ⟨(headL k B ++ tailL f t B).toArray⟩ = c := ⟨_, rfl⟩
  have hlt : c < 65536 := by rw [← hc]; exact cks_lt _
  rw [hc]
  rw [cks_list, psL_append _ _ (by rw [hh]), ] at hc
  rw [cks_list, psL_append _ _ (by rw [List.length_append, hh, bigL_len]), psL_append _ _ (by rw [hh]), big2 c hlt]
  have hle := fold_lt (psL (headL k B) + psL (tailL f t B))
  have e : fold (psL (headL k B) + c + psL (tailL f t B)) = 65535 := by
    rw [show psL (headL k B) + c + psL (tailL f t B) = (psL (headL k B) + psL (tailL f t B)) + c by omega, ← fold_add, show fold (psL (headL k B) + psL (tailL f t B)) + c = 65535 by omega]
    exact fold_top
  rw [e]
theorem text_read (f t k : Int) (B : List UInt8) (h : pOk f t k B = true) :
    fromOf ⟨(ptext f t k B).toArray⟩ = f ∧ toOf ⟨(ptext f t k B).toArray⟩ = t ∧ kindOf ⟨(ptext f t k B).toArray⟩ = k ∧ bodyOf ⟨(ptext f t k B).toArray⟩ = B ∧ rdp ⟨(ptext f t k B).toArray⟩ = true := by
  obtain ⟨f0, f1, t0, t1, k0, k1, hl⟩ := pOk_facts h
  have hP : ptext f t k B = headL k B ++ bigL ((cks ⟨(headL k B ++ tailL f t B).toArray⟩ : Nat) : Int) 2 ++ tailL f t B := by unfold ptext; rw [if_pos h]
  obtain ⟨c2, hc2⟩ : ∃ c2, bigL ((cks ⟨(headL k B ++ tailL f t B).toArray⟩ : Nat) : Int) 2 = c2 := ⟨_, rfl⟩
  have hc2l : c2.length = 2 := by rw [← hc2, bigL_len]
  rw [hc2] at hP
  have hh := headL_len k B
  have e1 : ((ptext f t k B).take 10).drop 6 = bigL f 4 := by
    rw [hP, tailL, List.take_append, List.take_of_length_le (by rw [List.length_append]; omega), List.drop_append, List.drop_of_length_le (by rw [List.length_append]; omega)]
    simp only [List.length_append, hh, hc2l, List.nil_append]
    rw [List.append_assoc, List.take_append_of_le_length (by rw [bigL_len]; omega), List.take_of_length_le (by rw [bigL_len]; omega)]
    rfl
  have e2 : ((ptext f t k B).take 14).drop 10 = bigL t 4 := by
    rw [hP, tailL, List.take_append, List.take_of_length_le (by rw [List.length_append]; omega), List.drop_append, List.drop_of_length_le (by rw [List.length_append]; omega)]
    simp only [List.length_append, hh, hc2l, List.nil_append]
    rw [List.take_append_of_le_length (by rw [List.length_append, bigL_len, bigL_len]; omega), List.take_of_length_le (by rw [List.length_append, bigL_len, bigL_len]; omega), List.drop_append_of_le_length (by rw [bigL_len]; omega), List.drop_of_length_le (by rw [bigL_len]; omega)]
    rfl
  have e3 : (ptext f t k B).drop 14 = B := by
    rw [hP, tailL, List.drop_append, List.drop_of_length_le (by rw [List.length_append]; omega)]
    simp only [List.length_append, hh, hc2l, List.nil_append]
    rw [List.drop_append, List.drop_of_length_le (by rw [List.length_append, bigL_len, bigL_len]; omega)]
    simp [bigL_len]
  have hlen : (ptext f t k B).length = 14 + B.length := by rw [hP, List.length_append, List.length_append, hh, hc2l, tailL_len]; omega
  have F : fromOf ⟨(ptext f t k B).toArray⟩ = f := by
    unfold fromOf
    rw [ext_listP, e1, size_ofR, bigL_len, num_back4 f f0 (by omega)]
    omega
  have T : toOf ⟨(ptext f t k B).toArray⟩ = t := by
    unfold toOf
    rw [ext_listP, e2, size_ofR, bigL_len, num_back4 t t0 (by omega)]
    omega
  have K : kindOf ⟨(ptext f t k B).toArray⟩ = k := by
    unfold kindOf
    rw [at8_of _ 1 (by omega)]
    have g : (ptext f t k B)[1]? = some (byteOf k 0) := by rw [hP]; rfl
    rw [List.getElem?_eq_getElem (by omega)] at g
    rw [Option.some.inj g, byteOf_val]
    simp only [Nat.mul_zero, Int.pow_zero]
    omega
  have D : bodyOf ⟨(ptext f t k B).toArray⟩ = B := e3
  refine ⟨F, T, K, D, ?_⟩
  unfold rdp
  rw [F, T, K, D, size_ofR, hlen]
  simp
theorem text_none (f t k : Int) (B : List UInt8) (h : pOk f t k B = false) : ptext f t k B = [] := by unfold ptext; rw [h]; rfl
end Go.Proofs.Ytaefebcfgcnhlaa
