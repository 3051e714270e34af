/- StepText of both sides. -/
import Derived.Test.YtcpphobokdkkeaaDoorSA
import Derived.Test.YtcpphobokdkkeaaDoorHG
namespace Go.Proofs.YtcpphobokdkkeaaDoor
open Go Go.RowKit Go.Deep Go.Maps

/-- eight texts with a blank between two -/
def stepT (X1 X2 X3 X4 X5 X6 X7 X8 : ByteArray) : ByteArray := X1 ++ ⟨#[32]⟩ ++ X2 ++ ⟨#[32]⟩ ++ X3 ++ ⟨#[32]⟩ ++ X4 ++ ⟨#[32]⟩ ++ X5 ++ ⟨#[32]⟩ ++ X6 ++ ⟨#[32]⟩ ++ X7 ++ ⟨#[32]⟩ ++ X8
theorem stepT_join (X1 X2 X3 X4 X5 X6 X7 X8 : ByteArray) : (⟨(Lib.join ([X1, X2, X3, X4, X5, X6, X7, X8].map (·.data.toList)) (⟨#[32]⟩ : ByteArray).data.toList).toArray⟩ : ByteArray) = stepT X1 X2 X3 X4 X5 X6 X7 X8 := by
  unfold stepT
  apply ByteArray.ext
  apply Array.ext'
  simp [Lib.join]
theorem decB_size (x : Int) (h : x ≤ 9999) : (decB x).size ≤ 10001 := by
  have a1 := decL_len x.toNat
  unfold decB
  rw [size_of]
  omega
/-- what a right step's numbers are -/
theorem step_is (th kind id to' cat : Int) (d : ByteArray) (bl : Int) (nl : Nat) (fl gl : Nat → Int) (bc : Int) (nc : Nat) (fc gc : Nat → Int) (h : stepOk th kind id to' cat d bl nl fl gl bc nc fc gc = true) :
    (0 ≤ th ∧ th ≤ 9999) ∧ (0 ≤ kind ∧ kind ≤ 9999) ∧ (0 ≤ id ∧ id ≤ 9999) ∧ (0 ≤ to' ∧ to' ≤ 9999) ∧ (0 ≤ cat ∧ cat ≤ 9999) ∧ d.size ≤ 40 ∧ labOk bl nl fl gl = true ∧ labOk bc nc fc gc = true := by
  unfold stepOk stepC at h
  simp only [Bool.and_eq_true] at h
  obtain ⟨⟨⟨⟨⟨⟨⟨⟨⟨⟨h1, h2⟩, h3⟩, h4⟩, h5⟩, h6⟩, h7⟩, h8⟩, h9⟩, h10⟩, h11⟩ := h
  have ht := inB_iff.1 h2
  have num : ∀ (x : Int) (u : Bool), numB x u = true → 0 ≤ x ∧ x ≤ 9999 := fun x u hx => by
    unfold numB at hx
    split at hx
    · have := inB_iff.1 hx; omega
    · have := eq_of_beq hx; omega
  refine ⟨by omega, ?_, num _ _ h9, num _ _ h10, ?_, ?_, h3, h5⟩
  · unfold uOk at h1
    simp only [Bool.or_eq_true, beq_iff_eq] at h1
    omega
  · unfold catB at h11
    split at h11
    · rename_i c; have := eq_of_beq c; omega
    · rw [Bool.and_eq_true] at h11
      have := inB_iff.1 h11.2
      omega
  · unfold plainB at h7
    rw [Bool.and_eq_true, decide_eq_true_eq] at h7
    omega
theorem labB_size {bl : Int} {nl : Nat} {fl gl : Nat → Int} (h : labOk bl nl fl gl = true) : (⟨(txt bl (catsTo fl gl nl)).toArray⟩ : ByteArray).size ≤ 300000000000 ∧ nl ≤ 12 ∧ (0 ≤ bl ∧ bl ≤ 10000000000) ∧ (∀ i, i < nl → 0 ≤ fl i ∧ fl i ≤ 10000000000) ∧ (∀ i, i < nl → 0 ≤ gl i ∧ gl i ≤ 10000000000) := by
  obtain ⟨h1, h2, h3⟩ := labOk_out h
  have hb := inB_iff.1 h1
  have hc : ∀ i, i < nl → (0 ≤ fl i ∧ fl i ≤ 9999) ∧ (0 ≤ gl i ∧ gl i ≤ 3) := fun i hi => by
    have := h3 i hi
    unfold catOk at this
    simp only [Bool.and_eq_true] at this
    have a1 := inB_iff.1 this.1.1.1
    have a2 := inB_iff.1 this.1.1.2
    omega
  have hl := txt_len bl fl gl nl (by omega) (fun i hi => by have := hc i hi; omega)
  refine ⟨?_, h2, by omega, fun i hi => by have := hc i hi; omega, fun i hi => by have := hc i hi; omega⟩
  rw [size_of]
  have : nl * 20000000010 ≤ 12 * 20000000010 := Nat.mul_le_mul_right _ h2
  omega
end Go.Proofs.YtcpphobokdkkeaaDoor
