/- Flowing, in plain words: the plain part of FnFlows and FnNoLeak. -/
import Derived.Test.YtjolkbcnglhebaaFE
import Derived.Test.YtjolkbcnglhebaaRF
namespace Go.Proofs.Ytjolkbcnglhebaa
open Go.RowKit Go.Deep Go.Maps

theorem flowsB_iff {ba : Int} {na : Nat} {fa ga : Nat → Int} {no : Nat} {ho : Nat → Int} {bb : Int} {nb : Nat} {fb gb : Nat → Int} :
    flowsB ba na fa ga no ho bb nb fb gb = true ↔ ba ≤ bb ∧ ∀ x, hasB no ho x = true ∨ levOf ba na fa ga x ≤ levOf bb nb fb gb x := by
  constructor
  · intro hf
    have hb : ba ≤ bb := by
      apply Int.not_lt.1
      intro hlt
      rw [flowsB_base hlt] at hf
      cases hf
    refine ⟨hb, fun x => ?_⟩
    by_cases e : levOf bb nb fb gb x < levOf ba na fa ga x
    · left
      cases ho' : hasB no ho x with
      | true => rfl
      | false =>
        have := flows_not_owned (x := x) (no := no) (ho := ho) (by unfold aboveB; rw [named_of_above hb e]; simpa using e) ho'
        rw [this] at hf
        cases hf
    · right; omega
  · rintro ⟨hb, h⟩
    refine flows_of_owned hb fun x hx => ?_
    unfold aboveB at hx
    rw [Bool.and_eq_true, decide_eq_true_eq] at hx
    rcases h x with q | q
    · exact q
    · omega

theorem hasB_none (ho : Nat → Int) (x : Int) : hasB 0 ho x = false := by simp [hasB]

theorem flowAll_nil {ba : Int} {na : Nat} {fa ga : Nat → Int} {bb : Int} {nb : Nat} {fb gb : Nat → Int} : flowAll ba na fa ga 0 (fun _ => 0) bb nb fb gb = leqB ba na fa ga bb nb fb gb := by
  have : ownOk 0 (fun _ => 0) = true := by simp [ownOk]
  simp [flowAll, leqB, this]

theorem flowAll_iff {ba : Int} {na : Nat} {fa ga : Nat → Int} {no : Nat} {ho : Nat → Int} {bb : Int} {nb : Nat} {fb gb : Nat → Int} :
    flowAll ba na fa ga no ho bb nb fb gb = true ↔ labOk ba na fa ga = true ∧ labOk bb nb fb gb = true ∧ ownOk no ho = true ∧ ba ≤ bb ∧ ∀ x, hasB no ho x = true ∨ levOf ba na fa ga x ≤ levOf bb nb fb gb x := by
  unfold flowAll
  rw [Bool.and_eq_true, Bool.and_eq_true, Bool.and_eq_true, flowsB_iff]
  constructor
  · rintro ⟨⟨⟨a, b⟩, c⟩, d⟩; exact ⟨a, b, c, d⟩
  · rintro ⟨a, b, c, d⟩; exact ⟨⟨⟨a, b⟩, c⟩, d⟩

/-- with more owned categories no less flows -/
theorem flowAll_more {ba : Int} {na : Nat} {fa ga : Nat → Int} {no : Nat} {ho : Nat → Int} {bb : Int} {nb : Nat} {fb gb : Nat → Int} (hown : ownOk no ho = true) (h : leqB ba na fa ga bb nb fb gb = true) :
    flowAll ba na fa ga no ho bb nb fb gb = true := by
  obtain ⟨a, b, c, d⟩ := leqB_iff.1 h
  exact flowAll_iff.2 ⟨a, b, hown, c, fun x => .inr (d x)⟩

/-- it flows on by way of a third one -/
theorem flowAll_on {ba : Int} {na : Nat} {fa ga : Nat → Int} {no : Nat} {ho : Nat → Int} {bb : Int} {nb : Nat} {fb gb : Nat → Int} {bc : Int} {nc : Nat} {fc gc : Nat → Int}
    (h1 : flowAll ba na fa ga no ho bb nb fb gb = true) (h2 : flowAll bb nb fb gb no ho bc nc fc gc = true) : flowAll ba na fa ga no ho bc nc fc gc = true := by
  obtain ⟨a1, b1, c1, d1, e1⟩ := flowAll_iff.1 h1
  obtain ⟨a2, b2, c2, d2, e2⟩ := flowAll_iff.1 h2
  refine flowAll_iff.2 ⟨a1, b2, c1, Int.le_trans d1 d2, fun x => ?_⟩
  rcases e1 x with q | q
  · exact .inl q
  · rcases e2 x with r | r
    · exact .inl r
    · exact .inr (Int.le_trans q r)

section
variable {id made b1 : Int} {n1 : Nat} {f1 g1 : Nat → Int} {b2 : Int} {n2 : Nat} {f2 g2 : Nat → Int} {n3 : Nat} {h : Nat → Int} {bl : Int} {nl : Nat} {fl gl : Nat → Int} {bo : Int} {no : Nat} {fo go : Nat → Int}

/-- what a thread changes, and an observer sees, is changed by a thread that is felt -/
theorem noLeak_felt (hc : changesB id made b1 n1 f1 g1 b2 n2 f2 g2 n3 h bl nl fl gl = true) (hl : leqB bl nl fl gl bo no fo go = true) : reachB id made b1 n1 f1 g1 b2 n2 f2 g2 n3 h bo no fo go = true := by
  unfold changesB reachB at *
  simp only [Bool.and_eq_true] at *
  obtain ⟨_, ht, _, hf⟩ := hc
  obtain ⟨_, tob, pb, pl⟩ := leqB_iff.1 hl
  obtain ⟨q1, q2⟩ := flowsB_iff.1 hf
  refine ⟨ht, tob, flowsB_iff.2 ⟨Int.le_trans q1 pb, fun x => ?_⟩⟩
  rcases q2 x with q | q
  · exact .inl q
  · exact .inr (Int.le_trans q (pl x))

/-- what a thread that owns nothing sees, and who is felt, the observer sees -/
theorem noLeak_seen (h0 : n3 = 0) (hs : seesB id made b1 n1 f1 g1 b2 n2 f2 g2 n3 h bl nl fl gl = true) (hr : reachB id made b1 n1 f1 g1 b2 n2 f2 g2 n3 h bo no fo go = true) : leqB bl nl fl gl bo no fo go = true := by
  unfold seesB reachB at *
  simp only [Bool.and_eq_true] at *
  obtain ⟨ht, hl, hf⟩ := hs
  obtain ⟨_, ho, hg⟩ := hr
  subst h0
  obtain ⟨p1, p2⟩ := flowsB_iff.1 hf
  obtain ⟨q1, q2⟩ := flowsB_iff.1 hg
  refine leqB_iff.2 ⟨hl, ho, Int.le_trans p1 q1, fun x => ?_⟩
  have e1 := p2 x
  have e2 := q2 x
  rw [hasB_none] at e1 e2
  simp only [Bool.false_eq_true, false_or] at e1 e2
  exact Int.le_trans e1 e2

theorem changes_sees (hc : changesB id made b1 n1 f1 g1 b2 n2 f2 g2 n3 h bl nl fl gl = true) : seesB id made b1 n1 f1 g1 b2 n2 f2 g2 n3 h bl nl fl gl = true := by
  unfold changesB at hc
  rw [Bool.and_eq_true] at hc
  exact hc.1
end
end Go.Proofs.Ytjolkbcnglhebaa
