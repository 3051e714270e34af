/- What a right kernel is, plainly: as the program asks it, and as the model does. -/
import Derived.Test.YtaaeeaknjlammaaGreatDoorKB5
import Derived.Test.YtaaeeaknjlammaaGreatDoorKB9
namespace Go.Proofs.YtaaeeaknjlammaaGreatDoor

def idsOf (O : Nat → ObjV) (i : Nat) : Int := (O i).id
def upsOf (O : Nat → ObjV) (i : Nat) : Int := (O i).up
/-- it lies in a box -/
def boxAt (n : Nat) (O : Nat → ObjV) (x : Int) : Bool := match findI (fun i => (O i).id) n x with
  | some u => (O u).kind == 3
  | none => false
def upsOk (n : Nat) (O : Nat → ObjV) : Bool := (List.range (n - 1)).all (fun i => boxAt n O (O (i + 1)).up)
def kerOk (k : KerV) : Bool := thrsOk k.tn k.T && objsOk k.on k.O && numsOk k.tn k.T k.on k.O && upsOk k.on k.O && reachB (fun i => (k.O i).id) (fun i => (k.O i).up) k.on
/-- one object, as the model asks it -/
def spAt (k : KerV) (i : Nat) : Bool := objOk (k.O i) && (if i = 0 then rootB (k.O 0) else decide ((k.O (i - 1)).id < (k.O i).id) && numAt k.tn k.T (k.O i).id && boxAt k.on k.O (k.O i).up)

theorem spAt_all {k : KerV} (h1 : 1 ≤ k.on) (h2 : k.on ≤ 271) : (objsOk k.on k.O && numsOk k.tn k.T k.on k.O && upsOk k.on k.O) = (List.range k.on).all (spAt k) := by
  rw [Bool.eq_iff_iff]
  simp only [Bool.and_eq_true]
  constructor
  · rintro ⟨⟨ho, hn⟩, hu⟩
    obtain ⟨_, _, ha, hr⟩ := objsOk_out ho
    refine all_yes fun i hi => ?_
    have hai := ha i hi
    simp only [objAt, Bool.and_eq_true] at hai
    simp only [spAt, hai.1, Bool.true_and]
    by_cases e : i = 0
    · rw [if_pos e]; exact hr
    · rw [if_neg e] at hai ⊢
      have e1 : i - 1 + 1 = i := by omega
      have h3 := all_out hn (i - 1) (by omega)
      have h4 := all_out hu (i - 1) (by omega)
      simp only [e1] at h3 h4
      simp only [hai.2, h3, h4, Bool.and_true]
  · intro h
    have ha := all_out h
    have h0 := ha 0 (by omega)
    simp only [spAt, if_true, Bool.and_eq_true] at h0
    refine ⟨⟨?_, ?_⟩, ?_⟩
    · have : (List.range k.on).all (objAt k.O) = true := all_yes fun i hi => by
        have hi' := ha i hi
        simp only [spAt, Bool.and_eq_true] at hi'
        simp only [objAt, hi'.1, Bool.true_and]
        by_cases e : i = 0
        · rw [if_pos e]
          have := h0.2
          simp only [rootB, Bool.and_eq_true, beq_iff_eq] at this
          simp [this.1.1]
        · rw [if_neg e] at hi' ⊢
          simp only [Bool.and_eq_true] at hi'
          exact hi'.2.1.1
      simp only [objsOk, this, h0.2, Bool.and_true, Bool.and_eq_true, decide_eq_true_eq]
      exact ⟨h1, h2⟩
    · refine all_yes fun i hi => ?_
      have hi' := ha (i + 1) (by omega)
      simp only [spAt, Bool.and_eq_true] at hi'
      rw [if_neg (by omega)] at hi'
      simp only [Bool.and_eq_true] at hi'
      exact hi'.2.1.2
    · refine all_yes fun i hi => ?_
      have hi' := ha (i + 1) (by omega)
      simp only [spAt, Bool.and_eq_true] at hi'
      rw [if_neg (by omega)] at hi'
      simp only [Bool.and_eq_true] at hi'
      exact hi'.2.2

theorem kerOk_sp {k : KerV} (ht : thrsOk k.tn k.T = true) (h1 : 1 ≤ k.on) (h2 : k.on ≤ 271) : kerOk k = ((List.range k.on).all (spAt k) && reachB (fun i => (k.O i).id) (fun i => (k.O i).up) k.on) := by
  rw [kerOk, ht, ← spAt_all h1 h2]
  simp [Bool.and_assoc]
theorem kerOk_thr {k : KerV} (ht : thrsOk k.tn k.T = false) : kerOk k = false := by simp [kerOk, ht]
theorem kerOk_few {k : KerV} (h : ¬ (1 ≤ k.on ∧ k.on ≤ 271)) : kerOk k = false := by
  have : objsOk k.on k.O = false := by
    cases e : objsOk k.on k.O with
    | false => rfl
    | true => obtain ⟨a, b, _⟩ := objsOk_out e; exact absurd ⟨a, b⟩ h
  simp [kerOk, this]

theorem thr_rises {n : Nat} {T : Nat → ThrV} (h : thrsOk n T = true) : Rises (fun i => (T i).id) n := by
  obtain ⟨_, _, ha⟩ := thrsOk_out h
  intro i j hij
  induction j with
  | zero => omega
  | succ j ih =>
    intro hj
    have h1 := ha (j + 1) hj
    simp [thrAt] at h1
    by_cases e : i = j
    · subst e; exact h1.2
    · have := ih (by omega) (by omega)
      simp only at this ⊢
      omega
theorem look_find {ids g : Nat → Int} {n : Nat} (h : Rises ids n) (x : Int) : look ids g n x = (findI ids n x).map g := by
  induction n with
  | zero => rfl
  | succ n ih =>
    have ih' := ih (fun i j hij hj => h i j hij (by omega))
    rw [look]
    split
    · rename_i e; rw [← e, findI_eq h (Nat.lt_succ_self n)]; rfl
    · rename_i e
      rw [ih']
      congr 1
      cases e1 : findI ids n x with
      | none =>
        symm
        refine findI_no fun j hj => ?_
        by_cases ej : j = n
        · subst ej; exact e
        · exact findI_none e1 j (by omega)
      | some j =>
        obtain ⟨j1, j2⟩ := findI_some e1
        symm
        rw [← j2]
        exact findI_eq h (by omega)
theorem numAt_some {n : Nat} {T : Nat → ThrV} (h : thrsOk n T = true) {id : Int} {t : Nat} (e : findI (fun i => (T i).id) n (id / 1000) = some t) : numAt n T id = inB (id % 1000) 1 (T t).made := by
  have : madeOf n T (id / 1000) = (T t).made := by
    unfold madeOf
    rw [look_find (thr_rises h), e]
    rfl
  simp [numAt, this, inB]
theorem numAt_none {n : Nat} {T : Nat → ThrV} (h : thrsOk n T = true) {id : Int} (e : findI (fun i => (T i).id) n (id / 1000) = none) : numAt n T id = false := by
  have : madeOf n T (id / 1000) = 0 := by
    unfold madeOf
    rw [look_find (thr_rises h), e]
    rfl
  simp [numAt, this]
  intro _
  omega
/-- where those ahead are right the numbers are above nought -/
theorem sp_pos {k : KerV} {i : Nat} (h : ∀ j, j < i → spAt k j = true) (h0 : 0 < i) (hl : (k.O (i - 1)).id < (k.O i).id) : 1 ≤ (k.O i).id := by
  have : ∀ j, j < i → 1 ≤ (k.O j).id := by
    intro j
    induction j with
    | zero =>
      intro hj
      have := h 0 hj
      simp only [spAt, if_true, Bool.and_eq_true, rootB, beq_iff_eq] at this
      omega
    | succ j ih =>
      intro hj
      have h1 := ih (by omega)
      have := h (j + 1) hj
      simp only [spAt, Bool.and_eq_true] at this
      rw [if_neg (by omega)] at this
      simp only [Bool.and_eq_true, decide_eq_true_eq, Nat.add_sub_cancel] at this
      omega
  have := this (i - 1) (by omega)
  omega
end Go.Proofs.YtaaeeaknjlammaaGreatDoor
