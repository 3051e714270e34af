/- The program's list is the model's; whether the list makes a right label. -/
import Derived.Test.YtjolkbcnglhebaaWC
namespace Go.Proofs.Ytjolkbcnglhebaa
open Go.RowKit Go.Deep Go.Maps

theorem fltTo_spec {base : Int} {m : Int → Option Int} {h : Nat → Int} {n : Nat} (hr : ∀ j, j < n → ∀ i, i < j → h i < h j) : ∀ k, k ≤ n → (fltTo base m h k).Pairwise (fun a b => a.1 < b.1) ∧
    ∀ p, p ∈ fltTo base m h k ↔ ∃ i, i < k ∧ p = (h i, (m (h i)).getD 0) ∧ (m (h i)).getD 0 ≠ base := by
  intro k
  induction k with
  | zero => intro _; exact ⟨List.Pairwise.nil, fun p => ⟨fun hp => (by cases hp), fun ⟨i, hi, _⟩ => by omega⟩⟩
  | succ k ih =>
    intro hk
    obtain ⟨h1, h2⟩ := ih (by omega)
    simp only [fltTo]
    by_cases e : (m (h k)).getD 0 = base
    · rw [if_pos e]
      refine ⟨h1, fun p => ?_⟩
      rw [h2 p]
      constructor
      · rintro ⟨i, hi, r⟩; exact ⟨i, by omega, r⟩
      · rintro ⟨i, hi, r⟩
        by_cases ei : i = k
        · subst ei; exact absurd e r.2
        · exact ⟨i, by omega, r⟩
    · rw [if_neg e]
      refine ⟨List.pairwise_append.2 ⟨h1, by simp, fun a ha b hb => ?_⟩, fun p => ?_⟩
      · simp only [List.mem_singleton] at hb
        subst hb
        obtain ⟨i, hi, rfl, _⟩ := (h2 a).1 ha
        exact hr k (by omega) i hi
      · rw [List.mem_append, h2 p, List.mem_singleton]
        constructor
        · rintro (⟨i, hi, r⟩ | rfl)
          · exact ⟨i, by omega, r⟩
          · exact ⟨k, by omega, rfl, e⟩
        · rintro ⟨i, hi, r⟩
          by_cases ei : i = k
          · subst ei; exact .inr r.1
          · exact .inl ⟨i, by omega, r⟩

/-- what the list of a map holds -/
theorem flt_mem {base : Int} {m : Int → Option Int} {h : Nat → Int} {n : Nat} (hr : ∀ j, j < n → ∀ i, i < j → h i < h j) (hm : ∀ x, (∃ i, i < n ∧ h i = x) ↔ (m x).isSome = true) :
    ∀ p : Int × Int, p ∈ fltTo base m h n ↔ m p.1 = some p.2 ∧ p.2 ≠ base := by
  intro p
  rw [(fltTo_spec hr n (Nat.le_refl _)).2 p]
  constructor
  · rintro ⟨i, hi, rfl, hne⟩
    obtain ⟨v, hv⟩ := Option.isSome_iff_exists.1 ((hm (h i)).1 ⟨i, hi, rfl⟩)
    simp only [hv, Option.getD_some] at hne ⊢
    exact ⟨trivial, hne⟩
  · rintro ⟨h1, h2⟩
    obtain ⟨i, hi, e⟩ := (hm p.1).2 (by rw [h1]; rfl)
    exact ⟨i, hi, by rw [e, h1]; rfl, by rw [e, h1]; exact h2⟩

theorem look_eq {f g : Nat → Int} {n : Nat} (hr : ∀ j, j < n → ∀ i, i < j → f i < f j) {x v : Int} : look f g n x = some v ↔ ∃ i, i < n ∧ f i = x ∧ g i = v := by
  constructor
  · intro h
    obtain ⟨i, hi, e⟩ := look_isSome (f := f) (g := g) (n := n) (x := x) (by rw [h]; rfl)
    have := look_some (g := g) hr hi
    rw [e, h] at this
    exact ⟨i, hi, e, by simpa using this.symm⟩
  · rintro ⟨i, hi, rfl, rfl⟩
    exact look_some hr hi

theorem with_lists {base : Int} {n : Nat} {f g : Nat → Int} {cat level : Int} {h : Nat → Int} {k : Nat} (ok : labOk base n f g = true)
    (hr : ∀ j, j < k → ∀ i, i < j → h i < h j) (hm : ∀ x, (∃ i, i < k ∧ h i = x) ↔ (setAt (look f g n) cat level x).isSome = true) :
    fltTo base (setAt (look f g n) cat level) h k = insFin base n f g cat level := by
  have hrf := rising (labOk_out ok).2.2
  obtain ⟨i1, i2⟩ := insFin_spec (base := base) (g := g) (cat := cat) (level := level) hrf
  refine eq_of_rising (fltTo_spec hr k (Nat.le_refl _)).1 i1 fun p => ?_
  rw [flt_mem hr hm p, i2 p]
  obtain ⟨x, v⟩ := p
  dsimp only
  unfold setAt
  by_cases e : cat = x
  · subst e
    rw [if_pos rfl]
    constructor
    · rintro ⟨h1, h2⟩
      have : level = v := by simpa using h1
      subst this
      exact .inr ⟨rfl, h2⟩
    · rintro (⟨i, hi, h1, h2⟩ | ⟨h1, h2⟩)
      · simp only [Prod.mk.injEq] at h1
        exact absurd h1.1.symm h2
      · simp only [Prod.mk.injEq, true_and] at h1
        subst h1
        exact ⟨rfl, h2⟩
  · rw [if_neg e, look_eq hrf]
    constructor
    · rintro ⟨⟨i, hi, rfl, rfl⟩, h2⟩
      exact .inl ⟨i, hi, rfl, fun h => e h.symm⟩
    · rintro (⟨i, hi, h1, h2⟩ | ⟨h1, h2⟩)
      · simp only [Prod.mk.injEq] at h1
        obtain ⟨rfl, rfl⟩ := h1
        exact ⟨⟨i, hi, rfl, rfl⟩, (catOk_iff.1 ((labOk_out ok).2.2 i hi)).2.2.1⟩
      · simp only [Prod.mk.injEq] at h1
        exact absurd h1.1.symm e

/-- a rising list of categories and levels that are not the base is right just where it is not too long -/
theorem labOk_list {base : Int} {l : List (Int × Int)} (hb : inB base 0 3 = true) (hr : l.Pairwise (fun a b => a.1 < b.1)) (hp : ∀ p ∈ l, (1 ≤ p.1 ∧ p.1 ≤ 9999) ∧ (0 ≤ p.2 ∧ p.2 ≤ 3) ∧ p.2 ≠ base) :
    labOk base l.length (fstAt l) (sndAt l) = decide (l.length ≤ 12) := by
  by_cases h : l.length ≤ 12
  · rw [labOk_mk hb h, decide_eq_true h]
    intro i hi
    have e1 : l.getD i (0, 0) = l[i] := by simp [hi]
    have hm := hp l[i] (List.getElem_mem hi)
    rw [catOk_iff]
    unfold fstAt sndAt
    rw [e1]
    refine ⟨hm.1, hm.2.1, hm.2.2, ?_⟩
    by_cases e : i = 0
    · exact .inl e
    · right
      have hi' : i - 1 < l.length := by omega
      have e2 : l.getD (i - 1) (0, 0) = l[i - 1] := by simp [hi']
      rw [e2]
      exact List.pairwise_iff_getElem.1 hr (i - 1) i hi' hi (by omega)
  · rw [labOk_len (by omega), decide_eq_false h]

/-- the list of With is made of categories and levels -/
theorem ins_parts {base : Int} {n : Nat} {f g : Nat → Int} {cat level : Int} (ok : labOk base n f g = true) (hc : inB cat 1 9999 = true) (hl : inB level 0 3 = true) :
    ∀ p ∈ insFin base n f g cat level, (1 ≤ p.1 ∧ p.1 ≤ 9999) ∧ (0 ≤ p.2 ∧ p.2 ≤ 3) ∧ p.2 ≠ base := by
  intro p hp
  have hrf := rising (labOk_out ok).2.2
  rcases ((insFin_spec hrf).2 p).1 hp with ⟨i, hi, rfl, _⟩ | ⟨rfl, hne⟩
  · obtain ⟨h1, h2, h3, _⟩ := catOk_iff.1 ((labOk_out ok).2.2 i hi)
    exact ⟨h1, h2, h3⟩
  · exact ⟨inB_iff.1 hc, inB_iff.1 hl, hne⟩

theorem insTo_len (base : Int) (f g : Nat → Int) (cat level : Int) (k : Nat) : (insTo base f g cat level k).1.length ≤ 2 * k := by
  induction k with
  | zero => simp [insTo]
  | succ k ih =>
    simp only [insTo]
    split <;> split <;> (try simp only [List.length_append, List.length_singleton]) <;> omega
end Go.Proofs.Ytjolkbcnglhebaa
