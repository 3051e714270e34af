/- A label with another level for a category: the plain part of FnWith. -/
import Derived.Test.YtjolkbcnglhebaaRF
import Derived.Test.YtjolkbcnglhebaaWF
namespace Go.Proofs.Ytjolkbcnglhebaa
open Go.RowKit Go.Deep Go.Maps

section
variable {b : Int} {l : List (Int × Int)} {cat level : Int}

theorem insFin_mem (ok : labOk b l.length (fstAt l) (sndAt l) = true) : (insFin b l.length (fstAt l) (sndAt l) cat level).Pairwise (fun a b => a.1 < b.1) ∧
    ∀ p, p ∈ insFin b l.length (fstAt l) (sndAt l) cat level ↔ (p ∈ l ∧ p.1 ≠ cat) ∨ (p = (cat, level) ∧ level ≠ b) := by
  obtain ⟨h1, h2⟩ := insFin_spec (base := b) (g := sndAt l) (cat := cat) (level := level) (rising (labOk_out ok).2.2)
  refine ⟨h1, fun p => ?_⟩
  rw [h2 p, mem_at]
  constructor
  · rintro (⟨i, hi, rfl, hne⟩ | h)
    · exact .inl ⟨⟨i, hi, rfl⟩, hne⟩
    · exact .inr h
  · rintro (⟨⟨i, hi, rfl⟩, hne⟩ | h)
    · exact .inl ⟨i, hi, rfl, hne⟩
    · exact .inr h

theorem labOk_ofList {m : List (Int × Int)} (hb : inB b 0 3 = true) (hl : m.length ≤ 12) (hp : m.Pairwise (fun a b => a.1 < b.1)) (hm : ∀ p ∈ m, (1 ≤ p.1 ∧ p.1 ≤ 9999) ∧ (0 ≤ p.2 ∧ p.2 ≤ 3) ∧ p.2 ≠ b) :
    labOk b m.length (fstAt m) (sndAt m) = true := by
  refine labOk_mk hb hl fun i hi => ?_
  obtain ⟨h1, h2, h3⟩ := hm (fstAt m i, sndAt m i) (mem_at.2 ⟨i, hi, rfl⟩)
  refine catOk_iff.2 ⟨h1, h2, h3, ?_⟩
  by_cases e : i = 0
  · exact .inl e
  · right
    have := List.pairwise_iff_getElem.1 hp (i - 1) i (by omega) hi (by omega)
    have e1 : i - 1 < m.length := by omega
    simpa [fstAt, hi, e1] using this

theorem mem_ok (ok : labOk b l.length (fstAt l) (sndAt l) = true) {p : Int × Int} (hp : p ∈ l) : (1 ≤ p.1 ∧ p.1 ≤ 9999) ∧ (0 ≤ p.2 ∧ p.2 ≤ 3) ∧ p.2 ≠ b := by
  obtain ⟨i, hi, rfl⟩ := mem_at.1 hp
  obtain ⟨h1, h2, h3, _⟩ := catOk_iff.1 ((labOk_out ok).2.2 i hi)
  exact ⟨h1, h2, h3⟩

theorem withOk_out (h : withOk b l.length (fstAt l) (sndAt l) cat level = true) : labOk b l.length (fstAt l) (sndAt l) = true ∧ (1 ≤ cat ∧ cat ≤ 9999) ∧ (0 ≤ level ∧ level ≤ 3) ∧ (insFin b l.length (fstAt l) (sndAt l) cat level).length ≤ 12 := by
  simp only [withOk, Bool.and_eq_true, decide_eq_true_eq] at h
  exact ⟨h.1.1.1, inB_iff.1 h.1.1.2, inB_iff.1 h.1.2, h.2⟩

/-- the label that comes of it is right -/
theorem with_right (h : withOk b l.length (fstAt l) (sndAt l) cat level = true) : labOk b (insFin b l.length (fstAt l) (sndAt l) cat level).length (fstAt (insFin b l.length (fstAt l) (sndAt l) cat level)) (sndAt (insFin b l.length (fstAt l) (sndAt l) cat level)) = true := by
  obtain ⟨ok, hc, hl, h12⟩ := withOk_out h
  obtain ⟨hp, hm⟩ := insFin_mem (cat := cat) (level := level) ok
  refine labOk_ofList (labOk_out ok).1 h12 hp fun p hpm => ?_
  rcases (hm p).1 hpm with ⟨h1, _⟩ | ⟨rfl, h2⟩
  · exact mem_ok ok h1
  · exact ⟨hc, hl, h2⟩

theorem lev_base_of {m : List (Int × Int)} (ok : labOk b m.length (fstAt m) (sndAt m) = true) {x : Int} (hn : ∀ v, (x, v) ∉ m) : levOf b m.length (fstAt m) (sndAt m) x = b := by
  by_cases e : levOf b m.length (fstAt m) (sndAt m) x = b
  · exact e
  · exact absurd ((look_lev ok (x, _)).2 ⟨rfl, e⟩) (hn _)

/-- it has the level -/
theorem with_has (h : withOk b l.length (fstAt l) (sndAt l) cat level = true) : levOf b (insFin b l.length (fstAt l) (sndAt l) cat level).length (fstAt (insFin b l.length (fstAt l) (sndAt l) cat level)) (sndAt (insFin b l.length (fstAt l) (sndAt l) cat level)) cat = level := by
  obtain ⟨ok, _, _, _⟩ := withOk_out h
  obtain ⟨_, hm⟩ := insFin_mem (cat := cat) (level := level) ok
  have okM := with_right h
  by_cases e : level = b
  · rw [lev_base_of okM, e]
    intro v hv
    rcases (hm _).1 hv with ⟨_, h2⟩ | ⟨_, h2⟩
    · exact h2 rfl
    · exact h2 e
  · exact ((look_lev okM (cat, level)).1 ((hm _).2 (.inr ⟨rfl, e⟩))).1

/-- and all others as they were -/
theorem with_else (h : withOk b l.length (fstAt l) (sndAt l) cat level = true) {x : Int} (hx : x ≠ cat) : levOf b (insFin b l.length (fstAt l) (sndAt l) cat level).length (fstAt (insFin b l.length (fstAt l) (sndAt l) cat level)) (sndAt (insFin b l.length (fstAt l) (sndAt l) cat level)) x = levOf b l.length (fstAt l) (sndAt l) x := by
  obtain ⟨ok, _, _, _⟩ := withOk_out h
  obtain ⟨_, hm⟩ := insFin_mem (cat := cat) (level := level) ok
  have okM := with_right h
  by_cases e : levOf b l.length (fstAt l) (sndAt l) x = b
  · rw [e, lev_base_of okM]
    intro v hv
    rcases (hm _).1 hv with ⟨h1, _⟩ | ⟨h1, _⟩
    · have := (look_lev ok (x, v)).1 h1
      exact this.2 (this.1.symm.trans e)
    · exact hx (congrArg Prod.fst h1)
  · have : (x, levOf b l.length (fstAt l) (sndAt l) x) ∈ l := (look_lev ok _).2 ⟨rfl, e⟩
    exact ((look_lev okM (x, _)).1 ((hm _).2 (.inl ⟨this, hx⟩))).1

theorem lev_range (ok : labOk b l.length (fstAt l) (sndAt l) = true) (x : Int) : 0 ≤ levOf b l.length (fstAt l) (sndAt l) x ∧ levOf b l.length (fstAt l) (sndAt l) x ≤ 3 := by
  by_cases e : levOf b l.length (fstAt l) (sndAt l) x = b
  · rw [e]; exact inB_iff.1 (labOk_out ok).1
  · exact (mem_ok ok ((look_lev ok (x, _)).2 ⟨rfl, e⟩)).2.1

/-- set back it is as it was -/
theorem with_back (h : withOk b l.length (fstAt l) (sndAt l) cat level = true) : insFin b (insFin b l.length (fstAt l) (sndAt l) cat level).length (fstAt (insFin b l.length (fstAt l) (sndAt l) cat level)) (sndAt (insFin b l.length (fstAt l) (sndAt l) cat level)) cat (levOf b l.length (fstAt l) (sndAt l) cat) = l := by
  obtain ⟨ok, _, _, _⟩ := withOk_out h
  obtain ⟨_, hm⟩ := insFin_mem (cat := cat) (level := level) ok
  obtain ⟨hp2, hm2⟩ := insFin_mem (cat := cat) (level := levOf b l.length (fstAt l) (sndAt l) cat) (with_right h)
  refine eq_of_rising hp2 (list_rise (rising (labOk_out ok).2.2)) fun p => ?_
  rw [hm2 p, hm p]
  constructor
  · rintro (⟨h1, hne⟩ | ⟨rfl, hne⟩)
    · rcases h1 with ⟨h1, _⟩ | ⟨rfl, _⟩
      · exact h1
      · exact absurd rfl hne
    · exact (look_lev ok _).2 ⟨rfl, hne⟩
  · intro hpl
    by_cases e : p.1 = cat
    · right
      have := (look_lev ok p).1 hpl
      obtain ⟨x, v⟩ := p
      dsimp only at e this
      subst e
      exact ⟨by rw [this.1], by rw [this.1]; exact this.2⟩
    · exact .inl ⟨.inl ⟨hpl, e⟩, e⟩

theorem with_back_ok (h : withOk b l.length (fstAt l) (sndAt l) cat level = true) : withOk b (insFin b l.length (fstAt l) (sndAt l) cat level).length (fstAt (insFin b l.length (fstAt l) (sndAt l) cat level)) (sndAt (insFin b l.length (fstAt l) (sndAt l) cat level)) cat (levOf b l.length (fstAt l) (sndAt l) cat) = true := by
  obtain ⟨ok, hc, _, _⟩ := withOk_out h
  have hr := lev_range ok cat
  have h12 := (labOk_out ok).2.1
  simp only [withOk, Bool.and_eq_true, decide_eq_true_eq]
  refine ⟨⟨⟨with_right h, inB_iff.2 hc⟩, inB_iff.2 hr⟩, ?_⟩
  rw [with_back h]
  exact h12
end
end Go.Proofs.Ytjolkbcnglhebaa
