/- What is read, written again, has just its bytes: plainly. -/
import Derived.Test.YtjfbfebjbacciaaDoorLI
import Derived.Test.YtjfbfebjbacciaaDoorLK
namespace Go.Proofs.YtjfbfebjbacciaaDoor

theorem Keeps.ends {S : List UInt8} {base : Int} {G : Option (List (Int × Int))} {l : List (Int × Int)} (hG : G = some l) : ∀ (n : Nat) (R : List UInt8) (mo : Bool) (l0 : List (Int × Int)), l0.length + n = 12 → Keeps S base G R mo l0 → S = txt base l := by
  intro n
  induction n with
  | zero =>
    intro R mo l0 hl h
    obtain ⟨h1, _, h3⟩ := h
    have hg := h1 (by omega)
    have e : 12 - l0.length = 0 := by omega
    rw [e, hG] at hg
    cases mo with
    | true => rw [gather_full] at hg; cases hg
    | false =>
      rw [gather_false] at hg
      cases hg
      simpa using h3
  | succ n ih =>
    intro R mo l0 hl h
    cases mo with
    | false =>
      obtain ⟨h1, _, h3⟩ := h
      have hg := h1 (by omega)
      rw [gather_false, hG] at hg
      cases hg
      simpa using h3
    | true =>
      cases hc : catOkL (cutL 44 R).1 with
      | false =>
        have := h.bad (by omega) hc
        rw [hG] at this
        cases this
      | true => exact ih _ _ _ (by rw [List.length_append]; simp; omega) (h.next (by omega) hc)

/-- what is read is a right label whose text it was -/
theorem read_back {S : List UInt8} {b : Int} {l : List (Int × Int)} (h : readL S = (b, l, true)) : labOk b l.length (fstAt l) (sndAt l) = true ∧ txt b l = S := by
  unfold readL at h
  split at h
  · rename_i ho
    unfold fin at h
    split at h
    · rename_i cats hg
      split at h
      · rename_i hok
        cases h
        exact ⟨hok, ((Keeps.start ho).ends hg 12 _ _ _ rfl).symm⟩
      · cases h
    · cases h
  · cases h
end Go.Proofs.YtjfbfebjbacciaaDoor
