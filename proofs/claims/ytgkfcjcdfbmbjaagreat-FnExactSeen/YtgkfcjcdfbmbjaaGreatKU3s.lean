/- A list of numbers that a call owns, as a row; rows outside a marked room. -/
import Derived.Test.YtgkfcjcdfbmbjaaGreatKN1
namespace Go.Proofs.YtgkfcjcdfbmbjaaGreat
open Go Go.RowKit Go.Deep Go.Maps

theorem RowI.of_own' {w : World} {B k : Nat} {a : Option Addr} {l : List Int} (h : OwnI w B (.slice a l.length k) l) : ∃ b, RowI w a b l.length ∧ B ≤ b := by
  obtain ⟨b, h1, h2⟩ := RowI.of_own h
  by_cases e : 0 < l.length
  · exact ⟨b, h1, h2 e⟩
  · exact ⟨B, fun h => absurd h e, Nat.le_refl _⟩
theorem CatL.room.over {lo hi lo' hi' : Nat} {w w' : World} {c : CatL} (h : c.room lo hi w) (k : Mk lo' hi' w w') : c.room lo hi w' := ⟨h.1, fun hn => by
  obtain ⟨b, m, F, e, h1, h2, h3, h4⟩ := h.2 hn
  obtain ⟨F', h'⟩ := k.rows b 91 m F h4
  exact ⟨b, m, F', e, h1, h2, h3, h'⟩⟩
end Go.Proofs.YtgkfcjcdfbmbjaaGreat
