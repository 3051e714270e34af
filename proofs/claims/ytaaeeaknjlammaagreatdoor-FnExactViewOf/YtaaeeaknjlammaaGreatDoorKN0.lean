/- Lists of numbers that a call owns, in another world. -/
import Derived.Test.YtaaeeaknjlammaaGreatDoorGA
import Derived.Test.YtaaeeaknjlammaaGreatDoorKB11
import Derived.Test.YtaaeeaknjlammaaGreatDoorZE
namespace Go.Proofs.YtaaeeaknjlammaaGreatDoor
open Go Go.RowKit Go.Deep Go.Maps

theorem OwnI.of_block {w w' : World} {B : Nat} {v : Value} {l : List Int} (h : OwnI w B v l) (hb : ∀ g, v.ownBlock = some g → w'.heap[g]? = w.heap[g]?) : OwnI w' B v l := by
  refine ⟨h.1, ?_⟩
  rcases h.2 with hn | ⟨g, cap, cur, rfl, h1, h2, rest⟩
  · exact .inl hn
  · exact .inr ⟨g, cap, cur, rfl, h1, (hb g rfl).trans h2, rest⟩
theorem OwnI.below {w w' : World} {B : Nat} {v : Value} {l : List Int} (h : OwnI w B v l) (hb : Below w.heap.size w w') : OwnI w' B v l := h.of_block fun g hg => hb.block g (World.ownsRow.lt h g hg).2
end Go.Proofs.YtaaeeaknjlammaaGreatDoor
