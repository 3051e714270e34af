/- The shelf: a new content under a name. -/
import Derived.Test.YtcdhhmedcplblaaDS
namespace Go.Proofs.Ytcdhhmedcplblaa
open Go Go.RowKit Go.Deep Go.Maps

def setL (look : List UInt8 → Option ByteArray) (k : List UInt8) (d : ByteArray) (x : List UInt8) : Option ByteArray := if k = x then some d else look x
theorem OwnS.block_lt {w : World} {B : Nat} {v : Value} {l : List ByteArray} (h : OwnS w B v l) : ∀ g, v.ownBlock = some g → g < w.heap.size := fun g hg => (World.ownsRow.lt h g hg).2
theorem Shelf.put {wr W w' : World} {B c n n' q : Nat} {look : List UInt8 → Option ByteArray} {m : List UInt8 → Option Nat} {pv : List UInt8 → Value} {ps : List UInt8 → List ByteArray} (h : Shelf wr B c n q look m pv ps) (hb : Below wr.heap.size wr W)
    (s : List UInt8) (d : ByteArray) (b : Nat) (v : Value) (l : List ByteArray) (hbl : Blk W b (.cells #[v, .int .i64 d.size] 101)) (hnew : wr.heap.size ≤ b) (hB : B ≤ wr.heap.size)
    (hown : OwnS W B v l) (hj : (l.map key).flatten = key d) (hq : l.length ≤ q) (hv : ∀ g, v.ownBlock = some g → wr.heap.size ≤ g)
    (hM : MapS w' c n' (setS m s b)) (hG : W.grownBy w' (some c)) :
    Shelf w' B c n' q (setL look s d) (setS m s b) (fun x => if s = x then v else pv x) (fun x => if s = x then l else ps x) := by
  have hc : c < wr.heap.size := h.map.lt
  have H := h.below hb
  have hmap := H.map.isMap
  have low : ∀ x b', m x = some b' → b' < wr.heap.size := fun x b' hx => by
    have hs : (look x).isSome = true := by rw [← h.dom x, hx]; rfl
    obtain ⟨d', hd'⟩ := Option.isSome_iff_exists.1 hs
    exact (h.blk x b' d' hx hd').lt
  refine ⟨hM, fun x => ?_, fun x b' d' h1 h2 => ?_, fun x d' h1 => ?_, fun x y b' h1 h2 => ?_, fun x y hne h1 h2 => ?_, fun x b' h1 => ?_, h.lowc⟩
  · unfold setS setL
    by_cases e : s = x
    · simp [e]
    · simp only [e, if_false]; exact h.dom x
  · unfold setS at h1
    unfold setL at h2
    by_cases e : s = x
    · simp only [e, if_true, Option.some.injEq] at h1 h2 ⊢
      subst h1 h2
      exact (hG.block b hbl.lt (fun e => by have : b = c := Option.some.inj e; omega)).trans hbl
    · simp only [e, if_false] at h1 h2 ⊢
      have hh := H.blk x b' d' h1 h2
      refine (hG.block b' hh.lt (fun e => ?_)).trans hh
      obtain ⟨es, clock, hc'⟩ := hmap
      have e' : b' = c := Option.some.inj e
      unfold Blk at hh
      rw [e', hc'] at hh
      cases hh
  · unfold setL at h1
    by_cases e : s = x
    · simp only [e, if_true, Option.some.injEq] at h1 ⊢
      subst h1
      exact ⟨hown.kept hG (hown.notMap hmap), hj, hq⟩
    · simp only [e, if_false] at h1 ⊢
      have ho := H.own x d' h1
      exact ⟨ho.1.kept hG (ho.1.notMap hmap), ho.2⟩
  · unfold setS at h1 h2
    by_cases e1 : s = x
    · by_cases e2 : s = y
      · exact e1.symm.trans e2
      · rw [if_pos e1, Option.some.injEq] at h1
        rw [if_neg e2] at h2
        have := low y b' h2
        omega
    · by_cases e2 : s = y
      · rw [if_pos e2, Option.some.injEq] at h2
        rw [if_neg e1] at h1
        have := low x b' h1
        omega
      · simp only [e1, e2, if_false] at h1 h2
        exact h.inj x y b' h1 h2
  · unfold setL at h1 h2
    have old : ∀ z, (look z).isSome = true → ∀ g, (pv z).ownBlock = some g → g < wr.heap.size := fun z hz g hg => by
      obtain ⟨d', hd'⟩ := Option.isSome_iff_exists.1 hz
      exact (h.own z d' hd').1.block_lt g hg
    by_cases e1 : s = x
    · by_cases e2 : s = y
      · exact absurd (e1.symm.trans e2) hne
      · rw [if_pos e1, if_neg e2]
        rw [if_neg e2] at h2
        cases hvv : v.ownBlock with
        | none => exact .inl rfl
        | some g =>
          refine .inr (fun e => ?_)
          have g1 := hv g hvv
          have g2 := old y h2 g e.symm
          omega
    · rw [if_neg e1]
      rw [if_neg e1] at h1
      by_cases e2 : s = y
      · rw [if_pos e2]
        cases hvv : (pv x).ownBlock with
        | none => exact .inl rfl
        | some g =>
          refine .inr (fun e => ?_)
          have g1 := hv g e.symm
          have g2 := old x h1 g hvv
          omega
      · rw [if_neg e2]
        rw [if_neg e2] at h2
        exact h.apart x y hne h1 h2
  · unfold setS at h1
    by_cases e : s = x
    · simp only [e, if_true, Option.some.injEq] at h1
      omega
    · simp only [e, if_false] at h1
      exact h.low x b' h1
end Go.Proofs.Ytcdhhmedcplblaa
