/- The shelf: a piece more in a content. -/
import Derived.Test.YtcchpeebhkiacaaZN
namespace Go.Proofs.Ytcchpeebhkiacaa
open Go Go.RowKit Go.Deep Go.Maps

theorem own_blockS {w : World} {B : Nat} {v : Value} {l : List ByteArray} (h : OwnS w B v l) {g : Nat} (hg : v.ownBlock = some g) : ∃ cur, w.heap[g]? = some (.cells cur 9) := by
  rcases h.2 with ⟨hv, _⟩ | ⟨g', cap, cur, hv, _, hb, _⟩
  · rw [hv] at hg; cases hg
  · rw [hv] at hg
    have : g' = g := by simpa [Value.ownBlock] using hg
    subst this
    exact ⟨cur, hb⟩
theorem own_neS {w : World} {B : Nat} {v : Value} {l : List ByteArray} (h : OwnS w B v l) {g : Nat} {cs : Array Value} {t : Nat} (hg : Blk w g (.cells cs t)) (ht : t ≠ 9) : some g ≠ v.ownBlock := fun e => by
  obtain ⟨cur, hb⟩ := own_blockS h e.symm
  unfold Blk at hg
  rw [hg] at hb
  simp only [Option.some.injEq, Obj.cells.injEq] at hb
  exact ht hb.2.1
theorem OwnS.keptAny {w w' : World} {B : Nat} {row : Option Nat} {v : Value} {l : List ByteArray} (h : OwnS w B v l) (hg : w.grownBy w' row) (hne : ∀ g, v.ownBlock = some g → row ≠ some g) : OwnS w' B v l := by
  refine ⟨h.1, ?_⟩
  rcases h.2 with hn | ⟨g, cap, cur, hv, hbg, hg', rest⟩
  · exact .inl hn
  · refine .inr ⟨g, cap, cur, hv, hbg, (hg.block g (Array.getElem?_eq_some_iff.1 hg').1 (fun e => hne g (by rw [hv]; rfl) e.symm)).trans hg', rest⟩
theorem own_setOther {w : World} {B b i : Nat} {v : Value} {l : List ByteArray} (h : OwnS w B v l) (hne : ∀ g, v.ownBlock = some g → g ≠ b) (u : Value) : OwnS (w.setCell ⟨b, i, none⟩ u) B v l := by
  refine ⟨h.1, ?_⟩
  rcases h.2 with hn | ⟨g, cap, cur, hv, hbg, hg', rest⟩
  · exact .inl hn
  · refine .inr ⟨g, cap, cur, hv, hbg, ?_, rest⟩
    have hh : Blk w g (.cells cur 9) := hg'
    exact hh.other (fun e => hne g (by rw [hv]; rfl) e.symm) u
theorem MapS.setCell {w : World} {c n b i : Nat} {m : List UInt8 → Option Nat} (h : MapS w c n m) (hne : b ≠ c) (u : Value) : MapS (w.setCell ⟨b, i, none⟩ u) c n m := by
  obtain ⟨es, clock, hb⟩ := h.isMap
  refine h.of_block ?_
  have hh : Blk w c (.map es clock) := hb
  exact (hh.other hne u).trans hb.symm

/-- a piece more: the list of the content at s grows, and its size -/
theorem Shelf.more {W w2 : World} {B c n q : Nat} {look : List UInt8 → Option ByteArray} {m : List UInt8 → Option Nat} {pv : List UInt8 → Value} {ps : List UInt8 → List ByteArray} (h : Shelf W B c n q look m pv ps)
    (s : List UInt8) (d x : ByteArray) (b : Nat) (hb : m s = some b) (hd : look s = some d) (v : Value) (hown : OwnS w2 B v (ps s ++ [x])) (hG : W.grownBy w2 (pv s).ownBlock) (hv : v.ownBlock = (pv s).ownBlock ∨ v.ownBlock = some W.heap.size) :
    Shelf ((w2.setCell ⟨b, 0, none⟩ v).setCell ⟨b, 1, none⟩ (.int .i64 (d ++ x).size)) B c n (q + 1) (setL look s (d ++ x)) m (fun y => if s = y then v else pv y) (fun y => if s = y then ps s ++ [x] else ps y) := by
  have hB0 := h.blk s b d hb hd
  have hO0 := h.own s d hd
  have hmap := h.map.isMap
  obtain ⟨es, clock, hmc⟩ := hmap
  have bc : b ≠ c := fun e => by
    unfold Blk at hB0
    rw [e, hmc] at hB0
    cases hB0
  have m2 : MapS w2 c n m := h.map.of_block (hG.block c h.map.lt (fun e => hO0.1.notMap ⟨es, clock, hmc⟩ e.symm))
  have b2 : Blk w2 b (.cells #[pv s, .int .i64 d.size] 76) := (hG.block b hB0.lt (own_neS hO0.1 hB0 (by decide))).trans hB0
  have look_of : ∀ y b', m y = some b' → ∃ d', look y = some d' := fun y b' hy => Option.isSome_iff_exists.1 (by rw [← h.dom y, hy]; rfl)
  have bne : ∀ y b', y ≠ s → m y = some b' → b ≠ b' := fun y b' hne hy e => hne (h.inj y s b (e ▸ hy) hb)
  have nb : ∀ g, v.ownBlock = some g → g ≠ b := fun g hg e => own_neS hown b2 (by decide) (by rw [hg, e])
  have oldlt : ∀ y d', look y = some d' → ∀ g, (pv y).ownBlock = some g → g < W.heap.size := fun y d' hy g hg => (h.own y d' hy).1.block_lt g hg
  refine ⟨(m2.setCell bc _).setCell bc _, fun y => ?_, fun y b' d' h1 h2 => ?_, fun y d' h1 => ?_, h.inj, fun y z hne h1 h2 => ?_, h.low, h.lowc⟩
  · unfold setL
    by_cases e : s = y
    · subst e; simp [hb]
    · rw [if_neg e]; exact h.dom y
  · unfold setL at h2
    by_cases e : s = y
    · subst e
      rw [if_pos rfl] at h2 ⊢
      obtain rfl : b = b' := by rw [hb] at h1; exact Option.some.inj h1
      obtain rfl : d ++ x = d' := Option.some.inj h2
      exact (b2.setAt (i := 0) v).setAt (i := 1) _
    · rw [if_neg e] at h2 ⊢
      have hh := h.blk y b' d' h1 h2
      have hb' := bne y b' (fun e' => e e'.symm) h1
      exact ((show Blk w2 b' _ from (hG.block b' hh.lt (own_neS hO0.1 hh (by decide))).trans hh).other hb' _).other hb' _
  · unfold setL at h1
    by_cases e : s = y
    · subst e
      rw [if_pos rfl] at h1
      simp only [if_true]
      obtain rfl : d ++ x = d' := Option.some.inj h1
      refine ⟨own_setOther (own_setOther hown nb _) nb _, ?_, ?_⟩
      · rw [List.map_append, List.flatten_append, hO0.2.1]
        simp [key, ByteArray.data_append]
      · rw [List.length_append]
        have := hO0.2.2
        simp
        omega
    · rw [if_neg e] at h1
      simp only [e, if_false]
      have ho := h.own y d' h1
      have ap := h.apart y s (fun e' => e e'.symm) (by rw [h1]; rfl) (by rw [hd]; rfl)
      have k2 : OwnS w2 B (pv y) (ps y) := ho.1.keptAny hG (fun g hg e' => by
        rcases ap with ap | ap
        · rw [ap] at hg; cases hg
        · exact ap (by rw [hg, e']))
      have n2 : ∀ g, (pv y).ownBlock = some g → g ≠ b := fun g hg e' => own_neS k2 b2 (by decide) (by rw [hg, e'])
      exact ⟨own_setOther (own_setOther k2 n2 _) n2 _, ho.2.1, by have := ho.2.2; omega⟩
  · unfold setL at h1 h2
    by_cases e1 : s = y
    · subst e1
      have e2 : ¬ s = z := hne
      rw [if_neg e2] at h2
      simp only [if_true, e2, if_false]
      obtain ⟨d', hd'⟩ := Option.isSome_iff_exists.1 h2
      rcases hv with hv | hv
      · rw [hv]
        exact h.apart s z hne (by rw [hd]; rfl) h2
      · refine .inr (fun e => ?_)
        rw [hv] at e
        have := oldlt z d' hd' _ e.symm
        omega
    · rw [if_neg e1] at h1
      simp only [e1, if_false]
      by_cases e2 : s = z
      · subst e2
        simp only [if_true]
        obtain ⟨d', hd'⟩ := Option.isSome_iff_exists.1 h1
        rcases hv with hv | hv
        · rw [hv]
          exact h.apart y s hne h1 (by rw [hd]; rfl)
        · cases hp : (pv y).ownBlock with
          | none => exact .inl rfl
          | some g =>
            refine .inr (fun e => ?_)
            rw [hv] at e
            have := oldlt y d' hd' g hp
            have e' : g = W.heap.size := Option.some.inj e
            omega
      · rw [if_neg e2] at h2
        simp only [e2, if_false]
        exact h.apart y z hne h1 h2
end Go.Proofs.Ytcchpeebhkiacaa
