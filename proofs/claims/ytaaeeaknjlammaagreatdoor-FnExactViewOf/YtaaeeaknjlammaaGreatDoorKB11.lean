/- What lies below an object: below answers the sorted numbers. -/
import Derived.Test.YtaaeeaknjlammaaGreatDoorZE
import Derived.Test.YtaaeeaknjlammaaGreatDoorV
import Derived.Sort.OwnSortedInts
namespace Go.Proofs.YtaaeeaknjlammaaGreatDoor
open Go Go.RowKit Go.Deep Go.Maps Go.Sort Go.Shelf

def sortL (l : List Int) : List Int := l.mergeSort (fun x y => decide (x ≤ y))
theorem sortL_len (l : List Int) : (sortL l).length = l.length := by simp [sortL]

theorem sort_own (B : Nat) (v : Value) (l : List Int) (w : World) (h : OwnI w B v l) (hl : l.length ≤ 100000) :
    Calls Tryz.prog 104 #[v] w fun e w' => e = .returned (.tuple #[]) ∧ OwnI w' B v (sortL l) ∧ w.grownBy w' v.ownBlock := by
  rcases h.2 with ⟨rfl, hn⟩ | ⟨g, cap, cur, rfl, hB, hb, h1, h2, h3, h4⟩
  · have e0 : l = [] := List.eq_nil_of_length_eq_zero hn
    subst e0
    refine (AnyM.slices_Sort_int_none Tryz.sortA none 0 w).mono ?_
    rintro e w' ⟨rfl, rfl⟩
    have e0 : sortL [] = [] := by simp [sortL]
    rw [e0]
    exact ⟨rfl, h, ⟨rfl, rfl, rfl, Nat.le_refl _, fun _ _ _ => rfl⟩⟩
  · have hlt : g < w.heap.size := (Array.getElem?_eq_some_iff.1 hb).1
    refine (AnyM.slices_Sort_int Tryz.sortA g 0 cap l w (holds_of_blockI hb (by simpa using h4)) hlt (by omega)).mono ?_
    rintro e w' ⟨rfl, n, os, rfl⟩
    refine ⟨rfl, ?_, grownBy_sortedI _⟩
    have := ownsRow_sortedI (n := n) (os := os) (ts := sortL l) (sortL_len l) hB hb h1 h2 h3
    unfold OwnI
    rw [sortL_len]
    exact this

theorem Walk.sorted {w0 w w' : World} {c : Nat} {v : Value} {l l' : List Int} (h : Walk w0 c w v l) (ho : OwnI w' (w0.heap.size + 1 + 1 + 1) v l') (hg : w.grownBy w' v.ownBlock) : Walk w0 c w' v l' := by
  have hne : ∀ k, k < w0.heap.size + 1 + 1 + 1 → some k ≠ v.ownBlock := fun k hk e => by have := (World.ownsRow.lt h.o k e.symm).1; omega
  exact ⟨h.b.trans (below_grown hg h.b.size (fun j hj => by have := (World.ownsRow.lt h.o j hj).1; omega)), h.q.grown hg (hne _ (by omega)), h.p.grown hg (hne _ (by omega)), h.r.grown hg (hne _ (by omega)), ho⟩
theorem OwnI.low {w : World} {B B' : Nat} {v : Value} {l : List Int} (h : OwnI w B v l) (hB : B' ≤ B) : OwnI w B' v l := by
  refine ⟨h.1, ?_⟩
  rcases h.2 with hn | ⟨g, cap, cur, hv, hb, rest⟩
  · exact .inl hn
  · exact .inr ⟨g, cap, cur, hv, by omega, rest⟩

set_option maxRecDepth 100000 in
set_option maxHeartbeats 4000000 in
theorem below_none (c n : Nat) (m : Int → Option Nat) (x : Int) (w : World) (hM : MapP w c n m) (hx : (Lit.int .i64 x).wf = true) (hm : m x = none) :
    Calls Tryz.prog 89 #[.map (some c), .int .i64 x] w fun e w' => e = .returned (.slice none 0 0) ∧ Below w.heap.size w w' := by
  have b1 : Below w.heap.size w (w.alloc (.cells #[.map (some c)] 69)) := (Below.refl _ w).alloc (Nat.le_refl _) _
  have LK := (hM.below b1).look hx
  rw [hm] at LK
  simp only [Option.map_none] at LK
  clear hM
  go_enter Tryz.func89, Tryz.ntmps89
  go_wp2
  go_ret
  exact ⟨rfl, b1⟩

set_option maxRecDepth 100000 in
set_option maxHeartbeats 4000000 in
theorem below_any (w : World) (B c n : Nat) (ids ups : Nat → Int) (ob off : Nat) (nb : Nat → Nat) (kv : Nat → Value) (hN : Nodes w B c n ids ob off nb kv (kidsTo ids ups n)) (hr : Rises ids n) (h0 : ∀ j, j < n → ids j ≠ ups 0)
    (hw : ∀ i, i < n → (Lit.int .i64 (ids i)).wf = true) (hn : n ≤ 271) (i : Nat) (hi : i < n) (hc : NoCyc ids ups n i) :
    Calls Tryz.prog 89 #[.map (some c), .int .i64 (ids i)] w fun e w' => ∃ v, e = .returned v ∧ OwnI w' w.heap.size v (sortL ((preI ids ups n n i).map ids)) ∧ Below w.heap.size w w' := by
  have hst := fun (W : World) (a : Addr) (x y : Array Value) (m : Mode) => run_store Tryz.prog W a (.func (.func 103) x y) m rfl
  have b1 : Below w.heap.size w (w.alloc (.cells #[.map (some c)] 69)) := (Below.refl _ w).alloc (Nat.le_refl _) _
  have LK := (hN.map.below b1).look (hw i hi)
  rw [findI_eq hr hi] at LK
  simp only [Option.map_some] at LK
  have hlen : (preI ids ups n n i).length ≤ n := nodup_len (nodup_pre hr h0 hi hc) (fun x hx => ((mem_pre hr h0 hi).1 hx).1)
  have W0 : Walk w c (((w.alloc (.cells #[.map (some c)] 69)).alloc (.cells #[.slice none 0 0] 52)).alloc (.cells #[walkFn w.heap.size] 156)) (.slice none 0 0) [] := by
    refine ⟨?_, ?_, ?_, ?_, OwnI.nil _ _⟩
    · exact (b1.alloc b1.size _).alloc (b1.alloc b1.size _).size _
    · exact ((Blk.new w _).alloc _).alloc _
    · have := (Blk.new (w.alloc (.cells #[.map (some c)] 69)) (.cells #[.slice none 0 0] 52)).alloc (.cells #[walkFn w.heap.size] 156)
      simpa using this
    · have := Blk.new ((w.alloc (.cells #[.map (some c)] 69)).alloc (.cells #[.slice none 0 0] 52)) (.cells #[walkFn w.heap.size] 156)
      simpa using this
  have C1 := hid (walk_any w B c n ids ups ob off nb kv hN hr h0 hw hn n i [] (.slice none 0 0) _ hi (fun j m hj e => height hc hj e) (by simp; omega) W0)
  unfold walkFn at C1
  simp only [List.nil_append] at C1
  clear W0 hN h0 hw hr
  go_enter Tryz.func89, Tryz.ntmps89
  go_wp2_with fail
  refine C1.out.mono ?_
  rintro e w2 ⟨v2, rfl, h2⟩
  have H2 := hid h2
  have x1 : _ = some v2 := h2.p.c0 0 rfl
  have C2 := hid (sort_own _ v2 _ w2 h2.o (by rw [List.length_map]; omega))
  clear h2 C1 LK
  go_wp2_with fail
  refine C2.out.mono ?_
  rintro e w3 ⟨rfl, o3, g3⟩
  have H3 := hid (H2.out.sorted o3 g3)
  have x3 : _ = some v2 := H3.out.p.c0 0 rfl
  clear o3 g3 x1 C2 H2
  go_wp2
  go_ret
  exact ⟨v2, rfl, H3.out.o.low (by omega), H3.out.b⟩
end Go.Proofs.YtaaeeaknjlammaaGreatDoor
