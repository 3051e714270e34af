/- What lies below: the closure that walks down. -/
import Derived.Test.YtonpoakimpoojaaKB7
namespace Go.Proofs.Ytonpoakimpoojaa
open Go Go.RowKit Go.Deep Go.Maps

def walkFn (N : Nat) : Value := .func (.func 83) #[] #[.pointer (some ⟨N + 1, 0, none⟩), .pointer (some ⟨N, 0, none⟩), .pointer (some ⟨N + 1 + 1, 0, none⟩)]
/-- on the way down: what was found -/
structure Walk (w0 : World) (c : Nat) (w : World) (v : Value) (l : List Int) : Prop where
  b : Below w0.heap.size w0 w
  q : Blk w w0.heap.size (.cells #[.map (some c)] 71)
  p : Blk w (w0.heap.size + 1) (.cells #[v] 39)
  r : Blk w (w0.heap.size + 1 + 1) (.cells #[walkFn w0.heap.size] 108)
  o : OwnI w (w0.heap.size + 1 + 1 + 1) v l

theorem Blk.grown {w w' : World} {P : Nat} {o : Obj} {row : Option Nat} (h : Blk w P o) (hg : w.grownBy w' row) (hne : some P ≠ row) : Blk w' P o := (hg.block P h.lt hne).trans h
theorem Walk.push {w0 w w' : World} {c : Nat} {v v' : Value} {l : List Int} {x : Int} (h : Walk w0 c w v l) (ho : OwnI w' (w0.heap.size + 1 + 1 + 1) v' (l ++ [x])) (hg : (w.alloc (.cells #[.int .i64 x] 2)).grownBy w' v.ownBlock) :
    Walk w0 c (w'.setCell ⟨w0.heap.size + 1, 0, none⟩ v') v' (l ++ [x]) := by
  have b1 : Below w.heap.size w (w.alloc (.cells #[.int .i64 x] 2)) := (Below.refl _ w).alloc (Nat.le_refl _) _
  have hne : ∀ k, k < w0.heap.size + 1 + 1 + 1 → some k ≠ v.ownBlock := fun k hk e => by have := (World.ownsRow.lt h.o k e.symm).1; omega
  have p1 := (h.p.below b1).grown hg (hne _ (by omega))
  have q1 := (h.q.below b1).grown hg (hne _ (by omega))
  have r1 := (h.r.below b1).grown hg (hne _ (by omega))
  refine ⟨?_, q1.other (by omega) _, ?_, r1.other (by omega) _, ?_⟩
  · exact ((h.b.trans (b1.mono h.b.size)).trans (below_grown hg (by have := h.q.lt; simp; omega) (fun j hj => by have := (World.ownsRow.lt h.o j hj).1; omega))).setCell (by dsimp only; omega) _
  · simpa using p1.setAt (i := 0) v'
  · exact World.ownsRow.kept ho (row := some (w0.heap.size + 1)) ⟨rfl, rfl, rfl, by rw [nblk_setCell]; exact Nat.le_refl _, fun j hj hne => blk_setCell_other _ _ _ _ (by dsimp only; intro e; exact hne (by rw [e]))⟩ (.inr (fun e => by have := (World.ownsRow.lt ho _ e).1; omega))

theorem kidsTo_map (ids ups : Nat → Int) (n i : Nat) : kidsTo ids ups n i = (kidsI ids ups n i).map ids := rfl
theorem flat_len (l : List Nat) (f : Nat → List Nat) (j : Nat) (hj : j < l.length) : ((l.take j).flatMap f).length + (f l[j]).length ≤ (l.flatMap f).length := by
  have e : l = l.take j ++ (l[j] :: l.drop (j + 1)) := by simp
  have : l.flatMap f = (l.take j).flatMap f ++ (f l[j] ++ (l.drop (j + 1)).flatMap f) := by
    conv => lhs; rw [e]
    rw [List.flatMap_append, List.flatMap_cons]
  rw [this, List.length_append, List.length_append]
  omega

set_option maxRecDepth 100000 in
set_option maxHeartbeats 4000000 in
theorem walk_any (w0 : World) (B c n : Nat) (ids ups : Nat → Int) (ob off : Nat) (nb : Nat → Nat) (kv : Nat → Value) (hN : Nodes w0 B c n ids ob off nb kv (kidsTo ids ups n)) (hr : Rises ids n) (h0 : ∀ j, j < n → ids j ≠ ups 0)
    (hw : ∀ i, i < n → (Lit.int .i64 (ids i)).wf = true) (hn : n ≤ 271) (f : Nat) :
    ∀ (i : Nat) (l : List Int) (v : Value) (w : World), i < n → (∀ j m, j < n → parIt ids ups n m j = some i → m < f) → l.length + (preI ids ups n f i).length ≤ 271 → Walk w0 c w v l →
      Calls Try.prog 83 #[.int .i64 (ids i), .pointer (some ⟨w0.heap.size + 1, 0, none⟩), .pointer (some ⟨w0.heap.size, 0, none⟩), .pointer (some ⟨w0.heap.size + 1 + 1, 0, none⟩)] w fun e w' =>
        ∃ v', e = .returned (.tuple #[]) ∧ Walk w0 c w' v' (l ++ (preI ids ups n f i).map ids) := by
  have HN := hid hN
  have HR := hid hr
  have H0 := hid h0
  have HW := hid hw
  clear hN hr h0 hw
  induction f with
  | zero => intro i l v w hi hh; exact absurd (hh i 0 hi rfl) (by omega)
  | succ f ih =>
    intro i l v w hi hh hl hk
    have IH := hid ih
    have HH := hid hh
    have HK := hid hk
    have hlen : l.length + 1 ≤ 271 := by simp [preI] at hl; omega
    have HL := hid hl
    clear ih hh hk hl
    have x1 : _ = some v := HK.out.p.c0 0 rfl
    have L1 := hid (NumL.one (w := w) (ids i))
    have b1 : Below w.heap.size w (w.alloc (.cells #[.int .i64 (ids i)] 2)) := (Below.refl _ w).alloc (Nat.le_refl _) _
    have O1 : Hid (OwnI (w.alloc (.cells #[.int .i64 (ids i)] 2)) (w0.heap.size + 1 + 1 + 1) v l) := hid (OwnI.alloc HK.out.o _)
    have hs := HK.out.r.lt
    have s1 : w0.heap.size + 1 + 1 + 1 ≤ (w.alloc (.cells #[.int .i64 (ids i)] 2)).heap.size := by simp; omega
    have P1 : Hid (∀ w' : World, (w.alloc (.cells #[.int .i64 (ids i)] 2)).grownBy w' v.ownBlock → Blk w' (w0.heap.size + 1) (.cells #[v] 39)) := hid (fun w' hg => (HK.out.p.below b1).grown hg (fun e => by have := (World.ownsRow.lt HK.out.o _ e.symm).1; omega))
    clear b1
    obtain ⟨ka, kc, hkv⟩ := ownsRow_shape (HN.out.own i hi)
    have KV := hid hkv
    clear hkv
    have D3 : Hid (∀ (a3 : Option Addr) (c3 : Nat) (w3 : World), OwnI w3 (w0.heap.size + 1 + 1 + 1) (.slice a3 (l ++ [ids i]).length c3) (l ++ [ids i]) → (w.alloc (.cells #[.int .i64 (ids i)] 2)).grownBy w3 v.ownBlock →
        Walk w0 c (w3.setCell ⟨w0.heap.size + 1, 0, none⟩ (.slice a3 (l.length + 1) c3)) (.slice a3 (l.length + 1) c3) (l ++ [ids i])) := hid (fun a3 c3 w3 o3 g3 => HK.out.push (by simpa using o3) g3)
    have E3 : Hid (∀ (W : World) (v' : Value) (l' : List Int), Walk w0 c W v' l' → W.cell? ⟨w0.heap.size, 0, none⟩ = some (.map (some c)) ∧ (Instr.lookup 71 (.map (some c)) (.int .i64 (ids i)) false).run Try.prog W = .ok (.pointer (some ⟨nb i, 0, none⟩)) W ∧ W.cell? ⟨nb i, 1, none⟩ = some (.slice ka (kidsTo ids ups n i).length kc)) := hid (fun W v' l' hk => by
      have N2 := HN.out.below hk.b
      have LK := N2.map.look (HW.out i hi)
      rw [findI_eq HR.out hi] at LK
      exact ⟨hk.q.c0 0 rfl, LK, by rw [← KV.out]; exact (N2.blk i hi).c0 1 rfl⟩)
    have hm : (kidsTo ids ups n i).length ≤ 271 := by have := kidsTo_len ids ups n i; omega
    go_enter Try.func83, Try.ntmps83
    go_wp2_with (refine wpList_append_ints _ rfl _ _ rfl (w0.heap.size + 1 + 1 + 1) v l rfl O1.out _ 1 1 [ids i] rfl rfl L1.out (by omega) s1 ?_; intro a3 c3 w3 o3 g3 v3; have p3 := P1.out w3 g3; have z1 : _ = some v := p3.c0 0 rfl; have z2 := p3.warm 0; have K2 := hid (D3.out a3 c3 w3 o3 g3); obtain ⟨y0, LK, y1⟩ := E3.out _ _ _ K2.out; clear o3 g3 v3 p3)
    clear z1 z2 y0 LK y1 x1 L1 O1 P1 D3 E3 HK s1
    generalize w3.setCell ⟨w0.heap.size + 1, 0, none⟩ (.slice a3 (l.length + 1) c3) = W at *
    generalize Value.slice a3 (l.length + 1) c3 = v2 at *
    clear hs
    have hml : (kidsTo ids ups n i).length = (kidsI ids ups n i).length := by rw [kidsTo_map, List.length_map]
    have HML := hid hml
    clear hml
    go_loopw [18] (fun t wr => ∃ (j : Nat) (v' : Value), j ≤ (kidsTo ids ups n i).length ∧ t = .int .i64 j ∧ Hid (Walk w0 c wr v' (l ++ [ids i] ++ (((kidsI ids ups n i).take j).flatMap (preI ids ups n f)).map ids))) (fun t _ => (kidsTo ids ups n i).length - (intOf t).toNat)
    case atStart => exact ⟨0, v2, Nat.zero_le _, rfl, hid (by simpa using K2.out)⟩
    case round =>
      obtain ⟨j, v', hj, rfl, HWk⟩ := hrel
      clear K2
      by_cases hlt : j < (kidsTo ids ups n i).length
      · have i1 : (j : Int) < ((kidsTo ids ups n i).length : Int) := by omega
        have i0 : (0 : Int) ≤ (j : Int) := by omega
        have hj2 : j < (kidsI ids ups n i).length := by have := HML.out; omega
        have ow := (HN.out.below HWk.out.b).own i hi
        rw [KV.out] at ow
        obtain ⟨b, o, rfl, _, hcc⟩ := OwnI.lies ow (by omega)
        have g1 : wr.cell? ⟨b, o + j, none⟩ = some (.int .i64 (ids (kidsI ids ups n i)[j])) := hcc j _ (by simp [kidsTo_map, hj2])
        have r1 : wr.cell? ⟨w0.heap.size + 1 + 1, 0, none⟩ = some (walkFn w0.heap.size) := HWk.out.r.c0 0 rfl
        unfold walkFn at r1
        obtain ⟨k1, k2⟩ := (mem_kids HR.out H0.out hi).1 (List.getElem_mem hj2)
        have CK := hid (IH.out (kidsI ids ups n i)[j] _ v' wr k1 (fun a m ha e => by
            have := HH.out a (m + 1) ha (by rw [parIt_succ', e]; exact k2)
            omega) (by
            have h1 := HL.out
            have h2 := flat_len (kidsI ids ups n i) (preI ids ups n f) j hj2
            simp only [preI, List.length_cons] at h1
            simp only [List.length_append, List.length_map, List.length_cons, List.length_nil]
            omega) HWk.out)
        have EX : Hid (l ++ [ids i] ++ (((kidsI ids ups n i).take j).flatMap (preI ids ups n f)).map ids ++ (preI ids ups n f (kidsI ids ups n i)[j]).map ids = l ++ [ids i] ++ (((kidsI ids ups n i).take (j + 1)).flatMap (preI ids ups n f)).map ids) := hid (by
          rw [List.take_succ_eq_append_getElem hj2, List.flatMap_append, List.map_append]
          simp)
        generalize ids (kidsI ids ups n i)[j] = y at *
        clear hcc ow k1 k2
        go_wp2_with (go_at_call 83; refine CK.out.mono ?_; rintro e w4 ⟨v4, rfl, h4⟩; have H4 := hid h4; clear h4)
        have H5 := H4.out
        rw [EX.out] at H5
        exact ⟨⟨j + 1, v4, by omega, by go_num, hid H5⟩, by simp [intOf]; omega⟩
      · have e : j = (kidsI ids ups n i).length := by have := HML.out; omega
        have i1 : ¬ (j : Int) < ((kidsTo ids ups n i).length : Int) := by omega
        have H5 := HWk.out
        rw [e, List.take_length] at H5
        have H6 : Hid (Walk w0 c wr v' (l ++ (preI ids ups n (f + 1) i).map ids)) := hid (by simpa [preI] using H5)
        clear H5 e HWk
        go_wp2
        exact bodyPost_end (v := .tuple #[]) (by simp [results, Try.results83, go_sem]) rfl ⟨rfl, _, H6.out⟩
end Go.Proofs.Ytonpoakimpoojaa
