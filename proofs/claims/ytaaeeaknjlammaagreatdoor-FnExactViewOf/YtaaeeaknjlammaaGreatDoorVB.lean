/- A view before an eye: viewing makes it. -/
import Derived.Test.YtaaeeaknjlammaaGreatDoorVA
import Derived.Test.YtaaeeaknjlammaaGreatDoorGW
import Derived.Test.YtaaeeaknjlammaaGreatDoorKN0
namespace Go.Proofs.YtaaeeaknjlammaaGreatDoor
open Go Go.RowKit Go.Deep Go.Maps Go.BigFrame Go.Shelf

theorem Nodes.over {w w' : World} {B c n : Nat} {ids : Nat → Int} {ob off : Nat} {nb : Nat → Nat} {kv : Nat → Value} {K : Nat → List Int} (h : Nodes w B c n ids ob off nb kv K) (hb : ∀ g, B ≤ g → g < w.heap.size → w'.heap[g]? = w.heap[g]?) : Nodes w' B c n ids ob off nb kv K :=
  ⟨h.map.of_block (hb c h.lowc h.map.lt), fun i hi => (hb _ (h.low i hi) (h.blk i hi).lt).trans (h.blk i hi), h.inj, fun i hi => (h.own i hi).of_block (fun g hg => hb g (World.ownsRow.lt (h.own i hi) g hg).1 (World.ownsRow.lt (h.own i hi) g hg).2), h.apart, h.low, h.lowc⟩
theorem Nodes.lower {w : World} {B B' c n : Nat} {ids : Nat → Int} {ob off : Nat} {nb : Nat → Nat} {kv : Nat → Value} {K : Nat → List Int} (h : Nodes w B c n ids ob off nb kv K) (hB : B' ≤ B) : Nodes w B' c n ids ob off nb kv K :=
  ⟨h.map, h.blk, h.inj, fun i hi => (h.own i hi).low hB, h.apart, fun i hi => Nat.le_trans hB (h.low i hi), Nat.le_trans hB h.lowc⟩
theorem Blk.five {W : World} {P t : Nat} {x0 x1 x2 x3 x4 : Value} (h : Blk W P (.cells #[x0, x1, x2, x3, x4] t)) : W.cell? ⟨P, 0, none⟩ = some x0 ∧ W.cell? ⟨P, 1, none⟩ = some x1 ∧ W.cell? ⟨P, 2, none⟩ = some x2 ∧ W.cell? ⟨P, 3, none⟩ = some x3 ∧ W.cell? ⟨P, 4, none⟩ = some x4 := by
  unfold Blk at h
  simp [World.cell?, h]
theorem Blk.all5 {W : World} {P t : Nat} {z0 z1 z2 z3 z4 : Value} (h : Blk W P (.cells #[z0, z1, z2, z3, z4] t)) (x0 x1 x2 x3 x4 : Value) :
    Blk (((((W.setCell ⟨P, 0, none⟩ x0).setCell ⟨P, 1, none⟩ x1).setCell ⟨P, 2, none⟩ x2).setCell ⟨P, 3, none⟩ x3).setCell ⟨P, 4, none⟩ x4) P (.cells #[x0, x1, x2, x3, x4] t) := by
  have h1 : Blk (W.setCell ⟨P, 0, none⟩ x0) P (.cells #[x0, z1, z2, z3, z4] t) := h.setAt x0
  have h2 : Blk _ P (.cells #[x0, x1, z2, z3, z4] t) := h1.setAt (i := 1) x1
  have h3 : Blk _ P (.cells #[x0, x1, x2, z3, z4] t) := h2.setAt (i := 2) x2
  have h4 : Blk _ P (.cells #[x0, x1, x2, x3, z4] t) := h3.setAt (i := 3) x3
  exact h4.setAt (i := 4) x4
theorem resultsV (tmps : Array Value) (W : World) (P : Nat) (x0 x1 x2 x3 x4 : Value) (h : Blk W P (.cells #[x0, x1, x2, x3, x4] 73)) (h2 : tmps[4]? = some (.pointer (some ⟨P, 0, none⟩))) :
    (results Tryz.f30 tmps).run Tryz.prog W = .ok (.agg #[x0, x1, x2, x3, x4]) W := by
  obtain ⟨z0, z1, z2, z3, z4⟩ := h.five
  simp [results, Tryz.results30, go_sem, h2, z0, z1, z2, z3, z4]

def viewV (k : KerV) (b : Int) (c : CatL) (m : Nat) : Value := .agg #[.int .i64 b, c.val, .slice k.ta k.tn k.tk, .slice k.oa k.on k.ok, .map (some m)]
/-- the nodes of a view -/
def NodesK (w : World) (B : Nat) (k : KerV) (m : Nat) (nb : Nat → Nat) (kv : Nat → Value) : Prop :=
  ∃ ob off, k.oa = some ⟨ob, off, none⟩ ∧ Nodes w B m k.on (fun i => (k.O i).id) ob off nb kv (kidsTo (fun i => (k.O i).id) (fun i => (k.O i).up) k.on)
theorem NodesK.below {w w' : World} {B : Nat} {k : KerV} {m : Nat} {nb : Nat → Nat} {kv : Nat → Value} (h : NodesK w B k m nb kv) (hb : Below w.heap.size w w') : NodesK w' B k m nb kv := by
  obtain ⟨ob, off, e, hn⟩ := h
  exact ⟨ob, off, e, hn.below hb⟩

set_option maxRecDepth 100000 in
set_option maxHeartbeats 8000000 in
theorem viewing_any (k : KerV) (b : Int) (c : CatL) (w : World) (hk : k.at w) (ok : kerOk k = true) (hw : k.wfs) :
    Calls Tryz.prog 30 #[k.val, .agg #[.int .i64 b, c.val]] w fun e w' => ∃ m nb kv, e = .returned (viewV k b c m) ∧ NodesK w' w.heap.size k m nb kv ∧ Below w.heap.size w w' := by
  have ho := kerOk_objs ok
  obtain ⟨on1, on2, _, _⟩ := objsOk_out ho
  obtain ⟨ob, off, eoa, _, _⟩ := hk.2.2.2 (by omega)
  have EG : ∀ args w, (callFunc 56 args).run Tryz.prog w = .ok (.enter 56 args) w := enters_of Tryz.func56 (by kernel_rfl) rfl
  have b0 : Below w.heap.size w (((w.alloc (.cells #[.slice k.ta k.tn k.tk, .slice k.oa k.on k.ok] 35)).alloc (.cells #[.int .i64 b, .slice c.a c.n c.k] 39)).alloc (.cells #[.int .i64 0, .slice none 0 0, .slice none 0 0, .slice none 0 0, .map none] 73)) := (((Below.refl _ w).alloc (Nat.le_refl _) _).alloc (by simp) _).alloc (by simp; omega) _
  have A0 := ((Blk.new w (.cells #[.slice k.ta k.tn k.tk, .slice k.oa k.on k.ok] 35)).alloc (.cells #[.int .i64 b, .slice c.a c.n c.k] 39)).alloc (.cells #[.int .i64 0, .slice none 0 0, .slice none 0 0, .slice none 0 0, .map none] 73)
  have L0 := (Blk.new (w.alloc (.cells #[.slice k.ta k.tn k.tk, .slice k.oa k.on k.ok] 35)) (.cells #[.int .i64 b, .slice c.a c.n c.k] 39)).alloc (.cells #[.int .i64 0, .slice none 0 0, .slice none 0 0, .slice none 0 0, .map none] 73)
  have R0 := Blk.new ((w.alloc (.cells #[.slice k.ta k.tn k.tk, .slice k.oa k.on k.ok] 35)).alloc (.cells #[.int .i64 b, .slice c.a c.n c.k] 39)) (.cells #[.int .i64 0, .slice none 0 0, .slice none 0 0, .slice none 0 0, .map none] 73)
  simp only [World.size_alloc] at L0 R0
  have T0 := hid (hk.below b0).2.2.2
  have RI := hid (objsOk_rises ho)
  have HW := hid hw
  unfold KerV.val CatL.val
  rw [eoa] at b0 A0 L0 R0 T0 ⊢
  clear hk hw ok ho on1
  go_enter Tryz.func30, Tryz.ntmps30
  go_wp2
  generalize hV : (((w.alloc (.cells #[.slice k.ta k.tn k.tk, .slice (some ⟨ob, off, none⟩) k.on k.ok] 35)).alloc (.cells #[.int .i64 b, .slice c.a c.n c.k] 39)).alloc (.cells #[.int .i64 0, .slice none 0 0, .slice none 0 0, .slice none 0 0, .map none] 73)) = V at *
  have B0 := hid b0
  have HA : Hid (∀ W, Below V.heap.size V W → Blk W w.heap.size (.cells #[.slice k.ta k.tn k.tk, .slice (some ⟨ob, off, none⟩) k.on k.ok] 35)) := hid (fun W h => A0.below h)
  have HL : Hid (∀ W, Below V.heap.size V W → Blk W (w.heap.size + 1) (.cells #[.int .i64 b, .slice c.a c.n c.k] 39)) := hid (fun W h => L0.below h)
  have HR := hid R0
  have PN : Hid (∀ W, Below V.heap.size V W → Calls Tryz.prog 56 #[.slice (some ⟨ob, off, none⟩) k.on k.ok] W fun e w' => ∃ v, e = .returned v ∧ ∃ m nb kv, v = .map (some m) ∧ Nodes w' W.heap.size m k.on (fun i => (k.O i).id) ob off nb kv (kidsTo (fun i => (k.O i).id) (fun i => (k.O i).up) k.on) ∧ Below W.heap.size W w') := hid (fun W hW => (nodesOf_any ob off k.on k.ok k.O W on2 (T0.out.below hW) RI.out HW.out).mono fun e w' ⟨m, nb, kv, h1, h2, h3⟩ => ⟨_, h1, m, nb, kv, rfl, h2, h3⟩)
  have V0 : Below V.heap.size V V.drew := (Below.refl _ V).drew
  have EOA := hid eoa
  clear hV b0 A0 L0 R0 eoa T0 RI HW
  refine wp_region_G 8 (fun W => Below V.heap.size V W) (by kernel_rfl) ?_
  refine wpAnyG_takeD (i := 0) (d := 5) (.agg #[.int .i64 b, .slice c.a c.n c.k]) rfl rfl (by kernel_rfl) (by kernel_rfl) (by kernel_rfl) (by kernel_rfl) (by kernel_rfl) (by kernel_rfl) (fun _ _ _ h => h) (Or.inl ⟨by rfl, fun W h => by obtain ⟨q0, q1⟩ := (HL.out W h).two; go_simp⟩) V0 ?_
  simp only [Act.put, List.setIfInBounds_toArray, List.set_cons_zero, List.set_cons_succ]
  refine wpAnyG_takeD (i := 1) (d := 6) (.agg #[.int .i64 b, .slice c.a c.n c.k]) rfl rfl (by kernel_rfl) (by kernel_rfl) (by kernel_rfl) (by kernel_rfl) (by kernel_rfl) (by kernel_rfl) (fun _ _ _ h => h) (Or.inl ⟨by rfl, fun W h => by go_simp⟩) V0 ?_
  simp only [Act.put, List.setIfInBounds_toArray, List.set_cons_zero, List.set_cons_succ]
  refine wpAnyG_takeD (i := 2) (d := 7) (.agg #[.slice k.ta k.tn k.tk, .slice (some ⟨ob, off, none⟩) k.on k.ok]) rfl rfl (by kernel_rfl) (by kernel_rfl) (by kernel_rfl) (by kernel_rfl) (by kernel_rfl) (by kernel_rfl) (fun _ _ _ h => h) (Or.inl ⟨by rfl, fun W h => by obtain ⟨q0, q1⟩ := (HA.out W h).two; go_simp⟩) V0 ?_
  simp only [Act.put, List.setIfInBounds_toArray, List.set_cons_zero, List.set_cons_succ]
  refine wpAnyG_takeD (i := 3) (d := 8) (.pointer (some ⟨w.heap.size, 1, none⟩)) rfl rfl (by kernel_rfl) (by kernel_rfl) (by kernel_rfl) (by kernel_rfl) (by kernel_rfl) (by kernel_rfl) (fun _ _ _ h => h) (Or.inl ⟨by rfl, fun W h => by go_simp⟩) V0 ?_
  simp only [Act.put, List.setIfInBounds_toArray, List.set_cons_zero, List.set_cons_succ]
  refine wpAnyG_takeD (i := 4) (d := 9) (.slice (some ⟨ob, off, none⟩) k.on k.ok) rfl rfl (by kernel_rfl) (by kernel_rfl) (by kernel_rfl) (by kernel_rfl) (by kernel_rfl) (by kernel_rfl) (fun _ _ _ h => h) (Or.inl ⟨by rfl, fun W h => by obtain ⟨q0, q1⟩ := (HA.out W h).two; go_simp⟩) V0 ?_
  simp only [Act.put, List.setIfInBounds_toArray, List.set_cons_zero, List.set_cons_succ]
  refine wpAnyG_one (i := 5) (by kernel_rfl) rfl ?_
  intro K hK
  refine step_call1g (by rfl) 56 _ _ (by rfl) EG _ (by rfl) (some 10) (by rfl) _ (PN.out _ V0) ?_
  rintro v w1 ⟨m, nb, kv, rfl, n1, h1⟩
  have V1 := then_ V0 h1
  refine hK.out _ _ (fun _ => V1) ?_
  clear hK K
  simp only [Act.put, List.setIfInBounds_toArray, List.set_cons_zero, List.set_cons_succ]
  refine wpAnyG_takeD (i := 6) (d := 11) (.agg #[.slice k.ta k.tn k.tk, .slice (some ⟨ob, off, none⟩) k.on k.ok, .map (some m)]) rfl rfl (by kernel_rfl) (by kernel_rfl) (by kernel_rfl) (by kernel_rfl) (by kernel_rfl) (by kernel_rfl) (fun _ _ _ h => h) (Or.inl ⟨by rfl, fun W h => by go_simp⟩) V1 ?_
  simp only [Act.put, List.setIfInBounds_toArray, List.set_cons_zero, List.set_cons_succ]
  refine wpAnyG_takeD (i := 7) (d := 12) (.agg #[.int .i64 b, .slice c.a c.n c.k, .slice k.ta k.tn k.tk, .slice (some ⟨ob, off, none⟩) k.on k.ok, .map (some m)]) rfl rfl (by kernel_rfl) (by kernel_rfl) (by kernel_rfl) (by kernel_rfl) (by kernel_rfl) (by kernel_rfl) (fun _ _ _ h => h) (Or.inl ⟨by rfl, fun W h => by go_simp⟩) V1 ?_
  simp only [Act.put, List.setIfInBounds_toArray, List.set_cons_zero, List.set_cons_succ]
  have R1 := HR.out.below V1
  obtain ⟨r0, r1, r2, r3, r4⟩ := R1.five
  have rf := R1.warm
  refine wpAnyG_one (i := 8) (by kernel_rfl) rfl ?_
  intro K hK
  go_simp
  refine hK.out _ _ (fun h => absurd h (by decide)) ?_
  clear hK K
  refine wpAnyG_done (by kernel_rfl) ?_ _
  have N1 := hid n1
  have R1' := hid R1
  have B1 := hid (then_ B0.out V1)
  have lt1 : w.heap.size + 2 < V.heap.size := HR.out.lt
  have sz1 : V.heap.size ≤ V.drew.heap.size := V0.size
  clear n1 r0 r1 r2 r3 r4 rf R1 V1 h1 PN HA HL HR EG
  go_wp2
  refine bodyPost_ret (resultsV _ _ (w.heap.size + 1 + 1) _ _ _ _ _ (Blk.all5 R1'.out _ _ _ _ _) rfl) rfl ⟨m, nb, kv, ?_, ⟨ob, off, EOA.out, ?_⟩, ?_⟩
  · unfold viewV CatL.val
    rw [EOA.out]
  · refine (N1.out.over fun g hg _ => ?_).lower (by have := B0.out.size; omega)
    iterate 5 rw [blk_setCell_other _ _ _ _ (by dsimp only; omega)]
  · iterate 5 refine Below.setCell ?_ (by dsimp only; omega) _
    exact B1.out
end Go.Proofs.YtaaeeaknjlammaaGreatDoor
