/- KernelOk of the program answers the plain function kerOk. -/
import Derived.Test.YtaaeeaknjlammaaGreatDoorKB12
namespace Go.Proofs.YtaaeeaknjlammaaGreatDoor
open Go Go.RowKit Go.Deep Go.Maps

set_option maxRecDepth 100000 in
set_option maxHeartbeats 4000000 in
theorem implKer_any (k : KerV) (w : World) (hk : k.at w) (hcap : k.on ≤ k.ok) (hw : ∀ i, i < k.on → (Lit.int .i64 (k.O i).id).wf = true ∧ (Lit.int .i64 (k.O i).up).wf = true) :
    Calls Tryz.prog 42 #[k.val] w fun e w' => e = .returned (.bool (kerOk k)) ∧ Below w.heap.size w w' := by
  have hb0 := (Below.refl _ w).alloc (Nat.le_refl _) (.cells #[.slice k.ta k.tn k.tk, .slice k.oa k.on k.ok] 35)
  have A0 := Blk.new w (.cells #[.slice k.ta k.tn k.tk, .slice k.oa k.on k.ok] 35)
  have T0 := hid (hk.below hb0)
  have HW := hid hw
  have HC := hid hcap
  unfold KerV.val
  obtain ⟨x0, x1⟩ := A0.two
  clear hk hw hcap
  go_enter Tryz.func42, Tryz.ntmps42
  go_wp2_with fail
  refine (threadsOk_any _ _ _ k.T _ T0.out.1 T0.out.2.2.1).mono ?_
  rintro e w1 ⟨rfl, hb1⟩
  have A1 := A0.below hb1
  have T1 := hid (T0.out.below hb1)
  have B1 := then_ hb0 hb1
  clear x0 x1 A0 T0 hb0 hb1
  obtain ⟨x0, x1⟩ := A1.two
  cases t1 : thrsOk k.tn k.T with
  | false =>
    go_wp2
    go_ret
    exact ⟨ret_bool (kerOk_thr t1).symm, B1⟩
  | true =>
  go_wp2_with fail
  refine (objectsOk_any _ _ _ k.O _ T1.out.2.1 T1.out.2.2.2).mono ?_
  rintro e w2 ⟨rfl, hb2⟩
  have A2 := A1.below hb2
  have T2 := hid (T1.out.below hb2)
  have B2 := then_ B1 hb2
  clear x0 x1 A1 T1 B1 hb2
  obtain ⟨x0, x1⟩ := A2.two
  cases t2 : objsOk k.on k.O with
  | false =>
    go_wp2
    go_ret
    exact ⟨ret_bool (by simp [kerOk, t2]), B2⟩
  | true =>
  have C3 := hid (numbersOk_any k w2 T2.out HC.out t1 t2 (fun i hi => (HW.out i hi).1))
  unfold KerV.val at C3
  go_wp2_with fail
  refine C3.out.mono ?_
  rintro e w3 ⟨rfl, hb3⟩
  have A3 := A2.below hb3
  have T3 := hid (T2.out.below hb3)
  have B3 := then_ B2 hb3
  clear x0 x1 A2 T2 B2 hb3 C3
  obtain ⟨x0, x1⟩ := A3.two
  cases t3 : numsOk k.tn k.T k.on k.O with
  | false =>
    go_wp2
    go_ret
    exact ⟨ret_bool (by simp [kerOk, t3]), B3⟩
  | true =>
  have C4 := hid (boxesOk_any k.oa k.on k.ok k.O w3 HC.out T3.out.2.2.2 t2 HW.out)
  have OK : Hid (kerOk k = (upsOk k.on k.O && reachB (fun i => (k.O i).id) (fun i => (k.O i).up) k.on)) := hid (by simp [kerOk, t1, t2, t3])
  clear t1 t2 t3
  go_wp2_with fail
  refine C4.out.mono ?_
  rintro e w4 ⟨rfl, hb4⟩
  have B4 := then_ B3 hb4
  rw [← OK.out]
  clear x0 x1 A3 T3 B3 hb4 C4
  go_wp2
  go_ret
  exact ⟨rfl, B4⟩
end Go.Proofs.YtaaeeaknjlammaaGreatDoor
