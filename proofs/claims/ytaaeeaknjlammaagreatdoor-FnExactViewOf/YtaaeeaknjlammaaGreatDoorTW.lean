/- FnExactKernelText: the walk: the law answers true at every kernel that came in, and writes nothing that was there. -/
import Derived.Test.YtaaeeaknjlammaaGreatDoorTT
import Derived.Test.YtaaeeaknjlammaaGreatDoorTI4
import Derived.Test.YtaaeeaknjlammaaGreatDoorZB
namespace Go.Proofs.YtaaeeaknjlammaaGreatDoor
open Go Go.RowKit Go.Deep Go.Maps

theorem lb_same {b : Int} {c d : CatL} (h : c.same d) : lb b d = lb b c := by
  unfold lb
  rw [h.1, h.2.1, h.2.2]
theorem nums_same {c d : IntL} (h : c.same d) : nums d = nums c := by
  unfold nums
  rw [h.1, h.2]
theorem thrX_same {t u : ThrV} (h : t.same u) : thrX u = thrX t := by
  unfold thrX
  rw [h.1, h.2.1, lb_same h.2.2.1, h.2.2.2.1, lb_same h.2.2.2.2.1, nums_same h.2.2.2.2.2.1, h.2.2.2.2.2.2]
theorem objT_same {t u : ObjV} (h : t.same u) (ks : List Int) : objT u ks = objT t ks := by
  unfold objT objX
  rw [h.1, h.2.1, h.2.2.1, h.2.2.2.1, lb_same h.2.2.2.2.1, h.2.2.2.2.2.1, h.2.2.2.2.2.2.1.1, h.2.2.2.2.2.2.1.2, nums_same h.2.2.2.2.2.2.2.1, h.2.2.2.2.2.2.2.2.1, lb_same h.2.2.2.2.2.2.2.2.2]
theorem kText_same {k l : KerV} (h : k.same l) : kText l = kText k := by
  unfold kText
  rw [kerOk_same h]
  have e1 : thrsX l.T l.tn = thrsX k.T k.tn := by
    unfold thrsX
    rw [h.1]
    exact congrArg List.flatten (List.map_congr_left fun j hj => thrX_same (h.2.1 j (List.mem_range.1 hj)))
  have e2 : objsX l.O l.on = objsX k.O k.on := by
    unfold objsX
    rw [h.2.2.1]
    exact congrArg List.flatten (List.map_congr_left fun j hj => objT_same (h.2.2.2 j (List.mem_range.1 hj)) [])
  rw [e1, e2]

set_option maxRecDepth 100000 in
set_option maxHeartbeats 4000000 in
theorem exactKernelText_walk (k : KerV) (w : World) (hk : k.at w) (hw : k.wfs) (tab : Tab w) :
    Calls Tryz.prog 4 #[k.val] w fun e w' => e = .returned (.bool true) ∧ Below w.heap.size w w' := by
  have hb0 := (Below.refl _ w).alloc (Nat.le_refl _) (.cells k.cells 25)
  have A0 := Blk.new w (.cells k.cells 25)
  have HK := hid hk
  have HW := hid hw
  have HTab := hid tab
  have T0 := hid (hk.below hb0)
  unfold KerV.cells at hb0 A0
  have C1 := hid (szKernel_any k 1048576 _ (by omega) (by omega) T0.out)
  unfold KerV.val at C1
  unfold KerV.cells at C1
  unfold KerV.val
  obtain ⟨x0, x1⟩ := A0.two
  clear hk hw tab
  go_enter Tryz.func4, Tryz.ntmps4
  go_wp2_with fail
  refine C1.out.mono ?_
  rintro e w1 ⟨r, rfl, hr, hb1⟩
  have A1 := A0.below hb1
  have B1 := then_ hb0 hb1
  clear x0 x1 C1 T0 A0 hb0 hb1
  obtain ⟨x0, x1⟩ := A1.two
  rcases hr with rfl | ⟨r0, r1, hs⟩
  · go_wp2
    go_ret
    exact ⟨rfl, B1⟩
  have HS := hid hs
  clear hs
  have r2 : ¬ r < 0 := by omega
  have C2 := hid (toKernel_any k w1 (HK.out.below B1) HS.out)
  unfold KerV.val at C2
  go_wp2_with fail
  refine C2.out.mono ?_
  rintro e w2 ⟨l1, rfl, s1, c1, ⟨row1, _⟩, hb2⟩
  clear c1
  have A2 := A1.below hb2
  have B2 := then_ B1 hb2
  have C3 := hid (specText_any l1 w2 (row1.at (s1.small HS.out)) (s1.wfs HW.out))
  rw [kText_same s1] at C3
  unfold KerV.val at C3
  clear x0 x1 C2 A1 B1 hb2
  go_wp2_with fail
  refine C3.out.mono ?_
  rintro e w3 ⟨rfl, hb3⟩
  have A3 := A2.below hb3
  have B3 := then_ B2 hb3
  clear C3 A2 B2 hb3 row1 s1
  obtain ⟨x0, x1⟩ := A3.two
  have C4 := hid (toKernel_any k w3 (HK.out.below B3) HS.out)
  unfold KerV.val at C4
  go_wp2_with fail
  refine C4.out.mono ?_
  rintro e w4 ⟨l2, rfl, s2, c2, ⟨row2, _⟩, hb4⟩
  have B4 := then_ B3 hb4
  have bx : Below w4.heap.size w4 (w4.alloc (.cells l2.cells 35)) := (Below.refl _ w4).alloc (Nat.le_refl _) _
  have AX := Blk.new w4 (.cells l2.cells 35)
  have A4 := (A3.below hb4).below bx
  have B5 := then_ B4 bx
  have row3 := row2.below bx
  have C5 := hid (implKText_any l2 _ (row3.at (s2.small HS.out)) (by rw [c2]; exact Nat.le_refl _) (s2.wfs HW.out) (HTab.out.below B5))
  rw [kText_same s2] at C5
  unfold KerV.val at C5
  unfold KerV.cells at C5 bx AX A4 B5 row3
  clear x0 x1 C4 A3 B3 hb4 B4 c2
  go_wp2_with fail
  refine C5.out.mono ?_
  rintro e w5 ⟨rfl, hb5⟩
  have X5 := AX.below hb5
  have A5 := A4.below hb5
  have B6 := then_ B5 hb5
  have row5 := row3.below hb5
  clear C5 AX A4 B5 hb5 row3 bx row2
  generalize kText k = res at *
  have Xd : Blk w5.drew w4.heap.size (.cells #[.slice l2.ta l2.tn l2.tk, .slice l2.oa l2.on l2.ok] 35) := X5
  have Ad : Blk w5.drew w.heap.size (.cells #[.slice k.ta k.tn k.tk, .slice k.oa k.on k.ok] 25) := A5
  have C6 := hid (toKernel_any k w5.drew (HK.out.below B6.drew) HS.out)
  have C7 : Hid (∀ (m : KerV) (W : World), Below w5.drew.heap.size w5.drew W → k.same m → m.row W → Calls Tryz.prog 11 #[l2.val, m.val] W fun e w' => e = .returned (.bool true) ∧ Below W.heap.size W w') := hid (fun m W hW hm hr => eqKernel_v l2 m W ((show l2.row w5.drew from row5).below hW |>.at (s2.small HS.out)) (hr.at (hm.small HS.out)) (s2.trans' hm))
  unfold KerV.val at C6 C7
  obtain ⟨x0, x1⟩ := A5.two
  obtain ⟨u0, u1⟩ := X5.two
  clear X5 A5
  go_wp2_with fail
  go_region_held3 (fun w' => w'.cell? ⟨w4.heap.size, 0, none⟩ = some (.slice l2.ta l2.tn l2.tk) ∧ w'.cell? ⟨w4.heap.size, 1, none⟩ = some (.slice l2.oa l2.on l2.ok) ∧ w'.cell? ⟨w.heap.size, 0, none⟩ = some (.slice k.ta k.tn k.tk) ∧ w'.cell? ⟨w.heap.size, 1, none⟩ = some (.slice k.oa k.on k.ok)) (first | go_keep | (simp only [*, and_self]))
    (first
      | (go_at_call 8; refine C6.out.mono ?_; rintro e w7 ⟨l3, rfl, s3, c3, ⟨row7, _⟩, hb7⟩; clear c3; obtain ⟨p0, p1⟩ := (Ad.below hb7).two; obtain ⟨q0, q1⟩ := (Xd.below hb7).two)
      | (go_at_call 11; refine (C7.out l3 w7 hb7 s3 row7).mono ?_; rintro e w8 ⟨rfl, hb8⟩; obtain ⟨i0, i1⟩ := ((Ad.below hb7).below hb8).two; obtain ⟨j0, j1⟩ := ((Xd.below hb7).below hb8).two))
  have B8 : Below w.heap.size w w8 := then_ (then_ B6.drew hb7) hb8
  clear p0 p1 q0 q1 i0 i1 j0 j1 x0 x1 u0 u1 Ad Xd C6 C7
  go_wp2
  go_ret
  exact ⟨rfl, B8⟩
end Go.Proofs.YtaaeeaknjlammaaGreatDoor
