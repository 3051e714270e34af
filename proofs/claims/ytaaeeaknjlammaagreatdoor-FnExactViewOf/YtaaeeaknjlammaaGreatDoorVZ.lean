/- ViewOf: the walk: the law answers true at every kernel and label that came in, and writes nothing that was there. -/
import Derived.Test.YtaaeeaknjlammaaGreatDoorZW
import Derived.Test.YtaaeeaknjlammaaGreatDoorVV
import Derived.Test.YtaaeeaknjlammaaGreatDoorGW
namespace Go.Proofs.YtaaeeaknjlammaaGreatDoor
open Go Go.RowKit Go.Deep Go.Maps Go.BigFrame Go.Shelf

set_option maxRecDepth 100000 in
set_option maxHeartbeats 16000000 in
theorem exactViewOf_walk (k : KerV) (b : Int) (c : CatL) (w : World) (hk : k.at w) (hw : k.wfs) (hc : c.at w) (ht : Tab w) :
    Calls Tryz.prog 3 #[k.val, .agg #[.int .i64 b, c.val]] w fun e w' => e = .returned (.bool true) ∧ Below w.heap.size w w' := by
  have EK : ∀ args w, (callFunc 8 args).run Tryz.prog w = .ok (.enter 8 args) w := enters_of Tryz.func8 (by kernel_rfl) rfl
  have EL : ∀ args w, (callFunc 9 args).run Tryz.prog w = .ok (.enter 9 args) w := enters_of Tryz.func9 (by kernel_rfl) rfl
  have ES : ∀ args w, (callFunc 7 args).run Tryz.prog w = .ok (.enter 7 args) w := enters_of Tryz.func7 (by kernel_rfl) rfl
  have EE : ∀ args w, (callFunc 11 args).run Tryz.prog w = .ok (.enter 11 args) w := enters_of Tryz.func11 (by kernel_rfl) rfl
  have EF : ∀ args w, (callFunc 12 args).run Tryz.prog w = .ok (.enter 12 args) w := enters_of Tryz.func12 (by kernel_rfl) rfl
  have b0 : Below w.heap.size w ((w.alloc (.cells #[.slice k.ta k.tn k.tk, .slice k.oa k.on k.ok] 25)).alloc (.cells #[.int .i64 b, .slice c.a c.n c.k] 28)) := ((Below.refl _ w).alloc (Nat.le_refl _) _).alloc (by simp) _
  have A0 := (Blk.new w (.cells #[.slice k.ta k.tn k.tk, .slice k.oa k.on k.ok] 25)).alloc (.cells #[.int .i64 b, .slice c.a c.n c.k] 28)
  have L0 := Blk.new (w.alloc (.cells #[.slice k.ta k.tn k.tk, .slice k.oa k.on k.ok] 25)) (.cells #[.int .i64 b, .slice c.a c.n c.k] 28)
  simp only [World.size_alloc] at L0
  have HK := hid hk
  have HC := hid hc
  have HW := hid hw
  have HT := hid ht
  have C1 := hid (szKernel_any k 1048576 _ (by omega) (by omega) (hk.below b0))
  unfold KerV.val at C1
  unfold KerV.val CatL.val
  obtain ⟨x0, x1⟩ := A0.two
  obtain ⟨y0, y1⟩ := L0.two
  clear hk hw hc ht
  go_enter Tryz.func3, Tryz.ntmps3
  go_wp2_with fail
  refine C1.out.mono ?_
  rintro e w1 ⟨r, rfl, hr, hb1⟩
  have A1 := A0.below hb1
  have L1 := L0.below hb1
  have B1 := then_ b0 hb1
  clear x0 x1 y0 y1 C1 A0 L0 b0 hb1
  obtain ⟨x0, x1⟩ := A1.two
  obtain ⟨y0, y1⟩ := L1.two
  rcases hr with rfl | ⟨r0, r1, hs⟩
  · go_wp2
    go_ret
    exact ⟨rfl, B1⟩
  have HS := hid hs
  clear hs
  have r2 : ¬ r < 0 := by omega
  have C2 := hid (szLabel_v b c r w1 (HC.out.below B1) r0 (by omega))
  unfold CatL.val at C2
  go_wp2_with fail
  refine C2.out.mono ?_
  rintro e w2 ⟨r', rfl, hr', hb2⟩
  have A2 := A1.below hb2
  have L2 := L1.below hb2
  have B2 := then_ B1 hb2
  clear x0 x1 y0 y1 C2 A1 L1 B1 hb2
  rcases hr' with rfl | ⟨r0', r1', hn⟩
  · go_wp2
    go_ret
    exact ⟨rfl, B2⟩
  have HN := hid hn
  have r2' : ¬ r' < 0 := by omega
  clear hn
  have TK : Hid (∀ W, Below w.heap.size w W → Calls Tryz.prog 8 #[.agg #[.slice k.ta k.tn k.tk, .slice k.oa k.on k.ok]] W fun e w' => ∃ v, e = .returned v ∧ ∃ l : KerV, v = l.val ∧ k.same l ∧ l.ok = l.on ∧ l.row w' ∧ l.since W.heap.size ∧ Below W.heap.size W w') := hid (fun W hW => (toKernel_any k W (HK.out.below hW) HS.out).mono fun e w' ⟨l, h1, h2, h3, h4, h5⟩ => ⟨_, h1, l, rfl, h2, h3, h4.1, h4.2, h5⟩)
  have TL : Hid (∀ W, Below w.heap.size w W → Calls Tryz.prog 9 #[.agg #[.int .i64 b, .slice c.a c.n c.k]] W fun e w' => ∃ v, e = .returned v ∧ ∃ d : CatL, v = .agg #[.int .i64 b, d.val] ∧ c.same d ∧ d.row w' ∧ (∀ p, d.a = some p → W.heap.size ≤ p.block) ∧ Below W.heap.size W w') := hid (fun W hW => (toLabel_v b c W (HC.out.below hW) HN.out).mono fun e w' ⟨d, h1, h2, h3, h4, h5⟩ => ⟨_, h1, d, rfl, h2, h3, h4, h5⟩)
  obtain ⟨L, hL⟩ : ∃ L, L = vText k b c := ⟨_, rfl⟩
  have SPEC : Hid (∀ (l : KerV) (d : CatL) (W : World), Below w.heap.size w W → k.same l → c.same d → l.row W → d.row W → Calls Tryz.prog 7 #[l.val, .agg #[.int .i64 b, d.val]] W fun e w' => ∃ v, e = .returned v ∧ v = .string L ∧ Below W.heap.size W w') := hid (fun l d W hW s s' hr hr' => by
    have := specView_any l b d W (hr.at (s.small HS.out)) (s.wfs HW.out) (s'.at HN.out hr')
    rw [vText_same s s', ← hL] at this
    exact this.mono fun e w' ⟨h1, h2⟩ => ⟨_, h1, rfl, h2⟩)
  have IMPL : Hid (∀ (l : KerV) (d : CatL) (W : World), Below w.heap.size w W → k.same l → c.same d → l.ok = l.on → l.row W → d.row W → Calls Tryz.prog 10 #[l.val, .agg #[.int .i64 b, d.val]] W fun e w' => ∃ v, e = .returned v ∧ v = .string L ∧ Below W.heap.size W w') := hid (fun l d W hW s s' ho hr hr' => by
    have := implView_any l b d W (hr.at (s.small HS.out)) (by rw [ho]; exact Nat.le_refl _) (s.wfs HW.out) (s'.at HN.out hr') (HT.out.below hW)
    rw [vText_same s s', ← hL] at this
    exact this.mono fun e w' ⟨h1, h2⟩ => ⟨_, h1, rfl, h2⟩)
  have EQK : Hid (∀ (l m : KerV) (W : World), k.same l → k.same m → l.row W → m.row W → Calls Tryz.prog 11 #[l.val, m.val] W fun e w' => ∃ v, e = .returned v ∧ v = .bool true ∧ Below W.heap.size W w') := hid (fun l m W h h' hr hr' => (eqKernel_v l m W (hr.at (h.small HS.out)) (hr'.at (h'.small HS.out)) (h.trans' h')).mono fun e w' ⟨h1, h2⟩ => ⟨_, h1, rfl, h2⟩)
  have EQL : Hid (∀ (d d' : CatL) (W : World), c.same d → c.same d' → d.row W → d'.row W → Calls Tryz.prog 12 #[.agg #[.int .i64 b, d.val], .agg #[.int .i64 b, d'.val]] W fun e w' => ∃ v, e = .returned v ∧ v = .bool true ∧ Below W.heap.size W w') := hid (fun d d' W h h' hr hr' => (eqLabel_v b d d' W (h.at HN.out hr) (h'.at HN.out hr') ⟨h'.1.trans h.1.symm, h'.2.1.trans h.2.1.symm, h'.2.2.trans h.2.2.symm⟩).mono fun e w' ⟨h1, h2⟩ => ⟨_, h1, rfl, h2⟩)
  unfold KerV.val CatL.val at SPEC IMPL
  unfold KerV.val at EQK
  unfold CatL.val at EQL
  unfold KerV.val at TK
  unfold CatL.val at TL
  clear hL
  go_wp2
  have HA : Hid (∀ W, Below w2.heap.size w2 W → Blk W w.heap.size (.cells #[.slice k.ta k.tn k.tk, .slice k.oa k.on k.ok] 25) ∧ Blk W (w.heap.size + 1) (.cells #[.int .i64 b, .slice c.a c.n c.k] 28)) := hid (fun W h => ⟨A2.below h, L2.below h⟩)
  have V0 : Below w2.heap.size w2 w2.drew := (Below.refl _ w2).drew
  clear A2 L2
  refine wp_region_G 6 (fun W => Below w2.heap.size w2 W) (by kernel_rfl) ?_
  refine wpAnyG_takeD (i := 0) (d := 20) (.agg #[.slice k.ta k.tn k.tk, .slice k.oa k.on k.ok]) rfl rfl (by kernel_rfl) (by kernel_rfl) (by kernel_rfl) (by kernel_rfl) (by kernel_rfl) (by kernel_rfl) (fun _ _ _ h => h) (Or.inl ⟨by rfl, fun W h => by obtain ⟨q0, q1⟩ := (HA.out W h).1.two; go_simp⟩) V0 ?_
  simp only [Act.put, List.setIfInBounds_toArray, List.set_cons_zero, List.set_cons_succ]
  refine wpAnyG_takeD (i := 2) (d := 22) (.agg #[.int .i64 b, .slice c.a c.n c.k]) rfl rfl (by kernel_rfl) (by kernel_rfl) (by kernel_rfl) (by kernel_rfl) (by kernel_rfl) (by kernel_rfl) (fun _ _ _ h => h) (Or.inl ⟨by rfl, fun W h => by obtain ⟨q0, q1⟩ := (HA.out W h).2.two; go_simp⟩) V0 ?_
  simp only [Act.put, List.setIfInBounds_toArray, List.set_cons_zero, List.set_cons_succ]
  refine wpAnyG_one (i := 1) (by kernel_rfl) rfl ?_
  intro K hK
  refine step_call1g (by rfl) 8 _ _ (by rfl) EK _ (by rfl) (some 21) (by rfl) _ (TK.out _ (then_ B2 V0)) ?_
  rintro v w3 ⟨l1, rfl, s1, z1, row1, z2, h3⟩
  clear z1 z2
  have V1 := then_ V0 h3
  refine hK.out _ _ (fun _ => V1) ?_
  clear hK K
  simp only [Act.put, List.setIfInBounds_toArray, List.set_cons_zero, List.set_cons_succ]
  refine wpAnyG_one (i := 3) (by kernel_rfl) rfl ?_
  intro K hK
  refine step_call1g (by rfl) 9 _ _ (by rfl) EL _ (by rfl) (some 23) (by rfl) _ (TL.out _ (then_ B2 V1)) ?_
  rintro v w4 ⟨d1, rfl, s1', rd1, z2, h4⟩
  clear z2
  have V2 := then_ V1 h4
  refine hK.out _ _ (fun _ => V2) ?_
  clear hK K
  simp only [Act.put, List.setIfInBounds_toArray, List.set_cons_zero, List.set_cons_succ]
  refine wpAnyG_one (i := 4) (by kernel_rfl) rfl ?_
  intro K hK
  refine step_call2g (by rfl) 7 _ _ _ (by rfl) ES _ _ (by rfl) (by rfl) (some 24) (by rfl) _ (SPEC.out l1 d1 w4 (then_ B2 V2) s1 s1' (row1.below h4) rd1) ?_
  rintro v w5 ⟨rfl, h5⟩
  have V3 := then_ V2 h5
  refine hK.out _ _ (fun _ => V3) ?_
  clear hK K
  simp only [Act.put, List.setIfInBounds_toArray, List.set_cons_zero, List.set_cons_succ]
  refine wpAnyG_takeD (i := 5) (d := 6) (.string L) rfl rfl (by kernel_rfl) (by kernel_rfl) (by kernel_rfl) (by kernel_rfl) (by kernel_rfl) (by kernel_rfl) (fun _ _ _ h => h) (Or.inl ⟨by rfl, fun W h => by go_simp⟩) V3 ?_
  simp only [Act.put, List.setIfInBounds_toArray, List.set_cons_zero, List.set_cons_succ]
  refine wpAnyG_done (by kernel_rfl) ?_ _
  obtain ⟨A5, L5⟩ := HA.out w5 V3
  have B5 := then_ B2 V3
  clear V0 V1 V2 V3 h3 h4 h5 HA s1 s1' row1 rd1 B2
  obtain ⟨x0, x1⟩ := A5.two
  obtain ⟨y0, y1⟩ := L5.two
  go_wp2_with fail
  refine (TK.out w5 B5).mono ?_
  rintro e w6 ⟨_, rfl, l2, rfl, s2, c2, row2, sin2, h6⟩
  have HC2 := hid c2
  clear c2
  have bx : Below w6.heap.size w6 (w6.alloc (.cells #[.slice l2.ta l2.tn l2.tk, .slice l2.oa l2.on l2.ok] 35)) := (Below.refl _ w6).alloc (Nat.le_refl _) _
  have B6 := then_ B5 h6
  have B7 := then_ B6 bx
  have D7 := then_ h6 bx
  have A7 := A5.below D7
  have L7 := L5.below D7
  have X7 := Blk.new w6 (.cells #[.slice l2.ta l2.tn l2.tk, .slice l2.oa l2.on l2.ok] 35)
  have row7 := row2.below bx
  have lt56 := h6.size
  have sz5 := B5.size
  have ltA := A5.lt
  have ltL := L5.lt
  have E7 := hid bx
  generalize hV7 : w6.alloc (.cells #[.slice l2.ta l2.tn l2.tk, .slice l2.oa l2.on l2.ok] 35) = V7 at *
  have szV7 : V7.heap.size = w6.heap.size + 1 := by rw [← hV7]; simp
  clear x0 x1 y0 y1 A5 L5 B5 B6 row2 sin2 bx D7 h6
  obtain ⟨y0, y1⟩ := L7.two
  go_wp2_with fail
  try rw [hV7]
  refine (TL.out V7 B7).mono ?_
  rintro e w8 ⟨_, rfl, d2, rfl, s2', rd2, sd2, h8⟩
  have by8 : Below w8.heap.size w8 (w8.alloc (.cells #[.int .i64 b, .slice d2.a d2.n d2.k] 39)) := (Below.refl _ w8).alloc (Nat.le_refl _) _
  have B9 := then_ (then_ B7 h8) by8
  have D9 := then_ h8 by8
  have A9 := A7.below D9
  have L9 := L7.below D9
  have X9 := X7.below D9
  have Y9 := Blk.new w8 (.cells #[.int .i64 b, .slice d2.a d2.n d2.k] 39)
  have row9 := row7.below D9
  have rd9 := rd2.below by8
  have RD := hid rd2
  have SD := hid sd2
  have E9 := hid (then_ E7.out D9)
  have F9 := hid by8
  have lt78 := h8.size
  generalize hV9 : w8.alloc (.cells #[.int .i64 b, .slice d2.a d2.n d2.k] 39) = V9 at *
  have szV9 : V9.heap.size = w8.heap.size + 1 := by rw [← hV9]; simp
  clear y0 y1 A7 L7 X7 B7 row7 rd2 sd2 by8 D9 h8 E7
  obtain ⟨x0, x1⟩ := X9.two
  obtain ⟨y0, y1⟩ := Y9.two
  go_wp2_with fail
  try rw [hV9]
  refine (IMPL.out l2 d2 V9 B9 s2 s2' HC2.out row9 rd9).mono ?_
  rintro e w10 ⟨_, rfl, rfl, h10⟩
  have B10 := then_ B9 h10
  have A10 := A9.below h10
  have L10 := L9.below h10
  have X10 := X9.below h10
  have Y10 := Y9.below h10
  have row10 := row9.below h10
  have rd10 := rd9.below h10
  have E10 := hid (then_ E9.out h10)
  have F10 := hid (then_ F9.out h10)
  clear x0 x1 y0 y1 A9 L9 X9 Y9 B9 row9 rd9 E9 F9 h10
  obtain ⟨w11, h11⟩ : ∃ w11, w11 = w10 := ⟨_, rfl⟩
  subst h11
  have B11 := B10
  have A11 := A10
  have L11 := L10
  have X11 := X10
  have Y11 := Y10
  have row11 := row10
  have rd11 := rd10
  have E11 := E10
  have F11 := F10
  clear A10 L10 X10 Y10 B10 row10 rd10 E10 F10
  go_wp2
  have HA : Hid (∀ W, Below w11.heap.size w11 W → Blk W w.heap.size (.cells #[.slice k.ta k.tn k.tk, .slice k.oa k.on k.ok] 25) ∧ Blk W w6.heap.size (.cells #[.slice l2.ta l2.tn l2.tk, .slice l2.oa l2.on l2.ok] 35)) := hid (fun W h => ⟨A11.below h, X11.below h⟩)
  have V0 : Below w11.heap.size w11 w11.drew := (Below.refl _ w11).drew
  refine wp_region_G 5 (fun W => Below w11.heap.size w11 W) (by kernel_rfl) ?_
  refine wpAnyG_takeD (i := 0) (d := 35) (.agg #[.slice l2.ta l2.tn l2.tk, .slice l2.oa l2.on l2.ok]) rfl rfl (by kernel_rfl) (by kernel_rfl) (by kernel_rfl) (by kernel_rfl) (by kernel_rfl) (by kernel_rfl) (fun _ _ _ h => h) (Or.inl ⟨by rfl, fun W h => by obtain ⟨q0, q1⟩ := (HA.out W h).2.two; go_simp⟩) V0 ?_
  simp only [Act.put, List.setIfInBounds_toArray, List.set_cons_zero, List.set_cons_succ]
  refine wpAnyG_takeD (i := 1) (d := 36) (.agg #[.slice k.ta k.tn k.tk, .slice k.oa k.on k.ok]) rfl rfl (by kernel_rfl) (by kernel_rfl) (by kernel_rfl) (by kernel_rfl) (by kernel_rfl) (by kernel_rfl) (fun _ _ _ h => h) (Or.inl ⟨by rfl, fun W h => by obtain ⟨q0, q1⟩ := (HA.out W h).1.two; go_simp⟩) V0 ?_
  simp only [Act.put, List.setIfInBounds_toArray, List.set_cons_zero, List.set_cons_succ]
  refine wpAnyG_one (i := 2) (by kernel_rfl) rfl ?_
  intro K hK
  refine step_call1g (by rfl) 8 _ _ (by rfl) EK _ (by rfl) (some 37) (by rfl) _ (TK.out _ (then_ B11 V0)) ?_
  rintro v w12 ⟨l3, rfl, s3, z1, row12, z2, h12⟩
  clear z1 z2
  have V1 := then_ V0 h12
  refine hK.out _ _ (fun _ => V1) ?_
  clear hK K
  simp only [Act.put, List.setIfInBounds_toArray, List.set_cons_zero, List.set_cons_succ]
  refine wpAnyG_one (i := 3) (by kernel_rfl) rfl ?_
  intro K hK
  refine step_call2g (by rfl) 11 _ _ _ (by rfl) EE _ _ (by rfl) (by rfl) (some 38) (by rfl) _ (EQK.out l2 l3 w12 s2 s3 (row11.below V1) row12) ?_
  rintro v w13 ⟨rfl, h13⟩
  have V2 := then_ V1 h13
  refine hK.out _ _ (fun _ => V2) ?_
  clear hK K
  simp only [Act.put, List.setIfInBounds_toArray, List.set_cons_zero, List.set_cons_succ]
  refine wpAnyG_takeD (i := 4) (d := 39) (.bool false) rfl rfl (by kernel_rfl) (by kernel_rfl) (by kernel_rfl) (by kernel_rfl) (by kernel_rfl) (by kernel_rfl) (fun _ _ _ h => h) (Or.inl ⟨by rfl, fun W h => by go_simp⟩) V2 ?_
  simp only [Act.put, List.setIfInBounds_toArray, List.set_cons_zero, List.set_cons_succ]
  refine wpAnyG_done (by kernel_rfl) ?_ _
  have B13 := then_ B11 V2
  have A13 := A11.below V2
  have L13 := L11.below V2
  have X13 := X11.below V2
  have Y13 := Y11.below V2
  have rd13 := rd11.below V2
  have E13 := hid (then_ E11.out V2)
  have F13 := hid (then_ F11.out V2)
  clear V0 V1 V2 h12 h13 HA s3 row12 B11 A11 L11 X11 Y11 row11 rd11 E11 F11
  go_wp2
  have HA : Hid (∀ W, Below w13.heap.size w13 W → Blk W (w.heap.size + 1) (.cells #[.int .i64 b, .slice c.a c.n c.k] 28) ∧ Blk W w8.heap.size (.cells #[.int .i64 b, .slice d2.a d2.n d2.k] 39)) := hid (fun W h => ⟨L13.below h, Y13.below h⟩)
  have V0 : Below w13.heap.size w13 w13.drew := (Below.refl _ w13).drew
  refine wp_region_G 5 (fun W => Below w13.heap.size w13 W) (by kernel_rfl) ?_
  refine wpAnyG_takeD (i := 0) (d := 40) (.agg #[.int .i64 b, .slice d2.a d2.n d2.k]) rfl rfl (by kernel_rfl) (by kernel_rfl) (by kernel_rfl) (by kernel_rfl) (by kernel_rfl) (by kernel_rfl) (fun _ _ _ h => h) (Or.inl ⟨by rfl, fun W h => by obtain ⟨q0, q1⟩ := (HA.out W h).2.two; go_simp⟩) V0 ?_
  simp only [Act.put, List.setIfInBounds_toArray, List.set_cons_zero, List.set_cons_succ]
  refine wpAnyG_takeD (i := 1) (d := 41) (.agg #[.int .i64 b, .slice c.a c.n c.k]) rfl rfl (by kernel_rfl) (by kernel_rfl) (by kernel_rfl) (by kernel_rfl) (by kernel_rfl) (by kernel_rfl) (fun _ _ _ h => h) (Or.inl ⟨by rfl, fun W h => by obtain ⟨q0, q1⟩ := (HA.out W h).1.two; go_simp⟩) V0 ?_
  simp only [Act.put, List.setIfInBounds_toArray, List.set_cons_zero, List.set_cons_succ]
  refine wpAnyG_one (i := 2) (by kernel_rfl) rfl ?_
  intro K hK
  refine step_call1g (by rfl) 9 _ _ (by rfl) EL _ (by rfl) (some 42) (by rfl) _ (TL.out _ (then_ B13 V0)) ?_
  rintro v w14 ⟨d3, rfl, s3, rd14, z2, h14⟩
  clear z2
  have V1 := then_ V0 h14
  refine hK.out _ _ (fun _ => V1) ?_
  clear hK K
  simp only [Act.put, List.setIfInBounds_toArray, List.set_cons_zero, List.set_cons_succ]
  refine wpAnyG_one (i := 3) (by kernel_rfl) rfl ?_
  intro K hK
  refine step_call2g (by rfl) 12 _ _ _ (by rfl) EF _ _ (by rfl) (by rfl) (some 43) (by rfl) _ (EQL.out d2 d3 w14 s2' s3 (rd13.below V1) rd14) ?_
  rintro v w15 ⟨rfl, h15⟩
  have V2 := then_ V1 h15
  refine hK.out _ _ (fun _ => V2) ?_
  clear hK K
  simp only [Act.put, List.setIfInBounds_toArray, List.set_cons_zero, List.set_cons_succ]
  refine wpAnyG_takeD (i := 4) (d := 44) (.bool false) rfl rfl (by kernel_rfl) (by kernel_rfl) (by kernel_rfl) (by kernel_rfl) (by kernel_rfl) (by kernel_rfl) (fun _ _ _ h => h) (Or.inl ⟨by rfl, fun W h => by go_simp⟩) V2 ?_
  simp only [Act.put, List.setIfInBounds_toArray, List.set_cons_zero, List.set_cons_succ]
  refine wpAnyG_done (by kernel_rfl) ?_ _
  have B15 := then_ B13 V2
  clear V0 V1 V2 h14 h15 HA s3 rd14 B13 A13 L13 X13 Y13 rd13 E13 F13
  go_wp2
  go_ret
  exact ⟨rfl, B15⟩
end Go.Proofs.YtaaeeaknjlammaaGreatDoor
