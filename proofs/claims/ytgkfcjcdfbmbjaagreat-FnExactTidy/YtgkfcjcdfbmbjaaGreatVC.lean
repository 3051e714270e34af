/- Seen of the model answers the plain list seenL. -/
import Derived.Test.YtgkfcjcdfbmbjaaGreatVB
namespace Go.Proofs.YtgkfcjcdfbmbjaaGreat
open Go Go.RowKit Go.Deep Go.Maps Go.BigFrame Go.Shelf

theorem specLab_v (b : Int) (c : CatL) (w : World) (hc : c.at w) :
    Calls Tryz.prog 24 #[.agg #[.int .i64 b, c.val]] w fun e w' => e = .returned (.bool (labOkV b c)) ∧ Below w.heap.size w w' := specOk_any b c.a c.n c.k c.f c.g w hc.1 hc.2

set_option maxRecDepth 100000 in
set_option maxHeartbeats 8000000 in
theorem specSeen_any (k : KerV) (b : Int) (c : CatL) (w : World) (hk : k.at w) (hw : k.wfs) (hc : c.at w) :
    Calls Tryz.prog 7 #[k.val, .agg #[.int .i64 b, c.val]] w fun e w' => ∃ v, e = .returned v ∧ OwnI w' w.heap.size v (seenL k b c) ∧ Below w.heap.size w w' := by
  have EG : ∀ args w, (callFunc 25 args).run Tryz.prog w = .ok (.enter 25 args) w := enters_of Tryz.func25 (by kernel_rfl) rfl
  have b0 : Below w.heap.size w ((w.alloc (.cells #[.slice k.ta k.tn k.tk, .slice k.oa k.on k.ok] 36)).alloc (.cells #[.int .i64 b, c.val] 40)) := ((Below.refl _ w).alloc (Nat.le_refl _) _).alloc (by simp) _
  have A0 := (Blk.new w (.cells #[.slice k.ta k.tn k.tk, .slice k.oa k.on k.ok] 36)).alloc (.cells #[.int .i64 b, c.val] 40)
  have L0 := Blk.new (w.alloc (.cells #[.slice k.ta k.tn k.tk, .slice k.oa k.on k.ok] 36)) (.cells #[.int .i64 b, c.val] 40)
  simp only [World.size_alloc] at L0
  have b1 := b0.alloc b0.size (.cells #[] 2)
  have A1 := A0.alloc (.cells #[] 2)
  have L1 := L0.alloc (.cells #[] 2)
  have O1 := OwnI.made ((w.alloc (.cells #[.slice k.ta k.tn k.tk, .slice k.oa k.on k.ok] 36)).alloc (.cells #[.int .i64 b, c.val] 40)) (w.heap.size + 2) (by simp)
  have HK := hid hk
  have HC := hid hc
  have C1 := hid (specKer_any k _ (hk.below b1) (fun i hi => (hw i hi).1))
  unfold KerV.val at C1
  unfold KerV.val
  obtain ⟨x0, x1⟩ := A1.two
  clear hk hw hc A0 L0 b0
  go_enter Tryz.func7, Tryz.ntmps7
  go_wp2_with fail
  refine C1.out.mono ?_
  rintro e w1 ⟨rfl, hb1⟩
  have A2 := A1.below hb1
  have L2 := L1.below hb1
  have O2 := hid (OwnI.below O1 hb1)
  have B2 := then_ b1 hb1
  simp only [World.size_alloc] at O2
  clear x0 x1 C1 A1 L1 O1 b1 hb1
  obtain ⟨x0, x1⟩ := A2.two
  obtain ⟨y0, y1⟩ := L2.two
  cases t : kerOk k with
  | false =>
    go_wp2
    go_ret
    exact ⟨_, rfl, by rw [seenL_no1 t]; exact O2.out.low (by omega), B2⟩
  | true =>
  have C2 := hid (specLab_v b c w1 (HC.out.below B2))
  go_wp2_with fail
  refine C2.out.mono ?_
  rintro e w2 ⟨rfl, hb2⟩
  have A3 := A2.below hb2
  have L3 := L2.below hb2
  have O3 := hid (OwnI.below O2.out hb2)
  have B3 := then_ B2 hb2
  clear x0 x1 y0 y1 C2 A2 L2 O2 B2 hb2
  obtain ⟨x0, x1⟩ := A3.two
  obtain ⟨y0, y1⟩ := L3.two
  cases t2 : labOkV b c with
  | false =>
    go_wp2
    go_ret
    exact ⟨_, rfl, by rw [seenL_no2 t2]; exact O3.out.low (by omega), B3⟩
  | true =>
  have SL := hid (seenL_yes t t2)
  have OK := hid (kerOk_objs t)
  have LK := hid t2
  have ON := (objsOk_out OK.out).2.1
  clear t t2
  go_wp2
  clear x0 x1 y0 y1
  go_loopw [5, 6] (fun v i wr => ∃ q : Nat, q ≤ k.on ∧ i = .int .i64 q ∧ Hid (OwnI wr (w.heap.size + 2) v (seenTo k.O b c q)) ∧ Blk wr w.heap.size (.cells #[.slice k.ta k.tn k.tk, .slice k.oa k.on k.ok] 36) ∧ Blk wr (w.heap.size + 1) (.cells #[.int .i64 b, c.val] 40) ∧ Below w.heap.size w wr) (fun _ i _ => k.on - (intOf i).toNat)
  case atStart => exact ⟨0, Nat.zero_le _, rfl, O3, A3, L3, B3⟩
  case round =>
    clear O3 A3 L3 B3
    obtain ⟨q, hq, rfl, HO, A, L, hB⟩ := hrel
    by_cases hlt : q < k.on
    · obtain ⟨ob, off, ea, hlt0, hcc⟩ := (HK.out.2.2.2.below hB) (by omega)
      have CO := hid (hcc q hlt).1
      have AO := hid (hcc q hlt).2
      have i1 : (q : Int) < (k.on : Int) := by omega
      rw [ea] at A
      obtain ⟨x0, x1⟩ := A.two
      have i0 : (0 : Int) ≤ (q : Int) := by omega
      clear hcc
      go_wp2
      have HA : Hid (∀ W, Below wr.heap.size wr W → Blk W w.heap.size (.cells #[.slice k.ta k.tn k.tk, .slice (some ⟨ob, off, none⟩) k.on k.ok] 36)) := hid (fun W h => A.below h)
      have HL : Hid (∀ W, Below wr.heap.size wr W → Blk W (w.heap.size + 1) (.cells #[.int .i64 b, c.val] 40)) := hid (fun W h => L.below h)
      have HCO : Hid (∀ W, Below wr.heap.size wr W → Cells10 W ob (off + q * 10) (k.O q)) := hid (fun W h => CO.out.below hlt0 h)
      have PN : Hid (∀ W, Below wr.heap.size wr W → Calls Tryz.prog 25 #[(k.O q).val, .agg #[.int .i64 b, c.val]] W fun e w' => ∃ v, e = .returned v ∧ v = .bool (seenO (k.O q) b c) ∧ Below W.heap.size W w') := hid (fun W hW => (l5Seen_any (k.O q) b c W (AO.out.below hW) ((HC.out.below hB).below hW) (objsOk_lab OK.out hlt) LK.out).mono fun e w' ⟨h1, h2⟩ => ⟨_, h1, rfl, h2⟩)
      have V0 : Below wr.heap.size wr wr.drew := (Below.refl _ wr).drew
      clear x0 x1
      refine wp_region_G 7 (fun W => Below wr.heap.size wr W) (by kernel_rfl) ?_
      refine wpAnyG_takeD (i := 0) (d := 24) (.pointer (some ⟨w.heap.size, 1, none⟩)) rfl rfl (by kernel_rfl) (by kernel_rfl) (by kernel_rfl) (by kernel_rfl) (by kernel_rfl) (by kernel_rfl) (fun _ _ _ h => h) (Or.inl ⟨by rfl, fun W h => by go_simp⟩) V0 ?_
      simp only [Act.put, List.setIfInBounds_toArray, List.set_cons_zero, List.set_cons_succ]
      refine wpAnyG_takeD (i := 1) (d := 25) (.slice (some ⟨ob, off, none⟩) k.on k.ok) rfl rfl (by kernel_rfl) (by kernel_rfl) (by kernel_rfl) (by kernel_rfl) (by kernel_rfl) (by kernel_rfl) (fun _ _ _ h => h) (Or.inl ⟨by rfl, fun W h => by obtain ⟨q0, q1⟩ := (HA.out W h).two; go_simp⟩) V0 ?_
      simp only [Act.put, List.setIfInBounds_toArray, List.set_cons_zero, List.set_cons_succ]
      refine wpAnyG_takeD (i := 2) (d := 26) (.int .i64 q) rfl rfl (by kernel_rfl) (by kernel_rfl) (by kernel_rfl) (by kernel_rfl) (by kernel_rfl) (by kernel_rfl) (fun _ _ _ h => h) (Or.inl ⟨by rfl, fun W h => by go_simp⟩) V0 ?_
      simp only [Act.put, List.setIfInBounds_toArray, List.set_cons_zero, List.set_cons_succ]
      refine wpAnyG_takeD (i := 3) (d := 27) (.pointer (some ⟨ob, off + q * 10, none⟩)) rfl rfl (by kernel_rfl) (by kernel_rfl) (by kernel_rfl) (by kernel_rfl) (by kernel_rfl) (by kernel_rfl) (fun _ _ _ h => h) (Or.inl ⟨by rfl, fun W h => by go_simp⟩) V0 ?_
      simp only [Act.put, List.setIfInBounds_toArray, List.set_cons_zero, List.set_cons_succ]
      refine wpAnyG_takeD (i := 4) (d := 28) ((k.O q).val) rfl rfl (by kernel_rfl) (by kernel_rfl) (by kernel_rfl) (by kernel_rfl) (by kernel_rfl) (by kernel_rfl) (fun _ _ _ h => h) (Or.inl ⟨by rfl, fun W h => by obtain ⟨q0, q1, q2, q3, q4, q5, q6, q7, q8, q9⟩ := HCO.out W h; unfold ObjV.val; go_simp⟩) V0 ?_
      simp only [Act.put, List.setIfInBounds_toArray, List.set_cons_zero, List.set_cons_succ]
      refine wpAnyG_takeD (i := 5) (d := 29) (.agg #[.int .i64 b, c.val]) rfl rfl (by kernel_rfl) (by kernel_rfl) (by kernel_rfl) (by kernel_rfl) (by kernel_rfl) (by kernel_rfl) (fun _ _ _ h => h) (Or.inl ⟨by rfl, fun W h => by obtain ⟨q0, q1⟩ := (HL.out W h).two; go_simp⟩) V0 ?_
      simp only [Act.put, List.setIfInBounds_toArray, List.set_cons_zero, List.set_cons_succ]
      refine wpAnyG_one (i := 6) (by kernel_rfl) rfl ?_
      intro K hK
      refine step_call2g (by rfl) 25 _ _ _ (by rfl) EG _ _ (by rfl) (by rfl) (some 30) (by rfl) _ (PN.out _ V0) ?_
      rintro v w3 ⟨rfl, h3⟩
      have V1 := then_ V0 h3
      refine hK.out _ _ (fun _ => V1) ?_
      clear hK K
      simp only [Act.put, List.setIfInBounds_toArray, List.set_cons_zero, List.set_cons_succ]
      refine wpAnyG_done (by kernel_rfl) ?_ _
      have B3 := then_ hB V1
      have A3 := HA.out w3 V1
      have L3 := HL.out w3 V1
      have O3 := hid (OwnI.below HO.out V1)
      have c0 := (HCO.out w3 V1).c0
      rw [← ea] at A3
      clear PN HA HL HCO V0 V1 h3 AO CO HO A L hB
      cases e : seenO (k.O q) b c with
      | false =>
        have EQ := hid (seenTo_no e)
        clear e ea
        go_wp2
        exact ⟨⟨q + 1, by omega, by go_num, hid (by rw [EQ.out]; exact O3.out), A3, L3, B3⟩, by simp [intOf]; omega⟩
      | true =>
        have EQ := hid (seenTo_yes e)
        have hl := seenTo_len k.O b c q
        have B4 : Below w.heap.size w (w3.alloc (.cells #[.int .i64 (k.O q).id] 2)) := B3.alloc B3.size _
        have A4 := A3.alloc (.cells #[.int .i64 (k.O q).id] 2)
        have L4 := L3.alloc (.cells #[.int .i64 (k.O q).id] 2)
        have O4 := hid (OwnI.alloc O3.out (.cells #[.int .i64 (k.O q).id] 2))
        have N1 := hid (NumL.one (w := w3) (k.O q).id)
        have s1 : w.heap.size + 2 ≤ (w3.alloc (.cells #[.int .i64 (k.O q).id] 2)).heap.size := by have := L3.lt; simp; omega
        have FIN : Hid (∀ w4 : World, (w3.alloc (.cells #[.int .i64 (k.O q).id] 2)).grownBy w4 u5.ownBlock → Blk w4 w.heap.size (.cells #[.slice k.ta k.tn k.tk, .slice k.oa k.on k.ok] 36) ∧ Blk w4 (w.heap.size + 1) (.cells #[.int .i64 b, c.val] 40) ∧ Below w.heap.size w w4) := hid (fun w4 g4 => ⟨A4.grown g4 (fun e => by have := (World.ownsRow.lt O4.out _ e.symm).1; omega), L4.grown g4 (fun e => by have := (World.ownsRow.lt O4.out _ e.symm).1; omega), B4.trans (below_grown g4 B4.size (fun j hj => by have := (World.ownsRow.lt O4.out j hj).1; omega))⟩)
        rw [ea] at A3
        obtain ⟨x0, x1⟩ := A3.two
        clear e O3 ea B4 A4 L4
        go_wp2_with (refine wpList_append_ints _ rfl _ _ rfl (w.heap.size + 2) u5 (seenTo k.O b c q) rfl O4.out _ 1 1 [(k.O q).id] rfl rfl N1.out (by omega) s1 ?_; intro a4 c4 w4 o4 g4 v4)
        rw [← EQ.out] at o4
        obtain ⟨f1, f2, f3⟩ := FIN.out w4 g4
        exact ⟨⟨q + 1, by omega, by go_num, hid (by first | exact o4 | simpa [EQ.out] using o4), f1, f2, f3⟩, by simp [intOf]; omega⟩
    · have i1 : ¬ (q : Int) < (k.on : Int) := by omega
      have e : q = k.on := by omega
      have HO2 : Hid (OwnI wr (w.heap.size + 2) u5 (seenTo k.O b c k.on)) := hid (by rw [← e]; exact HO.out)
      obtain ⟨x0, x1⟩ := A.two
      clear HO e
      go_wp2
      go_ret
      exact ⟨u5, rfl, by rw [SL.out]; exact HO2.out.low (by omega), hB⟩
end Go.Proofs.YtgkfcjcdfbmbjaaGreat
