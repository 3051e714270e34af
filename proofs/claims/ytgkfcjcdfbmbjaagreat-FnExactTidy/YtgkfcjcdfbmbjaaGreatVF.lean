/- Tidy of the program and of the model answer the plain function tidyB. -/
import Derived.Test.YtgkfcjcdfbmbjaaGreatVF1
import Derived.Test.YtgkfcjcdfbmbjaaGreatVC
import Derived.Test.YtgkfcjcdfbmbjaaGreatKB9
namespace Go.Proofs.YtgkfcjcdfbmbjaaGreat
open Go Go.RowKit Go.Deep Go.Maps Go.BigFrame Go.Shelf

set_option maxRecDepth 100000 in
set_option maxHeartbeats 8000000 in
theorem implTidy_any (k : KerV) (b : Int) (c : CatL) (w : World) (hk : k.at w) (hcap : k.on ≤ k.ok) (hw : k.wfs) (hc : c.at w) :
    Calls Tryz.prog 19 #[k.val, .agg #[.int .i64 b, c.val]] w fun e w' => e = .returned (.bool (tidyB k b c)) ∧ Below w.heap.size w w' := by
  have b0 : Below w.heap.size w ((w.alloc (.cells #[.slice k.ta k.tn k.tk, .slice k.oa k.on k.ok] 36)).alloc (.cells #[.int .i64 b, .slice c.a c.n c.k] 40)) := ((Below.refl _ w).alloc (Nat.le_refl _) _).alloc (by simp) _
  have A0 := (Blk.new w (.cells #[.slice k.ta k.tn k.tk, .slice k.oa k.on k.ok] 36)).alloc (.cells #[.int .i64 b, .slice c.a c.n c.k] 40)
  have L0 := Blk.new (w.alloc (.cells #[.slice k.ta k.tn k.tk, .slice k.oa k.on k.ok] 36)) (.cells #[.int .i64 b, .slice c.a c.n c.k] 40)
  simp only [World.size_alloc] at L0
  have HK := hid hk
  have HC := hid hc
  have HW := hid hw
  have HP := hid hcap
  have C1 := hid (viewOk_any k b c _ (hk.below b0) hcap hw (hc.below b0))
  unfold KerV.val CatL.val at C1
  unfold KerV.val CatL.val
  obtain ⟨x0, x1⟩ := A0.two
  obtain ⟨y0, y1⟩ := L0.two
  clear hk hw hc hcap
  go_enter Tryz.func19, Tryz.ntmps19
  go_wp2_with fail
  refine C1.out.mono ?_
  rintro e w1 ⟨rfl, hb1⟩
  have A1 := A0.below hb1
  have L1 := L0.below hb1
  have B1 := then_ b0 hb1
  clear x0 x1 y0 y1 C1 A0 L0 b0 hb1
  obtain ⟨x0, x1⟩ := A1.two
  obtain ⟨y0, y1⟩ := L1.two
  cases t : (kerOk k && labOkV b c) with
  | false =>
    have E : tidyB k b c = false := by simp [tidyB, t]
    go_wp2
    go_ret
    exact ⟨ret_bool E.symm, B1⟩
  | true =>
  obtain ⟨t1, t2⟩ := (Bool.and_eq_true _ _).mp t
  have OK := hid t1
  have LK := hid t2
  have C2 := hid (viewing_any k b c w1 (HK.out.below B1) t1 HW.out)
  unfold KerV.val CatL.val at C2
  clear t t1 t2
  go_wp2_with fail
  refine C2.out.mono ?_
  rintro e w2 ⟨m, nb, kv, rfl, hN, hb2⟩
  have B2 := then_ B1 hb2
  have C3 := hid (tidy_any k b c m nb kv w1.heap.size w2 (HK.out.below B2) HP.out OK.out HW.out (HC.out.below B2) LK.out hN)
  clear x0 x1 y0 y1 hN hb2 C2 A1 L1 B1
  go_wp2_with fail
  refine C3.out.mono ?_
  rintro e w3 ⟨rfl, hb3⟩
  have B3 := then_ B2 hb3
  clear C3 B2 hb3
  go_wp2
  go_ret
  exact ⟨rfl, B3⟩

set_option maxRecDepth 100000 in
set_option maxHeartbeats 8000000 in
theorem specTidy_any (k : KerV) (b : Int) (c : CatL) (w : World) (hk : k.at w) (hw : k.wfs) (hc : c.at w) :
    Calls Tryz.prog 18 #[k.val, .agg #[.int .i64 b, c.val]] w fun e w' => e = .returned (.bool (tidyB k b c)) ∧ Below w.heap.size w w' := by
  have EF : ∀ args w, (callFunc 38 args).run Tryz.prog w = .ok (.enter 38 args) w := enters_of Tryz.func38 (by kernel_rfl) rfl
  have b0 : Below w.heap.size w ((w.alloc (.cells #[.slice k.ta k.tn k.tk, .slice k.oa k.on k.ok] 36)).alloc (.cells #[.int .i64 b, .slice c.a c.n c.k] 40)) := ((Below.refl _ w).alloc (Nat.le_refl _) _).alloc (by simp) _
  have A0 := (Blk.new w (.cells #[.slice k.ta k.tn k.tk, .slice k.oa k.on k.ok] 36)).alloc (.cells #[.int .i64 b, .slice c.a c.n c.k] 40)
  have L0 := Blk.new (w.alloc (.cells #[.slice k.ta k.tn k.tk, .slice k.oa k.on k.ok] 36)) (.cells #[.int .i64 b, .slice c.a c.n c.k] 40)
  simp only [World.size_alloc] at L0
  have HK := hid hk
  have HC := hid hc
  have HW := hid hw
  have C1 := hid (specSeen_any k b c _ (hk.below b0) hw (hc.below b0))
  unfold KerV.val CatL.val at C1
  unfold KerV.val CatL.val
  obtain ⟨x0, x1⟩ := A0.two
  obtain ⟨y0, y1⟩ := L0.two
  clear hk hw hc
  go_enter Tryz.func18, Tryz.ntmps18
  go_wp2_with fail
  refine C1.out.mono ?_
  rintro e w1 ⟨v, rfl, o1, hb1⟩
  have A1 := A0.below hb1
  have L1 := L0.below hb1
  have B1 := then_ b0 hb1
  obtain ⟨L, hL⟩ : ∃ L, L = seenL k b c := ⟨_, rfl⟩
  rw [← hL] at o1
  obtain ⟨la, lc, eg⟩ := ownsRow_shape o1
  subst eg
  have IL := hid (OwnI.lies o1).ints
  have LL : L.length ≤ 271 := by rw [hL]; exact seenL_len k b c
  have HL := hid hL
  clear x0 x1 y0 y1 C1 A0 L0 b0 hb1 o1 hL
  have FIN : Hid (∀ wr : World, Below w.heap.size w wr → Calls Tryz.prog 23 #[.agg #[.slice k.ta k.tn k.tk, .slice k.oa k.on k.ok]] wr fun e w' => e = .returned (.bool (kerOk k)) ∧ Below wr.heap.size wr w') := hid (fun wr h => specKer_any k wr (HK.out.below h) (fun i hi => (HW.out i hi).1))
  have FIL : Hid (∀ wr : World, Below w.heap.size w wr → Calls Tryz.prog 24 #[.agg #[.int .i64 b, .slice c.a c.n c.k]] wr fun e w' => e = .returned (.bool (labOkV b c)) ∧ Below wr.heap.size wr w') := hid (fun wr h => specLab_v b c wr (HC.out.below h))
  go_wp2
  go_loopw [6] (fun i wr => ∃ r : Nat, r ≤ L.length ∧ i = .int .i64 r ∧ Hid (∀ j, j < k.on → j ≠ 0 → (∃ p, p < r ∧ nthI L p = (k.O j).id) → tidyAt k b c j = true) ∧ Blk wr w.heap.size (.cells #[.slice k.ta k.tn k.tk, .slice k.oa k.on k.ok] 36) ∧ Blk wr (w.heap.size + 1) (.cells #[.int .i64 b, .slice c.a c.n c.k] 40) ∧ Below w1.heap.size w1 wr) (fun i _ => L.length - (intOf i).toNat)
  case atStart => exact ⟨0, Nat.zero_le _, rfl, hid (fun j _ _ ⟨p, hp, _⟩ => by omega), A1, L1, Below.refl _ _⟩
  case round =>
    clear A1 L1
    obtain ⟨r, hr, rfl, HT, A, Lb, hB⟩ := hrel
    have BB := then_ B1 hB
    by_cases hlt : r < L.length
    · have ok : kerOk k = true := by
        cases t : kerOk k with
        | true => rfl
        | false => rw [HL.out, seenL_no1 t] at hlt; simp at hlt
      have lk : labOkV b c = true := by
        cases t : labOkV b c with
        | true => rfl
        | false => rw [HL.out, seenL_no2 t] at hlt; simp at hlt
      have EL : L = seenTo k.O b c k.on := by rw [HL.out, seenL_yes ok lk]
      obtain ⟨j, hj, js, je, jf⟩ := seen_at (b := b) (c := c) ok (r := r) (by rw [← EL]; exact hlt)
      rw [← EL] at je jf
      obtain ⟨ib, io, eia, hib, hci⟩ := IL.out (by omega)
      subst eia
      have HI : Hid (∀ W, Below wr.heap.size wr W → W.cell? ⟨ib, io + r, none⟩ = some (.int .i64 (nthI L r))) := hid (fun W h => ((hB.trans (h.mono hB.size)).cell (p := ⟨ib, io + r, none⟩) hib).trans (hci r hlt))
      obtain ⟨ob, off, ea, hob, hcc⟩ := (HK.out.2.2.2.below BB) (by omega)
      have HU : Hid (∀ W, Below wr.heap.size wr W → W.cell? ⟨ob, off + j * 10 + 2, none⟩ = some (.int .i64 (k.O j).up)) := hid (fun W h => (h.cell (p := ⟨ob, off + j * 10 + 2, none⟩) hob).trans (hcc j hj).1.c2)
      have PF : Hid (∀ W, Below wr.heap.size wr W → Calls Tryz.prog 38 #[.agg #[.slice k.ta k.tn k.tk, .slice (some ⟨ob, off, none⟩) k.on k.ok], .int .i64 (nthI L r)] W fun e w' => ∃ v, e = .returned v ∧ v = .int .i64 j ∧ Below W.heap.size W w') := hid (fun W h => by
        have := l3Find_any k (nthI L r) W (HK.out.below (then_ BB h))
        rw [jf] at this
        unfold KerV.val at this
        rw [ea] at this
        exact this.mono fun e w' ⟨h1, h2⟩ => ⟨_, h1, rfl, h2⟩)
      have OK := hid ok
      have LK := hid lk
      have HEL := hid EL
      have JE := hid je
      have i1 : (r : Int) < (L.length : Int) := by omega
      have j1 : (j : Int) < (k.on : Int) := by omega
      rw [ea] at A
      have HA : Hid (∀ W, Below wr.heap.size wr W → Blk W w.heap.size (.cells #[.slice k.ta k.tn k.tk, .slice (some ⟨ob, off, none⟩) k.on k.ok] 36)) := hid (fun W h => A.below h)
      have V0 : Below wr.heap.size wr wr.drew := (Below.refl _ wr).drew
      have EA := hid ea
      have HI2 : Hid (∀ W, Below wr.heap.size wr W → IntsAt W (some ⟨ib, io, none⟩) L.length (nthI L)) := hid (fun W h => IL.out.below (then_ hB h))
      have JS := hid js
      have LB := hid Lb
      have HBB := hid BB
      have hHB := hid hB
      clear hci hcc ea ok lk EL jf je js Lb A BB hB
      go_wp2
      refine wp_region_G 12 (fun W => Below wr.heap.size wr W) (by kernel_rfl) ?_
      refine wpAnyG_takeD (i := 0) (d := 17) (.pointer (some ⟨w.heap.size, 1, none⟩)) rfl rfl (by kernel_rfl) (by kernel_rfl) (by kernel_rfl) (by kernel_rfl) (by kernel_rfl) (by kernel_rfl) (fun _ _ _ h => h) (Or.inl ⟨by rfl, fun W h => by go_simp⟩) V0 ?_
      simp only [Act.put, List.setIfInBounds_toArray, List.set_cons_zero, List.set_cons_succ]
      refine wpAnyG_takeD (i := 1) (d := 18) (.slice (some ⟨ob, off, none⟩) k.on k.ok) rfl rfl (by kernel_rfl) (by kernel_rfl) (by kernel_rfl) (by kernel_rfl) (by kernel_rfl) (by kernel_rfl) (fun _ _ _ h => h) (Or.inl ⟨by rfl, fun W h => by obtain ⟨q0, q1⟩ := (HA.out W h).two; go_simp⟩) V0 ?_
      simp only [Act.put, List.setIfInBounds_toArray, List.set_cons_zero, List.set_cons_succ]
      refine wpAnyG_takeD (i := 2) (d := 19) (.agg #[.slice k.ta k.tn k.tk, .slice (some ⟨ob, off, none⟩) k.on k.ok]) rfl rfl (by kernel_rfl) (by kernel_rfl) (by kernel_rfl) (by kernel_rfl) (by kernel_rfl) (by kernel_rfl) (fun _ _ _ h => h) (Or.inl ⟨by rfl, fun W h => by obtain ⟨q0, q1⟩ := (HA.out W h).two; go_simp⟩) V0 ?_
      simp only [Act.put, List.setIfInBounds_toArray, List.set_cons_zero, List.set_cons_succ]
      refine wpAnyG_takeD (i := 3) (d := 20) (.slice (some ⟨ib, io, none⟩) L.length lc) rfl rfl (by kernel_rfl) (by kernel_rfl) (by kernel_rfl) (by kernel_rfl) (by kernel_rfl) (by kernel_rfl) (fun _ _ _ h => h) (Or.inl ⟨by rfl, fun W h => by go_simp⟩) V0 ?_
      simp only [Act.put, List.setIfInBounds_toArray, List.set_cons_zero, List.set_cons_succ]
      refine wpAnyG_takeD (i := 4) (d := 21) (.int .i64 r) rfl rfl (by kernel_rfl) (by kernel_rfl) (by kernel_rfl) (by kernel_rfl) (by kernel_rfl) (by kernel_rfl) (fun _ _ _ h => h) (Or.inl ⟨by rfl, fun W h => by go_simp⟩) V0 ?_
      simp only [Act.put, List.setIfInBounds_toArray, List.set_cons_zero, List.set_cons_succ]
      refine wpAnyG_takeD (i := 5) (d := 22) (.pointer (some ⟨ib, io + r, none⟩)) rfl rfl (by kernel_rfl) (by kernel_rfl) (by kernel_rfl) (by kernel_rfl) (by kernel_rfl) (by kernel_rfl) (fun _ _ _ h => h) (Or.inl ⟨by rfl, fun W h => by go_simp⟩) V0 ?_
      simp only [Act.put, List.setIfInBounds_toArray, List.set_cons_zero, List.set_cons_succ]
      refine wpAnyG_takeD (i := 6) (d := 23) (.int .i64 (nthI L r)) rfl rfl (by kernel_rfl) (by kernel_rfl) (by kernel_rfl) (by kernel_rfl) (by kernel_rfl) (by kernel_rfl) (fun _ _ _ h => h) (Or.inl ⟨by rfl, fun W h => by have q0 := HI.out W h; go_simp⟩) V0 ?_
      simp only [Act.put, List.setIfInBounds_toArray, List.set_cons_zero, List.set_cons_succ]
      refine wpAnyG_one (i := 7) (by kernel_rfl) rfl ?_
      intro K hK
      refine step_call2g (by rfl) 38 _ _ _ (by rfl) EF _ _ (by rfl) (by rfl) (some 24) (by rfl) _ (PF.out _ V0) ?_
      rintro v w3 ⟨rfl, h3⟩
      have V1 := then_ V0 h3
      refine hK.out _ _ (fun _ => V1) ?_
      clear hK K
      simp only [Act.put, List.setIfInBounds_toArray, List.set_cons_zero, List.set_cons_succ]
      refine wpAnyG_takeD (i := 8) (d := 25) (.pointer (some ⟨ob, off + j * 10, none⟩)) rfl rfl (by kernel_rfl) (by kernel_rfl) (by kernel_rfl) (by kernel_rfl) (by kernel_rfl) (by kernel_rfl) (fun _ _ _ h => h) (Or.inl ⟨by rfl, fun W h => by go_simp⟩) V1 ?_
      simp only [Act.put, List.setIfInBounds_toArray, List.set_cons_zero, List.set_cons_succ]
      refine wpAnyG_takeD (i := 9) (d := 26) (.pointer (some ⟨ob, off + j * 10 + 2, none⟩)) rfl rfl (by kernel_rfl) (by kernel_rfl) (by kernel_rfl) (by kernel_rfl) (by kernel_rfl) (by kernel_rfl) (fun _ _ _ h => h) (Or.inl ⟨by rfl, fun W h => by go_simp⟩) V1 ?_
      simp only [Act.put, List.setIfInBounds_toArray, List.set_cons_zero, List.set_cons_succ]
      refine wpAnyG_takeD (i := 10) (d := 27) (.int .i64 (k.O j).up) rfl rfl (by kernel_rfl) (by kernel_rfl) (by kernel_rfl) (by kernel_rfl) (by kernel_rfl) (by kernel_rfl) (fun _ _ _ h => h) (Or.inl ⟨by rfl, fun W h => by have q0 := HU.out W h; go_simp⟩) V1 ?_
      simp only [Act.put, List.setIfInBounds_toArray, List.set_cons_zero, List.set_cons_succ]
      refine wpAnyG_takeD (i := 11) (d := 7) (.int .i64 (k.O j).up) rfl rfl (by kernel_rfl) (by kernel_rfl) (by kernel_rfl) (by kernel_rfl) (by kernel_rfl) (by kernel_rfl) (fun _ _ _ h => h) (Or.inl ⟨by rfl, fun W h => by go_simp⟩) V1 ?_
      simp only [Act.put, List.setIfInBounds_toArray, List.set_cons_zero, List.set_cons_succ]
      refine wpAnyG_done (by kernel_rfl) ?_ _
      have IL3 := hid (HI2.out w3 V1)
      have A3 := HA.out w3 V1
      have L3 := LB.out.below V1
      have B3 := then_ hHB.out V1
      rw [← EA.out] at A3
      clear V0 V1 h3 HA HU HI PF HI2 LB EA hHB
      have BW := then_ B1 B3
      by_cases j0 : j = 0
      · have u0 : (k.O j).up = 0 := by rw [j0]; exact (objsOk_root (kerOk_objs OK.out)).2.2
        rw [u0]
        clear u0
        go_wp2
        refine ⟨⟨r + 1, by omega, by go_num, hid (fun i hi i0 hp => ?_), A3, L3, B3⟩, by simp [intOf]; omega⟩
        obtain ⟨p, hp, e⟩ := hp
        by_cases ep : p = r
        · subst ep
          exfalso
          rw [JE.out] at e
          have := objsOk_rises (kerOk_objs OK.out) 0 i (by omega) hi
          rw [j0] at e
          simp only at this
          omega
        · exact HT.out i hi i0 ⟨p, by omega, e⟩
      · obtain ⟨un, bl, be, hb⟩ := has_box (b := b) (c := c) OK.out hj j0
        rw [← HEL.out] at hb
        have un' : ((k.O j).up == 0) = false := by simpa using un
        have TA := hid (tidyAt_seen JS.out)
        have CH := hid (l1Has_any (some ⟨ib, io, none⟩) L.length lc (nthI L) (k.O j).up w3 (by unfold maxLen; omega) IL3.out)
        rw [hb] at CH
        have JE' : Hid (∀ i, i < k.on → nthI L r = (k.O i).id → i = j) := hid (fun i hi e => by
          rw [JE.out] at e
          rcases Nat.lt_trichotomy i j with h | h | h
          · have := objsOk_rises (kerOk_objs OK.out) i j h hj; simp only at this; omega
          · exact h
          · have := objsOk_rises (kerOk_objs OK.out) j i h hi; simp only at this; omega)
        have un2 : ((k.O j).up != 0) = true := by simpa using un
        clear hb be bl
        cases s2 : seenO (k.O (boxI k j)) b c with
        | true =>
          rw [s2] at CH TA
          clear s2
          go_wp2_with fail
          refine CH.out.mono ?_
          rintro e w4 ⟨rfl, rfl⟩
          go_wp2
          refine ⟨⟨r + 1, by omega, by go_num, hid (fun i hi i0 hp => ?_), A3, L3, B3⟩, by simp [intOf]; omega⟩
          obtain ⟨p, hp, e⟩ := hp
          by_cases ep : p = r
          · subst ep
            rw [JE'.out i hi e]
            exact TA.out
          · exact HT.out i hi i0 ⟨p, by omega, e⟩
        | false =>
          rw [s2] at CH TA
          clear s2
          have TF : Hid (tidyB k b c = false) := hid (by
            have e : j = j - 1 + 1 := by omega
            have h1 := TA.out
            rw [e] at h1
            exact tidyB_at (i := j - 1) (by omega) h1)
          go_wp2_with fail
          refine CH.out.mono ?_
          rintro e w4 ⟨rfl, rfl⟩
          go_wp2
          go_ret
          exact ⟨ret_bool TF.out.symm, BW⟩
    · have i1 : ¬ (r : Int) < (L.length : Int) := by omega
      have e : r = L.length := by omega
      obtain ⟨x0, x1⟩ := A.two
      obtain ⟨y0, y1⟩ := Lb.two
      have TT : Hid (kerOk k = true → labOkV b c = true → tidyB k b c = true) := hid (fun h1 h2 => tidyB_mk h1 h2 fun i hi => by
        cases s : seenO (k.O (i + 1)) b c with
        | false => exact tidyAt_root s
        | true =>
          obtain ⟨p, hp, ep⟩ := seen_there (k := k) hi s
          have EL : L = seenTo k.O b c k.on := by rw [HL.out, seenL_yes h1 h2]
          rw [← EL] at hp ep
          exact HT.out (i + 1) hi (by omega) ⟨p, by omega, ep⟩)
      clear HT e
      go_wp2_with fail
      refine (FIN.out wr BB).mono ?_
      rintro e w4 ⟨rfl, hb4⟩
      have B4 := then_ BB hb4
      have L4 := Lb.below hb4
      clear x0 x1 y0 y1 hb4 A Lb
      obtain ⟨y0, y1⟩ := L4.two
      cases t : kerOk k with
      | false =>
        go_wp2
        go_ret
        exact ⟨ret_bool (tidyB_no1 t).symm, B4⟩
      | true =>
        have TT2 := hid (TT.out t)
        clear TT
        go_wp2_with fail
        refine (FIL.out w4 B4).mono ?_
        rintro e w5 ⟨rfl, hb5⟩
        have B5 := then_ B4 hb5
        clear y0 y1 L4 hb5
        cases t2 : labOkV b c with
        | false =>
          go_wp2
          go_ret
          exact ⟨ret_bool (tidyB_no2 t2).symm, B5⟩
        | true =>
          go_wp2
          go_ret
          exact ⟨ret_bool (TT2.out t2).symm, B5⟩
end Go.Proofs.YtgkfcjcdfbmbjaaGreat
