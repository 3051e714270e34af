/- Texts put together. -/
import Derived.Test.YtaaeeaknjlammaaGreatDoorZI
import Derived.Test.YtaaeeaknjlammaaGreatDoorVW
import Derived.Test.YtaaeeaknjlammaaGreatDoorZV
import Derived.Test.YtaaeeaknjlammaaGreatDoorTT
/- ViewOf of the program answers the plain text. -/
namespace Go.Proofs.YtaaeeaknjlammaaGreatDoor
open Go Go.RowKit Go.Deep Go.Maps Go.BigFrame Go.Shelf

theorem nums_nth (L : List Int) : (List.range L.length).map (nthI L) = L := by
  apply List.ext_getElem
  · simp
  · intro i h1 h2
    simp [nthI, h2]

theorem nthI_mem {L : List Int} {i : Nat} (h : i < L.length) : nthI L i ∈ L := by
  unfold nthI
  rw [List.getD_eq_getElem?_getD, List.getElem?_eq_getElem h]
  exact List.getElem_mem h

set_option maxRecDepth 100000 in
set_option maxHeartbeats 16000000 in
theorem implView_any (k : KerV) (b : Int) (c : CatL) (w : World) (hk : k.at w) (hcap : k.on ≤ k.ok) (hw : k.wfs) (hc : c.at w) (tab : Tab w) :
    Calls Tryz.prog 10 #[k.val, .agg #[.int .i64 b, c.val]] w fun e w' => e = .returned (.string (vText k b c)) ∧ Below w.heap.size w w' := by
  have EKI : ∀ args w, (callFunc 37 args).run Tryz.prog w = .ok (.enter 37 args) w := enters_of Tryz.func37 (by kernel_rfl) rfl
  have EOB : ∀ args w, (callFunc 36 args).run Tryz.prog w = .ok (.enter 36 args) w := enters_of Tryz.func36 (by kernel_rfl) rfl
  have b0 : Below w.heap.size w ((w.alloc (.cells #[.slice k.ta k.tn k.tk, .slice k.oa k.on k.ok] 35)).alloc (.cells #[.int .i64 b, .slice c.a c.n c.k] 39)) := ((Below.refl _ w).alloc (Nat.le_refl _) _).alloc (by simp) _
  have A0 := (Blk.new w (.cells #[.slice k.ta k.tn k.tk, .slice k.oa k.on k.ok] 35)).alloc (.cells #[.int .i64 b, .slice c.a c.n c.k] 39)
  have L0 := Blk.new (w.alloc (.cells #[.slice k.ta k.tn k.tk, .slice k.oa k.on k.ok] 35)) (.cells #[.int .i64 b, .slice c.a c.n c.k] 39)
  simp only [World.size_alloc] at L0
  have HK := hid hk
  have HC := hid hc
  have HW := hid hw
  have HTab := hid tab
  have C1 := hid (viewOk_any k b c _ (hk.below b0) hcap hw (hc.below b0))
  unfold KerV.val CatL.val at C1
  unfold KerV.val CatL.val
  obtain ⟨x0, x1⟩ := A0.two
  obtain ⟨y0, y1⟩ := L0.two
  clear hk hw hc tab
  go_enter Tryz.func10, Tryz.ntmps10
  go_wp2_with fail
  refine C1.out.mono ?_
  rintro e w1 ⟨rfl, hb1⟩
  have A1 := A0.below hb1
  have L1 := L0.below hb1
  have B1 := then_ b0 hb1
  clear x0 x1 y0 y1 C1 A0 L0 b0 hb1
  obtain ⟨x0, x1⟩ := A1.two
  obtain ⟨y0, y1⟩ := L1.two
  cases t : (kerOk k && labOkV b c) with
  | false =>
    have E : vText k b c = ByteArray.mk #[] := by
      have h : ¬ (kerOk k = true ∧ labOkV b c = true) := fun h => by rw [h.1, h.2] at t; cases t
      rw [vText, if_neg h]
    go_wp2
    go_ret
    exact ⟨ret_str E.symm, B1⟩
  | true =>
  obtain ⟨t1, t2⟩ := (Bool.and_eq_true _ _).mp t
  have KT : Hid (vText k b c = ⟨(vHead b c ++ vThr k b c k.tn ++ vObj k b c k.on).toArray⟩) := hid (by rw [vText, if_pos ⟨t1, t2⟩])
  have OK := hid t1
  have LK := hid t2
  obtain ⟨tn1, tn9, on2⟩ := ker_lens t1
  obtain ⟨tb, toff, ea, _, _⟩ := HK.out.2.2.1 (by omega)
  obtain ⟨ob, ooff, eo, _, _⟩ := HK.out.2.2.2 (by have := (objsOk_out (kerOk_objs t1)).1; omega)
  have C2 := hid (viewing_any k b c w1 (HK.out.below B1) t1 HW.out)
  unfold KerV.val viewV CatL.val at C2
  have HEO := hid eo
  have HTH : Hid (∀ W, Below w.heap.size w W → ThrsAt W (some ⟨tb, toff, none⟩) k.tn k.T) := hid (fun W h => by have := HK.out.2.2.1.below h; rw [ea] at this; exact this)
  have HOB : Hid (∀ W, Below w.heap.size w W → ObjsAt W (some ⟨ob, ooff, none⟩) k.on k.O) := hid (fun W h => by have := HK.out.2.2.2.below h; rw [eo] at this; exact this)
  have HEA := hid ea
  rw [eo] at C2 x1
  clear t t1 t2 ea eo
  go_wp2_with fail
  refine C2.out.mono ?_
  rintro e w2 ⟨m, nb, kv, rfl, hN, hb2⟩
  have HN := hid hN
  have B2 := then_ B1 hb2
  have A2 := A1.below hb2
  have L2 := L1.below hb2
  have bP : Below w2.heap.size w2 (w2.alloc (.cells #[.int .i64 b, .slice c.a c.n c.k, .slice k.ta k.tn k.tk, .slice (some ⟨ob, ooff, none⟩) k.on k.ok, .map (some m)] 73)) := (Below.refl _ w2).alloc (Nat.le_refl _) _
  have P0 := Blk.new w2 (.cells #[.int .i64 b, .slice c.a c.n c.k, .slice k.ta k.tn k.tk, .slice (some ⟨ob, ooff, none⟩) k.on k.ok, .map (some m)] 73)
  have bQ : Below w2.heap.size w2 ((w2.alloc (.cells #[.int .i64 b, .slice c.a c.n c.k, .slice k.ta k.tn k.tk, .slice (some ⟨ob, ooff, none⟩) k.on k.ok, .map (some m)] 73)).alloc (.cells #[.pointer none, .slice none 0 0] 80)) := bP.alloc bP.size _
  have PG := hid (Pg.new (w2.alloc (.cells #[.int .i64 b, .slice c.a c.n c.k, .slice k.ta k.tn k.tk, .slice (some ⟨ob, ooff, none⟩) k.on k.ok, .map (some m)] 73)))
  simp only [World.size_alloc] at PG
  have P1 := P0.alloc (.cells #[.pointer none, .slice none 0 0] 80)
  have KEEP : Hid (∀ W, Below (w2.heap.size + 1) ((w2.alloc (.cells #[.int .i64 b, .slice c.a c.n c.k, .slice k.ta k.tn k.tk, .slice (some ⟨ob, ooff, none⟩) k.on k.ok, .map (some m)] 73)).alloc (.cells #[.pointer none, .slice none 0 0] 80)) W → Blk W w.heap.size (.cells #[.slice k.ta k.tn k.tk, .slice k.oa k.on k.ok] 35) ∧ Blk W (w.heap.size + 1) (.cells #[.int .i64 b, .slice c.a c.n c.k] 39) ∧ Blk W w2.heap.size (.cells #[.int .i64 b, .slice c.a c.n c.k, .slice k.ta k.tn k.tk, .slice (some ⟨ob, ooff, none⟩) k.on k.ok, .map (some m)] 73) ∧ Below w2.heap.size w2 W ∧ Below w.heap.size w W) := hid (fun W h => by
    have h2 : Below w2.heap.size w2 W := bQ.trans (h.mono (by omega))
    exact ⟨A2.below h2, L2.below h2, (h.block _ (by omega)).trans P1, h2, then_ B2 h2⟩)
  have V0 : Below (w2.heap.size + 1) ((w2.alloc (.cells #[.int .i64 b, .slice c.a c.n c.k, .slice k.ta k.tn k.tk, .slice (some ⟨ob, ooff, none⟩) k.on k.ok, .map (some m)] 73)).alloc (.cells #[.pointer none, .slice none 0 0] 80)) ((w2.alloc (.cells #[.int .i64 b, .slice c.a c.n c.k, .slice k.ta k.tn k.tk, .slice (some ⟨ob, ooff, none⟩) k.on k.ok, .map (some m)] 73)).alloc (.cells #[.pointer none, .slice none 0 0] 80)) := Below.refl _ _
  have szw := B2.size
  obtain ⟨k0, k1, k2, k3, k4⟩ := KEEP.out _ V0
  have CT := hid (txt_i b c _ (HC.out.below k4) LK.out (HTab.out.below k4))
  unfold CatL.val at CT
  clear x0 x1 y0 y1 hN hb2 C2 A1 L1 B1 A2 L2 B2 bP bQ P0 P1
  obtain ⟨x0, x1⟩ := k0.two
  obtain ⟨y0, y1⟩ := k1.two
  clear k0 k1 k2 k3 k4
  go_wp2_with fail
  generalize hV : (w2.alloc (.cells #[.int .i64 b, .slice c.a c.n c.k, .slice k.ta k.tn k.tk, .slice (some ⟨ob, ooff, none⟩) k.on k.ok, .map (some m)] 73)).alloc (.cells #[.pointer none, .slice none 0 0] 80) = V at *
  refine CT.out.mono ?_
  rintro e w3 ⟨rfl, h3⟩
  have bU : Below w3.heap.size w3 (w3.alloc (.cells #[.string (ByteArray.mk #[118, 105, 101, 119]), .string ⟨(lb b c).toArray⟩] 9)) := (Below.refl _ w3).alloc (Nat.le_refl _) _
  have OU := own2 w3 w3.heap.size (Nat.le_refl _) (ByteArray.mk #[118, 105, 101, 119]) ⟨(lb b c).toArray⟩
  obtain ⟨g1, g2, g3⟩ := OwnS.cells OU
  have wl : lineL (wordsL [ByteArray.mk #[118, 105, 101, 119], ⟨(lb b c).toArray⟩]) = vHead b c := by simp [wordsL, vHead, viewW]
  have hl3 := vHead_len LK.out
  have D3 := then_ h3 bU
  have CLI := hid (line_any (w2.heap.size + 1) (w2.heap.size + 1) [] w3.heap.size 2 [ByteArray.mk #[118, 105, 101, 119], ⟨(lb b c).toArray⟩] _ (PG.out.below D3) g1 g3 (by simp) g2 (by simp) (by rw [wl]; omega))
  rw [wl, List.nil_append] at CLI
  have hpg := PG.out.lt
  have HD3 := hid D3
  clear x0 x1 y0 y1 CT h3 bU OU g1 g2 g3 wl hl3 D3 PG
  go_wp2_with fail
  refine CLI.out.mono ?_
  rintro e w4 ⟨rfl, p4, b4, k4⟩
  have P4 := hid p4
  have B4 : Below (w2.heap.size + 1) V w4 := (HD3.out.mono (by omega)).trans b4
  clear p4 b4 k4 CLI HD3 V0
  obtain ⟨x0, x1⟩ := (KEEP.out w4 B4).1.two
  rw [HEA.out] at x0
  have e4 : vHead b c = vHead b c ++ vThr k b c 0 := by simp [vThr]
  go_wp2
  clear x0 x1
  go_loopw [25] (fun i wr => ∃ q : Nat, q ≤ k.tn ∧ i = .int .i64 q ∧ Hid (Pg (w2.heap.size + 1) (w2.heap.size + 1) (vHead b c ++ vThr k b c q) wr) ∧ Below (w2.heap.size + 1) V wr) (fun i _ => k.tn - (intOf i).toNat)
  case atStart => exact ⟨0, Nat.zero_le _, rfl, hid (by rw [← e4]; exact P4.out), B4⟩
  case round =>
    clear P4 B4 e4
    obtain ⟨q, hq, rfl, HP, hB⟩ := hrel
    obtain ⟨K0, K1, K2, K3, BW⟩ := KEEP.out wr hB
    by_cases hlt : q < k.tn
    · obtain ⟨_, _, e1, hlt0, hcc⟩ := (HTH.out wr BW) (by omega)
      cases e1
      obtain ⟨⟨q0, q1, q2, q3, q4, q5, q6⟩, ht⟩ := hcc q hlt
      have i1 : (q : Int) < (k.tn : Int) := by omega
      simp only [CatL.val, IntL.val] at q2 q4 q5
      have bC : Below wr.heap.size wr (wr.alloc (.cells #[.int .i64 (k.T q).id, .int .i64 (k.T q).b1, .slice (k.T q).c1.a (k.T q).c1.n (k.T q).c1.k, .int .i64 (k.T q).b2, .slice (k.T q).c2.a (k.T q).c2.n (k.T q).c2.k, .slice (k.T q).own.a (k.T q).own.n (k.T q).own.k, .int .i64 (k.T q).made] 54)) := (Below.refl _ wr).alloc (Nat.le_refl _) _
      have XV := Blk.new wr (.cells #[.int .i64 (k.T q).id, .int .i64 (k.T q).b1, .slice (k.T q).c1.a (k.T q).c1.n (k.T q).c1.k, .int .i64 (k.T q).b2, .slice (k.T q).c2.a (k.T q).c2.n (k.T q).c2.k, .slice (k.T q).own.a (k.T q).own.n (k.T q).own.k, .int .i64 (k.T q).made] 54)
      have KV := K2.alloc (.cells #[.int .i64 (k.T q).id, .int .i64 (k.T q).b1, .slice (k.T q).c1.a (k.T q).c1.n (k.T q).c1.k, .int .i64 (k.T q).b2, .slice (k.T q).c2.a (k.T q).c2.n (k.T q).c2.k, .slice (k.T q).own.a (k.T q).own.n (k.T q).own.k, .int .i64 (k.T q).made] 54)
      have CF := hid (feels_any b c (k.T q) _ ((HC.out.below BW).below bC) (ht.below bC) (ker_thr OK.out hlt) LK.out)
      unfold ThrV.val CatL.val IntL.val at CF
      have hlw := HP.out.lt
      have HBC := hid bC
      have HTt := hid ht
      obtain ⟨y0, y1, y2, y3, y4, y5, y6⟩ := XV.seven
      obtain ⟨z0, z1, z2, z3, z4⟩ := KV.five
      clear hcc ht K0 K1 K2 K3 KV
      go_wp2_with fail
      refine CF.out.mono ?_
      rintro e w5 ⟨rfl, h5⟩
      have D5 := then_ HBC.out h5
      have X5 := XV.below h5
      have B5 : Below (w2.heap.size + 1) V w5 := hB.trans (D5.mono (by omega))
      clear q0 q1 q2 q3 q4 q5 q6 y0 y1 y2 y3 y4 y5 y6 z0 z1 z2 z3 z4 CF XV bC h5
      cases hf : feltT (k.T q) b c with
      | false =>
        have EQ := hid (vThr_no (k := k) hf)
        have P5 := hid (HP.out.below D5)
        clear hf
        go_wp2
        exact ⟨⟨q + 1, by omega, by go_num, hid (by rw [EQ.out]; exact P5.out), B5⟩, by simp [intOf]; omega⟩
      | true =>
        have EQ := hid (vThr_yes (k := k) hf)
        have ll := vThr_len (b := b) (c := c) OK.out hq
        have l0 := vHead_len LK.out
        have CL := hid (pthread_any (w2.heap.size + 1) (w2.heap.size + 1) (vHead b c ++ vThr k b c q) (k.T q) w5 (HP.out.below D5) (HTt.out.below D5) (ker_thr OK.out hlt) (HTab.out.below (then_ BW D5)) (by rw [List.length_append]; omega))
        rw [List.append_assoc, ← EQ.out] at CL
        unfold ThrV.val CatL.val IntL.val at CL
        obtain ⟨y0, y1, y2, y3, y4, y5, y6⟩ := X5.seven
        clear hf ll l0
        go_wp2_with fail
        refine CL.out.mono ?_
        rintro e w6 ⟨rfl, p6, b6, k6⟩
        have P6 := hid p6
        have B6 : Below (w2.heap.size + 1) V w6 := B5.trans b6
        clear p6 b6 k6 CL y0 y1 y2 y3 y4 y5 y6
        go_wp2
        exact ⟨⟨q + 1, by omega, by go_num, P6, B6⟩, by simp [intOf]; omega⟩
    · have i1 : ¬ (q : Int) < (k.tn : Int) := by omega
      obtain rfl : q = k.tn := by omega
      obtain ⟨x0, x1⟩ := K0.two
      rw [HEO.out] at x1
      have e5 : vHead b c ++ vThr k b c k.tn = vHead b c ++ vThr k b c k.tn ++ vObj k b c 0 := by simp [vObj]
      go_wp2
      clear x0 x1 i1 hlt hq K0 K1 K2 K3
      go_loopw [39] (fun i wr => ∃ q : Nat, q ≤ k.on ∧ i = .int .i64 q ∧ Hid (Pg (w2.heap.size + 1) (w2.heap.size + 1) (vHead b c ++ vThr k b c k.tn ++ vObj k b c q) wr) ∧ Below (w2.heap.size + 1) V wr) (fun i _ => k.on - (intOf i).toNat)
      case atStart => exact ⟨0, Nat.zero_le _, rfl, hid (by rw [← e5]; exact HP.out), hB⟩
      case round =>
        clear HP hB BW e5
        obtain ⟨q, hq, rfl, HP, hB⟩ := hrel
        obtain ⟨K0, K1, K2, K3, BW⟩ := KEEP.out wr hB
        by_cases hlt : q < k.on
        · obtain ⟨_, _, e1, hlt0, hcc⟩ := (HOB.out wr BW) (by omega)
          cases e1
          obtain ⟨⟨q0, q1, q2, q3, q4, q5, q6, q7, q8, q9⟩, ht⟩ := hcc q hlt
          have i1 : (q : Int) < (k.on : Int) := by omega
          simp only [CatL.val, IntL.val, StrL.val] at q4 q6 q7 q9
          have bC : Below wr.heap.size wr (wr.alloc (.cells #[.int .i64 (k.O q).id, .int .i64 (k.O q).kind, .int .i64 (k.O q).up, .int .i64 (k.O q).b1, .slice (k.O q).c1.a (k.O q).c1.n (k.O q).c1.k, .string (k.O q).data, .slice (k.O q).items.a (k.O q).items.n (k.O q).items.k, .slice (k.O q).own.a (k.O q).own.n (k.O q).own.k, .int .i64 (k.O q).b2, .slice (k.O q).c2.a (k.O q).c2.n (k.O q).c2.k] 60)) := (Below.refl _ wr).alloc (Nat.le_refl _) _
          have XV := Blk.new wr (.cells #[.int .i64 (k.O q).id, .int .i64 (k.O q).kind, .int .i64 (k.O q).up, .int .i64 (k.O q).b1, .slice (k.O q).c1.a (k.O q).c1.n (k.O q).c1.k, .string (k.O q).data, .slice (k.O q).items.a (k.O q).items.n (k.O q).items.k, .slice (k.O q).own.a (k.O q).own.n (k.O q).own.k, .int .i64 (k.O q).b2, .slice (k.O q).c2.a (k.O q).c2.n (k.O q).c2.k] 60)
          have KV := K2.alloc (.cells #[.int .i64 (k.O q).id, .int .i64 (k.O q).kind, .int .i64 (k.O q).up, .int .i64 (k.O q).b1, .slice (k.O q).c1.a (k.O q).c1.n (k.O q).c1.k, .string (k.O q).data, .slice (k.O q).items.a (k.O q).items.n (k.O q).items.k, .slice (k.O q).own.a (k.O q).own.n (k.O q).own.k, .int .i64 (k.O q).b2, .slice (k.O q).c2.a (k.O q).c2.n (k.O q).c2.k] 60)
          have CF := hid (sees_any b c (k.O q) _ ((HC.out.below BW).below bC) (ht.below bC))
          rw [leq_seen (kerOk_objs OK.out) hlt LK.out] at CF
          unfold ObjV.val CatL.val IntL.val StrL.val at CF
          have hlw := HP.out.lt
          have hgw := HP.out.ge
          have HBC := hid bC
          have HTt := hid ht
          have NW := hid (HN.out.below K3)
          obtain ⟨y0, y1, y2, y3, y4, y5, y6, y7, y8, y9⟩ := XV.ten
          obtain ⟨z0, z1, z2, z3, z4⟩ := KV.five
          clear hcc ht K0 K1 K2 K3
          go_wp2_with fail
          refine CF.out.mono ?_
          rintro e w5 ⟨rfl, h5⟩
          have D5 := then_ HBC.out h5
          have X5 := XV.below h5
          have V5 := KV.below h5
          have B5 : Below (w2.heap.size + 1) V w5 := hB.trans (D5.mono (by omega))
          clear q0 q1 q2 q3 q4 q5 q6 q7 q8 q9 y0 y1 y2 y3 y4 y5 y6 y7 y8 y9 z0 z1 z2 z3 z4 CF XV KV bC h5
          cases hf : seenO (k.O q) b c with
          | false =>
            have EQ := hid (vObj_no (k := k) hf)
            have P5 := hid (HP.out.below D5)
            clear hf
            go_wp2
            exact ⟨⟨q + 1, by omega, by go_num, hid (by rw [EQ.out]; exact P5.out), B5⟩, by simp [intOf]; omega⟩
          | true =>
          have EQ := hid (vObj_yes (k := k) hf)
          have l0 := vHead_len LK.out
          have l1 := vThr_len (b := b) (c := c) OK.out (Nat.le_refl k.tn)
          have l2 := vObj_len (b := b) (c := c) OK.out hq
          have CKI : Hid (∀ W, Below w5.heap.size w5 W → Calls Tryz.prog 37 #[.agg #[.slice k.ta k.tn k.tk, .slice (some ⟨ob, ooff, none⟩) k.on k.ok, .map (some m)], .int .i64 (k.O q).id] W fun e w' => ∃ v, e = .returned v ∧ v = kv q ∧ Below W.heap.size W w') := hid (fun W hW => by
            have := kids_any k m nb kv w1.heap.size q W OK.out HW.out ((NW.out.below D5).below hW) hlt
            rw [HEO.out] at this
            exact this.mono fun e w' ⟨h1, h2⟩ => ⟨_, h1, rfl, h2⟩)
          obtain ⟨ob', off', eoa', NN⟩ := NW.out
          clear eoa'
          have OWK := NN.own q hlt
          obtain ⟨ka, kc, ek⟩ := ownsRow_shape OWK
          have KAT : Hid (∀ W, Below w5.heap.size w5 W → (IntL.mk ka (kidsK k q).length kc (nthI (kidsK k q))).at W) := hid (fun W hW => by
            have o1 := (OwnI.below OWK D5).below hW
            rw [ek] at o1
            exact ⟨by have := kidsK_len k q; unfold maxLen; simp only; omega, (OwnI.lies o1).ints⟩)
          have KNU : nums (IntL.mk ka (kidsK k q).length kc (nthI (kidsK k q))) = kidsK k q := nums_nth _
          have COB : Hid (∀ W, Below w5.heap.size w5 W → Calls Tryz.prog 36 #[.pointer (some ⟨w2.heap.size + 1, 0, none⟩), .agg #[.int .i64 (k.O q).id, .int .i64 (k.O q).kind, .int .i64 (k.O q).up, .int .i64 (k.O q).b1, .slice (k.O q).c1.a (k.O q).c1.n (k.O q).c1.k, .string (k.O q).data, .slice (k.O q).items.a (k.O q).items.n (k.O q).items.k, .slice (k.O q).own.a (k.O q).own.n (k.O q).own.k, .int .i64 (k.O q).b2, .slice (k.O q).c2.a (k.O q).c2.n (k.O q).c2.k], kv q] W fun e w' => ∃ v, e = .returned v ∧ Pg (w2.heap.size + 1) (w2.heap.size + 1) (vHead b c ++ vThr k b c k.tn ++ vObj k b c (q + 1)) w' ∧ Below (w2.heap.size + 1) W w' ∧ Keeps5 (w2.heap.size + 1) W w') := hid (fun W hW => by
            have hD := then_ D5 hW
            have h := pobject_any (w2.heap.size + 1) (w2.heap.size + 1) (vHead b c ++ vThr k b c k.tn ++ vObj k b c q) (k.O q) (IntL.mk ka (kidsK k q).length kc (nthI (kidsK k q))) W (HP.out.below hD) (HTt.out.below hD) (KAT.out W hW) (ker_obj OK.out hlt) (ker_id OK.out hlt) (ker_up OK.out hlt) (fun i hi => kidsK_small OK.out q _ (nthI_mem hi)) (Nat.le_trans (kidsK_len k q) (by omega)) (HTab.out.below (then_ BW hD)) (by rw [List.length_append, List.length_append]; omega) (fun W' h' => by
              have h1 := (KEEP.out W' (hB.trans ((hD.mono (by omega)).trans h'))).2.2.2.2
              exact ((HOB.out W' h1) (by omega)).choose_spec.choose_spec.2.2 q hlt |>.2.2.1.2.1)
            rw [KNU, List.append_assoc _ (vObj _ _ _ _), ← EQ.out] at h
            rw [ek]
            exact h.mono fun e w' ⟨h1, h2, h3, h4⟩ => ⟨_, h1, h2, h3, h4⟩)
          clear OWK NN KNU hf l0 l1 l2 ek KAT
          have S0 : Blk w5.drew wr.heap.size (.cells #[.int .i64 (k.O q).id, .int .i64 (k.O q).kind, .int .i64 (k.O q).up, .int .i64 (k.O q).b1, .slice (k.O q).c1.a (k.O q).c1.n (k.O q).c1.k, .string (k.O q).data, .slice (k.O q).items.a (k.O q).items.n (k.O q).items.k, .slice (k.O q).own.a (k.O q).own.n (k.O q).own.k, .int .i64 (k.O q).b2, .slice (k.O q).c2.a (k.O q).c2.n (k.O q).c2.k] 60) ∧ Blk w5.drew w2.heap.size (.cells #[.int .i64 b, .slice c.a c.n c.k, .slice k.ta k.tn k.tk, .slice (some ⟨ob, ooff, none⟩) k.on k.ok, .map (some m)] 73) := ⟨X5, V5⟩
          go_wp2
          refine wp_region_G 7 (fun W => Blk W wr.heap.size (.cells #[.int .i64 (k.O q).id, .int .i64 (k.O q).kind, .int .i64 (k.O q).up, .int .i64 (k.O q).b1, .slice (k.O q).c1.a (k.O q).c1.n (k.O q).c1.k, .string (k.O q).data, .slice (k.O q).items.a (k.O q).items.n (k.O q).items.k, .slice (k.O q).own.a (k.O q).own.n (k.O q).own.k, .int .i64 (k.O q).b2, .slice (k.O q).c2.a (k.O q).c2.n (k.O q).c2.k] 60) ∧ Blk W w2.heap.size (.cells #[.int .i64 b, .slice c.a c.n c.k, .slice k.ta k.tn k.tk, .slice (some ⟨ob, ooff, none⟩) k.on k.ok, .map (some m)] 73)) (by kernel_rfl) ?_
          refine wpAnyG_takeD (i := 0) (d := 47) (.agg #[.int .i64 (k.O q).id, .int .i64 (k.O q).kind, .int .i64 (k.O q).up, .int .i64 (k.O q).b1, .slice (k.O q).c1.a (k.O q).c1.n (k.O q).c1.k, .string (k.O q).data, .slice (k.O q).items.a (k.O q).items.n (k.O q).items.k, .slice (k.O q).own.a (k.O q).own.n (k.O q).own.k, .int .i64 (k.O q).b2, .slice (k.O q).c2.a (k.O q).c2.n (k.O q).c2.k]) rfl rfl (by kernel_rfl) (by kernel_rfl) (by kernel_rfl) (by kernel_rfl) (by kernel_rfl) (by kernel_rfl) (fun _ _ _ h => h) (Or.inl ⟨by rfl, fun W h => by obtain ⟨q0, q1, q2, q3, q4, q5, q6, q7, q8, q9⟩ := Blk.ten h.1; go_simp⟩) S0 ?_
          simp only [Act.put, List.setIfInBounds_toArray, List.set_cons_zero, List.set_cons_succ]
          refine wpAnyG_takeD (i := 1) (d := 48) (.pointer (some ⟨w2.heap.size, 2, none⟩)) rfl rfl (by kernel_rfl) (by kernel_rfl) (by kernel_rfl) (by kernel_rfl) (by kernel_rfl) (by kernel_rfl) (fun _ _ _ h => h) (Or.inl ⟨by rfl, fun W h => by go_simp⟩) S0 ?_
          simp only [Act.put, List.setIfInBounds_toArray, List.set_cons_zero, List.set_cons_succ]
          refine wpAnyG_takeD (i := 2) (d := 49) (.agg #[.slice k.ta k.tn k.tk, .slice (some ⟨ob, ooff, none⟩) k.on k.ok, .map (some m)]) rfl rfl (by kernel_rfl) (by kernel_rfl) (by kernel_rfl) (by kernel_rfl) (by kernel_rfl) (by kernel_rfl) (fun _ _ _ h => h) (Or.inl ⟨by rfl, fun W h => by obtain ⟨q0, q1, q2, q3, q4⟩ := Blk.five h.2; go_simp⟩) S0 ?_
          simp only [Act.put, List.setIfInBounds_toArray, List.set_cons_zero, List.set_cons_succ]
          refine wpAnyG_takeD (i := 3) (d := 50) (.pointer (some ⟨wr.heap.size, 0, none⟩)) rfl rfl (by kernel_rfl) (by kernel_rfl) (by kernel_rfl) (by kernel_rfl) (by kernel_rfl) (by kernel_rfl) (fun _ _ _ h => h) (Or.inl ⟨by rfl, fun W h => by go_simp⟩) S0 ?_
          simp only [Act.put, List.setIfInBounds_toArray, List.set_cons_zero, List.set_cons_succ]
          refine wpAnyG_takeD (i := 4) (d := 51) (.int .i64 (k.O q).id) rfl rfl (by kernel_rfl) (by kernel_rfl) (by kernel_rfl) (by kernel_rfl) (by kernel_rfl) (by kernel_rfl) (fun _ _ _ h => h) (Or.inl ⟨by rfl, fun W h => by obtain ⟨q0, q1, q2, q3, q4, q5, q6, q7, q8, q9⟩ := Blk.ten h.1; go_simp⟩) S0 ?_
          simp only [Act.put, List.setIfInBounds_toArray, List.set_cons_zero, List.set_cons_succ]
          refine wpAnyG_one (i := 5) (by kernel_rfl) rfl ?_
          intro K hK
          refine step_call2g (by rfl) 37 _ _ _ (by rfl) EKI _ _ (by rfl) (by rfl) (some 52) (by rfl) _ (CKI.out _ (Below.refl _ w5).drew) ?_
          rintro v w6 ⟨rfl, h6⟩
          refine hK.out _ _ (fun _ => ⟨Blk.below S0.1 h6, Blk.below S0.2 h6⟩) ?_
          clear hK K
          simp only [Act.put, List.setIfInBounds_toArray, List.set_cons_zero, List.set_cons_succ]
          have D6 : Below w5.heap.size w5 w6 := then_ (Below.refl _ w5).drew h6
          refine wpAnyG_one (i := 6) (by kernel_rfl) rfl ?_
          intro K hK
          refine step_call3g (by rfl) 36 _ _ _ _ (by rfl) EOB _ _ _ (by rfl) (by rfl) (by rfl) (some 53) (by rfl) _ (COB.out w6 D6) ?_
          rintro v w7 ⟨p7, b7, k7⟩
          refine hK.out _ _ (fun _ => ⟨k7 _ _ _ (by decide) (by omega) (X5.below D6), k7 _ _ _ (by decide) (by omega) (V5.below D6)⟩) ?_
          clear hK K
          simp only [Act.put, List.setIfInBounds_toArray, List.set_cons_zero, List.set_cons_succ]
          refine wpAnyG_done (by kernel_rfl) ?_ _
          have P7 := hid p7
          have B7 : Below (w2.heap.size + 1) V w7 := B5.trans ((D6.mono (by have := B5.size; have := D5.size; omega)).trans b7)
          clear p7 b7 k7 CKI COB S0 h6 D6
          go_wp2
          exact ⟨⟨q + 1, by omega, by go_num, P7, B7⟩, by simp [intOf]; omega⟩
        · have i1 : ¬ (q : Int) < (k.on : Int) := by omega
          obtain rfl : q = k.on := by omega
          have CS := hid (bString_T 80 (w2.heap.size + 1) (w2.heap.size + 1) (vHead b c ++ vThr k b c k.tn ++ vObj k b c k.on) wr HP.out (fun e => vHead_ne b c (List.append_eq_nil_iff.1 (List.append_eq_nil_iff.1 e).1).1))
          clear HP
          go_wp2_with fail
          refine CS.out.mono ?_
          rintro e w8 ⟨rfl, b8⟩
          have B8 := BW.trans (b8.mono (by omega))
          clear CS b8
          go_wp2
          go_ret
          exact ⟨ret_str (by rw [KT.out]; first | rfl | rw [List.append_assoc]), B8⟩
end Go.Proofs.YtaaeeaknjlammaaGreatDoor

/- ViewOf of the model answers the plain text. -/
namespace Go.Proofs.YtaaeeaknjlammaaGreatDoor
open Go Go.RowKit Go.Deep Go.Maps Go.BigFrame Go.Shelf

theorem vobj_chain (s : List UInt8) (o : ObjV) (ks : List Int) : (⟨s.toArray⟩ : ByteArray) ++ ByteArray.mk #[111, 98, 106, 101, 99, 116, 32] ++ ⟨(dc o.id).toArray⟩ ++ ByteArray.mk #[32] ++ ⟨(dc o.kind).toArray⟩ ++ ByteArray.mk #[32] ++ ⟨(dc o.up).toArray⟩ ++ ByteArray.mk #[32] ++ ⟨(lb o.b1 o.c1).toArray⟩ ++ ByteArray.mk #[32] ++ ⟨(lb o.b2 o.c2).toArray⟩ ++ ⟨(bl (nums o.own)).toArray⟩ ++ ⟨(bl ks).toArray⟩ ++ ByteArray.mk #[10] = ⟨(s ++ objX o ks).toArray⟩ := by
  refine ba_ext ?_
  rw [line_obj]
  simp [ByteArray.data_append, objW]
theorem head_chain (b : Int) (c : CatL) : ByteArray.mk #[118, 105, 101, 119, 32] ++ ⟨(lb b c).toArray⟩ ++ ByteArray.mk #[10] = ⟨(vHead b c).toArray⟩ := by
  refine ba_ext ?_
  unfold vHead
  rw [line_two]
  simp [ByteArray.data_append, viewW]
theorem felt_s (t : ThrV) (b : Int) (c : CatL) (w : World) (ht : t.at w) (hc : c.at w) (hok : thrOkV t = true) (hl : labOkV b c = true) :
    Calls Tryz.prog 21 #[.agg #[.int .i64 t.b1, t.c1.val], t.own.val, .agg #[.int .i64 b, c.val]] w fun e w' => e = .returned (.bool (feltT t b c)) ∧ Below w.heap.size w w' := by
  obtain ⟨_, _, h3, _, _⟩ := thr_small hok
  exact l1Flows_any t.b1 t.c1.a t.c1.n t.c1.k t.c1.f t.c1.g t.own.a t.own.n t.own.k t.own.h b c.a c.n c.k c.f c.g w (by have := (labOk_out h3).2.1; omega) (by have := (labOk_out hl).2.1; omega) ht.2.2.1 ht.1.2 hc.2 ht.2.2.2 (rising (labOk_out h3).2.2) (rising (labOk_out hl).2.2)
theorem specLabW (b : Int) (c : CatL) (w : World) (hc : c.at w) :
    Calls Tryz.prog 19 #[.agg #[.int .i64 b, c.val]] w fun e w' => e = .returned (.bool (labOkV b c)) ∧ Below w.heap.size w w' := specOk_any b c.a c.n c.k c.f c.g w hc.1 hc.2

set_option maxRecDepth 100000 in
set_option maxHeartbeats 16000000 in
theorem specView_any (k : KerV) (b : Int) (c : CatL) (w : World) (hk : k.at w) (hw : k.wfs) (hc : c.at w) :
    Calls Tryz.prog 7 #[k.val, .agg #[.int .i64 b, c.val]] w fun e w' => e = .returned (.string (vText k b c)) ∧ Below w.heap.size w w' := by
  have ED : ∀ args w, (callFunc 22 args).run Tryz.prog w = .ok (.enter 22 args) w := enters_of Tryz.func22 (by kernel_rfl) rfl
  have EX : ∀ args w, (callFunc 20 args).run Tryz.prog w = .ok (.enter 20 args) w := enters_of Tryz.func20 (by kernel_rfl) rfl
  have EL : ∀ args w, (callFunc 23 args).run Tryz.prog w = .ok (.enter 23 args) w := enters_of Tryz.func23 (by kernel_rfl) rfl
  have EK : ∀ args w, (callFunc 25 args).run Tryz.prog w = .ok (.enter 25 args) w := enters_of Tryz.func25 (by kernel_rfl) rfl
  have b0 : Below w.heap.size w ((w.alloc (Obj.cells #[.slice k.ta k.tn k.tk, .slice k.oa k.on k.ok] 35)).alloc (Obj.cells #[.int .i64 b, .slice c.a c.n c.k] 39)) := ((Below.refl _ w).alloc (Nat.le_refl _) _).alloc (by simp) _
  have A0 := (Blk.new w (Obj.cells #[.slice k.ta k.tn k.tk, .slice k.oa k.on k.ok] 35)).alloc (Obj.cells #[.int .i64 b, .slice c.a c.n c.k] 39)
  have L0 := Blk.new (w.alloc (Obj.cells #[.slice k.ta k.tn k.tk, .slice k.oa k.on k.ok] 35)) (Obj.cells #[.int .i64 b, .slice c.a c.n c.k] 39)
  simp only [World.size_alloc] at L0
  have HK := hid hk
  have HC := hid hc
  have C1 := hid (specKer_any k _ (hk.below b0) (fun i hi => (hw i hi).1))
  unfold KerV.val at C1
  unfold KerV.val CatL.val
  obtain ⟨x0, x1⟩ := A0.two
  clear hk hw hc
  go_enter Tryz.func7, Tryz.ntmps7
  go_wp2_with fail
  refine C1.out.mono ?_
  rintro e w1 ⟨rfl, hb1⟩
  have A1 := A0.below hb1
  have L1 := L0.below hb1
  have B1 := then_ b0 hb1
  clear x0 x1 C1 A0 L0 b0 hb1
  obtain ⟨y0, y1⟩ := L1.two
  cases t : kerOk k with
  | false =>
    have E : vText k b c = ByteArray.mk #[] := by rw [vText, if_neg (fun h => by rw [t] at h; cases h.1)]
    go_wp2
    go_ret
    exact ⟨ret_str E.symm, B1⟩
  | true =>
  have C2 := hid (specLabW b c w1 (HC.out.below B1))
  unfold CatL.val at C2
  go_wp2_with fail
  refine C2.out.mono ?_
  rintro e w2 ⟨rfl, hb2⟩
  have A2 := A1.below hb2
  have L2 := L1.below hb2
  have B2 := then_ B1 hb2
  clear y0 y1 C2 A1 L1 B1 hb2
  obtain ⟨y0, y1⟩ := L2.two
  cases t2 : labOkV b c with
  | false =>
    have E : vText k b c = ByteArray.mk #[] := by rw [vText, if_neg (fun h => by rw [t2] at h; cases h.2)]
    go_wp2
    go_ret
    exact ⟨ret_str E.symm, B2⟩
  | true =>
  have KT : Hid (vText k b c = ⟨(vHead b c ++ vThr k b c k.tn ++ vObj k b c k.on).toArray⟩) := hid (by rw [vText, if_pos ⟨t, t2⟩])
  have OK := hid t
  have LK := hid t2
  obtain ⟨tn1, tn9, on2⟩ := ker_lens t
  have CT := hid (txt_s b c w2 (HC.out.below B2) t2)
  unfold CatL.val at CT
  have HC0 := hid (head_chain b c)
  have zl : (⟨(lb b c).toArray⟩ : ByteArray).size ≤ 200 := by rw [mk_size, List.size_toArray]; exact lb_len t2
  clear t t2
  generalize (⟨(lb b c).toArray⟩ : ByteArray) = XL at *
  have lt0 : (ByteArray.mk #[118, 105, 101, 119, 32]).size = 5 := rfl
  have lt1 : (ByteArray.mk #[10]).size = 1 := rfl
  have r1 : ¬ 9223372036854775807 < (ByteArray.mk #[118, 105, 101, 119, 32]).size + XL.size := by omega
  have r2 : ¬ 9223372036854775807 < (ByteArray.mk #[118, 105, 101, 119, 32] ++ XL).size + (ByteArray.mk #[10]).size := by rw [ByteArray.size_append]; omega
  clear lt0 lt1
  go_wp2_with fail
  refine CT.out.mono ?_
  rintro e w3 ⟨rfl, hb3⟩
  have A3 := A2.below hb3
  have L3 := L2.below hb3
  have B3 := then_ B2 hb3
  have e0 : Hid (vHead b c = vHead b c ++ vThr k b c 0) := hid (by simp [vThr])
  clear y0 y1 CT A2 L2 B2 hb3
  go_wp2
  rw [HC0.out]
  clear r1 r2 zl
  go_loopw [5, 6] (fun s i wr => ∃ q : Nat, q ≤ k.tn ∧ i = .int .i64 q ∧ s = .string ⟨(vHead b c ++ vThr k b c q).toArray⟩ ∧ Blk wr w.heap.size (Obj.cells #[.slice k.ta k.tn k.tk, .slice k.oa k.on k.ok] 35) ∧ Blk wr (w.heap.size + 1) (Obj.cells #[.int .i64 b, .slice c.a c.n c.k] 39) ∧ Below w.heap.size w wr) (fun _ i _ => k.tn - (intOf i).toNat)
  case atStart => exact ⟨0, Nat.zero_le _, rfl, by rw [← e0.out], A3, L3, B3⟩
  case round =>
    clear A3 L3 B3 e0
    obtain ⟨q, hq, rfl, rfl, A, Lb, hB⟩ := hrel
    by_cases hlt : q < k.tn
    · obtain ⟨tb, off, ea, hlt0, hcc⟩ := (HK.out.2.2.1.below hB) (by omega)
      rw [ea] at A
      obtain ⟨x0, x1⟩ := A.two
      obtain ⟨⟨q0, q1, q2, q3, q4, q5, q6⟩, ht⟩ := hcc q hlt
      have i1 : (q : Int) < (k.tn : Int) := by omega
      simp only [CatL.val, IntL.val] at q2 q4 q5
      have bC : Below wr.heap.size wr (wr.alloc (Obj.cells #[.int .i64 (k.T q).id, .int .i64 (k.T q).b1, .slice (k.T q).c1.a (k.T q).c1.n (k.T q).c1.k, .int .i64 (k.T q).b2, .slice (k.T q).c2.a (k.T q).c2.n (k.T q).c2.k, .slice (k.T q).own.a (k.T q).own.n (k.T q).own.k, .int .i64 (k.T q).made] 54)) := (Below.refl _ wr).alloc (Nat.le_refl _) _
      have XC := Blk.new wr (Obj.cells #[.int .i64 (k.T q).id, .int .i64 (k.T q).b1, .slice (k.T q).c1.a (k.T q).c1.n (k.T q).c1.k, .int .i64 (k.T q).b2, .slice (k.T q).c2.a (k.T q).c2.n (k.T q).c2.k, .slice (k.T q).own.a (k.T q).own.n (k.T q).own.k, .int .i64 (k.T q).made] 54)
      have AC := A.alloc (Obj.cells #[.int .i64 (k.T q).id, .int .i64 (k.T q).b1, .slice (k.T q).c1.a (k.T q).c1.n (k.T q).c1.k, .int .i64 (k.T q).b2, .slice (k.T q).c2.a (k.T q).c2.n (k.T q).c2.k, .slice (k.T q).own.a (k.T q).own.n (k.T q).own.k, .int .i64 (k.T q).made] 54)
      have LC' := Lb.alloc (Obj.cells #[.int .i64 (k.T q).id, .int .i64 (k.T q).b1, .slice (k.T q).c1.a (k.T q).c1.n (k.T q).c1.k, .int .i64 (k.T q).b2, .slice (k.T q).c2.a (k.T q).c2.n (k.T q).c2.k, .slice (k.T q).own.a (k.T q).own.n (k.T q).own.k, .int .i64 (k.T q).made] 54)
      have CF := hid (felt_s (k.T q) b c _ (ht.below bC) ((HC.out.below hB).below bC) (ker_thr OK.out hlt) LK.out)
      unfold CatL.val IntL.val at CF
      have HT0 := hid ht
      have HBC := hid bC
      obtain ⟨a0, a1, a2, a3, a4, a5, a6⟩ := XC.seven
      obtain ⟨l0, l1⟩ := LC'.two
      clear hcc ht bC
      go_wp2_with fail
      refine CF.out.mono ?_
      rintro e V ⟨rfl, h5⟩
      have D5 := then_ HBC.out h5
      have XV := XC.below h5
      have AV := AC.below h5
      have LV := LC'.below h5
      have BV := then_ hB D5
      clear x0 x1 q0 q1 q2 q3 q4 q5 q6 a0 a1 a2 a3 a4 a5 a6 l0 l1 CF XC AC LC' A Lb h5
      cases hf : feltT (k.T q) b c with
      | false =>
        have EQ := hid (vThr_no (k := k) hf)
        rw [← ea] at AV
        clear hf ea XV
        go_wp2
        exact ⟨⟨q + 1, by omega, by go_num, by rw [EQ.out], AV, LV, BV⟩, by simp [intOf]; omega⟩
      | true =>
      obtain ⟨p1, p2, p3, p4, p5⟩ := thr_small (ker_thr OK.out hlt)
      have EQ := hid (thr_chain (vHead b c ++ vThr k b c q) (k.T q))
      rw [List.append_assoc, ← vThr_yes hf] at EQ
      have z0 : (⟨(vHead b c ++ vThr k b c q).toArray⟩ : ByteArray).size ≤ 10300 := by rw [mk_size, List.size_toArray, List.length_append]; have := vThr_len (b := b) (c := c) OK.out hq; have := vHead_len LK.out; omega
      have z1 : (⟨(dc (k.T q).id).toArray⟩ : ByteArray).size ≤ 4 := by rw [mk_size, List.size_toArray]; exact dc_len p1
      have z2 : (⟨(dc (k.T q).made).toArray⟩ : ByteArray).size ≤ 4 := by rw [mk_size, List.size_toArray]; exact dc_len p2
      have z3 : (⟨(lb (k.T q).b1 (k.T q).c1).toArray⟩ : ByteArray).size ≤ 200 := by rw [mk_size, List.size_toArray]; exact lb_len p3
      have z4 : (⟨(lb (k.T q).b2 (k.T q).c2).toArray⟩ : ByteArray).size ≤ 200 := by rw [mk_size, List.size_toArray]; exact lb_len p4
      have z5 : (⟨(bl (nums (k.T q).own)).toArray⟩ : ByteArray).size ≤ 50 := by rw [mk_size, List.size_toArray]; have := bl_len (own_small p5).2; rw [nums_len] at this; have := (own_small p5).1; omega
      have ow : ∀ i, i < (k.T q).own.n → small ((k.T q).own.h i) := fun i hi => (own_small p5).2 _ (List.mem_map.2 ⟨i, List.mem_range.2 hi, rfl⟩)
      have on10 := (own_small p5).1
      have HTt := hid (HT0.out.below D5)
      have PD1 : Hid (∀ W, Below V.heap.size V W → Calls Tryz.prog 22 #[.int .i64 (k.T q).id] W fun e w' => ∃ v, e = .returned v ∧ v = .string ⟨(dc (k.T q).id).toArray⟩ ∧ Below W.heap.size W w') := hid (fun W hW => (dec_s _ W p1).mono fun e w' ⟨h1, h2⟩ => ⟨_, h1, rfl, h2⟩)
      have PD2 : Hid (∀ W, Below V.heap.size V W → Calls Tryz.prog 22 #[.int .i64 (k.T q).made] W fun e w' => ∃ v, e = .returned v ∧ v = .string ⟨(dc (k.T q).made).toArray⟩ ∧ Below W.heap.size W w') := hid (fun W hW => (dec_s _ W p2).mono fun e w' ⟨h1, h2⟩ => ⟨_, h1, rfl, h2⟩)
      have PX1 : Hid (∀ W, Below V.heap.size V W → Calls Tryz.prog 20 #[.agg #[.int .i64 (k.T q).b1, .slice (k.T q).c1.a (k.T q).c1.n (k.T q).c1.k]] W fun e w' => ∃ v, e = .returned v ∧ v = .string ⟨(lb (k.T q).b1 (k.T q).c1).toArray⟩ ∧ Below W.heap.size W w') := hid (fun W hW => (txt_s _ (k.T q).c1 W (HTt.out.below hW).1 p3).mono fun e w' ⟨h1, h2⟩ => ⟨_, h1, rfl, h2⟩)
      have PX2 : Hid (∀ W, Below V.heap.size V W → Calls Tryz.prog 20 #[.agg #[.int .i64 (k.T q).b2, .slice (k.T q).c2.a (k.T q).c2.n (k.T q).c2.k]] W fun e w' => ∃ v, e = .returned v ∧ v = .string ⟨(lb (k.T q).b2 (k.T q).c2).toArray⟩ ∧ Below W.heap.size W w') := hid (fun W hW => (txt_s _ (k.T q).c2 W (HTt.out.below hW).2.1 p4).mono fun e w' ⟨h1, h2⟩ => ⟨_, h1, rfl, h2⟩)
      have PB : Hid (∀ W, Below V.heap.size V W → Calls Tryz.prog 23 #[.slice (k.T q).own.a (k.T q).own.n (k.T q).own.k] W fun e w' => ∃ v, e = .returned v ∧ v = .string ⟨(bl (nums (k.T q).own)).toArray⟩ ∧ Below W.heap.size W w') := hid (fun W hW => (l5List_any (k.T q).own W (HTt.out.below hW).2.2 ow (by omega)).mono fun e w' ⟨h1, h2⟩ => ⟨_, h1, rfl, h2⟩)
      have HA : Hid (∀ W, Below V.heap.size V W → Blk W wr.heap.size (Obj.cells #[.int .i64 (k.T q).id, .int .i64 (k.T q).b1, .slice (k.T q).c1.a (k.T q).c1.n (k.T q).c1.k, .int .i64 (k.T q).b2, .slice (k.T q).c2.a (k.T q).c2.n (k.T q).c2.k, .slice (k.T q).own.a (k.T q).own.n (k.T q).own.k, .int .i64 (k.T q).made] 54)) := hid (fun W h => XV.below h)
      have HKA := hid AV
      have HLA := hid LV
      have EA := hid ea
      clear XV AV LV p1 p2 p3 p4 p5 ow on10 hf ea
      generalize (⟨(vHead b c ++ vThr k b c q).toArray⟩ : ByteArray) = S at *
      generalize (⟨(dc (k.T q).id).toArray⟩ : ByteArray) = D1 at *
      generalize (⟨(dc (k.T q).made).toArray⟩ : ByteArray) = D2 at *
      generalize (⟨(lb (k.T q).b1 (k.T q).c1).toArray⟩ : ByteArray) = X1 at *
      generalize (⟨(lb (k.T q).b2 (k.T q).c2).toArray⟩ : ByteArray) = X2 at *
      generalize (⟨(bl (nums (k.T q).own)).toArray⟩ : ByteArray) = BL at *
      go_wp2
      refine vthrReg (k.T q) wr.heap.size S D1 D2 X1 X2 BL _ _ _ _ _ _ _ _ _ _ _ _ _ _ _ _ _ _ _ _ _ _ _ _ _ _ _ _ _ _ _ _ _ _ _ _ _ _ _ _ _ _ _ _ _ _ _ _ _ _ _ _ _ _ _ _ _ _ _ _ _ _ _ _ _ _ _ _ _ _ _ _ _ _ _ _ _ _ _ _ _ _ _ _ _ _ _ _ _ _ _ _ _ _ _ _ _ _ _ _ _ _ _ _ _ _ _ _ _ _ _ _ _ _ _ _ _ _ _ _ _ _ _ _ _ _ _ _ _ _ _ _ _ _ _ _ _ _ _ _ _ _ _ _ V _ (fun _ _ _ _ _ h => h) ED EX EL HA.out PD1.out PX1.out PX2.out PD2.out PB.out (by omega) z1 z2 z3 z4 (by omega) ?_
      intro W3 V3
      have B3 := then_ BV V3
      have A3 := HKA.out.below V3
      have L3 := HLA.out.below V3
      rw [← EA.out] at A3
      clear HA HKA HLA PD1 PD2 PX1 PX2 PB EA
      go_wp2
      exact ⟨⟨q + 1, by omega, by go_num, by rw [EQ.out], A3, L3, B3⟩, by simp [intOf]; omega⟩
    · have i1 : ¬ (q : Int) < (k.tn : Int) := by omega
      obtain rfl : q = k.tn := by omega
      obtain ⟨x0, x1⟩ := A.two
      have e1 : Hid (vHead b c ++ vThr k b c k.tn = vHead b c ++ vThr k b c k.tn ++ vObj k b c 0) := hid (by simp [vObj])
      go_wp2
      clear x0 x1
      go_loopw [5, 8] (fun s i wr => ∃ q : Nat, q ≤ k.on ∧ i = .int .i64 q ∧ s = .string ⟨(vHead b c ++ vThr k b c k.tn ++ vObj k b c q).toArray⟩ ∧ Blk wr w.heap.size (Obj.cells #[.slice k.ta k.tn k.tk, .slice k.oa k.on k.ok] 35) ∧ Blk wr (w.heap.size + 1) (Obj.cells #[.int .i64 b, .slice c.a c.n c.k] 39) ∧ Below w.heap.size w wr) (fun _ i _ => k.on - (intOf i).toNat)
      case atStart => exact ⟨0, Nat.zero_le _, rfl, by rw [← e1.out], A, Lb, hB⟩
      case round =>
        clear A Lb hB i1 hlt hq e1
        obtain ⟨q, hq, rfl, rfl, A, Lb, hB⟩ := hrel
        by_cases hlt : q < k.on
        · obtain ⟨ob, off, ea, hlt0, hcc⟩ := (HK.out.2.2.2.below hB) (by omega)
          rw [ea] at A
          obtain ⟨x0, x1⟩ := A.two
          obtain ⟨⟨q0, q1, q2, q3, q4, q5, q6, q7, q8, q9⟩, ht⟩ := hcc q hlt
          have i1 : (q : Int) < (k.on : Int) := by omega
          simp only [CatL.val, IntL.val, StrL.val] at q4 q6 q7 q9
          have bC : Below wr.heap.size wr (wr.alloc (Obj.cells #[.int .i64 (k.O q).id, .int .i64 (k.O q).kind, .int .i64 (k.O q).up, .int .i64 (k.O q).b1, .slice (k.O q).c1.a (k.O q).c1.n (k.O q).c1.k, .string (k.O q).data, .slice (k.O q).items.a (k.O q).items.n (k.O q).items.k, .slice (k.O q).own.a (k.O q).own.n (k.O q).own.k, .int .i64 (k.O q).b2, .slice (k.O q).c2.a (k.O q).c2.n (k.O q).c2.k] 60)) := (Below.refl _ wr).alloc (Nat.le_refl _) _
          have XC := Blk.new wr (Obj.cells #[.int .i64 (k.O q).id, .int .i64 (k.O q).kind, .int .i64 (k.O q).up, .int .i64 (k.O q).b1, .slice (k.O q).c1.a (k.O q).c1.n (k.O q).c1.k, .string (k.O q).data, .slice (k.O q).items.a (k.O q).items.n (k.O q).items.k, .slice (k.O q).own.a (k.O q).own.n (k.O q).own.k, .int .i64 (k.O q).b2, .slice (k.O q).c2.a (k.O q).c2.n (k.O q).c2.k] 60)
          have AC := A.alloc (Obj.cells #[.int .i64 (k.O q).id, .int .i64 (k.O q).kind, .int .i64 (k.O q).up, .int .i64 (k.O q).b1, .slice (k.O q).c1.a (k.O q).c1.n (k.O q).c1.k, .string (k.O q).data, .slice (k.O q).items.a (k.O q).items.n (k.O q).items.k, .slice (k.O q).own.a (k.O q).own.n (k.O q).own.k, .int .i64 (k.O q).b2, .slice (k.O q).c2.a (k.O q).c2.n (k.O q).c2.k] 60)
          have LC' := Lb.alloc (Obj.cells #[.int .i64 (k.O q).id, .int .i64 (k.O q).kind, .int .i64 (k.O q).up, .int .i64 (k.O q).b1, .slice (k.O q).c1.a (k.O q).c1.n (k.O q).c1.k, .string (k.O q).data, .slice (k.O q).items.a (k.O q).items.n (k.O q).items.k, .slice (k.O q).own.a (k.O q).own.n (k.O q).own.k, .int .i64 (k.O q).b2, .slice (k.O q).c2.a (k.O q).c2.n (k.O q).c2.k] 60)
          have CF := hid (l5Seen_any (k.O q) b c _ (ht.below bC) ((HC.out.below hB).below bC) (objsOk_lab (kerOk_objs OK.out) hlt) LK.out)
          unfold ObjV.val CatL.val IntL.val StrL.val at CF
          have HT0 := hid ht
          have HBC := hid bC
          obtain ⟨a0, a1, a2, a3, a4, a5, a6, a7, a8, a9⟩ := XC.ten
          obtain ⟨l0, l1⟩ := LC'.two
          clear hcc ht bC
          go_wp2_with fail
          refine CF.out.mono ?_
          rintro e V ⟨rfl, h5⟩
          have D5 := then_ HBC.out h5
          have XV := XC.below h5
          have AV := AC.below h5
          have LV := LC'.below h5
          have BV := then_ hB D5
          clear x0 x1 q0 q1 q2 q3 q4 q5 q6 q7 q8 q9 a0 a1 a2 a3 a4 a5 a6 a7 a8 a9 l0 l1 CF XC AC LC' A Lb h5
          cases hf : seenO (k.O q) b c with
          | false =>
            have EQ := hid (vObj_no (k := k) hf)
            rw [← ea] at AV
            clear hf ea XV
            go_wp2
            exact ⟨⟨q + 1, by omega, by go_num, by rw [EQ.out]; simp only [List.append_assoc], AV, LV, BV⟩, by simp [intOf]; omega⟩
          | true =>
          have HYES := hid (vObj_yes (k := k) hf)
          obtain ⟨p1, p2, p3, p4, p5, p6, p7⟩ := obj_parts (ker_obj OK.out hlt)
          have y1 := ker_id OK.out hlt
          have y2 := ker_up OK.out hlt
          obtain ⟨s, hs⟩ : ∃ s, s = vHead b c ++ vThr k b c k.tn ++ vObj k b c q := ⟨_, rfl⟩
          rw [← hs]
          have HSS := hid hs
          have EQ := hid (vobj_chain s (k.O q) (kidsK k q))
          have sl : s.length ≤ 2000000 := by
            have h0 := vHead_len LK.out
            have h1 := vThr_len (b := b) (c := c) OK.out (Nat.le_refl k.tn)
            have h2 := vObj_len (b := b) (c := c) OK.out hq
            rw [hs, List.length_append, List.length_append]
            omega
          have ksm := kidsK_small OK.out q
          have ksl := Nat.le_trans (kidsK_len k q) on2
          have sl2 : (s ++ objX (k.O q) (kidsK k q)).length ≤ 2003000 := by
            have := objX_len (ker_obj OK.out hlt) y1 y2 ksm ksl
            rw [List.length_append]; omega
          have z0 : (⟨s.toArray⟩ : ByteArray).size ≤ 2000000 := by rw [mk_size, List.size_toArray]; exact sl
          have z1 : (⟨(dc (k.O q).id).toArray⟩ : ByteArray).size ≤ 4 := by rw [mk_size, List.size_toArray]; exact dc_len y1
          have z2 : (⟨(dc (k.O q).kind).toArray⟩ : ByteArray).size ≤ 4 := by rw [mk_size, List.size_toArray]; exact dc_len p7
          have z6 : (⟨(dc (k.O q).up).toArray⟩ : ByteArray).size ≤ 4 := by rw [mk_size, List.size_toArray]; exact dc_len y2
          have z3 : (⟨(lb (k.O q).b1 (k.O q).c1).toArray⟩ : ByteArray).size ≤ 200 := by rw [mk_size, List.size_toArray]; exact lb_len p1
          have z4 : (⟨(lb (k.O q).b2 (k.O q).c2).toArray⟩ : ByteArray).size ≤ 200 := by rw [mk_size, List.size_toArray]; exact lb_len p2
          have z5 : (⟨(bl (nums (k.O q).own)).toArray⟩ : ByteArray).size ≤ 50 := by rw [mk_size, List.size_toArray]; have := bl_len (own_small p3).2; rw [nums_len] at this; have := (own_small p3).1; omega
          have z9 : (⟨(bl (kidsK k q)).toArray⟩ : ByteArray).size ≤ 1400 := by rw [mk_size, List.size_toArray]; have := bl_len ksm; omega
          have ow : ∀ i, i < (k.O q).own.n → small ((k.O q).own.h i) := fun i hi => (own_small p3).2 _ (List.mem_map.2 ⟨i, List.mem_range.2 hi, rfl⟩)
          have on10 := (own_small p3).1
          have HTt := hid (HT0.out.below D5)
          have PD1 : Hid (∀ W, Below V.heap.size V W → Calls Tryz.prog 22 #[.int .i64 (k.O q).id] W fun e w' => ∃ v, e = .returned v ∧ v = .string ⟨(dc (k.O q).id).toArray⟩ ∧ Below W.heap.size W w') := hid (fun W hW => (dec_s _ W y1).mono fun e w' ⟨h1, h2⟩ => ⟨_, h1, rfl, h2⟩)
          have PD2 : Hid (∀ W, Below V.heap.size V W → Calls Tryz.prog 22 #[.int .i64 (k.O q).kind] W fun e w' => ∃ v, e = .returned v ∧ v = .string ⟨(dc (k.O q).kind).toArray⟩ ∧ Below W.heap.size W w') := hid (fun W hW => (dec_s _ W p7).mono fun e w' ⟨h1, h2⟩ => ⟨_, h1, rfl, h2⟩)
          have PD3 : Hid (∀ W, Below V.heap.size V W → Calls Tryz.prog 22 #[.int .i64 (k.O q).up] W fun e w' => ∃ v, e = .returned v ∧ v = .string ⟨(dc (k.O q).up).toArray⟩ ∧ Below W.heap.size W w') := hid (fun W hW => (dec_s _ W y2).mono fun e w' ⟨h1, h2⟩ => ⟨_, h1, rfl, h2⟩)
          have PX1 : Hid (∀ W, Below V.heap.size V W → Calls Tryz.prog 20 #[.agg #[.int .i64 (k.O q).b1, .slice (k.O q).c1.a (k.O q).c1.n (k.O q).c1.k]] W fun e w' => ∃ v, e = .returned v ∧ v = .string ⟨(lb (k.O q).b1 (k.O q).c1).toArray⟩ ∧ Below W.heap.size W w') := hid (fun W hW => (txt_s _ (k.O q).c1 W (HTt.out.below hW).1 p1).mono fun e w' ⟨h1, h2⟩ => ⟨_, h1, rfl, h2⟩)
          have PX2 : Hid (∀ W, Below V.heap.size V W → Calls Tryz.prog 20 #[.agg #[.int .i64 (k.O q).b2, .slice (k.O q).c2.a (k.O q).c2.n (k.O q).c2.k]] W fun e w' => ∃ v, e = .returned v ∧ v = .string ⟨(lb (k.O q).b2 (k.O q).c2).toArray⟩ ∧ Below W.heap.size W w') := hid (fun W hW => (txt_s _ (k.O q).c2 W (HTt.out.below hW).2.2.2.1 p2).mono fun e w' ⟨h1, h2⟩ => ⟨_, h1, rfl, h2⟩)
          have PB : Hid (∀ W, Below V.heap.size V W → Calls Tryz.prog 23 #[.slice (k.O q).own.a (k.O q).own.n (k.O q).own.k] W fun e w' => ∃ v, e = .returned v ∧ v = .string ⟨(bl (nums (k.O q).own)).toArray⟩ ∧ Below W.heap.size W w') := hid (fun W hW => (l5List_any (k.O q).own W (HTt.out.below hW).2.2.1 ow (by omega)).mono fun e w' ⟨h1, h2⟩ => ⟨_, h1, rfl, h2⟩)
          have PKI : Hid (∀ W, Below V.heap.size V W → Calls Tryz.prog 25 #[.agg #[.slice k.ta k.tn k.tk, .slice (some ⟨ob, off, none⟩) k.on k.ok], .int .i64 (k.O q).id] W fun e w' => ∃ v, e = .returned v ∧ (∃ x : IntL, v = x.val ∧ x.at w' ∧ nums x = kidsK k q) ∧ Below W.heap.size W w') := hid (fun W hW => by
            have h := l3Kids_any k (k.O q).id W (HK.out.below (then_ BV hW)) on2
            unfold KerV.val at h
            rw [ea, inX_kids] at h
            refine h.mono ?_
            rintro e w' ⟨v, rfl, ho, hb⟩
            obtain ⟨va, vc, rfl⟩ := ownsRow_shape ho
            exact ⟨_, rfl, ⟨⟨va, (kidsK k q).length, vc, nthI (kidsK k q)⟩, rfl, ⟨by unfold maxLen; show (kidsK k q).length ≤ _; omega, (OwnI.lies ho).ints⟩, nums_nth _⟩, hb⟩)
          have PL2 : Hid (∀ (x : IntL) W, Below V.heap.size V W → x.at W → nums x = kidsK k q → Calls Tryz.prog 23 #[x.val] W fun e w' => ∃ v, e = .returned v ∧ v = .string ⟨(bl (kidsK k q)).toArray⟩ ∧ Below W.heap.size W w') := hid (fun x W hW hx hn => by
            have hxl : x.n = (kidsK k q).length := by rw [← hn, nums_len]
            have h := l5List_any x W hx (fun i hi => ksm _ (by rw [← hn]; exact List.mem_map.2 ⟨i, List.mem_range.2 hi, rfl⟩)) (by omega)
            rw [hn] at h
            exact h.mono fun e w' ⟨h1, h2⟩ => ⟨_, h1, rfl, h2⟩)
          have HA : Hid (∀ W, Below V.heap.size V W → Blk W wr.heap.size (Obj.cells #[.int .i64 (k.O q).id, .int .i64 (k.O q).kind, .int .i64 (k.O q).up, .int .i64 (k.O q).b1, .slice (k.O q).c1.a (k.O q).c1.n (k.O q).c1.k, .string (k.O q).data, .slice (k.O q).items.a (k.O q).items.n (k.O q).items.k, .slice (k.O q).own.a (k.O q).own.n (k.O q).own.k, .int .i64 (k.O q).b2, .slice (k.O q).c2.a (k.O q).c2.n (k.O q).c2.k] 60)) := hid (fun W h => XV.below h)
          have HKB : Hid (∀ W, Below V.heap.size V W → Blk W w.heap.size (Obj.cells #[.slice k.ta k.tn k.tk, .slice (some ⟨ob, off, none⟩) k.on k.ok] 35)) := hid (fun W h => AV.below h)
          have HLA := hid LV
          have HIT := hid (HT0.out.2.1)
          have HP := hid (And.intro p4 (And.intro p5 p6))
          have EA := hid ea
          clear ea XV AV LV p1 p2 p3 p4 p5 p6 p7 y1 y2 ow on10 hs hf ksm
          obtain ⟨S3, hS3⟩ : ∃ S3 : ByteArray, S3 = ⟨(s ++ objX (k.O q) (kidsK k q)).toArray⟩ := ⟨_, rfl⟩
          have HS3 := hid hS3
          have z7 : S3.size ≤ 2003000 := by rw [hS3, mk_size, List.size_toArray]; exact sl2
          rw [← hS3] at EQ
          clear hS3 sl sl2 ksl
          generalize (⟨s.toArray⟩ : ByteArray) = S at *
          generalize (⟨(dc (k.O q).id).toArray⟩ : ByteArray) = D1 at *
          generalize (⟨(dc (k.O q).kind).toArray⟩ : ByteArray) = D2 at *
          generalize (⟨(dc (k.O q).up).toArray⟩ : ByteArray) = D3 at *
          generalize (⟨(lb (k.O q).b1 (k.O q).c1).toArray⟩ : ByteArray) = X1 at *
          generalize (⟨(lb (k.O q).b2 (k.O q).c2).toArray⟩ : ByteArray) = X2 at *
          generalize (⟨(bl (nums (k.O q).own)).toArray⟩ : ByteArray) = BL at *
          generalize (⟨(bl (kidsK k q)).toArray⟩ : ByteArray) = KL at *
          go_wp2
          refine vobjReg (k.O q) wr.heap.size w.heap.size k.ta k.tn k.tk (some ⟨ob, off, none⟩) k.on k.ok (kidsK k q) S D1 D2 D3 X1 X2 BL KL _ _ _ _ _ _ _ _ _ _ _ _ _ _ _ _ _ _ _ _ _ _ _ _ _ _ _ _ _ _ _ _ _ _ _ _ _ _ _ _ _ _ _ _ _ _ _ _ _ _ _ _ _ _ _ _ _ _ _ _ _ _ _ _ _ _ _ _ _ _ _ _ _ _ _ _ _ _ _ _ _ _ _ _ _ _ _ _ _ _ _ _ _ _ _ _ _ _ _ _ _ _ _ _ _ _ _ _ _ _ _ _ _ _ _ _ _ _ _ _ _ _ _ _ _ _ _ _ _ _ _ _ _ _ _ _ _ _ _ _ _ _ _ V _ (fun _ _ _ _ _ h => h) ED EX EL EK HA.out HKB.out PD1.out PD2.out PD3.out PX1.out PX2.out PB.out PKI.out PL2.out (by omega) z1 z2 z6 z3 z4 (by omega) (by omega) ?_
          intro xk W3 V3
          have B3 := then_ BV V3
          have A3 := HKB.out _ V3
          have L3 := HLA.out.below V3
          have X3 := HA.out _ V3
          rw [← EA.out] at A3
          rw [EQ.out]
          clear HA HKB HLA PD1 PD2 PD3 PX1 PX2 PB PKI PL2 EA EQ z0 z1 z2 z3 z4 z5 z6 z9
          obtain ⟨x0, x1, x2, x3, x4, x5, x6, x7, x8, x9⟩ := X3.ten
          have IT : Hid (∀ (W : World), Below W3.heap.size W3 W → StrAt W (k.O q).items.a (k.O q).items.n (k.O q).items.f) := hid (fun W h => HIT.out.2.1.below (then_ D5 (then_ V3 h)))
          have DONE : Hid (∀ S4 : ByteArray, S4 = ⟨(s ++ objX (k.O q) (kidsK k q) ++ datX (k.O q).data).toArray⟩ → S4.size ≤ 2003100 ∧ ∀ j, j ≤ (k.O q).items.n → (⟨(s ++ objX (k.O q) (kidsK k q) ++ datX (k.O q).data ++ itmX (k.O q).items.f j).toArray⟩ : ByteArray).size ≤ 2004000) := hid (fun S4 h => by
            have l1 : (s ++ objX (k.O q) (kidsK k q)).length ≤ 2003000 := by have := z7; rw [HS3.out, mk_size, List.size_toArray] at this; exact this
            have l2 := datX_len HP.out.1
            refine ⟨by rw [h, mk_size, List.size_toArray, List.length_append]; omega, fun j hj => ?_⟩
            have l3 := itmX_len (f := (k.O q).items.f) (n := j) (fun i hi => HP.out.2.2 i (by omega))
            have l4 := HP.out.2.1
            rw [mk_size, List.size_toArray, List.length_append, List.length_append]
            omega)
          have FINI : Hid ((⟨(s ++ objX (k.O q) (kidsK k q) ++ datX (k.O q).data ++ itmX (k.O q).items.f (k.O q).items.n).toArray⟩ : ByteArray) = ⟨(vHead b c ++ vThr k b c k.tn ++ vObj k b c (q + 1)).toArray⟩) := hid (by
            rw [HSS.out, HYES.out, objT]
            simp only [List.append_assoc])
          by_cases hd : (k.O q).data.toList.isEmpty = true
          · have E4 : Hid (S3 = ⟨(s ++ objX (k.O q) (kidsK k q) ++ datX (k.O q).data).toArray⟩) := hid (by rw [HS3.out, datX, if_pos hd, List.append_nil])
            go_wp2
            obtain ⟨d1, d2⟩ := DONE.out _ E4.out
            rw [E4.out]
            have d2h := hid d2
            clear x0 x1 x2 x3 x4 x5 x6 x7 x8 x9 d1 d2
            go_loop [5, 10] (fun s' i => ∃ j : Nat, j ≤ (k.O q).items.n ∧ i = .int .i64 j ∧ s' = .string ⟨(s ++ objX (k.O q) (kidsK k q) ++ datX (k.O q).data ++ itmX (k.O q).items.f j).toArray⟩) (fun _ i => (k.O q).items.n - (intOf i).toNat)
            case atStart => exact ⟨0, Nat.zero_le _, rfl, by simp [itmX]⟩
            case round =>
              obtain ⟨j, hj, rfl, rfl⟩ := hrel
              have hi8 := HP.out.2.1
              obtain ⟨x0, x1, x2, x3, x4, x5, x6, x7, x8, x9⟩ := X3.ten
              by_cases hjl : j < (k.O q).items.n
              · obtain ⟨ib, io, eia, hib, hci⟩ := IT.out _ (Below.refl _ _) (by omega)
                have c1 := hci j hjl
                rw [eia] at x6
                have j1 : (j : Int) < ((k.O q).items.n : Int) := by omega
                have zz := d2h.out j hj
                have E5 := hid (itm_chain (s ++ objX (k.O q) (kidsK k q) ++ datX (k.O q).data ++ itmX (k.O q).items.f j) ((k.O q).items.f j))
                rw [List.append_assoc _ (itmX _ _), ← itmX_succ] at E5
                have z8 := HP.out.2.2 j hjl
                clear hci eia
                generalize (⟨(s ++ objX (k.O q) (kidsK k q) ++ datX (k.O q).data ++ itmX (k.O q).items.f j).toArray⟩ : ByteArray) = S5 at *
                generalize (k.O q).items.f j = DJ at *
                have lt0 : (ByteArray.mk #[105, 116, 101, 109, 32]).size = 5 := rfl
                have lt1 : (ByteArray.mk #[10]).size = 1 := rfl
                have r1 : ¬ 9223372036854775807 < S5.size + (ByteArray.mk #[105, 116, 101, 109, 32]).size := by omega
                have r2 : ¬ 9223372036854775807 < (S5 ++ ByteArray.mk #[105, 116, 101, 109, 32]).size + DJ.size := by rw [ByteArray.size_append]; omega
                have r3 : ¬ 9223372036854775807 < (S5 ++ ByteArray.mk #[105, 116, 101, 109, 32] ++ DJ).size + (ByteArray.mk #[10]).size := by simp only [ByteArray.size_append]; omega
                clear lt0 lt1
                go_wp2
                exact ⟨⟨j + 1, by omega, by go_num, by rw [E5.out]⟩, by simp [intOf]; omega⟩
              · have j1 : ¬ (j : Int) < ((k.O q).items.n : Int) := by omega
                obtain rfl : j = (k.O q).items.n := by omega
                go_wp2
                exact ⟨⟨q + 1, by omega, by go_num, by rw [FINI.out], A3, L3, B3⟩, by simp [intOf]; omega⟩
          · have hd' : (k.O q).data.toList.isEmpty = false := by simpa using hd
            have E4 : Hid (S3 ++ ByteArray.mk #[100, 97, 116, 97, 32] ++ (k.O q).data ++ ByteArray.mk #[10] = ⟨(s ++ objX (k.O q) (kidsK k q) ++ datX (k.O q).data).toArray⟩) := hid (by rw [HS3.out]; exact dat_chain _ _ hd)
            have hp4 := HP.out.1
            have lt0 : (ByteArray.mk #[100, 97, 116, 97, 32]).size = 5 := rfl
            have lt1 : (ByteArray.mk #[10]).size = 1 := rfl
            have r1 : ¬ 9223372036854775807 < S3.size + (ByteArray.mk #[100, 97, 116, 97, 32]).size := by omega
            have r2 : ¬ 9223372036854775807 < (S3 ++ ByteArray.mk #[100, 97, 116, 97, 32]).size + (k.O q).data.size := by rw [ByteArray.size_append]; omega
            have r3 : ¬ 9223372036854775807 < (S3 ++ ByteArray.mk #[100, 97, 116, 97, 32] ++ (k.O q).data).size + (ByteArray.mk #[10]).size := by simp only [ByteArray.size_append]; omega
            clear lt0 lt1 hp4
            clear hd
            go_wp2
            clear r1 r2 r3
            obtain ⟨d1, d2⟩ := DONE.out _ E4.out
            rw [E4.out]
            have d2h := hid d2
            clear x0 x1 x2 x3 x4 x5 x6 x7 x8 x9 d1 d2
            go_loop [5, 10] (fun s' i => ∃ j : Nat, j ≤ (k.O q).items.n ∧ i = .int .i64 j ∧ s' = .string ⟨(s ++ objX (k.O q) (kidsK k q) ++ datX (k.O q).data ++ itmX (k.O q).items.f j).toArray⟩) (fun _ i => (k.O q).items.n - (intOf i).toNat)
            case atStart => exact ⟨0, Nat.zero_le _, rfl, by simp [itmX]⟩
            case round =>
              obtain ⟨j, hj, rfl, rfl⟩ := hrel
              have hi8 := HP.out.2.1
              obtain ⟨x0, x1, x2, x3, x4, x5, x6, x7, x8, x9⟩ := X3.ten
              by_cases hjl : j < (k.O q).items.n
              · obtain ⟨ib, io, eia, hib, hci⟩ := IT.out _ (Below.refl _ _) (by omega)
                have c1 := hci j hjl
                rw [eia] at x6
                have j1 : (j : Int) < ((k.O q).items.n : Int) := by omega
                have zz := d2h.out j hj
                have E5 := hid (itm_chain (s ++ objX (k.O q) (kidsK k q) ++ datX (k.O q).data ++ itmX (k.O q).items.f j) ((k.O q).items.f j))
                rw [List.append_assoc _ (itmX _ _), ← itmX_succ] at E5
                have z8 := HP.out.2.2 j hjl
                clear hci eia
                generalize (⟨(s ++ objX (k.O q) (kidsK k q) ++ datX (k.O q).data ++ itmX (k.O q).items.f j).toArray⟩ : ByteArray) = S5 at *
                generalize (k.O q).items.f j = DJ at *
                have lt0 : (ByteArray.mk #[105, 116, 101, 109, 32]).size = 5 := rfl
                have lt1 : (ByteArray.mk #[10]).size = 1 := rfl
                have r1 : ¬ 9223372036854775807 < S5.size + (ByteArray.mk #[105, 116, 101, 109, 32]).size := by omega
                have r2 : ¬ 9223372036854775807 < (S5 ++ ByteArray.mk #[105, 116, 101, 109, 32]).size + DJ.size := by rw [ByteArray.size_append]; omega
                have r3 : ¬ 9223372036854775807 < (S5 ++ ByteArray.mk #[105, 116, 101, 109, 32] ++ DJ).size + (ByteArray.mk #[10]).size := by simp only [ByteArray.size_append]; omega
                clear lt0 lt1
                go_wp2
                exact ⟨⟨j + 1, by omega, by go_num, by rw [E5.out]⟩, by simp [intOf]; omega⟩
              · have j1 : ¬ (j : Int) < ((k.O q).items.n : Int) := by omega
                obtain rfl : j = (k.O q).items.n := by omega
                go_wp2
                exact ⟨⟨q + 1, by omega, by go_num, by rw [FINI.out], A3, L3, B3⟩, by simp [intOf]; omega⟩
        · have i1 : ¬ (q : Int) < (k.on : Int) := by omega
          obtain rfl : q = k.on := by omega
          obtain ⟨x0, x1⟩ := A.two
          go_wp2
          go_ret
          exact ⟨ret_str (by rw [KT.out]; first | rfl | rw [List.append_assoc]), hB⟩
end Go.Proofs.YtaaeeaknjlammaaGreatDoor
