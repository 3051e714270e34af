/- Seen of the program answers the plain list seenL. -/
import Derived.Test.YtgkfcjcdfbmbjaaGreatVB
namespace Go.Proofs.YtgkfcjcdfbmbjaaGreat
open Go Go.RowKit Go.Deep Go.Maps Go.BigFrame Go.Shelf

set_option maxRecDepth 100000 in
set_option maxHeartbeats 8000000 in
theorem implSeen_any (k : KerV) (b : Int) (c : CatL) (w : World) (hk : k.at w) (hcap : k.on ≤ k.ok) (hw : k.wfs) (hc : c.at w) :
    Calls Tryz.prog 10 #[k.val, .agg #[.int .i64 b, c.val]] w fun e w' => ∃ v, e = .returned v ∧ OwnI w' w.heap.size v (seenL k b c) ∧ Below w.heap.size w w' := by
  have b0 : Below w.heap.size w ((w.alloc (.cells #[.slice k.ta k.tn k.tk, .slice k.oa k.on k.ok] 36)).alloc (.cells #[.int .i64 b, .slice c.a c.n c.k] 40)) := ((Below.refl _ w).alloc (Nat.le_refl _) _).alloc (by simp) _
  have A0 := (Blk.new w (.cells #[.slice k.ta k.tn k.tk, .slice k.oa k.on k.ok] 36)).alloc (.cells #[.int .i64 b, .slice c.a c.n c.k] 40)
  have L0 := Blk.new (w.alloc (.cells #[.slice k.ta k.tn k.tk, .slice k.oa k.on k.ok] 36)) (.cells #[.int .i64 b, .slice c.a c.n c.k] 40)
  simp only [World.size_alloc] at L0
  have HK := hid hk
  have HC := hid hc
  have HW := hid hw
  have C1 := hid (viewOk_any k b c _ (hk.below b0) hcap hw (hc.below b0))
  unfold KerV.val CatL.val at C1
  unfold KerV.val CatL.val
  obtain ⟨x0, x1⟩ := A0.two
  obtain ⟨y0, y1⟩ := L0.two
  clear hk hw hc
  go_enter Tryz.func10, Tryz.ntmps10
  go_wp2_with fail
  refine C1.out.mono ?_
  rintro e w1 ⟨rfl, hb1⟩
  have A1 := A0.below hb1
  have L1 := L0.below hb1
  have B1 := then_ b0 hb1
  clear x0 x1 y0 y1 C1 A0 L0 b0 hb1
  obtain ⟨x0, x1⟩ := A1.two
  obtain ⟨y0, y1⟩ := L1.two
  cases t : (kerOk k && labOkV b c) with
  | false =>
    have E : seenL k b c = [] := by
      cases t1 : kerOk k with
      | false => exact seenL_no1 t1
      | true => rw [t1, Bool.true_and] at t; exact seenL_no2 t
    go_wp2
    go_ret
    exact ⟨_, rfl, by rw [E]; exact OwnI.nil _ _, B1⟩
  | true =>
  obtain ⟨t1, t2⟩ := (Bool.and_eq_true _ _).mp t
  have SL := hid (seenL_yes t1 t2)
  have OK := hid (kerOk_objs t1)
  have LK := hid t2
  have ON := (objsOk_out OK.out).2.1
  have C2 := hid (viewing_any k b c w1 (HK.out.below B1) t1 HW.out)
  unfold KerV.val viewV CatL.val at C2
  obtain ⟨ob, off, ea, _, _⟩ := HK.out.2.2.2 (by have := (objsOk_out OK.out).1; omega)
  have HO : Hid (∀ W, Below w.heap.size w W → ObjsAt W (some ⟨ob, off, none⟩) k.on k.O) := hid (fun W h => by have := HK.out.2.2.2.below h; rw [ea] at this; exact this)
  rw [ea] at C2 x1
  clear t t1 t2 ea
  go_wp2_with fail
  refine C2.out.mono ?_
  rintro e w2 ⟨m, nb, kv, rfl, hN, hb2⟩
  have B2 := then_ B1 hb2
  have A2 := A1.below hb2
  have bP : Below w.heap.size w (w2.alloc (.cells #[.int .i64 b, .slice c.a c.n c.k, .slice k.ta k.tn k.tk, .slice (some ⟨ob, off, none⟩) k.on k.ok, .map (some m)] 68)) := B2.alloc B2.size _
  have P0 := Blk.new w2 (.cells #[.int .i64 b, .slice c.a c.n c.k, .slice k.ta k.tn k.tk, .slice (some ⟨ob, off, none⟩) k.on k.ok, .map (some m)] 68)
  have szP : w.heap.size ≤ w2.heap.size := B2.size
  have X1 : (w2.alloc (.cells #[.int .i64 b, .slice c.a c.n c.k, .slice k.ta k.tn k.tk, .slice (some ⟨ob, off, none⟩) k.on k.ok, .map (some m)] 68)).cell? ⟨w.heap.size, 1, none⟩ = some (.slice (some ⟨ob, off, none⟩) k.on k.ok) := by
    have h1 := (hb2.cell (p := ⟨w.heap.size, 1, none⟩) A1.lt).trans x1
    exact (((Below.refl _ w2).alloc (Nat.le_refl _) _).cell (p := ⟨w.heap.size, 1, none⟩) A2.lt).trans h1
  clear x0 x1 y0 y1 hN hb2 C2 A1 L1 B1 A2 B2
  go_wp2
  clear X1
  go_loopw [6, 19] (fun v i wr => ∃ q : Nat, q ≤ k.on ∧ i = .int .i64 q ∧ Hid (OwnI wr (w2.heap.size + 1) v (seenTo k.O b c q)) ∧ Blk wr w2.heap.size (.cells #[.int .i64 b, .slice c.a c.n c.k, .slice k.ta k.tn k.tk, .slice (some ⟨ob, off, none⟩) k.on k.ok, .map (some m)] 68) ∧ Below w.heap.size w wr) (fun _ i _ => k.on - (intOf i).toNat)
  case atStart => exact ⟨0, Nat.zero_le _, rfl, hid (OwnI.nil _ _), P0, bP⟩
  case round =>
    clear P0 bP
    obtain ⟨q, hq, rfl, HI, P, hB⟩ := hrel
    by_cases hlt : q < k.on
    · obtain ⟨_, _, e1, hlt0, hcc⟩ := (HO.out wr hB) (by omega)
      cases e1
      obtain ⟨⟨q0, q1, q2, q3, q4, q5, q6, q7, q8, q9⟩, ht⟩ := hcc q hlt
      have i1 : (q : Int) < (k.on : Int) := by omega
      have b1 : Below wr.heap.size wr (wr.alloc (k.O q).blk) := (Below.refl _ wr).alloc (Nat.le_refl _) _
      have SZ := hid (sees_any b c (k.O q) _ ((HC.out.below hB).below b1) (ht.below b1))
      rw [leq_seen OK.out hlt LK.out] at SZ
      have X0 := Blk.new wr (k.O q).blk
      have P1 := P.alloc (k.O q).blk
      have B1 := then_ hB b1
      have O1 := hid (OwnI.alloc HI.out (k.O q).blk)
      simp only [CatL.val, IntL.val, StrL.val, ObjV.val, ObjV.blk] at q4 q6 q7 q9 SZ X0 P1 b1 B1 O1
      obtain ⟨z0, z1, z2, z3, z4⟩ := P1.five
      clear hcc ht HI P hB
      go_wp2_with fail
      refine SZ.out.mono ?_
      rintro e w3 ⟨rfl, hb3⟩
      have B3 := then_ B1 hb3
      have P3 := P1.below hb3
      have O3 := hid (OwnI.below O1.out hb3)
      have c0 := (X0.below hb3).ten.1
      clear q0 q1 q2 q3 q4 q5 q6 q7 q8 q9 z0 z1 z2 z3 z4 SZ X0 P1 b1 B1 O1 hb3 hlt0
      cases e : seenO (k.O q) b c with
      | false =>
        have EQ := hid (seenTo_no e)
        clear e
        go_wp2
        exact ⟨⟨q + 1, by omega, by go_num, hid (by rw [EQ.out]; exact O3.out), P3, B3⟩, by simp [intOf]; omega⟩
      | true =>
        have EQ := hid (seenTo_yes e)
        have hl := seenTo_len k.O b c q
        have B4 : Below w.heap.size w (w3.alloc (.cells #[.int .i64 (k.O q).id] 2)) := B3.alloc B3.size _
        have P4 := P3.alloc (.cells #[.int .i64 (k.O q).id] 2)
        have O4 := hid (OwnI.alloc O3.out (.cells #[.int .i64 (k.O q).id] 2))
        have N1 := hid (NumL.one (w := w3) (k.O q).id)
        have s1 : w2.heap.size + 1 ≤ (w3.alloc (.cells #[.int .i64 (k.O q).id] 2)).heap.size := by have := P3.lt; simp; omega
        have FIN : Hid (∀ w4 : World, (w3.alloc (.cells #[.int .i64 (k.O q).id] 2)).grownBy w4 u6.ownBlock → Blk w4 w2.heap.size (.cells #[.int .i64 b, .slice c.a c.n c.k, .slice k.ta k.tn k.tk, .slice (some ⟨ob, off, none⟩) k.on k.ok, .map (some m)] 68) ∧ Below w.heap.size w w4) := hid (fun w4 g4 => ⟨P4.grown g4 (fun e => by have := (World.ownsRow.lt O4.out _ e.symm).1; omega), B4.trans (below_grown g4 B4.size (fun j hj => by have := (World.ownsRow.lt O4.out j hj).1; omega))⟩)
        clear e O3 B4 P4
        go_wp2_with (refine wpList_append_ints _ rfl _ _ rfl (w2.heap.size + 1) u6 (seenTo k.O b c q) rfl O4.out _ 1 1 [(k.O q).id] rfl rfl N1.out (by omega) s1 ?_; intro a4 c4 w4 o4 g4 v4)
        rw [← EQ.out] at o4
        obtain ⟨f1, f2⟩ := FIN.out w4 g4
        exact ⟨⟨q + 1, by omega, by go_num, hid (by first | exact o4 | simpa [EQ.out] using o4), f1, f2⟩, by simp [intOf]; omega⟩
    · have i1 : ¬ (q : Int) < (k.on : Int) := by omega
      have e : q = k.on := by omega
      have HO2 : Hid (OwnI wr (w2.heap.size + 1) u6 (seenTo k.O b c k.on)) := hid (by rw [← e]; exact HI.out)
      clear HI e
      go_wp2
      go_ret
      exact ⟨u6, rfl, by rw [SL.out]; exact HO2.out.low (by omega), hB⟩
end Go.Proofs.YtgkfcjcdfbmbjaaGreat
