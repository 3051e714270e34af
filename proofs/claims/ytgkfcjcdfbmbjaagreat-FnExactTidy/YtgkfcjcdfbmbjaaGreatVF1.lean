/- A view asks for boxes: boxOf; whether it is tidy. -/
import Derived.Test.YtgkfcjcdfbmbjaaGreatVB
namespace Go.Proofs.YtgkfcjcdfbmbjaaGreat
open Go Go.RowKit Go.Deep Go.Maps Go.BigFrame Go.Shelf

theorem resultsB (tmps : Array Value) (W : World) (P : Nat) (x0 x1 x2 x3 x4 x5 x6 x7 x8 x9 : Value) (h : Blk W P (.cells #[x0, x1, x2, x3, x4, x5, x6, x7, x8, x9] 58)) (h2 : tmps[4]? = some (.pointer (some ⟨P, 0, none⟩))) :
    (results Tryz.f60 tmps).run Tryz.prog W = .ok (.agg #[x0, x1, x2, x3, x4, x5, x6, x7, x8, x9]) W := by
  obtain ⟨z0, z1, z2, z3, z4, z5, z6, z7, z8, z9⟩ := h.ten
  simp [results, Tryz.results60, go_sem, h2, z0, z1, z2, z3, z4, z5, z6, z7, z8, z9]

set_option maxRecDepth 100000 in
set_option maxHeartbeats 8000000 in
theorem boxOf_any (k : KerV) (m : Nat) (nb : Nat → Nat) (kv : Nat → Value) (B i : Nat) (w : World) (hk : k.at w) (ok : kerOk k = true) (hw : k.wfs) (hN : NodesK w B k m nb kv) (hi : i < k.on) (h0 : i ≠ 0) :
    Calls Tryz.prog 60 #[.agg #[.slice k.ta k.tn k.tk, .slice k.oa k.on k.ok, .map (some m)], (k.O i).val] w fun e w' => e = .returned (k.O (boxI k i)).val ∧ Below w.heap.size w w' := by
  obtain ⟨u, hu⟩ := ups_box ok hi h0
  have u1 := (findI_some hu).1
  rw [box_same hu]
  obtain ⟨ob, off, eoa, hn⟩ := hN
  have b0 : Below w.heap.size w (((w.alloc (.cells #[.slice k.ta k.tn k.tk, .slice k.oa k.on k.ok, .map (some m)] 66)).alloc (.cells #[.int .i64 (k.O i).id, .int .i64 (k.O i).kind, .int .i64 (k.O i).up, .int .i64 (k.O i).b1, .slice (k.O i).c1.a (k.O i).c1.n (k.O i).c1.k, .string (k.O i).data, .slice (k.O i).items.a (k.O i).items.n (k.O i).items.k, .slice (k.O i).own.a (k.O i).own.n (k.O i).own.k, .int .i64 (k.O i).b2, .slice (k.O i).c2.a (k.O i).c2.n (k.O i).c2.k] 58)).alloc (.cells #[.int .i64 0, .int .i64 0, .int .i64 0, .int .i64 0, .slice none 0 0, .string (ByteArray.mk #[]), .slice none 0 0, .slice none 0 0, .int .i64 0, .slice none 0 0] 58)) := (((Below.refl _ w).alloc (Nat.le_refl _) _).alloc (by simp) _).alloc (by simp; omega) _
  have P0 := ((Blk.new w (.cells #[.slice k.ta k.tn k.tk, .slice k.oa k.on k.ok, .map (some m)] 66)).alloc (.cells #[.int .i64 (k.O i).id, .int .i64 (k.O i).kind, .int .i64 (k.O i).up, .int .i64 (k.O i).b1, .slice (k.O i).c1.a (k.O i).c1.n (k.O i).c1.k, .string (k.O i).data, .slice (k.O i).items.a (k.O i).items.n (k.O i).items.k, .slice (k.O i).own.a (k.O i).own.n (k.O i).own.k, .int .i64 (k.O i).b2, .slice (k.O i).c2.a (k.O i).c2.n (k.O i).c2.k] 58)).alloc (.cells #[.int .i64 0, .int .i64 0, .int .i64 0, .int .i64 0, .slice none 0 0, .string (ByteArray.mk #[]), .slice none 0 0, .slice none 0 0, .int .i64 0, .slice none 0 0] 58)
  have X0 := (Blk.new (w.alloc (.cells #[.slice k.ta k.tn k.tk, .slice k.oa k.on k.ok, .map (some m)] 66)) (.cells #[.int .i64 (k.O i).id, .int .i64 (k.O i).kind, .int .i64 (k.O i).up, .int .i64 (k.O i).b1, .slice (k.O i).c1.a (k.O i).c1.n (k.O i).c1.k, .string (k.O i).data, .slice (k.O i).items.a (k.O i).items.n (k.O i).items.k, .slice (k.O i).own.a (k.O i).own.n (k.O i).own.k, .int .i64 (k.O i).b2, .slice (k.O i).c2.a (k.O i).c2.n (k.O i).c2.k] 58)).alloc (.cells #[.int .i64 0, .int .i64 0, .int .i64 0, .int .i64 0, .slice none 0 0, .string (ByteArray.mk #[]), .slice none 0 0, .slice none 0 0, .int .i64 0, .slice none 0 0] 58)
  have R0 := Blk.new ((w.alloc (.cells #[.slice k.ta k.tn k.tk, .slice k.oa k.on k.ok, .map (some m)] 66)).alloc (.cells #[.int .i64 (k.O i).id, .int .i64 (k.O i).kind, .int .i64 (k.O i).up, .int .i64 (k.O i).b1, .slice (k.O i).c1.a (k.O i).c1.n (k.O i).c1.k, .string (k.O i).data, .slice (k.O i).items.a (k.O i).items.n (k.O i).items.k, .slice (k.O i).own.a (k.O i).own.n (k.O i).own.k, .int .i64 (k.O i).b2, .slice (k.O i).c2.a (k.O i).c2.n (k.O i).c2.k] 58)) (.cells #[.int .i64 0, .int .i64 0, .int .i64 0, .int .i64 0, .slice none 0 0, .string (ByteArray.mk #[]), .slice none 0 0, .slice none 0 0, .int .i64 0, .slice none 0 0] 58)
  simp only [World.size_alloc] at X0 R0
  have n' := hn.below b0
  have LK := n'.map.look (x := (k.O i).up) (hw i hi).2
  rw [hu] at LK
  simp only [Option.map_some] at LK
  have n1 : _ = some (Value.pointer (some ⟨ob, off + u * 10, none⟩)) := (n'.blk u u1).c0 0 rfl
  obtain ⟨_, _, ea, _, hcc⟩ := (hk.below b0).2.2.2 (by omega)
  rw [eoa] at ea
  cases ea
  obtain ⟨⟨q0, q1, q2, q3, q4, q5, q6, q7, q8, q9⟩, _⟩ := hcc u u1
  simp only [CatL.val, IntL.val, StrL.val] at q4 q6 q7 q9
  have x2 : _ = some (Value.int .i64 (k.O i).up) := X0.c0 2 rfl
  have p2 : _ = some (Value.map (some m)) := P0.c0 2 rfl
  obtain ⟨r0, r1, r2, r3, r4, r5, r6, r7, r8, r9⟩ := R0.ten
  have rf := R0.warm
  have RF := Blk.new ((w.alloc (.cells #[.slice k.ta k.tn k.tk, .slice k.oa k.on k.ok, .map (some m)] 66)).alloc (.cells #[.int .i64 (k.O i).id, .int .i64 (k.O i).kind, .int .i64 (k.O i).up, .int .i64 (k.O i).b1, .slice (k.O i).c1.a (k.O i).c1.n (k.O i).c1.k, .string (k.O i).data, .slice (k.O i).items.a (k.O i).items.n (k.O i).items.k, .slice (k.O i).own.a (k.O i).own.n (k.O i).own.k, .int .i64 (k.O i).b2, .slice (k.O i).c2.a (k.O i).c2.n (k.O i).c2.k] 58)) (.cells #[.int .i64 (k.O u).id, .int .i64 (k.O u).kind, .int .i64 (k.O u).up, .int .i64 (k.O u).b1, .slice (k.O u).c1.a (k.O u).c1.n (k.O u).c1.k, .string (k.O u).data, .slice (k.O u).items.a (k.O u).items.n (k.O u).items.k, .slice (k.O u).own.a (k.O u).own.n (k.O u).own.k, .int .i64 (k.O u).b2, .slice (k.O u).c2.a (k.O u).c2.n (k.O u).c2.k] 58)
  simp only [World.size_alloc] at RF
  have HR := hid RF
  have HB : Hid (Below w.heap.size w (((w.alloc (.cells #[.slice k.ta k.tn k.tk, .slice k.oa k.on k.ok, .map (some m)] 66)).alloc (.cells #[.int .i64 (k.O i).id, .int .i64 (k.O i).kind, .int .i64 (k.O i).up, .int .i64 (k.O i).b1, .slice (k.O i).c1.a (k.O i).c1.n (k.O i).c1.k, .string (k.O i).data, .slice (k.O i).items.a (k.O i).items.n (k.O i).items.k, .slice (k.O i).own.a (k.O i).own.n (k.O i).own.k, .int .i64 (k.O i).b2, .slice (k.O i).c2.a (k.O i).c2.n (k.O i).c2.k] 58)).alloc (.cells #[.int .i64 (k.O u).id, .int .i64 (k.O u).kind, .int .i64 (k.O u).up, .int .i64 (k.O u).b1, .slice (k.O u).c1.a (k.O u).c1.n (k.O u).c1.k, .string (k.O u).data, .slice (k.O u).items.a (k.O u).items.n (k.O u).items.k, .slice (k.O u).own.a (k.O u).own.n (k.O u).own.k, .int .i64 (k.O u).b2, .slice (k.O u).c2.a (k.O u).c2.n (k.O u).c2.k] 58))) := hid ((((Below.refl _ w).alloc (Nat.le_refl _) _).alloc (by simp) _).alloc (by simp; omega) _)
  unfold ObjV.val CatL.val IntL.val StrL.val
  clear hk ok hw hn n' hcc hu X0 P0 R0 b0 eoa hi h0 u1 RF
  go_enter Tryz.func60, Tryz.ntmps60
  go_wp2
  refine bodyPost_ret (resultsB _ _ (w.heap.size + 1 + 1) _ _ _ _ _ _ _ _ _ _ HR.out rfl) rfl ⟨rfl, HB.out⟩

set_option maxRecDepth 100000 in
set_option maxHeartbeats 8000000 in
theorem tidy_any (k : KerV) (b : Int) (c : CatL) (m : Nat) (nb : Nat → Nat) (kv : Nat → Value) (B : Nat) (w : World) (hk : k.at w) (hcap : k.on ≤ k.ok) (ok : kerOk k = true) (hw : k.wfs) (hc : c.at w) (lk : labOkV b c = true) (hN : NodesK w B k m nb kv) :
    Calls Tryz.prog 40 #[viewV k b c m] w fun e w' => e = .returned (.bool (tidyB k b c)) ∧ Below w.heap.size w w' := by
  have EG : ∀ args w, (callFunc 31 args).run Tryz.prog w = .ok (.enter 31 args) w := enters_of Tryz.func31 (by kernel_rfl) rfl
  have EB : ∀ args w, (callFunc 60 args).run Tryz.prog w = .ok (.enter 60 args) w := enters_of Tryz.func60 (by kernel_rfl) rfl
  obtain ⟨on1, on2, _, _⟩ := objsOk_out (kerOk_objs ok)
  obtain ⟨ob, off, ea, _, _⟩ := hk.2.2.2 (by omega)
  have b0 : Below w.heap.size w (w.alloc (.cells #[.int .i64 b, .slice c.a c.n c.k, .slice k.ta k.tn k.tk, .slice k.oa k.on k.ok, .map (some m)] 68)) := (Below.refl _ w).alloc (Nat.le_refl _) _
  have P0 := Blk.new w (.cells #[.int .i64 b, .slice c.a c.n c.k, .slice k.ta k.tn k.tk, .slice k.oa k.on k.ok, .map (some m)] 68)
  have HK := hid hk
  have HC := hid hc
  have HW := hid hw
  have OK := hid ok
  have LK := hid lk
  have HN := hid hN
  have HO : Hid (∀ W, Below w.heap.size w W → ObjsAt W (some ⟨ob, off, none⟩) k.on k.O) := hid (fun W h => by have := HK.out.2.2.2.below h; rw [ea] at this; exact this)
  have EA := hid ea
  unfold viewV CatL.val
  rw [ea] at b0 P0 ⊢
  obtain ⟨x0, x1, x2, x3, x4⟩ := P0.five
  have c1 : (k.on : Int) ≤ (k.ok : Int) := by omega
  have c2 : (1 : Int) ≤ (k.on : Int) := by omega
  clear hk hw hc lk ok hN ea
  by_cases hok : k.ok = 1
  · have e1 : k.on = 1 := by omega
    have TT : Hid (tidyB k b c = true) := hid (tidyB_mk OK.out LK.out (fun i hi => by omega))
    rw [hok, e1] at x3 b0 P0 ⊢
    rw [hok, e1] at c1
    rw [e1] at c2
    go_enter Tryz.func40, Tryz.ntmps40
    go_wp2
    clear x0 x1 x2 x3 x4
    go_loopw [11] (fun i wr => i = .int .i64 0 ∧ Below w.heap.size w wr) (fun i _ => 0)
    case atStart => exact ⟨rfl, b0⟩
    case round =>
      obtain ⟨rfl, hB⟩ := hrel
      go_wp2
      go_ret
      exact ⟨ret_bool TT.out.symm, hB⟩
  go_enter Tryz.func40, Tryz.ntmps40
  go_wp2
  clear x0 x1 x2 x3 x4
  go_loopw [11] (fun i wr => ∃ q : Nat, q ≤ k.on - 1 ∧ i = .int .i64 q ∧ Hid (∀ p, p < q → tidyAt k b c (p + 1) = true) ∧ Blk wr w.heap.size (.cells #[.int .i64 b, .slice c.a c.n c.k, .slice k.ta k.tn k.tk, .slice (some ⟨ob, off, none⟩) k.on k.ok, .map (some m)] 68) ∧ Below w.heap.size w wr) (fun i _ => k.on - 1 - (intOf i).toNat)
  case atStart => exact ⟨0, Nat.zero_le _, rfl, hid (fun p hp => by omega), P0, b0⟩
  case round =>
    clear P0 b0
    obtain ⟨q, hq, rfl, HA0, P, hB⟩ := hrel
    by_cases hlt2 : q < k.on - 1
    · obtain ⟨_, _, e1, hlt0, hcc⟩ := (HO.out wr hB) (by omega)
      cases e1
      obtain ⟨⟨q0, q1, q2, q3, q4, q5, q6, q7, q8, q9⟩, ht⟩ := hcc (q + 1) (by omega)
      have ei : off + (q + 1) * 10 = off + 10 + q * 10 := by omega
      rw [ei] at q0 q1 q2 q3 q4 q5 q6 q7 q8 q9
      have i2 : (q : Int) < ((k.on - 1 : Nat) : Int) := by omega
      simp only [CatL.val, IntL.val, StrL.val] at q4 q6 q7 q9
      have lt3 : q + 1 < k.on := by omega
      clear hcc ei
      go_wp2
      have bC : Below wr.heap.size wr (wr.alloc (.cells #[.int .i64 (k.O (q + 1)).id, .int .i64 (k.O (q + 1)).kind, .int .i64 (k.O (q + 1)).up, .int .i64 (k.O (q + 1)).b1, .slice (k.O (q + 1)).c1.a (k.O (q + 1)).c1.n (k.O (q + 1)).c1.k, .string (k.O (q + 1)).data, .slice (k.O (q + 1)).items.a (k.O (q + 1)).items.n (k.O (q + 1)).items.k, .slice (k.O (q + 1)).own.a (k.O (q + 1)).own.n (k.O (q + 1)).own.k, .int .i64 (k.O (q + 1)).b2, .slice (k.O (q + 1)).c2.a (k.O (q + 1)).c2.n (k.O (q + 1)).c2.k] 58)) := (Below.refl _ wr).alloc (Nat.le_refl _) _
      have PV := P.alloc (.cells #[.int .i64 (k.O (q + 1)).id, .int .i64 (k.O (q + 1)).kind, .int .i64 (k.O (q + 1)).up, .int .i64 (k.O (q + 1)).b1, .slice (k.O (q + 1)).c1.a (k.O (q + 1)).c1.n (k.O (q + 1)).c1.k, .string (k.O (q + 1)).data, .slice (k.O (q + 1)).items.a (k.O (q + 1)).items.n (k.O (q + 1)).items.k, .slice (k.O (q + 1)).own.a (k.O (q + 1)).own.n (k.O (q + 1)).own.k, .int .i64 (k.O (q + 1)).b2, .slice (k.O (q + 1)).c2.a (k.O (q + 1)).c2.n (k.O (q + 1)).c2.k] 58)
      have XV := Blk.new wr (.cells #[.int .i64 (k.O (q + 1)).id, .int .i64 (k.O (q + 1)).kind, .int .i64 (k.O (q + 1)).up, .int .i64 (k.O (q + 1)).b1, .slice (k.O (q + 1)).c1.a (k.O (q + 1)).c1.n (k.O (q + 1)).c1.k, .string (k.O (q + 1)).data, .slice (k.O (q + 1)).items.a (k.O (q + 1)).items.n (k.O (q + 1)).items.k, .slice (k.O (q + 1)).own.a (k.O (q + 1)).own.n (k.O (q + 1)).own.k, .int .i64 (k.O (q + 1)).b2, .slice (k.O (q + 1)).c2.a (k.O (q + 1)).c2.n (k.O (q + 1)).c2.k] 58)
      have BV := then_ hB bC
      generalize hV : wr.alloc (.cells #[.int .i64 (k.O (q + 1)).id, .int .i64 (k.O (q + 1)).kind, .int .i64 (k.O (q + 1)).up, .int .i64 (k.O (q + 1)).b1, .slice (k.O (q + 1)).c1.a (k.O (q + 1)).c1.n (k.O (q + 1)).c1.k, .string (k.O (q + 1)).data, .slice (k.O (q + 1)).items.a (k.O (q + 1)).items.n (k.O (q + 1)).items.k, .slice (k.O (q + 1)).own.a (k.O (q + 1)).own.n (k.O (q + 1)).own.k, .int .i64 (k.O (q + 1)).b2, .slice (k.O (q + 1)).c2.a (k.O (q + 1)).c2.n (k.O (q + 1)).c2.k] 58) = V at *
      have HA : Hid (∀ W, Below V.heap.size V W → Blk W w.heap.size (.cells #[.int .i64 b, .slice c.a c.n c.k, .slice k.ta k.tn k.tk, .slice (some ⟨ob, off, none⟩) k.on k.ok, .map (some m)] 68) ∧ Blk W wr.heap.size (.cells #[.int .i64 (k.O (q + 1)).id, .int .i64 (k.O (q + 1)).kind, .int .i64 (k.O (q + 1)).up, .int .i64 (k.O (q + 1)).b1, .slice (k.O (q + 1)).c1.a (k.O (q + 1)).c1.n (k.O (q + 1)).c1.k, .string (k.O (q + 1)).data, .slice (k.O (q + 1)).items.a (k.O (q + 1)).items.n (k.O (q + 1)).items.k, .slice (k.O (q + 1)).own.a (k.O (q + 1)).own.n (k.O (q + 1)).own.k, .int .i64 (k.O (q + 1)).b2, .slice (k.O (q + 1)).c2.a (k.O (q + 1)).c2.n (k.O (q + 1)).c2.k] 58)) := hid (fun W h => ⟨PV.below h, XV.below h⟩)
      have HT := hid (ht.below bC)
      have PS : Hid (∀ W, Below V.heap.size V W → Calls Tryz.prog 31 #[.agg #[.int .i64 b, c.val], (k.O (q + 1)).val] W fun e w' => ∃ v, e = .returned v ∧ v = .bool (seenO (k.O (q + 1)) b c) ∧ Below W.heap.size W w') := hid (fun W hW => (sees_any b c (k.O (q + 1)) W (HC.out.below (then_ BV hW)) (HT.out.below hW)).mono fun e w' ⟨h1, h2⟩ => ⟨_, h1, by rw [leq_seen (kerOk_objs OK.out) lt3 LK.out], h2⟩)
      have PB : Hid (∀ W, Below V.heap.size V W → Calls Tryz.prog 60 #[.agg #[.slice k.ta k.tn k.tk, .slice k.oa k.on k.ok, .map (some m)], (k.O (q + 1)).val] W fun e w' => ∃ v, e = .returned v ∧ v = (k.O (boxI k (q + 1))).val ∧ Below W.heap.size W w') := hid (fun W hW => (boxOf_any k m nb kv B (q + 1) W (HK.out.below (then_ BV hW)) OK.out HW.out (HN.out.below (then_ BV hW)) lt3 (by omega)).mono fun e w' ⟨h1, h2⟩ => ⟨_, h1, rfl, h2⟩)
      have hbx := (has_box (b := b) (c := c) OK.out lt3 (by omega)).2.1
      have PU : Hid (∀ W, Below V.heap.size V W → Calls Tryz.prog 31 #[.agg #[.int .i64 b, c.val], (k.O (boxI k (q + 1))).val] W fun e w' => ∃ v, e = .returned v ∧ v = .bool (seenO (k.O (boxI k (q + 1))) b c) ∧ Below W.heap.size W w') := hid (fun W hW => (sees_any b c (k.O (boxI k (q + 1))) W (HC.out.below (then_ BV hW)) (((HO.out W (then_ BV hW)) (by omega)).choose_spec.choose_spec.2.2 _ hbx).2).mono fun e w' ⟨h1, h2⟩ => ⟨_, h1, by rw [leq_seen (kerOk_objs OK.out) hbx LK.out], h2⟩)
      have V0 : Below V.heap.size V V.drew := (Below.refl _ V).drew
      have HT1 : Hid (tidyAt k b c (q + 1) = (!seenO (k.O (q + 1)) b c || seenO (k.O (boxI k (q + 1))) b c)) := hid rfl
      generalize (k.O (boxI k (q + 1))).val = OV at PB PU
      rw [EA.out] at PB
      unfold ObjV.val at PS PB
      unfold CatL.val IntL.val StrL.val at PS PB
      unfold CatL.val at PU
      clear q0 q1 q2 q3 q4 q5 q6 q7 q8 q9 ht hbx bC hV
      cases s1 : seenO (k.O (q + 1)) b c with
      | false =>
        rw [s1] at PS HT1
        clear s1
        refine wp_region_G 14 (fun W => Below V.heap.size V W) (by kernel_rfl) ?_
        refine wpAnyG_takeD (i := 0) (d := 15) (.pointer (some ⟨w.heap.size, 0, none⟩)) rfl rfl (by kernel_rfl) (by kernel_rfl) (by kernel_rfl) (by kernel_rfl) (by kernel_rfl) (by kernel_rfl) (fun _ _ _ h => h) (Or.inl ⟨by rfl, fun W h => by go_simp⟩) V0 ?_
        simp only [Act.put, List.setIfInBounds_toArray, List.set_cons_zero, List.set_cons_succ]
        refine wpAnyG_takeD (i := 1) (d := 16) (.agg #[.int .i64 b, .slice c.a c.n c.k]) rfl rfl (by kernel_rfl) (by kernel_rfl) (by kernel_rfl) (by kernel_rfl) (by kernel_rfl) (by kernel_rfl) (fun _ _ _ h => h) (Or.inl ⟨by rfl, fun W h => by obtain ⟨q0, q1, q2, q3, q4⟩ := (HA.out W h).1.five; go_simp⟩) V0 ?_
        simp only [Act.put, List.setIfInBounds_toArray, List.set_cons_zero, List.set_cons_succ]
        refine wpAnyG_takeD (i := 2) (d := 17) (.agg #[.int .i64 (k.O (q + 1)).id, .int .i64 (k.O (q + 1)).kind, .int .i64 (k.O (q + 1)).up, .int .i64 (k.O (q + 1)).b1, .slice (k.O (q + 1)).c1.a (k.O (q + 1)).c1.n (k.O (q + 1)).c1.k, .string (k.O (q + 1)).data, .slice (k.O (q + 1)).items.a (k.O (q + 1)).items.n (k.O (q + 1)).items.k, .slice (k.O (q + 1)).own.a (k.O (q + 1)).own.n (k.O (q + 1)).own.k, .int .i64 (k.O (q + 1)).b2, .slice (k.O (q + 1)).c2.a (k.O (q + 1)).c2.n (k.O (q + 1)).c2.k]) rfl rfl (by kernel_rfl) (by kernel_rfl) (by kernel_rfl) (by kernel_rfl) (by kernel_rfl) (by kernel_rfl) (fun _ _ _ h => h) (Or.inl ⟨by rfl, fun W h => by obtain ⟨q0, q1, q2, q3, q4, q5, q6, q7, q8, q9⟩ := (HA.out W h).2.ten; go_simp⟩) V0 ?_
        simp only [Act.put, List.setIfInBounds_toArray, List.set_cons_zero, List.set_cons_succ]
        refine wpAnyG_one (i := 3) (by kernel_rfl) rfl ?_
        intro K hK
        refine step_call2g (by rfl) 31 _ _ _ (by rfl) EG _ _ (by rfl) (by rfl) (some 18) (by rfl) _ (PS.out _ V0) ?_
        rintro v w3 ⟨rfl, h3⟩
        have V1 := then_ V0 h3
        refine hK.out _ _ (fun _ => V1) ?_
        clear hK K
        simp only [Act.put, List.setIfInBounds_toArray, List.set_cons_zero, List.set_cons_succ]
        refine wpAnyG_takeD (i := 4) (d := 19) (.bool false) rfl rfl (by kernel_rfl) (by kernel_rfl) (by kernel_rfl) (by kernel_rfl) (by kernel_rfl) (by kernel_rfl) (fun _ _ _ h => h) (Or.inl ⟨by rfl, fun W h => by go_simp⟩) V1 ?_
        simp only [Act.put, List.setIfInBounds_toArray, List.set_cons_zero, List.set_cons_succ]
        refine wpAnyG_skip (i := 5) (d := 20) rfl rfl (by kernel_rfl) (by kernel_rfl) (by kernel_rfl) (by kernel_rfl) (by kernel_rfl) (by kernel_rfl) (fun _ _ _ h => h) (by rfl) V1 ?_
        simp only [Act.put, List.setIfInBounds_toArray, List.set_cons_zero, List.set_cons_succ]
        refine wpAnyG_skip (i := 6) (d := 21) rfl rfl (by kernel_rfl) (by kernel_rfl) (by kernel_rfl) (by kernel_rfl) (by kernel_rfl) (by kernel_rfl) (fun _ _ _ h => h) (by rfl) V1 ?_
        simp only [Act.put, List.setIfInBounds_toArray, List.set_cons_zero, List.set_cons_succ]
        refine wpAnyG_skip (i := 7) (d := 22) rfl rfl (by kernel_rfl) (by kernel_rfl) (by kernel_rfl) (by kernel_rfl) (by kernel_rfl) (by kernel_rfl) (fun _ _ _ h => h) (by rfl) V1 ?_
        simp only [Act.put, List.setIfInBounds_toArray, List.set_cons_zero, List.set_cons_succ]
        refine wpAnyG_skip (i := 8) (d := 23) rfl rfl (by kernel_rfl) (by kernel_rfl) (by kernel_rfl) (by kernel_rfl) (by kernel_rfl) (by kernel_rfl) (fun _ _ _ h => h) (by rfl) V1 ?_
        simp only [Act.put, List.setIfInBounds_toArray, List.set_cons_zero, List.set_cons_succ]
        refine wpAnyG_skip (i := 9) (d := 24) rfl rfl (by kernel_rfl) (by kernel_rfl) (by kernel_rfl) (by kernel_rfl) (by kernel_rfl) (by kernel_rfl) (fun _ _ _ h => h) (by rfl) V1 ?_
        simp only [Act.put, List.setIfInBounds_toArray, List.set_cons_zero, List.set_cons_succ]
        refine wpAnyG_skip (i := 10) (d := 25) rfl rfl (by kernel_rfl) (by kernel_rfl) (by kernel_rfl) (by kernel_rfl) (by kernel_rfl) (by kernel_rfl) (fun _ _ _ h => h) (by rfl) V1 ?_
        simp only [Act.put, List.setIfInBounds_toArray, List.set_cons_zero, List.set_cons_succ]
        refine wpAnyG_skip (i := 11) (d := 26) rfl rfl (by kernel_rfl) (by kernel_rfl) (by kernel_rfl) (by kernel_rfl) (by kernel_rfl) (by kernel_rfl) (fun _ _ _ h => h) (by rfl) V1 ?_
        simp only [Act.put, List.setIfInBounds_toArray, List.set_cons_zero, List.set_cons_succ]
        refine wpAnyG_skip (i := 12) (d := 27) rfl rfl (by kernel_rfl) (by kernel_rfl) (by kernel_rfl) (by kernel_rfl) (by kernel_rfl) (by kernel_rfl) (fun _ _ _ h => h) (by rfl) V1 ?_
        simp only [Act.put, List.setIfInBounds_toArray, List.set_cons_zero, List.set_cons_succ]
        refine wpAnyG_takeD (i := 13) (d := 28) (.bool false) rfl rfl (by kernel_rfl) (by kernel_rfl) (by kernel_rfl) (by kernel_rfl) (by kernel_rfl) (by kernel_rfl) (fun _ _ _ h => h) (Or.inl ⟨by rfl, fun W h => by go_simp⟩) V1 ?_
        simp only [Act.put, List.setIfInBounds_toArray, List.set_cons_zero, List.set_cons_succ]
        refine wpAnyG_done (by kernel_rfl) ?_ _
        have VV := V1
        have B3 := then_ BV VV
        have P3 := (HA.out _ VV).1
        clear PS PB PU HA V0 V1 VV h3 PV XV HT BV
        go_wp2
        refine ⟨⟨q + 1, by omega, by go_num, hid (fun p hp => ?_), P3, B3⟩, by simp [intOf]; omega⟩
        by_cases e : p = q
        · subst e; exact HT1.out
        · exact HA0.out p (by omega)
      | true =>
        rw [s1] at PS HT1
        clear s1
        cases s2 : seenO (k.O (boxI k (q + 1))) b c with
        | true =>
          rw [s2] at PU HT1
          clear s2
          refine wp_region_G 14 (fun W => Below V.heap.size V W) (by kernel_rfl) ?_
          refine wpAnyG_takeD (i := 0) (d := 15) (.pointer (some ⟨w.heap.size, 0, none⟩)) rfl rfl (by kernel_rfl) (by kernel_rfl) (by kernel_rfl) (by kernel_rfl) (by kernel_rfl) (by kernel_rfl) (fun _ _ _ h => h) (Or.inl ⟨by rfl, fun W h => by go_simp⟩) V0 ?_
          simp only [Act.put, List.setIfInBounds_toArray, List.set_cons_zero, List.set_cons_succ]
          refine wpAnyG_takeD (i := 1) (d := 16) (.agg #[.int .i64 b, .slice c.a c.n c.k]) rfl rfl (by kernel_rfl) (by kernel_rfl) (by kernel_rfl) (by kernel_rfl) (by kernel_rfl) (by kernel_rfl) (fun _ _ _ h => h) (Or.inl ⟨by rfl, fun W h => by obtain ⟨q0, q1, q2, q3, q4⟩ := (HA.out W h).1.five; go_simp⟩) V0 ?_
          simp only [Act.put, List.setIfInBounds_toArray, List.set_cons_zero, List.set_cons_succ]
          refine wpAnyG_takeD (i := 2) (d := 17) (.agg #[.int .i64 (k.O (q + 1)).id, .int .i64 (k.O (q + 1)).kind, .int .i64 (k.O (q + 1)).up, .int .i64 (k.O (q + 1)).b1, .slice (k.O (q + 1)).c1.a (k.O (q + 1)).c1.n (k.O (q + 1)).c1.k, .string (k.O (q + 1)).data, .slice (k.O (q + 1)).items.a (k.O (q + 1)).items.n (k.O (q + 1)).items.k, .slice (k.O (q + 1)).own.a (k.O (q + 1)).own.n (k.O (q + 1)).own.k, .int .i64 (k.O (q + 1)).b2, .slice (k.O (q + 1)).c2.a (k.O (q + 1)).c2.n (k.O (q + 1)).c2.k]) rfl rfl (by kernel_rfl) (by kernel_rfl) (by kernel_rfl) (by kernel_rfl) (by kernel_rfl) (by kernel_rfl) (fun _ _ _ h => h) (Or.inl ⟨by rfl, fun W h => by obtain ⟨q0, q1, q2, q3, q4, q5, q6, q7, q8, q9⟩ := (HA.out W h).2.ten; go_simp⟩) V0 ?_
          simp only [Act.put, List.setIfInBounds_toArray, List.set_cons_zero, List.set_cons_succ]
          refine wpAnyG_one (i := 3) (by kernel_rfl) rfl ?_
          intro K hK
          refine step_call2g (by rfl) 31 _ _ _ (by rfl) EG _ _ (by rfl) (by rfl) (some 18) (by rfl) _ (PS.out _ V0) ?_
          rintro v w3 ⟨rfl, h3⟩
          have V1 := then_ V0 h3
          refine hK.out _ _ (fun _ => V1) ?_
          clear hK K
          simp only [Act.put, List.setIfInBounds_toArray, List.set_cons_zero, List.set_cons_succ]
          refine wpAnyG_takeD (i := 4) (d := 19) (.bool true) rfl rfl (by kernel_rfl) (by kernel_rfl) (by kernel_rfl) (by kernel_rfl) (by kernel_rfl) (by kernel_rfl) (fun _ _ _ h => h) (Or.inl ⟨by rfl, fun W h => by go_simp⟩) V1 ?_
          simp only [Act.put, List.setIfInBounds_toArray, List.set_cons_zero, List.set_cons_succ]
          refine wpAnyG_takeD (i := 5) (d := 20) (.pointer (some ⟨w.heap.size, 0, none⟩)) rfl rfl (by kernel_rfl) (by kernel_rfl) (by kernel_rfl) (by kernel_rfl) (by kernel_rfl) (by kernel_rfl) (fun _ _ _ h => h) (Or.inl ⟨by rfl, fun W h => by go_simp⟩) V1 ?_
          simp only [Act.put, List.setIfInBounds_toArray, List.set_cons_zero, List.set_cons_succ]
          refine wpAnyG_takeD (i := 6) (d := 21) (.agg #[.int .i64 b, .slice c.a c.n c.k]) rfl rfl (by kernel_rfl) (by kernel_rfl) (by kernel_rfl) (by kernel_rfl) (by kernel_rfl) (by kernel_rfl) (fun _ _ _ h => h) (Or.inl ⟨by rfl, fun W h => by obtain ⟨q0, q1, q2, q3, q4⟩ := (HA.out W h).1.five; go_simp⟩) V1 ?_
          simp only [Act.put, List.setIfInBounds_toArray, List.set_cons_zero, List.set_cons_succ]
          refine wpAnyG_takeD (i := 7) (d := 22) (.pointer (some ⟨w.heap.size, 2, none⟩)) rfl rfl (by kernel_rfl) (by kernel_rfl) (by kernel_rfl) (by kernel_rfl) (by kernel_rfl) (by kernel_rfl) (fun _ _ _ h => h) (Or.inl ⟨by rfl, fun W h => by go_simp⟩) V1 ?_
          simp only [Act.put, List.setIfInBounds_toArray, List.set_cons_zero, List.set_cons_succ]
          refine wpAnyG_takeD (i := 8) (d := 23) (.agg #[.slice k.ta k.tn k.tk, .slice (some ⟨ob, off, none⟩) k.on k.ok, .map (some m)]) rfl rfl (by kernel_rfl) (by kernel_rfl) (by kernel_rfl) (by kernel_rfl) (by kernel_rfl) (by kernel_rfl) (fun _ _ _ h => h) (Or.inl ⟨by rfl, fun W h => by obtain ⟨q0, q1, q2, q3, q4⟩ := (HA.out W h).1.five; go_simp⟩) V1 ?_
          simp only [Act.put, List.setIfInBounds_toArray, List.set_cons_zero, List.set_cons_succ]
          refine wpAnyG_takeD (i := 9) (d := 24) (.agg #[.int .i64 (k.O (q + 1)).id, .int .i64 (k.O (q + 1)).kind, .int .i64 (k.O (q + 1)).up, .int .i64 (k.O (q + 1)).b1, .slice (k.O (q + 1)).c1.a (k.O (q + 1)).c1.n (k.O (q + 1)).c1.k, .string (k.O (q + 1)).data, .slice (k.O (q + 1)).items.a (k.O (q + 1)).items.n (k.O (q + 1)).items.k, .slice (k.O (q + 1)).own.a (k.O (q + 1)).own.n (k.O (q + 1)).own.k, .int .i64 (k.O (q + 1)).b2, .slice (k.O (q + 1)).c2.a (k.O (q + 1)).c2.n (k.O (q + 1)).c2.k]) rfl rfl (by kernel_rfl) (by kernel_rfl) (by kernel_rfl) (by kernel_rfl) (by kernel_rfl) (by kernel_rfl) (fun _ _ _ h => h) (Or.inl ⟨by rfl, fun W h => by obtain ⟨q0, q1, q2, q3, q4, q5, q6, q7, q8, q9⟩ := (HA.out W h).2.ten; go_simp⟩) V1 ?_
          simp only [Act.put, List.setIfInBounds_toArray, List.set_cons_zero, List.set_cons_succ]
          refine wpAnyG_one (i := 10) (by kernel_rfl) rfl ?_
          intro K hK
          refine step_call2g (by rfl) 60 _ _ _ (by rfl) EB _ _ (by rfl) (by rfl) (some 25) (by rfl) _ (PB.out _ V1) ?_
          rintro v w4 ⟨rfl, h4⟩
          have V2 := then_ V1 h4
          refine hK.out _ _ (fun _ => V2) ?_
          clear hK K
          simp only [Act.put, List.setIfInBounds_toArray, List.set_cons_zero, List.set_cons_succ]
          refine wpAnyG_one (i := 11) (by kernel_rfl) rfl ?_
          intro K hK
          refine step_call2g (by rfl) 31 _ _ _ (by rfl) EG _ _ (by rfl) (by rfl) (some 26) (by rfl) _ (PU.out _ V2) ?_
          rintro v w5 ⟨rfl, h5⟩
          have V3 := then_ V2 h5
          refine hK.out _ _ (fun _ => V3) ?_
          clear hK K
          simp only [Act.put, List.setIfInBounds_toArray, List.set_cons_zero, List.set_cons_succ]
          refine wpAnyG_takeD (i := 12) (d := 27) (.bool false) rfl rfl (by kernel_rfl) (by kernel_rfl) (by kernel_rfl) (by kernel_rfl) (by kernel_rfl) (by kernel_rfl) (fun _ _ _ h => h) (Or.inl ⟨by rfl, fun W h => by go_simp⟩) V3 ?_
          simp only [Act.put, List.setIfInBounds_toArray, List.set_cons_zero, List.set_cons_succ]
          refine wpAnyG_takeD (i := 13) (d := 28) (.bool false) rfl rfl (by kernel_rfl) (by kernel_rfl) (by kernel_rfl) (by kernel_rfl) (by kernel_rfl) (by kernel_rfl) (fun _ _ _ h => h) (Or.inl ⟨by rfl, fun W h => by go_simp⟩) V3 ?_
          simp only [Act.put, List.setIfInBounds_toArray, List.set_cons_zero, List.set_cons_succ]
          refine wpAnyG_done (by kernel_rfl) ?_ _
          have VV := V3
          have B3 := then_ BV VV
          have P3 := (HA.out _ VV).1
          clear PS PB PU HA V0 V1 V2 V3 VV h3 h4 h5 PV XV HT BV
          go_wp2
          refine ⟨⟨q + 1, by omega, by go_num, hid (fun p hp => ?_), P3, B3⟩, by simp [intOf]; omega⟩
          by_cases e : p = q
          · subst e; exact HT1.out
          · exact HA0.out p (by omega)
        | false =>
          rw [s2] at PU HT1
          clear s2
          refine wp_region_G 14 (fun W => Below V.heap.size V W) (by kernel_rfl) ?_
          refine wpAnyG_takeD (i := 0) (d := 15) (.pointer (some ⟨w.heap.size, 0, none⟩)) rfl rfl (by kernel_rfl) (by kernel_rfl) (by kernel_rfl) (by kernel_rfl) (by kernel_rfl) (by kernel_rfl) (fun _ _ _ h => h) (Or.inl ⟨by rfl, fun W h => by go_simp⟩) V0 ?_
          simp only [Act.put, List.setIfInBounds_toArray, List.set_cons_zero, List.set_cons_succ]
          refine wpAnyG_takeD (i := 1) (d := 16) (.agg #[.int .i64 b, .slice c.a c.n c.k]) rfl rfl (by kernel_rfl) (by kernel_rfl) (by kernel_rfl) (by kernel_rfl) (by kernel_rfl) (by kernel_rfl) (fun _ _ _ h => h) (Or.inl ⟨by rfl, fun W h => by obtain ⟨q0, q1, q2, q3, q4⟩ := (HA.out W h).1.five; go_simp⟩) V0 ?_
          simp only [Act.put, List.setIfInBounds_toArray, List.set_cons_zero, List.set_cons_succ]
          refine wpAnyG_takeD (i := 2) (d := 17) (.agg #[.int .i64 (k.O (q + 1)).id, .int .i64 (k.O (q + 1)).kind, .int .i64 (k.O (q + 1)).up, .int .i64 (k.O (q + 1)).b1, .slice (k.O (q + 1)).c1.a (k.O (q + 1)).c1.n (k.O (q + 1)).c1.k, .string (k.O (q + 1)).data, .slice (k.O (q + 1)).items.a (k.O (q + 1)).items.n (k.O (q + 1)).items.k, .slice (k.O (q + 1)).own.a (k.O (q + 1)).own.n (k.O (q + 1)).own.k, .int .i64 (k.O (q + 1)).b2, .slice (k.O (q + 1)).c2.a (k.O (q + 1)).c2.n (k.O (q + 1)).c2.k]) rfl rfl (by kernel_rfl) (by kernel_rfl) (by kernel_rfl) (by kernel_rfl) (by kernel_rfl) (by kernel_rfl) (fun _ _ _ h => h) (Or.inl ⟨by rfl, fun W h => by obtain ⟨q0, q1, q2, q3, q4, q5, q6, q7, q8, q9⟩ := (HA.out W h).2.ten; go_simp⟩) V0 ?_
          simp only [Act.put, List.setIfInBounds_toArray, List.set_cons_zero, List.set_cons_succ]
          refine wpAnyG_one (i := 3) (by kernel_rfl) rfl ?_
          intro K hK
          refine step_call2g (by rfl) 31 _ _ _ (by rfl) EG _ _ (by rfl) (by rfl) (some 18) (by rfl) _ (PS.out _ V0) ?_
          rintro v w3 ⟨rfl, h3⟩
          have V1 := then_ V0 h3
          refine hK.out _ _ (fun _ => V1) ?_
          clear hK K
          simp only [Act.put, List.setIfInBounds_toArray, List.set_cons_zero, List.set_cons_succ]
          refine wpAnyG_takeD (i := 4) (d := 19) (.bool true) rfl rfl (by kernel_rfl) (by kernel_rfl) (by kernel_rfl) (by kernel_rfl) (by kernel_rfl) (by kernel_rfl) (fun _ _ _ h => h) (Or.inl ⟨by rfl, fun W h => by go_simp⟩) V1 ?_
          simp only [Act.put, List.setIfInBounds_toArray, List.set_cons_zero, List.set_cons_succ]
          refine wpAnyG_takeD (i := 5) (d := 20) (.pointer (some ⟨w.heap.size, 0, none⟩)) rfl rfl (by kernel_rfl) (by kernel_rfl) (by kernel_rfl) (by kernel_rfl) (by kernel_rfl) (by kernel_rfl) (fun _ _ _ h => h) (Or.inl ⟨by rfl, fun W h => by go_simp⟩) V1 ?_
          simp only [Act.put, List.setIfInBounds_toArray, List.set_cons_zero, List.set_cons_succ]
          refine wpAnyG_takeD (i := 6) (d := 21) (.agg #[.int .i64 b, .slice c.a c.n c.k]) rfl rfl (by kernel_rfl) (by kernel_rfl) (by kernel_rfl) (by kernel_rfl) (by kernel_rfl) (by kernel_rfl) (fun _ _ _ h => h) (Or.inl ⟨by rfl, fun W h => by obtain ⟨q0, q1, q2, q3, q4⟩ := (HA.out W h).1.five; go_simp⟩) V1 ?_
          simp only [Act.put, List.setIfInBounds_toArray, List.set_cons_zero, List.set_cons_succ]
          refine wpAnyG_takeD (i := 7) (d := 22) (.pointer (some ⟨w.heap.size, 2, none⟩)) rfl rfl (by kernel_rfl) (by kernel_rfl) (by kernel_rfl) (by kernel_rfl) (by kernel_rfl) (by kernel_rfl) (fun _ _ _ h => h) (Or.inl ⟨by rfl, fun W h => by go_simp⟩) V1 ?_
          simp only [Act.put, List.setIfInBounds_toArray, List.set_cons_zero, List.set_cons_succ]
          refine wpAnyG_takeD (i := 8) (d := 23) (.agg #[.slice k.ta k.tn k.tk, .slice (some ⟨ob, off, none⟩) k.on k.ok, .map (some m)]) rfl rfl (by kernel_rfl) (by kernel_rfl) (by kernel_rfl) (by kernel_rfl) (by kernel_rfl) (by kernel_rfl) (fun _ _ _ h => h) (Or.inl ⟨by rfl, fun W h => by obtain ⟨q0, q1, q2, q3, q4⟩ := (HA.out W h).1.five; go_simp⟩) V1 ?_
          simp only [Act.put, List.setIfInBounds_toArray, List.set_cons_zero, List.set_cons_succ]
          refine wpAnyG_takeD (i := 9) (d := 24) (.agg #[.int .i64 (k.O (q + 1)).id, .int .i64 (k.O (q + 1)).kind, .int .i64 (k.O (q + 1)).up, .int .i64 (k.O (q + 1)).b1, .slice (k.O (q + 1)).c1.a (k.O (q + 1)).c1.n (k.O (q + 1)).c1.k, .string (k.O (q + 1)).data, .slice (k.O (q + 1)).items.a (k.O (q + 1)).items.n (k.O (q + 1)).items.k, .slice (k.O (q + 1)).own.a (k.O (q + 1)).own.n (k.O (q + 1)).own.k, .int .i64 (k.O (q + 1)).b2, .slice (k.O (q + 1)).c2.a (k.O (q + 1)).c2.n (k.O (q + 1)).c2.k]) rfl rfl (by kernel_rfl) (by kernel_rfl) (by kernel_rfl) (by kernel_rfl) (by kernel_rfl) (by kernel_rfl) (fun _ _ _ h => h) (Or.inl ⟨by rfl, fun W h => by obtain ⟨q0, q1, q2, q3, q4, q5, q6, q7, q8, q9⟩ := (HA.out W h).2.ten; go_simp⟩) V1 ?_
          simp only [Act.put, List.setIfInBounds_toArray, List.set_cons_zero, List.set_cons_succ]
          refine wpAnyG_one (i := 10) (by kernel_rfl) rfl ?_
          intro K hK
          refine step_call2g (by rfl) 60 _ _ _ (by rfl) EB _ _ (by rfl) (by rfl) (some 25) (by rfl) _ (PB.out _ V1) ?_
          rintro v w4 ⟨rfl, h4⟩
          have V2 := then_ V1 h4
          refine hK.out _ _ (fun _ => V2) ?_
          clear hK K
          simp only [Act.put, List.setIfInBounds_toArray, List.set_cons_zero, List.set_cons_succ]
          refine wpAnyG_one (i := 11) (by kernel_rfl) rfl ?_
          intro K hK
          refine step_call2g (by rfl) 31 _ _ _ (by rfl) EG _ _ (by rfl) (by rfl) (some 26) (by rfl) _ (PU.out _ V2) ?_
          rintro v w5 ⟨rfl, h5⟩
          have V3 := then_ V2 h5
          refine hK.out _ _ (fun _ => V3) ?_
          clear hK K
          simp only [Act.put, List.setIfInBounds_toArray, List.set_cons_zero, List.set_cons_succ]
          refine wpAnyG_takeD (i := 12) (d := 27) (.bool true) rfl rfl (by kernel_rfl) (by kernel_rfl) (by kernel_rfl) (by kernel_rfl) (by kernel_rfl) (by kernel_rfl) (fun _ _ _ h => h) (Or.inl ⟨by rfl, fun W h => by go_simp⟩) V3 ?_
          simp only [Act.put, List.setIfInBounds_toArray, List.set_cons_zero, List.set_cons_succ]
          refine wpAnyG_takeD (i := 13) (d := 28) (.bool true) rfl rfl (by kernel_rfl) (by kernel_rfl) (by kernel_rfl) (by kernel_rfl) (by kernel_rfl) (by kernel_rfl) (fun _ _ _ h => h) (Or.inl ⟨by rfl, fun W h => by go_simp⟩) V3 ?_
          simp only [Act.put, List.setIfInBounds_toArray, List.set_cons_zero, List.set_cons_succ]
          refine wpAnyG_done (by kernel_rfl) ?_ _
          have VV := V3
          have B3 := then_ BV VV
          clear PS PB PU HA V0 V1 V2 V3 VV h3 h4 h5 PV XV HT BV
          have TF := hid (tidyB_at (b := b) (c := c) lt3 HT1.out)
          go_wp2
          go_ret
          exact ⟨ret_bool TF.out.symm, B3⟩
    · have e : q = k.on - 1 := by omega
      have TT : Hid (tidyB k b c = true) := hid (tidyB_mk OK.out LK.out (fun i hi => HA0.out i (by omega)))
      subst e
      go_wp2
      go_ret
      exact ⟨ret_bool TT.out.symm, hB⟩
end Go.Proofs.YtgkfcjcdfbmbjaaGreat
