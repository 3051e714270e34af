/- KernelText of the model answers the plain text. -/
import Derived.Test.YtjceaajnemgheaaGreatDoorTR2
import Derived.Test.YtjceaajnemgheaaGreatDoorKB10
import Derived.Test.YtjceaajnemgheaaGreatDoorZ39
namespace Go.Proofs.YtjceaajnemgheaaGreatDoor
open Go Go.RowKit Go.Deep Go.Maps Go.BigFrame Go.Shelf

theorem ba_ext {a b : ByteArray} (h : a.data.toList = b.data.toList) : a = b := by
  obtain ⟨⟨x⟩⟩ := a
  obtain ⟨⟨y⟩⟩ := b
  simp at h
  rw [h]
theorem thr_chain (s : List UInt8) (t : ThrV) : (⟨s.toArray⟩ : ByteArray) ++ ByteArray.mk #[116, 104, 114, 101, 97, 100, 32] ++ ⟨(dc t.id).toArray⟩ ++ ByteArray.mk #[32] ++ ⟨(lb t.b1 t.c1).toArray⟩ ++ ByteArray.mk #[32] ++ ⟨(lb t.b2 t.c2).toArray⟩ ++ ByteArray.mk #[32] ++ ⟨(dc t.made).toArray⟩ ++ ⟨(bl (nums t.own)).toArray⟩ ++ ByteArray.mk #[10] = ⟨(s ++ thrX t).toArray⟩ := by
  refine ba_ext ?_
  rw [line_thr]
  simp [ByteArray.data_append, thrW]
theorem obj_chain (s : List UInt8) (o : ObjV) : (⟨s.toArray⟩ : ByteArray) ++ ByteArray.mk #[111, 98, 106, 101, 99, 116, 32] ++ ⟨(dc o.id).toArray⟩ ++ ByteArray.mk #[32] ++ ⟨(dc o.kind).toArray⟩ ++ ByteArray.mk #[32] ++ ⟨(dc o.up).toArray⟩ ++ ByteArray.mk #[32] ++ ⟨(lb o.b1 o.c1).toArray⟩ ++ ByteArray.mk #[32] ++ ⟨(lb o.b2 o.c2).toArray⟩ ++ ⟨(bl (nums o.own)).toArray⟩ ++ ByteArray.mk #[10] = ⟨(s ++ objX o []).toArray⟩ := by
  refine ba_ext ?_
  rw [line_obj]
  simp [ByteArray.data_append, objW, bl]
theorem dat_chain (s : List UInt8) (d : ByteArray) (h : ¬ d.toList.isEmpty = true) : (⟨s.toArray⟩ : ByteArray) ++ ByteArray.mk #[100, 97, 116, 97, 32] ++ d ++ ByteArray.mk #[10] = ⟨(s ++ datX d).toArray⟩ := by
  refine ba_ext ?_
  rw [datX, if_neg h, line_two]
  simp [ByteArray.data_append, datW]
theorem itm_chain (s : List UInt8) (d : ByteArray) : (⟨s.toArray⟩ : ByteArray) ++ ByteArray.mk #[105, 116, 101, 109, 32] ++ d ++ ByteArray.mk #[10] = ⟨(s ++ lineL [itmW, d.data.toList]).toArray⟩ := by
  refine ba_ext ?_
  rw [line_two]
  simp [ByteArray.data_append, itmW]

set_option maxRecDepth 100000 in
set_option maxHeartbeats 16000000 in
theorem specText_any (k : KerV) (w : World) (hk : k.at w) (hw : k.wfs) :
    Calls Tryz.prog 13 #[k.val] w fun e w' => e = .returned (.string (kText k)) ∧ Below w.heap.size w w' := by
  have ED : ∀ args w, (callFunc 25 args).run Tryz.prog w = .ok (.enter 25 args) w := enters_of Tryz.func25 (by kernel_rfl) rfl
  have EX : ∀ args w, (callFunc 26 args).run Tryz.prog w = .ok (.enter 26 args) w := enters_of Tryz.func26 (by kernel_rfl) rfl
  have EL : ∀ args w, (callFunc 27 args).run Tryz.prog w = .ok (.enter 27 args) w := enters_of Tryz.func27 (by kernel_rfl) rfl
  have b0 : Below w.heap.size w (w.alloc (Obj.cells #[.slice k.ta k.tn k.tk, .slice k.oa k.on k.ok] 25)) := (Below.refl _ w).alloc (Nat.le_refl _) _
  have A0 := Blk.new w (Obj.cells #[.slice k.ta k.tn k.tk, .slice k.oa k.on k.ok] 25)
  have HK := hid hk
  have C1 := hid (specKer_any k _ (hk.below b0) (fun i hi => (hw i hi).1))
  unfold KerV.val at C1
  unfold KerV.val
  obtain ⟨x0, x1⟩ := A0.two
  clear hk hw
  go_enter Tryz.func13, Tryz.ntmps13
  go_wp2_with fail
  refine C1.out.mono ?_
  rintro e w1 ⟨rfl, hb1⟩
  have A1 := A0.below hb1
  have B1 := then_ b0 hb1
  clear x0 x1 C1 A0 b0 hb1
  cases t : kerOk k with
  | false =>
    have E : kText k = ByteArray.mk #[] := by simp [kText, t]
    go_wp2
    go_ret
    exact ⟨ret_str E.symm, B1⟩
  | true =>
  have KT : Hid (kText k = ⟨(thrsX k.T k.tn ++ objsX k.O k.on).toArray⟩) := hid (by rw [kText, if_pos t])
  have OK := hid t
  obtain ⟨tn1, tn9, on2⟩ := ker_lens t
  clear t
  go_wp2
  go_loopw [3, 4] (fun s i wr => ∃ q : Nat, q ≤ k.tn ∧ i = .int .i64 q ∧ s = .string ⟨(thrsX k.T q).toArray⟩ ∧ Blk wr w.heap.size (Obj.cells #[.slice k.ta k.tn k.tk, .slice k.oa k.on k.ok] 25) ∧ Below w.heap.size w wr) (fun _ i _ => k.tn - (intOf i).toNat)
  case atStart => exact ⟨0, Nat.zero_le _, rfl, rfl, A1, B1⟩
  case round =>
    clear A1 B1
    obtain ⟨q, hq, rfl, rfl, A, hB⟩ := hrel
    by_cases hlt : q < k.tn
    · obtain ⟨tb, off, ea, hlt0, hcc⟩ := (HK.out.2.2.1.below hB) (by omega)
      rw [ea] at A
      obtain ⟨x0, x1⟩ := A.two
      obtain ⟨⟨q0, q1, q2, q3, q4, q5, q6⟩, ht⟩ := hcc q hlt
      have i1 : (q : Int) < (k.tn : Int) := by omega
      simp only [CatL.val, IntL.val] at q2 q4 q5
      clear hcc
      go_wp2
      have bC : Below wr.heap.size wr (wr.alloc (Obj.cells #[.int .i64 (k.T q).id, .int .i64 (k.T q).b1, .slice (k.T q).c1.a (k.T q).c1.n (k.T q).c1.k, .int .i64 (k.T q).b2, .slice (k.T q).c2.a (k.T q).c2.n (k.T q).c2.k, .slice (k.T q).own.a (k.T q).own.n (k.T q).own.k, .int .i64 (k.T q).made] 41)) := (Below.refl _ wr).alloc (Nat.le_refl _) _
      have XV := Blk.new wr (Obj.cells #[.int .i64 (k.T q).id, .int .i64 (k.T q).b1, .slice (k.T q).c1.a (k.T q).c1.n (k.T q).c1.k, .int .i64 (k.T q).b2, .slice (k.T q).c2.a (k.T q).c2.n (k.T q).c2.k, .slice (k.T q).own.a (k.T q).own.n (k.T q).own.k, .int .i64 (k.T q).made] 41)
      have AV := A.alloc (Obj.cells #[.int .i64 (k.T q).id, .int .i64 (k.T q).b1, .slice (k.T q).c1.a (k.T q).c1.n (k.T q).c1.k, .int .i64 (k.T q).b2, .slice (k.T q).c2.a (k.T q).c2.n (k.T q).c2.k, .slice (k.T q).own.a (k.T q).own.n (k.T q).own.k, .int .i64 (k.T q).made] 41)
      have HTt := hid (ht.below bC)
      have BV := then_ hB bC
      obtain ⟨p1, p2, p3, p4, p5⟩ := thr_small (ker_thr OK.out hlt)
      have EQ := hid (thr_chain (thrsX k.T q) (k.T q))
      rw [← thrsX_succ] at EQ
      have z0 : (⟨(thrsX k.T q).toArray⟩ : ByteArray).size ≤ 10000 := by rw [mk_size, List.size_toArray]; have := thrsX_len (T := k.T) (n := q) (fun i hi => ker_thr OK.out (by omega)); omega
      have z1 : (⟨(dc (k.T q).id).toArray⟩ : ByteArray).size ≤ 4 := by rw [mk_size, List.size_toArray]; exact dc_len p1
      have z2 : (⟨(dc (k.T q).made).toArray⟩ : ByteArray).size ≤ 4 := by rw [mk_size, List.size_toArray]; exact dc_len p2
      have z3 : (⟨(lb (k.T q).b1 (k.T q).c1).toArray⟩ : ByteArray).size ≤ 200 := by rw [mk_size, List.size_toArray]; exact lb_len p3
      have z4 : (⟨(lb (k.T q).b2 (k.T q).c2).toArray⟩ : ByteArray).size ≤ 200 := by rw [mk_size, List.size_toArray]; exact lb_len p4
      have z5 : (⟨(bl (nums (k.T q).own)).toArray⟩ : ByteArray).size ≤ 50 := by rw [mk_size, List.size_toArray]; have := bl_len (own_small p5).2; rw [nums_len] at this; have := (own_small p5).1; omega
      have ow : ∀ i, i < (k.T q).own.n → small ((k.T q).own.h i) := fun i hi => (own_small p5).2 _ (List.mem_map.2 ⟨i, List.mem_range.2 hi, rfl⟩)
      have on10 := (own_small p5).1
      generalize hV : wr.alloc (Obj.cells #[.int .i64 (k.T q).id, .int .i64 (k.T q).b1, .slice (k.T q).c1.a (k.T q).c1.n (k.T q).c1.k, .int .i64 (k.T q).b2, .slice (k.T q).c2.a (k.T q).c2.n (k.T q).c2.k, .slice (k.T q).own.a (k.T q).own.n (k.T q).own.k, .int .i64 (k.T q).made] 41) = V at *
      have PD1 : Hid (∀ W, Below V.heap.size V W → Calls Tryz.prog 25 #[.int .i64 (k.T q).id] W fun e w' => ∃ v, e = .returned v ∧ v = .string ⟨(dc (k.T q).id).toArray⟩ ∧ Below W.heap.size W w') := hid (fun W hW => (dec_s _ W p1).mono fun e w' ⟨h1, h2⟩ => ⟨_, h1, rfl, h2⟩)
      have PD2 : Hid (∀ W, Below V.heap.size V W → Calls Tryz.prog 25 #[.int .i64 (k.T q).made] W fun e w' => ∃ v, e = .returned v ∧ v = .string ⟨(dc (k.T q).made).toArray⟩ ∧ Below W.heap.size W w') := hid (fun W hW => (dec_s _ W p2).mono fun e w' ⟨h1, h2⟩ => ⟨_, h1, rfl, h2⟩)
      have PX1 : Hid (∀ W, Below V.heap.size V W → Calls Tryz.prog 26 #[.agg #[.int .i64 (k.T q).b1, .slice (k.T q).c1.a (k.T q).c1.n (k.T q).c1.k]] W fun e w' => ∃ v, e = .returned v ∧ v = .string ⟨(lb (k.T q).b1 (k.T q).c1).toArray⟩ ∧ Below W.heap.size W w') := hid (fun W hW => (txt_s _ (k.T q).c1 W (HTt.out.below hW).1 p3).mono fun e w' ⟨h1, h2⟩ => ⟨_, h1, rfl, h2⟩)
      have PX2 : Hid (∀ W, Below V.heap.size V W → Calls Tryz.prog 26 #[.agg #[.int .i64 (k.T q).b2, .slice (k.T q).c2.a (k.T q).c2.n (k.T q).c2.k]] W fun e w' => ∃ v, e = .returned v ∧ v = .string ⟨(lb (k.T q).b2 (k.T q).c2).toArray⟩ ∧ Below W.heap.size W w') := hid (fun W hW => (txt_s _ (k.T q).c2 W (HTt.out.below hW).2.1 p4).mono fun e w' ⟨h1, h2⟩ => ⟨_, h1, rfl, h2⟩)
      have PB : Hid (∀ W, Below V.heap.size V W → Calls Tryz.prog 27 #[.slice (k.T q).own.a (k.T q).own.n (k.T q).own.k] W fun e w' => ∃ v, e = .returned v ∧ v = .string ⟨(bl (nums (k.T q).own)).toArray⟩ ∧ Below W.heap.size W w') := hid (fun W hW => (l5List_any (k.T q).own W (HTt.out.below hW).2.2 ow (by omega)).mono fun e w' ⟨h1, h2⟩ => ⟨_, h1, rfl, h2⟩)
      have HA : Hid (∀ W, Below V.heap.size V W → Blk W wr.heap.size (Obj.cells #[.int .i64 (k.T q).id, .int .i64 (k.T q).b1, .slice (k.T q).c1.a (k.T q).c1.n (k.T q).c1.k, .int .i64 (k.T q).b2, .slice (k.T q).c2.a (k.T q).c2.n (k.T q).c2.k, .slice (k.T q).own.a (k.T q).own.n (k.T q).own.k, .int .i64 (k.T q).made] 41)) := hid (fun W h => XV.below h)
      have HKA := hid AV
      clear x0 x1 q0 q1 q2 q3 q4 q5 q6 ht XV AV p1 p2 p3 p4 p5 ow on10 bC hV A
      generalize (⟨(thrsX k.T q).toArray⟩ : ByteArray) = S at *
      generalize (⟨(dc (k.T q).id).toArray⟩ : ByteArray) = D1 at *
      generalize (⟨(dc (k.T q).made).toArray⟩ : ByteArray) = D2 at *
      generalize (⟨(lb (k.T q).b1 (k.T q).c1).toArray⟩ : ByteArray) = X1 at *
      generalize (⟨(lb (k.T q).b2 (k.T q).c2).toArray⟩ : ByteArray) = X2 at *
      generalize (⟨(bl (nums (k.T q).own)).toArray⟩ : ByteArray) = BL at *
      refine thrReg (k.T q) wr.heap.size S D1 D2 X1 X2 BL _ _ _ _ _ _ _ _ _ _ _ _ _ _ _ _ _ _ _ _ _ _ _ _ _ _ _ _ _ _ _ _ _ _ _ _ _ _ _ _ _ _ _ _ _ _ _ _ _ _ _ _ _ _ _ _ _ _ _ _ _ _ _ _ _ _ _ _ _ _ _ _ _ _ _ _ _ _ _ _ _ _ _ _ _ _ _ _ _ _ _ _ _ _ _ _ _ _ _ _ _ _ _ _ _ _ _ _ _ _ _ _ _ _ _ _ _ V _ (fun _ _ _ _ _ h => h) ED EX EL HA.out PD1.out PX1.out PX2.out PD2.out PB.out (by omega) z1 z2 z3 z4 (by omega) ?_
      intro W3 V3
      have B3 := then_ BV V3
      have A3 := HKA.out.below V3
      rw [← ea] at A3
      clear HA HKA PD1 PD2 PX1 PX2 PB ea
      go_wp2
      exact ⟨⟨q + 1, by omega, by go_num, by rw [EQ.out], A3, B3⟩, by simp [intOf]; omega⟩
    · have i1 : ¬ (q : Int) < (k.tn : Int) := by omega
      obtain rfl : q = k.tn := by omega
      obtain ⟨x0, x1⟩ := A.two
      go_wp2
      clear x0 x1
      go_loopw [3, 6] (fun s i wr => ∃ q : Nat, q ≤ k.on ∧ i = .int .i64 q ∧ s = .string ⟨(thrsX k.T k.tn ++ objsX k.O q).toArray⟩ ∧ Blk wr w.heap.size (Obj.cells #[.slice k.ta k.tn k.tk, .slice k.oa k.on k.ok] 25) ∧ Below w.heap.size w wr) (fun _ i _ => k.on - (intOf i).toNat)
      case atStart => exact ⟨0, Nat.zero_le _, rfl, by simp [objsX], A, hB⟩
      case round =>
        clear A hB i1 hlt hq
        obtain ⟨q, hq, rfl, rfl, A, hB⟩ := hrel
        by_cases hlt : q < k.on
        · obtain ⟨ob, off, ea, hlt0, hcc⟩ := (HK.out.2.2.2.below hB) (by omega)
          rw [ea] at A
          obtain ⟨x0, x1⟩ := A.two
          obtain ⟨⟨q0, q1, q2, q3, q4, q5, q6, q7, q8, q9⟩, ht⟩ := hcc q hlt
          have i1 : (q : Int) < (k.on : Int) := by omega
          simp only [CatL.val, IntL.val, StrL.val] at q4 q6 q7 q9
          clear hcc
          go_wp2
          have bC : Below wr.heap.size wr (wr.alloc (Obj.cells #[.int .i64 (k.O q).id, .int .i64 (k.O q).kind, .int .i64 (k.O q).up, .int .i64 (k.O q).b1, .slice (k.O q).c1.a (k.O q).c1.n (k.O q).c1.k, .string (k.O q).data, .slice (k.O q).items.a (k.O q).items.n (k.O q).items.k, .slice (k.O q).own.a (k.O q).own.n (k.O q).own.k, .int .i64 (k.O q).b2, .slice (k.O q).c2.a (k.O q).c2.n (k.O q).c2.k] 45)) := (Below.refl _ wr).alloc (Nat.le_refl _) _
          have XV := Blk.new wr (Obj.cells #[.int .i64 (k.O q).id, .int .i64 (k.O q).kind, .int .i64 (k.O q).up, .int .i64 (k.O q).b1, .slice (k.O q).c1.a (k.O q).c1.n (k.O q).c1.k, .string (k.O q).data, .slice (k.O q).items.a (k.O q).items.n (k.O q).items.k, .slice (k.O q).own.a (k.O q).own.n (k.O q).own.k, .int .i64 (k.O q).b2, .slice (k.O q).c2.a (k.O q).c2.n (k.O q).c2.k] 45)
          have AV := A.alloc (Obj.cells #[.int .i64 (k.O q).id, .int .i64 (k.O q).kind, .int .i64 (k.O q).up, .int .i64 (k.O q).b1, .slice (k.O q).c1.a (k.O q).c1.n (k.O q).c1.k, .string (k.O q).data, .slice (k.O q).items.a (k.O q).items.n (k.O q).items.k, .slice (k.O q).own.a (k.O q).own.n (k.O q).own.k, .int .i64 (k.O q).b2, .slice (k.O q).c2.a (k.O q).c2.n (k.O q).c2.k] 45)
          have HTt := hid (ht.below bC)
          have BV := then_ hB bC
          obtain ⟨p1, p2, p3, p4, p5, p6, p7⟩ := obj_parts (ker_obj OK.out hlt)
          have y1 := ker_id OK.out hlt
          have y2 := ker_up OK.out hlt
          obtain ⟨s, hs⟩ : ∃ s, s = thrsX k.T k.tn ++ objsX k.O q := ⟨_, rfl⟩
          rw [← hs]
          have HSS := hid hs
          have EQ := hid (obj_chain s (k.O q))
          have sl : s.length ≤ 2000000 := by
            have h1 := thrsX_len (T := k.T) (n := k.tn) (fun i hi => ker_thr OK.out hi)
            have h2 := objsX_len OK.out hq
            rw [hs, List.length_append]
            omega
          have sl2 : (s ++ objX (k.O q) []).length ≤ 2003000 := by
            have := objX_len (ks := []) (ker_obj OK.out hlt) y1 y2 (fun x hx => by cases hx) (by simp)
            rw [List.length_append]; omega
          have z0 : (⟨s.toArray⟩ : ByteArray).size ≤ 2000000 := by rw [mk_size, List.size_toArray]; exact sl
          have z1 : (⟨(dc (k.O q).id).toArray⟩ : ByteArray).size ≤ 4 := by rw [mk_size, List.size_toArray]; exact dc_len y1
          have z2 : (⟨(dc (k.O q).kind).toArray⟩ : ByteArray).size ≤ 4 := by rw [mk_size, List.size_toArray]; exact dc_len p7
          have z6 : (⟨(dc (k.O q).up).toArray⟩ : ByteArray).size ≤ 4 := by rw [mk_size, List.size_toArray]; exact dc_len y2
          have z3 : (⟨(lb (k.O q).b1 (k.O q).c1).toArray⟩ : ByteArray).size ≤ 200 := by rw [mk_size, List.size_toArray]; exact lb_len p1
          have z4 : (⟨(lb (k.O q).b2 (k.O q).c2).toArray⟩ : ByteArray).size ≤ 200 := by rw [mk_size, List.size_toArray]; exact lb_len p2
          have z5 : (⟨(bl (nums (k.O q).own)).toArray⟩ : ByteArray).size ≤ 50 := by rw [mk_size, List.size_toArray]; have := bl_len (own_small p3).2; rw [nums_len] at this; have := (own_small p3).1; omega
          have ow : ∀ i, i < (k.O q).own.n → small ((k.O q).own.h i) := fun i hi => (own_small p3).2 _ (List.mem_map.2 ⟨i, List.mem_range.2 hi, rfl⟩)
          have on10 := (own_small p3).1
          generalize hV : wr.alloc (Obj.cells #[.int .i64 (k.O q).id, .int .i64 (k.O q).kind, .int .i64 (k.O q).up, .int .i64 (k.O q).b1, .slice (k.O q).c1.a (k.O q).c1.n (k.O q).c1.k, .string (k.O q).data, .slice (k.O q).items.a (k.O q).items.n (k.O q).items.k, .slice (k.O q).own.a (k.O q).own.n (k.O q).own.k, .int .i64 (k.O q).b2, .slice (k.O q).c2.a (k.O q).c2.n (k.O q).c2.k] 45) = V at *
          have PD1 : Hid (∀ W, Below V.heap.size V W → Calls Tryz.prog 25 #[.int .i64 (k.O q).id] W fun e w' => ∃ v, e = .returned v ∧ v = .string ⟨(dc (k.O q).id).toArray⟩ ∧ Below W.heap.size W w') := hid (fun W hW => (dec_s _ W y1).mono fun e w' ⟨h1, h2⟩ => ⟨_, h1, rfl, h2⟩)
          have PD2 : Hid (∀ W, Below V.heap.size V W → Calls Tryz.prog 25 #[.int .i64 (k.O q).kind] W fun e w' => ∃ v, e = .returned v ∧ v = .string ⟨(dc (k.O q).kind).toArray⟩ ∧ Below W.heap.size W w') := hid (fun W hW => (dec_s _ W p7).mono fun e w' ⟨h1, h2⟩ => ⟨_, h1, rfl, h2⟩)
          have PD3 : Hid (∀ W, Below V.heap.size V W → Calls Tryz.prog 25 #[.int .i64 (k.O q).up] W fun e w' => ∃ v, e = .returned v ∧ v = .string ⟨(dc (k.O q).up).toArray⟩ ∧ Below W.heap.size W w') := hid (fun W hW => (dec_s _ W y2).mono fun e w' ⟨h1, h2⟩ => ⟨_, h1, rfl, h2⟩)
          have PX1 : Hid (∀ W, Below V.heap.size V W → Calls Tryz.prog 26 #[.agg #[.int .i64 (k.O q).b1, .slice (k.O q).c1.a (k.O q).c1.n (k.O q).c1.k]] W fun e w' => ∃ v, e = .returned v ∧ v = .string ⟨(lb (k.O q).b1 (k.O q).c1).toArray⟩ ∧ Below W.heap.size W w') := hid (fun W hW => (txt_s _ (k.O q).c1 W (HTt.out.below hW).1 p1).mono fun e w' ⟨h1, h2⟩ => ⟨_, h1, rfl, h2⟩)
          have PX2 : Hid (∀ W, Below V.heap.size V W → Calls Tryz.prog 26 #[.agg #[.int .i64 (k.O q).b2, .slice (k.O q).c2.a (k.O q).c2.n (k.O q).c2.k]] W fun e w' => ∃ v, e = .returned v ∧ v = .string ⟨(lb (k.O q).b2 (k.O q).c2).toArray⟩ ∧ Below W.heap.size W w') := hid (fun W hW => (txt_s _ (k.O q).c2 W (HTt.out.below hW).2.2.2.1 p2).mono fun e w' ⟨h1, h2⟩ => ⟨_, h1, rfl, h2⟩)
          have PB : Hid (∀ W, Below V.heap.size V W → Calls Tryz.prog 27 #[.slice (k.O q).own.a (k.O q).own.n (k.O q).own.k] W fun e w' => ∃ v, e = .returned v ∧ v = .string ⟨(bl (nums (k.O q).own)).toArray⟩ ∧ Below W.heap.size W w') := hid (fun W hW => (l5List_any (k.O q).own W (HTt.out.below hW).2.2.1 ow (by omega)).mono fun e w' ⟨h1, h2⟩ => ⟨_, h1, rfl, h2⟩)
          have HA : Hid (∀ W, Below V.heap.size V W → Blk W wr.heap.size (Obj.cells #[.int .i64 (k.O q).id, .int .i64 (k.O q).kind, .int .i64 (k.O q).up, .int .i64 (k.O q).b1, .slice (k.O q).c1.a (k.O q).c1.n (k.O q).c1.k, .string (k.O q).data, .slice (k.O q).items.a (k.O q).items.n (k.O q).items.k, .slice (k.O q).own.a (k.O q).own.n (k.O q).own.k, .int .i64 (k.O q).b2, .slice (k.O q).c2.a (k.O q).c2.n (k.O q).c2.k] 45)) := hid (fun W h => XV.below h)
          have HKA := hid AV
          have BW := bC
          have HIT := hid (ht.2.1)
          have HP := hid (And.intro p4 (And.intro p5 p6))
          have szwr : wr.heap.size < V.heap.size := XV.lt
          clear x0 x1 q0 q1 q2 q3 q4 q5 q6 q7 q8 q9 ht XV AV p1 p2 p3 p4 p5 p6 p7 y1 y2 ow on10 bC hV A hs
          obtain ⟨S3, hS3⟩ : ∃ S3 : ByteArray, S3 = ⟨(s ++ objX (k.O q) []).toArray⟩ := ⟨_, rfl⟩
          have HS3 := hid hS3
          have z7 : S3.size ≤ 2003000 := by rw [hS3, mk_size, List.size_toArray]; exact sl2
          rw [← hS3] at EQ
          clear hS3 sl sl2
          generalize (⟨s.toArray⟩ : ByteArray) = S at *
          generalize (⟨(dc (k.O q).id).toArray⟩ : ByteArray) = D1 at *
          generalize (⟨(dc (k.O q).kind).toArray⟩ : ByteArray) = D2 at *
          generalize (⟨(dc (k.O q).up).toArray⟩ : ByteArray) = D3 at *
          generalize (⟨(lb (k.O q).b1 (k.O q).c1).toArray⟩ : ByteArray) = X1 at *
          generalize (⟨(lb (k.O q).b2 (k.O q).c2).toArray⟩ : ByteArray) = X2 at *
          generalize (⟨(bl (nums (k.O q).own)).toArray⟩ : ByteArray) = BL at *
          refine objReg (k.O q) wr.heap.size S D1 D2 D3 X1 X2 BL _ _ _ _ _ _ _ _ _ _ _ _ _ _ _ _ _ _ _ _ _ _ _ _ _ _ _ _ _ _ _ _ _ _ _ _ _ _ _ _ _ _ _ _ _ _ _ _ _ _ _ _ _ _ _ _ _ _ _ _ _ _ _ _ _ _ _ _ _ _ _ _ _ _ _ _ _ _ _ _ _ _ _ _ _ _ _ _ _ _ _ _ _ _ _ _ _ _ _ _ _ _ _ _ _ _ _ _ _ _ _ _ _ _ _ _ _ V _ (fun _ _ _ _ _ h => h) ED EX EL HA.out PD1.out PD2.out PD3.out PX1.out PX2.out PB.out (by omega) z1 z2 z6 z3 z4 (by omega) ?_
          intro W3 V3
          have B3 := then_ BV V3
          have A3 := HKA.out.below V3
          have X3 := HA.out _ V3
          rw [← ea] at A3
          rw [EQ.out]
          clear HA HKA PD1 PD2 PD3 PX1 PX2 PB ea EQ z0 z1 z2 z3 z4 z5 z6
          obtain ⟨x0, x1, x2, x3, x4, x5, x6, x7, x8, x9⟩ := X3.ten
          have IT : Hid (∀ (W : World), Below W3.heap.size W3 W → StrAt W (k.O q).items.a (k.O q).items.n (k.O q).items.f) := hid (fun W h => HIT.out.2.1.below (then_ BW (then_ V3 h)))
          have DONE : Hid (∀ S4 : ByteArray, S4 = ⟨(s ++ objX (k.O q) [] ++ datX (k.O q).data).toArray⟩ → S4.size ≤ 2003100 ∧ ∀ j, j ≤ (k.O q).items.n → (⟨(s ++ objX (k.O q) [] ++ datX (k.O q).data ++ itmX (k.O q).items.f j).toArray⟩ : ByteArray).size ≤ 2004000) := hid (fun S4 h => by
            have l1 : (s ++ objX (k.O q) []).length ≤ 2003000 := by have := z7; rw [HS3.out, mk_size, List.size_toArray] at this; exact this
            have l2 := datX_len HP.out.1
            refine ⟨by rw [h, mk_size, List.size_toArray, List.length_append]; omega, fun j hj => ?_⟩
            have l3 := itmX_len (f := (k.O q).items.f) (n := j) (fun i hi => HP.out.2.2 i (by omega))
            have l4 := HP.out.2.1
            rw [mk_size, List.size_toArray, List.length_append, List.length_append]
            omega)
          have FINI : Hid ((⟨(s ++ objX (k.O q) [] ++ datX (k.O q).data ++ itmX (k.O q).items.f (k.O q).items.n).toArray⟩ : ByteArray) = ⟨(thrsX k.T k.tn ++ objsX k.O (q + 1)).toArray⟩) := hid (by
            rw [HSS.out, objsX_succ, objT]
            simp only [List.append_assoc])
          by_cases hd : (k.O q).data.toList.isEmpty = true
          · have E4 : Hid (S3 = ⟨(s ++ objX (k.O q) [] ++ datX (k.O q).data).toArray⟩) := hid (by rw [HS3.out, datX, if_pos hd, List.append_nil])
            go_wp2
            obtain ⟨d1, d2⟩ := DONE.out _ E4.out
            rw [E4.out]
            have d2h := hid d2
            clear x0 x1 x2 x3 x4 x5 x6 x7 x8 x9 d1 d2
            go_loop [3, 8] (fun s' i => ∃ j : Nat, j ≤ (k.O q).items.n ∧ i = .int .i64 j ∧ s' = .string ⟨(s ++ objX (k.O q) [] ++ datX (k.O q).data ++ itmX (k.O q).items.f j).toArray⟩) (fun _ i => (k.O q).items.n - (intOf i).toNat)
            case atStart => exact ⟨0, Nat.zero_le _, rfl, by simp [itmX]⟩
            case round =>
              obtain ⟨j, hj, rfl, rfl⟩ := hrel
              have hi8 := HP.out.2.1
              obtain ⟨x0, x1, x2, x3, x4, x5, x6, x7, x8, x9⟩ := X3.ten
              by_cases hjl : j < (k.O q).items.n
              · obtain ⟨ib, io, eia, hib, hci⟩ := IT.out _ (Below.refl _ _) (by omega)
                have c1 := hci j hjl
                rw [eia] at x6
                have j1 : (j : Int) < ((k.O q).items.n : Int) := by omega
                have zz := d2h.out j hj
                have E5 := hid (itm_chain (s ++ objX (k.O q) [] ++ datX (k.O q).data ++ itmX (k.O q).items.f j) ((k.O q).items.f j))
                rw [List.append_assoc _ (itmX _ _), ← itmX_succ] at E5
                have z8 := HP.out.2.2 j hjl
                clear hci eia
                generalize (⟨(s ++ objX (k.O q) [] ++ datX (k.O q).data ++ itmX (k.O q).items.f j).toArray⟩ : ByteArray) = S5 at *
                generalize (k.O q).items.f j = DJ at *
                have lt0 : (ByteArray.mk #[105, 116, 101, 109, 32]).size = 5 := rfl
                have lt1 : (ByteArray.mk #[10]).size = 1 := rfl
                have r1 : ¬ 9223372036854775807 < S5.size + (ByteArray.mk #[105, 116, 101, 109, 32]).size := by omega
                have r2 : ¬ 9223372036854775807 < (S5 ++ ByteArray.mk #[105, 116, 101, 109, 32]).size + DJ.size := by rw [ByteArray.size_append]; omega
                have r3 : ¬ 9223372036854775807 < (S5 ++ ByteArray.mk #[105, 116, 101, 109, 32] ++ DJ).size + (ByteArray.mk #[10]).size := by simp only [ByteArray.size_append]; omega
                clear lt0 lt1
                go_wp2
                exact ⟨⟨j + 1, by omega, by go_num, by rw [E5.out]⟩, by simp [intOf]; omega⟩
              · have j1 : ¬ (j : Int) < ((k.O q).items.n : Int) := by omega
                obtain rfl : j = (k.O q).items.n := by omega
                go_wp2
                exact ⟨⟨q + 1, by omega, by go_num, by rw [FINI.out], A3, B3⟩, by simp [intOf]; omega⟩
          · have hd' : (k.O q).data.toList.isEmpty = false := by simpa using hd
            have E4 : Hid (S3 ++ ByteArray.mk #[100, 97, 116, 97, 32] ++ (k.O q).data ++ ByteArray.mk #[10] = ⟨(s ++ objX (k.O q) [] ++ datX (k.O q).data).toArray⟩) := hid (by rw [HS3.out]; exact dat_chain _ _ hd)
            have hp4 := HP.out.1
            have lt0 : (ByteArray.mk #[100, 97, 116, 97, 32]).size = 5 := rfl
            have lt1 : (ByteArray.mk #[10]).size = 1 := rfl
            have r1 : ¬ 9223372036854775807 < S3.size + (ByteArray.mk #[100, 97, 116, 97, 32]).size := by omega
            have r2 : ¬ 9223372036854775807 < (S3 ++ ByteArray.mk #[100, 97, 116, 97, 32]).size + (k.O q).data.size := by rw [ByteArray.size_append]; omega
            have r3 : ¬ 9223372036854775807 < (S3 ++ ByteArray.mk #[100, 97, 116, 97, 32] ++ (k.O q).data).size + (ByteArray.mk #[10]).size := by simp only [ByteArray.size_append]; omega
            clear lt0 lt1 hp4
            clear hd
            go_wp2
            clear r1 r2 r3
            obtain ⟨d1, d2⟩ := DONE.out _ E4.out
            rw [E4.out]
            have d2h := hid d2
            clear x0 x1 x2 x3 x4 x5 x6 x7 x8 x9 d1 d2
            go_loop [3, 8] (fun s' i => ∃ j : Nat, j ≤ (k.O q).items.n ∧ i = .int .i64 j ∧ s' = .string ⟨(s ++ objX (k.O q) [] ++ datX (k.O q).data ++ itmX (k.O q).items.f j).toArray⟩) (fun _ i => (k.O q).items.n - (intOf i).toNat)
            case atStart => exact ⟨0, Nat.zero_le _, rfl, by simp [itmX]⟩
            case round =>
              obtain ⟨j, hj, rfl, rfl⟩ := hrel
              have hi8 := HP.out.2.1
              obtain ⟨x0, x1, x2, x3, x4, x5, x6, x7, x8, x9⟩ := X3.ten
              by_cases hjl : j < (k.O q).items.n
              · obtain ⟨ib, io, eia, hib, hci⟩ := IT.out _ (Below.refl _ _) (by omega)
                have c1 := hci j hjl
                rw [eia] at x6
                have j1 : (j : Int) < ((k.O q).items.n : Int) := by omega
                have zz := d2h.out j hj
                have E5 := hid (itm_chain (s ++ objX (k.O q) [] ++ datX (k.O q).data ++ itmX (k.O q).items.f j) ((k.O q).items.f j))
                rw [List.append_assoc _ (itmX _ _), ← itmX_succ] at E5
                have z8 := HP.out.2.2 j hjl
                clear hci eia
                generalize (⟨(s ++ objX (k.O q) [] ++ datX (k.O q).data ++ itmX (k.O q).items.f j).toArray⟩ : ByteArray) = S5 at *
                generalize (k.O q).items.f j = DJ at *
                have lt0 : (ByteArray.mk #[105, 116, 101, 109, 32]).size = 5 := rfl
                have lt1 : (ByteArray.mk #[10]).size = 1 := rfl
                have r1 : ¬ 9223372036854775807 < S5.size + (ByteArray.mk #[105, 116, 101, 109, 32]).size := by omega
                have r2 : ¬ 9223372036854775807 < (S5 ++ ByteArray.mk #[105, 116, 101, 109, 32]).size + DJ.size := by rw [ByteArray.size_append]; omega
                have r3 : ¬ 9223372036854775807 < (S5 ++ ByteArray.mk #[105, 116, 101, 109, 32] ++ DJ).size + (ByteArray.mk #[10]).size := by simp only [ByteArray.size_append]; omega
                clear lt0 lt1
                go_wp2
                exact ⟨⟨j + 1, by omega, by go_num, by rw [E5.out]⟩, by simp [intOf]; omega⟩
              · have j1 : ¬ (j : Int) < ((k.O q).items.n : Int) := by omega
                obtain rfl : j = (k.O q).items.n := by omega
                go_wp2
                exact ⟨⟨q + 1, by omega, by go_num, by rw [FINI.out], A3, B3⟩, by simp [intOf]; omega⟩
        · have i1 : ¬ (q : Int) < (k.on : Int) := by omega
          obtain rfl : q = k.on := by omega
          obtain ⟨x0, x1⟩ := A.two
          go_wp2
          go_ret
          exact ⟨ret_str KT.out.symm, hB⟩
end Go.Proofs.YtjceaajnemgheaaGreatDoor
