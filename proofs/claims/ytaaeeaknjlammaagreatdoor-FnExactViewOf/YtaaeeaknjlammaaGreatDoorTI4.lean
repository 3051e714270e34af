/- KernelText of the program answers the plain text. -/
import Derived.Test.YtaaeeaknjlammaaGreatDoorZI
import Derived.Test.YtaaeeaknjlammaaGreatDoorKB13
namespace Go.Proofs.YtaaeeaknjlammaaGreatDoor
open Go Go.RowKit Go.Deep Go.Maps Go.BigFrame Go.Shelf

def noI : IntL := ⟨none, 0, 0, fun _ => 0⟩
theorem noI_at (w : World) : noI.at w := ⟨Nat.zero_le _, fun h => by simp [noI] at h⟩
theorem thrX_ne (t : ThrV) : thrX t ≠ [] := by rw [line_thr]; simp
theorem thrsX_ne {T : Nat → ThrV} {n : Nat} (h : 1 ≤ n) : thrsX T n ≠ [] := by
  obtain ⟨m, rfl⟩ : ∃ m, n = m + 1 := ⟨n - 1, by omega⟩
  rw [thrsX_succ]
  intro e
  exact thrX_ne _ (List.append_eq_nil_iff.1 e).2

set_option maxRecDepth 100000 in
set_option maxHeartbeats 16000000 in
theorem implKText_any (k : KerV) (w : World) (hk : k.at w) (hcap : k.on ≤ k.ok) (hw : k.wfs) (tab : Tab w) :
    Calls Tryz.prog 14 #[k.val] w fun e w' => e = .returned (.string (kText k)) ∧ Below w.heap.size w w' := by
  have b0 : Below w.heap.size w (w.alloc (.cells #[.slice k.ta k.tn k.tk, .slice k.oa k.on k.ok] 35)) := (Below.refl _ w).alloc (Nat.le_refl _) _
  have A0 := Blk.new w (.cells #[.slice k.ta k.tn k.tk, .slice k.oa k.on k.ok] 35)
  have HK := hid hk
  have HTab := hid tab
  have C1 := hid (implKer_any k _ (hk.below b0) hcap hw)
  unfold KerV.val at C1
  unfold KerV.val
  obtain ⟨x0, x1⟩ := A0.two
  clear hk hw tab hcap
  go_enter Tryz.func14, Tryz.ntmps14
  go_wp2_with fail
  refine C1.out.mono ?_
  rintro e w1 ⟨rfl, hb1⟩
  have A1 := A0.below hb1
  have B1 := then_ b0 hb1
  clear x0 x1 C1 A0 b0 hb1
  cases t : kerOk k with
  | false =>
    have E : kText k = ByteArray.mk #[] := by simp [kText, t]
    go_wp2
    go_ret
    exact ⟨ret_str E.symm, B1⟩
  | true =>
  have KT : Hid (kText k = ⟨(thrsX k.T k.tn ++ objsX k.O k.on).toArray⟩) := hid (by rw [kText, if_pos t])
  have OK := hid t
  obtain ⟨tn1, tn9, on2⟩ := ker_lens t
  obtain ⟨tb, toff, ea, _, _⟩ := HK.out.2.2.1 (by omega)
  obtain ⟨ob, ooff, eo, _, _⟩ := HK.out.2.2.2 (by have := (objsOk_out (kerOk_objs t)).1; omega)
  have bp : Below w1.heap.size w1 (w1.alloc (.cells #[.pointer none, .slice none 0 0] 80)) := (Below.refl _ w1).alloc (Nat.le_refl _) _
  have PG := hid (Pg.new w1)
  have KEEP : Hid (∀ W, Below w1.heap.size (w1.alloc (.cells #[.pointer none, .slice none 0 0] 80)) W → Blk W w.heap.size (.cells #[.slice k.ta k.tn k.tk, .slice k.oa k.on k.ok] 35) ∧ Below w.heap.size w W) := hid (fun W h => ⟨(h.block _ A1.lt).trans (A1.below bp), (then_ B1 bp).trans (h.mono B1.size)⟩)
  have V0 : Below w1.heap.size (w1.alloc (.cells #[.pointer none, .slice none 0 0] 80)) (w1.alloc (.cells #[.pointer none, .slice none 0 0] 80)) := Below.refl _ _
  have AV := (KEEP.out _ V0).1
  obtain ⟨x0, x1⟩ := AV.two
  rw [ea] at x0
  have HEO := hid eo
  have HEA := hid ea
  have HTH : Hid (∀ W, Below w.heap.size w W → ThrsAt W (some ⟨tb, toff, none⟩) k.tn k.T) := hid (fun W h => by have := HK.out.2.2.1.below h; rw [ea] at this; exact this)
  have HOB : Hid (∀ W, Below w.heap.size w W → ObjsAt W (some ⟨ob, ooff, none⟩) k.on k.O) := hid (fun W h => by have := HK.out.2.2.2.below h; rw [eo] at this; exact this)
  have hge := B1.size
  clear t ea eo bp B1
  go_wp2
  generalize hV : w1.alloc (.cells #[.pointer none, .slice none 0 0] 80) = V at *
  clear x0 x1 AV A1
  go_loopw [14] (fun i wr => ∃ q : Nat, q ≤ k.tn ∧ i = .int .i64 q ∧ Hid (Pg w1.heap.size w1.heap.size (thrsX k.T q) wr) ∧ Below w1.heap.size V wr) (fun i _ => k.tn - (intOf i).toNat)
  case atStart => exact ⟨0, Nat.zero_le _, rfl, PG, by first | exact V0 | (rw [hV]; exact V0)⟩
  case round =>
    clear PG V0
    obtain ⟨q, hq, rfl, HP, hB⟩ := hrel
    have BW := (KEEP.out wr hB).2
    by_cases hlt : q < k.tn
    · obtain ⟨_, _, e1, hlt0, hcc⟩ := (HTH.out wr BW) (by omega)
      cases e1
      obtain ⟨⟨q0, q1, q2, q3, q4, q5, q6⟩, ht⟩ := hcc q hlt
      have i1 : (q : Int) < (k.tn : Int) := by omega
      simp only [CatL.val, IntL.val] at q2 q4 q5
      have bC : Below wr.heap.size wr (wr.alloc (.cells #[.int .i64 (k.T q).id, .int .i64 (k.T q).b1, .slice (k.T q).c1.a (k.T q).c1.n (k.T q).c1.k, .int .i64 (k.T q).b2, .slice (k.T q).c2.a (k.T q).c2.n (k.T q).c2.k, .slice (k.T q).own.a (k.T q).own.n (k.T q).own.k, .int .i64 (k.T q).made] 54)) := (Below.refl _ wr).alloc (Nat.le_refl _) _
      have XV := Blk.new wr (.cells #[.int .i64 (k.T q).id, .int .i64 (k.T q).b1, .slice (k.T q).c1.a (k.T q).c1.n (k.T q).c1.k, .int .i64 (k.T q).b2, .slice (k.T q).c2.a (k.T q).c2.n (k.T q).c2.k, .slice (k.T q).own.a (k.T q).own.n (k.T q).own.k, .int .i64 (k.T q).made] 54)
      have ll := thrsX_len (T := k.T) (n := q) (fun i hi => ker_thr OK.out (by omega))
      have CL := hid (pthread_any w1.heap.size w1.heap.size (thrsX k.T q) (k.T q) _ (HP.out.below bC) (ht.below bC) (ker_thr OK.out hlt) (HTab.out.below (then_ BW bC)) (by omega))
      rw [← thrsX_succ] at CL
      unfold ThrV.val CatL.val IntL.val at CL
      have hlw := HP.out.lt
      have HBC := hid bC
      obtain ⟨y0, y1, y2, y3, y4, y5, y6⟩ := XV.seven
      clear hcc ht bC XV ll HP
      go_wp2_with fail
      refine CL.out.mono ?_
      rintro e w3 ⟨rfl, p3, b3, k3⟩
      have P3 := hid p3
      have B3 : Below w1.heap.size V w3 := hB.trans ((HBC.out.mono (by omega)).trans b3)
      clear p3 b3 k3 CL q0 q1 q2 q3 q4 q5 q6 y0 y1 y2 y3 y4 y5 y6 HBC
      go_wp2
      exact ⟨⟨q + 1, by omega, by go_num, P3, B3⟩, by simp [intOf]; omega⟩
    · have i1 : ¬ (q : Int) < (k.tn : Int) := by omega
      obtain rfl : q = k.tn := by omega
      obtain ⟨x0, x1⟩ := (KEEP.out wr hB).1.two
      rw [HEO.out] at x1
      go_wp2
      clear x0 x1 i1 hlt hq
      go_loopw [24] (fun i wr => ∃ q : Nat, q ≤ k.on ∧ i = .int .i64 q ∧ Hid (Pg w1.heap.size w1.heap.size (thrsX k.T k.tn ++ objsX k.O q) wr) ∧ Below w1.heap.size V wr) (fun i _ => k.on - (intOf i).toNat)
      case atStart => exact ⟨0, Nat.zero_le _, rfl, hid (by rw [show objsX k.O 0 = [] from rfl, List.append_nil]; exact HP.out), hB⟩
      case round =>
        clear HP hB BW
        obtain ⟨q, hq, rfl, HP, hB⟩ := hrel
        have BW := (KEEP.out wr hB).2
        by_cases hlt : q < k.on
        · obtain ⟨_, _, e1, hlt0, hcc⟩ := (HOB.out wr BW) (by omega)
          cases e1
          obtain ⟨⟨q0, q1, q2, q3, q4, q5, q6, q7, q8, q9⟩, ht⟩ := hcc q hlt
          have i1 : (q : Int) < (k.on : Int) := by omega
          simp only [CatL.val, IntL.val, StrL.val] at q4 q6 q7 q9
          have bC : Below wr.heap.size wr (wr.alloc (.cells #[.int .i64 (k.O q).id, .int .i64 (k.O q).kind, .int .i64 (k.O q).up, .int .i64 (k.O q).b1, .slice (k.O q).c1.a (k.O q).c1.n (k.O q).c1.k, .string (k.O q).data, .slice (k.O q).items.a (k.O q).items.n (k.O q).items.k, .slice (k.O q).own.a (k.O q).own.n (k.O q).own.k, .int .i64 (k.O q).b2, .slice (k.O q).c2.a (k.O q).c2.n (k.O q).c2.k] 60)) := (Below.refl _ wr).alloc (Nat.le_refl _) _
          have XV := Blk.new wr (.cells #[.int .i64 (k.O q).id, .int .i64 (k.O q).kind, .int .i64 (k.O q).up, .int .i64 (k.O q).b1, .slice (k.O q).c1.a (k.O q).c1.n (k.O q).c1.k, .string (k.O q).data, .slice (k.O q).items.a (k.O q).items.n (k.O q).items.k, .slice (k.O q).own.a (k.O q).own.n (k.O q).own.k, .int .i64 (k.O q).b2, .slice (k.O q).c2.a (k.O q).c2.n (k.O q).c2.k] 60)
          have l1 := thrsX_len (T := k.T) (n := k.tn) (fun i hi => ker_thr OK.out hi)
          have l2 := objsX_len OK.out hq
          have hlw := HP.out.lt
          have IT : ∀ W, Below w1.heap.size (wr.alloc (.cells #[.int .i64 (k.O q).id, .int .i64 (k.O q).kind, .int .i64 (k.O q).up, .int .i64 (k.O q).b1, .slice (k.O q).c1.a (k.O q).c1.n (k.O q).c1.k, .string (k.O q).data, .slice (k.O q).items.a (k.O q).items.n (k.O q).items.k, .slice (k.O q).own.a (k.O q).own.n (k.O q).own.k, .int .i64 (k.O q).b2, .slice (k.O q).c2.a (k.O q).c2.n (k.O q).c2.k] 60)) W → StrAt W (k.O q).items.a (k.O q).items.n (k.O q).items.f := fun W h => by
            have h1 := (KEEP.out W (hB.trans ((bC.mono (by omega)).trans h))).2
            exact ((HOB.out W h1) (by omega)).choose_spec.choose_spec.2.2 q hlt |>.2.2.1.2.1
          have CL := hid (pobject_any w1.heap.size w1.heap.size (thrsX k.T k.tn ++ objsX k.O q) (k.O q) noI _ (HP.out.below bC) (ht.below bC) (noI_at _) (ker_obj OK.out hlt) (ker_id OK.out hlt) (ker_up OK.out hlt) (fun i hi => by simp [noI] at hi) (by simp [noI]) (HTab.out.below (then_ BW bC)) (by rw [List.length_append]; omega) IT)
          rw [show nums noI = [] from rfl, List.append_assoc, ← objsX_succ] at CL
          unfold ObjV.val noI CatL.val IntL.val StrL.val at CL
          have HBC := hid bC
          obtain ⟨y0, y1, y2, y3, y4, y5, y6, y7, y8, y9⟩ := XV.ten
          clear hcc ht bC XV l1 l2 HP IT
          go_wp2_with fail
          refine CL.out.mono ?_
          rintro e w3 ⟨rfl, p3, b3, k3⟩
          have P3 := hid p3
          have B3 : Below w1.heap.size V w3 := hB.trans ((HBC.out.mono (by omega)).trans b3)
          clear p3 b3 k3 CL q0 q1 q2 q3 q4 q5 q6 q7 q8 q9 y0 y1 y2 y3 y4 y5 y6 y7 y8 y9 HBC
          go_wp2
          exact ⟨⟨q + 1, by omega, by go_num, P3, B3⟩, by simp [intOf]; omega⟩
        · have i1 : ¬ (q : Int) < (k.on : Int) := by omega
          obtain rfl : q = k.on := by omega
          have CS := hid (bString_T 80 w1.heap.size w1.heap.size (thrsX k.T k.tn ++ objsX k.O k.on) wr HP.out (fun e => thrsX_ne tn1 (List.append_eq_nil_iff.1 e).1))
          clear HP
          go_wp2_with fail
          refine CS.out.mono ?_
          rintro e w4 ⟨rfl, b4⟩
          have B4 := BW.trans (b4.mono hge)
          clear CS b4
          go_wp2
          go_ret
          exact ⟨ret_str KT.out.symm, B4⟩
end Go.Proofs.YtaaeeaknjlammaaGreatDoor
