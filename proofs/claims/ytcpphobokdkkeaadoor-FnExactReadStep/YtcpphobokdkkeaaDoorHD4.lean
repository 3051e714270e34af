/- StepOk of the program answers the plain function stepOk. -/
import Derived.Test.YtcpphobokdkkeaaDoorHCa
import Derived.Test.YtcpphobokdkkeaaDoorSR
import Derived.Deep.DeepCutAuto
namespace Go.Proofs.YtcpphobokdkkeaaDoor
open Go.RowKit Go.Deep

set_option maxRecDepth 100000 in
set_option maxHeartbeats 16000000 in
theorem implStep_FFF (th kind id to' cat : Int) (d : ByteArray) (bl : Int) (al : Option Addr) (nl kl : Nat) (fl gl : Nat → Int) (bc : Int) (ac : Option Addr) (nc kc : Nat) (fc gc : Nat → Int) (w : World) (hd : d.size ≤ maxLen) (hnl : nl ≤ maxLen) (hnc : nc ≤ maxLen) (hcl : CatsAt w al nl fl gl) (hcc : CatsAt w ac nc fc gc) (hul : uLabel kind = false) (hue : uClear kind = false) (hud : uData kind = false) :
    Calls Tryd.prog 19 #[.agg #[.int .i64 th, .int .i64 kind, .int .i64 id, .int .i64 to', .int .i64 cat, .string d, .int .i64 bl, .slice al nl kl, .int .i64 bc, .slice ac nc kc]] w fun e w' => e = .returned (.bool (stepOk th kind id to' cat d bl nl fl gl bc nc fc gc)) ∧ Below w.heap.size w w' := by
  have L0 := (Below.refl _ w).alloc (Nat.le_refl _) (.cells #[.int .i64 th, .int .i64 kind, .int .i64 id, .int .i64 to', .int .i64 cat, .string d, .int .i64 bl, .slice al nl kl, .int .i64 bc, .slice ac nc kc] 33)
  have A0 := Blk.new w (.cells #[.int .i64 th, .int .i64 kind, .int .i64 id, .int .i64 to', .int .i64 cat, .string d, .int .i64 bl, .slice al nl kl, .int .i64 bc, .slice ac nc kc] 33)
  unfold stepOk
  have HU := usesOf_any kind
  generalize uOk kind = ok at *
  generalize uId kind = ui at *
  generalize uTo kind = ut at *
  generalize uCat kind = uc at *
  generalize uData kind = ud at *
  generalize uLabel kind = ul at *
  generalize uClear kind = ue at *
  subst hul
  subst hue
  subst hud
  generalize hzl : zeroB bl nl = zl
  generalize hzc : zeroB bc nc = zc
  have HZL : Hid (zeroB bl nl = zl) := hzl
  have HZC : Hid (zeroB bc nc = zc) := hzc
  clear hzl hzc
  go_enter Tryd.func19, Tryd.ntmps19
  go_wp2_with fail
  refine (HU _).mono ?_
  rintro e w1 ⟨rfl, hb1⟩
  have K1 := (Below.refl _ w1).alloc (Nat.le_refl _) (.cells #[.bool ui, .bool ut, .bool uc, .bool false, .bool false, .bool false] 71)
  have A1 := (A0.below hb1).below K1
  have U1 := Blk.new w1 (.cells #[.bool ui, .bool ut, .bool uc, .bool false, .bool false, .bool false] 71)
  have L1 : Below w.heap.size w (w1.alloc (.cells #[.bool ui, .bool ut, .bool uc, .bool false, .bool false, .bool false] 71)) := L0.trans ((hb1.mono (by simp)).trans (K1.mono (by have := hb1.size; simp at this; omega)))
  clear hb1 K1 A0 L0
  obtain ⟨c0, c1, c2, c3, c4, c5, c6, c7, c8, c9⟩ := A1.ten
  go_upto_region 2 with fail
  clear c0 c1 c2 c3 c4 c5 c6 c7 c8 c9
  generalize w1.alloc (.cells #[.bool ui, .bool ut, .bool uc, .bool false, .bool false, .bool false] 71) = W1 at *
  generalize w1.heap.size = PU at *
  refine Seq.region ?_
  cases ok with
  | false =>
    refine Seq.falls 2 74 rfl (by kernel_rfl) (fun T hT => ?_)
    go_wp2
    go_ret
    exact ⟨ret_falls hT (by simp [stepC]), L1⟩
  | true =>
    by_cases s1 : 1 ≤ th
    · by_cases s2 : th ≤ 9
      · have t2 : inB th 1 9 = true := inB_iff.2 ⟨s1, s2⟩
        refine Seq.take (i := 0) (d := 11) (.bool true) rfl rfl (by kernel_rfl) (by go_simp) ?_
        simp only [Act.put, List.setIfInBounds_toArray, List.set_cons_zero, List.set_cons_succ]
        refine Seq.take (i := 1) (d := 12) (.bool true) rfl rfl (by kernel_rfl) (by go_simp) ?_
        simp only [Act.put, List.setIfInBounds_toArray, List.set_cons_zero, List.set_cons_succ]
        refine Seq.take (i := 2) (d := 13) (.pointer (some ⟨w.heap.size, 0, none⟩)) rfl rfl (by kernel_rfl) (by go_simp) ?_
        simp only [Act.put, List.setIfInBounds_toArray, List.set_cons_zero, List.set_cons_succ]
        refine Seq.take (i := 3) (d := 14) (.int .i64 th) rfl rfl (by kernel_rfl) (by obtain ⟨c0, c1, c2, c3, c4, c5, c6, c7, c8, c9⟩ := A1.ten; obtain ⟨v0, v1, v2, v3, v4, v5⟩ := U1.six; go_simp) ?_
        simp only [Act.put, List.setIfInBounds_toArray, List.set_cons_zero, List.set_cons_succ]
        refine Seq.take (i := 4) (d := 15) (.bool true) rfl rfl (by kernel_rfl) (by go_simp) ?_
        simp only [Act.put, List.setIfInBounds_toArray, List.set_cons_zero, List.set_cons_succ]
        refine Seq.take (i := 5) (d := 16) (.bool true) rfl rfl (by kernel_rfl) (by go_simp) ?_
        simp only [Act.put, List.setIfInBounds_toArray, List.set_cons_zero, List.set_cons_succ]
        refine Seq.take (i := 6) (d := 17) (.bool true) rfl rfl (by kernel_rfl) (by go_simp) ?_
        simp only [Act.put, List.setIfInBounds_toArray, List.set_cons_zero, List.set_cons_succ]
        refine Seq.take (i := 7) (d := 18) (.pointer (some ⟨w.heap.size, 0, none⟩)) rfl rfl (by kernel_rfl) (by go_simp) ?_
        simp only [Act.put, List.setIfInBounds_toArray, List.set_cons_zero, List.set_cons_succ]
        refine Seq.take (i := 8) (d := 19) (.int .i64 th) rfl rfl (by kernel_rfl) (by obtain ⟨c0, c1, c2, c3, c4, c5, c6, c7, c8, c9⟩ := A1.ten; obtain ⟨v0, v1, v2, v3, v4, v5⟩ := U1.six; go_simp) ?_
        simp only [Act.put, List.setIfInBounds_toArray, List.set_cons_zero, List.set_cons_succ]
        refine Seq.take (i := 9) (d := 20) (.bool true) rfl rfl (by kernel_rfl) (by go_simp) ?_
        simp only [Act.put, List.setIfInBounds_toArray, List.set_cons_zero, List.set_cons_succ]
        refine Seq.take (i := 10) (d := 21) (.bool true) rfl rfl (by kernel_rfl) (by go_simp) ?_
        simp only [Act.put, List.setIfInBounds_toArray, List.set_cons_zero, List.set_cons_succ]
        refine Seq.take (i := 11) (d := 22) (.bool true) rfl rfl (by kernel_rfl) (by go_simp) ?_
        simp only [Act.put, List.setIfInBounds_toArray, List.set_cons_zero, List.set_cons_succ]
        refine Seq.take (i := 12) (d := 23) (.pointer (some ⟨w.heap.size, 6, none⟩)) rfl rfl (by kernel_rfl) (by go_simp) ?_
        simp only [Act.put, List.setIfInBounds_toArray, List.set_cons_zero, List.set_cons_succ]
        refine Seq.take (i := 13) (d := 24) (.agg #[.int .i64 bl, .slice al nl kl]) rfl rfl (by kernel_rfl) (by obtain ⟨c0, c1, c2, c3, c4, c5, c6, c7, c8, c9⟩ := A1.ten; obtain ⟨v0, v1, v2, v3, v4, v5⟩ := U1.six; go_simp) ?_
        simp only [Act.put, List.setIfInBounds_toArray, List.set_cons_zero, List.set_cons_succ]
        refine Seq.step rfl (fun K1 hK1 => ?_)
        go_simp
        refine (implOk_any _ _ _ _ fl gl _ hnl (hcl.below L1)).mono ?_
        rintro e W2 ⟨rfl, hb2⟩
        have A2 := A1.below hb2
        have U2 := U1.below hb2
        have L2 : Below w.heap.size w W2 := L1.trans (hb2.mono L1.size)
        cases t3 : labOk bl nl fl gl with
        | true =>
          refine hK1.out _ _ ?_
          clear hK1 K1
          refine Seq.take (i := 15) (d := 26) (.bool true) rfl rfl (by kernel_rfl) (by go_simp) ?_
          simp only [Act.put, List.setIfInBounds_toArray, List.set_cons_zero, List.set_cons_succ]
          refine Seq.take (i := 16) (d := 27) (.bool true) rfl rfl (by kernel_rfl) (by go_simp) ?_
          simp only [Act.put, List.setIfInBounds_toArray, List.set_cons_zero, List.set_cons_succ]
          refine Seq.take (i := 17) (d := 28) (.pointer (some ⟨PU, 4, none⟩)) rfl rfl (by kernel_rfl) (by go_simp) ?_
          simp only [Act.put, List.setIfInBounds_toArray, List.set_cons_zero, List.set_cons_succ]
          refine Seq.take (i := 18) (d := 29) (.bool false) rfl rfl (by kernel_rfl) (by obtain ⟨c0, c1, c2, c3, c4, c5, c6, c7, c8, c9⟩ := A2.ten; obtain ⟨v0, v1, v2, v3, v4, v5⟩ := U2.six; go_simp) ?_
          simp only [Act.put, List.setIfInBounds_toArray, List.set_cons_zero, List.set_cons_succ]
          refine Seq.take (i := 19) (d := 30) (.bool false) rfl rfl (by kernel_rfl) (by go_simp) ?_
          simp only [Act.put, List.setIfInBounds_toArray, List.set_cons_zero, List.set_cons_succ]
          refine Seq.take (i := 20) (d := 31) (.pointer (some ⟨w.heap.size, 6, none⟩)) rfl rfl (by kernel_rfl) (by go_simp) ?_
          simp only [Act.put, List.setIfInBounds_toArray, List.set_cons_zero, List.set_cons_succ]
          refine Seq.take (i := 21) (d := 32) (.agg #[.int .i64 bl, .slice al nl kl]) rfl rfl (by kernel_rfl) (by obtain ⟨c0, c1, c2, c3, c4, c5, c6, c7, c8, c9⟩ := A2.ten; obtain ⟨v0, v1, v2, v3, v4, v5⟩ := U2.six; go_simp) ?_
          simp only [Act.put, List.setIfInBounds_toArray, List.set_cons_zero, List.set_cons_succ]
          refine Seq.step rfl (fun K1 hK1 => ?_)
          go_simp
          refine (isZero_any _ _ _ _ _ hnl).mono ?_
          rintro e W3 ⟨rfl, hb3⟩
          have A3 := A2.below hb3
          have U3 := U2.below hb3
          have L3 : Below w.heap.size w W3 := L2.trans (hb3.mono L2.size)
          rw [HZL.out]
          refine hK1.out _ _ ?_
          clear hK1 K1
          cases zl with
          | true =>
            refine Seq.take (i := 23) (d := 34) (.bool true) rfl rfl (by kernel_rfl) (by go_simp) ?_
            simp only [Act.put, List.setIfInBounds_toArray, List.set_cons_zero, List.set_cons_succ]
            refine Seq.take (i := 24) (d := 35) (.bool true) rfl rfl (by kernel_rfl) (by go_simp) ?_
            simp only [Act.put, List.setIfInBounds_toArray, List.set_cons_zero, List.set_cons_succ]
            refine Seq.take (i := 25) (d := 36) (.bool true) rfl rfl (by kernel_rfl) (by go_simp) ?_
            simp only [Act.put, List.setIfInBounds_toArray, List.set_cons_zero, List.set_cons_succ]
            refine Seq.take (i := 26) (d := 37) (.pointer (some ⟨w.heap.size, 8, none⟩)) rfl rfl (by kernel_rfl) (by go_simp) ?_
            simp only [Act.put, List.setIfInBounds_toArray, List.set_cons_zero, List.set_cons_succ]
            refine Seq.take (i := 27) (d := 38) (.agg #[.int .i64 bc, .slice ac nc kc]) rfl rfl (by kernel_rfl) (by obtain ⟨c0, c1, c2, c3, c4, c5, c6, c7, c8, c9⟩ := A3.ten; obtain ⟨v0, v1, v2, v3, v4, v5⟩ := U3.six; go_simp) ?_
            simp only [Act.put, List.setIfInBounds_toArray, List.set_cons_zero, List.set_cons_succ]
            refine Seq.step rfl (fun K1 hK1 => ?_)
            go_simp
            refine (implOk_any _ _ _ _ fc gc _ hnc (hcc.below L3)).mono ?_
            rintro e W4 ⟨rfl, hb4⟩
            have A4 := A3.below hb4
            have U4 := U3.below hb4
            have L4 : Below w.heap.size w W4 := L3.trans (hb4.mono L3.size)
            cases t5 : labOk bc nc fc gc with
            | true =>
              refine hK1.out _ _ ?_
              clear hK1 K1
              refine Seq.take (i := 29) (d := 40) (.bool true) rfl rfl (by kernel_rfl) (by go_simp) ?_
              simp only [Act.put, List.setIfInBounds_toArray, List.set_cons_zero, List.set_cons_succ]
              refine Seq.take (i := 30) (d := 41) (.bool true) rfl rfl (by kernel_rfl) (by go_simp) ?_
              simp only [Act.put, List.setIfInBounds_toArray, List.set_cons_zero, List.set_cons_succ]
              refine Seq.take (i := 31) (d := 42) (.pointer (some ⟨PU, 5, none⟩)) rfl rfl (by kernel_rfl) (by go_simp) ?_
              simp only [Act.put, List.setIfInBounds_toArray, List.set_cons_zero, List.set_cons_succ]
              refine Seq.take (i := 32) (d := 43) (.bool false) rfl rfl (by kernel_rfl) (by obtain ⟨c0, c1, c2, c3, c4, c5, c6, c7, c8, c9⟩ := A4.ten; obtain ⟨v0, v1, v2, v3, v4, v5⟩ := U4.six; go_simp) ?_
              simp only [Act.put, List.setIfInBounds_toArray, List.set_cons_zero, List.set_cons_succ]
              refine Seq.take (i := 33) (d := 44) (.bool false) rfl rfl (by kernel_rfl) (by go_simp) ?_
              simp only [Act.put, List.setIfInBounds_toArray, List.set_cons_zero, List.set_cons_succ]
              refine Seq.take (i := 34) (d := 45) (.pointer (some ⟨w.heap.size, 8, none⟩)) rfl rfl (by kernel_rfl) (by go_simp) ?_
              simp only [Act.put, List.setIfInBounds_toArray, List.set_cons_zero, List.set_cons_succ]
              refine Seq.take (i := 35) (d := 46) (.agg #[.int .i64 bc, .slice ac nc kc]) rfl rfl (by kernel_rfl) (by obtain ⟨c0, c1, c2, c3, c4, c5, c6, c7, c8, c9⟩ := A4.ten; obtain ⟨v0, v1, v2, v3, v4, v5⟩ := U4.six; go_simp) ?_
              simp only [Act.put, List.setIfInBounds_toArray, List.set_cons_zero, List.set_cons_succ]
              refine Seq.step rfl (fun K1 hK1 => ?_)
              go_simp
              refine (isZero_any _ _ _ _ _ hnc).mono ?_
              rintro e W5 ⟨rfl, hb5⟩
              have A5 := A4.below hb5
              have U5 := U4.below hb5
              have L5 : Below w.heap.size w W5 := L4.trans (hb5.mono L4.size)
              rw [HZC.out]
              refine hK1.out _ _ ?_
              clear hK1 K1
              cases zc with
              | true =>
                refine Seq.take (i := 37) (d := 48) (.bool true) rfl rfl (by kernel_rfl) (by go_simp) ?_
                simp only [Act.put, List.setIfInBounds_toArray, List.set_cons_zero, List.set_cons_succ]
                refine Seq.take (i := 38) (d := 49) (.bool true) rfl rfl (by kernel_rfl) (by go_simp) ?_
                simp only [Act.put, List.setIfInBounds_toArray, List.set_cons_zero, List.set_cons_succ]
                refine Seq.take (i := 39) (d := 50) (.bool true) rfl rfl (by kernel_rfl) (by go_simp) ?_
                simp only [Act.put, List.setIfInBounds_toArray, List.set_cons_zero, List.set_cons_succ]
                refine Seq.take (i := 40) (d := 51) (.pointer (some ⟨w.heap.size, 5, none⟩)) rfl rfl (by kernel_rfl) (by go_simp) ?_
                simp only [Act.put, List.setIfInBounds_toArray, List.set_cons_zero, List.set_cons_succ]
                refine Seq.take (i := 41) (d := 52) (.string d) rfl rfl (by kernel_rfl) (by obtain ⟨c0, c1, c2, c3, c4, c5, c6, c7, c8, c9⟩ := A5.ten; obtain ⟨v0, v1, v2, v3, v4, v5⟩ := U5.six; go_simp) ?_
                simp only [Act.put, List.setIfInBounds_toArray, List.set_cons_zero, List.set_cons_succ]
                refine Seq.step rfl (fun K1 hK1 => ?_)
                go_simp
                refine (isData_any d _ hd).mono ?_
                rintro e W6 ⟨rfl, hb6⟩
                have A6 := A5.below hb6
                have U6 := U5.below hb6
                have L6 : Below w.heap.size w W6 := L5.trans (hb6.mono L5.size)
                cases t7 : plainB d 40 with
                | true =>
                  refine hK1.out _ _ ?_
                  clear hK1 K1
                  refine Seq.take (i := 43) (d := 54) (.bool true) rfl rfl (by kernel_rfl) (by go_simp) ?_
                  simp only [Act.put, List.setIfInBounds_toArray, List.set_cons_zero, List.set_cons_succ]
                  refine Seq.take (i := 44) (d := 55) (.bool true) rfl rfl (by kernel_rfl) (by go_simp) ?_
                  simp only [Act.put, List.setIfInBounds_toArray, List.set_cons_zero, List.set_cons_succ]
                  refine Seq.take (i := 45) (d := 56) (.pointer (some ⟨PU, 3, none⟩)) rfl rfl (by kernel_rfl) (by go_simp) ?_
                  simp only [Act.put, List.setIfInBounds_toArray, List.set_cons_zero, List.set_cons_succ]
                  refine Seq.take (i := 46) (d := 57) (.bool false) rfl rfl (by kernel_rfl) (by obtain ⟨c0, c1, c2, c3, c4, c5, c6, c7, c8, c9⟩ := A6.ten; obtain ⟨v0, v1, v2, v3, v4, v5⟩ := U6.six; go_simp) ?_
                  simp only [Act.put, List.setIfInBounds_toArray, List.set_cons_zero, List.set_cons_succ]
                  refine Seq.take (i := 47) (d := 58) (.bool false) rfl rfl (by kernel_rfl) (by go_simp) ?_
                  simp only [Act.put, List.setIfInBounds_toArray, List.set_cons_zero, List.set_cons_succ]
                  refine Seq.take (i := 48) (d := 59) (.pointer (some ⟨w.heap.size, 5, none⟩)) rfl rfl (by kernel_rfl) (by go_simp) ?_
                  simp only [Act.put, List.setIfInBounds_toArray, List.set_cons_zero, List.set_cons_succ]
                  refine Seq.take (i := 49) (d := 60) (.string d) rfl rfl (by kernel_rfl) (by obtain ⟨c0, c1, c2, c3, c4, c5, c6, c7, c8, c9⟩ := A6.ten; obtain ⟨v0, v1, v2, v3, v4, v5⟩ := U6.six; go_simp) ?_
                  simp only [Act.put, List.setIfInBounds_toArray, List.set_cons_zero, List.set_cons_succ]
                  cases t8 : noText d with
                  | true =>
                    have t8' : d.toList.isEmpty = true := t8
                    refine Seq.take (i := 50) (d := 61) (.bool true) rfl rfl (by kernel_rfl) (by go_simp) ?_
                    simp only [Act.put, List.setIfInBounds_toArray, List.set_cons_zero, List.set_cons_succ]
                    refine Seq.take (i := 51) (d := 62) (.bool true) rfl rfl (by kernel_rfl) (by go_simp) ?_
                    simp only [Act.put, List.setIfInBounds_toArray, List.set_cons_zero, List.set_cons_succ]
                    refine Seq.take (i := 52) (d := 63) (.bool true) rfl rfl (by kernel_rfl) (by go_simp) ?_
                    simp only [Act.put, List.setIfInBounds_toArray, List.set_cons_zero, List.set_cons_succ]
                    refine Seq.take (i := 53) (d := 64) (.bool true) rfl rfl (by kernel_rfl) (by go_simp) ?_
                    simp only [Act.put, List.setIfInBounds_toArray, List.set_cons_zero, List.set_cons_succ]
                    refine Seq.take (i := 54) (d := 65) (.pointer (some ⟨w.heap.size, 2, none⟩)) rfl rfl (by kernel_rfl) (by go_simp) ?_
                    simp only [Act.put, List.setIfInBounds_toArray, List.set_cons_zero, List.set_cons_succ]
                    refine Seq.take (i := 55) (d := 66) (.int .i64 id) rfl rfl (by kernel_rfl) (by obtain ⟨c0, c1, c2, c3, c4, c5, c6, c7, c8, c9⟩ := A6.ten; obtain ⟨v0, v1, v2, v3, v4, v5⟩ := U6.six; go_simp) ?_
                    simp only [Act.put, List.setIfInBounds_toArray, List.set_cons_zero, List.set_cons_succ]
                    refine Seq.take (i := 56) (d := 67) (.pointer (some ⟨PU, 0, none⟩)) rfl rfl (by kernel_rfl) (by go_simp) ?_
                    simp only [Act.put, List.setIfInBounds_toArray, List.set_cons_zero, List.set_cons_succ]
                    refine Seq.take (i := 57) (d := 68) (.bool ui) rfl rfl (by kernel_rfl) (by obtain ⟨c0, c1, c2, c3, c4, c5, c6, c7, c8, c9⟩ := A6.ten; obtain ⟨v0, v1, v2, v3, v4, v5⟩ := U6.six; go_simp) ?_
                    simp only [Act.put, List.setIfInBounds_toArray, List.set_cons_zero, List.set_cons_succ]
                    refine Seq.step rfl (fun K1 hK1 => ?_)
                    go_simp
                    refine (numberOk_any id ui _).mono ?_
                    rintro e W7 ⟨rfl, hb7⟩
                    subst hb7
                    have A7 := A6
                    have U7 := U6
                    have L7 := L6
                    cases q1 : numB id ui with
                    | true =>
                      refine hK1.out _ _ ?_
                      clear hK1 K1
                      refine Seq.take (i := 59) (d := 70) (.bool true) rfl rfl (by kernel_rfl) (by go_simp) ?_
                      simp only [Act.put, List.setIfInBounds_toArray, List.set_cons_zero, List.set_cons_succ]
                      refine Seq.take (i := 60) (d := 71) (.bool true) rfl rfl (by kernel_rfl) (by go_simp) ?_
                      simp only [Act.put, List.setIfInBounds_toArray, List.set_cons_zero, List.set_cons_succ]
                      refine Seq.take (i := 61) (d := 72) (.pointer (some ⟨w.heap.size, 3, none⟩)) rfl rfl (by kernel_rfl) (by go_simp) ?_
                      simp only [Act.put, List.setIfInBounds_toArray, List.set_cons_zero, List.set_cons_succ]
                      refine Seq.take (i := 62) (d := 73) (.int .i64 to') rfl rfl (by kernel_rfl) (by obtain ⟨c0, c1, c2, c3, c4, c5, c6, c7, c8, c9⟩ := A7.ten; obtain ⟨v0, v1, v2, v3, v4, v5⟩ := U7.six; go_simp) ?_
                      simp only [Act.put, List.setIfInBounds_toArray, List.set_cons_zero, List.set_cons_succ]
                      refine Seq.take (i := 63) (d := 74) (.pointer (some ⟨PU, 1, none⟩)) rfl rfl (by kernel_rfl) (by go_simp) ?_
                      simp only [Act.put, List.setIfInBounds_toArray, List.set_cons_zero, List.set_cons_succ]
                      refine Seq.take (i := 64) (d := 75) (.bool ut) rfl rfl (by kernel_rfl) (by obtain ⟨c0, c1, c2, c3, c4, c5, c6, c7, c8, c9⟩ := A7.ten; obtain ⟨v0, v1, v2, v3, v4, v5⟩ := U7.six; go_simp) ?_
                      simp only [Act.put, List.setIfInBounds_toArray, List.set_cons_zero, List.set_cons_succ]
                      refine Seq.step rfl (fun K1 hK1 => ?_)
                      go_simp
                      refine (numberOk_any to' ut _).mono ?_
                      rintro e W8 ⟨rfl, hb8⟩
                      subst hb8
                      have A8 := A7
                      have U8 := U7
                      have L8 := L7
                      cases q2 : numB to' ut with
                      | true =>
                        refine hK1.out _ _ ?_
                        clear hK1 K1
                        refine Seq.take (i := 66) (d := 77) (.bool true) rfl rfl (by kernel_rfl) (by go_simp) ?_
                        simp only [Act.put, List.setIfInBounds_toArray, List.set_cons_zero, List.set_cons_succ]
                        refine Seq.take (i := 67) (d := 78) (.bool true) rfl rfl (by kernel_rfl) (by go_simp) ?_
                        simp only [Act.put, List.setIfInBounds_toArray, List.set_cons_zero, List.set_cons_succ]
                        refine Seq.take (i := 68) (d := 79) (.agg #[.int .i64 th, .int .i64 kind, .int .i64 id, .int .i64 to', .int .i64 cat, .string d, .int .i64 bl, .slice al nl kl, .int .i64 bc, .slice ac nc kc]) rfl rfl (by kernel_rfl) (by obtain ⟨c0, c1, c2, c3, c4, c5, c6, c7, c8, c9⟩ := A8.ten; obtain ⟨v0, v1, v2, v3, v4, v5⟩ := U8.six; go_simp) ?_
                        simp only [Act.put, List.setIfInBounds_toArray, List.set_cons_zero, List.set_cons_succ]
                        refine Seq.take (i := 69) (d := 80) (.pointer (some ⟨PU, 2, none⟩)) rfl rfl (by kernel_rfl) (by go_simp) ?_
                        simp only [Act.put, List.setIfInBounds_toArray, List.set_cons_zero, List.set_cons_succ]
                        refine Seq.take (i := 70) (d := 81) (.bool uc) rfl rfl (by kernel_rfl) (by obtain ⟨c0, c1, c2, c3, c4, c5, c6, c7, c8, c9⟩ := A8.ten; obtain ⟨v0, v1, v2, v3, v4, v5⟩ := U8.six; go_simp) ?_
                        simp only [Act.put, List.setIfInBounds_toArray, List.set_cons_zero, List.set_cons_succ]
                        refine Seq.step rfl (fun K1 hK1 => ?_)
                        go_simp
                        refine (catOk_any th kind id to' cat d bl al nl kl bc ac nc kc uc _).mono ?_
                        rintro e W9 ⟨rfl, hb9⟩
                        have A9 := A8.below hb9
                        have U9 := U8.below hb9
                        have L9 : Below w.heap.size w W9 := L8.trans (hb9.mono L8.size)
                        refine hK1.out _ _ ?_
                        clear hK1 K1
                        refine Seq.take (i := 72) (d := 83) (.bool (catB kind cat uc)) rfl rfl (by kernel_rfl) (by go_simp) ?_
                        simp only [Act.put, List.setIfInBounds_toArray, List.set_cons_zero, List.set_cons_succ]
                        refine Seq.take (i := 73) (d := 2) (.bool (catB kind cat uc)) rfl rfl (by kernel_rfl) (by go_simp) ?_
                        simp only [Act.put, List.setIfInBounds_toArray, List.set_cons_zero, List.set_cons_succ]
                        refine Seq.done (Nat.le_of_eq (by rfl)) ?_
                        go_wp2
                        go_ret
                        exact ⟨ret_bool (by simp [stepC, t2, t3, t5, t7, t8, q1, q2]), L9⟩
                      | false =>
                        refine hK1.out _ _ ?_
                        clear hK1 K1
                        refine Seq.falls 2 8 rfl (by kernel_rfl) (fun T hT => ?_)
                        go_wp2
                        go_ret
                        exact ⟨ret_falls hT (by simp [stepC, t2, t3, t5, t7, t8, q1, q2]), L8⟩
                    | false =>
                      refine hK1.out _ _ ?_
                      clear hK1 K1
                      refine Seq.falls 2 15 rfl (by kernel_rfl) (fun T hT => ?_)
                      go_wp2
                      go_ret
                      exact ⟨ret_falls hT (by simp [stepC, t2, t3, t5, t7, t8, q1]), L7⟩
                  | false =>
                    have t8' : d.toList.isEmpty = false := t8
                    refine Seq.take (i := 50) (d := 61) (.bool false) rfl rfl (by kernel_rfl) (by go_simp) ?_
                    simp only [Act.put, List.setIfInBounds_toArray, List.set_cons_zero, List.set_cons_succ]
                    refine Seq.falls 2 23 rfl (by kernel_rfl) (fun T hT => ?_)
                    go_wp2
                    go_ret
                    exact ⟨ret_falls hT (by simp [stepC, t2, t3, t5, t7, t8]), L6⟩
                | false =>
                  refine hK1.out _ _ ?_
                  clear hK1 K1
                  refine Seq.falls 2 31 rfl (by kernel_rfl) (fun T hT => ?_)
                  go_wp2
                  go_ret
                  exact ⟨ret_falls hT (by simp [stepC, t2, t3, t5, t7]), L6⟩
              | false =>
                refine Seq.falls 2 37 rfl (by kernel_rfl) (fun T hT => ?_)
                go_wp2
                go_ret
                exact ⟨ret_falls hT (by simp [stepC, t2, t3, t5]), L5⟩
            | false =>
              refine hK1.out _ _ ?_
              clear hK1 K1
              refine Seq.falls 2 45 rfl (by kernel_rfl) (fun T hT => ?_)
              go_wp2
              go_ret
              exact ⟨ret_falls hT (by simp [stepC, t2, t3, t5]), L4⟩
          | false =>
            refine Seq.falls 2 51 rfl (by kernel_rfl) (fun T hT => ?_)
            go_wp2
            go_ret
            exact ⟨ret_falls hT (by simp [stepC, t2, t3]), L3⟩
        | false =>
          refine hK1.out _ _ ?_
          clear hK1 K1
          refine Seq.falls 2 59 rfl (by kernel_rfl) (fun T hT => ?_)
          go_wp2
          go_ret
          exact ⟨ret_falls hT (by simp [stepC, t2, t3]), L2⟩
      · have t2 : inB th 1 9 = false := by simp [inB, s2]
        refine Seq.take (i := 0) (d := 11) (.bool true) rfl rfl (by kernel_rfl) (by go_simp) ?_
        simp only [Act.put, List.setIfInBounds_toArray, List.set_cons_zero, List.set_cons_succ]
        refine Seq.take (i := 1) (d := 12) (.bool true) rfl rfl (by kernel_rfl) (by go_simp) ?_
        simp only [Act.put, List.setIfInBounds_toArray, List.set_cons_zero, List.set_cons_succ]
        refine Seq.take (i := 2) (d := 13) (.pointer (some ⟨w.heap.size, 0, none⟩)) rfl rfl (by kernel_rfl) (by go_simp) ?_
        simp only [Act.put, List.setIfInBounds_toArray, List.set_cons_zero, List.set_cons_succ]
        refine Seq.take (i := 3) (d := 14) (.int .i64 th) rfl rfl (by kernel_rfl) (by obtain ⟨c0, c1, c2, c3, c4, c5, c6, c7, c8, c9⟩ := A1.ten; obtain ⟨v0, v1, v2, v3, v4, v5⟩ := U1.six; go_simp) ?_
        simp only [Act.put, List.setIfInBounds_toArray, List.set_cons_zero, List.set_cons_succ]
        refine Seq.take (i := 4) (d := 15) (.bool true) rfl rfl (by kernel_rfl) (by go_simp) ?_
        simp only [Act.put, List.setIfInBounds_toArray, List.set_cons_zero, List.set_cons_succ]
        refine Seq.take (i := 5) (d := 16) (.bool true) rfl rfl (by kernel_rfl) (by go_simp) ?_
        simp only [Act.put, List.setIfInBounds_toArray, List.set_cons_zero, List.set_cons_succ]
        refine Seq.take (i := 6) (d := 17) (.bool true) rfl rfl (by kernel_rfl) (by go_simp) ?_
        simp only [Act.put, List.setIfInBounds_toArray, List.set_cons_zero, List.set_cons_succ]
        refine Seq.take (i := 7) (d := 18) (.pointer (some ⟨w.heap.size, 0, none⟩)) rfl rfl (by kernel_rfl) (by go_simp) ?_
        simp only [Act.put, List.setIfInBounds_toArray, List.set_cons_zero, List.set_cons_succ]
        refine Seq.take (i := 8) (d := 19) (.int .i64 th) rfl rfl (by kernel_rfl) (by obtain ⟨c0, c1, c2, c3, c4, c5, c6, c7, c8, c9⟩ := A1.ten; obtain ⟨v0, v1, v2, v3, v4, v5⟩ := U1.six; go_simp) ?_
        simp only [Act.put, List.setIfInBounds_toArray, List.set_cons_zero, List.set_cons_succ]
        refine Seq.take (i := 9) (d := 20) (.bool false) rfl rfl (by kernel_rfl) (by go_simp) ?_
        simp only [Act.put, List.setIfInBounds_toArray, List.set_cons_zero, List.set_cons_succ]
        refine Seq.falls 2 64 rfl (by kernel_rfl) (fun T hT => ?_)
        go_wp2
        go_ret
        exact ⟨ret_falls hT (by simp [stepC, t2]), L1⟩
    · have t2 : inB th 1 9 = false := by simp [inB, s1]
      refine Seq.take (i := 0) (d := 11) (.bool true) rfl rfl (by kernel_rfl) (by go_simp) ?_
      simp only [Act.put, List.setIfInBounds_toArray, List.set_cons_zero, List.set_cons_succ]
      refine Seq.take (i := 1) (d := 12) (.bool true) rfl rfl (by kernel_rfl) (by go_simp) ?_
      simp only [Act.put, List.setIfInBounds_toArray, List.set_cons_zero, List.set_cons_succ]
      refine Seq.take (i := 2) (d := 13) (.pointer (some ⟨w.heap.size, 0, none⟩)) rfl rfl (by kernel_rfl) (by go_simp) ?_
      simp only [Act.put, List.setIfInBounds_toArray, List.set_cons_zero, List.set_cons_succ]
      refine Seq.take (i := 3) (d := 14) (.int .i64 th) rfl rfl (by kernel_rfl) (by obtain ⟨c0, c1, c2, c3, c4, c5, c6, c7, c8, c9⟩ := A1.ten; obtain ⟨v0, v1, v2, v3, v4, v5⟩ := U1.six; go_simp) ?_
      simp only [Act.put, List.setIfInBounds_toArray, List.set_cons_zero, List.set_cons_succ]
      refine Seq.take (i := 4) (d := 15) (.bool false) rfl rfl (by kernel_rfl) (by go_simp) ?_
      simp only [Act.put, List.setIfInBounds_toArray, List.set_cons_zero, List.set_cons_succ]
      refine Seq.falls 2 69 rfl (by kernel_rfl) (fun T hT => ?_)
      go_wp2
      go_ret
      exact ⟨ret_falls hT (by simp [stepC, t2]), L1⟩
end Go.Proofs.YtcpphobokdkkeaaDoor
