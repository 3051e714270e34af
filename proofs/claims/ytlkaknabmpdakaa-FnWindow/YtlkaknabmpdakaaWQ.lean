/- FnWindow: the law's walk, where DrawTaken gives some window and some number. -/
import Derived.Test.YtlkaknabmpdakaaWP
import Derived.Test.YtlkaknabmpdakaaSA
namespace Go.Proofs.Ytlkaknabmpdakaa
open Go Go.RowKit Go.Deep Go.Maps

set_option maxRecDepth 100000 in
set_option maxHeartbeats 4000000 in
theorem fnWindow_walk (a : Option Addr) (n cap : Nat) (w : World)
    (hD : n ≤ 1048576 → Calls Try.prog 7 #[.slice a n cap] w fun e w' => ∃ t b x : Int, e = .returned (.tuple #[.agg #[.int .i64 t, .int .i64 b], .int .i64 x]) ∧ Below w.heap.size w w') :
    Calls Try.prog 3 #[.slice a n cap] w fun e w' => e = .returned (.bool true) ∧ Below w.heap.size w w' := by
  have HD := hid hD
  clear hD
  by_cases hn : n ≤ 1048576
  · have hbig := fun v => big_any a n cap v
    rw [show decide (1048576 < n) = false by simpa using hn] at hbig
    go_enter Try.func3, Try.ntmps3
    go_wp2_with (go_at_call 6; refine (hbig _).mono ?_; rintro e w' ⟨rfl, rfl⟩)
    refine (HD.out hn).mono ?_
    rintro e w1 ⟨t, b, x, rfl, E1⟩
    have Y1 := Blk.new w1 (.cells #[.int .i64 t, .int .i64 b] 25)
    have F1 := E1.alloc E1.size (.cells #[.int .i64 t, .int .i64 b] 25)
    have hI := hid (fun v => implTaken_any t b x v)
    have hS := hid (fun v => specTaken_any t b x v)
    have hN := hid (fun (r : (tak t b x).2.2 = false) (h1 : okW t b = true) (h2 : inB x 0 1099511627776 = true) => tak_not h1 h2 r)
    have hT := hid (fun (r : (tak t b x).2.2 = true) (h1 : okW t b = true) (h2 : inB x 0 1099511627776 = true) => took h1 h2 r)
    generalize (tak t b x).1 = t' at *
    generalize (tak t b x).2.1 = b' at *
    generalize (tak t b x).2.2 = is at *
    obtain ⟨y0, y1⟩ := Y1.two
    clear HD hbig
    go_wp2_with fail
    generalize w1.alloc (.cells #[.int .i64 t, .int .i64 b] 25) = V1 at *
    refine (hI.out _).mono ?_
    rintro e w2 ⟨rfl, hb2⟩
    have Y2 := (Y1.below hb2).alloc (.cells #[.int .i64 t', .int .i64 b'] 25)
    have X2 := Blk.new w2 (.cells #[.int .i64 t', .int .i64 b'] 25)
    have F2 := (F1.trans (hb2.mono F1.size)).alloc (Nat.le_trans F1.size hb2.size) (.cells #[.int .i64 t', .int .i64 b'] 25)
    generalize w1.heap.size = P at *
    clear Y1 hb2 F1 y0 y1
    obtain ⟨y0, y1⟩ := Y2.two
    obtain ⟨x0, x1⟩ := X2.two
    go_wp2_with fail
    generalize w2.alloc (.cells #[.int .i64 t', .int .i64 b'] 25) = V2 at *
    refine (hS.out _).mono ?_
    rintro e w3 ⟨rfl, hb3⟩
    have Y3 := (Y2.below hb3).alloc (.cells #[.int .i64 t', .int .i64 b'] 25)
    have X3 := (X2.below hb3).alloc (.cells #[.int .i64 t', .int .i64 b'] 25)
    have Z3 := Blk.new w3 (.cells #[.int .i64 t', .int .i64 b'] 25)
    have F3 := (F2.trans (hb3.mono F2.size)).alloc (Nat.le_trans F2.size hb3.size) (.cells #[.int .i64 t', .int .i64 b'] 25)
    generalize w2.heap.size = R at *
    clear Y2 X2 hb3 F2 y0 y1 x0 x1 hS
    obtain ⟨y0, y1⟩ := Y3.two
    obtain ⟨x0, x1⟩ := X3.two
    obtain ⟨z0, z1⟩ := Z3.two
    have hO := fun v => specOk_any t b v
    go_wp2_with fail
    have y4 := Y3.alloc (.cells #[.int .i64 t, .int .i64 b] 25)
    have x4 := X3.alloc (.cells #[.int .i64 t, .int .i64 b] 25)
    have z4 := Z3.alloc (.cells #[.int .i64 t, .int .i64 b] 25)
    have F4 := F3.alloc F3.size (.cells #[.int .i64 t, .int .i64 b] 25)
    generalize w3.heap.size = S at *
    generalize w3.alloc (.cells #[.int .i64 t', .int .i64 b'] 25) = V3 at *
    cases ho : okW t b with
    | false =>
      rw [ho] at hO
      refine (hO _).mono ?_
      rintro e w4 ⟨rfl, rfl⟩
      generalize V3.alloc (.cells #[.int .i64 t, .int .i64 b] 25) = V4 at *
      clear Y3 X3 Z3 F3 y0 y1 x0 x1 z0 z1 hO hI hN hT ho
      obtain ⟨y0, y1⟩ := y4.two
      obtain ⟨x0, x1⟩ := x4.two
      obtain ⟨z0, z1⟩ := z4.two
      go_wp2
      go_ret
      exact ⟨rfl, F4⟩
    | true =>
      rw [ho] at hO
      refine (hO _).mono ?_
      rintro e w4 ⟨rfl, rfl⟩
      generalize V3.alloc (.cells #[.int .i64 t, .int .i64 b] 25) = V4 at *
      clear Y3 X3 Z3 F3 y0 y1 x0 x1 z0 z1 hO
      obtain ⟨y0, y1⟩ := y4.two
      obtain ⟨x0, x1⟩ := x4.two
      obtain ⟨z0, z1⟩ := z4.two
      obtain ⟨ht0, ht1, hb0, hb1⟩ := okW_facts ho
      by_cases hx0 : x < 0
      · clear hI hN hT ho
        go_wp2
        go_ret
        exact ⟨rfl, F4⟩
      by_cases hx1 : 1099511627776 < x
      · clear hI hN hT ho
        go_wp2
        go_ret
        exact ⟨rfl, F4⟩
      have hin : inB x 0 1099511627776 = true := by simp [inB]; omega
      cases is with
      | false =>
        obtain ⟨rfl, rfl, hle⟩ := hN.out rfl ho hin
        clear hI hN hT ho hin
        go_wp2
        go_ret
        exact ⟨rfl, F4⟩
      | true =>
        obtain ⟨tok, ttop, tnear, tonce, tstays⟩ := hT.out rfl ho hin
        have hO' := hid tok
        have HTop := hid ttop
        have HOnce := hid tonce
        have hS' := hid tstays
        have hI2 := hid (fun v => implTaken_any t' b' x v)
        rw [tonce] at hI2
        have HO := hid ho
        generalize (tak t' b' x).1 = t2 at *
        generalize (tak t' b' x).2.1 = b2 at *
        clear hI hN hT ho tok tonce tstays ttop
        go_wp2_with fail
        refine (hI2.out _).mono ?_
        rintro e w5 ⟨rfl, hb5⟩
        have Y5 := (y4.below hb5).alloc (.cells #[.int .i64 t2, .int .i64 b2] 25)
        have X5 := (x4.below hb5).alloc (.cells #[.int .i64 t2, .int .i64 b2] 25)
        have F5 := (F4.trans (hb5.mono F4.size)).alloc (Nat.le_trans F4.size hb5.size) (.cells #[.int .i64 t2, .int .i64 b2] 25)
        clear y4 x4 z4 y0 y1 x0 x1 z0 z1 F4 hb5 hI2
        obtain ⟨y0, y1⟩ := Y5.two
        obtain ⟨x0, x1⟩ := X5.two
        go_wp2_with fail
        generalize w5.alloc (.cells #[.int .i64 t2, .int .i64 b2] 25) = V5 at *
        go_loopw [11] (fun i wr => ∃ m : Int, i = .int .i64 m ∧ m ≤ t ∧ -1 ≤ m ∧ Below V5.heap.size V5 wr) (fun i _ => (intOf i + 1).toNat)
        case atStart => exact ⟨t, rfl, Int.le_refl _, by omega, Below.refl _ _⟩
        case round =>
          obtain ⟨m, rfl, hmt, hm1, hBr⟩ := hrel
          have Yr := Y5.below hBr
          have Xr := X5.below hBr
          have Fr := F5.trans (hBr.mono F5.size)
          obtain ⟨y0, y1⟩ := Yr.two
          obtain ⟨x0, x1⟩ := Xr.two
          by_cases hin2 : 0 ≤ m ∧ t - 40 < m
          · obtain ⟨hm0, hm40⟩ := hin2
            have hIa := hid (fun v => implTaken_any t b m v)
            have hIb := hid (fun v => implTaken_any t' b' m v)
            have hW := hid (fun h : (tak t' b' m).2.2 = true => (⟨hS'.out m hm0 hmt h, fun e => by rw [e, HOnce.out] at h; cases h⟩ : (tak t b m).2.2 = true ∧ m ≠ x))
            generalize (tak t b m).1 = p1 at *
            generalize (tak t b m).2.1 = p2 at *
            generalize (tak t b m).2.2 = was at *
            generalize (tak t' b' m).1 = q1 at *
            generalize (tak t' b' m).2.1 = q2 at *
            generalize (tak t' b' m).2.2 = now at *
            go_wp2_with fail
            refine (hIa.out _).mono ?_
            rintro e w6 ⟨rfl, hb6⟩
            have Y6 := (Yr.below hb6).alloc (.cells #[.int .i64 p1, .int .i64 p2] 25)
            have X6 := (Xr.below hb6).alloc (.cells #[.int .i64 p1, .int .i64 p2] 25)
            have B6 := (hBr.trans (hb6.mono hBr.size)).alloc (Nat.le_trans hBr.size hb6.size) (.cells #[.int .i64 p1, .int .i64 p2] 25)
            clear Yr Xr y0 y1 x0 x1 hb6 hBr hIa Fr
            obtain ⟨y0, y1⟩ := Y6.two
            obtain ⟨x0, x1⟩ := X6.two
            go_wp2_with fail
            generalize w6.alloc (.cells #[.int .i64 p1, .int .i64 p2] 25) = V6 at *
            refine (hIb.out _).mono ?_
            rintro e w7 ⟨rfl, hb7⟩
            have B7 := (B6.trans (hb7.mono B6.size)).alloc (Nat.le_trans B6.size hb7.size) (.cells #[.int .i64 q1, .int .i64 q2] 25)
            clear Y6 X6 y0 y1 x0 x1 hb7 B6 hIb
            cases now with
            | false =>
              go_wp2
              go_roundw
              case rel => exact ⟨m - 1, by go_num, by omega, by omega, B7⟩
              case measure => simp [intOf]; omega
            | true =>
              obtain ⟨rfl, hne⟩ := hW.out rfl
              go_wp2
              go_roundw
              case rel => exact ⟨m - 1, by go_num, by omega, by omega, B7⟩
              case measure => simp [intOf]; omega
          · have hO2 := hid (fun v => implOk_any t' b' v)
            rw [hO'.out] at hO2
            by_cases hm0 : 0 ≤ m
            · have hm40 : ¬ t - 40 < m := fun h => hin2 ⟨hm0, h⟩
              clear hin2
              go_wp2_with fail
              refine (hO2.out _).mono ?_
              rintro e w6 ⟨rfl, rfl⟩
              have F6 := Fr.alloc Fr.size (.cells #[.int .i64 t', .int .i64 b'] 25)
              obtain ⟨y2, y3⟩ := (Yr.alloc (.cells #[.int .i64 t', .int .i64 b'] 25)).two
              obtain ⟨x2, x3⟩ := (Xr.alloc (.cells #[.int .i64 t', .int .i64 b'] 25)).two
              generalize wr.alloc (.cells #[.int .i64 t', .int .i64 b'] 25) = V8 at *
              have e := HTop.out
              clear hO2 hO' HOnce hS' HO HTop Yr Xr
              by_cases hxt : x < t
              · have e' : t' = t := by omega
                subst e'
                clear e
                have hxt' : ¬ t' ≤ x := by omega
                go_wp2
                all_goals
                  go_ret
                  exact ⟨ret_bool (by first | rfl | simp_all | (simp; omega)), F6⟩
              · by_cases hxt2 : t = x
                · have e' : t' = x := by omega
                  subst hxt2
                  subst e'
                  clear e
                  go_wp2
                  all_goals
                    go_ret
                    exact ⟨ret_bool (by first | rfl | simp_all | (simp; omega)), F6⟩
                · have e' : t' = x := by omega
                  subst e'
                  clear e
                  have hxt3 : ¬ t' ≤ t := by omega
                  go_wp2
                  all_goals
                    go_ret
                    exact ⟨ret_bool (by first | rfl | simp_all | (simp; omega)), F6⟩
            · clear hin2
              go_wp2_with fail
              refine (hO2.out _).mono ?_
              rintro e w6 ⟨rfl, rfl⟩
              have F6 := Fr.alloc Fr.size (.cells #[.int .i64 t', .int .i64 b'] 25)
              obtain ⟨y2, y3⟩ := (Yr.alloc (.cells #[.int .i64 t', .int .i64 b'] 25)).two
              obtain ⟨x2, x3⟩ := (Xr.alloc (.cells #[.int .i64 t', .int .i64 b'] 25)).two
              generalize wr.alloc (.cells #[.int .i64 t', .int .i64 b'] 25) = V8 at *
              have e := HTop.out
              clear hO2 hO' HOnce hS' HO HTop Yr Xr
              by_cases hxt : x < t
              · have e' : t' = t := by omega
                subst e'
                clear e
                have hxt' : ¬ t' ≤ x := by omega
                go_wp2
                all_goals
                  go_ret
                  exact ⟨ret_bool (by first | rfl | simp_all | (simp; omega)), F6⟩
              · by_cases hxt2 : t = x
                · have e' : t' = x := by omega
                  subst hxt2
                  subst e'
                  clear e
                  go_wp2
                  all_goals
                    go_ret
                    exact ⟨ret_bool (by first | rfl | simp_all | (simp; omega)), F6⟩
                · have e' : t' = x := by omega
                  subst e'
                  clear e
                  have hxt3 : ¬ t' ≤ t := by omega
                  go_wp2
                  all_goals
                    go_ret
                    exact ⟨ret_bool (by first | rfl | simp_all | (simp; omega)), F6⟩
  · have hbig := fun v => big_any a n cap v
    rw [show decide (1048576 < n) = true by simpa using hn] at hbig
    go_enter Try.func3, Try.ntmps3
    go_wp2_with (go_at_call 6; refine (hbig _).mono ?_; rintro e w' ⟨rfl, rfl⟩)
    go_ret
    exact ⟨rfl, Below.refl _ _⟩
end Go.Proofs.Ytlkaknabmpdakaa
