/- PortFor of the program at every argument, and the walk of FnExactPortFor. -/
import Derived.Test.YtbfadkcghobpnaaPS
namespace Go.Proofs.Ytbfadkcghobpnaa
open Go Go.RowKit Go.Deep Go.BigFrame

set_option maxRecDepth 100000 in
set_option maxHeartbeats 1000000 in
theorem implPort_any (a : Option Addr) (n cap : Nat) (f g h : Nat → Int) (t : Int) (w : World) (hn : n ≤ maxLen) (H : RtsAt w a n f g h) :
    Calls Try.prog 12 #[.slice a n cap, .int .i64 t] w fun e w' => e = .returned (.int .i64 (portR n f g h t)) ∧ Below w.heap.size w w' := by
  by_cases good : (rtsOk n f g h && isA t) = true
  · rw [portR, if_pos good]
    rw [Bool.and_eq_true, isA, decide_eq_true_eq] at good
    exact implPort_yes a n cap f g h t w hn H good.1 good.2.1 good.2.2
  · rw [portR, if_neg good]
    have hb0 := ((Below.refl _ w).alloc (Nat.le_refl _) (.cells #[.int .i64 t] 2)).alloc (by simp) (.cells #[.int .i64 0] 2)
    obtain ⟨W0, hW0⟩ : ∃ W0, W0 = (w.alloc (.cells #[.int .i64 t] 2)).alloc (.cells #[.int .i64 0] 2) := ⟨_, rfl⟩
    have y1 : W0.cell? ⟨w.heap.size, 0, none⟩ = some (.int .i64 t) := by rw [hW0]; go_simp
    have y2 : W0.cell? ⟨w.heap.size + 1, 0, none⟩ = some (.int .i64 0) := by rw [hW0]; go_simp
    have y3 : W0.frozen? ⟨w.heap.size + 1, 0, none⟩ = false := by rw [hW0]; go_simp
    have ys : W0.heap.size = w.heap.size + 2 := by rw [hW0]; simp
    rw [← hW0] at hb0
    have HW0 := hid hW0
    clear hW0
    have P9 := hid (implRoutes_any a n cap f g h W0 hn (H.below hb0))
    have fin : Hid (∀ W1, Below w.heap.size w W1 → W1.cell? ⟨w.heap.size + 1, 0, none⟩ = some (.int .i64 0) → ∀ tm : Array Value, tm[4]? = some (.pointer (some ⟨w.heap.size + 1, 0, none⟩)) →
        bodyPost Try.prog Try.f12 (fun e w' => e = .returned (.int .i64 (-1)) ∧ Below w.heap.size w w') .ret { tmps := tm, defers := [] } (W1.setCell ⟨w.heap.size + 1, 0, none⟩ (.int .i64 (-1)))) := fun W1 hB hc tm ht => by
      have hc5 := World.cell?_setCell_same' W1 ⟨w.heap.size + 1, 0, none⟩ (.int .i64 (-1)) (by rw [hc]; rfl)
      refine bodyPost_ret (v := .int .i64 (-1)) ?_ rfl ⟨rfl, hB.setCell (p := ⟨w.heap.size + 1, 0, none⟩) (by dsimp only; omega) _⟩
      simp [results, Try.results12, go_sem, ht, hc5]
    clear H
    cases ho : rtsOk n f g h with
    | false =>
      rw [ho] at P9
      go_enter Try.func12, Try.ntmps12
      go_wp2_with fail
      rw [← HW0.out]
      refine P9.out.mono ?_
      rintro e w1 ⟨rfl, hb1⟩
      have x2 := (hb1.cell (p := ⟨w.heap.size + 1, 0, none⟩) (by dsimp only; omega)).trans y2
      have x3 := (hb1.frozen (p := ⟨w.heap.size + 1, 0, none⟩) (by dsimp only; omega)).trans y3
      have B1 : Below w.heap.size w w1 := hb0.trans (hb1.mono (by omega))
      clear y1 y2 y3 hb1 hb0 P9 good
      go_wp2
      exact fin.out _ B1 x2 _ rfl
    | true =>
      rw [ho] at P9
      have ht : t < 0 ∨ 4294967295 < t := by
        rw [ho, Bool.true_and, isA, decide_eq_true_eq] at good
        omega
      go_enter Try.func12, Try.ntmps12
      go_wp2_with fail
      rw [← HW0.out]
      refine P9.out.mono ?_
      rintro e w1 ⟨rfl, hb1⟩
      have x1 := (hb1.cell (p := ⟨w.heap.size, 0, none⟩) (by dsimp only; omega)).trans y1
      have x2 := (hb1.cell (p := ⟨w.heap.size + 1, 0, none⟩) (by dsimp only; omega)).trans y2
      have x3 := (hb1.frozen (p := ⟨w.heap.size + 1, 0, none⟩) (by dsimp only; omega)).trans y3
      have B1 : Below w.heap.size w w1 := hb0.trans (hb1.mono (by omega))
      clear y1 y2 y3 hb1 hb0 P9 good
      go_wp2_with (go_at_call 24; refine (isAddress_no _ ht).mono ?_; rintro e w2 ⟨rfl, hw2⟩; subst w2)
      exact fin.out _ B1 x2 _ rfl

set_option maxRecDepth 100000 in
set_option maxHeartbeats 2000000 in
theorem exactPortFor_walk (a : Option Addr) (n cap : Nat) (f g h : Nat → Int) (t : Int) (w : World) (hn : n ≤ maxLen) (hc : RtsAt w a n f g h) : Calls Try.prog 4 #[.slice a n cap, .int .i64 t] w fun e w' => e = .returned (.bool true) ∧ Below w.heap.size w w' := by
  have S0 := hid (fun w => szRouteS_any a n cap 1048576 w hn (by decide) (by decide))
  by_cases hb : n ≤ 1048576
  · rw [if_neg (by omega)] at S0
    have T : Hid (∀ W, Below w.heap.size w W → Calls Try.prog 8 #[.slice a n cap] W fun e w' => ∃ c, e = .returned (.slice (some ⟨c, 0, none⟩) n n) ∧ RtsAt w' (some ⟨c, 0, none⟩) n f g h ∧ Below W.heap.size W w') := fun W hW => (toRouteS_any a n cap f g h W hb (hc.below hW)).mono fun e w' ⟨he, hr, hB⟩ => ⟨_, he, RtsAt.row hr, hB⟩
    have P11 := hid (fun c W H => specPort_any (some ⟨c, 0, none⟩) n n f g h t W hn H)
    have P12 := hid (fun c W H => implPort_any (some ⟨c, 0, none⟩) n n f g h t W hn H)
    generalize portR n f g h t = R at *
    clear hc
    have hq : ¬ (1048576 : Int) - (n : Int) < 0 := by omega
    go_enter Try.func4, Try.ntmps4
    go_wp2_with (first
      | (go_at_call 6; refine (S0.out _).mono ?_; rintro e w0 ⟨rfl, hw0⟩; subst w0)
      | (go_at_call 10; refine (eqRouteS_true (some ⟨c3, 0, none⟩) (some ⟨c5, 0, none⟩) n n n f g h _ hn R5'.out R5.out).mono ?_; rintro e w6 ⟨rfl, h6⟩; have b6 := hid (then_ b5.out h6))
      | (go_at_call 8; have mk2' := mk2; refine (T.out _ b4.out).mono ?_; rintro e w5 ⟨c5, rfl, r5, h5⟩; have b5 := hid (then_ b4.out h5); have R5 := hid r5; have R5' := hid (R4.out.below h5))
      | (go_at_call 8; have mk1' := mk1; refine (T.out _ b2.out).mono ?_; rintro e w3 ⟨c3, rfl, r3, h3⟩; have b3 := hid (then_ b2.out h3); have R3 := hid r3; have mk2 : True := trivial)
      | (go_at_call 8; refine (T.out _ (Below.refl _ _)).mono ?_; rintro e w1 ⟨c1, rfl, r1, h1⟩; have b1 := hid h1; have R1 := hid r1; have mk1 : True := trivial)
      | (go_at_call 11; refine (P11.out c1 _ R1.out).mono ?_; rintro e w2 ⟨rfl, h2⟩; have b2 := hid (then_ b1.out h2))
      | (go_at_call 12; refine (P12.out c3 _ R3.out).mono ?_; rintro e w4 ⟨rfl, h4⟩; have b4 := hid (then_ b3.out h4); have R4 := hid (R3.out.below h4)))
    go_ret
    exact ⟨rfl, b6.out⟩
  · rw [if_pos (by omega)] at S0
    clear hc
    go_enter Try.func4, Try.ntmps4
    go_wp2_with (go_at_call 6; refine (S0.out _).mono ?_; rintro e w0 ⟨rfl, hw0⟩; subst w0)
    go_ret
    exact ⟨rfl, Below.refl _ _⟩
end Go.Proofs.Ytbfadkcghobpnaa
