/- PortFor of the program at every argument, and the walk of FnExactPortFor. -/
import Derived.Test.YthlejmofhcgkdaaROPS
namespace Go.Proofs.Ythlejmofhcgkdaa
open Go Go.RowKit Go.Deep Go.BigFrame

set_option maxRecDepth 100000 in
set_option maxHeartbeats 1000000 in
theorem implPort_any (a : Option Addr) (n cap : Nat) (f g h : Nat → Int) (t : Int) (w : World) (hn : n ≤ maxLen) (H : RtsAt w a n f g h) :
    Calls Try.prog 7 #[.slice a n cap, .int .i64 t] w fun e w' => e = .returned (.int .i64 (portR n f g h t)) ∧ Below w.heap.size w w' := by
  by_cases good : (rtsOk n f g h && isA t) = true
  · rw [portR, if_pos good]
    rw [Bool.and_eq_true, isA, decide_eq_true_eq] at good
    exact implPort_yes a n cap f g h t w hn H good.1 good.2.1 good.2.2
  · rw [portR, if_neg good]
    have hb0 := ((Below.refl _ w).alloc (Nat.le_refl _) (.cells #[.int .i64 t] 2)).alloc (by simp) (.cells #[.int .i64 0] 2)
    obtain ⟨W0, hW0⟩ : ∃ W0, W0 = (w.alloc (.cells #[.int .i64 t] 2)).alloc (.cells #[.int .i64 0] 2) := ⟨_, rfl⟩
    have y1 : W0.cell? ⟨w.heap.size, 0, none⟩ = some (.int .i64 t) := by rw [hW0]; go_simp
    have y2 : W0.cell? ⟨w.heap.size + 1, 0, none⟩ = some (.int .i64 0) := by rw [hW0]; go_simp
    have y3 : W0.frozen? ⟨w.heap.size + 1, 0, none⟩ = false := by rw [hW0]; go_simp
    have ys : W0.heap.size = w.heap.size + 2 := by rw [hW0]; simp
    rw [← hW0] at hb0
    have HW0 := hid hW0
    clear hW0
    have P9 := hid (implRoutes_any a n cap f g h W0 hn (H.below hb0))
    have fin : Hid (∀ W1, Below w.heap.size w W1 → W1.cell? ⟨w.heap.size + 1, 0, none⟩ = some (.int .i64 0) → ∀ tm : Array Value, tm[4]? = some (.pointer (some ⟨w.heap.size + 1, 0, none⟩)) →
        bodyPost Try.prog Try.f7 (fun e w' => e = .returned (.int .i64 (-1)) ∧ Below w.heap.size w w') .ret { tmps := tm, defers := [] } (W1.setCell ⟨w.heap.size + 1, 0, none⟩ (.int .i64 (-1)))) := fun W1 hB hc tm ht => by
      have hc5 := World.cell?_setCell_same' W1 ⟨w.heap.size + 1, 0, none⟩ (.int .i64 (-1)) (by rw [hc]; rfl)
      refine bodyPost_ret (v := .int .i64 (-1)) ?_ rfl ⟨rfl, hB.setCell (p := ⟨w.heap.size + 1, 0, none⟩) (by dsimp only; omega) _⟩
      simp [results, Try.results7, go_sem, ht, hc5]
    clear H
    cases ho : rtsOk n f g h with
    | false =>
      rw [ho] at P9
      go_enter Try.func7, Try.ntmps7
      go_wp2_with fail
      rw [← HW0.out]
      refine P9.out.mono ?_
      rintro e w1 ⟨rfl, hb1⟩
      have x2 := (hb1.cell (p := ⟨w.heap.size + 1, 0, none⟩) (by dsimp only; omega)).trans y2
      have x3 := (hb1.frozen (p := ⟨w.heap.size + 1, 0, none⟩) (by dsimp only; omega)).trans y3
      have B1 : Below w.heap.size w w1 := hb0.trans (hb1.mono (by omega))
      clear y1 y2 y3 hb1 hb0 P9 good
      go_wp2
      exact fin.out _ B1 x2 _ rfl
    | true =>
      rw [ho] at P9
      have ht : t < 0 ∨ 4294967295 < t := by
        rw [ho, Bool.true_and, isA, decide_eq_true_eq] at good
        omega
      go_enter Try.func7, Try.ntmps7
      go_wp2_with fail
      rw [← HW0.out]
      refine P9.out.mono ?_
      rintro e w1 ⟨rfl, hb1⟩
      have x1 := (hb1.cell (p := ⟨w.heap.size, 0, none⟩) (by dsimp only; omega)).trans y1
      have x2 := (hb1.cell (p := ⟨w.heap.size + 1, 0, none⟩) (by dsimp only; omega)).trans y2
      have x3 := (hb1.frozen (p := ⟨w.heap.size + 1, 0, none⟩) (by dsimp only; omega)).trans y3
      have B1 : Below w.heap.size w w1 := hb0.trans (hb1.mono (by omega))
      clear y1 y2 y3 hb1 hb0 P9 good
      go_wp2_with (go_at_call 18; refine (isAddress_no _ ht).mono ?_; rintro e w2 ⟨rfl, hw2⟩; subst w2)
      exact fin.out _ B1 x2 _ rfl

end Go.Proofs.Ythlejmofhcgkdaa
