/- RoutesOk of the program, and its law. -/
import Derived.Test.YthlejmofhcgkdaaROE
namespace Go.Proofs.Ythlejmofhcgkdaa
open Go Go.RowKit Go.Deep Go.BigFrame

theorem ord_no {x y x' y' : Int} (h : lessR x y x' y') : ordR x y x' y' < 0 := by
  unfold lessR at h
  unfold ordR orI cmpI
  repeat' split
  all_goals omega
theorem ord_yes {x y x' y' : Int} (h : ¬ lessR x y x' y') : 0 ≤ ordR x y x' y' := by
  unfold lessR at h
  unfold ordR orI cmpI
  repeat' split
  all_goals omega

set_option maxRecDepth 100000 in
set_option maxHeartbeats 2000000 in
theorem implRoutes_any (a : Option Addr) (n cap : Nat) (f g h : Nat → Int) (w : World) (hn : n ≤ maxLen) (H : RtsAt w a n f g h) :
    Calls Try.prog 12 #[.slice a n cap] w fun e w' => e = .returned (.bool (rtsOk n f g h)) ∧ Below w.heap.size w w' := by
  unfold maxLen at hn
  by_cases h20 : n ≤ 20
  · have h20' : ¬ (20 : Int) < (n : Int) := by omega
    go_enter Try.func12, Try.ntmps12
    go_wp2
    go_loopw [10] (fun i wr => ∃ k : Nat, k ≤ n ∧ i = .int .i64 k ∧ (∀ j, j < k → okAt f g h j = true) ∧ Below w.heap.size w wr) (fun i _ => n - (intOf i).toNat)
    case atStart => exact ⟨0, Nat.zero_le _, rfl, fun j hj => by omega, Below.refl _ _⟩
    case round =>
      obtain ⟨k, hk, rfl, hall, hB⟩ := hrel
      have HA := hid hall
      clear hall
      by_cases hlt' : k < n
      · obtain ⟨b, off, rfl, hlt, hc⟩ := H (by omega)
        obtain ⟨h1, h2, h3⟩ := hc k hlt'
        have g1 : wr.cell? ⟨b, off + k * 3, none⟩ = some (.int .i64 (f k)) := (hB.cell (p := ⟨b, _, none⟩) hlt).trans h1
        have g2 : wr.cell? ⟨b, off + k * 3 + 1, none⟩ = some (.int .i64 (g k)) := (hB.cell (p := ⟨b, _, none⟩) hlt).trans h2
        have g3 : wr.cell? ⟨b, off + k * 3 + 2, none⟩ = some (.int .i64 (h k)) := (hB.cell (p := ⟨b, _, none⟩) hlt).trans h3
        clear h1 h2 h3
        have i0 : (0 : Int) ≤ (k : Int) := by omega
        have i1 : (k : Int) < (n : Int) := by omega
        have F := hid (fun w => routeOk_any (f k) (g k) (h k) w)
        have z1 : b < wr.heap.size := Nat.lt_of_lt_of_le hlt hB.size
        have z2 : b < (wr.alloc (.cells #[.int .i64 (f k), .int .i64 (g k), .int .i64 (h k)] 29)).heap.size := by rw [World.size_alloc]; omega
        have z3 : wr.heap.size < (wr.alloc (.cells #[.int .i64 (f k), .int .i64 (g k), .int .i64 (h k)] 29)).heap.size := by rw [World.size_alloc]; omega
        have u1 := up_cell z3 (show (wr.alloc (.cells #[.int .i64 (f k), .int .i64 (g k), .int .i64 (h k)] 29)).cell? ⟨wr.heap.size, 0, none⟩ = some (.int .i64 (f k)) by simp)
        have u2 := up_cell z3 (show (wr.alloc (.cells #[.int .i64 (f k), .int .i64 (g k), .int .i64 (h k)] 29)).cell? ⟨wr.heap.size, 1, none⟩ = some (.int .i64 (g k)) by simp)
        have u3 := up_cell z3 (show (wr.alloc (.cells #[.int .i64 (f k), .int .i64 (g k), .int .i64 (h k)] 29)).cell? ⟨wr.heap.size, 2, none⟩ = some (.int .i64 (h k)) by simp)
        have hV : Below w.heap.size w (wr.alloc (.cells #[.int .i64 (f k), .int .i64 (g k), .int .i64 (h k)] 29)) := hB.alloc hB.size _
        have old : ∀ o v, wr.cell? ⟨b, o, none⟩ = some v → (wr.alloc (.cells #[.int .i64 (f k), .int .i64 (g k), .int .i64 (h k)] 29)).cell? ⟨b, o, none⟩ = some v := fun o v hv => (((Below.refl _ wr).alloc (Nat.le_refl _) (.cells #[.int .i64 (f k), .int .i64 (g k), .int .i64 (h k)] 29)).cell (p := ⟨b, o, none⟩) z1).trans hv
        have OLD := hid old
        clear old
        cases ho : rOk (f k) (g k) (h k) with
        | false =>
          rw [ho] at F
          clear hc H
          go_wp2
          refine wp_region_quiet_up (by kernel_rfl) (by kernel_rfl) ?_
          repeat (go_big_quiet_step (first | (go_at_call 28; exact up_of (F.out _))))
          refine wpQuiet_nil ?_
          rintro _ ⟨p, rfl⟩
          go_wp2
          go_ret
          exact ⟨ret_bool (rts_no hlt' (by rw [okAt, ho]; rfl)).symm, then_ hV p.h⟩
        | true =>
          rw [ho] at F
          by_cases k0 : k = 0
          · subst k0
            clear hc H
            simp only [Nat.zero_mul, Nat.add_zero] at g1 g2 g3
            go_wp2
            refine wp_region_quiet_up (by kernel_rfl) (by kernel_rfl) ?_
            repeat (go_big_quiet_step (first | (go_at_call 28; exact up_of (F.out _))))
            refine wpQuiet_nil ?_
            rintro _ ⟨p, rfl⟩
            go_wp2
            exact ⟨⟨0 + 1, by omega, rfl, fun j hj => by
              rcases Nat.lt_succ_iff_lt_or_eq.1 hj with h1 | h1
              · exact HA.out j h1
              · subst h1; rw [okAt, ho]; rfl, then_ hV p.h⟩, by simp [intOf]; omega⟩
          · obtain ⟨m, rfl⟩ : ∃ m, k = m + 1 := ⟨k - 1, by omega⟩
            obtain ⟨q1, q2, q3⟩ := hc m (by omega)
            have u4 := up_cell z2 (OLD.out _ _ ((hB.cell (p := ⟨b, _, none⟩) hlt).trans q1))
            have u5 := up_cell z2 (OLD.out _ _ ((hB.cell (p := ⟨b, _, none⟩) hlt).trans q2))
            have u6 := up_cell z2 (OLD.out _ _ ((hB.cell (p := ⟨b, _, none⟩) hlt).trans q3))
            have j0 : decide ((0 : Int) < (m : Int) + 1) = true := decide_eq_true (by omega)
            have j1 : (m : Int) < (n : Int) := by omega
            have G := hid (fun w => order_any (f m) (g m) (h m) (f (m + 1)) (g (m + 1)) (h (m + 1)) w)
            clear hc H q1 q2 q3
            by_cases hl : lessR (f m) (g m) (f (m + 1)) (g (m + 1))
            · have ol := ord_no hl
              generalize ordR (f m) (g m) (f (m + 1)) (g (m + 1)) = O at *
              have d1 : decide (0 ≤ O) = false := decide_eq_false (by omega)
              have hyl : okAt f g h (m + 1) = true := okAt_yes ho hl
              clear ol hl
              go_wp2
              refine wp_region_quiet_up (by kernel_rfl) (by kernel_rfl) ?_
              repeat (go_big_quiet_step (first | (go_at_call 28; exact up_of (F.out _)) | (go_at_call 30; exact up_of (G.out _))))
              refine wpQuiet_nil ?_
              rintro _ ⟨p, rfl⟩
              go_wp2
              exact ⟨⟨m + 1 + 1, by omega, rfl, fun j hj => by
                rcases Nat.lt_succ_iff_lt_or_eq.1 hj with h1 | h1
                · exact HA.out j h1
                · subst h1; exact hyl, then_ hV p.h⟩, by simp [intOf]; omega⟩
            · have ol := ord_yes hl
              generalize ordR (f m) (g m) (f (m + 1)) (g (m + 1)) = O at *
              have d1 : decide (0 ≤ O) = true := decide_eq_true ol
              have hnl : okAt f g h (m + 1) = false := okAt_no hl
              clear ol hl
              go_wp2
              refine wp_region_quiet_up (by kernel_rfl) (by kernel_rfl) ?_
              repeat (go_big_quiet_step (first | (go_at_call 28; exact up_of (F.out _)) | (go_at_call 30; exact up_of (G.out _))))
              refine wpQuiet_nil ?_
              rintro _ ⟨p, rfl⟩
              go_wp2
              go_ret
              exact ⟨ret_bool (rts_no hlt' (hnl)).symm, then_ hV p.h⟩
      · have E : Hid (rtsOk n f g h = true) := by
          show _ = _
          rw [rtsOk, decide_eq_true h20, Bool.true_and, List.all_eq_true]
          intro j hj
          exact HA.out j (by have := List.mem_range.1 hj; omega)
        clear H
        go_wp2
        go_ret
        exact ⟨ret_bool E.out.symm, hB⟩
  · have h20' : (20 : Int) < (n : Int) := by omega
    have E : Hid (rtsOk n f g h = false) := by show _ = _; rw [rtsOk, decide_eq_false h20, Bool.false_and]
    clear H
    go_enter Try.func12, Try.ntmps12
    go_wp2
    go_ret
    exact ⟨ret_bool E.out.symm, Below.refl _ _⟩

end Go.Proofs.Ythlejmofhcgkdaa
