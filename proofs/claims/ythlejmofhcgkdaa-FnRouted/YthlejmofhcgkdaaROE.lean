/- RoutesOk of the model. -/
import Derived.Test.YthlejmofhcgkdaaROC
namespace Go.Proofs.Ythlejmofhcgkdaa
open Go Go.RowKit Go.Deep Go.BigFrame

def lessR (x y x' y' : Int) : Prop := x < x' ∨ (x = x' ∧ y < y')
instance (x y x' y' : Int) : Decidable (lessR x y x' y') := by unfold lessR; infer_instance
/-- the route at a place is right, and behind the one ahead of it -/
def okAt (f g h : Nat → Int) (i : Nat) : Bool := rOk (f i) (g i) (h i) && (decide (i = 0) || decide (lessR (f (i - 1)) (g (i - 1)) (f i) (g i)))
def rtsOk (n : Nat) (f g h : Nat → Int) : Bool := decide (n ≤ 20) && (List.range n).all (okAt f g h)

theorem okAt_yes {f g h : Nat → Int} {m : Nat} (ho : rOk (f (m + 1)) (g (m + 1)) (h (m + 1)) = true) (hl : lessR (f m) (g m) (f (m + 1)) (g (m + 1))) : okAt f g h (m + 1) = true := by
  rw [okAt, ho, Nat.add_sub_cancel, decide_eq_true hl, Bool.or_true, Bool.and_true]
theorem okAt_no {f g h : Nat → Int} {m : Nat} (hl : ¬ lessR (f m) (g m) (f (m + 1)) (g (m + 1))) : okAt f g h (m + 1) = false := by
  rw [okAt, Nat.add_sub_cancel, decide_eq_false hl, decide_eq_false (by omega), Bool.or_false, Bool.and_false]
theorem rts_no {n k : Nat} {f g h : Nat → Int} (hk : k < n) (ho : okAt f g h k = false) : rtsOk n f g h = false := by
  rw [rtsOk]
  have : (List.range n).all (okAt f g h) = false := by
    rw [List.all_eq_false]
    exact ⟨k, List.mem_range.2 hk, by rw [ho]; simp⟩
  rw [this, Bool.and_false]
/-- a world above w -/
structure Up (w : World) where
  W : World
  h : Below w.heap.size w W
instance (w : World) : Inhabited (Up w) := ⟨⟨w, Below.refl _ _⟩⟩
theorem wp_region_quiet_up {id : Nat} {Q : Exit → Act → World → Prop} {a : Act} {w : World} {l : List Oper} (hm : Try.prog.follows .mixedOrders = true) (hB : Region.lexB .any l.toArray = true)
    (h : wpQuiet Try.prog l.toArray (fun w' => ∃ p : Up w, w' = p.W) (fun a' => ∀ w', (∃ p : Up w, w' = p.W) → Q .normal a' w') l a) : (Code.region id l.toArray true).wp Try.prog Q a w :=
  wp_region_quiet (C := fun w' => ∃ p : Up w, w' = p.W) hm hB ⟨⟨w.drew, (Below.refl _ _).drew⟩, rfl⟩ (by simpa using h)
theorem up_of {w : World} {p : Up w} {f : FuncId} {args : Array Value} {v : Value} (h : Calls Try.prog f args p.W fun e w' => e = .returned v ∧ Below p.W.heap.size p.W w') : Calls Try.prog f args p.W fun e w'' => e = .returned v ∧ ∃ q : Up w, w'' = q.W :=
  h.mono fun _ w' ⟨he, hb⟩ => ⟨he, ⟨w', then_ p.h hb⟩, rfl⟩
theorem up_cell {w : World} {b o : Nat} {v : Value} (hb : b < w.heap.size) (h : w.cell? ⟨b, o, none⟩ = some v) : ∀ p : Up w, p.W.cell? ⟨b, o, none⟩ = some v := fun p => (p.h.cell (p := ⟨b, o, none⟩) hb).trans h

set_option maxRecDepth 100000 in
set_option maxHeartbeats 2000000 in
theorem specRoutes_any (a : Option Addr) (n cap : Nat) (f g h : Nat → Int) (w : World) (hn : n ≤ maxLen) (H : RtsAt w a n f g h) :
    Calls Try.prog 24 #[.slice a n cap] w fun e w' => e = .returned (.bool (rtsOk n f g h)) ∧ Below w.heap.size w w' := by
  unfold maxLen at hn
  by_cases h20 : n ≤ 20
  · have h20' : ¬ (20 : Int) < (n : Int) := by omega
    go_enter Try.func24, Try.ntmps24
    go_wp2
    go_loopw [3] (fun i wr => ∃ k : Nat, k ≤ n ∧ i = .int .i64 k ∧ (∀ j, j < k → okAt f g h j = true) ∧ Below w.heap.size w wr) (fun i _ => n - (intOf i).toNat)
    case atStart => exact ⟨0, Nat.zero_le _, rfl, fun j hj => by omega, Below.refl _ _⟩
    case round =>
      obtain ⟨k, hk, rfl, hall, hB⟩ := hrel
      have HA := hid hall
      clear hall
      by_cases hlt' : k < n
      · obtain ⟨b, off, rfl, hlt, hc⟩ := H (by omega)
        obtain ⟨h1, h2, h3⟩ := hc k hlt'
        have g1 : wr.cell? ⟨b, off + k * 3, none⟩ = some (.int .i64 (f k)) := (hB.cell (p := ⟨b, _, none⟩) hlt).trans h1
        have g2 : wr.cell? ⟨b, off + k * 3 + 1, none⟩ = some (.int .i64 (g k)) := (hB.cell (p := ⟨b, _, none⟩) hlt).trans h2
        have g3 : wr.cell? ⟨b, off + k * 3 + 2, none⟩ = some (.int .i64 (h k)) := (hB.cell (p := ⟨b, _, none⟩) hlt).trans h3
        clear h1 h2 h3
        have i0 : (0 : Int) ≤ (k : Int) := by omega
        have i1 : (k : Int) < (n : Int) := by omega
        have F := hid (fun w => l8Ok_any (f k) (g k) (h k) w)
        have z1 : b < wr.heap.size := Nat.lt_of_lt_of_le hlt hB.size
        have u1 := up_cell z1 g1
        have u2 := up_cell z1 g2
        have u3 := up_cell z1 g3
        cases ho : rOk (f k) (g k) (h k) with
        | false =>
          rw [ho] at F
          clear hc H g1 g2 g3
          go_wp2
          refine wp_region_quiet_up (by kernel_rfl) (by kernel_rfl) ?_
          repeat (go_big_quiet_step (first | (go_at_call 32; exact up_of (F.out _))))
          refine wpQuiet_nil ?_
          rintro _ ⟨p, rfl⟩
          go_wp2
          go_ret
          exact ⟨ret_bool (rts_no hlt' (by rw [okAt, ho]; rfl)).symm, then_ hB p.h⟩
        | true =>
          rw [ho] at F
          by_cases k0 : k = 0
          · subst k0
            simp only [Nat.zero_mul, Nat.add_zero] at u1 u2 u3
            clear hc H g1 g2 g3
            go_wp2
            refine wp_region_quiet_up (by kernel_rfl) (by kernel_rfl) ?_
            repeat (go_big_quiet_step (first | (go_at_call 32; exact up_of (F.out _))))
            refine wpQuiet_nil ?_
            rintro _ ⟨p, rfl⟩
            go_wp2
            exact ⟨⟨0 + 1, by omega, rfl, fun j hj => by
              rcases Nat.lt_succ_iff_lt_or_eq.1 hj with h1 | h1
              · exact HA.out j h1
              · subst h1; rw [okAt, ho]; rfl, then_ hB p.h⟩, by simp [intOf]; omega⟩
          · obtain ⟨m, rfl⟩ : ∃ m, k = m + 1 := ⟨k - 1, by omega⟩
            obtain ⟨q1, q2, _⟩ := hc m (by omega)
            have u4 := up_cell z1 ((hB.cell (p := ⟨b, _, none⟩) hlt).trans q1)
            have u5 := up_cell z1 ((hB.cell (p := ⟨b, _, none⟩) hlt).trans q2)
            have j0 : decide ((0 : Int) < (m : Int) + 1) = true := decide_eq_true (by omega)
            have j1 : (m : Int) < (n : Int) := by omega
            clear hc H g1 g2 g3 q1 q2
            by_cases c1 : f (m + 1) < f m
            · have d1 : decide (f (m + 1) < f m) = true := decide_eq_true c1
              have hnl : okAt f g h (m + 1) = false := okAt_no (by unfold lessR; omega)
              go_wp2
              refine wp_region_quiet_up (by kernel_rfl) (by kernel_rfl) ?_
              repeat (go_big_quiet_step (first | (go_at_call 32; exact up_of (F.out _))))
              refine wpQuiet_nil ?_
              rintro _ ⟨p, rfl⟩
              go_wp2
              go_ret
              exact ⟨ret_bool (rts_no hlt' (hnl)).symm, then_ hB p.h⟩
            · have d1 : decide (f (m + 1) < f m) = false := decide_eq_false c1
              by_cases c2 : f m = f (m + 1)
              · have d2 : (f m == f (m + 1)) = true := beq_iff_eq.2 c2
                by_cases c3 : g (m + 1) ≤ g m
                · have d3 : decide (g (m + 1) ≤ g m) = true := decide_eq_true c3
                  have hnl : okAt f g h (m + 1) = false := okAt_no (by unfold lessR; omega)
                  clear c2
                  go_wp2
                  refine wp_region_quiet_up (by kernel_rfl) (by kernel_rfl) ?_
                  repeat (go_big_quiet_step (first | (go_at_call 32; exact up_of (F.out _))))
                  refine wpQuiet_nil ?_
                  rintro _ ⟨p, rfl⟩
                  go_wp2
                  go_ret
                  exact ⟨ret_bool (rts_no hlt' (hnl)).symm, then_ hB p.h⟩
                · have d3 : decide (g (m + 1) ≤ g m) = false := decide_eq_false c3
                  have hyl : okAt f g h (m + 1) = true := okAt_yes ho (by unfold lessR; omega)
                  clear c2
                  go_wp2
                  refine wp_region_quiet_up (by kernel_rfl) (by kernel_rfl) ?_
                  repeat (go_big_quiet_step (first | (go_at_call 32; exact up_of (F.out _))))
                  refine wpQuiet_nil ?_
                  rintro _ ⟨p, rfl⟩
                  go_wp2
                  exact ⟨⟨m + 1 + 1, by omega, rfl, fun j hj => by
                    rcases Nat.lt_succ_iff_lt_or_eq.1 hj with h1 | h1
                    · exact HA.out j h1
                    · subst h1; exact hyl, then_ hB p.h⟩, by simp [intOf]; omega⟩
              · have d2 : (f m == f (m + 1)) = false := beq_eq_false_iff_ne.2 c2
                have hyl : okAt f g h (m + 1) = true := okAt_yes ho (by unfold lessR; omega)
                clear c2
                go_wp2
                refine wp_region_quiet_up (by kernel_rfl) (by kernel_rfl) ?_
                repeat (go_big_quiet_step (first | (go_at_call 32; exact up_of (F.out _))))
                refine wpQuiet_nil ?_
                rintro _ ⟨p, rfl⟩
                go_wp2
                exact ⟨⟨m + 1 + 1, by omega, rfl, fun j hj => by
                  rcases Nat.lt_succ_iff_lt_or_eq.1 hj with h1 | h1
                  · exact HA.out j h1
                  · subst h1; exact hyl, then_ hB p.h⟩, by simp [intOf]; omega⟩
      · have E : Hid (rtsOk n f g h = true) := by
          show _ = _
          rw [rtsOk, decide_eq_true h20, Bool.true_and, List.all_eq_true]
          intro j hj
          exact HA.out j (by have := List.mem_range.1 hj; omega)
        clear H
        go_wp2
        go_ret
        exact ⟨ret_bool E.out.symm, hB⟩
  · have h20' : (20 : Int) < (n : Int) := by omega
    have E : Hid (rtsOk n f g h = false) := by show _ = _; rw [rtsOk, decide_eq_false h20, Bool.false_and]
    clear H
    go_enter Try.func24, Try.ntmps24
    go_wp2
    go_ret
    exact ⟨ret_bool E.out.symm, Below.refl _ _⟩
end Go.Proofs.Ythlejmofhcgkdaa
