/- PortFor of the model. -/
import Derived.Test.YthlejmofhcgkdaaROF
namespace Go.Proofs.Ythlejmofhcgkdaa
open Go Go.RowKit Go.Deep Go.BigFrame

/-- the route has the address -/
def hasR (f g : Nat → Int) (t : Int) (k : Nat) : Prop := t / 2 ^ (32 - g k).toNat = f k / 2 ^ (32 - g k).toNat
instance (f g : Nat → Int) (t : Int) (k : Nat) : Decidable (hasR f g t k) := by unfold hasR; infer_instance
/-- the most bits and their port, of the first k routes -/
def best (f g h : Nat → Int) (t : Int) : Nat → Int × Int
  | 0 => (-1, 0)
  | k + 1 => if hasR f g t k ∧ (best f g h t k).1 < g k then (g k, h k) else best f g h t k
def isA (t : Int) : Bool := decide (0 ≤ t ∧ t ≤ 4294967295)
def portR (n : Nat) (f g h : Nat → Int) (t : Int) : Int := if (rtsOk n f g h && isA t) = true then (best f g h t n).2 else -1

theorem rts_at {n k : Nat} {f g h : Nat → Int} (ho : rtsOk n f g h = true) (hk : k < n) : rOk (f k) (g k) (h k) = true := by
  rw [rtsOk, Bool.and_eq_true, List.all_eq_true] at ho
  have := ho.2 k (List.mem_range.2 hk)
  rw [okAt, Bool.and_eq_true] at this
  exact this.1
theorem rts_n {n : Nat} {f g h : Nat → Int} (ho : rtsOk n f g h = true) : n ≤ 20 := by
  rw [rtsOk, Bool.and_eq_true, decide_eq_true_eq] at ho
  exact ho.1
theorem rOk_is {x y z : Int} (h : rOk x y z = true) : (0 ≤ y ∧ y ≤ 32 ∧ 0 ≤ x ∧ x ≤ 4294967295 ∧ 1 ≤ z ∧ z ≤ 100) ∧ x % 2 ^ (32 - y).toNat = 0 := by
  rw [rOk, Bool.and_eq_true, decide_eq_true_eq, decide_eq_true_eq] at h
  exact h

theorem size_of {y : Int} (h0 : 0 ≤ y) (h1 : y ≤ 32) (w : World) : Calls Try.prog 26 #[.int .i64 y] w fun e w' => e = .returned (.int .i64 (2 ^ (32 - y).toNat)) ∧ w' = w := by
  obtain ⟨m, rfl, hm⟩ : ∃ m : Nat, y = 32 - (m : Int) ∧ m ≤ 32 := ⟨(32 - y).toNat, by omega, by omega⟩
  rw [show (32 - (32 - (m : Int))).toNat = m by omega]
  exact l8Size_any m w hm

set_option maxRecDepth 100000 in
set_option maxHeartbeats 2000000 in
theorem specPort_any (a : Option Addr) (n cap : Nat) (f g h : Nat → Int) (t : Int) (w : World) (hn : n ≤ maxLen) (H : RtsAt w a n f g h) :
    Calls Try.prog 8 #[.slice a n cap, .int .i64 t] w fun e w' => e = .returned (.int .i64 (portR n f g h t)) ∧ Below w.heap.size w w' := by
  have F7 := hid (specRoutes_any a n cap f g h w hn H)
  cases ho : rtsOk n f g h with
  | false =>
    rw [ho] at F7
    have E : Hid (portR n f g h t = -1) := by show _ = _; rw [portR, ho]; rfl
    clear H
    go_enter Try.func8, Try.ntmps8
    go_wp2_with (go_at_call 24; refine F7.out.mono ?_; rintro e w1 ⟨rfl, h1⟩)
    go_ret
    exact ⟨ret_int E.out.symm, h1⟩
  | true =>
    rw [ho] at F7
    by_cases ht : 0 ≤ t ∧ t ≤ 4294967295
    · obtain ⟨t0, t1⟩ := ht
      have E : Hid (portR n f g h t = (best f g h t n).2) := by show _ = _; rw [portR, ho, isA, decide_eq_true ⟨t0, t1⟩]; rfl
      have n20 := rts_n ho
      have RO := hid (fun k (hk : k < n) => rOk_is (rts_at ho hk))
      clear ho
      go_enter Try.func8, Try.ntmps8
      go_wp2_with (first
        | (go_at_call 25; refine (l1In_yes _ t0 t1).mono ?_; rintro e w2 ⟨rfl, h2⟩; subst w2)
        | (go_at_call 24; refine F7.out.mono ?_; rintro e w1 ⟨rfl, h1⟩))
      go_loopw [5, 6, 7] (fun b p i wr => ∃ k : Nat, k ≤ n ∧ i = .int .i64 k ∧ b = .int .i64 (best f g h t k).1 ∧ p = .int .i64 (best f g h t k).2 ∧ Below w.heap.size w wr) (fun _ _ i _ => n - (intOf i).toNat)
      case atStart => exact ⟨0, Nat.zero_le _, rfl, rfl, rfl, h1⟩
      case round =>
        obtain ⟨k, hk, rfl, rfl, rfl, hB⟩ := hrel
        by_cases hlt' : k < n
        · obtain ⟨b, off, rfl, hlt, hc⟩ := H (by omega)
          obtain ⟨c1, c2, c3⟩ := hc k hlt'
          have g1 : wr.cell? ⟨b, off + k * 3, none⟩ = some (.int .i64 (f k)) := (hB.cell (p := ⟨b, _, none⟩) hlt).trans c1
          have g2 : wr.cell? ⟨b, off + k * 3 + 1, none⟩ = some (.int .i64 (g k)) := (hB.cell (p := ⟨b, _, none⟩) hlt).trans c2
          have g3 : wr.cell? ⟨b, off + k * 3 + 2, none⟩ = some (.int .i64 (h k)) := (hB.cell (p := ⟨b, _, none⟩) hlt).trans c3
          clear c1 c2 c3 hc H
          obtain ⟨⟨y0, y1, x0, x1, z0, z1⟩, _⟩ := RO.out k hlt'
          obtain ⟨p1, p2⟩ := pow_small (32 - g k).toNat (by omega)
          have F23 := hid (fun w => size_of y0 y1 w)
          have p0 : ¬ (2 : Int) ^ (32 - g k).toNat = 0 := by omega
          have pm : ¬ (2 : Int) ^ (32 - g k).toNat = -1 := by omega
          have zz : b < wr.heap.size := Nat.lt_of_lt_of_le hlt hB.size
          have u1 := up_cell zz g1
          have u2 := up_cell zz g2
          have u3 := up_cell zz g3
          have i0 : (0 : Int) ≤ (k : Int) := by omega
          have i1 : (k : Int) < (n : Int) := by omega
          have B1 : Hid (best f g h t (k + 1) = if hasR f g t k ∧ (best f g h t k).1 < g k then (g k, h k) else best f g h t k) := rfl
          have HR : Hid (hasR f g t k ↔ t / 2 ^ (32 - g k).toNat = f k / 2 ^ (32 - g k).toNat) := Iff.rfl
          generalize (2 : Int) ^ (32 - g k).toNat = q at *
          have d0 : wrap64 (t / q) = t / q := by
            have h1 := Int.ediv_nonneg t0 (show (0 : Int) ≤ q by omega)
            have h2 := Int.ediv_le_self q t0
            unfold wrap64; omega
          have d1 : wrap64 (f k / q) = f k / q := by
            have h1 := Int.ediv_nonneg x0 (show (0 : Int) ≤ q by omega)
            have h2 := Int.ediv_le_self q x0
            unfold wrap64; omega
          by_cases c : t / q = f k / q
          · have e1 : (t / q == f k / q) = true := beq_iff_eq.2 c
            have C := hid (HR.out.2 c)
            by_cases c' : (best f g h t k).1 < g k
            · have e2 : decide ((best f g h t k).1 < g k) = true := decide_eq_true c'
              clear c
              go_wp2
              refine wp_region_quiet_up (by kernel_rfl) (by kernel_rfl) ?_
              repeat (go_big_quiet_step (first | (go_at_call 26; exact up_of ((F23.out _).mono fun _ _ ⟨h1, h2⟩ => ⟨h1, h2 ▸ Below.refl _ _⟩))))
              refine wpQuiet_nil ?_
              rintro _ ⟨p, rfl⟩
              have v1 := u1 p
              have v2 := u2 p
              have v3 := u3 p
              go_wp2
              exact ⟨⟨k + 1, by omega, rfl, by rw [B1.out, if_pos ⟨C.out, c'⟩], by rw [B1.out, if_pos ⟨C.out, c'⟩], then_ hB p.h⟩, by simp [intOf]; omega⟩
            · have e2 : decide ((best f g h t k).1 < g k) = false := decide_eq_false c'
              clear c
              go_wp2
              refine wp_region_quiet_up (by kernel_rfl) (by kernel_rfl) ?_
              repeat (go_big_quiet_step (first | (go_at_call 26; exact up_of ((F23.out _).mono fun _ _ ⟨h1, h2⟩ => ⟨h1, h2 ▸ Below.refl _ _⟩))))
              refine wpQuiet_nil ?_
              rintro _ ⟨p, rfl⟩
              have v1 := u1 p
              have v2 := u2 p
              have v3 := u3 p
              go_wp2
              exact ⟨⟨k + 1, by omega, rfl, by rw [B1.out, if_neg (fun h => absurd h.2 (by omega))], by rw [B1.out, if_neg (fun h => absurd h.2 (by omega))], then_ hB p.h⟩, by simp [intOf]; omega⟩
          · have e1 : (t / q == f k / q) = false := beq_eq_false_iff_ne.2 c
            have C := hid (fun h => c (HR.out.1 h))
            clear c
            go_wp2
            refine wp_region_quiet_up (by kernel_rfl) (by kernel_rfl) ?_
            repeat (go_big_quiet_step (first | (go_at_call 26; exact up_of ((F23.out _).mono fun _ _ ⟨h1, h2⟩ => ⟨h1, h2 ▸ Below.refl _ _⟩))))
            refine wpQuiet_nil ?_
            rintro _ ⟨p, rfl⟩
            have v1 := u1 p
            have v2 := u2 p
            have v3 := u3 p
            go_wp2
            exact ⟨⟨k + 1, by omega, rfl, by rw [B1.out, if_neg (fun h => C.out h.1)], by rw [B1.out, if_neg (fun h => C.out h.1)], then_ hB p.h⟩, by simp [intOf]; omega⟩
        · have ek : k = n := by omega
          subst ek
          clear H
          go_wp2
          go_ret
          exact ⟨ret_int E.out.symm, hB⟩
    · have E : Hid (portR n f g h t = -1) := by show _ = _; rw [portR, ho, isA, decide_eq_false ht]; rfl
      have ht' : t < 0 ∨ 4294967295 < t := by omega
      clear H ho ht
      go_enter Try.func8, Try.ntmps8
      go_wp2_with (first
        | (go_at_call 25; refine (l1In_no _ ht').mono ?_; rintro e w2 ⟨rfl, h2⟩; subst w2)
        | (go_at_call 24; refine F7.out.mono ?_; rintro e w1 ⟨rfl, h1⟩))
      go_ret
      exact ⟨ret_int E.out.symm, h1⟩
end Go.Proofs.Ythlejmofhcgkdaa
