/- The walk of FnExactRouted. -/
import Derived.Test.YtfdbfffpdhdmjaaPK
namespace Go.Proofs.Ytfdbfffpdhdmjaa
open Go Go.RowKit Go.Deep Go.BigFrame Go.Maps

theorem far {w : World} {a : Option Addr} {n b : Nat} {f g h : Nat → Int} (H : RtsAt w a n f g h) (hb : w.heap.size ≤ b) : 0 < n → ∀ p : Addr, a = some p → p.block ≠ b := fun hn p hp => by
  obtain ⟨b', off, e, hlt, _⟩ := H hn
  rw [e] at hp
  have := Option.some.inj hp
  rw [← this]
  show b' ≠ b
  omega
theorem RowR.far {w : World} {a : Option Addr} {n b c : Nat} (H : RowR w a b n) (hb : c < b) : 0 < n → ∀ p : Addr, a = some p → p.block ≠ c := fun hn p hp => by
  obtain ⟨e, _⟩ := H hn
  rw [e] at hp
  have := Option.some.inj hp
  rw [← this]
  show b ≠ c
  omega
theorem RtsAt.grown {w w' : World} {a : Option Addr} {n : Nat} {f g h : Nat → Int} {b : Nat} (H : RtsAt w a n f g h) (hg : w.grownBy w' (some b)) (hne : 0 < n → ∀ p : Addr, a = some p → p.block ≠ b) : RtsAt w' a n f g h := fun hn => by
  obtain ⟨b', off, rfl, hlt, hc⟩ := H hn
  have hx : ∀ o, w'.cell? ⟨b', o, none⟩ = w.cell? ⟨b', o, none⟩ := fun o => World.grownBy.cell_far hg ⟨b', o, none⟩ hlt (fun e => hne hn _ rfl (Option.some.inj e))
  exact ⟨b', off, rfl, Nat.lt_of_lt_of_le hlt hg.size, fun i hi => by rw [hx, hx, hx]; exact hc i hi⟩

set_option maxRecDepth 100000 in
set_option maxHeartbeats 8000000 in
theorem exactRouted_walk (a : Option Addr) (n cap : Nat) (f g h : Nat → Int) (x y z : Int) (w : World) (hn : n ≤ maxLen) (hc : RtsAt w a n f g h) :
    Calls Try.prog 5 #[.slice a n cap, .agg #[.int .i64 x, .int .i64 y, .int .i64 z]] w fun e w' => e = .returned (.bool true) ∧ Below w.heap.size w w' := by
  have S0 := hid (fun w => szRouteS_any a n cap 1048576 w hn (by decide) (by decide))
  have L0 := (Below.refl _ w).alloc (Nat.le_refl _) (.cells #[.int .i64 x, .int .i64 y, .int .i64 z] 32)
  by_cases hb : n ≤ 1048576
  · rw [if_neg (by omega)] at S0
    have T14 := hid (fun w => toRoute_any x y z w)
    have T : Hid (∀ W, Below w.heap.size w W → Calls Try.prog 8 #[.slice a n cap] W fun e w' => ∃ c, e = .returned (.slice (some ⟨c, 0, none⟩) n n) ∧ RtsAt w' (some ⟨c, 0, none⟩) n f g h ∧ RowR w' (some ⟨c, 0, none⟩) c n ∧ (W.heap.size ≤ c ∧ c < w'.heap.size) ∧ Below W.heap.size W w') := fun W hW => (toRouteS_any a n cap f g h W hb (hc.below hW)).mono fun e w' ⟨he, hr, hB⟩ => ⟨_, he, RtsAt.row hr, fun _ => ⟨rfl, _, _, Nat.le_refl _, hr⟩, ⟨Nat.le_refl _, hr.lt⟩, hB⟩
    have R13 := hid (fun c W H => res13 (some ⟨c, 0, none⟩) n n f g h x y z W hn H)
    have R15 := hid (fun c W H => res15 c 0 n n f g h x y z W (Nat.le_refl _) hn H)
    have hX := rtdL_len n f g h x y z
    generalize rtdL n f g h x y z = X at *
    generalize rtdOk n f g h x y z = ok at *
    have hv : w.heap.size < (w.alloc (.cells #[.int .i64 x, .int .i64 y, .int .i64 z] 32)).heap.size := by rw [World.size_alloc]; omega
    have V1 := hid (up_cell hv (show (w.alloc (.cells #[.int .i64 x, .int .i64 y, .int .i64 z] 32)).cell? ⟨w.heap.size, 0, none⟩ = some (.int .i64 x) by simp))
    have V2 := hid (up_cell hv (show (w.alloc (.cells #[.int .i64 x, .int .i64 y, .int .i64 z] 32)).cell? ⟨w.heap.size, 1, none⟩ = some (.int .i64 y) by simp))
    have V3 := hid (up_cell hv (show (w.alloc (.cells #[.int .i64 x, .int .i64 y, .int .i64 z] 32)).cell? ⟨w.heap.size, 2, none⟩ = some (.int .i64 z) by simp))
    have hq : ¬ (1048576 : Int) - (n : Int) < 0 := by omega
    have HL0 := hid L0
    clear hc L0 hv
    go_enter Try.func5, Try.ntmps5
    go_wp2_with (go_at_call 6; refine (S0.out _).mono ?_; rintro e w0 ⟨rfl, hw0⟩; subst w0)
    go_region_with (first
      | (go_at_call 8; refine (T.out _ HL0.out.drew).mono ?_; rintro e w1 ⟨c1, rfl, r1, _, _, b1⟩; have q1 : w1.cell? ⟨w.heap.size, 0, none⟩ = some (.int .i64 x) := V1.out ⟨w1, then_ (Below.refl _ _).drew b1⟩; have q2 : w1.cell? ⟨w.heap.size, 1, none⟩ = some (.int .i64 y) := V2.out ⟨w1, then_ (Below.refl _ _).drew b1⟩; have q3 : w1.cell? ⟨w.heap.size, 2, none⟩ = some (.int .i64 z) := V3.out ⟨w1, then_ (Below.refl _ _).drew b1⟩)
      | (go_at_call 14; refine (T14.out _).mono ?_; rintro e w2 ⟨rfl, b2⟩)
      | (go_at_call 13; refine (R13.out c1 _ (r1.below b2)).mono ?_; rintro e w3 ⟨a3, g3, c3, rfl, r3, o3, z3, b3⟩))
    all_goals (
      have B3 := hid (then_ (then_ (then_ HL0.out.drew b1) b2) b3)
      have W3 := hid (then_ (then_ (then_ (Below.refl _ _).drew b1) b2) b3)
      have R3 := hid r3
      have hXm : X.length ≤ maxLen := by unfold maxLen; omega
      have e0 : (ok != ok) = false := by cases ok <;> rfl
      have m1 : ¬ (1 : Int) + 3 * (n : Int) < 0 := by omega
      have m2 : ¬ (1 : Int) + 3 * (X.length : Int) < 0 := by omega
      clear b1 b2 b3 r3 o3 z3 q1 q2 q3 r1
      go_wp2_with (first
        | (go_at_call 17; refine (heldRouteS_any a6 X.length c6 1 _ (by omega) (by decide) (by decide) R6k.out).mono ?_; rintro e w13 ⟨rfl, h13⟩; subst w13)
        | (go_at_call 16; have mk11' := mk11; refine (markRouteS_any a6 g6 X.length c6 1 _ (by omega) (by decide) (by decide) O6.out).mono ?_; rintro e w12 ⟨rfl, h12, r12⟩; have R6k := hid r12; replace R3 := hid (R3.out.grown h12 F36.out); replace W3 := hid (W3.out.trans (below_grown h12 W3.out.size (fun j hj => Option.some.inj hj ▸ ZV6.out))); clear h12 r12)
        | (go_at_call 16; refine (markRouteS_any (some ⟨c4, 0, none⟩) c4 n n 1 _ hb (by decide) (by decide) O4.out).mono ?_; rintro e w10 ⟨rfl, h10, _⟩; have mk10 : True := trivial; replace R3 := hid (R3.out.grown h10 F3.out); replace R6 := hid (R6.out.grown h10 F6.out); replace O6 := hid (O6.out.grown h10 N6.out); replace W3 := hid (W3.out.trans (below_grown h10 W3.out.size (fun j hj => Option.some.inj hj ▸ ZV4.out))); clear h10)
        | (go_at_call 10; have mk10' := mk10; refine (eqRouteS_true a6 a3 X.length c6 c3 _ _ _ _ hXm R6.out R3.out).mono ?_; rintro e w11 ⟨rfl, b11⟩; replace W3 := hid (then_ W3.out b11); replace R3 := hid (R3.out.below b11); replace O6 := hid (O6.out.below b11); have mk11 : True := trivial; clear b11)
        | (go_at_call 10; have mk8' := mk8; refine (eqRouteS_true (some ⟨c4, 0, none⟩) (some ⟨c8, 0, none⟩) n n n f g h _ hn R4.out R8.out).mono ?_; rintro e w9 ⟨rfl, b9⟩; replace R3 := hid (R3.out.below b9); replace R6 := hid (R6.out.below b9); replace O6 := hid (O6.out.below b9); replace O4 := hid (O4.out.below b9); have B9 := hid (then_ B8.out b9); replace W3 := hid (then_ W3.out b9); clear b9)
        | (go_at_call 10; refine (eqRouteS_true a6 a3 X.length c6 c3 _ _ _ _ hXm R6.out R3.out).mono ?_; rintro e w7 ⟨rfl, b7⟩; replace R3 := hid (R3.out.below b7); replace R6 := hid (R6.out.below b7); replace O6 := hid (O6.out.below b7); replace R4 := hid (R4.out.below b7); replace O4 := hid (O4.out.below b7); have B7 := hid (then_ B6.out b7); have mk7 : True := trivial; replace W3 := hid (then_ W3.out b7); clear b7)
        | (go_at_call 8; have mk7' := mk7; refine (T.out _ B7.out).mono ?_; rintro e w8 ⟨c8, rfl, r8, _, _, b8⟩; have R8 := hid r8; replace R3 := hid (R3.out.below b8); replace R6 := hid (R6.out.below b8); replace O6 := hid (O6.out.below b8); replace R4 := hid (R4.out.below b8); replace O4 := hid (O4.out.below b8); have B8 := hid (then_ B7.out b8); have mk8 : True := trivial; replace W3 := hid (then_ W3.out b8); clear b8 r8)
        | (go_at_call 8; refine (T.out _ B3.out).mono ?_; rintro e w4 ⟨c4, rfl, r4, o4, ⟨z4, l4⟩, b4⟩; have R4 := hid r4; have O4 := hid o4; have ZV4 := hid (Nat.le_trans W3.out.size z4); have LT4 := hid l4; have F3 := hid (far R3.out z4); replace R3 := hid (R3.out.below b4); have B4 := hid (then_ B3.out b4); replace W3 := hid (then_ W3.out b4); have q1 : w4.cell? ⟨w.heap.size, 0, none⟩ = some (.int .i64 x) := V1.out ⟨w4, W3.out⟩; have q2 : w4.cell? ⟨w.heap.size, 1, none⟩ = some (.int .i64 y) := V2.out ⟨w4, W3.out⟩; have q3 : w4.cell? ⟨w.heap.size, 2, none⟩ = some (.int .i64 z) := V3.out ⟨w4, W3.out⟩; clear r4 o4 z4 l4 b4)
        | (go_at_call 14; refine (T14.out _).mono ?_; rintro e w5 ⟨rfl, b5⟩; replace R3 := hid (R3.out.below b5); replace R4 := hid (R4.out.below b5); replace O4 := hid (O4.out.below b5); have B5 := hid (then_ B4.out b5); replace LT4 := hid (Nat.lt_of_lt_of_le LT4.out b5.size); replace W3 := hid (then_ W3.out b5); clear b5 q1 q2 q3)
        | (go_at_call 15; refine (R15.out c4 _ R4.out).mono ?_; rintro e w6 ⟨a6, g6, c6, rfl, r6, o6, z6, b6⟩; have R6 := hid r6; have O6 := hid o6; have ZV6 := hid (Nat.le_trans W3.out.size z6); have F36 := hid (far R3.out z6); replace R3 := hid (R3.out.below b6); replace R4 := hid (R4.out.below b6); replace O4 := hid (O4.out.below b6); have B6 := hid (then_ B5.out b6); replace W3 := hid (then_ W3.out b6); have c46 : c4 < g6 := Nat.lt_of_lt_of_le LT4.out z6; have F6 := hid (o6.far c46); have N6 := hid (show some g6 ≠ some c4 from fun e => by have := Option.some.inj e; omega); clear r6 o6 z6 b6))
      have p1 : w12.cell? ⟨w.heap.size, 0, none⟩ = some (.int .i64 x) := V1.out ⟨w12, W3.out⟩
      have p2 : w12.cell? ⟨w.heap.size, 1, none⟩ = some (.int .i64 y) := V2.out ⟨w12, W3.out⟩
      have p3 : w12.cell? ⟨w.heap.size, 2, none⟩ = some (.int .i64 z) := V3.out ⟨w12, W3.out⟩
      go_region_with (first
        | (go_at_call 8; refine (T.out _ (then_ HL0.out W3.out).drew).mono ?_; rintro e w14 ⟨c14, rfl, r14, _, _, b14⟩; have W14 := hid (then_ W3.out.drew b14); have q1 : w14.cell? ⟨w.heap.size, 0, none⟩ = some (.int .i64 x) := V1.out ⟨w14, W14.out⟩; have q2 : w14.cell? ⟨w.heap.size, 1, none⟩ = some (.int .i64 y) := V2.out ⟨w14, W14.out⟩; have q3 : w14.cell? ⟨w.heap.size, 2, none⟩ = some (.int .i64 z) := V3.out ⟨w14, W14.out⟩)
        | (go_at_call 14; refine (T14.out _).mono ?_; rintro e w15 ⟨rfl, b15⟩)
        | (go_at_call 15; refine (R15.out c14 _ (r14.below b15)).mono ?_; rintro e w16 ⟨a16, g16, c16, rfl, r16, o16, z16, b16⟩))
      all_goals (
        have D := hid (then_ (then_ ((Below.refl _ _).drew) b14) (then_ b15 b16))
        have W16 := hid (then_ W3.out D.out)
        have R16 := hid r16
        replace R3 := hid (R3.out.below D.out)
        replace R6k := hid (R6k.out.below D.out)
        clear b14 b15 b16 r16 r14 o16 z16 q1 q2 q3
        go_wp2_with (first
          | (go_at_call 10; refine (eqRouteS_true a16 a3 X.length c16 c3 _ _ _ _ hXm R16.out R3.out).mono ?_; rintro e w17 ⟨rfl, b17⟩; have W17 := hid (then_ W16.out b17); replace R6k := hid (R6k.out.below b17); clear b17)
          | (go_at_call 17; refine (heldRouteS_any a6 X.length c6 1 _ (by omega) (by decide) (by decide) R6k.out).mono ?_; rintro e w18 ⟨rfl, h18⟩; subst w18))
        go_ret
        exact ⟨rfl, then_ HL0.out W17.out⟩))
  · rw [if_pos (by omega)] at S0
    clear hc
    go_enter Try.func5, Try.ntmps5
    go_wp2_with (go_at_call 6; refine (S0.out _).mono ?_; rintro e w0 ⟨rfl, hw0⟩; subst w0)
    go_ret
    exact ⟨rfl, L0⟩
end Go.Proofs.Ytfdbfffpdhdmjaa
