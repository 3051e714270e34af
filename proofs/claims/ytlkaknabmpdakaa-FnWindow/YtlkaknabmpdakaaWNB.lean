/- Windows: Taken of the model and of the program, and their answers told plainly. -/
import Derived.Test.YtlkaknabmpdakaaWNA
namespace Go.Proofs.Ytlkaknabmpdakaa
open Go.RowKit

theorem okW_facts {t b : Int} (h : okW t b = true) : 0 ≤ t ∧ t ≤ 1099511627776 ∧ 0 ≤ b ∧ b ≤ 4294967295 := by
  simp only [okW, inB, Bool.and_eq_true, decide_eq_true_eq] at h
  omega
theorem inB_facts {n hi : Int} (h : inB n 0 hi = true) : 0 ≤ n ∧ n ≤ hi := by
  simp only [inB, Bool.and_eq_true, decide_eq_true_eq] at h
  omega

/-- a right window with a number above its top taken -/
def lift (b g : Int) : Int := (b * 2 ^ g.toNat) % 4294967296 + 1
/-- the answer of Taken -/
def tak (t b n : Int) : Int × Int × Bool :=
  if okW t b = true ∧ inB n 0 1099511627776 = true then
    if b = 0 then (n, 1, true)
    else if t < n then (n, lift b (n - t), true)
    else if 32 ≤ t - n ∨ (b / 2 ^ (t - n).toNat).tmod 2 = 1 then (t, b, false)
    else (t, bits .or .i64 b (wrap64 (2 ^ (t - n).toNat)), true)
  else (0, 0, false)

theorem pow_cast (g : Int) : (2 : Int) ^ g.toNat = ((2 ^ g.toNat : Nat) : Int) := by simp

theorem even_mod (x : Nat) (h : x % 2 = 0) : (x % 4294967296 ||| 1) = x % 4294967296 + 1 := by
  exact nat_join 1 (x % 4294967296) 1 (by omega) (by omega)

theorem lift_spec {b g : Int} (hb0 : 0 ≤ b) (hb1 : b ≤ 4294967295) (h0 : 0 < g) (h1 : g < 32) :
    (bits .or .i64 (wrap64 (b * 2 ^ g.toNat)) 1).tmod 4294967296 = lift b g := by
  obtain ⟨B, rfl⟩ := Int.eq_ofNat_of_zero_le hb0
  unfold lift
  rw [pow_cast]
  have e1 : 2 ^ g.toNat ≤ 2 ^ 31 := Nat.pow_le_pow_right (by omega) (by omega)
  have e2 : 2 ^ g.toNat = 2 ^ (g.toNat - 1) * 2 := by rw [← Nat.pow_succ]; congr 1; omega
  generalize 2 ^ (g.toNat - 1) = q at *
  generalize 2 ^ g.toNat = p at *
  subst e2
  have e3 : B * (q * 2) < 9223372036854775808 := Nat.lt_of_le_of_lt (Nat.mul_le_mul (show B ≤ 4294967295 by omega) e1) (by decide)
  have e4 : ((B : Int) * ((q * 2 : Nat) : Int)) = ((B * (q * 2) : Nat) : Int) := by simp
  have e5 : B * (q * 2) % 2 = 0 := by rw [← Nat.mul_assoc]; omega
  rw [e4]
  generalize B * (q * 2) = m at *
  have e6 : wrap64 (m : Int) = (m : Int) := by unfold wrap64; omega
  rw [e6, show (1 : Int) = ((1 : Nat) : Int) from rfl, i64_or_nat m 1 (by omega) (by omega), nat_join 1 m 1 (by omega) (by omega), Int.tmod_eq_emod_of_nonneg (by omega)]
  omega

theorem lift_far {b g : Int} (h1 : 32 ≤ g) : lift b g = 1 := by
  unfold lift
  have e : (2 : Int) ^ g.toNat = 4294967296 * 2 ^ (g.toNat - 32) := by
    rw [show (4294967296 : Int) = 2 ^ 32 from rfl, ← Int.pow_add]; congr 1; omega
  rw [e, Int.mul_left_comm]
  omega

set_option maxHeartbeats 1000000 in
theorem specTaken_any (t b n : Int) (w : World) :
    Calls Try.prog 9 #[.agg #[.int .i64 t, .int .i64 b], .int .i64 n] w fun e w' => e = .returned (.tuple #[.agg #[.int .i64 (tak t b n).1, .int .i64 (tak t b n).2.1], .bool (tak t b n).2.2]) ∧ Below w.heap.size w w' := by
  have hz : ∀ w : World, Calls Try.prog 10 #[.agg #[.int .i64 t, .int .i64 b]] w fun e w' => e = .returned (.bool (okW t b)) ∧ w' = w.alloc (.cells #[.int .i64 t, .int .i64 b] 25) := fun w => specOk_any t b w
  have hy : ∀ w : World, Calls Try.prog 28 #[.int .i64 n, .int .i64 0, .int .i64 1099511627776] w fun e w' => e = .returned (.bool (inB n 0 1099511627776)) ∧ w' = w := fun w => l1In_any n _ _ w
  have LL : ∀ u v u', Below w.heap.size w (((w.alloc u).alloc v).alloc u') := fun u v u' => (((Below.refl _ w).alloc (Nat.le_refl _) u).alloc (by simp) v).alloc (by simp; omega) u'
  have TK : Hid (tak t b n = tak t b n) := rfl
  unfold tak at TK
  by_cases h1 : okW t b = true
  · by_cases h2 : inB n 0 1099511627776 = true
    · rw [h1] at hz
      rw [h2] at hy
      have ET : Hid (tak t b n = if b = 0 then (n, 1, true)
        else if t < n then (n, lift b (n - t), true)
        else if 32 ≤ t - n ∨ (b / 2 ^ (t - n).toNat).tmod 2 = 1 then (t, b, false)
        else (t, bits .or .i64 b (wrap64 (2 ^ (t - n).toNat)), true)) := by show tak t b n = _; unfold tak; rw [if_pos ⟨h1, h2⟩]
      clear TK
      obtain ⟨ht0, ht1, hb0, hb1⟩ := okW_facts h1
      obtain ⟨hn0, hn1⟩ := inB_facts h2
      clear h1 h2
      generalize tak t b n = T at *
      go_enter Try.func9, Try.ntmps9
      go_wp2_with (first | (go_at_call 10; refine (hz _).mono ?_; rintro e w' ⟨rfl, rfl⟩) | (go_at_call 28; refine (hy _).mono ?_; rintro e w' ⟨rfl, rfl⟩))
      · rename_i hb
        have e := ET.out
        rw [if_pos (by simpa using hb)] at e
        subst e
        exact bodyPost_ret (v := .tuple #[.agg #[.int .i64 n, .int .i64 1], .bool true]) (by simp [results, Try.results9, go_sem]) rfl ⟨rfl, LL _ _ _⟩
      · rename_i hb hg
        have e := ET.out
        rw [if_neg (by simpa using hb), if_pos (by omega), lift_far hg] at e
        subst e
        exact bodyPost_ret (v := .tuple #[.agg #[.int .i64 n, .int .i64 1], .bool true]) (by simp [results, Try.results9, go_sem]) rfl ⟨rfl, LL _ _ _⟩
      · rename_i hb hg hg'
        have e := ET.out
        rw [if_neg (by simpa using hb), if_pos (by omega)] at e
        subst e
        exact bodyPost_ret (v := .tuple #[.agg #[.int .i64 n, .int .i64 ((bits BinOp.or IntKind.i64 (wrap64 (b * 2 ^ (n - t).toNat)) 1).tmod 4294967296)], .bool true]) (by simp [results, Try.results9, go_sem]) rfl ⟨by rw [lift_spec hb0 hb1 (by omega) (by omega)], LL _ _ _⟩
      · rename_i hb hg hg' hg2 hg3
        have e := ET.out
        have en : -(n - t) = t - n := by omega
        rw [en] at hg3
        rw [if_neg (by simpa using hb), if_neg (by omega), if_pos (hg3.imp id (by simp))] at e
        subst e
        exact bodyPost_ret (v := .tuple #[.agg #[.int .i64 t, .int .i64 b], .bool false]) (by simp [results, Try.results9, go_sem]) rfl ⟨rfl, LL _ _ _⟩
      · rename_i hb hg hg' hg2 hg3
        have e := ET.out
        have en : -(n - t) = t - n := by omega
        rw [en] at hg3
        rw [if_neg (by simpa using hb), if_neg (by omega), if_neg (by have := hg3.2; simp at this; omega)] at e
        subst e
        exact bodyPost_ret (v := .tuple #[.agg #[.int .i64 t, .int .i64 (bits BinOp.or IntKind.i64 b (wrap64 (2 ^ (-(n - t)).toNat)))], .bool true]) (by simp [results, Try.results9, go_sem]) rfl ⟨by rw [en], LL _ _ _⟩
      · rename_i hb hg hg' hg2
        have e := ET.out
        rw [if_neg (by simpa using hb), if_neg (by omega), if_pos (.inl (by omega))] at e
        subst e
        exact bodyPost_ret (v := .tuple #[.agg #[.int .i64 t, .int .i64 b], .bool false]) (by simp [results, Try.results9, go_sem]) rfl ⟨rfl, LL _ _ _⟩
    · have e : tak t b n = (0, 0, false) := by unfold tak; rw [if_neg (fun h => h2 h.2)]
      rw [h1] at hz
      rw [show inB n 0 1099511627776 = false by simpa using h2] at hy
      clear h1 h2 TK
      rw [e]
      clear e
      go_enter Try.func9, Try.ntmps9
      go_wp2_with (first | (go_at_call 10; refine (hz _).mono ?_; rintro e w' ⟨rfl, rfl⟩) | (go_at_call 28; refine (hy _).mono ?_; rintro e w' ⟨rfl, rfl⟩))
      exact bodyPost_ret (v := .tuple #[.agg #[.int .i64 0, .int .i64 0], .bool false]) (by simp [results, Try.results9, go_sem]) rfl ⟨rfl, LL _ _ _⟩
  · have e : tak t b n = (0, 0, false) := by unfold tak; rw [if_neg (fun h => h1 h.1)]
    rw [show okW t b = false by simpa using h1] at hz
    clear h1 TK hy
    rw [e]
    clear e
    go_enter Try.func9, Try.ntmps9
    go_wp2_with (go_at_call 10; refine (hz _).mono ?_; rintro e w' ⟨rfl, rfl⟩)
    exact bodyPost_ret (v := .tuple #[.agg #[.int .i64 0, .int .i64 0], .bool false]) (by simp [results, Try.results9, go_sem]) rfl ⟨rfl, LL _ _ _⟩
end Go.Proofs.Ytlkaknabmpdakaa
