/- Windows: risen and Taken of the program. -/
import Derived.Test.YtlkaknabmpdakaaWNB
namespace Go.Proofs.Ytlkaknabmpdakaa
open Go.RowKit

theorem shl_run (x y : Int) (h : 0 ≤ y) (w : World) : Sem.run Try.prog (Op.shift .shl .i64 x .i64 y) w = Result.ok (.int .i64 (wrap64 (x * 2 ^ min y.toNat 64))) w := by
  have hn : ¬ y < 0 := by omega
  unfold Op.shift
  rw [if_neg hn]
  simp only [IntKind.bits]
  rw [IntKind.wrap_i64]
  simp [go_sem, wrap64]

theorem lift_impl {b g : Int} (hb0 : 0 ≤ b) (hb1 : b ≤ 4294967295) (h0 : 0 < g) :
    bits .or .i64 (bits .and .i64 (wrap64 (b * 2 ^ min g.toNat 64)) 4294967295) 1 = lift b g := by
  by_cases h : g < 32
  · rw [show min g.toNat 64 = g.toNat by omega]
    obtain ⟨B, rfl⟩ := Int.eq_ofNat_of_zero_le hb0
    unfold lift
    rw [pow_cast]
    have e1 : 2 ^ g.toNat ≤ 2 ^ 31 := Nat.pow_le_pow_right (by omega) (by omega)
    have e2 : 2 ^ g.toNat = 2 ^ (g.toNat - 1) * 2 := by rw [← Nat.pow_succ]; congr 1; omega
    generalize 2 ^ (g.toNat - 1) = q at *
    generalize 2 ^ g.toNat = p at *
    subst e2
    have e3 : B * (q * 2) < 9223372036854775808 := Nat.lt_of_le_of_lt (Nat.mul_le_mul (show B ≤ 4294967295 by omega) e1) (by decide)
    have e4 : ((B : Int) * ((q * 2 : Nat) : Int)) = ((B * (q * 2) : Nat) : Int) := by simp
    have e5 : B * (q * 2) % 2 = 0 := by rw [← Nat.mul_assoc]; omega
    rw [e4]
    generalize B * (q * 2) = m at *
    have e6 : wrap64 (m : Int) = (m : Int) := by unfold wrap64; omega
    rw [e6, show (1 : Int) = ((1 : Nat) : Int) from rfl, show (4294967295 : Int) = ((4294967295 : Nat) : Int) from rfl, i64_and_nat m _ (by omega) (by omega), nat_mask32, i64_or_nat _ 1 (by omega) (by omega), even_mod m e5]
    omega
  · rw [lift_far (by omega)]
    have key : ∃ q : Int, wrap64 (b * 2 ^ min g.toNat 64) = 4294967296 * q := by
      have e : (2 : Int) ^ min g.toNat 64 = 4294967296 * 2 ^ (min g.toNat 64 - 32) := by
        rw [show (4294967296 : Int) = 2 ^ 32 from rfl, ← Int.pow_add]; congr 1; omega
      rw [e, Int.mul_left_comm]
      generalize b * 2 ^ (min g.toNat 64 - 32) = z
      refine ⟨wrap64 (4294967296 * z) / 4294967296, ?_⟩
      unfold wrap64
      omega
    obtain ⟨q, hq⟩ := key
    rw [hq]
    have e0 : bits .and .i64 (4294967296 * q) 4294967295 = 0 := by
      show IntKind.i64.wrap ((BitVec.ofInt 64 (4294967296 * q) &&& BitVec.ofInt 64 4294967295).toNat : Int) = _
      have k : (BitVec.ofInt 64 4294967295).toNat = 4294967295 := by decide
      rw [BitVec.toNat_and, k, nat_mask32, BitVec.toNat_ofInt, IntKind.wrap_i64]
      omega
    rw [e0]
    decide

theorem risen_any (t b n : Int) (w : World) (h0 : 0 ≤ n - t) (h1 : n - t ≤ 9223372036854775807) :
    Calls Try.prog 27 #[.agg #[.int .i64 t, .int .i64 b], .int .i64 n] w fun e w' => e = .returned (.agg #[.int .i64 n, .int .i64 (bits .or .i64 (bits .and .i64 (wrap64 (b * 2 ^ min (n - t).toNat 64)) 4294967295) 1)]) ∧
      w' = (w.alloc (.cells #[.int .i64 t, .int .i64 b] 25)).alloc (.cells #[.int .i64 n, .int .i64 (bits .or .i64 (bits .and .i64 (wrap64 (b * 2 ^ min (n - t).toNat 64)) 4294967295) 1)] 25) := by
  have hs := fun w => shl_run b (n - t) h0 w
  generalize wrap64 (b * 2 ^ min (n - t).toNat 64) = z at *
  go_enter Try.func27, Try.ntmps27
  go_wp2
  exact bodyPost_ret (v := .agg #[.int .i64 n, .int .i64 (bits .or .i64 (bits .and .i64 z 4294967295) 1)]) (by simp [results, Try.results27, go_sem]) rfl ⟨rfl, rfl⟩

set_option maxHeartbeats 1000000 in
theorem implTaken_any (t b n : Int) (w : World) :
    Calls Try.prog 8 #[.agg #[.int .i64 t, .int .i64 b], .int .i64 n] w fun e w' => e = .returned (.tuple #[.agg #[.int .i64 (tak t b n).1, .int .i64 (tak t b n).2.1], .bool (tak t b n).2.2]) ∧ Below w.heap.size w w' := by
  have hz : ∀ w : World, Calls Try.prog 11 #[.agg #[.int .i64 t, .int .i64 b]] w fun e w' => e = .returned (.bool (okW t b)) ∧ w' = w.alloc (.cells #[.int .i64 t, .int .i64 b] 25) := fun w => implOk_any t b w
  have hy : ∀ w : World, Calls Try.prog 26 #[.int .i64 n] w fun e w' => e = .returned (.bool (inB n 0 1099511627776)) ∧ w' = w := fun w => isNonce_any n w
  have LL : ∀ u v u', Below w.heap.size w (((w.alloc u).alloc v).alloc u') := fun u v u' => (((Below.refl _ w).alloc (Nat.le_refl _) u).alloc (by simp) v).alloc (by simp; omega) u'
  have LM : ∀ u v u' x y, Below w.heap.size w (((((w.alloc u).alloc v).alloc u').alloc x).alloc y) := fun u v u' x y => ((LL u v u').alloc (by simp; omega) x).alloc (by simp; omega) y
  by_cases h1 : okW t b = true
  · by_cases h2 : inB n 0 1099511627776 = true
    · rw [h1] at hz
      rw [h2] at hy
      have ET : Hid (tak t b n = if b = 0 then (n, 1, true)
        else if t < n then (n, lift b (n - t), true)
        else if 32 ≤ t - n ∨ (b / 2 ^ (t - n).toNat).tmod 2 = 1 then (t, b, false)
        else (t, bits .or .i64 b (wrap64 (2 ^ (t - n).toNat)), true)) := by show tak t b n = _; unfold tak; rw [if_pos ⟨h1, h2⟩]
      obtain ⟨ht0, ht1, hb0, hb1⟩ := okW_facts h1
      obtain ⟨hn0, hn1⟩ := inB_facts h2
      have T0 : Hid (b = 0 → t = 0) := fun hb => by
        subst hb
        simp only [okW, Bool.and_eq_true, Bool.or_eq_true, beq_iff_eq] at h1
        rcases h1.2 with h | h
        · simp at h
        · exact h.1
      clear h1 h2
      by_cases hb : b = 0
      · have ht := T0.out hb
        subst ht hb
        have e := ET.out
        rw [if_pos rfl] at e
        rw [e]
        clear e ET
        have hr := fun w => risen_any 0 0 n w (by omega) (by omega)
        simp only [Int.sub_zero] at hr
        rw [show bits .or .i64 (bits .and .i64 (wrap64 (0 * 2 ^ min n.toNat 64)) 4294967295) 1 = 1 by rw [Int.zero_mul]; decide +kernel] at hr
        go_enter Try.func8, Try.ntmps8
        go_wp2_with (first | (go_at_call 11; refine (hz _).mono ?_; rintro e w' ⟨rfl, rfl⟩) | (go_at_call 26; refine (hy _).mono ?_; rintro e w' ⟨rfl, rfl⟩) | (go_at_call 27; refine (hr _).mono ?_; rintro e w' ⟨rfl, rfl⟩))
        exact bodyPost_ret (v := .tuple #[.agg #[.int .i64 n, .int .i64 1], .bool true]) (by simp [results, Try.results8, go_sem]) rfl ⟨rfl, LM _ _ _ _ _⟩
      · by_cases hg : t < n
        · have e := ET.out
          rw [if_neg hb, if_pos hg] at e
          rw [e]
          clear e ET
          have hr := fun w => risen_any t b n w (by omega) (by omega)
          rw [lift_impl hb0 hb1 (by omega)] at hr
          generalize lift b (n - t) = z at *
          go_enter Try.func8, Try.ntmps8
          go_wp2_with (first | (go_at_call 11; refine (hz _).mono ?_; rintro e w' ⟨rfl, rfl⟩) | (go_at_call 26; refine (hy _).mono ?_; rintro e w' ⟨rfl, rfl⟩) | (go_at_call 27; refine (hr _).mono ?_; rintro e w' ⟨rfl, rfl⟩))
          exact bodyPost_ret (v := .tuple #[.agg #[.int .i64 n, .int .i64 z], .bool true]) (by simp [results, Try.results8, go_sem]) rfl ⟨rfl, LM _ _ _ _ _⟩
        · have hg' : n ≤ t := by omega
          have hq := and_one (b / 2 ^ (t - n).toNat) (Int.ediv_nonneg hb0 (Int.le_of_lt (Int.pow_pos (by decide)))) (Int.lt_of_le_of_lt (Int.ediv_le_self _ hb0) (by omega))
          have HQ := hid hq
          clear hq
          have e := ET.out
          rw [if_neg hb, if_neg hg] at e
          clear ET
          generalize tak t b n = T at *
          have ET := hid e
          clear e
          go_enter Try.func8, Try.ntmps8
          go_wp2_with (first | (go_at_call 11; refine (hz _).mono ?_; rintro e w' ⟨rfl, rfl⟩) | (go_at_call 26; refine (hy _).mono ?_; rintro e w' ⟨rfl, rfl⟩))
          · have h := ‹(b == 0) = true ∨ t < n›
            exfalso
            rcases h with h | h
            · exact hb (by simpa using h)
            · omega
          · rename_i h1 h2 h3
            have e := ET.out
            rw [← HQ.out, if_pos (h3.imp id (by simp))] at e
            subst e
            exact bodyPost_ret (v := .tuple #[.agg #[.int .i64 t, .int .i64 b], .bool false]) (by simp [results, Try.results8, go_sem]) rfl ⟨rfl, LL _ _ _⟩
          · have h3 := ‹t - n < 32 ∧ (bits BinOp.and IntKind.i64 (b / 2 ^ (t - n).toNat) 1 == 1) = false›
            have e := ET.out
            rw [← HQ.out, if_neg (by have := h3.2; simp at this; omega)] at e
            subst e
            go_region
            go_wp2
            refine bodyPost_ret (v := .tuple #[.agg #[.int .i64 t, .int .i64 (bits BinOp.or IntKind.i64 b (wrap64 (2 ^ (t - n).toNat)))], .bool true]) (by simp [results, Try.results8, go_sem]) rfl ⟨rfl, ?_⟩
            exact (LL _ _ _).drew
          · rename_i h1 h2
            have e := ET.out
            rw [if_pos (.inl h2)] at e
            subst e
            exact bodyPost_ret (v := .tuple #[.agg #[.int .i64 t, .int .i64 b], .bool false]) (by simp [results, Try.results8, go_sem]) rfl ⟨rfl, LL _ _ _⟩
    · have e : tak t b n = (0, 0, false) := by unfold tak; rw [if_neg (fun h => h2 h.2)]
      rw [h1] at hz
      rw [show inB n 0 1099511627776 = false by simpa using h2] at hy
      clear h1 h2
      rw [e]
      clear e
      go_enter Try.func8, Try.ntmps8
      go_wp2_with (first | (go_at_call 11; refine (hz _).mono ?_; rintro e w' ⟨rfl, rfl⟩) | (go_at_call 26; refine (hy _).mono ?_; rintro e w' ⟨rfl, rfl⟩))
      exact bodyPost_ret (v := .tuple #[.agg #[.int .i64 0, .int .i64 0], .bool false]) (by simp [results, Try.results8, go_sem]) rfl ⟨rfl, LL _ _ _⟩
  · have e : tak t b n = (0, 0, false) := by unfold tak; rw [if_neg (fun h => h1 h.1)]
    rw [show okW t b = false by simpa using h1] at hz
    clear h1 hy
    rw [e]
    clear e
    go_enter Try.func8, Try.ntmps8
    go_wp2_with (go_at_call 11; refine (hz _).mono ?_; rintro e w' ⟨rfl, rfl⟩)
    exact bodyPost_ret (v := .tuple #[.agg #[.int .i64 0, .int .i64 0], .bool false]) (by simp [results, Try.results8, go_sem]) rfl ⟨rfl, LL _ _ _⟩
end Go.Proofs.Ytlkaknabmpdakaa
