/- Windows: what is taken stays so, plainly. -/
import Derived.Test.YtlkaknabmpdakaaWNB2
namespace Go.Proofs.Ytlkaknabmpdakaa
open Go.RowKit

/-- bit j of a number -/
theorem bit_int (b j : Nat) : (((b : Int) / 2 ^ j).tmod 2 = 1) ↔ b.testBit j = true := by
  have e : (b : Int) / 2 ^ j = ((b / 2 ^ j : Nat) : Int) := by simp
  rw [e, Int.tmod_eq_emod_of_nonneg (Int.natCast_nonneg _), Nat.testBit_eq_decide_div_mod_eq, decide_eq_true_eq]
  generalize b / 2 ^ j = q
  omega

/-- a number above the top: bit j of the new window is bit j - g of the old one -/
theorem lift_bit (b g j : Nat) (hg : 1 ≤ g) (hj : g ≤ j) (hj2 : j < 32) : ((b * 2 ^ g) % 4294967296 + 1).testBit j = b.testBit (j - g) := by
  have e1 : (b * 2 ^ g) % 4294967296 % 2 = 0 := by
    have : 2 ^ g = 2 ^ (g - 1) * 2 := by rw [← Nat.pow_succ]; congr 1; omega
    rw [this, ← Nat.mul_assoc]
    omega
  have e2 : ((b * 2 ^ g) % 4294967296 + 1) = ((b * 2 ^ g) % 4294967296 ||| 1) := (nat_join 1 _ 1 (by omega) (by omega)).symm
  rw [e2, Nat.testBit_or, show (4294967296 : Nat) = 2 ^ 32 from rfl, Nat.testBit_mod_two_pow, Nat.testBit_mul_two_pow]
  have e3 : (1 : Nat).testBit j = false := by
    cases h : (1 : Nat).testBit j with
    | false => rfl
    | true => have := Nat.testBit_one_eq_true_iff_self_eq_zero.1 h; omega
  simp [hj, hj2, e3]
theorem or_val (b i : Nat) (hi : i < 32) (hb : b < 4294967296) : (bits .or .i64 (b : Int) (wrap64 (2 ^ i))) = ((b ||| 2 ^ i : Nat) : Int) ∧ (b ||| 2 ^ i) < 4294967296 := by
  have e1 : 2 ^ i < 2 ^ 32 := Nat.pow_lt_pow_right (by omega) hi
  have e2 : (2 : Int) ^ i = ((2 ^ i : Nat) : Int) := by simp
  rw [e2]
  generalize 2 ^ i = p at *
  have e3 : wrap64 (p : Int) = (p : Int) := by unfold wrap64; omega
  rw [e3, i64_or_nat b p (by omega) (by omega)]
  exact ⟨rfl, Nat.or_lt_two_pow (n := 32) (by omega) e1⟩

/-- was n taken? -/
def got (t b n : Int) : Bool := (tak t b n).2.2

theorem tak_right {t b n : Int} (h1 : okW t b = true) (h2 : inB n 0 1099511627776 = true) : tak t b n = if b = 0 then (n, 1, true)
    else if t < n then (n, lift b (n - t), true)
    else if 32 ≤ t - n ∨ (b / 2 ^ (t - n).toNat).tmod 2 = 1 then (t, b, false)
    else (t, bits .or .i64 b (wrap64 (2 ^ (t - n).toNat)), true) := by unfold tak; rw [if_pos ⟨h1, h2⟩]

theorem okW_odd {t b : Int} (ht0 : 0 ≤ t) (ht1 : t ≤ 1099511627776) (hb0 : 0 ≤ b) (hb1 : b ≤ 4294967295) (ho : b % 2 = 1) : okW t b = true := by
  have e : b.tmod 2 = 1 := by rw [Int.tmod_eq_emod_of_nonneg hb0]; exact ho
  simp [okW, inB, e, ht0, ht1, hb0, hb1]
theorem okW_bit {t b : Int} (h : okW t b = true) (hb : b ≠ 0) : b % 2 = 1 := by
  obtain ⟨_, _, h0, _⟩ := okW_facts h
  simp only [okW, Bool.and_eq_true, Bool.or_eq_true, beq_iff_eq] at h
  rcases h.2 with h | h
  · rw [Int.tmod_eq_emod_of_nonneg h0] at h; exact h
  · exact absurd h.2 hb

/-- where n is not taken the window stays, and n is not above it -/
theorem tak_not {t b n : Int} (h1 : okW t b = true) (h2 : inB n 0 1099511627776 = true) (h : (tak t b n).2.2 = false) : (tak t b n).1 = t ∧ (tak t b n).2.1 = b ∧ n ≤ t := by
  rw [tak_right h1 h2] at h ⊢
  by_cases c1 : b = 0
  · simp [c1] at h
  · by_cases c2 : t < n
    · simp [c1, c2] at h
    · by_cases c3 : 32 ≤ t - n ∨ (b / 2 ^ (t - n).toNat).tmod 2 = 1
      · simp only [c1, c2, c3, if_true, if_false]
        refine ⟨trivial, trivial, by omega⟩
      · simp [c1, c2, c3] at h

theorem got_iff {t b m : Int} (h1 : okW t b = true) (h2 : inB m 0 1099511627776 = true) :
    (tak t b m).2.2 = true ↔ (b = 0 ∨ t < m ∨ (¬ 32 ≤ t - m ∧ ¬ (b / 2 ^ (t - m).toNat).tmod 2 = 1)) := by
  rw [tak_right h1 h2]
  by_cases c1 : b = 0
  · simp [c1]
  · by_cases c2 : t < m
    · simp [c1, c2]
    · by_cases c3 : 32 ≤ t - m ∨ (b / 2 ^ (t - m).toNat).tmod 2 = 1
      · simp only [c1, c2, c3, if_true, if_false, false_or]
        constructor
        · intro h; cases h
        · intro h; rcases c3 with c | c
          · exact absurd c h.1
          · exact absurd c h.2
      · simp only [c1, c2, c3, if_false, false_or, true_iff]
        exact ⟨fun c => c3 (.inl c), fun c => c3 (.inr c)⟩

/-- what taking n makes of a right window -/
structure Took (t b n t' b' : Int) : Prop where
  ok : okW t' b' = true
  top : t' = max n t
  near : t - 32 < n
  once : (tak t' b' n).2.2 = false
  stays : ∀ m : Int, 0 ≤ m → m ≤ t → (tak t' b' m).2.2 = true → (tak t b m).2.2 = true

theorem inB_of {m t : Int} (h0 : 0 ≤ m) (h1 : m ≤ t) (h2 : t ≤ 1099511627776) : inB m 0 1099511627776 = true := by
  simp [inB, h0]; omega

theorem took {t b n : Int} (h1 : okW t b = true) (h2 : inB n 0 1099511627776 = true) (h : (tak t b n).2.2 = true) : Took t b n (tak t b n).1 (tak t b n).2.1 := by
  obtain ⟨ht0, ht1, hb0, hb1⟩ := okW_facts h1
  obtain ⟨hn0, hn1⟩ := inB_facts h2
  by_cases c1 : b = 0
  · have ht : t = 0 := by
      subst c1
      simp only [okW, Bool.and_eq_true, Bool.or_eq_true, beq_iff_eq] at h1
      rcases h1.2 with h | h
      · simp at h
      · exact h.1
    have e := tak_right h1 h2
    rw [if_pos c1] at e
    rw [e]
    have ok : okW n 1 = true := okW_odd hn0 hn1 (by omega) (by omega) (by omega)
    refine ⟨ok, by omega, by omega, ?_, fun m m0 mt hm => ?_⟩
    · cases hc : (tak n 1 n).2.2 with
      | false => rfl
      | true =>
        rcases (got_iff ok h2).1 hc with c | c | c
        · omega
        · omega
        · exact absurd (by rw [show (n - n).toNat = 0 by omega]; decide) c.2
    · exact (got_iff h1 (inB_of m0 mt ht1)).2 (.inl c1)
  · obtain ⟨B, rfl⟩ := Int.eq_ofNat_of_zero_le hb0
    have hodd := okW_bit h1 c1
    by_cases c2 : t < n
    · have e := tak_right h1 h2
      rw [if_neg c1, if_pos c2] at e
      rw [e]
      obtain ⟨g, hg⟩ : ∃ g : Nat, n - t = (g : Int) := ⟨(n - t).toNat, by omega⟩
      have hg1 : 1 ≤ g := by omega
      have el : lift (B : Int) (n - t) = (((B * 2 ^ g) % 4294967296 + 1 : Nat) : Int) := by
        unfold lift
        rw [hg, show ((g : Nat) : Int).toNat = g from rfl]
        simp
      have ev : (B * 2 ^ g) % 4294967296 % 2 = 0 := by
        have : 2 ^ g = 2 ^ (g - 1) * 2 := by rw [← Nat.pow_succ]; congr 1; omega
        rw [this, ← Nat.mul_assoc]
        omega
      have hbit := fun j => lift_bit B g j hg1
      rw [el]
      generalize hL : (B * 2 ^ g) % 4294967296 + 1 = L at *
      have hLs : L ≤ 4294967295 := by omega
      have hLo : L % 2 = 1 := by omega
      have ok : okW n (L : Int) = true := okW_odd hn0 hn1 (by omega) (by omega) (by omega)
      refine ⟨ok, by omega, by omega, ?_, fun m m0 mt hm => ?_⟩
      · cases hc : (tak n L n).2.2 with
        | false => rfl
        | true =>
          rcases (got_iff ok h2).1 hc with c | c | c
          · omega
          · omega
          · refine absurd ?_ c.2
            rw [show (n - n).toNat = 0 by omega, Int.pow_zero, Int.ediv_one, Int.tmod_eq_emod_of_nonneg (by omega)]
            omega
      · rcases (got_iff ok (inB_of m0 (by omega) hn1)).1 hm with c | c | c
        · omega
        · omega
        · obtain ⟨j, hj⟩ : ∃ j : Nat, n - m = (j : Int) := ⟨(n - m).toNat, by omega⟩
          refine (got_iff h1 (inB_of m0 mt ht1)).2 (.inr (.inr ⟨by omega, fun k => c.2 ?_⟩))
          rw [show (n - m).toNat = j by omega, bit_int, hbit j (by omega) (by omega)]
          rw [show (t - m).toNat = j - g by omega, bit_int] at k
          exact k
    · have hc := (got_iff h1 h2).1 h
      obtain ⟨hd, hz⟩ : ¬ 32 ≤ t - n ∧ ¬ ((B : Int) / 2 ^ (t - n).toNat).tmod 2 = 1 := by
        rcases hc with c | c | c
        · exact absurd c c1
        · exact absurd c c2
        · exact c
      have e := tak_right h1 h2
      rw [if_neg c1, if_neg c2, if_neg (fun c => c.elim hd hz)] at e
      rw [e]
      obtain ⟨i, hi⟩ : ∃ i : Nat, t - n = (i : Int) := ⟨(t - n).toNat, by omega⟩
      have ei : (t - n).toNat = i := by omega
      obtain ⟨ev, lt⟩ := or_val B i (by omega) (by omega)
      rw [ei, ev]
      have hbits := fun j => Nat.testBit_or B (2 ^ i) j
      have hodd' : (B ||| 2 ^ i) % 2 = 1 := by
        have hb0' : B.testBit 0 = true := by rw [Nat.testBit_zero]; simp; omega
        have := hbits 0
        rw [hb0', Bool.true_or, Nat.testBit_zero] at this
        simpa using this
      have hself : (B ||| 2 ^ i).testBit i = true := by rw [hbits i, Nat.testBit_two_pow_self, Bool.or_true]
      generalize B ||| 2 ^ i = L at *
      have ok : okW t (L : Int) = true := okW_odd ht0 ht1 (by omega) (by omega) (by omega)
      refine ⟨ok, by omega, by omega, ?_, fun m m0 mt hm => ?_⟩
      · cases hc : (tak t L n).2.2 with
        | false => rfl
        | true =>
          rcases (got_iff ok h2).1 hc with c | c | c
          · omega
          · omega
          · exact absurd (by rw [ei, bit_int]; exact hself) c.2
      · rcases (got_iff ok (inB_of m0 mt ht1)).1 hm with c | c | c
        · omega
        · omega
        · refine (got_iff h1 (inB_of m0 mt ht1)).2 (.inr (.inr ⟨c.1, fun k => c.2 ?_⟩))
          rw [bit_int] at k ⊢
          rw [hbits, k, Bool.true_or]
end Go.Proofs.Ytlkaknabmpdakaa
