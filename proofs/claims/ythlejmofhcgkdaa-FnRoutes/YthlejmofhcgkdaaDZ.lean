/- FnRoutes, its walk. -/
import Derived.Test.YthlejmofhcgkdaaDY
namespace Go.Proofs.Ythlejmofhcgkdaa
open Go Go.RowKit Go.Deep Go.Maps Go.BigFrame

/-- a right route has just the addresses from its net on -/
theorem hasR_in {f g h : Nat → Int} {t : Int} {i b : Nat} (hr : rOk (f i) (g i) (h i) = true) (hg : g i = (b : Int)) : hasR f g t i ↔ f i ≤ t ∧ t < f i + 2 ^ (32 - b) := by
  rw [hasR_net hr hg]
  unfold netU
  obtain ⟨_, hm⟩ := rOk_is hr
  rw [hg] at hm
  have e : (32 - (b : Int)).toNat = 32 - b := by omega
  rw [e] at hm
  have hp : (0 : Int) < 2 ^ (32 - b) := Int.pow_pos (by decide)
  generalize (2 : Int) ^ (32 - b) = q at *
  have d := Int.emod_add_mul_ediv (f i) q
  have d2 := Int.emod_add_mul_ediv t q
  have m1 := Int.emod_nonneg t (show q ≠ 0 by omega)
  have m2 := Int.emod_lt_of_pos t hp
  rw [hm, Int.zero_add] at d
  constructor
  · intro e
    rw [Int.mul_comm] at e
    omega
  · rintro ⟨h1, h2⟩
    have : t / q = f i / q := by
      have l1 : q * (f i / q) ≤ q * (t / q) + t % q := by omega
      have l2 : q * (t / q) + t % q < q * (f i / q) + q := by omega
      have a1 : ¬ t / q < f i / q := fun c => by
        have := Int.mul_le_mul_of_nonneg_left (show t / q + 1 ≤ f i / q by omega) (Int.le_of_lt hp)
        rw [Int.mul_add, Int.mul_one] at this
        omega
      have a2 : ¬ f i / q < t / q := fun c => by
        have := Int.mul_le_mul_of_nonneg_left (show f i / q + 1 ≤ t / q by omega) (Int.le_of_lt hp)
        rw [Int.mul_add, Int.mul_one] at this
        omega
      omega
    rw [this, Int.mul_comm]
    exact d.symm
theorem best_pos {f g h : Nat → Int} {t : Int} {n : Nat} (ho : rtsOk n f g h = true) : 0 ≤ (best f g h t n).2 := by
  rcases best_is (f := f) (g := g) (h := h) (t := t) n with e | ⟨i, hi, _, e⟩
  · rw [e]; exact Int.le_refl _
  · rw [e]
    obtain ⟨⟨_, _, _, _, z0, _⟩, _⟩ := rOk_is (rts_at ho hi)
    show 0 ≤ h i
    omega

set_option maxRecDepth 100000 in
set_option maxHeartbeats 4000000 in
theorem routes_walk (a : Option Addr) (n cap : Nat) (w : World) (hb : BytesAt w a n) : Calls Try.prog 3 #[.slice a n cap] w fun e w' => e = .returned (.bool true) ∧ Below w.heap.size w w' := by
  by_cases hn : n ≤ 1048576
  · have hn' : decide (1048576 < n) = false := decide_eq_false (by omega)
    have P6 := hid (drawPort_any a n cap w hn hb)
    clear hb
    go_enter Try.func3, Try.ntmps3
    go_wp2_with (first
      | (go_at_call 5; refine (big_any a n cap _).mono ?_; rintro e w1 ⟨rfl, hw1⟩; subst w1)
      | (go_at_call 6; refine P6.out.mono ?_; rintro e w1 ⟨X, bb, c, t, rfl, hX, hR, hc, c1⟩))
    clear P6
    have hXm : X.length ≤ maxLen := by unfold maxLen; omega
    have P7 := hid (fun W (hW : Below w1.heap.size w1 W) => implPort_any (some ⟨bb, 0, none⟩) X.length c _ _ _ t W hXm (RtsAt.below hR hW))
    have P8 := hid (fun W (hW : Below w1.heap.size w1 W) => specPort_any (some ⟨bb, 0, none⟩) X.length c _ _ _ t W hXm (RtsAt.below hR hW))
    have HR : Hid (RtsAt w1 (some ⟨bb, 0, none⟩) X.length (fun i => (at3 X i).1) (fun i => (at3 X i).2.1) (fun i => (at3 X i).2.2)) := hR
    have HC1 := hid c1
    clear hR c1
    generalize (fun i => (at3 X i).1) = f at *
    generalize (fun i => (at3 X i).2.1) = g at *
    generalize (fun i => (at3 X i).2.2) = h at *
    generalize X.length = m at *
    cases ho : (rtsOk m f g h && isA t) with
    | false =>
      have e : portR m f g h t = -1 := by rw [portR, if_neg (by rw [ho]; decide)]
      rw [e] at P7 P8
      clear e ho HR
      refine (P7.out _ (Below.refl _ _)).mono ?_
      rintro e w2 ⟨rfl, h2⟩
      go_wp2_with (first
        | (go_at_call 8; have mk' := mk; refine (P8.out _ b3.out).mono ?_; rintro e w4 ⟨rfl, h4⟩; have b4 := hid (then_ b3.out h4))
        | (go_at_call 8; refine (P8.out _ h2).mono ?_; rintro e w3 ⟨rfl, h3⟩; have b3 := hid (then_ h2 h3); have mk : True := trivial))
      go_ret
      exact ⟨rfl, then_ HC1.out b4.out⟩
    | true =>
      have e : portR m f g h t = (best f g h t m).2 := by rw [portR, if_pos ho]
      rw [e] at P7 P8
      clear e
      rw [Bool.and_eq_true, isA, decide_eq_true_eq] at ho
      obtain ⟨ho, t0, t1⟩ := ho
      have hp := best_pos (t := t) ho
      have HO := hid ho
      have BS : Hid (∀ k, best f g h t (k + 1) = if hasR f g t k ∧ (best f g h t k).1 < g k then (g k, h k) else best f g h t k) := fun k => rfl
      have hp' : ¬ (best f g h t m).2 < 0 := by omega
      refine (P7.out _ (Below.refl _ _)).mono ?_
      rintro e w2 ⟨rfl, h2⟩
      generalize hPP : (best f g h t m).2 = PP at *
      have HPP := hid hPP
      have hpd : decide (PP < 0) = false := decide_eq_false hp'
      clear ho hPP hp hp'
      go_wp2_with (go_at_call 8; refine (P8.out _ h2).mono ?_; rintro e w3 ⟨rfl, h3⟩; have b3 := hid (then_ h2 h3))
      clear P7 P8 h3 h2
      go_loopw [6, 7, 8] (fun b p i wr => ∃ k : Nat, k ≤ m ∧ i = .int .i64 k ∧ b = .int .i64 (best f g h t k).1 ∧ p = .int .i64 (best f g h t k).2 ∧ Below w1.heap.size w1 wr) (fun _ _ i _ => m - (intOf i).toNat)
      case atStart => exact ⟨0, Nat.zero_le _, rfl, rfl, rfl, b3.out⟩
      case round =>
        obtain ⟨k, hk, rfl, rfl, rfl, hB⟩ := hrel
        by_cases hlt' : k < m
        · obtain ⟨b, off, e, hlt, hcc⟩ := HR.out (by omega)
          obtain ⟨d1, d2, d3⟩ := hcc k hlt'
          obtain ⟨rfl, rfl⟩ : b = bb ∧ off = 0 := by have := Option.some.inj e; simp only [Addr.mk.injEq] at this; exact ⟨this.1.symm, this.2.1.symm⟩
          clear e
          have hr := rts_at HO.out hlt'
          obtain ⟨⟨y0, y1, x0, x1, z0, z1⟩, _⟩ := rOk_is hr
          obtain ⟨β, hβ⟩ : ∃ β : Nat, g k = (β : Int) := ⟨(g k).toNat, by omega⟩
          have IN := hid (hasR_in (t := t) hr hβ)
          have b32 : β ≤ 32 := by omega
          have BK := hid (BS.out k)
          rw [hβ] at d2 BK
          have zz : b < wr.heap.size := Nat.lt_of_lt_of_le hlt hB.size
          simp only [Nat.zero_add] at d1 d2 d3
          have u1 := up_cell zz ((hB.cell (p := ⟨b, _, none⟩) hlt).trans d1)
          have u2 := up_cell zz ((hB.cell (p := ⟨b, _, none⟩) hlt).trans d2)
          have u3 := up_cell zz ((hB.cell (p := ⟨b, _, none⟩) hlt).trans d3)
          clear d1 d2 d3 hcc HR
          have i1 : (k : Int) < (m : Int) := by omega
          obtain ⟨p1, p2⟩ := pow_small (32 - β) (by omega)
          have s1 : (32 - (β : Int)).toNat = 32 - β := by omega
          by_cases ca : f k ≤ t
          · have da : decide (f k ≤ t) = true := decide_eq_true ca
            by_cases cb : t < f k + 2 ^ (32 - β)
            · have db : decide (t < f k + 2 ^ (32 - β)) = true := decide_eq_true cb
              by_cases cc : (best f g h t k).1 < (β : Int)
              · have dc : decide ((best f g h t k).1 < (β : Int)) = true := decide_eq_true cc
                have YES := hid (show hasR f g t k ∧ (best f g h t k).1 < (β : Int) from ⟨IN.out.2 ⟨ca, cb⟩, cc⟩)
                go_wp2
                refine wp_region_quiet_up (by kernel_rfl) (by kernel_rfl) ?_
                repeat (go_big_quiet_step (fail))
                refine wpQuiet_nil ?_
                rintro _ ⟨p, rfl⟩
                have v1 := u1 p
                have v2 := u2 p
                have v3 := u3 p
                go_wp2
                exact ⟨⟨k + 1, by omega, rfl, by rw [BK.out, if_pos YES.out], by rw [BK.out, if_pos YES.out], then_ hB p.h⟩, by simp [intOf]; omega⟩
              · have dc : decide ((best f g h t k).1 < (β : Int)) = false := decide_eq_false cc
                have NO : Hid (¬ (hasR f g t k ∧ (best f g h t k).1 < (β : Int))) := fun q => cc q.2
                go_wp2
                refine wp_region_quiet_up (by kernel_rfl) (by kernel_rfl) ?_
                repeat (go_big_quiet_step (fail))
                refine wpQuiet_nil ?_
                rintro _ ⟨p, rfl⟩
                have v1 := u1 p
                have v2 := u2 p
                have v3 := u3 p
                go_wp2
                exact ⟨⟨k + 1, by omega, rfl, by rw [BK.out, if_neg (fun q => NO.out q)], by rw [BK.out, if_neg (fun q => NO.out q)], then_ hB p.h⟩, by simp [intOf]; omega⟩
            · have db : decide (t < f k + 2 ^ (32 - β)) = false := decide_eq_false cb
              have NO : Hid (¬ (hasR f g t k ∧ (best f g h t k).1 < (β : Int))) := fun z => cb (IN.out.1 z.1).2
              go_wp2
              refine wp_region_quiet_up (by kernel_rfl) (by kernel_rfl) ?_
              repeat (go_big_quiet_step (fail))
              refine wpQuiet_nil ?_
              rintro _ ⟨p, rfl⟩
              have v1 := u1 p
              have v2 := u2 p
              have v3 := u3 p
              go_wp2
              exact ⟨⟨k + 1, by omega, rfl, by rw [BK.out, if_neg (fun q => NO.out q)], by rw [BK.out, if_neg (fun q => NO.out q)], then_ hB p.h⟩, by simp [intOf]; omega⟩
          · have da : decide (f k ≤ t) = false := decide_eq_false ca
            have NO : Hid (¬ (hasR f g t k ∧ (best f g h t k).1 < (β : Int))) := fun z => ca (IN.out.1 z.1).1
            go_wp2
            refine wp_region_quiet_up (by kernel_rfl) (by kernel_rfl) ?_
            repeat (go_big_quiet_step (fail))
            refine wpQuiet_nil ?_
            rintro _ ⟨p, rfl⟩
            have v1 := u1 p
            have v2 := u2 p
            have v3 := u3 p
            go_wp2
            exact ⟨⟨k + 1, by omega, rfl, by rw [BK.out, if_neg (fun q => NO.out q)], by rw [BK.out, if_neg (fun q => NO.out q)], then_ hB p.h⟩, by simp [intOf]; omega⟩
        · have ek : k = m := by omega
          subst ek
          have hpp := HPP.out
          go_wp2
          go_ret
          exact ⟨by rw [hpp]; simp, then_ HC1.out hB⟩
  · have hn' : decide (1048576 < n) = true := decide_eq_true (by omega)
    clear hb
    go_enter Try.func3, Try.ntmps3
    go_wp2_with (go_at_call 5; refine (big_any a n cap _).mono ?_; rintro e w1 ⟨rfl, hw1⟩; subst w1)
    go_ret
    exact ⟨rfl, Below.refl _ _⟩
end Go.Proofs.Ythlejmofhcgkdaa
