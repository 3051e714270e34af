/- PacketText of the program: the text told plainly. -/
import Derived.Test.YtaefebcfgcnhlaaNPA
import Derived.Deep.RegionHeld3
namespace Go.Proofs.Ytaefebcfgcnhlaa
open Go Go.RowKit Go.Deep Go.Maps

set_option maxRecDepth 100000 in
set_option maxHeartbeats 2000000 in
theorem implText_any (f t k : Int) (B : List UInt8) (w : World) :
    Calls Try.prog 8 #[.agg #[.int .i64 f, .int .i64 t, .int .i64 k, .string ⟨B.toArray⟩]] w fun e w' => e = .returned (.string ⟨(ptext f t k B).toArray⟩) ∧ Below w.heap.size w w' := by
  have A0 := Blk.new w (.cells #[.int .i64 f, .int .i64 t, .int .i64 k, .string ⟨B.toArray⟩] 25)
  have L0 := (Below.refl _ w).alloc (Nat.le_refl _) (.cells #[.int .i64 f, .int .i64 t, .int .i64 k, .string ⟨B.toArray⟩] 25)
  have hok := fun v => packetOk_any f t k B v
  have zz : w.heap.size < (w.alloc (.cells #[.int .i64 f, .int .i64 t, .int .i64 k, .string ⟨B.toArray⟩] 25)).heap.size := A0.lt
  by_cases h : pOk f t k B = true
  · have HT : Hid (ptext f t k B = headL k B ++ bigL ((cks ⟨(headL k B ++ tailL f t B).toArray⟩ : Nat) : Int) 2 ++ tailL f t B) := by
      show ptext f t k B = _
      unfold ptext; rw [if_pos h]
    obtain ⟨_, _, _, _, _, _, hl⟩ := pOk_facts h
    rw [h] at hok
    clear h
    have hs1 := fun v : World => implSum_any ⟨(headL k B ++ tailL f t B).toArray⟩ v
    have P0 : Hid (∀ v : World, Calls Try.prog 24 #[.int .i64 69, .int .i64 1] v fun e w' => e = .returned (.string ⟨#[69]⟩) ∧ Below v.heap.size v w') := fun v => highFirst_gen 69 1 v (by decide) (by decide)
    have P1 : Hid (∀ v : World, Calls Try.prog 24 #[.int .i64 k, .int .i64 1] v fun e w' => e = .returned (.string ⟨(bigL k 1).toArray⟩) ∧ Below v.heap.size v w') := fun v => highFirst_gen k 1 v (by decide) (by decide)
    have P2 : Hid (∀ v : World, Calls Try.prog 24 #[.int .i64 (B.length : Int), .int .i64 2] v fun e w' => e = .returned (.string ⟨(bigL (B.length : Int) 2).toArray⟩) ∧ Below v.heap.size v w') := fun v => highFirst_gen _ 2 v (by decide) (by decide)
    have P3 : Hid (∀ v : World, Calls Try.prog 24 #[.int .i64 f, .int .i64 4] v fun e w' => e = .returned (.string ⟨(bigL f 4).toArray⟩) ∧ Below v.heap.size v w') := fun v => highFirst_gen f 4 v (by decide) (by decide)
    have P4 : Hid (∀ v : World, Calls Try.prog 24 #[.int .i64 t, .int .i64 4] v fun e w' => e = .returned (.string ⟨(bigL t 4).toArray⟩) ∧ Below v.heap.size v w') := fun v => highFirst_gen t 4 v (by decide) (by decide)
    have P5 : Hid (∀ v : World, Calls Try.prog 24 #[.int .i64 ((cks ⟨(headL k B ++ tailL f t B).toArray⟩ : Nat) : Int), .int .i64 2] v fun e w' => e = .returned (.string ⟨(bigL ((cks ⟨(headL k B ++ tailL f t B).toArray⟩ : Nat) : Int) 2).toArray⟩) ∧ Below v.heap.size v w') := fun v => highFirst_gen _ 2 v (by decide) (by decide)
    have P6 : Hid (∀ v : World, Calls Try.prog 11 #[.string ⟨(headL k B ++ tailL f t B).toArray⟩] v fun e w' => e = .returned (.int .i64 ((cks ⟨(headL k B ++ tailL f t B).toArray⟩ : Nat) : Int)) ∧ w' = v) := fun v => hs1 v (by simp [ByteArray.size, headL_len, tailL_len]; omega)
    have HH : Hid (headL k B = [69] ++ bigL k 1 ++ bigL (B.length : Int) 2) := rfl
    have HT2 : Hid (tailL f t B = bigL f 4 ++ bigL t 4 ++ B) := rfl
    have l1 := Nat.le_of_eq (bigL_len k 1)
    have l2 := Nat.le_of_eq (bigL_len (B.length : Int) 2)
    have l3 := Nat.le_of_eq (bigL_len f 4)
    have l4 := Nat.le_of_eq (bigL_len t 4)
    have l5 := Nat.le_of_eq (bigL_len ((cks ⟨(headL k B ++ tailL f t B).toArray⟩ : Nat) : Int) 2)
    clear hs1
    generalize bigL ((cks ⟨(headL k B ++ tailL f t B).toArray⟩ : Nat) : Int) 2 = D5 at *
    generalize ((cks ⟨(headL k B ++ tailL f t B).toArray⟩ : Nat) : Int) = ck at *
    generalize bigL k 1 = D1 at *
    generalize bigL (B.length : Int) 2 = D2 at *
    generalize bigL f 4 = D3 at *
    generalize bigL t 4 = D4 at *
    generalize headL k B = hd at *
    generalize tailL f t B = tl at *
    generalize ptext f t k B = T at *
    have r1 : ¬ 9223372036854775807 < 1 + D1.length := by omega
    have r2 : ¬ 9223372036854775807 < 1 + D1.length + D2.length := by omega
    have r3 : ¬ 9223372036854775807 < D3.length + D4.length := by omega
    have e6 : ((⟨#[69]⟩ : ByteArray) ++ ⟨D1.toArray⟩ ++ ⟨D2.toArray⟩ ++ (⟨D3.toArray⟩ ++ ⟨D4.toArray⟩ ++ ⟨B.toArray⟩)) = ⟨(hd ++ tl).toArray⟩ := by
      rw [HH.out, HT2.out, show (⟨#[69]⟩ : ByteArray) = ⟨[69].toArray⟩ from rfl]
      simp only [bytes_app]
    rw [← e6] at P6
    clear e6
    have r5 : ¬ 9223372036854775807 < 1 + D1.length + D2.length + D5.length := by omega
    have r6 : ¬ 9223372036854775807 < 1 + D1.length + D2.length + D5.length + (D3.length + D4.length + B.length) := by omega
    have r7 : ¬ 9223372036854775807 < 1 + D1.length + D2.length + (D3.length + D4.length + B.length) := by omega
    have r4 : ¬ 9223372036854775807 < D3.length + D4.length + B.length := by omega
    go_enter Try.func8, Try.ntmps8
    go_wp2_with fail
    generalize w.alloc (.cells #[.int .i64 f, .int .i64 t, .int .i64 k, .string ⟨B.toArray⟩] 25) = V at *
    refine (hok _).mono ?_
    rintro e w1 ⟨rfl, hw1⟩
    have hb1 : Below V.heap.size V w1 := by subst hw1; exact (Below.refl _ _).alloc (Nat.le_refl _) _
    have A1 := A0.below hb1
    have L1 : Below w.heap.size w w1 := L0.trans (hb1.mono (by omega))
    obtain ⟨x0, x1, x2, x3⟩ := A1.four
    have A1d : Blk w1.drew w.heap.size (.cells #[.int .i64 f, .int .i64 t, .int .i64 k, .string ⟨B.toArray⟩] 25) := A1
    clear hw1 hb1 A0 L0 zz hok
    go_wp2_with fail

    go_region_held3 (fun w' => w'.cell? ⟨w.heap.size, 0, none⟩ = some (.int .i64 f) ∧ w'.cell? ⟨w.heap.size, 1, none⟩ = some (.int .i64 t) ∧ w'.cell? ⟨w.heap.size, 2, none⟩ = some (.int .i64 k) ∧ w'.cell? ⟨w.heap.size, 3, none⟩ = some (.string ⟨B.toArray⟩)) (go_keep)
      (first
        | (go_at_call 24; have hq := hb3; refine (P2.out _).mono ?_; rintro e w4 ⟨rfl, hb4⟩; obtain ⟨t0, t1, t2, t3⟩ := (((A1d.below hb2).below hb3).below hb4).four)
        | (go_at_call 24; have hq := hb2; refine (P1.out _).mono ?_; rintro e w3 ⟨rfl, hb3⟩; obtain ⟨z0, z1, z2, z3⟩ := ((A1d.below hb2).below hb3).four)
        | (go_at_call 24; refine (P0.out _).mono ?_; rintro e w2 ⟨rfl, hb2⟩; obtain ⟨y0, y1, y2, y3⟩ := (A1d.below hb2).four))
    have A2 := ((A1d.below hb2).below hb3).below hb4
    have L2 : Below w.heap.size w w4 := ((L1.drew.trans (hb2.mono L1.size)).trans (hb3.mono (Nat.le_trans L1.size hb2.size))).trans (hb4.mono (Nat.le_trans L1.size (Nat.le_trans hb2.size hb3.size)))
    clear hb2 hb3 hb4 A1 A1d L1 x0 x1 x2 x3 y0 y1 y2 y3 z0 z1 z2 z3 P0 P1 P2
    have A2d : Blk w4.drew w.heap.size (.cells #[.int .i64 f, .int .i64 t, .int .i64 k, .string ⟨B.toArray⟩] 25) := A2
    go_wp2_with fail
    go_region_held3 (fun w' => w'.cell? ⟨w.heap.size, 0, none⟩ = some (.int .i64 f) ∧ w'.cell? ⟨w.heap.size, 1, none⟩ = some (.int .i64 t) ∧ w'.cell? ⟨w.heap.size, 2, none⟩ = some (.int .i64 k) ∧ w'.cell? ⟨w.heap.size, 3, none⟩ = some (.string ⟨B.toArray⟩)) (go_keep)
      (first
        | (go_at_call 24; have hq := hb5; refine (P4.out _).mono ?_; rintro e w6 ⟨rfl, hb6⟩; obtain ⟨v0, v1, v2, v3⟩ := ((A2d.below hb5).below hb6).four)
        | (go_at_call 24; refine (P3.out _).mono ?_; rintro e w5 ⟨rfl, hb5⟩; obtain ⟨u0, u1, u2, u3⟩ := (A2d.below hb5).four))
    have L6 : Below w.heap.size w w6 := (L2.drew.trans (hb5.mono L2.size)).trans (hb6.mono (Nat.le_trans L2.size hb5.size))
    clear hb5 hb6 A2 A2d L2 u0 u1 u2 u3 v0 v1 v2 v3 P3 P4
    go_wp2_with fail
    refine (P6.out _).mono ?_
    rintro e w7 ⟨rfl, rfl⟩
    go_wp2_with fail
    refine (P5.out _).mono ?_
    rintro e w8 ⟨rfl, hb8⟩
    have L8 : Below w.heap.size w w8 := L6.trans (hb8.mono L6.size)
    clear hb8 L6
    go_wp2
    go_ret
    refine ⟨?_, L8⟩
    rw [HT.out, HH.out, HT2.out]
    have e1 : (⟨#[69]⟩ : ByteArray) = ⟨[69].toArray⟩ := rfl
    rw [e1]
    simp only [bytes_app]
    simp
  · have e : ptext f t k B = [] := by unfold ptext; rw [if_neg h]
    rw [show pOk f t k B = false by simpa using h] at hok
    rw [e]
    clear h e
    go_enter Try.func8, Try.ntmps8
    go_wp2_with fail
    generalize w.alloc (.cells #[.int .i64 f, .int .i64 t, .int .i64 k, .string ⟨B.toArray⟩] 25) = V at *
    refine (hok _).mono ?_
    rintro e w1 ⟨rfl, hw1⟩
    have hb1 : Below V.heap.size V w1 := by subst hw1; exact (Below.refl _ _).alloc (Nat.le_refl _) _
    have L1 : Below w.heap.size w w1 := L0.trans (hb1.mono (by omega))
    clear hw1 hb1 A0 L0 zz hok
    go_wp2
    go_ret
    exact ⟨rfl, L1⟩

end Go.Proofs.Ytaefebcfgcnhlaa
