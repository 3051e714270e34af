/- Marks in kernels: threads. -/
import Derived.Test.YtonpoakimpoojaaKM1
namespace Go.Proofs.Ytonpoakimpoojaa
open Go Go.RowKit Go.Deep

/-- .. and of these only rows of threads, categories, numbers and texts -/
structure MkT (lo hi : Nat) (w w' : World) : Prop extends Mk lo hi w w' where
  big : ∀ b ty m F, ty ≠ 112 → ty ≠ 2 → ty ≠ 9 → ty ≠ 49 → w.rowIs b ty m F → w'.rowIs b ty m F
theorem MkT.refl (lo hi : Nat) (w : World) : MkT lo hi w w := ⟨Mk.refl lo hi w, fun _ _ _ _ _ _ _ _ h => h⟩
theorem MkT.thenL {lo hi : Nat} {a b c : World} (h : MkT lo hi a b) (k : MkL lo hi b c) : MkT lo hi a c :=
  ⟨h.toMk.trans k.toMk, fun b ty m F h1 h2 h3 h4 hF => k.big b ty m F h1 h2 h3 (h.big b ty m F h1 h2 h3 h4 hF)⟩
theorem MkT.setT {lo hi : Nat} {w wr : World} (h : MkT lo hi w wr) {b m : Nat} {F : Nat → Value} (hb : wr.rowIs b 49 m F) (h1 : lo ≤ b) (h2 : b < hi) (i : Nat) (v : Value) : MkT lo hi w (wr.setCell ⟨b, i, none⟩ v) :=
  ⟨h.toMk.set h1 h2 i v, fun b' ty' m' F' n1 n2 n3 n4 hF => by
    have hF' := h.big b' ty' m' F' n1 n2 n3 n4 hF
    exact hF'.setOther (a := ⟨b, i, none⟩) (row_ne hF' hb n4) v⟩
/-- the lists of n threads stand in the row -/
def SlT (G : Nat → Value) (n : Nat) (T : Nat → ThrV) : Prop := ∀ j, j < n → G (j * 7 + 2) = (T j).c1.val ∧ G (j * 7 + 4) = (T j).c2.val ∧ G (j * 7 + 5) = (T j).own.val
theorem SlT.set {G : Nat → Value} {n : Nat} {T : Nat → ThrV} (h : SlT G n T) (j r : Nat) (hr : r = 0 ∨ r = 1 ∨ r = 3 ∨ r = 6) (v : Value) : SlT (fun q => if q = j * 7 + r then v else G q) n T := fun i hi => by
  obtain ⟨h1, h2, h3⟩ := h i hi
  refine ⟨?_, ?_, ?_⟩
  · dsimp only; rw [if_neg (by omega)]; exact h1
  · dsimp only; rw [if_neg (by omega)]; exact h2
  · dsimp only; rw [if_neg (by omega)]; exact h3
def ThrV.room (lo hi : Nat) (w : World) (t : ThrV) : Prop := t.c1.room lo hi w ∧ t.c2.room lo hi w ∧ t.own.room lo hi w
theorem ThrV.room.mk {lo hi : Nat} {w w' : World} {t : ThrV} (h : t.room lo hi w) (k : Mk lo hi w w') : t.room lo hi w' := ⟨h.1.mk k, h.2.1.mk k, h.2.2.mk k⟩
def ThrRoom (lo hi : Nat) (w : World) (a : Option Addr) (n : Nat) (T : Nat → ThrV) : Prop :=
  n ≤ 1048576 ∧ (0 < n → ∃ b G, a = some ⟨b, 0, none⟩ ∧ lo ≤ b ∧ b < hi ∧ w.rowIs b 49 (n * 7) G ∧ SlT G n T) ∧ ∀ j, j < n → (T j).room lo hi w

set_option maxRecDepth 100000 in
set_option maxHeartbeats 4000000 in
theorem markThreadS_k (a : Option Addr) (n cap : Nat) (T : Nat → ThrV) (lo hi : Nat) (k0 : Int) (w : World) (hr : ThrRoom lo hi w a n T) (h0 : 1 ≤ k0) (h1 : k0 ≤ 100000000000000) :
    Calls Try.prog 51 #[.slice a n cap, .int .i64 k0] w fun e w' => ∃ k1 : Int, e = .returned (.int .i64 k1) ∧ k0 ≤ k1 ∧ k1 ≤ k0 + n * 8388608 ∧ MkT lo hi w w' := by
  obtain ⟨hn, hr, hT⟩ := hr
  have HR := hid hr
  have HT := hid hT
  clear hr hT
  by_cases hz : n = 0
  · subst hz
    go_enter Try.func51, Try.ntmps51
    go_wp2
    go_loop [1, 5] (fun kk i => i = .int .i64 0 ∧ kk = .int .i64 k0) (fun _ _ => 0)
    case atStart => exact ⟨rfl, rfl⟩
    case round =>
      obtain ⟨rfl, rfl⟩ := hrel
      go_wp2
      go_ret
      exact ⟨k0, rfl, by omega, by omega, MkT.refl _ _ _⟩
  obtain ⟨b, G0, rfl, l1, l2, hR0, hS0⟩ := HR.out (by omega)
  have R0 := hid hR0
  have S0 := hid hS0
  clear hR0 hS0 HR
  go_enter Try.func51, Try.ntmps51
  go_wp2
  go_loopw [1, 5] (fun kk i wr => ∃ (j : Nat) (x : Int), j ≤ n ∧ i = .int .i64 j ∧ kk = .int .i64 x ∧ k0 ≤ x ∧ x ≤ k0 + j * 8388608 ∧ Hid (MkT lo hi w wr) ∧ Hid (∃ G, wr.rowIs b 49 (n * 7) G ∧ SlT G n T)) (fun _ i _ => n - (intOf i).toNat)
  case atStart => exact ⟨0, k0, Nat.zero_le _, rfl, rfl, by omega, by omega, hid (MkT.refl _ _ _), hid ⟨G0, R0.out, S0.out⟩⟩
  case round =>
    obtain ⟨j, x, hj, rfl, rfl, x0, x1, HM, HG⟩ := hrel
    by_cases hlt : j < n
    · obtain ⟨G, hR, hS⟩ := HG.out
      obtain ⟨s1, s2, s3⟩ := hS j hlt
      have i1 : (j : Int) < (n : Int) := by omega
      have z0 := hR.cell (i := j * 7) (by omega)
      have z1 := hR.cell (i := j * 7 + 1) (by omega)
      have z2 := hR.cell (i := j * 7 + 2) (by omega)
      rw [s1] at z2
      have zf := hR.frozen
      have M1 := hid ((HM.out.setT hR l1 l2 (j * 7) (.int .i64 x)).setT (hR.set (j * 7) (.int .i64 x)) l1 l2 (j * 7 + 1) (.int .i64 (x + 1)))
      have R1 := hid ((hR.set (j * 7) (.int .i64 x)).set (j * 7 + 1) (.int .i64 (x + 1)))
      have S1 := hid ((hS.set j 0 (by omega) (.int .i64 x)).set j 1 (by omega) (.int .i64 (x + 1)))
      have C1 := hid (markCatS_k (T j).c1 lo hi (x + 1 + 1) _ ((HT.out j hlt).mk M1.out.toMk).1 (by omega) (by omega))
      have q1 := (HT.out j hlt).1.1
      have q2 := (HT.out j hlt).2.1.1
      have q3 := (HT.out j hlt).2.2.1
      clear hR hS HM HG s1 s2 s3
      go_wp2_with fail
      refine C1.out.mono ?_
      rintro e w2 ⟨rfl, m2⟩
      have M2 := hid (M1.out.thenL m2)
      obtain ⟨G2, R2, S2⟩ : ∃ G2, w2.rowIs b 49 (n * 7) G2 ∧ SlT G2 n T := ⟨_, m2.big _ _ _ _ (by decide) (by decide) (by decide) R1.out, S1.out⟩
      clear z0 z1 z2 zf M1 R1 S1 C1 m2
      generalize hy : x + 1 + 1 + 2 * ((T j).c1.n : Int) = y at *
      have y0 : k0 ≤ y ∧ y ≤ x + 2 + 2097152 := by omega
      clear hy
      obtain ⟨s1, s2, s3⟩ := S2 j hlt
      have z3 := R2.cell (i := j * 7 + 3) (by omega)
      have z4 := R2.cell (i := j * 7 + 4) (by omega)
      rw [s2] at z4
      have zf := R2.frozen
      have M3 := hid (M2.out.setT R2 l1 l2 (j * 7 + 3) (.int .i64 y))
      have R3 := hid (R2.set (j * 7 + 3) (.int .i64 y))
      have S3 := hid (S2.set j 3 (by omega) (.int .i64 y))
      have C3 := hid (markCatS_k (T j).c2 lo hi (y + 1) _ ((HT.out j hlt).mk M3.out.toMk).2.1 (by omega) (by omega))
      clear R2 S2 M2 s1 s2 s3
      go_wp2_with fail
      refine C3.out.mono ?_
      rintro e w4 ⟨rfl, m4⟩
      have M4 := hid (M3.out.thenL m4)
      obtain ⟨G4, R4, S4⟩ : ∃ G4, w4.rowIs b 49 (n * 7) G4 ∧ SlT G4 n T := ⟨_, m4.big _ _ _ _ (by decide) (by decide) (by decide) R3.out, S3.out⟩
      clear z3 z4 zf M3 R3 S3 C3 m4
      generalize hv : y + 1 + 2 * ((T j).c2.n : Int) = v at *
      have v0 : k0 ≤ v ∧ v ≤ x + 3 + 4194304 := by omega
      clear hv
      obtain ⟨s1, s2, s3⟩ := S4 j hlt
      have z5 := R4.cell (i := j * 7 + 5) (by omega)
      rw [s3] at z5
      have C5 := hid (markInt_k (T j).own lo hi v _ ((HT.out j hlt).mk M4.out.toMk).2.2 (by omega) (by omega))
      clear s1 s2 s3
      go_wp2_with fail
      refine C5.out.mono ?_
      rintro e w6 ⟨rfl, m6⟩
      have M6 := hid (M4.out.thenL m6)
      have R6 := m6.big _ _ _ _ (by decide) (by decide) (by decide) R4
      clear z5 M4 R4 C5 m6
      generalize hu : v + ((T j).own.n : Int) = u at *
      have u0 : k0 ≤ u ∧ u ≤ x + 3 + 5242880 := by omega
      clear hu
      have z6 := R6.cell (i := j * 7 + 6) (by omega)
      have zf := R6.frozen
      have M7 := hid (M6.out.setT R6 l1 l2 (j * 7 + 6) (.int .i64 u))
      have R7 : Hid (∃ G, (w6.setCell ⟨b, j * 7 + 6, none⟩ (.int .i64 u)).rowIs b 49 (n * 7) G ∧ SlT G n T) := hid ⟨_, R6.set (j * 7 + 6) (.int .i64 u), S4.set j 6 (by omega) (.int .i64 u)⟩
      clear R6 S4 M6
      go_wp2
      exact ⟨⟨j + 1, u + 1, by omega, by go_num, rfl, by omega, by omega, M7, R7⟩, by simp [intOf]; omega⟩
    · go_wp2
      go_ret
      exact ⟨x, rfl, x0, by have e : j = n := by omega
                            subst e; exact x1, HM.out⟩
end Go.Proofs.Ytonpoakimpoojaa
