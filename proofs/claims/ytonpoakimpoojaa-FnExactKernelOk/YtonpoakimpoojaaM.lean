/- Threads in the exact laws: their budget, their copies and their comparison. -/
import Derived.Test.YtonpoakimpoojaaL
namespace Go.Proofs.Ytonpoakimpoojaa
open Go.RowKit Go.Deep

theorem szOf_cases (n : Nat) (left : Int) (h0 : 0 ≤ left) (h1 : left ≤ 1048576) : (szOf n left = -1) ∨ (0 ≤ szOf n left ∧ szOf n left ≤ left ∧ n ≤ 1048576) := by
  unfold szOf; split
  · exact .inl rfl
  · right; omega

set_option maxHeartbeats 1000000 in
theorem szThread_any (id made b1 : Int) (a1 : Option Addr) (n1 k1 : Nat) (b2 : Int) (a2 : Option Addr) (n2 k2 : Nat) (a3 : Option Addr) (n3 k3 : Nat) (left : Int) (w : World)
    (hn1 : n1 ≤ maxLen) (hn2 : n2 ≤ maxLen) (hn3 : n3 ≤ maxLen) (h0 : 0 ≤ left) (h1 : left ≤ 1048576) :
    Calls Try.prog 63 #[.agg #[.int .i64 id, .int .i64 b1, .slice a1 n1 k1, .int .i64 b2, .slice a2 n2 k2, .slice a3 n3 k3, .int .i64 made], .int .i64 left] w fun e w' =>
      ∃ r : Int, e = .returned (.int .i64 r) ∧ (r = -1 ∨ (0 ≤ r ∧ r ≤ left ∧ n1 ≤ 1048576 ∧ n2 ≤ 1048576 ∧ n3 ≤ 1048576)) ∧ Below w.heap.size w w' := by
  have hb0 := (Below.refl _ w).alloc (Nat.le_refl _) (.cells #[.int .i64 id, .int .i64 b1, .slice a1 n1 k1, .int .i64 b2, .slice a2 n2 k2, .slice a3 n3 k3, .int .i64 made] 90)
  go_enter Try.func63, Try.ntmps63
  go_wp2_with fail
  refine (szLabel_any _ _ _ _ _ _ hn1 h0 h1).mono ?_
  rintro e w1 ⟨rfl, hb1⟩
  obtain ⟨q1, _⟩ := bcell hb1
  have z1 : w.heap.size < w1.heap.size := by have := hb1.size; simp at this; omega
  have B1 : Below w.heap.size w w1 := hb0.trans (hb1.mono (by simp))
  have s1 := szOf_cases n1 left h0 h1
  generalize szOf n1 left = r1 at *
  rcases s1 with rfl | ⟨u1, v1, m1⟩
  · go_wp2
    go_ret
    exact ⟨_, rfl, .inl rfl, B1⟩
  · go_wp2_with fail
    refine (szLabel_any _ _ _ _ _ _ hn2 u1 (by omega)).mono ?_
    rintro e w2 ⟨rfl, hb2⟩
    obtain ⟨q2, _⟩ := bcell hb2
    have z2 : w.heap.size < w2.heap.size := by have := hb2.size; omega
    have B2 : Below w.heap.size w w2 := B1.trans (hb2.mono (by omega))
    have s2 := szOf_cases n2 r1 u1 (by omega)
    generalize szOf n2 r1 = r2 at *
    rcases s2 with rfl | ⟨u2, v2, m2⟩
    · go_wp2
      go_ret
      exact ⟨_, rfl, .inl rfl, B2⟩
    · go_wp2_with fail
      refine (szInt64S_any _ _ _ _ _ hn3 u2 (by omega)).mono ?_
      rintro e w3 ⟨rfl, rfl⟩
      have s3 := szOf_cases n3 r2 u2 (by omega)
      generalize szOf n3 r2 = r3 at *
      rcases s3 with rfl | ⟨u3, v3, m3⟩
      · go_wp2
        go_ret
        exact ⟨_, rfl, .inl rfl, B2⟩
      · go_wp2
        go_ret
        exact ⟨_, rfl, .inr ⟨u3, by omega, m1, m2, m3⟩, B2⟩

set_option maxHeartbeats 1000000 in
theorem toThread_any (id made b1 : Int) (a1 : Option Addr) (n1 k1 : Nat) (f1 g1 : Nat → Int) (b2 : Int) (a2 : Option Addr) (n2 k2 : Nat) (f2 g2 : Nat → Int) (a3 : Option Addr) (n3 k3 : Nat) (h : Nat → Int) (w : World)
    (hn1 : n1 ≤ 1048576) (hn2 : n2 ≤ 1048576) (hn3 : n3 ≤ 1048576) (hc1 : CatsAt w a1 n1 f1 g1) (hc2 : CatsAt w a2 n2 f2 g2) (hc3 : IntsAt w a3 n3 h) :
    Calls Try.prog 68 #[.agg #[.int .i64 id, .int .i64 b1, .slice a1 n1 k1, .int .i64 b2, .slice a2 n2 k2, .slice a3 n3 k3, .int .i64 made]] w fun e w' =>
      ∃ c1 c2 c3, e = .returned (.agg #[.int .i64 id, .int .i64 b1, .slice (some ⟨c1, 0, none⟩) n1 n1, .int .i64 b2, .slice (some ⟨c2, 0, none⟩) n2 n2, .slice (some ⟨c3, 0, none⟩) n3 n3, .int .i64 made]) ∧
        w'.rowIs c1 112 (n1 * 2) (pairCell f1 g1) ∧ w'.rowIs c2 112 (n2 * 2) (pairCell f2 g2) ∧ w'.rowIs c3 2 n3 (fun i => .int .i64 (h i)) ∧ Below w.heap.size w w' := by
  go_enter Try.func68, Try.ntmps68
  go_wp2_with fail
  refine (toLabel_any _ _ _ _ f1 g1 _ hn1 (hc1.below ?_)).mono ?_
  · exact ((((Below.refl _ w).alloc (Nat.le_refl _) _).alloc (by simp) _).alloc (by simp; omega) _)
  rintro e w1 ⟨c1, rfl, hl1, r1, hb1⟩
  obtain ⟨q1, p1⟩ := bcell hb1
  have z1 : w.heap.size + 1 + 1 < w1.heap.size := by have := hb1.size; simp at this; omega
  have z1' : w.heap.size + 1 < w1.heap.size := by omega
  have z1'' : w.heap.size < w1.heap.size := by omega
  have B1 : Below w.heap.size w w1 := ((((Below.refl _ w).alloc (Nat.le_refl _) _).alloc (by simp) _).alloc (by simp; omega) _).trans (hb1.mono (by simp; omega))
  have d1 : w.heap.size + 1 + 1 + 1 ≤ c1 := by simpa using hl1
  clear hl1
  go_wp2_with fail
  refine (toLabel_any _ _ _ _ f2 g2 _ hn2 (hc2.below ?_)).mono ?_
  · exact (B1.setCell (by dsimp only; omega) _).setCell (by dsimp only; omega) _
  rintro e w2 ⟨c2, rfl, hl2, r2, hb2⟩
  obtain ⟨q2, p2⟩ := bcell hb2
  have e2 : w1.heap.size ≤ w2.heap.size := by have := hb2.size; simpa using this
  have z2 : w.heap.size + 1 + 1 < w2.heap.size := by omega
  have z2' : w.heap.size + 1 < w2.heap.size := by omega
  have z2'' : w.heap.size < w2.heap.size := by omega
  have B2 : Below w.heap.size w w2 := ((B1.setCell (by dsimp only; omega) _).setCell (by dsimp only; omega) _).trans (hb2.mono (by simp; omega))
  have d2 : w1.heap.size ≤ c2 := by simpa using hl2
  have r1' : w2.rowIs c1 112 (n1 * 2) (pairCell f1 g1) := World.rowIs.below ((r1.setOther (by dsimp only; omega) _).setOther (by dsimp only; omega) _) hb2 (by have := r1.lt; simpa using this)
  clear hl2
  go_wp2_with fail
  refine (toInt64S_any _ _ _ h _ hn3 (hc3.below ?_)).mono ?_
  · exact (B2.setCell (by dsimp only; omega) _).setCell (by dsimp only; omega) _
  rintro e w3 ⟨rfl, r3, hb3⟩
  obtain ⟨q3, p3⟩ := bcell hb3
  have e3 : w2.heap.size ≤ w3.heap.size := by have := hb3.size; simpa using this
  have z3 : w.heap.size + 1 + 1 < w3.heap.size := by omega
  have z3' : w.heap.size + 1 < w3.heap.size := by omega
  have z3'' : w.heap.size < w3.heap.size := by omega
  have B3 : Below w.heap.size w w3 := ((B2.setCell (by dsimp only; omega) _).setCell (by dsimp only; omega) _).trans (hb3.mono (by simp; omega))
  have r1'' : w3.rowIs c1 112 (n1 * 2) (pairCell f1 g1) := World.rowIs.below ((r1'.setOther (by dsimp only; omega) _).setOther (by dsimp only; omega) _) hb3 (by have := r1'.lt; simpa using this)
  have r2'' : w3.rowIs c2 112 (n2 * 2) (pairCell f2 g2) := World.rowIs.below ((r2.setOther (by dsimp only; omega) _).setOther (by dsimp only; omega) _) hb3 (by have := r2.lt; simpa using this)
  obtain ⟨c3, h3⟩ : ∃ c3, c3 = w2.heap.size := ⟨_, rfl⟩
  have r3' : w3.rowIs c3 2 n3 (fun i => .int .i64 (h i)) := by rw [h3]; simpa using r3
  clear r3 r1 r2 r1' hc1 hc2 hc3
  go_wp2
  refine bodyPost_ret (v := .agg #[.int .i64 id, .int .i64 b1, .slice (some ⟨c1, 0, none⟩) n1 n1, .int .i64 b2, .slice (some ⟨c2, 0, none⟩) n2 n2, .slice (some ⟨c3, 0, none⟩) n3 n3, .int .i64 made]) (by simp [results, Try.results68, go_sem, *]) rfl ⟨c1, c2, c3, rfl, ?_, ?_, ?_, ?_⟩
  · iterate 9 refine World.rowIs.setOther ?_ (by dsimp only; omega) _
    exact r1''
  · iterate 9 refine World.rowIs.setOther ?_ (by dsimp only; omega) _
    exact r2''
  · iterate 9 refine World.rowIs.setOther ?_ (by dsimp only; omega) _
    exact r3'
  · iterate 9 refine Below.setCell ?_ (by dsimp only; omega) _
    exact B3

set_option maxHeartbeats 1000000 in
theorem eqThread_true (id made b1 : Int) (a1 : Option Addr) (n1 k1 : Nat) (f1 g1 : Nat → Int) (b2 : Int) (a2 : Option Addr) (n2 k2 : Nat) (f2 g2 : Nat → Int) (a3 : Option Addr) (n3 k3 : Nat) (h : Nat → Int)
    (a1' : Option Addr) (k1' : Nat) (a2' : Option Addr) (k2' : Nat) (a3' : Option Addr) (k3' : Nat) (w : World)
    (hn1 : n1 ≤ maxLen) (hn2 : n2 ≤ maxLen) (hn3 : n3 ≤ maxLen) (hc1 : CatsAt w a1 n1 f1 g1) (hc2 : CatsAt w a2 n2 f2 g2) (hc3 : IntsAt w a3 n3 h) (hd1 : CatsAt w a1' n1 f1 g1) (hd2 : CatsAt w a2' n2 f2 g2) (hd3 : IntsAt w a3' n3 h) :
    Calls Try.prog 21 #[.agg #[.int .i64 id, .int .i64 b1, .slice a1 n1 k1, .int .i64 b2, .slice a2 n2 k2, .slice a3 n3 k3, .int .i64 made], .agg #[.int .i64 id, .int .i64 b1, .slice a1' n1 k1', .int .i64 b2, .slice a2' n2 k2', .slice a3' n3 k3', .int .i64 made]] w fun e w' =>
      e = .returned (.bool true) ∧ Below w.heap.size w w' := by
  have hb0 := ((Below.refl _ w).alloc (Nat.le_refl _) (.cells #[.int .i64 id, .int .i64 b1, .slice a1 n1 k1, .int .i64 b2, .slice a2 n2 k2, .slice a3 n3 k3, .int .i64 made] 49)).alloc (by simp) (.cells #[.int .i64 id, .int .i64 b1, .slice a1' n1 k1', .int .i64 b2, .slice a2' n2 k2', .slice a3' n3 k3', .int .i64 made] 49)
  go_enter Try.func21, Try.ntmps21
  go_wp2_with fail
  refine (eqLabel_true _ _ _ _ _ _ f1 g1 _ hn1 (hc1.below hb0) (hd1.below hb0)).mono ?_
  rintro e w1 ⟨rfl, hb1⟩
  obtain ⟨q1, _⟩ := bcell hb1
  have z1 : w.heap.size + 1 < w1.heap.size := by have := hb1.size; simp at this; omega
  have z1' : w.heap.size < w1.heap.size := by omega
  have B1 : Below w.heap.size w w1 := hb0.trans (hb1.mono (by simp; omega))
  go_wp2_with fail
  refine (eqLabel_true _ _ _ _ _ _ f2 g2 _ hn2 (hc2.below B1) (hd2.below B1)).mono ?_
  rintro e w2 ⟨rfl, hb2⟩
  obtain ⟨q2, _⟩ := bcell hb2
  have z2 : w.heap.size + 1 < w2.heap.size := by have := hb2.size; omega
  have z2' : w.heap.size < w2.heap.size := by omega
  have B2 : Below w.heap.size w w2 := B1.trans (hb2.mono (by omega))
  go_wp2_with fail
  refine (eqInt64S_true _ _ _ _ _ h _ hn3 (hc3.below B2) (hd3.below B2)).mono ?_
  rintro e w3 ⟨rfl, hb3⟩
  obtain ⟨q3, _⟩ := bcell hb3
  have B3 : Below w.heap.size w w3 := B2.trans (hb3.mono (by omega))
  clear hc1 hc2 hc3 hd1 hd2 hd3
  go_wp2
  go_ret
  exact ⟨rfl, B3⟩
end Go.Proofs.Ytonpoakimpoojaa
