/- Threads in the exact laws: ThreadOk of the program and of the model answer the plain function thrOk. -/
import Derived.Test.YtonpoakimpoojaaK
namespace Go.Proofs.Ytonpoakimpoojaa
open Go.RowKit Go.Deep

def thrOk (id made b1 : Int) (n1 : Nat) (f1 g1 : Nat → Int) (b2 : Int) (n2 : Nat) (f2 g2 : Nat → Int) (n3 : Nat) (h : Nat → Int) : Bool :=
  inB id 1 9 && labOk b1 n1 f1 g1 && labOk b2 n2 f2 g2 && ownOk n3 h && inB made 0 30
theorem thrOk_all {id made b1 : Int} {n1 : Nat} {f1 g1 : Nat → Int} {b2 : Int} {n2 : Nat} {f2 g2 : Nat → Int} {n3 : Nat} {h : Nat → Int} (t0 : inB id 1 9 = true) (t1 : labOk b1 n1 f1 g1 = true) (t2 : labOk b2 n2 f2 g2 = true) (t3 : ownOk n3 h = true) :
    thrOk id made b1 n1 f1 g1 b2 n2 f2 g2 n3 h = inB made 0 30 := by simp [thrOk, t0, t1, t2, t3]

set_option maxHeartbeats 1000000 in
theorem specThr_any (id made b1 : Int) (a1 : Option Addr) (n1 k1 : Nat) (f1 g1 : Nat → Int) (b2 : Int) (a2 : Option Addr) (n2 k2 : Nat) (f2 g2 : Nat → Int) (a3 : Option Addr) (n3 k3 : Nat) (h : Nat → Int) (w : World)
    (hn1 : n1 ≤ maxLen) (hn2 : n2 ≤ maxLen) (hn3 : n3 ≤ maxLen) (hc1 : CatsAt w a1 n1 f1 g1) (hc2 : CatsAt w a2 n2 f2 g2) (hc3 : IntsAt w a3 n3 h) :
    Calls Try.prog 33 #[.agg #[.int .i64 id, .int .i64 b1, .slice a1 n1 k1, .int .i64 b2, .slice a2 n2 k2, .slice a3 n3 k3, .int .i64 made]] w fun e w' => e = .returned (.bool (thrOk id made b1 n1 f1 g1 b2 n2 f2 g2 n3 h)) ∧ Below w.heap.size w w' := by
  have hb0 := (Below.refl _ w).alloc (Nat.le_refl _) (.cells #[.int .i64 id, .int .i64 b1, .slice a1 n1 k1, .int .i64 b2, .slice a2 n2 k2, .slice a3 n3 k3, .int .i64 made] 49)
  have C1 := hc1.below hb0
  have C2 := hc2.below hb0
  have C3 := hc3.below hb0
  clear hc1 hc2 hc3
  by_cases t0 : inB id 1 9 = true
  · skip
    go_enter Try.func33, Try.ntmps33
    go_wp2_with (go_at_call 37; refine (l1In_any _ _ _ _).mono ?_; rintro e w' ⟨rfl, rfl⟩)
    refine (specOk_any _ _ _ _ f1 g1 _ hn1 C1).mono ?_
    rintro e w1 ⟨rfl, hb1⟩
    obtain ⟨q1, _⟩ := bcell hb1
    have z1 : w.heap.size < w1.heap.size := by have := hb1.size; simp at this; omega
    have B1 : Below w.heap.size w w1 := hb0.trans (hb1.mono (by simp))
    by_cases t1 : labOk b1 n1 f1 g1 = true
    · go_wp2_with fail
      refine (specOk_any _ _ _ _ f2 g2 _ hn2 (C2.below hb1)).mono ?_
      rintro e w2 ⟨rfl, hb2⟩
      obtain ⟨q2, _⟩ := bcell hb2
      have z2 : w.heap.size < w2.heap.size := by have := hb2.size; omega
      have B2 : Below w.heap.size w w2 := B1.trans (hb2.mono (by omega))
      by_cases t2 : labOk b2 n2 f2 g2 = true
      · go_wp2_with fail
        refine (l2Owns_any _ _ _ h _ hn3 ((C3.below hb1).below hb2)).mono ?_
        rintro e w3 ⟨rfl, hb3⟩
        obtain ⟨q3, _⟩ := bcell hb3
        have z3 : w.heap.size < w3.heap.size := by have := hb3.size; omega
        have B3 : Below w.heap.size w w3 := B2.trans (hb3.mono (by omega))
        by_cases t3 : ownOk n3 h = true
        · go_wp2_with (go_at_call 37; refine (l1In_any _ _ _ _).mono ?_; rintro e w' ⟨rfl, rfl⟩)
          go_ret
          exact ⟨ret_bool (by simp [thrOk, t0, t1, t2, t3]), B3⟩
        · have t3' : ownOk n3 h = false := by simpa using t3
          clear t3
          go_wp2
          go_ret
          exact ⟨ret_bool (by simp [thrOk, t3']), B3⟩
      · have t2' : labOk b2 n2 f2 g2 = false := by simpa using t2
        clear t2
        go_wp2
        go_ret
        exact ⟨ret_bool (by simp [thrOk, t2']), B2⟩
    · have t1' : labOk b1 n1 f1 g1 = false := by simpa using t1
      clear t1
      go_wp2
      go_ret
      exact ⟨ret_bool (by simp [thrOk, t1']), B1⟩
  · have t0' : inB id 1 9 = false := by simpa using t0
    clear t0
    go_enter Try.func33, Try.ntmps33
    go_wp2_with (go_at_call 37; refine (l1In_any _ _ _ _).mono ?_; rintro e w' ⟨rfl, rfl⟩)
    go_ret
    exact ⟨ret_bool (by simp [thrOk, t0']), hb0⟩

set_option maxHeartbeats 1000000 in
theorem implThr_any (id made b1 : Int) (a1 : Option Addr) (n1 k1 : Nat) (f1 g1 : Nat → Int) (b2 : Int) (a2 : Option Addr) (n2 k2 : Nat) (f2 g2 : Nat → Int) (a3 : Option Addr) (n3 k3 : Nat) (h : Nat → Int) (w : World)
    (hn1 : n1 ≤ maxLen) (hn2 : n2 ≤ maxLen) (hn3 : n3 ≤ maxLen) (hc1 : CatsAt w a1 n1 f1 g1) (hc2 : CatsAt w a2 n2 f2 g2) (hc3 : IntsAt w a3 n3 h) :
    Calls Try.prog 70 #[.agg #[.int .i64 id, .int .i64 b1, .slice a1 n1 k1, .int .i64 b2, .slice a2 n2 k2, .slice a3 n3 k3, .int .i64 made]] w fun e w' => e = .returned (.bool (thrOk id made b1 n1 f1 g1 b2 n2 f2 g2 n3 h)) ∧ Below w.heap.size w w' := by
  have hb0 := (Below.refl _ w).alloc (Nat.le_refl _) (.cells #[.int .i64 id, .int .i64 b1, .slice a1 n1 k1, .int .i64 b2, .slice a2 n2 k2, .slice a3 n3 k3, .int .i64 made] 49)
  have C1 := hc1.below hb0
  have C2 := hc2.below hb0
  have C3 := hc3.below hb0
  clear hc1 hc2 hc3
  by_cases t0 : inB id 1 9 = true
  · obtain ⟨s1, s2⟩ := inB_iff.1 t0
    go_enter Try.func70, Try.ntmps70
    go_wp2_with fail
    refine (implOk_any _ _ _ _ f1 g1 _ hn1 C1).mono ?_
    rintro e w1 ⟨rfl, hb1⟩
    obtain ⟨q1, _⟩ := bcell hb1
    have z1 : w.heap.size < w1.heap.size := by have := hb1.size; simp at this; omega
    have B1 : Below w.heap.size w w1 := hb0.trans (hb1.mono (by simp))
    by_cases t1 : labOk b1 n1 f1 g1 = true
    · go_wp2_with fail
      refine (implOk_any _ _ _ _ f2 g2 _ hn2 (C2.below hb1)).mono ?_
      rintro e w2 ⟨rfl, hb2⟩
      obtain ⟨q2, _⟩ := bcell hb2
      have z2 : w.heap.size < w2.heap.size := by have := hb2.size; omega
      have B2 : Below w.heap.size w w2 := B1.trans (hb2.mono (by omega))
      by_cases t2 : labOk b2 n2 f2 g2 = true
      · go_wp2_with fail
        refine (ownsOk_any _ _ _ h _ hn3 ((C3.below hb1).below hb2)).mono ?_
        rintro e w3 ⟨rfl, rfl⟩
        have B3 := B2
        by_cases t3 : ownOk n3 h = true
        · go_wp2
          all_goals
            go_ret
            refine ⟨ret_bool ?_, B3⟩
            rw [thrOk_all t0 t1 t2 t3]
            first | exact (inB_yes (by assumption)).symm | exact (inB_no (by assumption)).symm
        · have t3' : ownOk n3 h = false := by simpa using t3
          clear t3
          go_wp2
          go_ret
          exact ⟨ret_bool (by simp [thrOk, t3']), B3⟩
      · have t2' : labOk b2 n2 f2 g2 = false := by simpa using t2
        clear t2
        go_wp2
        go_ret
        exact ⟨ret_bool (by simp [thrOk, t2']), B2⟩
    · have t1' : labOk b1 n1 f1 g1 = false := by simpa using t1
      clear t1
      go_wp2
      go_ret
      exact ⟨ret_bool (by simp [thrOk, t1']), B1⟩
  · have t0' : inB id 1 9 = false := by simpa using t0
    clear t0
    go_enter Try.func70, Try.ntmps70
    by_cases s1 : 1 ≤ id
    · have s2 : ¬ id ≤ 9 := fun s2 => by simp [inB, s1, s2] at t0'
      go_wp2
      go_ret
      exact ⟨ret_bool (by simp [thrOk, t0']), hb0⟩
    · go_wp2
      go_ret
      exact ⟨ret_bool (by simp [thrOk, t0']), hb0⟩
end Go.Proofs.Ytonpoakimpoojaa
