/- Threads in the exact laws: their budget, their copies and their comparison. -/
import Derived.Test.YtlpbiigiecpknaaHF
import Derived.Test.YtlpbiigiecpknaaJ
namespace Go.Proofs.Ytlpbiigiecpknaa
open Go.RowKit Go.Deep

set_option maxHeartbeats 1000000 in
theorem eqThread_true (id made b1 : Int) (a1 : Option Addr) (n1 k1 : Nat) (f1 g1 : Nat → Int) (b2 : Int) (a2 : Option Addr) (n2 k2 : Nat) (f2 g2 : Nat → Int) (a3 : Option Addr) (n3 k3 : Nat) (h : Nat → Int)
    (a1' : Option Addr) (k1' : Nat) (a2' : Option Addr) (k2' : Nat) (a3' : Option Addr) (k3' : Nat) (w : World)
    (hn1 : n1 ≤ maxLen) (hn2 : n2 ≤ maxLen) (hn3 : n3 ≤ maxLen) (hc1 : CatsAt w a1 n1 f1 g1) (hc2 : CatsAt w a2 n2 f2 g2) (hc3 : IntsAt w a3 n3 h) (hd1 : CatsAt w a1' n1 f1 g1) (hd2 : CatsAt w a2' n2 f2 g2) (hd3 : IntsAt w a3' n3 h) :
    Calls Try.prog 42 #[.agg #[.int .i64 id, .int .i64 b1, .slice a1 n1 k1, .int .i64 b2, .slice a2 n2 k2, .slice a3 n3 k3, .int .i64 made], .agg #[.int .i64 id, .int .i64 b1, .slice a1' n1 k1', .int .i64 b2, .slice a2' n2 k2', .slice a3' n3 k3', .int .i64 made]] w fun e w' =>
      e = .returned (.bool true) ∧ Below w.heap.size w w' := by
  have hb0 := ((Below.refl _ w).alloc (Nat.le_refl _) (.cells #[.int .i64 id, .int .i64 b1, .slice a1 n1 k1, .int .i64 b2, .slice a2 n2 k2, .slice a3 n3 k3, .int .i64 made] 56)).alloc (by simp) (.cells #[.int .i64 id, .int .i64 b1, .slice a1' n1 k1', .int .i64 b2, .slice a2' n2 k2', .slice a3' n3 k3', .int .i64 made] 56)
  go_enter Try.func42, Try.ntmps42
  go_wp2_with fail
  refine (eqLabel_true _ _ _ _ _ _ f1 g1 _ hn1 (hc1.below hb0) (hd1.below hb0)).mono ?_
  rintro e w1 ⟨rfl, hb1⟩
  obtain ⟨q1, _⟩ := bcell hb1
  have z1 : w.heap.size + 1 < w1.heap.size := by have := hb1.size; simp at this; omega
  have z1' : w.heap.size < w1.heap.size := by omega
  have B1 : Below w.heap.size w w1 := hb0.trans (hb1.mono (by simp; omega))
  go_wp2_with fail
  refine (eqLabel_true _ _ _ _ _ _ f2 g2 _ hn2 (hc2.below B1) (hd2.below B1)).mono ?_
  rintro e w2 ⟨rfl, hb2⟩
  obtain ⟨q2, _⟩ := bcell hb2
  have z2 : w.heap.size + 1 < w2.heap.size := by have := hb2.size; omega
  have z2' : w.heap.size < w2.heap.size := by omega
  have B2 : Below w.heap.size w w2 := B1.trans (hb2.mono (by omega))
  go_wp2_with fail
  refine (eqInt64S_true _ _ _ _ _ h _ hn3 (hc3.below B2) (hd3.below B2)).mono ?_
  rintro e w3 ⟨rfl, hb3⟩
  obtain ⟨q3, _⟩ := bcell hb3
  have B3 : Below w.heap.size w w3 := B2.trans (hb3.mono (by omega))
  clear hc1 hc2 hc3 hd1 hd2 hd3
  go_wp2
  go_ret
  exact ⟨rfl, B3⟩
end Go.Proofs.Ytlpbiigiecpknaa
