/- Kernels of plain threads and at most one plain object, as the exact laws compare, mark and hold them. -/
import Derived.Test.YtlpbiigiecpknaaKD
namespace Go.Proofs.Ytlpbiigiecpknaa
open Go.RowKit Go.Deep Go.Maps

set_option maxRecDepth 100000 in
set_option maxHeartbeats 4000000 in
theorem eqKernel_true (ta ta' : Option Addr) (tb tb' n tk tk' : Nat) (oa oa' : Option Addr) (ob ob' c ck ck' : Nat) (F : Nat → Nat → Int) (x0 x1 x2 x3 : Int) (d : ByteArray) (x4 : Int) (w : World) (hn : n ≤ 9) (hc : c ≤ 1)
    (h : Thr w ta tb n F) (h' : Thr w ta' tb' n F) (ho : Obj1 w oa ob c x0 x1 x2 x3 d x4) (ho' : Obj1 w oa' ob' c x0 x1 x2 x3 d x4) :
    Calls Try.prog 8 #[.agg #[.slice ta n tk, .slice oa c ck], .agg #[.slice ta' n tk', .slice oa' c ck']] w fun e w' => e = .returned (.bool true) ∧ Below w.heap.size w w' := by
  have L0 := ((Below.refl _ w).alloc (Nat.le_refl _) (.cells #[.slice ta n tk, .slice oa c ck] 25)).alloc (by simp) (.cells #[.slice ta' n tk', .slice oa' c ck'] 25)
  have A0 := (Blk.new w (.cells #[.slice ta n tk, .slice oa c ck] 25)).alloc (.cells #[.slice ta' n tk', .slice oa' c ck'] 25)
  have B0 : Blk ((w.alloc (.cells #[.slice ta n tk, .slice oa c ck] 25)).alloc (.cells #[.slice ta' n tk', .slice oa' c ck'] 25)) (w.heap.size + 1) (.cells #[.slice ta' n tk', .slice oa' c ck'] 25) := by
    have t := Blk.new (w.alloc (.cells #[.slice ta n tk, .slice oa c ck] 25)) (.cells #[.slice ta' n tk', .slice oa' c ck'] 25)
    have sz : (w.alloc (.cells #[.slice ta n tk, .slice oa c ck] 25)).heap.size = w.heap.size + 1 := by simp
    rw [sz] at t
    exact t
  obtain ⟨a0, a1⟩ := A0.two
  obtain ⟨b0, b1⟩ := B0.two
  go_enter Try.func8, Try.ntmps8
  go_wp2_with fail
  refine (eqThreadS_true _ _ tb tb' _ _ _ F _ hn (h.below L0) (h'.below L0)).mono ?_
  rintro e w1 ⟨rfl, hb1⟩
  have A1 := A0.below hb1
  have B1 := B0.below hb1
  have L1 : Below w.heap.size w w1 := L0.trans (hb1.mono L0.size)
  clear a0 a1 b0 b1 A0 B0 L0 hb1
  obtain ⟨a0, a1⟩ := A1.two
  obtain ⟨b0, b1⟩ := B1.two
  go_wp2_with fail
  refine (eqObjectS_true _ _ ob ob' _ _ _ _ _ _ _ _ _ _ hc (ho.below L1) (ho'.below L1)).mono ?_
  rintro e w2 ⟨rfl, hb2⟩
  have L2 : Below w.heap.size w w2 := L1.trans (hb2.mono L1.size)
  clear a0 a1 b0 b1 A1 B1 L1 hb2
  go_wp2
  go_ret
  exact ⟨rfl, L2⟩

theorem grown_none {a b : World} (h : a.grownBy b (some a.heap.size)) : a.grownBy b none :=
  ⟨h.os, h.tape, h.output, h.size, fun k hk _ => h.block k hk (by simp; omega)⟩

theorem markThreadS_if (a : Option Addr) (b n cap : Nat) (F : Nat → Nat → Int) (k0 : Int) (w : World) (hn : n ≤ 9) (h0 : 0 ≤ k0) (h1 : k0 ≤ 1000) (hr : Thr w a b n F) :
    Calls Try.prog 25 #[.slice a n cap, .int .i64 k0] w fun e w' => e = .returned (.int .i64 (k0 + 4 * n)) ∧ w.grownBy w' (if 0 < n then some b else none) ∧ Thr w' a b n (mkF k0) := by
  by_cases hp : 0 < n
  · rw [if_pos hp]
    exact markThreadS_any a b n cap F k0 w hn h0 h1 hr
  · rw [if_neg hp]
    exact (markThreadS_any a w.heap.size n cap F k0 w hn h0 h1 (fun h => absurd h hp)).mono fun e w' ⟨he, hg, _⟩ => ⟨he, grown_none hg, fun h => absurd h hp⟩
theorem markObjectS_if (a : Option Addr) (b n cap : Nat) (x0 x1 x2 x3 : Int) (d : ByteArray) (x4 : Int) (k0 : Int) (w : World) (hn : n ≤ 1) (h0 : 0 ≤ k0) (h1 : k0 ≤ 1000) (hr : Obj1 w a b n x0 x1 x2 x3 d x4) :
    Calls Try.prog 26 #[.slice a n cap, .int .i64 k0] w fun e w' => e = .returned (.int .i64 (k0 + 6 * n)) ∧ w.grownBy w' (if 0 < n then some b else none) ∧ ObjM w' a b n k0 := by
  by_cases hp : 0 < n
  · rw [if_pos hp]
    exact markObjectS_any a b n cap x0 x1 x2 x3 d x4 k0 w hn h0 h1 hr
  · rw [if_neg hp]
    exact (markObjectS_any a w.heap.size n cap x0 x1 x2 x3 d x4 k0 w hn h0 h1 (fun h => absurd h hp)).mono fun e w' ⟨he, hg, _⟩ => ⟨he, grown_none hg, fun h => absurd h hp⟩

/-- all marks are there -/
def KMarked (w : World) (ta : Option Addr) (tb n : Nat) (oa : Option Addr) (ob c : Nat) (k0 : Int) : Prop := Thr w ta tb n (mkF k0) ∧ ObjM w oa ob c (k0 + 4 * n)
theorem KMarked.below {w w' : World} {ta : Option Addr} {tb n : Nat} {oa : Option Addr} {ob c : Nat} {k0 : Int} (h : KMarked w ta tb n oa ob c k0) (hb : Below w.heap.size w w') : KMarked w' ta tb n oa ob c k0 := ⟨h.1.below hb, Obj1.below h.2 hb⟩

set_option maxRecDepth 100000 in
set_option maxHeartbeats 4000000 in
theorem markKernel_any (ta : Option Addr) (tb n tk : Nat) (oa : Option Addr) (ob c ck : Nat) (F : Nat → Nat → Int) (x0 x1 x2 x3 : Int) (d : ByteArray) (x4 : Int) (k0 : Int) (w : World) (hn : n ≤ 9) (hc : c ≤ 1) (h0 : 0 ≤ k0) (h1 : k0 ≤ 100)
    (h : Thr w ta tb n F) (ho : Obj1 w oa ob c x0 x1 x2 x3 d x4) (hne : tb ≠ ob) :
    Calls Try.prog 9 #[.agg #[.slice ta n tk, .slice oa c ck], .int .i64 k0] w fun e w' => e = .returned (.int .i64 (k0 + 4 * n + 6 * c)) ∧ Marked2 n tb c ob w w' ∧ KMarked w' ta tb n oa ob c k0 := by
  have L0 := (Below.refl _ w).alloc (Nat.le_refl _) (.cells #[.slice ta n tk, .slice oa c ck] 25)
  have A0 := Blk.new w (.cells #[.slice ta n tk, .slice oa c ck] 25)
  have G0 := World.grownBy_alloc w (.cells #[.slice ta n tk, .slice oa c ck] 25) none
  have htl : 0 < n → tb < w.heap.size := fun hp => h.lt hp
  have hol : 0 < c → ob < w.heap.size := fun hp => (ho hp).2.lt
  obtain ⟨a0, a1⟩ := A0.two
  go_enter Try.func9, Try.ntmps9
  go_wp2_with fail
  refine (markThreadS_if _ tb _ _ F _ _ hn h0 (by omega) (h.below L0)).mono ?_
  rintro e w1 ⟨rfl, hg1, T1⟩
  have hrow : ∀ j, (if 0 < n then some tb else none) = some j → j = tb ∧ 0 < n := fun j e => by split at e <;> simp_all
  have A1 := A0.grown hg1 (fun e => by have h := hrow _ e.symm; have := htl h.2; omega)
  have O1 : Obj1 w1 oa ob c x0 x1 x2 x3 d x4 := fun hp => (ho.below L0).grown hg1 (fun e => by have h := hrow _ e.symm; omega) hp
  have G1 := grown_after G0 hg1
  clear a0 a1 A0 L0 hrow
  obtain ⟨a0, a1⟩ := A1.two
  go_wp2_with fail
  refine (markObjectS_if _ ob _ _ _ _ _ _ _ _ _ _ hc (by omega) (by omega) O1).mono ?_
  rintro e w2 ⟨rfl, hg2, M2⟩
  have hrow : ∀ j, (if 0 < c then some ob else none) = some j → j = ob ∧ 0 < c := fun j e => by split at e <;> simp_all
  have T2 := T1.grown hg2 (fun e => by have h := hrow _ e.symm; omega)
  have hM : Marked2 n tb c ob w w2 := ⟨w1, G1, hg2⟩
  have hK : KMarked w2 ta tb n oa ob c k0 := ⟨T2, M2⟩
  clear a0 a1 A1 hrow T1 T2 M2 hg1 hg2 G0 G1 O1 h ho
  go_wp2
  go_ret
  exact ⟨rfl, hM, hK⟩

set_option maxRecDepth 100000 in
set_option maxHeartbeats 4000000 in
theorem heldKernel_any (ta : Option Addr) (tb n tk : Nat) (oa : Option Addr) (ob c ck : Nat) (k0 : Int) (w : World) (hn : n ≤ 9) (hc : c ≤ 1) (h0 : 0 ≤ k0) (h1 : k0 ≤ 100) (h : KMarked w ta tb n oa ob c k0) :
    Calls Try.prog 10 #[.agg #[.slice ta n tk, .slice oa c ck], .int .i64 k0] w fun e w' => e = .returned (.int .i64 (k0 + 4 * n + 6 * c)) ∧ Below w.heap.size w w' := by
  have L0 := (Below.refl _ w).alloc (Nat.le_refl _) (.cells #[.slice ta n tk, .slice oa c ck] 25)
  have A0 := Blk.new w (.cells #[.slice ta n tk, .slice oa c ck] 25)
  have K0 := h.below L0
  clear h
  obtain ⟨a0, a1⟩ := A0.two
  go_enter Try.func10, Try.ntmps10
  go_wp2_with fail
  refine (heldThreadS_any _ tb _ _ _ _ hn h0 (by omega) K0.1).mono ?_
  rintro e w1 ⟨rfl, rfl⟩
  have k1 : ¬ (k0 + 4 * (n : Int) < 0) := by omega
  go_wp2_with fail
  refine (heldObjectS_any _ ob _ _ _ _ hc (by omega) (by omega) K0.2).mono ?_
  rintro e w2 ⟨rfl, hb2⟩
  have k2 : ¬ (k0 + 4 * (n : Int) + 6 * (c : Int) < 0) := by omega
  have L2 : Below w.heap.size w w2 := L0.trans (hb2.mono L0.size)
  clear a0 a1 A0 L0 K0 hb2
  go_wp2
  go_ret
  exact ⟨rfl, L2⟩
end Go.Proofs.Ytlpbiigiecpknaa
