/- An object that owns nothing and holds no items: how the exact laws compare, mark and hold it. -/
import Derived.Test.YtlpbiigiecpknaaKC
import Derived.Test.YtlpbiigiecpknaaHCa
namespace Go.Proofs.Ytlpbiigiecpknaa
open Go.RowKit Go.Deep Go.Maps

set_option maxRecDepth 100000 in
set_option maxHeartbeats 4000000 in
theorem eqObject_plain (x0 x1 x2 x3 : Int) (d : ByteArray) (x4 : Int) (w : World) :
    Calls Try.prog 43 #[.agg #[.int .i64 x0, .int .i64 x1, .int .i64 x2, .int .i64 x3, .slice none 0 0, .string d, .slice none 0 0, .slice none 0 0, .int .i64 x4, .slice none 0 0], .agg #[.int .i64 x0, .int .i64 x1, .int .i64 x2, .int .i64 x3, .slice none 0 0, .string d, .slice none 0 0, .slice none 0 0, .int .i64 x4, .slice none 0 0]] w fun e w' => e = .returned (.bool true) ∧ Below w.heap.size w w' := by
  have L0 := ((Below.refl _ w).alloc (Nat.le_refl _) (.cells #[.int .i64 x0, .int .i64 x1, .int .i64 x2, .int .i64 x3, .slice none 0 0, .string d, .slice none 0 0, .slice none 0 0, .int .i64 x4, .slice none 0 0] 54)).alloc (by simp) (.cells #[.int .i64 x0, .int .i64 x1, .int .i64 x2, .int .i64 x3, .slice none 0 0, .string d, .slice none 0 0, .slice none 0 0, .int .i64 x4, .slice none 0 0] 54)
  have A0 := (Blk.new w (.cells #[.int .i64 x0, .int .i64 x1, .int .i64 x2, .int .i64 x3, .slice none 0 0, .string d, .slice none 0 0, .slice none 0 0, .int .i64 x4, .slice none 0 0] 54)).alloc (.cells #[.int .i64 x0, .int .i64 x1, .int .i64 x2, .int .i64 x3, .slice none 0 0, .string d, .slice none 0 0, .slice none 0 0, .int .i64 x4, .slice none 0 0] 54)
  have B0 : Blk ((w.alloc (.cells #[.int .i64 x0, .int .i64 x1, .int .i64 x2, .int .i64 x3, .slice none 0 0, .string d, .slice none 0 0, .slice none 0 0, .int .i64 x4, .slice none 0 0] 54)).alloc (.cells #[.int .i64 x0, .int .i64 x1, .int .i64 x2, .int .i64 x3, .slice none 0 0, .string d, .slice none 0 0, .slice none 0 0, .int .i64 x4, .slice none 0 0] 54)) (w.heap.size + 1) (.cells #[.int .i64 x0, .int .i64 x1, .int .i64 x2, .int .i64 x3, .slice none 0 0, .string d, .slice none 0 0, .slice none 0 0, .int .i64 x4, .slice none 0 0] 54) := by
    have t := Blk.new (w.alloc (.cells #[.int .i64 x0, .int .i64 x1, .int .i64 x2, .int .i64 x3, .slice none 0 0, .string d, .slice none 0 0, .slice none 0 0, .int .i64 x4, .slice none 0 0] 54)) (.cells #[.int .i64 x0, .int .i64 x1, .int .i64 x2, .int .i64 x3, .slice none 0 0, .string d, .slice none 0 0, .slice none 0 0, .int .i64 x4, .slice none 0 0] 54)
    have sz : (w.alloc (.cells #[.int .i64 x0, .int .i64 x1, .int .i64 x2, .int .i64 x3, .slice none 0 0, .string d, .slice none 0 0, .slice none 0 0, .int .i64 x4, .slice none 0 0] 54)).heap.size = w.heap.size + 1 := by simp
    rw [sz] at t
    exact t
  go_enter Try.func43, Try.ntmps43
  obtain ⟨a0, a1, a2, a3, a4, a5, a6, a7, a8, a9⟩ := A0.ten
  obtain ⟨b0, b1, b2, b3, b4, b5, b6, b7, b8, b9⟩ := B0.ten
  go_wp2_with fail
  refine (eqLabel_true _ _ _ _ _ _ (fun _ => 0) (fun _ => 0) _ (by unfold maxLen; omega) (nocats _ _ _) (nocats _ _ _)).mono ?_
  rintro e w1 ⟨rfl, hb1⟩
  have A1 := A0.below hb1
  have B1 := B0.below hb1
  have L1 : Below w.heap.size w w1 := L0.trans (hb1.mono L0.size)
  clear a0 a1 a2 a3 a4 a5 a6 a7 a8 a9 b0 b1 b2 b3 b4 b5 b6 b7 b8 b9 A0 B0 L0 hb1
  obtain ⟨a0, a1, a2, a3, a4, a5, a6, a7, a8, a9⟩ := A1.ten
  obtain ⟨b0, b1, b2, b3, b4, b5, b6, b7, b8, b9⟩ := B1.ten
  go_wp2_with (go_at_call 54; refine (eqStringS_nil _).mono ?_; rintro e w' ⟨rfl, rfl⟩)
  refine (eqInt64S_true _ _ _ _ _ (fun _ => 0) _ (by unfold maxLen; omega) (noints _ _) (noints _ _)).mono ?_
  rintro e w2 ⟨rfl, hb2⟩
  have A2 := A1.below hb2
  have B2 := B1.below hb2
  have L2 : Below w.heap.size w w2 := L1.trans (hb2.mono L1.size)
  clear a0 a1 a2 a3 a4 a5 a6 a7 a8 a9 b0 b1 b2 b3 b4 b5 b6 b7 b8 b9 A1 B1 L1 hb2
  obtain ⟨a0, a1, a2, a3, a4, a5, a6, a7, a8, a9⟩ := A2.ten
  obtain ⟨b0, b1, b2, b3, b4, b5, b6, b7, b8, b9⟩ := B2.ten
  go_wp2_with fail
  refine (eqLabel_true _ _ _ _ _ _ (fun _ => 0) (fun _ => 0) _ (by unfold maxLen; omega) (nocats _ _ _) (nocats _ _ _)).mono ?_
  rintro e w3 ⟨rfl, hb3⟩
  have L3 : Below w.heap.size w w3 := L2.trans (hb3.mono L2.size)
  clear a0 a1 a2 a3 a4 a5 a6 a7 a8 a9 b0 b1 b2 b3 b4 b5 b6 b7 b8 b9 A2 B2 L2 hb3
  go_wp2
  go_ret
  exact ⟨rfl, L3⟩

/-- at most one object lies there -/
def Obj1 (w : World) (a : Option Addr) (b c : Nat) (x0 x1 x2 x3 : Int) (d : ByteArray) (x4 : Int) : Prop := 0 < c → a = some ⟨b, 0, none⟩ ∧ Blk w b (.cells #[.int .i64 x0, .int .i64 x1, .int .i64 x2, .int .i64 x3, .slice none 0 0, .string d, .slice none 0 0, .slice none 0 0, .int .i64 x4, .slice none 0 0] 54)
theorem Obj1.below {w w' : World} {a : Option Addr} {b c : Nat} {x0 x1 x2 x3 : Int} {d : ByteArray} {x4 : Int} (h : Obj1 w a b c x0 x1 x2 x3 d x4) (hb : Below w.heap.size w w') : Obj1 w' a b c x0 x1 x2 x3 d x4 := fun h0 => ⟨(h h0).1, (h h0).2.below hb⟩
theorem Obj1.grown {w w' : World} {a : Option Addr} {b c : Nat} {x0 x1 x2 x3 : Int} {d : ByteArray} {x4 : Int} {row : Option Nat} (h : Obj1 w a b c x0 x1 x2 x3 d x4) (hg : w.grownBy w' row) (hne : some b ≠ row) : Obj1 w' a b c x0 x1 x2 x3 d x4 := fun h0 => ⟨(h h0).1, (h h0).2.grown hg hne⟩

set_option maxRecDepth 100000 in
set_option maxHeartbeats 4000000 in
theorem eqObjectS_true (a a' : Option Addr) (b b' n cap cap' : Nat) (x0 x1 x2 x3 : Int) (d : ByteArray) (x4 : Int) (w : World) (hn : n ≤ 1) (h : Obj1 w a b n x0 x1 x2 x3 d x4) (h' : Obj1 w a' b' n x0 x1 x2 x3 d x4) :
    Calls Try.prog 24 #[.slice a n cap, .slice a' n cap'] w fun e w' => e = .returned (.bool true) ∧ Below w.heap.size w w' := by
  go_enter Try.func24, Try.ntmps24
  go_wp2
  go_loopw [5] (fun i wr => ∃ k : Nat, k ≤ n ∧ i = .int .i64 k ∧ Below w.heap.size w wr) (fun i _ => n - (intOf i).toNat)
  case atStart => exact ⟨0, Nat.zero_le _, rfl, Below.refl _ _⟩
  case round =>
    obtain ⟨k, hk, rfl, hB⟩ := hrel
    by_cases hlt' : k < n
    · obtain ⟨rfl, _⟩ := h (by omega)
      obtain ⟨rfl, _⟩ := h' (by omega)
      obtain rfl : k = 0 := by omega
      have T := (h.below hB (by omega)).2
      have T' := (h'.below hB (by omega)).2
      obtain ⟨g0, g1, g2, g3, g4, g5, g6, g7, g8, g9⟩ := T.ten
      obtain ⟨u0, u1, u2, u3, u4, u5, u6, u7, u8, u9⟩ := T'.ten
      have i1 : (0 : Int) < (n : Int) := by omega
      have Td : Blk wr.drew b (.cells #[.int .i64 x0, .int .i64 x1, .int .i64 x2, .int .i64 x3, .slice none 0 0, .string d, .slice none 0 0, .slice none 0 0, .int .i64 x4, .slice none 0 0] 54) := T
      have Td' : Blk wr.drew b' (.cells #[.int .i64 x0, .int .i64 x1, .int .i64 x2, .int .i64 x3, .slice none 0 0, .string d, .slice none 0 0, .slice none 0 0, .int .i64 x4, .slice none 0 0] 54) := T'
      clear h h' T T'
      go_wp2_with fail
      go_region_held3 (fun w' => w'.cell? ⟨b, 0, none⟩ = some (.int .i64 x0) ∧ w'.cell? ⟨b, 1, none⟩ = some (.int .i64 x1) ∧ w'.cell? ⟨b, 2, none⟩ = some (.int .i64 x2) ∧ w'.cell? ⟨b, 3, none⟩ = some (.int .i64 x3) ∧ w'.cell? ⟨b, 4, none⟩ = some (.slice none 0 0) ∧ w'.cell? ⟨b, 5, none⟩ = some (.string d) ∧ w'.cell? ⟨b, 6, none⟩ = some (.slice none 0 0) ∧ w'.cell? ⟨b, 7, none⟩ = some (.slice none 0 0) ∧ w'.cell? ⟨b, 8, none⟩ = some (.int .i64 x4) ∧ w'.cell? ⟨b, 9, none⟩ = some (.slice none 0 0) ∧ w'.cell? ⟨b', 0, none⟩ = some (.int .i64 x0) ∧ w'.cell? ⟨b', 1, none⟩ = some (.int .i64 x1) ∧ w'.cell? ⟨b', 2, none⟩ = some (.int .i64 x2) ∧ w'.cell? ⟨b', 3, none⟩ = some (.int .i64 x3) ∧ w'.cell? ⟨b', 4, none⟩ = some (.slice none 0 0) ∧ w'.cell? ⟨b', 5, none⟩ = some (.string d) ∧ w'.cell? ⟨b', 6, none⟩ = some (.slice none 0 0) ∧ w'.cell? ⟨b', 7, none⟩ = some (.slice none 0 0) ∧ w'.cell? ⟨b', 8, none⟩ = some (.int .i64 x4) ∧ w'.cell? ⟨b', 9, none⟩ = some (.slice none 0 0)) (go_keep)
        (first | (go_at_call 43; refine (eqObject_plain _ _ _ _ _ _ _).mono ?_; rintro e w1 ⟨rfl, hb1⟩; obtain ⟨p0, p1, p2, p3, p4, p5, p6, p7, p8, p9⟩ := (Td.below hb1).ten; obtain ⟨q0, q1, q2, q3, q4, q5, q6, q7, q8, q9⟩ := (Td'.below hb1).ten))
      have hB1 : Below w.heap.size w w1 := hB.drew.trans (hb1.mono hB.size)
      clear g0 g1 g2 g3 g4 g5 g6 g7 g8 g9 u0 u1 u2 u3 u4 u5 u6 u7 u8 u9 p0 p1 p2 p3 p4 p5 p6 p7 p8 p9 q0 q1 q2 q3 q4 q5 q6 q7 q8 q9 Td Td' hb1
      go_wp2
      go_roundw
      case rel => exact ⟨1, by omega, by go_num, hB1⟩
      case measure => simp [intOf]; omega
    · clear h h'
      go_wp2
      go_ret
      exact ⟨rfl, hB⟩

theorem markTextI_any (x : Int) (w : World) (h0 : 0 < x) (h1 : x ≤ 10000000000) :
    Calls Try.prog 45 #[.int .i64 x] w fun e w' => e = .returned (.string ⟨(109 :: digs x.toNat).toArray⟩) ∧ Below w.heap.size w w' := by
  obtain ⟨n, rfl⟩ := Int.eq_ofNat_of_zero_le (Int.le_of_lt h0)
  exact markText_any n w (by omega) (by omega)

theorem Blk.frozenT {W : World} {P t : Nat} {cs : Array Value} (h : Blk W P (.cells cs t)) (i : Nat) : W.frozen? ⟨P, i, none⟩ = false := by
  unfold Blk at h
  simp [World.frozen?, h]
/-- what the marks make of an object -/
def mkD (k0 : Int) : ByteArray := ⟨(109 :: digs (k0 + 1 + 1 + 1 + 1).toNat).toArray⟩
def ObjM (w : World) (a : Option Addr) (b c : Nat) (k0 : Int) : Prop := Obj1 w a b c k0 (k0 + 1) (k0 + 1 + 1) (k0 + 1 + 1 + 1) (mkD k0) (k0 + 1 + 1 + 1 + 1 + 1)

theorem Blk.s0 {W : World} {P t : Nat} {y0 y1 y2 y3 y4 y5 y6 y7 y8 y9 : Value} (h : Blk W P (.cells #[y0, y1, y2, y3, y4, y5, y6, y7, y8, y9] t)) (v : Value) : Blk (W.setCell ⟨P, 0, none⟩ v) P (.cells #[v, y1, y2, y3, y4, y5, y6, y7, y8, y9] t) := by
  unfold Blk at *
  simp [World.setCell, Array.getElem?_modify, h]
theorem Blk.s1 {W : World} {P t : Nat} {y0 y1 y2 y3 y4 y5 y6 y7 y8 y9 : Value} (h : Blk W P (.cells #[y0, y1, y2, y3, y4, y5, y6, y7, y8, y9] t)) (v : Value) : Blk (W.setCell ⟨P, 1, none⟩ v) P (.cells #[y0, v, y2, y3, y4, y5, y6, y7, y8, y9] t) := by
  unfold Blk at *
  simp [World.setCell, Array.getElem?_modify, h]
theorem Blk.s2 {W : World} {P t : Nat} {y0 y1 y2 y3 y4 y5 y6 y7 y8 y9 : Value} (h : Blk W P (.cells #[y0, y1, y2, y3, y4, y5, y6, y7, y8, y9] t)) (v : Value) : Blk (W.setCell ⟨P, 2, none⟩ v) P (.cells #[y0, y1, v, y3, y4, y5, y6, y7, y8, y9] t) := by
  unfold Blk at *
  simp [World.setCell, Array.getElem?_modify, h]
theorem Blk.s3 {W : World} {P t : Nat} {y0 y1 y2 y3 y4 y5 y6 y7 y8 y9 : Value} (h : Blk W P (.cells #[y0, y1, y2, y3, y4, y5, y6, y7, y8, y9] t)) (v : Value) : Blk (W.setCell ⟨P, 3, none⟩ v) P (.cells #[y0, y1, y2, v, y4, y5, y6, y7, y8, y9] t) := by
  unfold Blk at *
  simp [World.setCell, Array.getElem?_modify, h]
theorem Blk.s5 {W : World} {P t : Nat} {y0 y1 y2 y3 y4 y5 y6 y7 y8 y9 : Value} (h : Blk W P (.cells #[y0, y1, y2, y3, y4, y5, y6, y7, y8, y9] t)) (v : Value) : Blk (W.setCell ⟨P, 5, none⟩ v) P (.cells #[y0, y1, y2, y3, y4, v, y6, y7, y8, y9] t) := by
  unfold Blk at *
  simp [World.setCell, Array.getElem?_modify, h]
theorem Blk.s8 {W : World} {P t : Nat} {y0 y1 y2 y3 y4 y5 y6 y7 y8 y9 : Value} (h : Blk W P (.cells #[y0, y1, y2, y3, y4, y5, y6, y7, y8, y9] t)) (v : Value) : Blk (W.setCell ⟨P, 8, none⟩ v) P (.cells #[y0, y1, y2, y3, y4, y5, y6, y7, v, y9] t) := by
  unfold Blk at *
  simp [World.setCell, Array.getElem?_modify, h]
theorem Below.asGrown {a b : World} {P : Nat} (h : Below a.heap.size a b) : a.grownBy b (some P) := by
  obtain ⟨h1, h2, h3, h4, h5⟩ := h
  exact ⟨h1, h2, h3, h4, fun k hk _ => h5 k hk⟩

set_option maxRecDepth 100000 in
set_option maxHeartbeats 4000000 in
theorem markObjectS_any (a : Option Addr) (b n cap : Nat) (x0 x1 x2 x3 : Int) (d : ByteArray) (x4 : Int) (k0 : Int) (w : World) (hn : n ≤ 1) (h0 : 0 ≤ k0) (h1 : k0 ≤ 1000) (hr : Obj1 w a b n x0 x1 x2 x3 d x4) :
    Calls Try.prog 26 #[.slice a n cap, .int .i64 k0] w fun e w' => e = .returned (.int .i64 (k0 + 6 * n)) ∧ w.grownBy w' (some b) ∧ ObjM w' a b n k0 := by
  go_enter Try.func26, Try.ntmps26
  go_wp2
  go_loopw [1, 5] (fun kk i wr => ∃ j : Nat, j ≤ n ∧ i = .int .i64 j ∧ kk = .int .i64 (k0 + 6 * j) ∧ w.grownBy wr (some b) ∧ (j = 0 → wr = w) ∧ (j = 1 → ObjM wr a b n k0)) (fun _ i _ => n - (intOf i).toNat)
  case atStart => exact ⟨0, Nat.zero_le _, rfl, by simp, grown_refl _ _, fun _ => rfl, fun h => by omega⟩
  case round =>
    obtain ⟨j, hj, rfl, rfl, hg, hz, hm⟩ := hrel
    by_cases hlt : j < n
    · obtain rfl : j = 0 := by omega
      obtain rfl := hz rfl
      obtain rfl : n = 1 := by omega
      clear hz hm
      obtain ⟨rfl, A⟩ := hr (by omega)
      obtain ⟨a0, a1, a2, a3, a4, a5, a6, a7, a8, a9⟩ := A.ten
      have fz := fun i => A.frozenT i
      clear hr
      have A1 := (((A.s0 (.int .i64 k0)).s1 (.int .i64 (k0 + 1))).s2 (.int .i64 (k0 + 1 + 1))).s3 (.int .i64 (k0 + 1 + 1 + 1))
      have g1 := grown_set (grown_set (grown_set (grown_set hg 0 (.int .i64 k0)) 1 (.int .i64 (k0 + 1))) 2 (.int .i64 (k0 + 1 + 1))) 3 (.int .i64 (k0 + 1 + 1 + 1))
      go_wp2_with (go_at_call 44; refine (markCatS_nil _ _).mono ?_; rintro e w' ⟨rfl, rfl⟩)
      generalize ((((wr.setCell ⟨b, 0, none⟩ (.int .i64 k0)).setCell ⟨b, 1, none⟩ (.int .i64 (k0 + 1))).setCell ⟨b, 2, none⟩ (.int .i64 (k0 + 1 + 1))).setCell ⟨b, 3, none⟩ (.int .i64 (k0 + 1 + 1 + 1))) = V at *
      refine (markTextI_any _ _ (by omega) (by omega)).mono ?_
      rintro e w5 ⟨rfl, hb5⟩
      have A5 := A1.below hb5
      have g5 : wr.grownBy w5 (some b) := grown_trans g1 (Below.asGrown (P := w5.heap.size) hb5) (fun j e => by cases e; exact Nat.le_trans g1.size hb5.size)
      clear a0 a1 a2 a3 a4 a5 a6 a7 a8 a9 fz A A1
      obtain ⟨a0, a1, a2, a3, a4, a5, a6, a7, a8, a9⟩ := A5.ten
      have fz := fun i => A5.frozenT i
      have A6 := (A5.s5 (.string (mkD k0))).s8 (.int .i64 (k0 + 1 + 1 + 1 + 1 + 1))
      have g6 := grown_set (grown_set g5 5 (.string (mkD k0))) 8 (.int .i64 (k0 + 1 + 1 + 1 + 1 + 1))
      have HD : Hid (mkD k0 = ⟨(109 :: digs (k0 + 1 + 1 + 1 + 1).toNat).toArray⟩) := rfl
      rw [← HD.out]
      generalize mkD k0 = D at *
      clear g1 g5 hb5
      go_wp2_with (first
        | (go_at_call 46; refine (markStringS_nil _ _).mono ?_; rintro e w' ⟨rfl, rfl⟩)
        | (go_at_call 20; refine (markInt64S_nil _ _).mono ?_; rintro e w' ⟨rfl, rfl⟩)
        | (go_at_call 44; refine (markCatS_nil _ _).mono ?_; rintro e w' ⟨rfl, rfl⟩))
      go_roundw
      case rel =>
        refine ⟨1, by omega, by go_num, by go_num, g6, fun h => by omega, fun _ _ => ⟨rfl, ?_⟩⟩
        have e : D = mkD k0 := HD.out
        subst e
        exact A6
      case measure => simp [intOf]
    · go_wp2
      go_ret
      have e : j = n := by omega
      subst e
      refine ⟨rfl, hg, fun h => ?_⟩
      have e1 : j = 1 := by omega
      exact hm e1 h

set_option maxRecDepth 100000 in
set_option maxHeartbeats 4000000 in
theorem heldObjectS_any (a : Option Addr) (b n cap : Nat) (k0 : Int) (w : World) (hn : n ≤ 1) (h0 : 0 ≤ k0) (h1 : k0 ≤ 1000) (hr : ObjM w a b n k0) :
    Calls Try.prog 28 #[.slice a n cap, .int .i64 k0] w fun e w' => e = .returned (.int .i64 (k0 + 6 * n)) ∧ Below w.heap.size w w' := by
  go_enter Try.func28, Try.ntmps28
  go_wp2
  go_loopw [1, 5] (fun kk i wr => ∃ j : Nat, j ≤ n ∧ i = .int .i64 j ∧ kk = .int .i64 (k0 + 6 * j) ∧ Below w.heap.size w wr) (fun _ i _ => n - (intOf i).toNat)
  case atStart => exact ⟨0, Nat.zero_le _, rfl, by simp, Below.refl _ _⟩
  case round =>
    obtain ⟨j, hj, rfl, rfl, hB⟩ := hrel
    by_cases hlt : j < n
    · obtain rfl : j = 0 := by omega
      obtain rfl : n = 1 := by omega
      obtain ⟨rfl, A0⟩ := hr (by omega)
      have A := A0.below hB
      obtain ⟨a0, a1, a2, a3, a4, a5, a6, a7, a8, a9⟩ := A.ten
      clear hr A0
      have MT : Hid (∀ v : World, Calls Try.prog 45 #[.int .i64 (k0 + 1 + 1 + 1 + 1)] v fun e w' => e = .returned (.string (mkD k0)) ∧ Below v.heap.size v w') := fun v => markTextI_any _ _ (by omega) (by omega)
      generalize mkD k0 = D at *
      have Ad : Blk wr.drew b (.cells #[.int .i64 k0, .int .i64 (k0 + 1), .int .i64 (k0 + 1 + 1), .int .i64 (k0 + 1 + 1 + 1), .slice none 0 0, .string D, .slice none 0 0, .slice none 0 0, .int .i64 (k0 + 1 + 1 + 1 + 1 + 1), .slice none 0 0] 54) := A
      go_wp2_with (go_at_call 47; refine (heldCatS_nil _ _).mono ?_; rintro e w' ⟨rfl, rfl⟩)
      go_region_held3 (fun w' => w'.cell? ⟨b, 5, none⟩ = some (.string D)) (go_keep)
        (first | (go_at_call 45; refine (MT.out _).mono ?_; rintro e w1 ⟨rfl, hb1⟩; obtain ⟨p0, p1, p2, p3, p4, p5, p6, p7, p8, p9⟩ := (Ad.below hb1).ten))
      have A1 := Ad.below hb1
      have hB1 : Below w.heap.size w w1 := hB.drew.trans (hb1.mono hB.size)
      clear a0 a1 a2 a3 a4 a5 a6 a7 a8 a9 p0 p1 p2 p3 p4 p5 p6 p7 p8 p9 Ad hb1 MT
      obtain ⟨a0, a1, a2, a3, a4, a5, a6, a7, a8, a9⟩ := A1.ten
      go_wp2_with (first
        | (go_at_call 48; refine (heldStringS_nil _ _).mono ?_; rintro e w' ⟨rfl, rfl⟩)
        | (go_at_call 21; refine (heldInt64S_nil _ _).mono ?_; rintro e w' ⟨rfl, rfl⟩)
        | (go_at_call 47; refine (heldCatS_nil _ _).mono ?_; rintro e w' ⟨rfl, rfl⟩))
      go_roundw
      case rel => exact ⟨1, by omega, by go_num, by go_num, hB1⟩
      case measure => simp [intOf]
    · clear hr
      go_wp2
      go_ret
      have e : j = n := by omega
      subst e
      exact ⟨rfl, hB⟩
end Go.Proofs.Ytlpbiigiecpknaa
