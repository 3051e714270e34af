/- What a step may have by its kind: usesOf, numberOk, catOk, isZeroLabel of the program, l4None of the model. -/
import Derived.Test.YtcpphobokdkkeaaDoorHA
namespace Go.Proofs.YtcpphobokdkkeaaDoor
open Go.RowKit Go.Deep

def zeroB (base : Int) (n : Nat) : Bool := (base == 0) && (n == 0)
def uId (kind : Int) : Bool := kind == 2 || kind == 3 || kind == 4 || kind == 5 || kind == 6 || kind == 7 || kind == 8 || kind == 9 || kind == 10 || kind == 11 || kind == 13 || kind == 15
def uTo (kind : Int) : Bool := kind == 8
def uCat (kind : Int) : Bool := kind == 5 || kind == 14
def uData (kind : Int) : Bool := kind == 6 || kind == 9
def uLabel (kind : Int) : Bool := kind == 2 || kind == 3 || kind == 4 || kind == 5 || kind == 12
def uClear (kind : Int) : Bool := kind == 5
def uOk (kind : Int) : Bool := kind == 1 || kind == 2 || kind == 3 || kind == 4 || kind == 5 || kind == 6 || kind == 7 || kind == 8 || kind == 9 || kind == 10 || kind == 11 || kind == 12 || kind == 13 || kind == 14 || kind == 15
def numB (n : Int) (used : Bool) : Bool := if used then inB n 1 9030 else n == 0
def catB (kind cat : Int) (used : Bool) : Bool := if cat == 0 then kind != 14 else used && inB cat 1 9999

theorem isZero_any (base : Int) (a : Option Addr) (n cap : Nat) (w : World) (hn : n ≤ maxLen) :
    Calls Tryd.prog 39 #[.agg #[.int .i64 base, .slice a n cap]] w fun e w' => e = .returned (.bool (zeroB base n)) ∧ Below w.heap.size w w' := by
  unfold maxLen at hn
  have hb0 := (Below.refl _ w).alloc (Nat.le_refl _) (.cells #[.int .i64 base, .slice a n cap] 31)
  cases t : (base == 0) with
  | true =>
    go_enter Tryd.func39, Tryd.ntmps39
    go_wp2
    go_ret
    refine ⟨ret_bool ?_, hb0⟩
    unfold zeroB
    rw [t, Bool.true_and]
    by_cases e : n = 0
    · subst e; rfl
    · have e1 : (n == 0) = false := by simpa using e
      rw [e1]
      simp
      omega
  | false =>
    go_enter Tryd.func39, Tryd.ntmps39
    go_wp2
    go_ret
    exact ⟨ret_bool (by simp [zeroB, t]), hb0⟩

theorem l4None_any (base : Int) (a : Option Addr) (n cap : Nat) (w : World) (hn : n ≤ maxLen) :
    Calls Tryd.prog 33 #[.agg #[.int .i64 base, .slice a n cap]] w fun e w' => e = .returned (.bool (zeroB base n)) ∧ Below w.heap.size w w' := by
  unfold maxLen at hn
  have hb0 := (Below.refl _ w).alloc (Nat.le_refl _) (.cells #[.int .i64 base, .slice a n cap] 31)
  cases t : (base == 0) with
  | true =>
    go_enter Tryd.func33, Tryd.ntmps33
    go_wp2
    go_ret
    refine ⟨ret_bool ?_, hb0⟩
    unfold zeroB
    rw [t, Bool.true_and]
    by_cases e : n = 0
    · subst e; rfl
    · have e1 : (n == 0) = false := by simpa using e
      rw [e1]
      simp
      omega
  | false =>
    go_enter Tryd.func33, Tryd.ntmps33
    go_wp2
    go_ret
    exact ⟨ret_bool (by simp [zeroB, t]), hb0⟩

theorem numberOk_any (n : Int) (used : Bool) (w : World) :
    Calls Tryd.prog 41 #[.int .i64 n, .bool used] w fun e w' => e = .returned (.bool (numB n used)) ∧ w' = w := by
  cases used with
  | false =>
    go_enter Tryd.func41, Tryd.ntmps41
    go_wp2
    go_ret
    exact ⟨ret_bool (by simp [numB]), rfl⟩
  | true =>
    go_enter Tryd.func41, Tryd.ntmps41
    go_wp2
    · go_ret
      exact ⟨ret_bool (by simp only [numB, if_true]; exact (inB_yes ‹_›).symm), rfl⟩
    · go_ret
      exact ⟨ret_bool (by simp only [numB, if_true]; exact (inB_no ‹_›).symm), rfl⟩

set_option maxRecDepth 100000 in
set_option maxHeartbeats 4000000 in
theorem usesOf_any (kind : Int) (w : World) :
    Calls Tryd.prog 37 #[.int .i64 kind] w fun e w' => e = .returned (.tuple #[.agg #[.bool (uId kind), .bool (uTo kind), .bool (uCat kind), .bool (uData kind), .bool (uLabel kind), .bool (uClear kind)], .bool (uOk kind)]) ∧ Below w.heap.size w w' := by
  by_cases h1 : kind = 1
  · subst h1
    go_enter Tryd.func37, Tryd.ntmps37
    go_wp2
    refine bodyPost_ret (v := .tuple #[.agg #[.bool false, .bool false, .bool false, .bool false, .bool false, .bool false], .bool true]) (by simp [results, Tryd.results37, go_sem]) rfl ⟨by rfl, (Below.refl _ w).alloc (Nat.le_refl _) _⟩
  by_cases h2 : kind = 2
  · subst h2
    go_enter Tryd.func37, Tryd.ntmps37
    go_wp2
    refine bodyPost_ret (v := .tuple #[.agg #[.bool true, .bool false, .bool false, .bool false, .bool true, .bool false], .bool true]) (by simp [results, Tryd.results37, go_sem]) rfl ⟨by rfl, (Below.refl _ w).alloc (Nat.le_refl _) _⟩
  by_cases h3 : kind = 3
  · subst h3
    go_enter Tryd.func37, Tryd.ntmps37
    go_wp2
    refine bodyPost_ret (v := .tuple #[.agg #[.bool true, .bool false, .bool false, .bool false, .bool true, .bool false], .bool true]) (by simp [results, Tryd.results37, go_sem]) rfl ⟨by rfl, (Below.refl _ w).alloc (Nat.le_refl _) _⟩
  by_cases h4 : kind = 4
  · subst h4
    go_enter Tryd.func37, Tryd.ntmps37
    go_wp2
    refine bodyPost_ret (v := .tuple #[.agg #[.bool true, .bool false, .bool false, .bool false, .bool true, .bool false], .bool true]) (by simp [results, Tryd.results37, go_sem]) rfl ⟨by rfl, (Below.refl _ w).alloc (Nat.le_refl _) _⟩
  by_cases h5 : kind = 5
  · subst h5
    go_enter Tryd.func37, Tryd.ntmps37
    go_wp2
    refine bodyPost_ret (v := .tuple #[.agg #[.bool true, .bool false, .bool true, .bool false, .bool true, .bool true], .bool true]) (by simp [results, Tryd.results37, go_sem]) rfl ⟨by rfl, (Below.refl _ w).alloc (Nat.le_refl _) _⟩
  by_cases h6 : kind = 6
  · subst h6
    go_enter Tryd.func37, Tryd.ntmps37
    go_wp2
    refine bodyPost_ret (v := .tuple #[.agg #[.bool true, .bool false, .bool false, .bool true, .bool false, .bool false], .bool true]) (by simp [results, Tryd.results37, go_sem]) rfl ⟨by rfl, (Below.refl _ w).alloc (Nat.le_refl _) _⟩
  by_cases h7 : kind = 7
  · subst h7
    go_enter Tryd.func37, Tryd.ntmps37
    go_wp2
    refine bodyPost_ret (v := .tuple #[.agg #[.bool true, .bool false, .bool false, .bool false, .bool false, .bool false], .bool true]) (by simp [results, Tryd.results37, go_sem]) rfl ⟨by rfl, (Below.refl _ w).alloc (Nat.le_refl _) _⟩
  by_cases h8 : kind = 8
  · subst h8
    go_enter Tryd.func37, Tryd.ntmps37
    go_wp2
    refine bodyPost_ret (v := .tuple #[.agg #[.bool true, .bool true, .bool false, .bool false, .bool false, .bool false], .bool true]) (by simp [results, Tryd.results37, go_sem]) rfl ⟨by rfl, (Below.refl _ w).alloc (Nat.le_refl _) _⟩
  by_cases h9 : kind = 9
  · subst h9
    go_enter Tryd.func37, Tryd.ntmps37
    go_wp2
    refine bodyPost_ret (v := .tuple #[.agg #[.bool true, .bool false, .bool false, .bool true, .bool false, .bool false], .bool true]) (by simp [results, Tryd.results37, go_sem]) rfl ⟨by rfl, (Below.refl _ w).alloc (Nat.le_refl _) _⟩
  by_cases h10 : kind = 10
  · subst h10
    go_enter Tryd.func37, Tryd.ntmps37
    go_wp2
    refine bodyPost_ret (v := .tuple #[.agg #[.bool true, .bool false, .bool false, .bool false, .bool false, .bool false], .bool true]) (by simp [results, Tryd.results37, go_sem]) rfl ⟨by rfl, (Below.refl _ w).alloc (Nat.le_refl _) _⟩
  by_cases h11 : kind = 11
  · subst h11
    go_enter Tryd.func37, Tryd.ntmps37
    go_wp2
    refine bodyPost_ret (v := .tuple #[.agg #[.bool true, .bool false, .bool false, .bool false, .bool false, .bool false], .bool true]) (by simp [results, Tryd.results37, go_sem]) rfl ⟨by rfl, (Below.refl _ w).alloc (Nat.le_refl _) _⟩
  by_cases h12 : kind = 12
  · subst h12
    go_enter Tryd.func37, Tryd.ntmps37
    go_wp2
    refine bodyPost_ret (v := .tuple #[.agg #[.bool false, .bool false, .bool false, .bool false, .bool true, .bool false], .bool true]) (by simp [results, Tryd.results37, go_sem]) rfl ⟨by rfl, (Below.refl _ w).alloc (Nat.le_refl _) _⟩
  by_cases h13 : kind = 13
  · subst h13
    go_enter Tryd.func37, Tryd.ntmps37
    go_wp2
    refine bodyPost_ret (v := .tuple #[.agg #[.bool true, .bool false, .bool false, .bool false, .bool false, .bool false], .bool true]) (by simp [results, Tryd.results37, go_sem]) rfl ⟨by rfl, (Below.refl _ w).alloc (Nat.le_refl _) _⟩
  by_cases h14 : kind = 14
  · subst h14
    go_enter Tryd.func37, Tryd.ntmps37
    go_wp2
    refine bodyPost_ret (v := .tuple #[.agg #[.bool false, .bool false, .bool true, .bool false, .bool false, .bool false], .bool true]) (by simp [results, Tryd.results37, go_sem]) rfl ⟨by rfl, (Below.refl _ w).alloc (Nat.le_refl _) _⟩
  by_cases h15 : kind = 15
  · subst h15
    go_enter Tryd.func37, Tryd.ntmps37
    go_wp2
    refine bodyPost_ret (v := .tuple #[.agg #[.bool true, .bool false, .bool false, .bool false, .bool false, .bool false], .bool true]) (by simp [results, Tryd.results37, go_sem]) rfl ⟨by rfl, (Below.refl _ w).alloc (Nat.le_refl _) _⟩
  have g1 : (kind == 1) = false := by simpa using h1
  have g2 : (kind == 2) = false := by simpa using h2
  have g3 : (kind == 3) = false := by simpa using h3
  have g4 : (kind == 4) = false := by simpa using h4
  have g5 : (kind == 5) = false := by simpa using h5
  have g6 : (kind == 6) = false := by simpa using h6
  have g7 : (kind == 7) = false := by simpa using h7
  have g8 : (kind == 8) = false := by simpa using h8
  have g9 : (kind == 9) = false := by simpa using h9
  have g10 : (kind == 10) = false := by simpa using h10
  have g11 : (kind == 11) = false := by simpa using h11
  have g12 : (kind == 12) = false := by simpa using h12
  have g13 : (kind == 13) = false := by simpa using h13
  have g14 : (kind == 14) = false := by simpa using h14
  have g15 : (kind == 15) = false := by simpa using h15
  clear h1 h2 h3 h4 h5 h6 h7 h8 h9 h10 h11 h12 h13 h14 h15
  go_enter Tryd.func37, Tryd.ntmps37
  go_wp2
  refine bodyPost_ret (v := .tuple #[.agg #[.bool false, .bool false, .bool false, .bool false, .bool false, .bool false], .bool false]) (by simp [results, Tryd.results37, go_sem]) rfl ⟨by simp [uId, uTo, uCat, uData, uLabel, uClear, uOk, g1, g2, g3, g4, g5, g6, g7, g8, g9, g10, g11, g12, g13, g14, g15], (Below.refl _ w).alloc (Nat.le_refl _) _⟩
end Go.Proofs.YtcpphobokdkkeaaDoor
