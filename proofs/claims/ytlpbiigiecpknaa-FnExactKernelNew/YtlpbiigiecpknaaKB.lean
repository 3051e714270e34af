/- Rows of threads that own nothing and whose labels name no category. -/
import Derived.Test.YtlpbiigiecpknaaKA
import Derived.Test.YtlpbiigiecpknaaM
namespace Go.Proofs.Ytlpbiigiecpknaa
open Go.RowKit Go.Deep Go.Maps

/-- cell j of such a row: of thread i its Id, its two bases, its Made are the numbers F i 0 .. F i 3 -/
def cell7 (F : Nat → Nat → Int) (j : Nat) : Value := match j % 7 with
  | 0 => .int .i64 (F (j / 7) 0)
  | 1 => .int .i64 (F (j / 7) 1)
  | 2 => .slice none 0 0
  | 3 => .int .i64 (F (j / 7) 2)
  | 4 => .slice none 0 0
  | 5 => .slice none 0 0
  | _ => .int .i64 (F (j / 7) 3)

theorem cell7_0 (F : Nat → Nat → Int) (i : Nat) : cell7 F (i * 7) = .int .i64 (F i 0) := by
  have h1 : i * 7 % 7 = 0 := by omega
  have h2 : i * 7 / 7 = i := by omega
  simp only [cell7, h1, h2]
theorem cell7_1 (F : Nat → Nat → Int) (i : Nat) : cell7 F (i * 7 + 1) = .int .i64 (F i 1) := by
  have h1 : (i * 7 + 1) % 7 = 1 := by omega
  have h2 : (i * 7 + 1) / 7 = i := by omega
  simp only [cell7, h1, h2]
theorem cell7_2 (F : Nat → Nat → Int) (i : Nat) : cell7 F (i * 7 + 2) = .slice none 0 0 := by
  have h1 : (i * 7 + 2) % 7 = 2 := by omega
  simp only [cell7, h1]
theorem cell7_3 (F : Nat → Nat → Int) (i : Nat) : cell7 F (i * 7 + 3) = .int .i64 (F i 2) := by
  have h1 : (i * 7 + 3) % 7 = 3 := by omega
  have h2 : (i * 7 + 3) / 7 = i := by omega
  simp only [cell7, h1, h2]
theorem cell7_4 (F : Nat → Nat → Int) (i : Nat) : cell7 F (i * 7 + 4) = .slice none 0 0 := by
  have h1 : (i * 7 + 4) % 7 = 4 := by omega
  simp only [cell7, h1]
theorem cell7_5 (F : Nat → Nat → Int) (i : Nat) : cell7 F (i * 7 + 5) = .slice none 0 0 := by
  have h1 : (i * 7 + 5) % 7 = 5 := by omega
  simp only [cell7, h1]
theorem cell7_6 (F : Nat → Nat → Int) (i : Nat) : cell7 F (i * 7 + 6) = .int .i64 (F i 3) := by
  have h1 : (i * 7 + 6) % 7 = 6 := by omega
  have h2 : (i * 7 + 6) / 7 = i := by omega
  simp only [cell7, h1, h2]
theorem cell7_congr {F G : Nat → Nat → Int} {j : Nat} (h : ∀ k, F (j / 7) k = G (j / 7) k) : cell7 F j = cell7 G j := by
  unfold cell7
  rw [h 0, h 1, h 2, h 3]

/-- n such threads lie from the beginning of block b -/
def Thr (w : World) (a : Option Addr) (b n : Nat) (F : Nat → Nat → Int) : Prop := 0 < n → a = some ⟨b, 0, none⟩ ∧ ∃ m C, n * 7 ≤ m ∧ w.rowIs b 56 m C ∧ ∀ j, j < n * 7 → C j = cell7 F j

theorem Thr.below {w w' : World} {a : Option Addr} {b n : Nat} {F : Nat → Nat → Int} (h : Thr w a b n F) (hb : Below w.heap.size w w') : Thr w' a b n F := fun h0 => by
  obtain ⟨e, m, C, hm, hr, hc⟩ := h h0
  exact ⟨e, m, C, hm, hr.of_block (hb.block b hr.lt), hc⟩
theorem Thr.grown {w w' : World} {a : Option Addr} {b n : Nat} {F : Nat → Nat → Int} {row : Option Nat} (h : Thr w a b n F) (hg : w.grownBy w' row) (hne : some b ≠ row) : Thr w' a b n F := fun h0 => by
  obtain ⟨e, m, C, hm, hr, hc⟩ := h h0
  exact ⟨e, m, C, hm, hr.of_block (hg.block b hr.lt hne), hc⟩
theorem Thr.lt {w : World} {a : Option Addr} {b n : Nat} {F : Nat → Nat → Int} (h : Thr w a b n F) (h0 : 0 < n) : b < w.heap.size := by
  obtain ⟨_, m, C, _, hr, _⟩ := h h0
  exact hr.lt
/-- the seven cells of thread i -/
theorem Thr.cells {w : World} {a : Option Addr} {b n : Nat} {F : Nat → Nat → Int} (h : Thr w a b n F) {i : Nat} (hi : i < n) :
    w.cell? ⟨b, i * 7, none⟩ = some (.int .i64 (F i 0)) ∧ w.cell? ⟨b, i * 7 + 1, none⟩ = some (.int .i64 (F i 1)) ∧ w.cell? ⟨b, i * 7 + 2, none⟩ = some (.slice none 0 0) ∧ w.cell? ⟨b, i * 7 + 3, none⟩ = some (.int .i64 (F i 2)) ∧ w.cell? ⟨b, i * 7 + 4, none⟩ = some (.slice none 0 0) ∧ w.cell? ⟨b, i * 7 + 5, none⟩ = some (.slice none 0 0) ∧ w.cell? ⟨b, i * 7 + 6, none⟩ = some (.int .i64 (F i 3)) := by
  obtain ⟨e, m, C, hm, hr, hc⟩ := h (by omega)
  have g : ∀ j, j < n * 7 → w.cell? ⟨b, j, none⟩ = some (cell7 F j) := fun j hj => by rw [hr.cell (by omega), hc j hj]
  refine ⟨?_, ?_, ?_, ?_, ?_, ?_, ?_⟩
  · rw [g _ (by omega), cell7_0]
  · rw [g _ (by omega), cell7_1]
  · rw [g _ (by omega), cell7_2]
  · rw [g _ (by omega), cell7_3]
  · rw [g _ (by omega), cell7_4]
  · rw [g _ (by omega), cell7_5]
  · rw [g _ (by omega), cell7_6]

theorem nocats (w : World) (f g : Nat → Int) : CatsAt w none 0 f g := fun h => by omega
theorem noints (w : World) (f : Nat → Int) : IntsAt w none 0 f := fun h => by omega

theorem eqThread_plain (x y z u : Int) (w : World) :
    Calls Try.prog 42 #[.agg #[.int .i64 x, .int .i64 y, .slice none 0 0, .int .i64 z, .slice none 0 0, .slice none 0 0, .int .i64 u], .agg #[.int .i64 x, .int .i64 y, .slice none 0 0, .int .i64 z, .slice none 0 0, .slice none 0 0, .int .i64 u]] w fun e w' => e = .returned (.bool true) ∧ Below w.heap.size w w' :=
  eqThread_true x u y none 0 0 (fun _ => 0) (fun _ => 0) z none 0 0 (fun _ => 0) (fun _ => 0) none 0 0 (fun _ => 0) none 0 none 0 none 0 w (by unfold maxLen; omega) (by unfold maxLen; omega) (by unfold maxLen; omega) (nocats _ _ _) (nocats _ _ _) (noints _ _) (nocats _ _ _) (nocats _ _ _) (noints _ _)

set_option maxRecDepth 100000 in
set_option maxHeartbeats 2000000 in
theorem eqThreadS_true (a a' : Option Addr) (b b' n cap cap' : Nat) (F : Nat → Nat → Int) (w : World) (hn : n ≤ 9) (h : Thr w a b n F) (h' : Thr w a' b' n F) :
    Calls Try.prog 23 #[.slice a n cap, .slice a' n cap'] w fun e w' => e = .returned (.bool true) ∧ Below w.heap.size w w' := by
  go_enter Try.func23, Try.ntmps23
  go_wp2
  go_loopw [5] (fun i wr => ∃ k : Nat, k ≤ n ∧ i = .int .i64 k ∧ Below w.heap.size w wr) (fun i _ => n - (intOf i).toNat)
  case atStart => exact ⟨0, Nat.zero_le _, rfl, Below.refl _ _⟩
  case round =>
    obtain ⟨k, hk, rfl, hB⟩ := hrel
    by_cases hlt' : k < n
    · obtain ⟨rfl, _⟩ := h (by omega)
      obtain ⟨rfl, _⟩ := h' (by omega)
      have T := h.below hB
      have T' := h'.below hB
      obtain ⟨g0, g1, g2, g3, g4, g5, g6⟩ := T.cells hlt'
      obtain ⟨h0, h1, h2, h3, h4, h5, h6⟩ := T'.cells hlt'
      have i0 : (0 : Int) ≤ (k : Int) := by omega
      have i1 : (k : Int) < (n : Int) := by omega
      have Td : Thr wr.drew (some ⟨b, 0, none⟩) b n F := T
      have Td' : Thr wr.drew (some ⟨b', 0, none⟩) b' n F := T'
      clear h h' T T'
      go_wp2_with fail
      go_region_held3 (fun w' => w'.cell? ⟨b, k * 7, none⟩ = some (.int .i64 (F k 0)) ∧ w'.cell? ⟨b, k * 7 + 1, none⟩ = some (.int .i64 (F k 1)) ∧ w'.cell? ⟨b, k * 7 + 2, none⟩ = some (.slice none 0 0) ∧ w'.cell? ⟨b, k * 7 + 3, none⟩ = some (.int .i64 (F k 2)) ∧ w'.cell? ⟨b, k * 7 + 4, none⟩ = some (.slice none 0 0) ∧ w'.cell? ⟨b, k * 7 + 5, none⟩ = some (.slice none 0 0) ∧ w'.cell? ⟨b, k * 7 + 6, none⟩ = some (.int .i64 (F k 3)) ∧ w'.cell? ⟨b', k * 7, none⟩ = some (.int .i64 (F k 0)) ∧ w'.cell? ⟨b', k * 7 + 1, none⟩ = some (.int .i64 (F k 1)) ∧ w'.cell? ⟨b', k * 7 + 2, none⟩ = some (.slice none 0 0) ∧ w'.cell? ⟨b', k * 7 + 3, none⟩ = some (.int .i64 (F k 2)) ∧ w'.cell? ⟨b', k * 7 + 4, none⟩ = some (.slice none 0 0) ∧ w'.cell? ⟨b', k * 7 + 5, none⟩ = some (.slice none 0 0) ∧ w'.cell? ⟨b', k * 7 + 6, none⟩ = some (.int .i64 (F k 3))) (go_keep)
        (first | (go_at_call 42; refine (eqThread_plain _ _ _ _ _).mono ?_; rintro e w1 ⟨rfl, hb1⟩; obtain ⟨p0, p1, p2, p3, p4, p5, p6⟩ := (Td.below hb1).cells hlt'; obtain ⟨q0, q1, q2, q3, q4, q5, q6⟩ := (Td'.below hb1).cells hlt'))
      have hB1 : Below w.heap.size w w1 := hB.drew.trans (hb1.mono hB.size)
      clear g0 g1 g2 g3 g4 g5 g6 h0 h1 h2 h3 h4 h5 h6 p0 p1 p2 p3 p4 p5 p6 q0 q1 q2 q3 q4 q5 q6 Td Td' hb1
      go_wp2
      go_roundw
      case rel => exact ⟨k + 1, by omega, by go_num, hB1⟩
      case measure => simp [intOf]; omega
    · clear h h'
      go_wp2
      go_ret
      exact ⟨rfl, hB⟩
end Go.Proofs.Ytlpbiigiecpknaa
