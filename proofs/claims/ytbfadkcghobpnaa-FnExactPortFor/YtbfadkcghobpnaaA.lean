/- Routes: the copies that the exact laws make, and their comparison. -/
import Derived.Test.YtbfadkcghobpnaaNK
import Derived.Deep.OwnRows
import Derived.Deep.RegionHeld3
namespace Go.Proofs.Ytbfadkcghobpnaa
open Go Go.RowKit Go.Deep

theorem Try.info35 : (Try.prog.info? 35).map (fun i => (i.zero, i.size, i.bytes)) = some (some (.agg #[.int .i64 0, .int .i64 0, .int .i64 0]), 3, 24) := by kernel_rfl
theorem bcell {W w1 : World} (hb : Below W.heap.size W w1) : (∀ b o, b < W.heap.size → w1.cell? ⟨b, o, none⟩ = W.cell? ⟨b, o, none⟩) ∧ (∀ b o, b < W.heap.size → w1.frozen? ⟨b, o, none⟩ = W.frozen? ⟨b, o, none⟩) :=
  ⟨fun b o h => hb.cell (p := ⟨b, o, none⟩) h, fun b o h => hb.frozen (p := ⟨b, o, none⟩) h⟩

theorem run_make_rts (n : Nat) (hn : n ≤ 1048576) (w : World) :
    (Instr.makeSlice 25 (.int .i64 (n : Int)) (.int .i64 (n : Int))).run Try.prog w = .ok (.slice (some ⟨w.heap.size, 0, none⟩) n n) (w.alloc (.cells (madeCells #[.int .i64 0, .int .i64 0, .int .i64 0] (n * 3)) 35)) := by
  obtain ⟨i, hi, hzz⟩ := Option.map_eq_some_iff.1 Try.info35
  simp only [Prod.mk.injEq] at hzz
  obtain ⟨hz, hs, hb⟩ := hzz
  have hr := run_make (P := Try.prog) w 25 35 i _ Try.underlying25 hi hz .i64 .i64 n n (by omega) (Int.le_refl _) (by rw [hb]; omega) (by omega)
  simp only [Int.toNat_natCast, hs] at hr
  exact hr

/-- the numbers of a row of triples, cell by cell -/
def triCell (f g h : Nat → Int) (j : Nat) : Value := .int .i64 (if j % 3 = 0 then f (j / 3) else if j % 3 = 1 then g (j / 3) else h (j / 3))
def RtsAt (w : World) (a : Option Addr) (n : Nat) (f g h : Nat → Int) : Prop :=
  0 < n → ∃ b off, a = some ⟨b, off, none⟩ ∧ b < w.heap.size ∧ ∀ i, i < n → w.cell? ⟨b, off + i * 3, none⟩ = some (.int .i64 (f i)) ∧ w.cell? ⟨b, off + i * 3 + 1, none⟩ = some (.int .i64 (g i)) ∧ w.cell? ⟨b, off + i * 3 + 2, none⟩ = some (.int .i64 (h i))
theorem RtsAt.below {w w' : World} {a : Option Addr} {n : Nat} {f g h : Nat → Int} (H : RtsAt w a n f g h) (hb : Below w.heap.size w w') : RtsAt w' a n f g h := fun hn => by
  obtain ⟨b, off, rfl, hlt, hc⟩ := H hn
  obtain ⟨h1, _⟩ := bcell hb
  exact ⟨b, off, rfl, Nat.lt_of_lt_of_le hlt hb.size, fun i hi => by rw [h1 _ _ hlt, h1 _ _ hlt, h1 _ _ hlt]; exact hc i hi⟩
theorem tri0 (f g h : Nat → Int) (i : Nat) : triCell f g h (i * 3) = .int .i64 (f i) := by
  unfold triCell; rw [if_pos (by omega), show i * 3 / 3 = i by omega]
theorem tri1 (f g h : Nat → Int) (i : Nat) : triCell f g h (i * 3 + 1) = .int .i64 (g i) := by
  unfold triCell; rw [if_neg (by omega), if_pos (by omega), show (i * 3 + 1) / 3 = i by omega]
theorem tri2 (f g h : Nat → Int) (i : Nat) : triCell f g h (i * 3 + 2) = .int .i64 (h i) := by
  unfold triCell; rw [if_neg (by omega), if_neg (by omega), show (i * 3 + 2) / 3 = i by omega]
theorem RtsAt.row {w : World} {b n : Nat} {f g h : Nat → Int} (H : w.rowIs b 35 (n * 3) (triCell f g h)) : RtsAt w (some ⟨b, 0, none⟩) n f g h := fun _ => by
  refine ⟨b, 0, rfl, H.lt, fun i hi => ⟨?_, ?_, ?_⟩⟩
  · rw [Nat.zero_add, H.cell (i := i * 3) (by omega), tri0]
  · rw [Nat.zero_add, H.cell (i := i * 3 + 1) (by omega), tri1]
  · rw [Nat.zero_add, H.cell (i := i * 3 + 2) (by omega), tri2]
theorem made_row (w : World) (n : Nat) : (w.alloc (.cells (madeCells #[.int .i64 0, .int .i64 0, .int .i64 0] (n * 3)) 35)).rowIs w.heap.size 35 (n * 3) (triCell (fun _ => 0) (fun _ => 0) (fun _ => 0)) :=
  ⟨_, blk_alloc_new _ _, size_madeCells _ _, fun i hi => by
    have h3 : i % 3 = 0 ∨ i % 3 = 1 ∨ i % 3 = 2 := by omega
    rcases h3 with h | h | h <;> simp [madeCells, hi, triCell, h]⟩
def upto (k : Nat) (f : Nat → Int) (i : Nat) : Int := if i < k then f i else 0
theorem upto_zero (f : Nat → Int) : upto 0 f = fun _ => 0 := by funext i; simp [upto]
theorem upto_row {w : World} {b n k : Nat} {f g h : Nat → Int} (H : w.rowIs b 35 (n * 3) (triCell (upto k f) (upto k g) (upto k h))) :
    (((w.setCell ⟨b, k * 3, none⟩ (.int .i64 (f k))).setCell ⟨b, k * 3 + 1, none⟩ (.int .i64 (g k))).setCell ⟨b, k * 3 + 2, none⟩ (.int .i64 (h k))).rowIs b 35 (n * 3) (triCell (upto (k + 1) f) (upto (k + 1) g) (upto (k + 1) h)) := by
  refine (((H.set (k * 3) _).set (k * 3 + 1) _).set (k * 3 + 2) _).congr fun j _ => ?_
  by_cases e2 : j = k * 3 + 2
  · subst e2; simp only [if_true]; rw [tri2]; simp [upto]
  by_cases e1 : j = k * 3 + 1
  · subst e1; simp only [if_true, e2, if_false]; rw [tri1]; simp [upto]
  by_cases e0 : j = k * 3
  · subst e0; simp only [if_true, e1, e2, if_false]; rw [tri0]; simp [upto]
  · have a1 : (j / 3 < k + 1) = (j / 3 < k) := by apply propext; omega
    simp [triCell, upto, e0, e1, e2, a1]
theorem upto_done {w : World} {b n : Nat} {f g h : Nat → Int} (H : w.rowIs b 35 (n * 3) (triCell (upto n f) (upto n g) (upto n h))) : w.rowIs b 35 (n * 3) (triCell f g h) :=
  H.congr fun j hj => by have : j / 3 < n := by omega
                         simp [triCell, upto, this]
theorem World.rowIs.below {w w' : World} {B b n : Nat} {t : TypeId} {f : Nat → Value} (h : w.rowIs b t n f) (hb : Below B w w') (hB : b < B) : w'.rowIs b t n f := h.of_block (hb.block b hB)

set_option maxHeartbeats 1000000 in
theorem toRoute_any (x y z : Int) (w : World) : Calls Try.prog 14 #[.agg #[.int .i64 x, .int .i64 y, .int .i64 z]] w fun e w' => e = .returned (.agg #[.int .i64 x, .int .i64 y, .int .i64 z]) ∧ Below w.heap.size w w' := by
  go_enter Try.func14, Try.ntmps14
  go_wp2
  refine bodyPost_ret (v := .agg #[.int .i64 x, .int .i64 y, .int .i64 z]) (by simp [results, Try.results14, go_sem]) rfl ⟨rfl, ?_⟩
  exact (((Below.refl _ _).alloc (Nat.le_refl _) _).alloc (by simp) _).alloc (by simp; omega) _

theorem szRouteS_any (a : Option Addr) (n cap : Nat) (m : Int) (w : World) (hn : n ≤ maxLen) (h0 : 0 ≤ m) (h1 : m ≤ 1048576) : Calls Try.prog 6 #[.slice a n cap, .int .i64 m] w fun e w' => e = .returned (.int .i64 (if m - (n : Int) < 0 then -1 else m - n)) ∧ w' = w := by
  unfold maxLen at hn
  by_cases h : m - (n : Int) < 0
  · rw [if_pos h]
    go_enter Try.func6, Try.ntmps6
    go_wp2
    go_ret
    exact ⟨rfl, rfl⟩
  · rw [if_neg h]
    go_enter Try.func6, Try.ntmps6
    go_wp2
    go_ret
    exact ⟨rfl, rfl⟩

set_option maxHeartbeats 1000000 in
theorem toRouteS_any (a : Option Addr) (n cap : Nat) (f g h : Nat → Int) (w : World) (hn : n ≤ 1048576) (hc : RtsAt w a n f g h) :
    Calls Try.prog 8 #[.slice a n cap] w fun e w' => e = .returned (.slice (some ⟨w.heap.size, 0, none⟩) n n) ∧ w'.rowIs w.heap.size 35 (n * 3) (triCell f g h) ∧ Below w.heap.size w w' := by
  have hmk := run_make_rts n hn
  go_enter Try.func8, Try.ntmps8
  go_wp2
  go_loopw [4] (fun i wr => ∃ k : Nat, k ≤ n ∧ i = .int .i64 k ∧ wr.rowIs w.heap.size 35 (n * 3) (triCell (upto k f) (upto k g) (upto k h)) ∧ Below w.heap.size w wr) (fun i _ => n - (intOf i).toNat)
  case atStart => exact ⟨0, Nat.zero_le _, rfl, by rw [upto_zero, upto_zero, upto_zero]; exact made_row w n, (Below.refl _ _).alloc (Nat.le_refl _) _⟩
  case round =>
    obtain ⟨k, hk, rfl, hrow, hB⟩ := hrel
    clear hmk
    by_cases hlt' : k < n
    · obtain ⟨b, off, rfl, hlt, hc⟩ := hc (by omega)
      obtain ⟨h1, h2, h3⟩ := hc k hlt'
      have g1 : wr.cell? ⟨b, off + k * 3, none⟩ = some (.int .i64 (f k)) := (hB.cell (p := ⟨b, _, none⟩) hlt).trans h1
      have g2 : wr.cell? ⟨b, off + k * 3 + 1, none⟩ = some (.int .i64 (g k)) := (hB.cell (p := ⟨b, _, none⟩) hlt).trans h2
      have g3 : wr.cell? ⟨b, off + k * 3 + 2, none⟩ = some (.int .i64 (h k)) := (hB.cell (p := ⟨b, _, none⟩) hlt).trans h3
      clear h1 h2 h3 hc
      go_wp2_with fail
      refine (toRoute_any _ _ _ _).mono ?_
      rintro e w1 ⟨rfl, hb1⟩
      have hrow1 := World.rowIs.below hrow hb1 hrow.lt
      have c1 := hrow1.cell (i := k * 3) (by omega)
      have c2 := hrow1.cell (i := k * 3 + 1) (by omega)
      have c3 := hrow1.cell (i := k * 3 + 2) (by omega)
      have f1 := hrow1.frozen (k * 3)
      have f2 := hrow1.frozen (k * 3 + 1)
      have f3 := hrow1.frozen (k * 3 + 2)
      clear g1 g2 g3
      go_wp2
      go_roundw
      case rel => exact ⟨k + 1, by omega, by go_num, upto_row hrow1, (((hB.trans (hb1.mono hB.size)).setCell (Nat.le_refl _) _).setCell (Nat.le_refl _) _).setCell (Nat.le_refl _) _⟩
      case measure => simp [intOf]; omega
    · clear hc
      go_wp2
      go_ret
      have e : k = n := by omega
      subst e
      exact ⟨rfl, upto_done hrow, hB⟩

theorem eqRoute_true (x y z : Int) (w : World) : Calls Try.prog 21 #[.agg #[.int .i64 x, .int .i64 y, .int .i64 z], .agg #[.int .i64 x, .int .i64 y, .int .i64 z]] w fun e w' => e = .returned (.bool true) ∧ Below w.heap.size w w' := by
  go_enter Try.func21, Try.ntmps21
  go_wp2
  go_ret
  exact ⟨rfl, ((Below.refl _ _).alloc (Nat.le_refl _) _).alloc (by simp) _⟩

set_option maxHeartbeats 1000000 in
theorem eqRouteS_true (a a' : Option Addr) (n cap cap' : Nat) (f g h : Nat → Int) (w : World) (hn : n ≤ maxLen) (H : RtsAt w a n f g h) (H' : RtsAt w a' n f g h) :
    Calls Try.prog 10 #[.slice a n cap, .slice a' n cap'] w fun e w' => e = .returned (.bool true) ∧ Below w.heap.size w w' := by
  unfold maxLen at hn
  go_enter Try.func10, Try.ntmps10
  go_wp2
  go_loopw [5] (fun i wr => ∃ k : Nat, k ≤ n ∧ i = .int .i64 k ∧ Below w.heap.size w wr) (fun i _ => n - (intOf i).toNat)
  case atStart => exact ⟨0, Nat.zero_le _, rfl, Below.refl _ _⟩
  case round =>
    obtain ⟨k, hk, rfl, hB⟩ := hrel
    by_cases hlt' : k < n
    · obtain ⟨b, off, rfl, hlt, hc⟩ := H (by omega)
      obtain ⟨b', off', rfl, hlt2, hc'⟩ := H' (by omega)
      obtain ⟨h1, h2, h3⟩ := hc k hlt'
      obtain ⟨h4, h5, h6⟩ := hc' k hlt'
      have g1 : wr.cell? ⟨b, off + k * 3, none⟩ = some (.int .i64 (f k)) := (hB.cell (p := ⟨b, _, none⟩) hlt).trans h1
      have g2 : wr.cell? ⟨b, off + k * 3 + 1, none⟩ = some (.int .i64 (g k)) := (hB.cell (p := ⟨b, _, none⟩) hlt).trans h2
      have g3 : wr.cell? ⟨b, off + k * 3 + 2, none⟩ = some (.int .i64 (h k)) := (hB.cell (p := ⟨b, _, none⟩) hlt).trans h3
      have g4 : wr.cell? ⟨b', off' + k * 3, none⟩ = some (.int .i64 (f k)) := (hB.cell (p := ⟨b', _, none⟩) hlt2).trans h4
      have g5 : wr.cell? ⟨b', off' + k * 3 + 1, none⟩ = some (.int .i64 (g k)) := (hB.cell (p := ⟨b', _, none⟩) hlt2).trans h5
      have g6 : wr.cell? ⟨b', off' + k * 3 + 2, none⟩ = some (.int .i64 (h k)) := (hB.cell (p := ⟨b', _, none⟩) hlt2).trans h6
      clear h1 h2 h3 hc h4 h5 h6 hc' H H'
      have i0 : (0 : Int) ≤ (k : Int) := by omega
      have i1 : (k : Int) < (n : Int) := by omega
      have z1 : b < wr.heap.size := Nat.lt_of_lt_of_le hlt hB.size
      have z2 : b' < wr.heap.size := Nat.lt_of_lt_of_le hlt2 hB.size
      go_wp2_with fail
      go_region_held3 (fun w' => w'.cell? ⟨b, off + k * 3, none⟩ = some (.int .i64 (f k)) ∧ w'.cell? ⟨b, off + k * 3 + 1, none⟩ = some (.int .i64 (g k)) ∧ w'.cell? ⟨b, off + k * 3 + 2, none⟩ = some (.int .i64 (h k)) ∧ w'.cell? ⟨b', off' + k * 3, none⟩ = some (.int .i64 (f k)) ∧ w'.cell? ⟨b', off' + k * 3 + 1, none⟩ = some (.int .i64 (g k)) ∧ w'.cell? ⟨b', off' + k * 3 + 2, none⟩ = some (.int .i64 (h k))) (go_keep)
        (first | (go_at_call 21; refine (eqRoute_true _ _ _ _).mono ?_; rintro e w1 ⟨rfl, hb1⟩; have p1 := (hb1.cell (p := ⟨b, off + k * 3, none⟩) z1).trans g1; have p2 := (hb1.cell (p := ⟨b, off + k * 3 + 1, none⟩) z1).trans g2; have p3 := (hb1.cell (p := ⟨b, off + k * 3 + 2, none⟩) z1).trans g3; have p4 := (hb1.cell (p := ⟨b', off' + k * 3, none⟩) z2).trans g4; have p5 := (hb1.cell (p := ⟨b', off' + k * 3 + 1, none⟩) z2).trans g5; have p6 := (hb1.cell (p := ⟨b', off' + k * 3 + 2, none⟩) z2).trans g6))
      have hB1 : Below w.heap.size w w1 := hB.drew.trans (hb1.mono hB.size)
      clear g1 g2 g3 g4 g5 g6 p1 p2 p3 p4 p5 p6 hb1
      go_wp2
      go_roundw
      case rel => exact ⟨k + 1, by omega, by go_num, hB1⟩
      case measure => simp [intOf]; omega
    · clear H H'
      go_wp2
      go_ret
      exact ⟨rfl, hB⟩
end Go.Proofs.Ytbfadkcghobpnaa
