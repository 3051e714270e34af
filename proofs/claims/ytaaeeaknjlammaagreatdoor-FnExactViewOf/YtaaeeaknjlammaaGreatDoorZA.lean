/- Texts put together. -/
import Derived.Test.YtaaeeaknjlammaaGreatDoorProg
import Derived.WalkKit
import Derived.WalkSpells
import Derived.WalkLawsBesides
import Derived.Below
import Derived.Deep.OwnRows
import Derived.Deep.RegionHeld3
import Derived.Deep.QuietTactic
import Derived.BigQuiet
/- Contracts of the small helpers of the exact laws over labels: each call returns what the plain function says and leaves old memory as it was. -/
namespace Go.Proofs.YtaaeeaknjlammaaGreatDoor
open Go.RowKit

theorem ret_bool {a b : Bool} (h : a = b) : Ending.returned (.bool a) = .returned (.bool b) := by rw [h]
theorem ret_int {k : IntKind} {a b : Int} (h : a = b) : Ending.returned (.int k a) = .returned (.int k b) := by rw [h]

theorem bcell {W w1 : World} (hb : Below W.heap.size W w1) : (∀ b o, b < W.heap.size → w1.cell? ⟨b, o, none⟩ = W.cell? ⟨b, o, none⟩) ∧ (∀ b o, b < W.heap.size → w1.frozen? ⟨b, o, none⟩ = W.frozen? ⟨b, o, none⟩) :=
  ⟨fun b o h => hb.cell (p := ⟨b, o, none⟩) h, fun b o h => hb.frozen (p := ⟨b, o, none⟩) h⟩

def inB (x lo hi : Int) : Bool := decide (lo ≤ x) && decide (x ≤ hi)
theorem inB_yes {x lo hi : Int} (h : lo ≤ x) : inB x lo hi = decide (x ≤ hi) := by simp [inB, h]
theorem inB_no {x lo hi : Int} (h : x < lo) : inB x lo hi = false := by simp [inB]; omega

theorem l1In_any (x lo hi : Int) (w : World) :
    Calls Tryz.prog 49 #[.int .i64 x, .int .i64 lo, .int .i64 hi] w fun e w' => e = .returned (.bool (inB x lo hi)) ∧ w' = w := by
  go_enter Tryz.func49, Tryz.ntmps49
  go_wp2
  · go_ret
    exact ⟨ret_bool (inB_yes ‹_›).symm, rfl⟩
  · go_ret
    exact ⟨ret_bool (inB_no ‹_›).symm, rfl⟩

theorem isCat_any (x : Int) (w : World) :
    Calls Tryz.prog 77 #[.int .i64 x] w fun e w' => e = .returned (.bool (inB x 1 9999)) ∧ w' = w := by
  go_enter Tryz.func77, Tryz.ntmps77
  go_wp2
  · go_ret
    exact ⟨ret_bool (inB_yes ‹_›).symm, rfl⟩
  · go_ret
    exact ⟨ret_bool (inB_no ‹_›).symm, rfl⟩

theorem isLevel_any (x : Int) (w : World) :
    Calls Tryz.prog 76 #[.int .i64 x] w fun e w' => e = .returned (.bool (inB x 0 3)) ∧ w' = w := by
  go_enter Tryz.func76, Tryz.ntmps76
  go_wp2
  · go_ret
    exact ⟨ret_bool (inB_yes ‹_›).symm, rfl⟩
  · go_ret
    exact ⟨ret_bool (inB_no ‹_›).symm, rfl⟩

theorem toCat_any (x y : Int) (w : World) :
    Calls Tryz.prog 54 #[.agg #[.int .i64 x, .int .i64 y]] w fun e w' => e = .returned (.agg #[.int .i64 x, .int .i64 y]) ∧ Below w.heap.size w w' := by
  go_enter Tryz.func54, Tryz.ntmps54
  go_wp2
  exact bodyPost_ret (v := .agg #[.int .i64 x, .int .i64 y]) (by simp [results, Tryz.results54, go_sem]) rfl ⟨rfl, (((Below.refl _ _).alloc (Nat.le_refl _) _).alloc (by simp) _).alloc (by simp; omega) _⟩

theorem eqCat_any (x y u v : Int) (w : World) :
    Calls Tryz.prog 65 #[.agg #[.int .i64 x, .int .i64 y], .agg #[.int .i64 u, .int .i64 v]] w fun e w' => e = .returned (.bool (x == u && y == v)) ∧ Below w.heap.size w w' := by
  go_enter Tryz.func65, Tryz.ntmps65
  go_wp2
  all_goals
    go_ret
    exact ⟨ret_bool (by simp_all), ((Below.refl _ _).alloc (Nat.le_refl _) _).alloc (by simp) _⟩

/-- what szCatS leaves of a budget -/
def szOf (n : Nat) (left : Int) : Int := if left - n < 0 then -1 else left - n

theorem szCatS_any (a : Option Addr) (n cap : Nat) (left : Int) (w : World) (hn : n ≤ maxLen) (h0 : 0 ≤ left) (h1 : left ≤ 1048576) :
    Calls Tryz.prog 17 #[.slice a n cap, .int .i64 left] w fun e w' => e = .returned (.int .i64 (szOf n left)) ∧ w' = w := by
  unfold maxLen at hn
  go_enter Tryz.func17, Tryz.ntmps17
  go_wp2
  · go_ret
    exact ⟨ret_int (by unfold szOf; rw [if_pos (by omega)]), rfl⟩
  · go_ret
    exact ⟨ret_int (by unfold szOf; rw [if_neg (by omega)]), rfl⟩

theorem szOf_le (n : Nat) (left : Int) (h0 : 0 ≤ left) : -1 ≤ szOf n left ∧ szOf n left ≤ left := by unfold szOf; split <;> omega

theorem szLabel_any (base : Int) (a : Option Addr) (n cap : Nat) (left : Int) (w : World) (hn : n ≤ maxLen) (h0 : 0 ≤ left) (h1 : left ≤ 1048576) :
    Calls Tryz.prog 6 #[.agg #[.int .i64 base, .slice a n cap], .int .i64 left] w fun e w' => e = .returned (.int .i64 (szOf n left)) ∧ Below w.heap.size w w' := by
  have hs := szOf_le n left h0
  go_enter Tryz.func6, Tryz.ntmps6
  go_wp2_with (go_at_call 17; refine (szCatS_any _ _ _ _ _ hn h0 h1).mono ?_; rintro e w' ⟨rfl, rfl⟩)
  · go_ret
    exact ⟨ret_int (by omega), (Below.refl _ _).alloc (Nat.le_refl _) _⟩
  · go_ret
    exact ⟨rfl, (Below.refl _ _).alloc (Nat.le_refl _) _⟩

end Go.Proofs.YtaaeeaknjlammaaGreatDoor

/- The copies that the exact laws make: toCatS and toLabel hand back a new slice that holds the same numbers. -/
namespace Go.Proofs.YtaaeeaknjlammaaGreatDoor
open Go.RowKit Go.Deep

theorem Tryz.info100 : (Tryz.prog.info? 100).map (fun i => (i.zero, i.size, i.bytes)) = some (some (.agg #[.int .i64 0, .int .i64 0]), 2, 16) := by kernel_rfl

theorem run_make_cats (n : Nat) (hn : n ≤ 1048576) (w : World) :
    (Instr.makeSlice 37 (.int .i64 (n : Int)) (.int .i64 (n : Int))).run Tryz.prog w = .ok (.slice (some ⟨w.heap.size, 0, none⟩) n n) (w.alloc (.cells (madeCells #[.int .i64 0, .int .i64 0] (n * 2)) 100)) := by
  obtain ⟨i, hi, hzz⟩ := Option.map_eq_some_iff.1 Tryz.info100
  simp only [Prod.mk.injEq] at hzz
  obtain ⟨hz, hs, hb⟩ := hzz
  have hr := run_make (P := Tryz.prog) w 37 100 i _ Tryz.underlying37 hi hz .i64 .i64 n n (by omega) (Int.le_refl _) (by rw [hb]; omega) (by omega)
  simp only [Int.toNat_natCast, hs] at hr
  exact hr

/-- the numbers of a row of pairs, cell by cell -/
def pairCell (f g : Nat → Int) (j : Nat) : Value := if j % 2 = 0 then .int .i64 (f (j / 2)) else .int .i64 (g (j / 2))

def CatsAt (w : World) (a : Option Addr) (n : Nat) (f g : Nat → Int) : Prop :=
  0 < n → ∃ b off, a = some ⟨b, off, none⟩ ∧ b < w.heap.size ∧ ∀ i, i < n → w.cell? ⟨b, off + i * 2, none⟩ = some (.int .i64 (f i)) ∧ w.cell? ⟨b, off + i * 2 + 1, none⟩ = some (.int .i64 (g i))

theorem CatsAt.below {w w' : World} {a : Option Addr} {n : Nat} {f g : Nat → Int} (h : CatsAt w a n f g) (hb : Below w.heap.size w w') : CatsAt w' a n f g := fun hn => by
  obtain ⟨b, off, rfl, hlt, hc⟩ := h hn
  obtain ⟨h1, _⟩ := bcell hb
  exact ⟨b, off, rfl, Nat.lt_of_lt_of_le hlt hb.size, fun i hi => by rw [h1 _ _ hlt, h1 _ _ hlt]; exact hc i hi⟩

theorem CatsAt.row {w : World} {b n : Nat} {f g : Nat → Int} (h : w.rowIs b 100 (n * 2) (pairCell f g)) : CatsAt w (some ⟨b, 0, none⟩) n f g := fun _ => by
  refine ⟨b, 0, rfl, h.lt, fun i hi => ⟨?_, ?_⟩⟩
  · have := h.cell (i := 0 + i * 2) (by omega)
    rw [this]
    have e1 : (0 + i * 2) % 2 = 0 := by omega
    have e2 : (0 + i * 2) / 2 = i := by omega
    simp only [pairCell, e1, e2, if_true]
  · have := h.cell (i := 0 + i * 2 + 1) (by omega)
    rw [this]
    have e1 : ¬ (0 + i * 2 + 1) % 2 = 0 := by omega
    have e2 : (0 + i * 2 + 1) / 2 = i := by omega
    simp only [pairCell, e2, if_neg e1]

theorem made_row (w : World) (n : Nat) : (w.alloc (.cells (madeCells #[.int .i64 0, .int .i64 0] (n * 2)) 100)).rowIs w.heap.size 100 (n * 2) (pairCell (fun _ => 0) (fun _ => 0)) :=
  ⟨_, blk_alloc_new _ _, size_madeCells _ _, fun i hi => by
    rcases Nat.mod_two_eq_zero_or_one i with h | h <;> simp [madeCells, hi, pairCell, h]⟩

/-- the first k of f, and nought behind them -/
def upto (k : Nat) (f : Nat → Int) (i : Nat) : Int := if i < k then f i else 0


theorem upto_zero (f : Nat → Int) : upto 0 f = fun _ => 0 := by funext i; simp [upto]

theorem upto_row {w : World} {b n k : Nat} {f g : Nat → Int} (h : w.rowIs b 100 (n * 2) (pairCell (upto k f) (upto k g))) :
    ((w.setCell ⟨b, k * 2, none⟩ (.int .i64 (f k))).setCell ⟨b, k * 2 + 1, none⟩ (.int .i64 (g k))).rowIs b 100 (n * 2) (pairCell (upto (k + 1) f) (upto (k + 1) g)) := by
  refine ((h.set (k * 2) _).set (k * 2 + 1) _).congr fun j _ => ?_
  by_cases e1 : j = k * 2 + 1
  · subst e1
    have a1 : ¬ (k * 2 + 1) % 2 = 0 := by omega
    have a2 : (k * 2 + 1) / 2 = k := by omega
    simp [pairCell, upto, a2]
  · by_cases e2 : j = k * 2
    · subst e2
      simp [pairCell, upto]
    · have a1 : (j / 2 < k + 1) = (j / 2 < k) := by apply propext; omega
      simp [pairCell, upto, e1, e2, a1]

theorem upto_done {w : World} {b n : Nat} {f g : Nat → Int} (h : w.rowIs b 100 (n * 2) (pairCell (upto n f) (upto n g))) : w.rowIs b 100 (n * 2) (pairCell f g) :=
  h.congr fun j hj => by have : j / 2 < n := by omega
                         simp [pairCell, upto, this]

theorem World.rowIs.below {w w' : World} {B b n : Nat} {t : TypeId} {f : Nat → Value} (h : w.rowIs b t n f) (hb : Below B w w') (hB : b < B) : w'.rowIs b t n f :=
  h.of_block (hb.block b hB)

set_option maxHeartbeats 1000000 in
theorem toCatS_any (a : Option Addr) (n cap : Nat) (f g : Nat → Int) (w : World) (hn : n ≤ 1048576) (hc : CatsAt w a n f g) :
    Calls Tryz.prog 28 #[.slice a n cap] w fun e w' => e = .returned (.slice (some ⟨w.heap.size, 0, none⟩) n n) ∧ w'.rowIs w.heap.size 100 (n * 2) (pairCell f g) ∧ Below w.heap.size w w' := by
  have hmk := run_make_cats n hn
  go_enter Tryz.func28, Tryz.ntmps28
  go_wp2
  go_loopw [4] (fun i wr => ∃ k : Nat, k ≤ n ∧ i = .int .i64 k ∧ wr.rowIs w.heap.size 100 (n * 2) (pairCell (upto k f) (upto k g)) ∧ Below w.heap.size w wr) (fun i _ => n - (intOf i).toNat)
  case atStart => exact ⟨0, Nat.zero_le _, rfl, by rw [upto_zero, upto_zero]; exact made_row w n, (Below.refl _ _).alloc (Nat.le_refl _) _⟩
  case round =>
    obtain ⟨k, hk, rfl, hrow, hB⟩ := hrel
    clear hmk
    by_cases hlt' : k < n
    · obtain ⟨b, off, rfl, hlt, hc⟩ := hc (by omega)
      obtain ⟨h1, h2⟩ := hc k hlt'
      have g1 : wr.cell? ⟨b, off + k * 2, none⟩ = some (.int .i64 (f k)) := (hB.cell (p := ⟨b, _, none⟩) hlt).trans h1
      have g2 : wr.cell? ⟨b, off + k * 2 + 1, none⟩ = some (.int .i64 (g k)) := (hB.cell (p := ⟨b, _, none⟩) hlt).trans h2
      clear h1 h2 hc
      go_wp2_with fail
      refine (toCat_any _ _ _).mono ?_
      rintro e w1 ⟨rfl, hb1⟩
      have hrow1 := World.rowIs.below hrow hb1 hrow.lt
      have c1 := hrow1.cell (i := k * 2) (by omega)
      have c2 := hrow1.cell (i := k * 2 + 1) (by omega)
      have f1 := hrow1.frozen (k * 2)
      have f2 := hrow1.frozen (k * 2 + 1)
      clear g1 g2
      go_wp2
      go_roundw
      case rel => exact ⟨k + 1, by omega, by go_num, upto_row hrow1, ((hB.trans (hb1.mono hB.size)).setCell (Nat.le_refl _) _).setCell (Nat.le_refl _) _⟩
      case measure => simp [intOf]; omega
    · clear hc
      go_wp2
      go_ret
      have e : k = n := by omega
      subst e
      exact ⟨rfl, upto_done hrow, hB⟩

set_option maxHeartbeats 1000000 in
theorem toLabel_any (base : Int) (a : Option Addr) (n cap : Nat) (f g : Nat → Int) (w : World) (hn : n ≤ 1048576) (hc : CatsAt w a n f g) :
    Calls Tryz.prog 9 #[.agg #[.int .i64 base, .slice a n cap]] w fun e w' => ∃ c, e = .returned (.agg #[.int .i64 base, .slice (some ⟨c, 0, none⟩) n n]) ∧ w.heap.size ≤ c ∧ w'.rowIs c 100 (n * 2) (pairCell f g) ∧ Below w.heap.size w w' := by
  have hb0 := (((Below.refl _ w).alloc (Nat.le_refl _) (.cells #[.int .i64 base, .slice a n cap] 28)).alloc (by simp) (.cells #[.int .i64 0, .slice none 0 0] 39)).alloc (by simp; omega) (.cells #[.int .i64 base, .slice none 0 0] 39)
  have hc3 := hc.below hb0
  go_enter Tryz.func9, Tryz.ntmps9
  go_wp2_with fail
  refine (toCatS_any _ _ _ f g _ hn hc3).mono ?_
  rintro e w1 ⟨rfl, hrow, hb1⟩
  obtain ⟨q1, q2⟩ := bcell hb1
  have hz : w.heap.size + 1 + 1 + 1 ≤ w1.heap.size := by have := hb1.size; simpa using this
  have hz' := hrow.lt
  simp at hrow hz'
  clear hc hc3
  go_wp2
  refine bodyPost_ret (v := .agg #[.int .i64 base, .slice (some ⟨w.heap.size + 1 + 1 + 1, 0, none⟩) n n]) (by simp [results, Tryz.results9, go_sem, q1]) rfl ⟨_, rfl, by omega, ?_, ?_⟩
  · exact ((hrow.setOther (by dsimp only; omega) _).setOther (by dsimp only; omega) _).setOther (by dsimp only; omega) _
  · exact (((hb0.trans (hb1.mono (by simp; omega))).setCell (by simp; omega) _).setCell (by simp) _).setCell (by simp) _
end Go.Proofs.YtaaeeaknjlammaaGreatDoor

/- The comparisons of the exact laws: eqCatS and eqLabel answer true at two labels with the same numbers. -/
namespace Go.Proofs.YtaaeeaknjlammaaGreatDoor
open Go.RowKit Go.Deep

set_option maxHeartbeats 1000000 in
theorem eqCatS_true (a a' : Option Addr) (n cap cap' : Nat) (f g : Nat → Int) (w : World) (hn : n ≤ maxLen) (h : CatsAt w a n f g) (h' : CatsAt w a' n f g) :
    Calls Tryz.prog 41 #[.slice a n cap, .slice a' n cap'] w fun e w' => e = .returned (.bool true) ∧ Below w.heap.size w w' := by
  unfold maxLen at hn
  go_enter Tryz.func41, Tryz.ntmps41
  go_wp2
  go_loopw [5] (fun i wr => ∃ k : Nat, k ≤ n ∧ i = .int .i64 k ∧ Below w.heap.size w wr) (fun i _ => n - (intOf i).toNat)
  case atStart => exact ⟨0, Nat.zero_le _, rfl, Below.refl _ _⟩
  case round =>
    obtain ⟨k, hk, rfl, hB⟩ := hrel
    by_cases hlt' : k < n
    · obtain ⟨b, off, rfl, hlt, hc⟩ := h (by omega)
      obtain ⟨b', off', rfl, hlt2, hc'⟩ := h' (by omega)
      obtain ⟨h1, h2⟩ := hc k hlt'
      obtain ⟨h3, h4⟩ := hc' k hlt'
      have g1 : wr.cell? ⟨b, off + k * 2, none⟩ = some (.int .i64 (f k)) := (hB.cell (p := ⟨b, _, none⟩) hlt).trans h1
      have g2 : wr.cell? ⟨b, off + k * 2 + 1, none⟩ = some (.int .i64 (g k)) := (hB.cell (p := ⟨b, _, none⟩) hlt).trans h2
      have g3 : wr.cell? ⟨b', off' + k * 2, none⟩ = some (.int .i64 (f k)) := (hB.cell (p := ⟨b', _, none⟩) hlt2).trans h3
      have g4 : wr.cell? ⟨b', off' + k * 2 + 1, none⟩ = some (.int .i64 (g k)) := (hB.cell (p := ⟨b', _, none⟩) hlt2).trans h4
      clear h1 h2 hc h3 h4 hc'
      have i0 : (0 : Int) ≤ (k : Int) := by omega
      have i1 : (k : Int) < (n : Int) := by omega
      have z1 : b < wr.heap.size := Nat.lt_of_lt_of_le hlt hB.size
      have z2 : b' < wr.heap.size := Nat.lt_of_lt_of_le hlt2 hB.size
      go_wp2_with fail
      go_region_held3 (fun w' => w'.cell? ⟨b, off + k * 2, none⟩ = some (.int .i64 (f k)) ∧ w'.cell? ⟨b, off + k * 2 + 1, none⟩ = some (.int .i64 (g k)) ∧ w'.cell? ⟨b', off' + k * 2, none⟩ = some (.int .i64 (f k)) ∧ w'.cell? ⟨b', off' + k * 2 + 1, none⟩ = some (.int .i64 (g k))) (go_keep)
        (first | (go_at_call 65; refine (eqCat_any _ _ _ _ _).mono ?_; rintro e w1 ⟨rfl, hb1⟩; have p1 := (hb1.cell (p := ⟨b, off + k * 2, none⟩) z1).trans g1; have p2 := (hb1.cell (p := ⟨b, off + k * 2 + 1, none⟩) z1).trans g2; have p3 := (hb1.cell (p := ⟨b', off' + k * 2, none⟩) z2).trans g3; have p4 := (hb1.cell (p := ⟨b', off' + k * 2 + 1, none⟩) z2).trans g4))
      have hB1 : Below w.heap.size w w1 := hB.drew.trans (hb1.mono hB.size)
      clear g1 g2 g3 g4 p1 p2 p3 p4 h h' hb1
      go_wp2
      go_roundw
      case rel => exact ⟨k + 1, by omega, by go_num, hB1⟩
      case measure => simp [intOf]; omega
    · clear h h'
      go_wp2
      go_ret
      exact ⟨rfl, hB⟩

set_option maxHeartbeats 1000000 in
theorem eqLabel_true (base : Int) (a a' : Option Addr) (n cap cap' : Nat) (f g : Nat → Int) (w : World) (hn : n ≤ maxLen) (h : CatsAt w a n f g) (h' : CatsAt w a' n f g) :
    Calls Tryz.prog 12 #[.agg #[.int .i64 base, .slice a n cap], .agg #[.int .i64 base, .slice a' n cap']] w fun e w' => e = .returned (.bool true) ∧ Below w.heap.size w w' := by
  have hb0 := ((Below.refl _ w).alloc (Nat.le_refl _) (.cells #[.int .i64 base, .slice a n cap] 39)).alloc (by simp) (.cells #[.int .i64 base, .slice a' n cap'] 39)
  have hc1 := h.below hb0
  have hc2 := h'.below hb0
  go_enter Tryz.func12, Tryz.ntmps12
  go_wp2_with (go_at_call 41; refine (eqCatS_true _ _ _ _ _ f g _ hn hc1 hc2).mono ?_; rintro e w1 ⟨rfl, hb1⟩)
  go_ret
  exact ⟨rfl, hb0.trans (hb1.mono (by simp; omega))⟩
end Go.Proofs.YtaaeeaknjlammaaGreatDoor

/- Lists of whole numbers in the exact laws: their budget, their copies, their comparison. -/
namespace Go.Proofs.YtaaeeaknjlammaaGreatDoor
open Go.RowKit Go.Deep

def IntsAt (w : World) (a : Option Addr) (n : Nat) (h : Nat → Int) : Prop :=
  0 < n → ∃ b off, a = some ⟨b, off, none⟩ ∧ b < w.heap.size ∧ ∀ i, i < n → w.cell? ⟨b, off + i, none⟩ = some (.int .i64 (h i))

theorem IntsAt.below {w w' : World} {a : Option Addr} {n : Nat} {h : Nat → Int} (hc : IntsAt w a n h) (hb : Below w.heap.size w w') : IntsAt w' a n h := fun hn => by
  obtain ⟨b, off, rfl, hlt, hc⟩ := hc hn
  obtain ⟨h1, _⟩ := bcell hb
  exact ⟨b, off, rfl, Nat.lt_of_lt_of_le hlt hb.size, fun i hi => by rw [h1 _ _ hlt]; exact hc i hi⟩

theorem IntsAt.row {w : World} {b n : Nat} {t : TypeId} {h : Nat → Int} (hr : w.rowIs b t n (fun i => .int .i64 (h i))) : IntsAt w (some ⟨b, 0, none⟩) n h := fun _ =>
  ⟨b, 0, rfl, hr.lt, fun i hi => by rw [Nat.zero_add]; exact hr.cell hi⟩

theorem Tryz.info2 : (Tryz.prog.info? 2).map (fun i => (i.zero, i.size, i.bytes)) = some (some (.int .i64 0), 1, 8) := by kernel_rfl

theorem szInt64S_any (a : Option Addr) (n cap : Nat) (left : Int) (w : World) (hn : n ≤ maxLen) (h0 : 0 ≤ left) (h1 : left ≤ 1048576) :
    Calls Tryz.prog 70 #[.slice a n cap, .int .i64 left] w fun e w' => e = .returned (.int .i64 (szOf n left)) ∧ w' = w := by
  unfold maxLen at hn
  go_enter Tryz.func70, Tryz.ntmps70
  go_wp2
  · go_ret
    exact ⟨ret_int (by unfold szOf; rw [if_pos (by omega)]), rfl⟩
  · go_ret
    exact ⟨ret_int (by unfold szOf; rw [if_neg (by omega)]), rfl⟩

theorem upto_int_row {w : World} {b n k : Nat} {h : Nat → Int} (hr : w.rowIs b 2 n (fun i => .int .i64 (upto k h i))) :
    (w.setCell ⟨b, k, none⟩ (.int .i64 (h k))).rowIs b 2 n (fun i => .int .i64 (upto (k + 1) h i)) := by
  refine (hr.set k _).congr fun j _ => ?_
  by_cases e : j = k
  · subst e; simp [upto]
  · have a1 : (j < k + 1) = (j < k) := by apply propext; omega
    simp [upto, e, a1]

theorem upto_int_done {w : World} {b n : Nat} {h : Nat → Int} (hr : w.rowIs b 2 n (fun i => .int .i64 (upto n h i))) : w.rowIs b 2 n (fun i => .int .i64 (h i)) :=
  hr.congr fun j hj => by simp [upto, hj]

set_option maxHeartbeats 1000000 in
theorem toInt64S_any (a : Option Addr) (n cap : Nat) (h : Nat → Int) (w : World) (hn : n ≤ 1048576) (hc : IntsAt w a n h) :
    Calls Tryz.prog 74 #[.slice a n cap] w fun e w' => e = .returned (.slice (some ⟨w.heap.size, 0, none⟩) n n) ∧ w'.rowIs w.heap.size 2 n (fun i => .int .i64 (h i)) ∧ Below w.heap.size w w' := by
  have hmk := run_make_row' (P := Tryz.prog) 52 2 _ 8 Tryz.underlying52 Tryz.info2 rfl .i64 .i64 n (by omega) (by omega)
  go_enter Tryz.func74, Tryz.ntmps74
  go_wp2
  go_loopw [4] (fun i wr => ∃ k : Nat, k ≤ n ∧ i = .int .i64 k ∧ wr.rowIs w.heap.size 2 n (fun j => .int .i64 (upto k h j)) ∧ Below w.heap.size w wr) (fun i _ => n - (intOf i).toNat)
  case atStart => exact ⟨0, Nat.zero_le _, rfl, by simpa [upto_zero] using World.rowIs_made w (.int .i64 0) n 2, (Below.refl _ _).alloc (Nat.le_refl _) _⟩
  case round =>
    obtain ⟨k, hk, rfl, hrow, hB⟩ := hrel
    clear hmk
    by_cases hlt' : k < n
    · obtain ⟨b, off, rfl, hlt, hc⟩ := hc (by omega)
      have g1 : wr.cell? ⟨b, off + k, none⟩ = some (.int .i64 (h k)) := (hB.cell (p := ⟨b, _, none⟩) hlt).trans (hc k hlt')
      have c1 := hrow.cell (i := k) (by omega)
      have f1 := hrow.frozen k
      clear hc
      go_wp2
      go_roundw
      case rel => exact ⟨k + 1, by omega, by go_num, upto_int_row hrow, hB.setCell (Nat.le_refl _) _⟩
      case measure => simp [intOf]; omega
    · clear hc
      go_wp2
      go_ret
      have e : k = n := by omega
      subst e
      exact ⟨rfl, upto_int_done hrow, hB⟩

set_option maxHeartbeats 1000000 in
theorem eqInt64S_true (a a' : Option Addr) (n cap cap' : Nat) (h : Nat → Int) (w : World) (hn : n ≤ maxLen) (hc : IntsAt w a n h) (hc' : IntsAt w a' n h) :
    Calls Tryz.prog 86 #[.slice a n cap, .slice a' n cap'] w fun e w' => e = .returned (.bool true) ∧ Below w.heap.size w w' := by
  unfold maxLen at hn
  go_enter Tryz.func86, Tryz.ntmps86
  go_wp2
  go_loopw [5] (fun i wr => ∃ k : Nat, k ≤ n ∧ i = .int .i64 k ∧ Below w.heap.size w wr) (fun i _ => n - (intOf i).toNat)
  case atStart => exact ⟨0, Nat.zero_le _, rfl, Below.refl _ _⟩
  case round =>
    obtain ⟨k, hk, rfl, hB⟩ := hrel
    by_cases hlt' : k < n
    · obtain ⟨b, off, rfl, hlt, hc⟩ := hc (by omega)
      obtain ⟨b', off', rfl, hlt2, hc'⟩ := hc' (by omega)
      have g1 : wr.cell? ⟨b, off + k, none⟩ = some (.int .i64 (h k)) := (hB.cell (p := ⟨b, _, none⟩) hlt).trans (hc k hlt')
      have g2 : wr.cell? ⟨b', off' + k, none⟩ = some (.int .i64 (h k)) := (hB.cell (p := ⟨b', _, none⟩) hlt2).trans (hc' k hlt')
      clear hc hc'
      have i0 : (0 : Int) ≤ (k : Int) := by omega
      have i1 : (k : Int) < (n : Int) := by omega
      go_wp2_with fail
      go_quiet (fail)
      go_wp2
      go_roundw
      case rel => exact ⟨k + 1, by omega, by go_num, below_drewN hB _⟩
      case measure => simp [intOf]; omega
    · clear hc hc'
      go_wp2
      go_ret
      exact ⟨rfl, hB⟩
end Go.Proofs.YtaaeeaknjlammaaGreatDoor

/- LabelOk of the program answers the plain function labOk, at every label. -/
namespace Go.Proofs.YtaaeeaknjlammaaGreatDoor
open Go.RowKit Go.Deep

def catOk (base : Int) (f g : Nat → Int) (i : Nat) : Bool := inB (f i) 1 9999 && inB (g i) 0 3 && !(g i == base) && (i == 0 || decide (f (i - 1) < f i))
def labOk (base : Int) (n : Nat) (f g : Nat → Int) : Bool := inB base 0 3 && decide (n ≤ 12) && (List.range n).all (catOk base f g)

theorem labOk_base {base : Int} {n : Nat} {f g : Nat → Int} (h : inB base 0 3 = false) : labOk base n f g = false := by simp [labOk, h]
theorem labOk_len {base : Int} {n : Nat} {f g : Nat → Int} (h : 12 < n) : labOk base n f g = false := by
  have : decide (n ≤ 12) = false := by simp; omega
  simp [labOk, this]
theorem labOk_at {base : Int} {n k : Nat} {f g : Nat → Int} (hk : k < n) (h : catOk base f g k = false) : labOk base n f g = false := by
  have : (List.range n).all (catOk base f g) = false := by
    rw [List.all_eq_false]; exact ⟨k, List.mem_range.2 hk, by simp [h]⟩
  simp [labOk, this]
theorem labOk_mk {base : Int} {n : Nat} {f g : Nat → Int} (hb : inB base 0 3 = true) (hn : n ≤ 12) (h : ∀ i, i < n → catOk base f g i = true) : labOk base n f g = true := by
  have : (List.range n).all (catOk base f g) = true := by
    rw [List.all_eq_true]; intro i hi; exact h i (List.mem_range.1 hi)
  simp [labOk, this, hb, hn]
theorem labOk_out {base : Int} {n : Nat} {f g : Nat → Int} (h : labOk base n f g = true) : inB base 0 3 = true ∧ n ≤ 12 ∧ ∀ i, i < n → catOk base f g i = true := by
  simp only [labOk, Bool.and_eq_true, decide_eq_true_eq, List.all_eq_true, List.mem_range] at h
  exact ⟨h.1.1, h.1.2, h.2⟩
theorem inB_iff {x lo hi : Int} : inB x lo hi = true ↔ lo ≤ x ∧ x ≤ hi := by simp [inB]
theorem catOk_iff {base : Int} {f g : Nat → Int} {i : Nat} : catOk base f g i = true ↔ (1 ≤ f i ∧ f i ≤ 9999) ∧ (0 ≤ g i ∧ g i ≤ 3) ∧ g i ≠ base ∧ (i = 0 ∨ f (i - 1) < f i) := by
  simp [catOk, inB, and_assoc]

def lastOf (f : Nat → Int) (k : Nat) : Int := if k = 0 then 0 else f (k - 1)
theorem lastOf_succ (f : Nat → Int) (k : Nat) : lastOf f (k + 1) = f k := by simp [lastOf]

theorem catOk_n1 {base : Int} {f g : Nat → Int} {k : Nat} (h : inB (f k) 1 9999 = false) : catOk base f g k = false := by simp [catOk, h]
theorem catOk_n2 {base : Int} {f g : Nat → Int} {k : Nat} (h0 : inB (f k) 1 9999 = true) (h : f k ≤ lastOf f k) : catOk base f g k = false := by
  have h0 := inB_iff.1 h0
  by_cases e : k = 0
  · subst e; simp [lastOf] at h; omega
  · simp [lastOf, e] at h
    have : decide (f (k - 1) < f k) = false := by simp; omega
    simp [catOk, e, this]
theorem catOk_n3 {base : Int} {f g : Nat → Int} {k : Nat} (h : inB (g k) 0 3 = false) : catOk base f g k = false := by simp [catOk, h]
theorem catOk_n4 {base : Int} {f g : Nat → Int} {k : Nat} (h : (g k == base) = true) : catOk base f g k = false := by simp [catOk, h]
theorem catOk_y {base : Int} {f g : Nat → Int} {k : Nat} (h1 : inB (f k) 1 9999 = true) (h2 : ¬ f k ≤ lastOf f k) (h3 : inB (g k) 0 3 = true) (h4 : (g k == base) = false) : catOk base f g k = true := by
  by_cases e : k = 0
  · subst e; simp_all [catOk]
  · simp [lastOf, e] at h2
    simp [catOk, h1, h3, h4, h2]

set_option maxHeartbeats 1000000 in
theorem implOk_any (base : Int) (a : Option Addr) (n cap : Nat) (f g : Nat → Int) (w : World) (hn : n ≤ maxLen) (hc : CatsAt w a n f g) :
    Calls Tryz.prog 55 #[.agg #[.int .i64 base, .slice a n cap]] w fun e w' => e = .returned (.bool (labOk base n f g)) ∧ Below w.heap.size w w' := by
  unfold maxLen at hn
  by_cases hb : inB base 0 3 = true
  · by_cases h12 : 12 < n
    · have h12' : (12 : Int) < (n : Int) := by omega
      go_enter Tryz.func55, Tryz.ntmps55
      go_wp2_with (go_at_call 76; refine (isLevel_any _ _).mono ?_; rintro e w' ⟨rfl, rfl⟩)
      go_ret
      exact ⟨ret_bool (labOk_len h12).symm, (Below.refl _ _).alloc (Nat.le_refl _) _⟩
    · have h12' : ¬ (12 : Int) < (n : Int) := by omega
      have hb0 := (Below.refl _ w).alloc (Nat.le_refl _) (.cells #[.int .i64 base, .slice a n cap] 39)
      have hc1 := hc.below hb0
      go_enter Tryz.func55, Tryz.ntmps55
      go_wp2_with (go_at_call 76; refine (isLevel_any _ _).mono ?_; rintro e w' ⟨rfl, rfl⟩)
      go_loopw [3, 19] (fun l i wr => ∃ k : Nat, k ≤ n ∧ i = .int .i64 k ∧ l = .int .i64 (lastOf f k) ∧ (∀ j, j < k → catOk base f g j = true) ∧ Below (w.heap.size + 1) (w.alloc (.cells #[.int .i64 base, .slice a n cap] 39)) wr) (fun _ i _ => n - (intOf i).toNat)
      case atStart => exact ⟨0, Nat.zero_le _, rfl, rfl, fun j hj => by omega, Below.refl _ _⟩
      case round =>
        obtain ⟨k, hk, rfl, rfl, hall, hB⟩ := hrel
        have x0 : wr.cell? ⟨w.heap.size, 0, none⟩ = some (.int .i64 base) := (hB.cell (p := ⟨w.heap.size, 0, none⟩) (by simp)).trans (by simp)
        have hB' : Below w.heap.size w wr := hb0.trans (hB.mono (by omega))
        have zz : w.heap.size < wr.heap.size := by have := hB.size; simp at this; omega
        have x1 : ∀ o, (wr.alloc o).cell? ⟨w.heap.size, 0, none⟩ = some (.int .i64 base) := fun o => (((Below.refl _ wr).alloc (Nat.le_refl _) o).cell (p := ⟨w.heap.size, 0, none⟩) zz).trans x0
        by_cases hlt' : k < n
        · obtain ⟨b, off, rfl, hlt, hcc⟩ := hc (by omega)
          obtain ⟨h1, h2⟩ := hcc k hlt'
          have g1 : wr.cell? ⟨b, off + k * 2, none⟩ = some (.int .i64 (f k)) := (hB'.cell (p := ⟨b, _, none⟩) hlt).trans h1
          have g2 : wr.cell? ⟨b, off + k * 2 + 1, none⟩ = some (.int .i64 (g k)) := (hB'.cell (p := ⟨b, _, none⟩) hlt).trans h2
          clear h1 h2 hcc hc hc1 hb0
          have HA : Hid (∀ j, j < k → catOk base f g j = true) := hall
          clear hall
          by_cases t1 : inB (f k) 1 9999 = true
          · go_wp2_with (first | (go_at_call 76; refine (isLevel_any _ _).mono ?_; rintro e w' ⟨rfl, rfl⟩) | (go_at_call 77; refine (isCat_any _ _).mono ?_; rintro e w' ⟨rfl, rfl⟩))
            · go_ret
              refine ⟨ret_bool (labOk_at hlt' (catOk_n4 ?_)).symm, hB'.alloc (by omega) _⟩
              have t2 : lastOf f k < f k := by assumption
              have t3 : f k ≤ lastOf f k ∨ (g k == base) = true := by assumption
              rcases t3 with t3 | t3
              · omega
              · exact t3
            · have t2 : lastOf f k < f k := by assumption
              have t3 : inB (g k) 0 3 = true := by assumption
              have t4 : lastOf f k < f k ∧ (g k == base) = false := by assumption
              go_roundw
              case rel =>
                refine ⟨k + 1, by omega, by go_num, by rw [lastOf_succ], fun j hj => ?_, hB.alloc (by omega) _⟩
                by_cases e : j = k
                · subst e; exact catOk_y t1 (by omega) t3 t4.2
                · exact HA.out j (by omega)
              case measure => simp [intOf]; omega
            · go_ret
              have t2 : ¬ inB (g k) 0 3 = true := by assumption
              exact ⟨ret_bool (labOk_at hlt' (catOk_n3 (by simpa using t2))).symm, hB'.alloc (by omega) _⟩
            · go_ret
              have t2 : f k ≤ lastOf f k := by assumption
              exact ⟨ret_bool (labOk_at hlt' (catOk_n2 t1 t2)).symm, hB'.alloc (by omega) _⟩
          · have t1' : inB (f k) 1 9999 = false := by simpa using t1
            clear t1
            go_wp2_with (first | (go_at_call 76; refine (isLevel_any _ _).mono ?_; rintro e w' ⟨rfl, rfl⟩) | (go_at_call 77; refine (isCat_any _ _).mono ?_; rintro e w' ⟨rfl, rfl⟩))
            go_ret
            exact ⟨ret_bool (labOk_at hlt' (catOk_n1 t1')).symm, hB'.alloc (by omega) _⟩
        · have HA : Hid (∀ j, j < k → catOk base f g j = true) := hall
          clear hall hc hc1
          go_wp2
          go_ret
          have e : k = n := by omega
          subst e
          exact ⟨ret_bool (labOk_mk hb (by omega) HA.out).symm, hB'⟩
  · have hb' : inB base 0 3 = false := by simpa using hb
    clear hb
    go_enter Tryz.func55, Tryz.ntmps55
    go_wp2_with (go_at_call 76; refine (isLevel_any _ _).mono ?_; rintro e w' ⟨rfl, rfl⟩)
    go_ret
    exact ⟨ret_bool (labOk_base hb').symm, (Below.refl _ _).alloc (Nat.le_refl _) _⟩
end Go.Proofs.YtaaeeaknjlammaaGreatDoor

/- LabelOk of the model answers the plain function labOk, at every label. -/
namespace Go.Proofs.YtaaeeaknjlammaaGreatDoor
open Go.RowKit Go.Deep

theorem catOk_n5 {base : Int} {f g : Nat → Int} {k : Nat} (h0 : 0 < k) (h : f k ≤ f (k - 1)) : catOk base f g k = false := by
  have e : ¬ k = 0 := by omega
  have : decide (f (k - 1) < f k) = false := by simp; omega
  simp [catOk, e, this]
theorem catOk_y0 {base : Int} {f g : Nat → Int} {k : Nat} (h1 : inB (f k) 1 9999 = true) (h3 : inB (g k) 0 3 = true) (h4 : (g k == base) = false) (h : k = 0 ∨ f (k - 1) < f k) : catOk base f g k = true := by
  rcases h with h | h <;> simp_all [catOk]

set_option maxHeartbeats 1000000 in
theorem specOk_any (base : Int) (a : Option Addr) (n cap : Nat) (f g : Nat → Int) (w : World) (hn : n ≤ maxLen) (hc : CatsAt w a n f g) :
    Calls Tryz.prog 19 #[.agg #[.int .i64 base, .slice a n cap]] w fun e w' => e = .returned (.bool (labOk base n f g)) ∧ Below w.heap.size w w' := by
  unfold maxLen at hn
  by_cases hb : inB base 0 3 = true
  · by_cases h12 : 12 < n
    · have h12' : (12 : Int) < (n : Int) := by omega
      go_enter Tryz.func19, Tryz.ntmps19
      go_wp2_with (go_at_call 49; refine (l1In_any _ _ _ _).mono ?_; rintro e w' ⟨rfl, rfl⟩)
      go_ret
      exact ⟨ret_bool (labOk_len h12).symm, (Below.refl _ _).alloc (Nat.le_refl _) _⟩
    · have h12' : ¬ (12 : Int) < (n : Int) := by omega
      have hb0 := (Below.refl _ w).alloc (Nat.le_refl _) (.cells #[.int .i64 base, .slice a n cap] 39)
      have hc1 := hc.below hb0
      go_enter Tryz.func19, Tryz.ntmps19
      go_wp2_with (go_at_call 49; refine (l1In_any _ _ _ _).mono ?_; rintro e w' ⟨rfl, rfl⟩)
      go_loopw [3] (fun i wr => ∃ k : Nat, k ≤ n ∧ i = .int .i64 k ∧ (∀ j, j < k → catOk base f g j = true) ∧ Below (w.heap.size + 1) (w.alloc (.cells #[.int .i64 base, .slice a n cap] 39)) wr) (fun i _ => n - (intOf i).toNat)
      case atStart => exact ⟨0, Nat.zero_le _, rfl, fun j hj => by omega, Below.refl _ _⟩
      case round =>
        obtain ⟨k, hk, rfl, hall, hB⟩ := hrel
        have x0 : wr.cell? ⟨w.heap.size, 0, none⟩ = some (.int .i64 base) := (hB.cell (p := ⟨w.heap.size, 0, none⟩) (by simp)).trans (by simp)
        have y0 : wr.cell? ⟨w.heap.size, 1, none⟩ = some (.slice a n cap) := (hB.cell (p := ⟨w.heap.size, 1, none⟩) (by simp)).trans (by simp)
        have hB' : Below w.heap.size w wr := hb0.trans (hB.mono (by omega))
        have zz : w.heap.size < wr.heap.size := by have := hB.size; simp at this; omega
        by_cases hlt' : k < n
        · obtain ⟨b, off, rfl, hlt, hcc⟩ := hc (by omega)
          obtain ⟨h1, h2⟩ := hcc k hlt'
          have zb : b < wr.heap.size := by omega
          have g1 : wr.cell? ⟨b, off + k * 2, none⟩ = some (.int .i64 (f k)) := (hB'.cell (p := ⟨b, _, none⟩) hlt).trans h1
          have g2 : wr.cell? ⟨b, off + k * 2 + 1, none⟩ = some (.int .i64 (g k)) := (hB'.cell (p := ⟨b, _, none⟩) hlt).trans h2
          have x1 : ∀ o, (wr.alloc o).cell? ⟨w.heap.size, 0, none⟩ = some (.int .i64 base) := fun o => (((Below.refl _ wr).alloc (Nat.le_refl _) o).cell (p := ⟨w.heap.size, 0, none⟩) zz).trans x0
          have y1 : ∀ o, (wr.alloc o).cell? ⟨w.heap.size, 1, none⟩ = some (.slice (some ⟨b, off, none⟩) n cap) := fun o => (((Below.refl _ wr).alloc (Nat.le_refl _) o).cell (p := ⟨w.heap.size, 1, none⟩) zz).trans y0
          have i0 : (0 : Int) ≤ (k : Int) := by omega
          have i1 : (k : Int) < (n : Int) := by omega
          have HA : Hid (∀ j, j < k → catOk base f g j = true) := hall
          clear h1 h2 hc hc1 hb0 hall
          by_cases t1 : inB (f k) 1 9999 = true
          · by_cases t3 : inB (g k) 0 3 = true
            · by_cases t4 : (g k == base) = true
              · have t4' : g k = base := by simpa using t4
                clear t4
                go_wp2_with fail
                go_quiet ((go_at_call 49; exact Calls.quiet_of_same (l1In_any _ _ _ _)))
                go_wp2
                go_ret
                exact ⟨ret_bool (labOk_at hlt' (catOk_n4 (by simpa using t4'))).symm, below_drewN (hB'.alloc (by omega) _) _⟩
              · have t4' : (g k == base) = false := by simpa using t4
                clear t4
                by_cases k0 : k = 0
                · have d0 : decide ((0 : Int) < (k : Int)) = false := by simp; omega
                  have d1 : decide (0 < k) = false := by simp; omega
                  have K0 : Hid (k = 0) := k0
                  clear k0
                  go_wp2_with fail
                  go_quiet ((go_at_call 49; exact Calls.quiet_of_same (l1In_any _ _ _ _)))
                  go_wp2
                  go_roundw
                  case rel =>
                    refine ⟨k + 1, by omega, by go_num, fun j hj => ?_, below_drewN (hB.alloc (by omega) _) _⟩
                    by_cases e : j = k
                    · subst e; exact catOk_y0 t1 t3 t4' (.inl K0.out)
                    · exact HA.out j (by omega)
                  case measure => simp [intOf]; omega
                · obtain ⟨m, rfl⟩ : ∃ m, k = m + 1 := ⟨k - 1, by omega⟩
                  have d0 : (0 : Int) < ((m + 1 : Nat) : Int) := by omega
                  have q1 : ∀ o, (wr.alloc o).cell? ⟨b, off + m * 2, none⟩ = some (.int .i64 (f m)) := fun o => (((Below.refl _ wr).alloc (Nat.le_refl _) o).cell (p := ⟨b, off + m * 2, none⟩) zb).trans ((hB'.cell (p := ⟨b, _, none⟩) hlt).trans (hcc m (by omega)).1)
                  have j1 : ((m : Nat) : Int) < (n : Int) := by omega
                  clear hcc
                  by_cases t5 : f (m + 1) ≤ f m
                  · have d5 : decide (f (m + 1) ≤ f m) = true := by simpa using t5
                    go_wp2_with fail
                    go_quiet ((go_at_call 49; exact Calls.quiet_of_same (l1In_any _ _ _ _)))
                    go_wp2
                    go_ret
                    exact ⟨ret_bool (labOk_at hlt' (catOk_n5 (by omega) t5)).symm, below_drewN (hB'.alloc (by omega) _) _⟩
                  · have d5 : decide (f (m + 1) ≤ f m) = false := by simpa using t5
                    go_wp2_with fail
                    go_quiet ((go_at_call 49; exact Calls.quiet_of_same (l1In_any _ _ _ _)))
                    go_wp2
                    go_roundw
                    case rel =>
                      refine ⟨m + 1 + 1, by omega, by go_num, fun j hj => ?_, below_drewN (hB.alloc (by omega) _) _⟩
                      by_cases e : j = (m + 1)
                      · subst e; exact catOk_y0 t1 t3 t4' (.inr (by simpa using t5))
                      · exact HA.out j (by omega)
                    case measure => simp [intOf]; omega
            · have t3' : inB (g k) 0 3 = false := by simpa using t3
              clear t3
              go_wp2_with fail
              go_quiet ((go_at_call 49; exact Calls.quiet_of_same (l1In_any _ _ _ _)))
              go_wp2
              go_ret
              exact ⟨ret_bool (labOk_at hlt' (catOk_n3 t3')).symm, below_drewN (hB'.alloc (by omega) _) _⟩
          · have t1' : inB (f k) 1 9999 = false := by simpa using t1
            clear t1
            go_wp2_with fail
            go_quiet ((go_at_call 49; exact Calls.quiet_of_same (l1In_any _ _ _ _)))
            go_wp2
            go_ret
            exact ⟨ret_bool (labOk_at hlt' (catOk_n1 t1')).symm, below_drewN (hB'.alloc (by omega) _) _⟩
        · have HA : Hid (∀ j, j < k → catOk base f g j = true) := hall
          clear hall hc hc1
          go_wp2
          go_ret
          have e : k = n := by omega
          subst e
          exact ⟨ret_bool (labOk_mk hb (by omega) HA.out).symm, hB'⟩
  · have hb' : inB base 0 3 = false := by simpa using hb
    clear hb
    go_enter Tryz.func19, Tryz.ntmps19
    go_wp2_with (go_at_call 49; refine (l1In_any _ _ _ _).mono ?_; rintro e w' ⟨rfl, rfl⟩)
    go_ret
    exact ⟨ret_bool (labOk_base hb').symm, (Below.refl _ _).alloc (Nat.le_refl _) _⟩
end Go.Proofs.YtaaeeaknjlammaaGreatDoor

/- Owned categories: ownsOk of the program and l2Owns of the model answer the plain function ownOk. -/
namespace Go.Proofs.YtaaeeaknjlammaaGreatDoor
open Go.RowKit Go.Deep

def ownAt (h : Nat → Int) (i : Nat) : Bool := inB (h i) 1 9999 && (i == 0 || decide (h (i - 1) < h i))
def ownOk (n : Nat) (h : Nat → Int) : Bool := decide (n ≤ 10) && (List.range n).all (ownAt h)

theorem ownOk_len {n : Nat} {h : Nat → Int} (e : 10 < n) : ownOk n h = false := by
  have : decide (n ≤ 10) = false := by simp; omega
  simp [ownOk, this]
theorem ownOk_at {n k : Nat} {h : Nat → Int} (hk : k < n) (e : ownAt h k = false) : ownOk n h = false := by
  have : (List.range n).all (ownAt h) = false := by
    rw [List.all_eq_false]; exact ⟨k, List.mem_range.2 hk, by simp [e]⟩
  simp [ownOk, this]
theorem ownOk_all {n : Nat} {h : Nat → Int} (e : ∀ i, i < n → ownAt h i = true) : ownOk n h = decide (n ≤ 10) := by
  have : (List.range n).all (ownAt h) = true := by
    rw [List.all_eq_true]; intro i hi; exact e i (List.mem_range.1 hi)
  simp [ownOk, this]
theorem ownOk_out {n : Nat} {h : Nat → Int} (e : ownOk n h = true) : n ≤ 10 ∧ ∀ i, i < n → ownAt h i = true := by
  simp only [ownOk, Bool.and_eq_true, decide_eq_true_eq, List.all_eq_true, List.mem_range] at e
  exact e
theorem ownAt_n1 {h : Nat → Int} {k : Nat} (e : inB (h k) 1 9999 = false) : ownAt h k = false := by simp [ownAt, e]
theorem ownAt_n2 {h : Nat → Int} {k : Nat} (h0 : inB (h k) 1 9999 = true) (e : h k ≤ lastOf h k) : ownAt h k = false := by
  have h0 := inB_iff.1 h0
  by_cases e0 : k = 0
  · subst e0; simp [lastOf] at e; omega
  · simp [lastOf, e0] at e
    have : decide (h (k - 1) < h k) = false := by simp; omega
    simp [ownAt, e0, this]
theorem ownAt_y {h : Nat → Int} {k : Nat} (h1 : inB (h k) 1 9999 = true) (h2 : lastOf h k < h k) : ownAt h k = true := by
  by_cases e : k = 0
  · subst e; simp_all [ownAt]
  · simp [lastOf, e] at h2
    simp [ownAt, h1, h2]
theorem ownAt_n5 {h : Nat → Int} {k : Nat} (h0 : 0 < k) (e : h k ≤ h (k - 1)) : ownAt h k = false := by
  have e0 : ¬ k = 0 := by omega
  have : decide (h (k - 1) < h k) = false := by simp; omega
  simp [ownAt, e0, this]
theorem ownAt_y0 {h : Nat → Int} {k : Nat} (h1 : inB (h k) 1 9999 = true) (e : k = 0 ∨ h (k - 1) < h k) : ownAt h k = true := by
  rcases e with e | e <;> simp_all [ownAt]

set_option maxHeartbeats 1000000 in
theorem ownsOk_any (a : Option Addr) (n cap : Nat) (h : Nat → Int) (w : World) (hn : n ≤ maxLen) (hc : IntsAt w a n h) :
    Calls Tryz.prog 93 #[.slice a n cap] w fun e w' => e = .returned (.bool (ownOk n h)) ∧ w' = w := by
  unfold maxLen at hn
  by_cases h10 : 10 < n
  · have h10' : (10 : Int) < (n : Int) := by omega
    go_enter Tryz.func93, Tryz.ntmps93
    go_wp2
    go_ret
    exact ⟨ret_bool (ownOk_len h10).symm, rfl⟩
  · have h10' : ¬ (10 : Int) < (n : Int) := by omega
    go_enter Tryz.func93, Tryz.ntmps93
    go_wp2
    go_loop [3, 11] (fun l i => ∃ k : Nat, k ≤ n ∧ i = .int .i64 k ∧ l = .int .i64 (lastOf h k) ∧ (∀ j, j < k → ownAt h j = true)) (fun _ i => n - (intOf i).toNat)
    case atStart => exact ⟨0, Nat.zero_le _, rfl, rfl, fun j hj => by omega⟩
    case round =>
      obtain ⟨k, hk, rfl, rfl, hall⟩ := hrel
      have HA : Hid (∀ j, j < k → ownAt h j = true) := hall
      clear hall
      by_cases hlt' : k < n
      · obtain ⟨b, off, rfl, hlt, hcc⟩ := hc (by omega)
        have g1 := hcc k hlt'
        clear hcc hc
        by_cases t1 : inB (h k) 1 9999 = true
        · go_wp2_with (go_at_call 77; refine (isCat_any _ _).mono ?_; rintro e w' ⟨rfl, rfl⟩)
          · go_ret
            have t2 : h k ≤ lastOf h k := by assumption
            exact ⟨ret_bool (ownOk_at hlt' (ownAt_n2 t1 t2)).symm, rfl⟩
          · have t2 : lastOf h k < h k := by assumption
            go_round
            case rel =>
              refine ⟨k + 1, by omega, by go_num, by rw [lastOf_succ], fun j hj => ?_⟩
              by_cases e : j = k
              · subst e; exact ownAt_y t1 t2
              · exact HA.out j (by omega)
            case measure => simp [intOf]; omega
        · have t1' : inB (h k) 1 9999 = false := by simpa using t1
          clear t1
          go_wp2_with (go_at_call 77; refine (isCat_any _ _).mono ?_; rintro e w' ⟨rfl, rfl⟩)
          go_ret
          exact ⟨ret_bool (ownOk_at hlt' (ownAt_n1 t1')).symm, rfl⟩
      · clear hc
        go_wp2
        go_ret
        have e : k = n := by omega
        subst e
        exact ⟨ret_bool (by rw [ownOk_all HA.out]; simp; omega), rfl⟩

set_option maxHeartbeats 1000000 in
theorem l2Owns_any (a : Option Addr) (n cap : Nat) (h : Nat → Int) (w : World) (hn : n ≤ maxLen) (hc : IntsAt w a n h) :
    Calls Tryz.prog 72 #[.slice a n cap] w fun e w' => e = .returned (.bool (ownOk n h)) ∧ Below w.heap.size w w' := by
  unfold maxLen at hn
  go_enter Tryz.func72, Tryz.ntmps72
  go_wp2
  go_loopw [3] (fun i wr => ∃ k : Nat, k ≤ n ∧ i = .int .i64 k ∧ (∀ j, j < k → ownAt h j = true) ∧ Below w.heap.size w wr) (fun i _ => n - (intOf i).toNat)
  case atStart => exact ⟨0, Nat.zero_le _, rfl, fun j hj => by omega, Below.refl _ _⟩
  case round =>
    obtain ⟨k, hk, rfl, hall, hB⟩ := hrel
    have HA : Hid (∀ j, j < k → ownAt h j = true) := hall
    clear hall
    by_cases hlt' : k < n
    · obtain ⟨b, off, rfl, hlt, hcc⟩ := hc (by omega)
      have g1 : wr.cell? ⟨b, off + k, none⟩ = some (.int .i64 (h k)) := (hB.cell (p := ⟨b, _, none⟩) hlt).trans (hcc k hlt')
      have i0 : (0 : Int) ≤ (k : Int) := by omega
      have i1 : (k : Int) < (n : Int) := by omega
      clear hc
      by_cases t1 : inB (h k) 1 9999 = true
      · by_cases k0 : k = 0
        · have d0 : decide ((0 : Int) < (k : Int)) = false := by simp; omega
          have d1 : decide (0 < k) = false := by simp; omega
          have K0 : Hid (k = 0) := k0
          clear k0 hcc
          go_wp2_with fail
          go_quiet ((go_at_call 49; exact Calls.quiet_of_same (l1In_any _ _ _ _)))
          go_wp2
          go_roundw
          case rel =>
            refine ⟨k + 1, by omega, by go_num, fun j hj => ?_, below_drewN hB _⟩
            by_cases e : j = k
            · subst e; exact ownAt_y0 t1 (.inl K0.out)
            · exact HA.out j (by omega)
          case measure => simp [intOf]; omega
        · obtain ⟨m, rfl⟩ : ∃ m, k = m + 1 := ⟨k - 1, by omega⟩
          have d0 : (0 : Int) < ((m + 1 : Nat) : Int) := by omega
          have q1 : wr.cell? ⟨b, off + m, none⟩ = some (.int .i64 (h m)) := (hB.cell (p := ⟨b, _, none⟩) hlt).trans (hcc m (by omega))
          have j1 : ((m : Nat) : Int) < (n : Int) := by omega
          clear hcc
          by_cases t5 : h (m + 1) ≤ h m
          · have d5 : decide (h (m + 1) ≤ h m) = true := by simpa using t5
            go_wp2_with fail
            go_quiet ((go_at_call 49; exact Calls.quiet_of_same (l1In_any _ _ _ _)))
            go_wp2
            go_ret
            exact ⟨ret_bool (ownOk_at hlt' (ownAt_n5 (by omega) t5)).symm, below_drewN hB _⟩
          · have d5 : decide (h (m + 1) ≤ h m) = false := by simpa using t5
            go_wp2_with fail
            go_quiet ((go_at_call 49; exact Calls.quiet_of_same (l1In_any _ _ _ _)))
            go_wp2
            go_roundw
            case rel =>
              refine ⟨m + 1 + 1, by omega, by go_num, fun j hj => ?_, below_drewN hB _⟩
              by_cases e : j = m + 1
              · subst e; exact ownAt_y0 t1 (.inr (by simpa using t5))
              · exact HA.out j (by omega)
            case measure => simp [intOf]; omega
      · have t1' : inB (h k) 1 9999 = false := by simpa using t1
        clear t1 hcc
        go_wp2_with fail
        go_quiet ((go_at_call 49; exact Calls.quiet_of_same (l1In_any _ _ _ _)))
        go_wp2
        go_ret
        exact ⟨ret_bool (ownOk_at hlt' (ownAt_n1 t1')).symm, below_drewN hB _⟩
    · clear hc
      go_wp2
      go_ret
      have e : k = n := by omega
      subst e
      exact ⟨ret_bool (by rw [ownOk_all HA.out]; exact decide_eq_decide.2 (by omega)), hB⟩
end Go.Proofs.YtaaeeaknjlammaaGreatDoor

/- Threads in the exact laws: ThreadOk of the program and of the model answer the plain function thrOk. -/
namespace Go.Proofs.YtaaeeaknjlammaaGreatDoor
open Go.RowKit Go.Deep

def thrOk (id made b1 : Int) (n1 : Nat) (f1 g1 : Nat → Int) (b2 : Int) (n2 : Nat) (f2 g2 : Nat → Int) (n3 : Nat) (h : Nat → Int) : Bool :=
  inB id 1 9 && labOk b1 n1 f1 g1 && labOk b2 n2 f2 g2 && ownOk n3 h && inB made 0 30
theorem thrOk_all {id made b1 : Int} {n1 : Nat} {f1 g1 : Nat → Int} {b2 : Int} {n2 : Nat} {f2 g2 : Nat → Int} {n3 : Nat} {h : Nat → Int} (t0 : inB id 1 9 = true) (t1 : labOk b1 n1 f1 g1 = true) (t2 : labOk b2 n2 f2 g2 = true) (t3 : ownOk n3 h = true) :
    thrOk id made b1 n1 f1 g1 b2 n2 f2 g2 n3 h = inB made 0 30 := by simp [thrOk, t0, t1, t2, t3]

set_option maxHeartbeats 1000000 in
theorem specThr_any (id made b1 : Int) (a1 : Option Addr) (n1 k1 : Nat) (f1 g1 : Nat → Int) (b2 : Int) (a2 : Option Addr) (n2 k2 : Nat) (f2 g2 : Nat → Int) (a3 : Option Addr) (n3 k3 : Nat) (h : Nat → Int) (w : World)
    (hn1 : n1 ≤ maxLen) (hn2 : n2 ≤ maxLen) (hn3 : n3 ≤ maxLen) (hc1 : CatsAt w a1 n1 f1 g1) (hc2 : CatsAt w a2 n2 f2 g2) (hc3 : IntsAt w a3 n3 h) :
    Calls Tryz.prog 45 #[.agg #[.int .i64 id, .int .i64 b1, .slice a1 n1 k1, .int .i64 b2, .slice a2 n2 k2, .slice a3 n3 k3, .int .i64 made]] w fun e w' => e = .returned (.bool (thrOk id made b1 n1 f1 g1 b2 n2 f2 g2 n3 h)) ∧ Below w.heap.size w w' := by
  have hb0 := (Below.refl _ w).alloc (Nat.le_refl _) (.cells #[.int .i64 id, .int .i64 b1, .slice a1 n1 k1, .int .i64 b2, .slice a2 n2 k2, .slice a3 n3 k3, .int .i64 made] 54)
  have C1 := hc1.below hb0
  have C2 := hc2.below hb0
  have C3 := hc3.below hb0
  clear hc1 hc2 hc3
  by_cases t0 : inB id 1 9 = true
  · skip
    go_enter Tryz.func45, Tryz.ntmps45
    go_wp2_with (go_at_call 49; refine (l1In_any _ _ _ _).mono ?_; rintro e w' ⟨rfl, rfl⟩)
    refine (specOk_any _ _ _ _ f1 g1 _ hn1 C1).mono ?_
    rintro e w1 ⟨rfl, hb1⟩
    obtain ⟨q1, _⟩ := bcell hb1
    have z1 : w.heap.size < w1.heap.size := by have := hb1.size; simp at this; omega
    have B1 : Below w.heap.size w w1 := hb0.trans (hb1.mono (by simp))
    by_cases t1 : labOk b1 n1 f1 g1 = true
    · go_wp2_with fail
      refine (specOk_any _ _ _ _ f2 g2 _ hn2 (C2.below hb1)).mono ?_
      rintro e w2 ⟨rfl, hb2⟩
      obtain ⟨q2, _⟩ := bcell hb2
      have z2 : w.heap.size < w2.heap.size := by have := hb2.size; omega
      have B2 : Below w.heap.size w w2 := B1.trans (hb2.mono (by omega))
      by_cases t2 : labOk b2 n2 f2 g2 = true
      · go_wp2_with fail
        refine (l2Owns_any _ _ _ h _ hn3 ((C3.below hb1).below hb2)).mono ?_
        rintro e w3 ⟨rfl, hb3⟩
        obtain ⟨q3, _⟩ := bcell hb3
        have z3 : w.heap.size < w3.heap.size := by have := hb3.size; omega
        have B3 : Below w.heap.size w w3 := B2.trans (hb3.mono (by omega))
        by_cases t3 : ownOk n3 h = true
        · go_wp2_with (go_at_call 49; refine (l1In_any _ _ _ _).mono ?_; rintro e w' ⟨rfl, rfl⟩)
          go_ret
          exact ⟨ret_bool (by simp [thrOk, t0, t1, t2, t3]), B3⟩
        · have t3' : ownOk n3 h = false := by simpa using t3
          clear t3
          go_wp2
          go_ret
          exact ⟨ret_bool (by simp [thrOk, t3']), B3⟩
      · have t2' : labOk b2 n2 f2 g2 = false := by simpa using t2
        clear t2
        go_wp2
        go_ret
        exact ⟨ret_bool (by simp [thrOk, t2']), B2⟩
    · have t1' : labOk b1 n1 f1 g1 = false := by simpa using t1
      clear t1
      go_wp2
      go_ret
      exact ⟨ret_bool (by simp [thrOk, t1']), B1⟩
  · have t0' : inB id 1 9 = false := by simpa using t0
    clear t0
    go_enter Tryz.func45, Tryz.ntmps45
    go_wp2_with (go_at_call 49; refine (l1In_any _ _ _ _).mono ?_; rintro e w' ⟨rfl, rfl⟩)
    go_ret
    exact ⟨ret_bool (by simp [thrOk, t0']), hb0⟩

set_option maxHeartbeats 1000000 in
theorem implThr_any (id made b1 : Int) (a1 : Option Addr) (n1 k1 : Nat) (f1 g1 : Nat → Int) (b2 : Int) (a2 : Option Addr) (n2 k2 : Nat) (f2 g2 : Nat → Int) (a3 : Option Addr) (n3 k3 : Nat) (h : Nat → Int) (w : World)
    (hn1 : n1 ≤ maxLen) (hn2 : n2 ≤ maxLen) (hn3 : n3 ≤ maxLen) (hc1 : CatsAt w a1 n1 f1 g1) (hc2 : CatsAt w a2 n2 f2 g2) (hc3 : IntsAt w a3 n3 h) :
    Calls Tryz.prog 81 #[.agg #[.int .i64 id, .int .i64 b1, .slice a1 n1 k1, .int .i64 b2, .slice a2 n2 k2, .slice a3 n3 k3, .int .i64 made]] w fun e w' => e = .returned (.bool (thrOk id made b1 n1 f1 g1 b2 n2 f2 g2 n3 h)) ∧ Below w.heap.size w w' := by
  have hb0 := (Below.refl _ w).alloc (Nat.le_refl _) (.cells #[.int .i64 id, .int .i64 b1, .slice a1 n1 k1, .int .i64 b2, .slice a2 n2 k2, .slice a3 n3 k3, .int .i64 made] 54)
  have C1 := hc1.below hb0
  have C2 := hc2.below hb0
  have C3 := hc3.below hb0
  clear hc1 hc2 hc3
  by_cases t0 : inB id 1 9 = true
  · obtain ⟨s1, s2⟩ := inB_iff.1 t0
    go_enter Tryz.func81, Tryz.ntmps81
    go_wp2_with fail
    refine (implOk_any _ _ _ _ f1 g1 _ hn1 C1).mono ?_
    rintro e w1 ⟨rfl, hb1⟩
    obtain ⟨q1, _⟩ := bcell hb1
    have z1 : w.heap.size < w1.heap.size := by have := hb1.size; simp at this; omega
    have B1 : Below w.heap.size w w1 := hb0.trans (hb1.mono (by simp))
    by_cases t1 : labOk b1 n1 f1 g1 = true
    · go_wp2_with fail
      refine (implOk_any _ _ _ _ f2 g2 _ hn2 (C2.below hb1)).mono ?_
      rintro e w2 ⟨rfl, hb2⟩
      obtain ⟨q2, _⟩ := bcell hb2
      have z2 : w.heap.size < w2.heap.size := by have := hb2.size; omega
      have B2 : Below w.heap.size w w2 := B1.trans (hb2.mono (by omega))
      by_cases t2 : labOk b2 n2 f2 g2 = true
      · go_wp2_with fail
        refine (ownsOk_any _ _ _ h _ hn3 ((C3.below hb1).below hb2)).mono ?_
        rintro e w3 ⟨rfl, rfl⟩
        have B3 := B2
        by_cases t3 : ownOk n3 h = true
        · go_wp2
          all_goals
            go_ret
            refine ⟨ret_bool ?_, B3⟩
            rw [thrOk_all t0 t1 t2 t3]
            first | exact (inB_yes (by assumption)).symm | exact (inB_no (by assumption)).symm
        · have t3' : ownOk n3 h = false := by simpa using t3
          clear t3
          go_wp2
          go_ret
          exact ⟨ret_bool (by simp [thrOk, t3']), B3⟩
      · have t2' : labOk b2 n2 f2 g2 = false := by simpa using t2
        clear t2
        go_wp2
        go_ret
        exact ⟨ret_bool (by simp [thrOk, t2']), B2⟩
    · have t1' : labOk b1 n1 f1 g1 = false := by simpa using t1
      clear t1
      go_wp2
      go_ret
      exact ⟨ret_bool (by simp [thrOk, t1']), B1⟩
  · have t0' : inB id 1 9 = false := by simpa using t0
    clear t0
    go_enter Tryz.func81, Tryz.ntmps81
    by_cases s1 : 1 ≤ id
    · have s2 : ¬ id ≤ 9 := fun s2 => by simp [inB, s1, s2] at t0'
      go_wp2
      go_ret
      exact ⟨ret_bool (by simp [thrOk, t0']), hb0⟩
    · go_wp2
      go_ret
      exact ⟨ret_bool (by simp [thrOk, t0']), hb0⟩
end Go.Proofs.YtaaeeaknjlammaaGreatDoor

/- Threads in the exact laws: their budget, their copies and their comparison. -/
namespace Go.Proofs.YtaaeeaknjlammaaGreatDoor
open Go.RowKit Go.Deep

theorem szOf_cases (n : Nat) (left : Int) (h0 : 0 ≤ left) (h1 : left ≤ 1048576) : (szOf n left = -1) ∨ (0 ≤ szOf n left ∧ szOf n left ≤ left ∧ n ≤ 1048576) := by
  unfold szOf; split
  · exact .inl rfl
  · right; omega

set_option maxHeartbeats 1000000 in
theorem szThread_any (id made b1 : Int) (a1 : Option Addr) (n1 k1 : Nat) (b2 : Int) (a2 : Option Addr) (n2 k2 : Nat) (a3 : Option Addr) (n3 k3 : Nat) (left : Int) (w : World)
    (hn1 : n1 ≤ maxLen) (hn2 : n2 ≤ maxLen) (hn3 : n3 ≤ maxLen) (h0 : 0 ≤ left) (h1 : left ≤ 1048576) :
    Calls Tryz.prog 43 #[.agg #[.int .i64 id, .int .i64 b1, .slice a1 n1 k1, .int .i64 b2, .slice a2 n2 k2, .slice a3 n3 k3, .int .i64 made], .int .i64 left] w fun e w' =>
      ∃ r : Int, e = .returned (.int .i64 r) ∧ (r = -1 ∨ (0 ≤ r ∧ r ≤ left ∧ n1 ≤ 1048576 ∧ n2 ≤ 1048576 ∧ n3 ≤ 1048576)) ∧ Below w.heap.size w w' := by
  have hb0 := (Below.refl _ w).alloc (Nat.le_refl _) (.cells #[.int .i64 id, .int .i64 b1, .slice a1 n1 k1, .int .i64 b2, .slice a2 n2 k2, .slice a3 n3 k3, .int .i64 made] 93)
  go_enter Tryz.func43, Tryz.ntmps43
  go_wp2_with fail
  refine (szLabel_any _ _ _ _ _ _ hn1 h0 h1).mono ?_
  rintro e w1 ⟨rfl, hb1⟩
  obtain ⟨q1, _⟩ := bcell hb1
  have z1 : w.heap.size < w1.heap.size := by have := hb1.size; simp at this; omega
  have B1 : Below w.heap.size w w1 := hb0.trans (hb1.mono (by simp))
  have s1 := szOf_cases n1 left h0 h1
  generalize szOf n1 left = r1 at *
  rcases s1 with rfl | ⟨u1, v1, m1⟩
  · go_wp2
    go_ret
    exact ⟨_, rfl, .inl rfl, B1⟩
  · go_wp2_with fail
    refine (szLabel_any _ _ _ _ _ _ hn2 u1 (by omega)).mono ?_
    rintro e w2 ⟨rfl, hb2⟩
    obtain ⟨q2, _⟩ := bcell hb2
    have z2 : w.heap.size < w2.heap.size := by have := hb2.size; omega
    have B2 : Below w.heap.size w w2 := B1.trans (hb2.mono (by omega))
    have s2 := szOf_cases n2 r1 u1 (by omega)
    generalize szOf n2 r1 = r2 at *
    rcases s2 with rfl | ⟨u2, v2, m2⟩
    · go_wp2
      go_ret
      exact ⟨_, rfl, .inl rfl, B2⟩
    · go_wp2_with fail
      refine (szInt64S_any _ _ _ _ _ hn3 u2 (by omega)).mono ?_
      rintro e w3 ⟨rfl, rfl⟩
      have s3 := szOf_cases n3 r2 u2 (by omega)
      generalize szOf n3 r2 = r3 at *
      rcases s3 with rfl | ⟨u3, v3, m3⟩
      · go_wp2
        go_ret
        exact ⟨_, rfl, .inl rfl, B2⟩
      · go_wp2
        go_ret
        exact ⟨_, rfl, .inr ⟨u3, by omega, m1, m2, m3⟩, B2⟩

set_option maxHeartbeats 1000000 in
theorem toThread_any (id made b1 : Int) (a1 : Option Addr) (n1 k1 : Nat) (f1 g1 : Nat → Int) (b2 : Int) (a2 : Option Addr) (n2 k2 : Nat) (f2 g2 : Nat → Int) (a3 : Option Addr) (n3 k3 : Nat) (h : Nat → Int) (w : World)
    (hn1 : n1 ≤ 1048576) (hn2 : n2 ≤ 1048576) (hn3 : n3 ≤ 1048576) (hc1 : CatsAt w a1 n1 f1 g1) (hc2 : CatsAt w a2 n2 f2 g2) (hc3 : IntsAt w a3 n3 h) :
    Calls Tryz.prog 52 #[.agg #[.int .i64 id, .int .i64 b1, .slice a1 n1 k1, .int .i64 b2, .slice a2 n2 k2, .slice a3 n3 k3, .int .i64 made]] w fun e w' =>
      ∃ c1 c2 c3, e = .returned (.agg #[.int .i64 id, .int .i64 b1, .slice (some ⟨c1, 0, none⟩) n1 n1, .int .i64 b2, .slice (some ⟨c2, 0, none⟩) n2 n2, .slice (some ⟨c3, 0, none⟩) n3 n3, .int .i64 made]) ∧
        w'.rowIs c1 100 (n1 * 2) (pairCell f1 g1) ∧ w'.rowIs c2 100 (n2 * 2) (pairCell f2 g2) ∧ w'.rowIs c3 2 n3 (fun i => .int .i64 (h i)) ∧ Below w.heap.size w w' ∧ w.heap.size ≤ c1 ∧ w.heap.size ≤ c2 ∧ w.heap.size ≤ c3 := by
  go_enter Tryz.func52, Tryz.ntmps52
  go_wp2_with fail
  refine (toLabel_any _ _ _ _ f1 g1 _ hn1 (hc1.below ?_)).mono ?_
  · exact ((((Below.refl _ w).alloc (Nat.le_refl _) _).alloc (by simp) _).alloc (by simp; omega) _)
  rintro e w1 ⟨c1, rfl, hl1, r1, hb1⟩
  obtain ⟨q1, p1⟩ := bcell hb1
  have z1 : w.heap.size + 1 + 1 < w1.heap.size := by have := hb1.size; simp at this; omega
  have z1' : w.heap.size + 1 < w1.heap.size := by omega
  have z1'' : w.heap.size < w1.heap.size := by omega
  have B1 : Below w.heap.size w w1 := ((((Below.refl _ w).alloc (Nat.le_refl _) _).alloc (by simp) _).alloc (by simp; omega) _).trans (hb1.mono (by simp; omega))
  have d1 : w.heap.size + 1 + 1 + 1 ≤ c1 := by simpa using hl1
  clear hl1
  go_wp2_with fail
  refine (toLabel_any _ _ _ _ f2 g2 _ hn2 (hc2.below ?_)).mono ?_
  · exact (B1.setCell (by dsimp only; omega) _).setCell (by dsimp only; omega) _
  rintro e w2 ⟨c2, rfl, hl2, r2, hb2⟩
  obtain ⟨q2, p2⟩ := bcell hb2
  have e2 : w1.heap.size ≤ w2.heap.size := by have := hb2.size; simpa using this
  have z2 : w.heap.size + 1 + 1 < w2.heap.size := by omega
  have z2' : w.heap.size + 1 < w2.heap.size := by omega
  have z2'' : w.heap.size < w2.heap.size := by omega
  have B2 : Below w.heap.size w w2 := ((B1.setCell (by dsimp only; omega) _).setCell (by dsimp only; omega) _).trans (hb2.mono (by simp; omega))
  have d2 : w1.heap.size ≤ c2 := by simpa using hl2
  have r1' : w2.rowIs c1 100 (n1 * 2) (pairCell f1 g1) := World.rowIs.below ((r1.setOther (by dsimp only; omega) _).setOther (by dsimp only; omega) _) hb2 (by have := r1.lt; simpa using this)
  clear hl2
  go_wp2_with fail
  refine (toInt64S_any _ _ _ h _ hn3 (hc3.below ?_)).mono ?_
  · exact (B2.setCell (by dsimp only; omega) _).setCell (by dsimp only; omega) _
  rintro e w3 ⟨rfl, r3, hb3⟩
  obtain ⟨q3, p3⟩ := bcell hb3
  have e3 : w2.heap.size ≤ w3.heap.size := by have := hb3.size; simpa using this
  have z3 : w.heap.size + 1 + 1 < w3.heap.size := by omega
  have z3' : w.heap.size + 1 < w3.heap.size := by omega
  have z3'' : w.heap.size < w3.heap.size := by omega
  have B3 : Below w.heap.size w w3 := ((B2.setCell (by dsimp only; omega) _).setCell (by dsimp only; omega) _).trans (hb3.mono (by simp; omega))
  have r1'' : w3.rowIs c1 100 (n1 * 2) (pairCell f1 g1) := World.rowIs.below ((r1'.setOther (by dsimp only; omega) _).setOther (by dsimp only; omega) _) hb3 (by have := r1'.lt; simpa using this)
  have r2'' : w3.rowIs c2 100 (n2 * 2) (pairCell f2 g2) := World.rowIs.below ((r2.setOther (by dsimp only; omega) _).setOther (by dsimp only; omega) _) hb3 (by have := r2.lt; simpa using this)
  obtain ⟨c3, h3⟩ : ∃ c3, c3 = w2.heap.size := ⟨_, rfl⟩
  have r3' : w3.rowIs c3 2 n3 (fun i => .int .i64 (h i)) := by rw [h3]; simpa using r3
  clear r3 r1 r2 r1' hc1 hc2 hc3
  go_wp2
  refine bodyPost_ret (v := .agg #[.int .i64 id, .int .i64 b1, .slice (some ⟨c1, 0, none⟩) n1 n1, .int .i64 b2, .slice (some ⟨c2, 0, none⟩) n2 n2, .slice (some ⟨c3, 0, none⟩) n3 n3, .int .i64 made]) (by simp [results, Tryz.results52, go_sem, *]) rfl ⟨c1, c2, c3, rfl, ?_, ?_, ?_, ?_, by omega, by omega, by omega⟩
  · iterate 9 refine World.rowIs.setOther ?_ (by dsimp only; omega) _
    exact r1''
  · iterate 9 refine World.rowIs.setOther ?_ (by dsimp only; omega) _
    exact r2''
  · iterate 9 refine World.rowIs.setOther ?_ (by dsimp only; omega) _
    exact r3'
  · iterate 9 refine Below.setCell ?_ (by dsimp only; omega) _
    exact B3

set_option maxHeartbeats 1000000 in
theorem eqThread_true (id made b1 : Int) (a1 : Option Addr) (n1 k1 : Nat) (f1 g1 : Nat → Int) (b2 : Int) (a2 : Option Addr) (n2 k2 : Nat) (f2 g2 : Nat → Int) (a3 : Option Addr) (n3 k3 : Nat) (h : Nat → Int)
    (a1' : Option Addr) (k1' : Nat) (a2' : Option Addr) (k2' : Nat) (a3' : Option Addr) (k3' : Nat) (w : World)
    (hn1 : n1 ≤ maxLen) (hn2 : n2 ≤ maxLen) (hn3 : n3 ≤ maxLen) (hc1 : CatsAt w a1 n1 f1 g1) (hc2 : CatsAt w a2 n2 f2 g2) (hc3 : IntsAt w a3 n3 h) (hd1 : CatsAt w a1' n1 f1 g1) (hd2 : CatsAt w a2' n2 f2 g2) (hd3 : IntsAt w a3' n3 h) :
    Calls Tryz.prog 63 #[.agg #[.int .i64 id, .int .i64 b1, .slice a1 n1 k1, .int .i64 b2, .slice a2 n2 k2, .slice a3 n3 k3, .int .i64 made], .agg #[.int .i64 id, .int .i64 b1, .slice a1' n1 k1', .int .i64 b2, .slice a2' n2 k2', .slice a3' n3 k3', .int .i64 made]] w fun e w' =>
      e = .returned (.bool true) ∧ Below w.heap.size w w' := by
  have hb0 := ((Below.refl _ w).alloc (Nat.le_refl _) (.cells #[.int .i64 id, .int .i64 b1, .slice a1 n1 k1, .int .i64 b2, .slice a2 n2 k2, .slice a3 n3 k3, .int .i64 made] 54)).alloc (by simp) (.cells #[.int .i64 id, .int .i64 b1, .slice a1' n1 k1', .int .i64 b2, .slice a2' n2 k2', .slice a3' n3 k3', .int .i64 made] 54)
  go_enter Tryz.func63, Tryz.ntmps63
  go_wp2_with fail
  refine (eqLabel_true _ _ _ _ _ _ f1 g1 _ hn1 (hc1.below hb0) (hd1.below hb0)).mono ?_
  rintro e w1 ⟨rfl, hb1⟩
  obtain ⟨q1, _⟩ := bcell hb1
  have z1 : w.heap.size + 1 < w1.heap.size := by have := hb1.size; simp at this; omega
  have z1' : w.heap.size < w1.heap.size := by omega
  have B1 : Below w.heap.size w w1 := hb0.trans (hb1.mono (by simp; omega))
  go_wp2_with fail
  refine (eqLabel_true _ _ _ _ _ _ f2 g2 _ hn2 (hc2.below B1) (hd2.below B1)).mono ?_
  rintro e w2 ⟨rfl, hb2⟩
  obtain ⟨q2, _⟩ := bcell hb2
  have z2 : w.heap.size + 1 < w2.heap.size := by have := hb2.size; omega
  have z2' : w.heap.size < w2.heap.size := by omega
  have B2 : Below w.heap.size w w2 := B1.trans (hb2.mono (by omega))
  go_wp2_with fail
  refine (eqInt64S_true _ _ _ _ _ h _ hn3 (hc3.below B2) (hd3.below B2)).mono ?_
  rintro e w3 ⟨rfl, hb3⟩
  obtain ⟨q3, _⟩ := bcell hb3
  have B3 : Below w.heap.size w w3 := B2.trans (hb3.mono (by omega))
  clear hc1 hc2 hc3 hd1 hd2 hd3
  go_wp2
  go_ret
  exact ⟨rfl, B3⟩
end Go.Proofs.YtaaeeaknjlammaaGreatDoor

/- FnExactLeq: the walk: the law answers true at every two labels that came in, and writes nothing that was there. -/
namespace Go.Proofs.YtaaeeaknjlammaaGreatDoor
open Go.RowKit Go.Deep

/-- what lies in a block -/
def Blk (W : World) (P : Nat) (o : Obj) : Prop := W.heap[P]? = some o
theorem Blk.new (W : World) (o : Obj) : Blk (W.alloc o) W.heap.size o := blk_alloc_new _ _
theorem Blk.lt {W : World} {P : Nat} {o : Obj} (h : Blk W P o) : P < W.heap.size := (Array.getElem?_eq_some_iff.1 h).1
theorem Blk.alloc {W : World} {P : Nat} {o : Obj} (h : Blk W P o) (o' : Obj) : Blk (W.alloc o') P o := (blk_alloc_lt _ _ _ h.lt).trans h
theorem Blk.below {W W' : World} {P : Nat} {o : Obj} (h : Blk W P o) (hb : Below W.heap.size W W') : Blk W' P o := (hb.block P h.lt).trans h
theorem Blk.two {W : World} {P t : Nat} {x y : Value} (h : Blk W P (.cells #[x, y] t)) : W.cell? ⟨P, 0, none⟩ = some x ∧ W.cell? ⟨P, 1, none⟩ = some y := by
  unfold Blk at h
  simp [World.cell?, h]
end Go.Proofs.YtaaeeaknjlammaaGreatDoor
