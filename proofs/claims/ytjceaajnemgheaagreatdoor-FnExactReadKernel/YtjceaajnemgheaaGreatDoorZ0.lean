/- Contracts of the small helpers of the exact laws over labels: each call returns what the plain function says and leaves old memory as it was. -/
import Derived.Test.YtjceaajnemgheaaGreatDoorProg
import Derived.WalkKit
import Derived.WalkSpells
import Derived.WalkLawsBesides
import Derived.Below
import Derived.Deep.OwnRows
import Derived.Deep.RegionHeld3
namespace Go.Proofs.YtjceaajnemgheaaGreatDoor
open Go.RowKit

theorem ret_bool {a b : Bool} (h : a = b) : Ending.returned (.bool a) = .returned (.bool b) := by rw [h]
theorem ret_int {k : IntKind} {a b : Int} (h : a = b) : Ending.returned (.int k a) = .returned (.int k b) := by rw [h]

theorem bcell {W w1 : World} (hb : Below W.heap.size W w1) : (∀ b o, b < W.heap.size → w1.cell? ⟨b, o, none⟩ = W.cell? ⟨b, o, none⟩) ∧ (∀ b o, b < W.heap.size → w1.frozen? ⟨b, o, none⟩ = W.frozen? ⟨b, o, none⟩) :=
  ⟨fun b o h => hb.cell (p := ⟨b, o, none⟩) h, fun b o h => hb.frozen (p := ⟨b, o, none⟩) h⟩

def inB (x lo hi : Int) : Bool := decide (lo ≤ x) && decide (x ≤ hi)
theorem inB_yes {x lo hi : Int} (h : lo ≤ x) : inB x lo hi = decide (x ≤ hi) := by simp [inB, h]
theorem inB_no {x lo hi : Int} (h : x < lo) : inB x lo hi = false := by simp [inB]; omega

theorem l1In_any (x lo hi : Int) (w : World) :
    Calls Tryz.prog 49 #[.int .i64 x, .int .i64 lo, .int .i64 hi] w fun e w' => e = .returned (.bool (inB x lo hi)) ∧ w' = w := by
  go_enter Tryz.func49, Tryz.ntmps49
  go_wp2
  · go_ret
    exact ⟨ret_bool (inB_yes ‹_›).symm, rfl⟩
  · go_ret
    exact ⟨ret_bool (inB_no ‹_›).symm, rfl⟩

theorem isCat_any (x : Int) (w : World) :
    Calls Tryz.prog 89 #[.int .i64 x] w fun e w' => e = .returned (.bool (inB x 1 9999)) ∧ w' = w := by
  go_enter Tryz.func89, Tryz.ntmps89
  go_wp2
  · go_ret
    exact ⟨ret_bool (inB_yes ‹_›).symm, rfl⟩
  · go_ret
    exact ⟨ret_bool (inB_no ‹_›).symm, rfl⟩

theorem isLevel_any (x : Int) (w : World) :
    Calls Tryz.prog 88 #[.int .i64 x] w fun e w' => e = .returned (.bool (inB x 0 3)) ∧ w' = w := by
  go_enter Tryz.func88, Tryz.ntmps88
  go_wp2
  · go_ret
    exact ⟨ret_bool (inB_yes ‹_›).symm, rfl⟩
  · go_ret
    exact ⟨ret_bool (inB_no ‹_›).symm, rfl⟩

theorem eqCat_any (x y u v : Int) (w : World) :
    Calls Tryz.prog 86 #[.agg #[.int .i64 x, .int .i64 y], .agg #[.int .i64 u, .int .i64 v]] w fun e w' => e = .returned (.bool (x == u && y == v)) ∧ Below w.heap.size w w' := by
  go_enter Tryz.func86, Tryz.ntmps86
  go_wp2
  all_goals
    go_ret
    exact ⟨ret_bool (by simp_all), ((Below.refl _ _).alloc (Nat.le_refl _) _).alloc (by simp) _⟩
def szOf (n : Nat) (left : Int) : Int := if left - n < 0 then -1 else left - n

theorem szOf_le (n : Nat) (left : Int) (h0 : 0 ≤ left) : -1 ≤ szOf n left ∧ szOf n left ≤ left := by unfold szOf; split <;> omega

end Go.Proofs.YtjceaajnemgheaaGreatDoor
namespace Go.Proofs.YtjceaajnemgheaaGreatDoor
open Go.RowKit Go.Deep

theorem Tryz.info58 : (Tryz.prog.info? 58).map (fun i => (i.zero, i.size, i.bytes)) = some (some (.agg #[.int .i64 0, .int .i64 0]), 2, 16) := by kernel_rfl

theorem run_make_cats (n : Nat) (hn : n ≤ 1048576) (w : World) :
    (Instr.makeSlice 37 (.int .i64 (n : Int)) (.int .i64 (n : Int))).run Tryz.prog w = .ok (.slice (some ⟨w.heap.size, 0, none⟩) n n) (w.alloc (.cells (madeCells #[.int .i64 0, .int .i64 0] (n * 2)) 58)) := by
  obtain ⟨i, hi, hzz⟩ := Option.map_eq_some_iff.1 Tryz.info58
  simp only [Prod.mk.injEq] at hzz
  obtain ⟨hz, hs, hb⟩ := hzz
  have hr := run_make (P := Tryz.prog) w 37 58 i _ Tryz.underlying37 hi hz .i64 .i64 n n (by omega) (Int.le_refl _) (by rw [hb]; omega) (by omega)
  simp only [Int.toNat_natCast, hs] at hr
  exact hr
def pairCell (f g : Nat → Int) (j : Nat) : Value := if j % 2 = 0 then .int .i64 (f (j / 2)) else .int .i64 (g (j / 2))

def CatsAt (w : World) (a : Option Addr) (n : Nat) (f g : Nat → Int) : Prop :=
  0 < n → ∃ b off, a = some ⟨b, off, none⟩ ∧ b < w.heap.size ∧ ∀ i, i < n → w.cell? ⟨b, off + i * 2, none⟩ = some (.int .i64 (f i)) ∧ w.cell? ⟨b, off + i * 2 + 1, none⟩ = some (.int .i64 (g i))

theorem CatsAt.below {w w' : World} {a : Option Addr} {n : Nat} {f g : Nat → Int} (h : CatsAt w a n f g) (hb : Below w.heap.size w w') : CatsAt w' a n f g := fun hn => by
  obtain ⟨b, off, rfl, hlt, hc⟩ := h hn
  obtain ⟨h1, _⟩ := bcell hb
  exact ⟨b, off, rfl, Nat.lt_of_lt_of_le hlt hb.size, fun i hi => by rw [h1 _ _ hlt, h1 _ _ hlt]; exact hc i hi⟩

theorem CatsAt.row {w : World} {b n : Nat} {f g : Nat → Int} (h : w.rowIs b 58 (n * 2) (pairCell f g)) : CatsAt w (some ⟨b, 0, none⟩) n f g := fun _ => by
  refine ⟨b, 0, rfl, h.lt, fun i hi => ⟨?_, ?_⟩⟩
  · have := h.cell (i := 0 + i * 2) (by omega)
    rw [this]
    have e1 : (0 + i * 2) % 2 = 0 := by omega
    have e2 : (0 + i * 2) / 2 = i := by omega
    simp only [pairCell, e1, e2, if_true]
  · have := h.cell (i := 0 + i * 2 + 1) (by omega)
    rw [this]
    have e1 : ¬ (0 + i * 2 + 1) % 2 = 0 := by omega
    have e2 : (0 + i * 2 + 1) / 2 = i := by omega
    simp only [pairCell, e2, if_neg e1]

theorem made_row (w : World) (n : Nat) : (w.alloc (.cells (madeCells #[.int .i64 0, .int .i64 0] (n * 2)) 58)).rowIs w.heap.size 58 (n * 2) (pairCell (fun _ => 0) (fun _ => 0)) :=
  ⟨_, blk_alloc_new _ _, size_madeCells _ _, fun i hi => by
    rcases Nat.mod_two_eq_zero_or_one i with h | h <;> simp [madeCells, hi, pairCell, h]⟩
def upto (k : Nat) (f : Nat → Int) (i : Nat) : Int := if i < k then f i else 0


theorem upto_zero (f : Nat → Int) : upto 0 f = fun _ => 0 := by funext i; simp [upto]

theorem upto_row {w : World} {b n k : Nat} {f g : Nat → Int} (h : w.rowIs b 58 (n * 2) (pairCell (upto k f) (upto k g))) :
    ((w.setCell ⟨b, k * 2, none⟩ (.int .i64 (f k))).setCell ⟨b, k * 2 + 1, none⟩ (.int .i64 (g k))).rowIs b 58 (n * 2) (pairCell (upto (k + 1) f) (upto (k + 1) g)) := by
  refine ((h.set (k * 2) _).set (k * 2 + 1) _).congr fun j _ => ?_
  by_cases e1 : j = k * 2 + 1
  · subst e1
    have a1 : ¬ (k * 2 + 1) % 2 = 0 := by omega
    have a2 : (k * 2 + 1) / 2 = k := by omega
    simp [pairCell, upto, a2]
  · by_cases e2 : j = k * 2
    · subst e2
      simp [pairCell, upto]
    · have a1 : (j / 2 < k + 1) = (j / 2 < k) := by apply propext; omega
      simp [pairCell, upto, e1, e2, a1]

theorem upto_done {w : World} {b n : Nat} {f g : Nat → Int} (h : w.rowIs b 58 (n * 2) (pairCell (upto n f) (upto n g))) : w.rowIs b 58 (n * 2) (pairCell f g) :=
  h.congr fun j hj => by have : j / 2 < n := by omega
                         simp [pairCell, upto, this]

theorem World.rowIs.below {w w' : World} {B b n : Nat} {t : TypeId} {f : Nat → Value} (h : w.rowIs b t n f) (hb : Below B w w') (hB : b < B) : w'.rowIs b t n f :=
  h.of_block (hb.block b hB)

end Go.Proofs.YtjceaajnemgheaaGreatDoor
namespace Go.Proofs.YtjceaajnemgheaaGreatDoor
open Go.RowKit Go.Deep

set_option maxHeartbeats 1000000 in
theorem eqCatS_true (a a' : Option Addr) (n cap cap' : Nat) (f g : Nat → Int) (w : World) (hn : n ≤ maxLen) (h : CatsAt w a n f g) (h' : CatsAt w a' n f g) :
    Calls Tryz.prog 74 #[.slice a n cap, .slice a' n cap'] w fun e w' => e = .returned (.bool true) ∧ Below w.heap.size w w' := by
  unfold maxLen at hn
  go_enter Tryz.func74, Tryz.ntmps74
  go_wp2
  go_loopw [5] (fun i wr => ∃ k : Nat, k ≤ n ∧ i = .int .i64 k ∧ Below w.heap.size w wr) (fun i _ => n - (intOf i).toNat)
  case atStart => exact ⟨0, Nat.zero_le _, rfl, Below.refl _ _⟩
  case round =>
    obtain ⟨k, hk, rfl, hB⟩ := hrel
    by_cases hlt' : k < n
    · obtain ⟨b, off, rfl, hlt, hc⟩ := h (by omega)
      obtain ⟨b', off', rfl, hlt2, hc'⟩ := h' (by omega)
      obtain ⟨h1, h2⟩ := hc k hlt'
      obtain ⟨h3, h4⟩ := hc' k hlt'
      have g1 : wr.cell? ⟨b, off + k * 2, none⟩ = some (.int .i64 (f k)) := (hB.cell (p := ⟨b, _, none⟩) hlt).trans h1
      have g2 : wr.cell? ⟨b, off + k * 2 + 1, none⟩ = some (.int .i64 (g k)) := (hB.cell (p := ⟨b, _, none⟩) hlt).trans h2
      have g3 : wr.cell? ⟨b', off' + k * 2, none⟩ = some (.int .i64 (f k)) := (hB.cell (p := ⟨b', _, none⟩) hlt2).trans h3
      have g4 : wr.cell? ⟨b', off' + k * 2 + 1, none⟩ = some (.int .i64 (g k)) := (hB.cell (p := ⟨b', _, none⟩) hlt2).trans h4
      clear h1 h2 hc h3 h4 hc'
      have i0 : (0 : Int) ≤ (k : Int) := by omega
      have i1 : (k : Int) < (n : Int) := by omega
      have z1 : b < wr.heap.size := Nat.lt_of_lt_of_le hlt hB.size
      have z2 : b' < wr.heap.size := Nat.lt_of_lt_of_le hlt2 hB.size
      go_wp2_with fail
      go_region_held3 (fun w' => w'.cell? ⟨b, off + k * 2, none⟩ = some (.int .i64 (f k)) ∧ w'.cell? ⟨b, off + k * 2 + 1, none⟩ = some (.int .i64 (g k)) ∧ w'.cell? ⟨b', off' + k * 2, none⟩ = some (.int .i64 (f k)) ∧ w'.cell? ⟨b', off' + k * 2 + 1, none⟩ = some (.int .i64 (g k))) (go_keep)
        (first | (go_at_call 86; refine (eqCat_any _ _ _ _ _).mono ?_; rintro e w1 ⟨rfl, hb1⟩; have p1 := (hb1.cell (p := ⟨b, off + k * 2, none⟩) z1).trans g1; have p2 := (hb1.cell (p := ⟨b, off + k * 2 + 1, none⟩) z1).trans g2; have p3 := (hb1.cell (p := ⟨b', off' + k * 2, none⟩) z2).trans g3; have p4 := (hb1.cell (p := ⟨b', off' + k * 2 + 1, none⟩) z2).trans g4))
      have hB1 : Below w.heap.size w w1 := hB.drew.trans (hb1.mono hB.size)
      clear g1 g2 g3 g4 p1 p2 p3 p4 h h' hb1
      go_wp2
      go_roundw
      case rel => exact ⟨k + 1, by omega, by go_num, hB1⟩
      case measure => simp [intOf]; omega
    · clear h h'
      go_wp2
      go_ret
      exact ⟨rfl, hB⟩

set_option maxHeartbeats 1000000 in
theorem eqLabel_true (base : Int) (a a' : Option Addr) (n cap cap' : Nat) (f g : Nat → Int) (w : World) (hn : n ≤ maxLen) (h : CatsAt w a n f g) (h' : CatsAt w a' n f g) :
    Calls Tryz.prog 60 #[.agg #[.int .i64 base, .slice a n cap], .agg #[.int .i64 base, .slice a' n cap']] w fun e w' => e = .returned (.bool true) ∧ Below w.heap.size w w' := by
  have hb0 := ((Below.refl _ w).alloc (Nat.le_refl _) (.cells #[.int .i64 base, .slice a n cap] 39)).alloc (by simp) (.cells #[.int .i64 base, .slice a' n cap'] 39)
  have hc1 := h.below hb0
  have hc2 := h'.below hb0
  go_enter Tryz.func60, Tryz.ntmps60
  go_wp2_with (go_at_call 74; refine (eqCatS_true _ _ _ _ _ f g _ hn hc1 hc2).mono ?_; rintro e w1 ⟨rfl, hb1⟩)
  go_ret
  exact ⟨rfl, hb0.trans (hb1.mono (by simp; omega))⟩
end Go.Proofs.YtjceaajnemgheaaGreatDoor
namespace Go.Proofs.YtjceaajnemgheaaGreatDoor
open Go.RowKit Go.Deep

def catOk (base : Int) (f g : Nat → Int) (i : Nat) : Bool := inB (f i) 1 9999 && inB (g i) 0 3 && !(g i == base) && (i == 0 || decide (f (i - 1) < f i))
def labOk (base : Int) (n : Nat) (f g : Nat → Int) : Bool := inB base 0 3 && decide (n ≤ 12) && (List.range n).all (catOk base f g)

theorem labOk_base {base : Int} {n : Nat} {f g : Nat → Int} (h : inB base 0 3 = false) : labOk base n f g = false := by simp [labOk, h]
theorem labOk_len {base : Int} {n : Nat} {f g : Nat → Int} (h : 12 < n) : labOk base n f g = false := by
  have : decide (n ≤ 12) = false := by simp; omega
  simp [labOk, this]
theorem labOk_at {base : Int} {n k : Nat} {f g : Nat → Int} (hk : k < n) (h : catOk base f g k = false) : labOk base n f g = false := by
  have : (List.range n).all (catOk base f g) = false := by
    rw [List.all_eq_false]; exact ⟨k, List.mem_range.2 hk, by simp [h]⟩
  simp [labOk, this]
theorem labOk_mk {base : Int} {n : Nat} {f g : Nat → Int} (hb : inB base 0 3 = true) (hn : n ≤ 12) (h : ∀ i, i < n → catOk base f g i = true) : labOk base n f g = true := by
  have : (List.range n).all (catOk base f g) = true := by
    rw [List.all_eq_true]; intro i hi; exact h i (List.mem_range.1 hi)
  simp [labOk, this, hb, hn]
theorem labOk_out {base : Int} {n : Nat} {f g : Nat → Int} (h : labOk base n f g = true) : inB base 0 3 = true ∧ n ≤ 12 ∧ ∀ i, i < n → catOk base f g i = true := by
  simp only [labOk, Bool.and_eq_true, decide_eq_true_eq, List.all_eq_true, List.mem_range] at h
  exact ⟨h.1.1, h.1.2, h.2⟩
theorem inB_iff {x lo hi : Int} : inB x lo hi = true ↔ lo ≤ x ∧ x ≤ hi := by simp [inB]
theorem catOk_iff {base : Int} {f g : Nat → Int} {i : Nat} : catOk base f g i = true ↔ (1 ≤ f i ∧ f i ≤ 9999) ∧ (0 ≤ g i ∧ g i ≤ 3) ∧ g i ≠ base ∧ (i = 0 ∨ f (i - 1) < f i) := by
  simp [catOk, inB, and_assoc]

def lastOf (f : Nat → Int) (k : Nat) : Int := if k = 0 then 0 else f (k - 1)
theorem lastOf_succ (f : Nat → Int) (k : Nat) : lastOf f (k + 1) = f k := by simp [lastOf]

theorem catOk_n1 {base : Int} {f g : Nat → Int} {k : Nat} (h : inB (f k) 1 9999 = false) : catOk base f g k = false := by simp [catOk, h]
theorem catOk_n2 {base : Int} {f g : Nat → Int} {k : Nat} (h0 : inB (f k) 1 9999 = true) (h : f k ≤ lastOf f k) : catOk base f g k = false := by
  have h0 := inB_iff.1 h0
  by_cases e : k = 0
  · subst e; simp [lastOf] at h; omega
  · simp [lastOf, e] at h
    have : decide (f (k - 1) < f k) = false := by simp; omega
    simp [catOk, e, this]
theorem catOk_n3 {base : Int} {f g : Nat → Int} {k : Nat} (h : inB (g k) 0 3 = false) : catOk base f g k = false := by simp [catOk, h]
theorem catOk_n4 {base : Int} {f g : Nat → Int} {k : Nat} (h : (g k == base) = true) : catOk base f g k = false := by simp [catOk, h]
theorem catOk_y {base : Int} {f g : Nat → Int} {k : Nat} (h1 : inB (f k) 1 9999 = true) (h2 : ¬ f k ≤ lastOf f k) (h3 : inB (g k) 0 3 = true) (h4 : (g k == base) = false) : catOk base f g k = true := by
  by_cases e : k = 0
  · subst e; simp_all [catOk]
  · simp [lastOf, e] at h2
    simp [catOk, h1, h3, h4, h2]

set_option maxHeartbeats 1000000 in
theorem implOk_any (base : Int) (a : Option Addr) (n cap : Nat) (f g : Nat → Int) (w : World) (hn : n ≤ maxLen) (hc : CatsAt w a n f g) :
    Calls Tryz.prog 78 #[.agg #[.int .i64 base, .slice a n cap]] w fun e w' => e = .returned (.bool (labOk base n f g)) ∧ Below w.heap.size w w' := by
  unfold maxLen at hn
  by_cases hb : inB base 0 3 = true
  · by_cases h12 : 12 < n
    · have h12' : (12 : Int) < (n : Int) := by omega
      go_enter Tryz.func78, Tryz.ntmps78
      go_wp2_with (go_at_call 88; refine (isLevel_any _ _).mono ?_; rintro e w' ⟨rfl, rfl⟩)
      go_ret
      exact ⟨ret_bool (labOk_len h12).symm, (Below.refl _ _).alloc (Nat.le_refl _) _⟩
    · have h12' : ¬ (12 : Int) < (n : Int) := by omega
      have hb0 := (Below.refl _ w).alloc (Nat.le_refl _) (.cells #[.int .i64 base, .slice a n cap] 39)
      have hc1 := hc.below hb0
      go_enter Tryz.func78, Tryz.ntmps78
      go_wp2_with (go_at_call 88; refine (isLevel_any _ _).mono ?_; rintro e w' ⟨rfl, rfl⟩)
      go_loopw [3, 19] (fun l i wr => ∃ k : Nat, k ≤ n ∧ i = .int .i64 k ∧ l = .int .i64 (lastOf f k) ∧ (∀ j, j < k → catOk base f g j = true) ∧ Below (w.heap.size + 1) (w.alloc (.cells #[.int .i64 base, .slice a n cap] 39)) wr) (fun _ i _ => n - (intOf i).toNat)
      case atStart => exact ⟨0, Nat.zero_le _, rfl, rfl, fun j hj => by omega, Below.refl _ _⟩
      case round =>
        obtain ⟨k, hk, rfl, rfl, hall, hB⟩ := hrel
        have x0 : wr.cell? ⟨w.heap.size, 0, none⟩ = some (.int .i64 base) := (hB.cell (p := ⟨w.heap.size, 0, none⟩) (by simp)).trans (by simp)
        have hB' : Below w.heap.size w wr := hb0.trans (hB.mono (by omega))
        have zz : w.heap.size < wr.heap.size := by have := hB.size; simp at this; omega
        have x1 : ∀ o, (wr.alloc o).cell? ⟨w.heap.size, 0, none⟩ = some (.int .i64 base) := fun o => (((Below.refl _ wr).alloc (Nat.le_refl _) o).cell (p := ⟨w.heap.size, 0, none⟩) zz).trans x0
        by_cases hlt' : k < n
        · obtain ⟨b, off, rfl, hlt, hcc⟩ := hc (by omega)
          obtain ⟨h1, h2⟩ := hcc k hlt'
          have g1 : wr.cell? ⟨b, off + k * 2, none⟩ = some (.int .i64 (f k)) := (hB'.cell (p := ⟨b, _, none⟩) hlt).trans h1
          have g2 : wr.cell? ⟨b, off + k * 2 + 1, none⟩ = some (.int .i64 (g k)) := (hB'.cell (p := ⟨b, _, none⟩) hlt).trans h2
          clear h1 h2 hcc hc hc1 hb0
          have HA : Hid (∀ j, j < k → catOk base f g j = true) := hall
          clear hall
          by_cases t1 : inB (f k) 1 9999 = true
          · go_wp2_with (first | (go_at_call 88; refine (isLevel_any _ _).mono ?_; rintro e w' ⟨rfl, rfl⟩) | (go_at_call 89; refine (isCat_any _ _).mono ?_; rintro e w' ⟨rfl, rfl⟩))
            · go_ret
              refine ⟨ret_bool (labOk_at hlt' (catOk_n4 ?_)).symm, hB'.alloc (by omega) _⟩
              have t2 : lastOf f k < f k := by assumption
              have t3 : f k ≤ lastOf f k ∨ (g k == base) = true := by assumption
              rcases t3 with t3 | t3
              · omega
              · exact t3
            · have t2 : lastOf f k < f k := by assumption
              have t3 : inB (g k) 0 3 = true := by assumption
              have t4 : lastOf f k < f k ∧ (g k == base) = false := by assumption
              go_roundw
              case rel =>
                refine ⟨k + 1, by omega, by go_num, by rw [lastOf_succ], fun j hj => ?_, hB.alloc (by omega) _⟩
                by_cases e : j = k
                · subst e; exact catOk_y t1 (by omega) t3 t4.2
                · exact HA.out j (by omega)
              case measure => simp [intOf]; omega
            · go_ret
              have t2 : ¬ inB (g k) 0 3 = true := by assumption
              exact ⟨ret_bool (labOk_at hlt' (catOk_n3 (by simpa using t2))).symm, hB'.alloc (by omega) _⟩
            · go_ret
              have t2 : f k ≤ lastOf f k := by assumption
              exact ⟨ret_bool (labOk_at hlt' (catOk_n2 t1 t2)).symm, hB'.alloc (by omega) _⟩
          · have t1' : inB (f k) 1 9999 = false := by simpa using t1
            clear t1
            go_wp2_with (first | (go_at_call 88; refine (isLevel_any _ _).mono ?_; rintro e w' ⟨rfl, rfl⟩) | (go_at_call 89; refine (isCat_any _ _).mono ?_; rintro e w' ⟨rfl, rfl⟩))
            go_ret
            exact ⟨ret_bool (labOk_at hlt' (catOk_n1 t1')).symm, hB'.alloc (by omega) _⟩
        · have HA : Hid (∀ j, j < k → catOk base f g j = true) := hall
          clear hall hc hc1
          go_wp2
          go_ret
          have e : k = n := by omega
          subst e
          exact ⟨ret_bool (labOk_mk hb (by omega) HA.out).symm, hB'⟩
  · have hb' : inB base 0 3 = false := by simpa using hb
    clear hb
    go_enter Tryz.func78, Tryz.ntmps78
    go_wp2_with (go_at_call 88; refine (isLevel_any _ _).mono ?_; rintro e w' ⟨rfl, rfl⟩)
    go_ret
    exact ⟨ret_bool (labOk_base hb').symm, (Below.refl _ _).alloc (Nat.le_refl _) _⟩
end Go.Proofs.YtjceaajnemgheaaGreatDoor
