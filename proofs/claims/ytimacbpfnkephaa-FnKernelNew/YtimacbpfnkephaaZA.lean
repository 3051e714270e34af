/- Texts put together. -/
import Derived.Test.YtimacbpfnkephaaProg
import Derived.WalkKit
import Derived.WalkSpells
import Derived.WalkLawsBesides
import Derived.Below
import Derived.Deep.OwnRows
import Derived.Deep.RegionHeld3
import Derived.Deep.QuietTactic
import Derived.BigQuiet
/- Contracts of the small helpers of the exact laws over labels: each call returns what the plain function says and leaves old memory as it was. -/
namespace Go.Proofs.Ytimacbpfnkephaa
open Go.RowKit

theorem ret_bool {a b : Bool} (h : a = b) : Ending.returned (.bool a) = .returned (.bool b) := by rw [h]
theorem ret_int {k : IntKind} {a b : Int} (h : a = b) : Ending.returned (.int k a) = .returned (.int k b) := by rw [h]

theorem bcell {W w1 : World} (hb : Below W.heap.size W w1) : (∀ b o, b < W.heap.size → w1.cell? ⟨b, o, none⟩ = W.cell? ⟨b, o, none⟩) ∧ (∀ b o, b < W.heap.size → w1.frozen? ⟨b, o, none⟩ = W.frozen? ⟨b, o, none⟩) :=
  ⟨fun b o h => hb.cell (p := ⟨b, o, none⟩) h, fun b o h => hb.frozen (p := ⟨b, o, none⟩) h⟩

def inB (x lo hi : Int) : Bool := decide (lo ≤ x) && decide (x ≤ hi)
theorem inB_yes {x lo hi : Int} (h : lo ≤ x) : inB x lo hi = decide (x ≤ hi) := by simp [inB, h]
theorem inB_no {x lo hi : Int} (h : x < lo) : inB x lo hi = false := by simp [inB]; omega

theorem l1In_any (x lo hi : Int) (w : World) :
    Calls Try.prog 14 #[.int .i64 x, .int .i64 lo, .int .i64 hi] w fun e w' => e = .returned (.bool (inB x lo hi)) ∧ w' = w := by
  go_enter Try.func14, Try.ntmps14
  go_wp2
  · go_ret
    exact ⟨ret_bool (inB_yes ‹_›).symm, rfl⟩
  · go_ret
    exact ⟨ret_bool (inB_no ‹_›).symm, rfl⟩

theorem isCat_any (x : Int) (w : World) :
    Calls Try.prog 50 #[.int .i64 x] w fun e w' => e = .returned (.bool (inB x 1 9999)) ∧ w' = w := by
  go_enter Try.func50, Try.ntmps50
  go_wp2
  · go_ret
    exact ⟨ret_bool (inB_yes ‹_›).symm, rfl⟩
  · go_ret
    exact ⟨ret_bool (inB_no ‹_›).symm, rfl⟩

theorem isLevel_any (x : Int) (w : World) :
    Calls Try.prog 49 #[.int .i64 x] w fun e w' => e = .returned (.bool (inB x 0 3)) ∧ w' = w := by
  go_enter Try.func49, Try.ntmps49
  go_wp2
  · go_ret
    exact ⟨ret_bool (inB_yes ‹_›).symm, rfl⟩
  · go_ret
    exact ⟨ret_bool (inB_no ‹_›).symm, rfl⟩

/-- what szCatS leaves of a budget -/
def szOf (n : Nat) (left : Int) : Int := if left - n < 0 then -1 else left - n

theorem szOf_le (n : Nat) (left : Int) (h0 : 0 ≤ left) : -1 ≤ szOf n left ∧ szOf n left ≤ left := by unfold szOf; split <;> omega

end Go.Proofs.Ytimacbpfnkephaa

/- The copies that the exact laws make: toCatS and toLabel hand back a new slice that holds the same numbers. -/
namespace Go.Proofs.Ytimacbpfnkephaa
open Go.RowKit Go.Deep

theorem Try.info80 : (Try.prog.info? 80).map (fun i => (i.zero, i.size, i.bytes)) = some (some (.agg #[.int .i64 0, .int .i64 0]), 2, 16) := by kernel_rfl

theorem run_make_cats (n : Nat) (hn : n ≤ 1048576) (w : World) :
    (Instr.makeSlice 31 (.int .i64 (n : Int)) (.int .i64 (n : Int))).run Try.prog w = .ok (.slice (some ⟨w.heap.size, 0, none⟩) n n) (w.alloc (.cells (madeCells #[.int .i64 0, .int .i64 0] (n * 2)) 80)) := by
  obtain ⟨i, hi, hzz⟩ := Option.map_eq_some_iff.1 Try.info80
  simp only [Prod.mk.injEq] at hzz
  obtain ⟨hz, hs, hb⟩ := hzz
  have hr := run_make (P := Try.prog) w 31 80 i _ Try.underlying31 hi hz .i64 .i64 n n (by omega) (Int.le_refl _) (by rw [hb]; omega) (by omega)
  simp only [Int.toNat_natCast, hs] at hr
  exact hr

/-- the numbers of a row of pairs, cell by cell -/
def pairCell (f g : Nat → Int) (j : Nat) : Value := if j % 2 = 0 then .int .i64 (f (j / 2)) else .int .i64 (g (j / 2))

def CatsAt (w : World) (a : Option Addr) (n : Nat) (f g : Nat → Int) : Prop :=
  0 < n → ∃ b off, a = some ⟨b, off, none⟩ ∧ b < w.heap.size ∧ ∀ i, i < n → w.cell? ⟨b, off + i * 2, none⟩ = some (.int .i64 (f i)) ∧ w.cell? ⟨b, off + i * 2 + 1, none⟩ = some (.int .i64 (g i))

theorem CatsAt.below {w w' : World} {a : Option Addr} {n : Nat} {f g : Nat → Int} (h : CatsAt w a n f g) (hb : Below w.heap.size w w') : CatsAt w' a n f g := fun hn => by
  obtain ⟨b, off, rfl, hlt, hc⟩ := h hn
  obtain ⟨h1, _⟩ := bcell hb
  exact ⟨b, off, rfl, Nat.lt_of_lt_of_le hlt hb.size, fun i hi => by rw [h1 _ _ hlt, h1 _ _ hlt]; exact hc i hi⟩

theorem CatsAt.row {w : World} {b n : Nat} {f g : Nat → Int} (h : w.rowIs b 80 (n * 2) (pairCell f g)) : CatsAt w (some ⟨b, 0, none⟩) n f g := fun _ => by
  refine ⟨b, 0, rfl, h.lt, fun i hi => ⟨?_, ?_⟩⟩
  · have := h.cell (i := 0 + i * 2) (by omega)
    rw [this]
    have e1 : (0 + i * 2) % 2 = 0 := by omega
    have e2 : (0 + i * 2) / 2 = i := by omega
    simp only [pairCell, e1, e2, if_true]
  · have := h.cell (i := 0 + i * 2 + 1) (by omega)
    rw [this]
    have e1 : ¬ (0 + i * 2 + 1) % 2 = 0 := by omega
    have e2 : (0 + i * 2 + 1) / 2 = i := by omega
    simp only [pairCell, e2, if_neg e1]

theorem made_row (w : World) (n : Nat) : (w.alloc (.cells (madeCells #[.int .i64 0, .int .i64 0] (n * 2)) 80)).rowIs w.heap.size 80 (n * 2) (pairCell (fun _ => 0) (fun _ => 0)) :=
  ⟨_, blk_alloc_new _ _, size_madeCells _ _, fun i hi => by
    rcases Nat.mod_two_eq_zero_or_one i with h | h <;> simp [madeCells, hi, pairCell, h]⟩

/-- the first k of f, and nought behind them -/
def upto (k : Nat) (f : Nat → Int) (i : Nat) : Int := if i < k then f i else 0


theorem upto_zero (f : Nat → Int) : upto 0 f = fun _ => 0 := by funext i; simp [upto]

theorem upto_row {w : World} {b n k : Nat} {f g : Nat → Int} (h : w.rowIs b 80 (n * 2) (pairCell (upto k f) (upto k g))) :
    ((w.setCell ⟨b, k * 2, none⟩ (.int .i64 (f k))).setCell ⟨b, k * 2 + 1, none⟩ (.int .i64 (g k))).rowIs b 80 (n * 2) (pairCell (upto (k + 1) f) (upto (k + 1) g)) := by
  refine ((h.set (k * 2) _).set (k * 2 + 1) _).congr fun j _ => ?_
  by_cases e1 : j = k * 2 + 1
  · subst e1
    have a1 : ¬ (k * 2 + 1) % 2 = 0 := by omega
    have a2 : (k * 2 + 1) / 2 = k := by omega
    simp [pairCell, upto, a2]
  · by_cases e2 : j = k * 2
    · subst e2
      simp [pairCell, upto]
    · have a1 : (j / 2 < k + 1) = (j / 2 < k) := by apply propext; omega
      simp [pairCell, upto, e1, e2, a1]

theorem upto_done {w : World} {b n : Nat} {f g : Nat → Int} (h : w.rowIs b 80 (n * 2) (pairCell (upto n f) (upto n g))) : w.rowIs b 80 (n * 2) (pairCell f g) :=
  h.congr fun j hj => by have : j / 2 < n := by omega
                         simp [pairCell, upto, this]

theorem World.rowIs.below {w w' : World} {B b n : Nat} {t : TypeId} {f : Nat → Value} (h : w.rowIs b t n f) (hb : Below B w w') (hB : b < B) : w'.rowIs b t n f :=
  h.of_block (hb.block b hB)

end Go.Proofs.Ytimacbpfnkephaa

/- The comparisons of the exact laws: eqCatS and eqLabel answer true at two labels with the same numbers. -/
namespace Go.Proofs.Ytimacbpfnkephaa
open Go.RowKit Go.Deep

end Go.Proofs.Ytimacbpfnkephaa

/- LabelOk of the program answers the plain function labOk, at every label. -/
namespace Go.Proofs.Ytimacbpfnkephaa
open Go.RowKit Go.Deep

def catOk (base : Int) (f g : Nat → Int) (i : Nat) : Bool := inB (f i) 1 9999 && inB (g i) 0 3 && !(g i == base) && (i == 0 || decide (f (i - 1) < f i))
def labOk (base : Int) (n : Nat) (f g : Nat → Int) : Bool := inB base 0 3 && decide (n ≤ 12) && (List.range n).all (catOk base f g)

theorem labOk_base {base : Int} {n : Nat} {f g : Nat → Int} (h : inB base 0 3 = false) : labOk base n f g = false := by simp [labOk, h]
theorem labOk_len {base : Int} {n : Nat} {f g : Nat → Int} (h : 12 < n) : labOk base n f g = false := by
  have : decide (n ≤ 12) = false := by simp; omega
  simp [labOk, this]
theorem labOk_at {base : Int} {n k : Nat} {f g : Nat → Int} (hk : k < n) (h : catOk base f g k = false) : labOk base n f g = false := by
  have : (List.range n).all (catOk base f g) = false := by
    rw [List.all_eq_false]; exact ⟨k, List.mem_range.2 hk, by simp [h]⟩
  simp [labOk, this]
theorem labOk_mk {base : Int} {n : Nat} {f g : Nat → Int} (hb : inB base 0 3 = true) (hn : n ≤ 12) (h : ∀ i, i < n → catOk base f g i = true) : labOk base n f g = true := by
  have : (List.range n).all (catOk base f g) = true := by
    rw [List.all_eq_true]; intro i hi; exact h i (List.mem_range.1 hi)
  simp [labOk, this, hb, hn]
theorem labOk_out {base : Int} {n : Nat} {f g : Nat → Int} (h : labOk base n f g = true) : inB base 0 3 = true ∧ n ≤ 12 ∧ ∀ i, i < n → catOk base f g i = true := by
  simp only [labOk, Bool.and_eq_true, decide_eq_true_eq, List.all_eq_true, List.mem_range] at h
  exact ⟨h.1.1, h.1.2, h.2⟩
theorem inB_iff {x lo hi : Int} : inB x lo hi = true ↔ lo ≤ x ∧ x ≤ hi := by simp [inB]
theorem catOk_iff {base : Int} {f g : Nat → Int} {i : Nat} : catOk base f g i = true ↔ (1 ≤ f i ∧ f i ≤ 9999) ∧ (0 ≤ g i ∧ g i ≤ 3) ∧ g i ≠ base ∧ (i = 0 ∨ f (i - 1) < f i) := by
  simp [catOk, inB, and_assoc]

def lastOf (f : Nat → Int) (k : Nat) : Int := if k = 0 then 0 else f (k - 1)
theorem lastOf_succ (f : Nat → Int) (k : Nat) : lastOf f (k + 1) = f k := by simp [lastOf]

theorem catOk_n1 {base : Int} {f g : Nat → Int} {k : Nat} (h : inB (f k) 1 9999 = false) : catOk base f g k = false := by simp [catOk, h]
theorem catOk_n2 {base : Int} {f g : Nat → Int} {k : Nat} (h0 : inB (f k) 1 9999 = true) (h : f k ≤ lastOf f k) : catOk base f g k = false := by
  have h0 := inB_iff.1 h0
  by_cases e : k = 0
  · subst e; simp [lastOf] at h; omega
  · simp [lastOf, e] at h
    have : decide (f (k - 1) < f k) = false := by simp; omega
    simp [catOk, e, this]
theorem catOk_n3 {base : Int} {f g : Nat → Int} {k : Nat} (h : inB (g k) 0 3 = false) : catOk base f g k = false := by simp [catOk, h]
theorem catOk_n4 {base : Int} {f g : Nat → Int} {k : Nat} (h : (g k == base) = true) : catOk base f g k = false := by simp [catOk, h]
theorem catOk_y {base : Int} {f g : Nat → Int} {k : Nat} (h1 : inB (f k) 1 9999 = true) (h2 : ¬ f k ≤ lastOf f k) (h3 : inB (g k) 0 3 = true) (h4 : (g k == base) = false) : catOk base f g k = true := by
  by_cases e : k = 0
  · subst e; simp_all [catOk]
  · simp [lastOf, e] at h2
    simp [catOk, h1, h3, h4, h2]

set_option maxHeartbeats 1000000 in
theorem implOk_any (base : Int) (a : Option Addr) (n cap : Nat) (f g : Nat → Int) (w : World) (hn : n ≤ maxLen) (hc : CatsAt w a n f g) :
    Calls Try.prog 40 #[.agg #[.int .i64 base, .slice a n cap]] w fun e w' => e = .returned (.bool (labOk base n f g)) ∧ Below w.heap.size w w' := by
  unfold maxLen at hn
  by_cases hb : inB base 0 3 = true
  · by_cases h12 : 12 < n
    · have h12' : (12 : Int) < (n : Int) := by omega
      go_enter Try.func40, Try.ntmps40
      go_wp2_with (go_at_call 49; refine (isLevel_any _ _).mono ?_; rintro e w' ⟨rfl, rfl⟩)
      go_ret
      exact ⟨ret_bool (labOk_len h12).symm, (Below.refl _ _).alloc (Nat.le_refl _) _⟩
    · have h12' : ¬ (12 : Int) < (n : Int) := by omega
      have hb0 := (Below.refl _ w).alloc (Nat.le_refl _) (.cells #[.int .i64 base, .slice a n cap] 33)
      have hc1 := hc.below hb0
      go_enter Try.func40, Try.ntmps40
      go_wp2_with (go_at_call 49; refine (isLevel_any _ _).mono ?_; rintro e w' ⟨rfl, rfl⟩)
      go_loopw [3, 19] (fun l i wr => ∃ k : Nat, k ≤ n ∧ i = .int .i64 k ∧ l = .int .i64 (lastOf f k) ∧ (∀ j, j < k → catOk base f g j = true) ∧ Below (w.heap.size + 1) (w.alloc (.cells #[.int .i64 base, .slice a n cap] 33)) wr) (fun _ i _ => n - (intOf i).toNat)
      case atStart => exact ⟨0, Nat.zero_le _, rfl, rfl, fun j hj => by omega, Below.refl _ _⟩
      case round =>
        obtain ⟨k, hk, rfl, rfl, hall, hB⟩ := hrel
        have x0 : wr.cell? ⟨w.heap.size, 0, none⟩ = some (.int .i64 base) := (hB.cell (p := ⟨w.heap.size, 0, none⟩) (by simp)).trans (by simp)
        have hB' : Below w.heap.size w wr := hb0.trans (hB.mono (by omega))
        have zz : w.heap.size < wr.heap.size := by have := hB.size; simp at this; omega
        have x1 : ∀ o, (wr.alloc o).cell? ⟨w.heap.size, 0, none⟩ = some (.int .i64 base) := fun o => (((Below.refl _ wr).alloc (Nat.le_refl _) o).cell (p := ⟨w.heap.size, 0, none⟩) zz).trans x0
        by_cases hlt' : k < n
        · obtain ⟨b, off, rfl, hlt, hcc⟩ := hc (by omega)
          obtain ⟨h1, h2⟩ := hcc k hlt'
          have g1 : wr.cell? ⟨b, off + k * 2, none⟩ = some (.int .i64 (f k)) := (hB'.cell (p := ⟨b, _, none⟩) hlt).trans h1
          have g2 : wr.cell? ⟨b, off + k * 2 + 1, none⟩ = some (.int .i64 (g k)) := (hB'.cell (p := ⟨b, _, none⟩) hlt).trans h2
          clear h1 h2 hcc hc hc1 hb0
          have HA : Hid (∀ j, j < k → catOk base f g j = true) := hall
          clear hall
          by_cases t1 : inB (f k) 1 9999 = true
          · go_wp2_with (first | (go_at_call 49; refine (isLevel_any _ _).mono ?_; rintro e w' ⟨rfl, rfl⟩) | (go_at_call 50; refine (isCat_any _ _).mono ?_; rintro e w' ⟨rfl, rfl⟩))
            · go_ret
              refine ⟨ret_bool (labOk_at hlt' (catOk_n4 ?_)).symm, hB'.alloc (by omega) _⟩
              have t2 : lastOf f k < f k := by assumption
              have t3 : f k ≤ lastOf f k ∨ (g k == base) = true := by assumption
              rcases t3 with t3 | t3
              · omega
              · exact t3
            · have t2 : lastOf f k < f k := by assumption
              have t3 : inB (g k) 0 3 = true := by assumption
              have t4 : lastOf f k < f k ∧ (g k == base) = false := by assumption
              go_roundw
              case rel =>
                refine ⟨k + 1, by omega, by go_num, by rw [lastOf_succ], fun j hj => ?_, hB.alloc (by omega) _⟩
                by_cases e : j = k
                · subst e; exact catOk_y t1 (by omega) t3 t4.2
                · exact HA.out j (by omega)
              case measure => simp [intOf]; omega
            · go_ret
              have t2 : ¬ inB (g k) 0 3 = true := by assumption
              exact ⟨ret_bool (labOk_at hlt' (catOk_n3 (by simpa using t2))).symm, hB'.alloc (by omega) _⟩
            · go_ret
              have t2 : f k ≤ lastOf f k := by assumption
              exact ⟨ret_bool (labOk_at hlt' (catOk_n2 t1 t2)).symm, hB'.alloc (by omega) _⟩
          · have t1' : inB (f k) 1 9999 = false := by simpa using t1
            clear t1
            go_wp2_with (first | (go_at_call 49; refine (isLevel_any _ _).mono ?_; rintro e w' ⟨rfl, rfl⟩) | (go_at_call 50; refine (isCat_any _ _).mono ?_; rintro e w' ⟨rfl, rfl⟩))
            go_ret
            exact ⟨ret_bool (labOk_at hlt' (catOk_n1 t1')).symm, hB'.alloc (by omega) _⟩
        · have HA : Hid (∀ j, j < k → catOk base f g j = true) := hall
          clear hall hc hc1
          go_wp2
          go_ret
          have e : k = n := by omega
          subst e
          exact ⟨ret_bool (labOk_mk hb (by omega) HA.out).symm, hB'⟩
  · have hb' : inB base 0 3 = false := by simpa using hb
    clear hb
    go_enter Try.func40, Try.ntmps40
    go_wp2_with (go_at_call 49; refine (isLevel_any _ _).mono ?_; rintro e w' ⟨rfl, rfl⟩)
    go_ret
    exact ⟨ret_bool (labOk_base hb').symm, (Below.refl _ _).alloc (Nat.le_refl _) _⟩
end Go.Proofs.Ytimacbpfnkephaa

/- LabelOk of the model answers the plain function labOk, at every label. -/
namespace Go.Proofs.Ytimacbpfnkephaa
open Go.RowKit Go.Deep

theorem catOk_n5 {base : Int} {f g : Nat → Int} {k : Nat} (h0 : 0 < k) (h : f k ≤ f (k - 1)) : catOk base f g k = false := by
  have e : ¬ k = 0 := by omega
  have : decide (f (k - 1) < f k) = false := by simp; omega
  simp [catOk, e, this]
theorem catOk_y0 {base : Int} {f g : Nat → Int} {k : Nat} (h1 : inB (f k) 1 9999 = true) (h3 : inB (g k) 0 3 = true) (h4 : (g k == base) = false) (h : k = 0 ∨ f (k - 1) < f k) : catOk base f g k = true := by
  rcases h with h | h <;> simp_all [catOk]

end Go.Proofs.Ytimacbpfnkephaa

/- Lists of whole numbers in the exact laws: their budget, their copies, their comparison. -/
namespace Go.Proofs.Ytimacbpfnkephaa
open Go.RowKit Go.Deep

def IntsAt (w : World) (a : Option Addr) (n : Nat) (h : Nat → Int) : Prop :=
  0 < n → ∃ b off, a = some ⟨b, off, none⟩ ∧ b < w.heap.size ∧ ∀ i, i < n → w.cell? ⟨b, off + i, none⟩ = some (.int .i64 (h i))

theorem IntsAt.below {w w' : World} {a : Option Addr} {n : Nat} {h : Nat → Int} (hc : IntsAt w a n h) (hb : Below w.heap.size w w') : IntsAt w' a n h := fun hn => by
  obtain ⟨b, off, rfl, hlt, hc⟩ := hc hn
  obtain ⟨h1, _⟩ := bcell hb
  exact ⟨b, off, rfl, Nat.lt_of_lt_of_le hlt hb.size, fun i hi => by rw [h1 _ _ hlt]; exact hc i hi⟩

theorem IntsAt.row {w : World} {b n : Nat} {t : TypeId} {h : Nat → Int} (hr : w.rowIs b t n (fun i => .int .i64 (h i))) : IntsAt w (some ⟨b, 0, none⟩) n h := fun _ =>
  ⟨b, 0, rfl, hr.lt, fun i hi => by rw [Nat.zero_add]; exact hr.cell hi⟩

theorem Try.info2 : (Try.prog.info? 2).map (fun i => (i.zero, i.size, i.bytes)) = some (some (.int .i64 0), 1, 8) := by kernel_rfl

theorem upto_int_row {w : World} {b n k : Nat} {h : Nat → Int} (hr : w.rowIs b 2 n (fun i => .int .i64 (upto k h i))) :
    (w.setCell ⟨b, k, none⟩ (.int .i64 (h k))).rowIs b 2 n (fun i => .int .i64 (upto (k + 1) h i)) := by
  refine (hr.set k _).congr fun j _ => ?_
  by_cases e : j = k
  · subst e; simp [upto]
  · have a1 : (j < k + 1) = (j < k) := by apply propext; omega
    simp [upto, e, a1]

theorem upto_int_done {w : World} {b n : Nat} {h : Nat → Int} (hr : w.rowIs b 2 n (fun i => .int .i64 (upto n h i))) : w.rowIs b 2 n (fun i => .int .i64 (h i)) :=
  hr.congr fun j hj => by simp [upto, hj]

end Go.Proofs.Ytimacbpfnkephaa

/- Owned categories: ownsOk of the program and l2Owns of the model answer the plain function ownOk. -/
namespace Go.Proofs.Ytimacbpfnkephaa
open Go.RowKit Go.Deep

def ownAt (h : Nat → Int) (i : Nat) : Bool := inB (h i) 1 9999 && (i == 0 || decide (h (i - 1) < h i))
def ownOk (n : Nat) (h : Nat → Int) : Bool := decide (n ≤ 10) && (List.range n).all (ownAt h)

theorem ownOk_len {n : Nat} {h : Nat → Int} (e : 10 < n) : ownOk n h = false := by
  have : decide (n ≤ 10) = false := by simp; omega
  simp [ownOk, this]
theorem ownOk_at {n k : Nat} {h : Nat → Int} (hk : k < n) (e : ownAt h k = false) : ownOk n h = false := by
  have : (List.range n).all (ownAt h) = false := by
    rw [List.all_eq_false]; exact ⟨k, List.mem_range.2 hk, by simp [e]⟩
  simp [ownOk, this]
theorem ownOk_all {n : Nat} {h : Nat → Int} (e : ∀ i, i < n → ownAt h i = true) : ownOk n h = decide (n ≤ 10) := by
  have : (List.range n).all (ownAt h) = true := by
    rw [List.all_eq_true]; intro i hi; exact e i (List.mem_range.1 hi)
  simp [ownOk, this]
theorem ownOk_out {n : Nat} {h : Nat → Int} (e : ownOk n h = true) : n ≤ 10 ∧ ∀ i, i < n → ownAt h i = true := by
  simp only [ownOk, Bool.and_eq_true, decide_eq_true_eq, List.all_eq_true, List.mem_range] at e
  exact e
theorem ownAt_n1 {h : Nat → Int} {k : Nat} (e : inB (h k) 1 9999 = false) : ownAt h k = false := by simp [ownAt, e]
theorem ownAt_n2 {h : Nat → Int} {k : Nat} (h0 : inB (h k) 1 9999 = true) (e : h k ≤ lastOf h k) : ownAt h k = false := by
  have h0 := inB_iff.1 h0
  by_cases e0 : k = 0
  · subst e0; simp [lastOf] at e; omega
  · simp [lastOf, e0] at e
    have : decide (h (k - 1) < h k) = false := by simp; omega
    simp [ownAt, e0, this]
theorem ownAt_y {h : Nat → Int} {k : Nat} (h1 : inB (h k) 1 9999 = true) (h2 : lastOf h k < h k) : ownAt h k = true := by
  by_cases e : k = 0
  · subst e; simp_all [ownAt]
  · simp [lastOf, e] at h2
    simp [ownAt, h1, h2]
theorem ownAt_n5 {h : Nat → Int} {k : Nat} (h0 : 0 < k) (e : h k ≤ h (k - 1)) : ownAt h k = false := by
  have e0 : ¬ k = 0 := by omega
  have : decide (h (k - 1) < h k) = false := by simp; omega
  simp [ownAt, e0, this]
theorem ownAt_y0 {h : Nat → Int} {k : Nat} (h1 : inB (h k) 1 9999 = true) (e : k = 0 ∨ h (k - 1) < h k) : ownAt h k = true := by
  rcases e with e | e <;> simp_all [ownAt]

set_option maxHeartbeats 1000000 in
theorem ownsOk_any (a : Option Addr) (n cap : Nat) (h : Nat → Int) (w : World) (hn : n ≤ maxLen) (hc : IntsAt w a n h) :
    Calls Try.prog 41 #[.slice a n cap] w fun e w' => e = .returned (.bool (ownOk n h)) ∧ w' = w := by
  unfold maxLen at hn
  by_cases h10 : 10 < n
  · have h10' : (10 : Int) < (n : Int) := by omega
    go_enter Try.func41, Try.ntmps41
    go_wp2
    go_ret
    exact ⟨ret_bool (ownOk_len h10).symm, rfl⟩
  · have h10' : ¬ (10 : Int) < (n : Int) := by omega
    go_enter Try.func41, Try.ntmps41
    go_wp2
    go_loop [3, 11] (fun l i => ∃ k : Nat, k ≤ n ∧ i = .int .i64 k ∧ l = .int .i64 (lastOf h k) ∧ (∀ j, j < k → ownAt h j = true)) (fun _ i => n - (intOf i).toNat)
    case atStart => exact ⟨0, Nat.zero_le _, rfl, rfl, fun j hj => by omega⟩
    case round =>
      obtain ⟨k, hk, rfl, rfl, hall⟩ := hrel
      have HA : Hid (∀ j, j < k → ownAt h j = true) := hall
      clear hall
      by_cases hlt' : k < n
      · obtain ⟨b, off, rfl, hlt, hcc⟩ := hc (by omega)
        have g1 := hcc k hlt'
        clear hcc hc
        by_cases t1 : inB (h k) 1 9999 = true
        · go_wp2_with (go_at_call 50; refine (isCat_any _ _).mono ?_; rintro e w' ⟨rfl, rfl⟩)
          · go_ret
            have t2 : h k ≤ lastOf h k := by assumption
            exact ⟨ret_bool (ownOk_at hlt' (ownAt_n2 t1 t2)).symm, rfl⟩
          · have t2 : lastOf h k < h k := by assumption
            go_round
            case rel =>
              refine ⟨k + 1, by omega, by go_num, by rw [lastOf_succ], fun j hj => ?_⟩
              by_cases e : j = k
              · subst e; exact ownAt_y t1 t2
              · exact HA.out j (by omega)
            case measure => simp [intOf]; omega
        · have t1' : inB (h k) 1 9999 = false := by simpa using t1
          clear t1
          go_wp2_with (go_at_call 50; refine (isCat_any _ _).mono ?_; rintro e w' ⟨rfl, rfl⟩)
          go_ret
          exact ⟨ret_bool (ownOk_at hlt' (ownAt_n1 t1')).symm, rfl⟩
      · clear hc
        go_wp2
        go_ret
        have e : k = n := by omega
        subst e
        exact ⟨ret_bool (by rw [ownOk_all HA.out]; simp; omega), rfl⟩

end Go.Proofs.Ytimacbpfnkephaa

/- Threads in the exact laws: ThreadOk of the program and of the model answer the plain function thrOk. -/
namespace Go.Proofs.Ytimacbpfnkephaa
open Go.RowKit Go.Deep

def thrOk (id made b1 : Int) (n1 : Nat) (f1 g1 : Nat → Int) (b2 : Int) (n2 : Nat) (f2 g2 : Nat → Int) (n3 : Nat) (h : Nat → Int) : Bool :=
  inB id 1 9 && labOk b1 n1 f1 g1 && labOk b2 n2 f2 g2 && ownOk n3 h && inB made 0 30
theorem thrOk_all {id made b1 : Int} {n1 : Nat} {f1 g1 : Nat → Int} {b2 : Int} {n2 : Nat} {f2 g2 : Nat → Int} {n3 : Nat} {h : Nat → Int} (t0 : inB id 1 9 = true) (t1 : labOk b1 n1 f1 g1 = true) (t2 : labOk b2 n2 f2 g2 = true) (t3 : ownOk n3 h = true) :
    thrOk id made b1 n1 f1 g1 b2 n2 f2 g2 n3 h = inB made 0 30 := by simp [thrOk, t0, t1, t2, t3]

set_option maxHeartbeats 1000000 in
theorem implThr_any (id made b1 : Int) (a1 : Option Addr) (n1 k1 : Nat) (f1 g1 : Nat → Int) (b2 : Int) (a2 : Option Addr) (n2 k2 : Nat) (f2 g2 : Nat → Int) (a3 : Option Addr) (n3 k3 : Nat) (h : Nat → Int) (w : World)
    (hn1 : n1 ≤ maxLen) (hn2 : n2 ≤ maxLen) (hn3 : n3 ≤ maxLen) (hc1 : CatsAt w a1 n1 f1 g1) (hc2 : CatsAt w a2 n2 f2 g2) (hc3 : IntsAt w a3 n3 h) :
    Calls Try.prog 33 #[.agg #[.int .i64 id, .int .i64 b1, .slice a1 n1 k1, .int .i64 b2, .slice a2 n2 k2, .slice a3 n3 k3, .int .i64 made]] w fun e w' => e = .returned (.bool (thrOk id made b1 n1 f1 g1 b2 n2 f2 g2 n3 h)) ∧ Below w.heap.size w w' := by
  have hb0 := (Below.refl _ w).alloc (Nat.le_refl _) (.cells #[.int .i64 id, .int .i64 b1, .slice a1 n1 k1, .int .i64 b2, .slice a2 n2 k2, .slice a3 n3 k3, .int .i64 made] 41)
  have C1 := hc1.below hb0
  have C2 := hc2.below hb0
  have C3 := hc3.below hb0
  clear hc1 hc2 hc3
  by_cases t0 : inB id 1 9 = true
  · obtain ⟨s1, s2⟩ := inB_iff.1 t0
    go_enter Try.func33, Try.ntmps33
    go_wp2_with fail
    refine (implOk_any _ _ _ _ f1 g1 _ hn1 C1).mono ?_
    rintro e w1 ⟨rfl, hb1⟩
    obtain ⟨q1, _⟩ := bcell hb1
    have z1 : w.heap.size < w1.heap.size := by have := hb1.size; simp at this; omega
    have B1 : Below w.heap.size w w1 := hb0.trans (hb1.mono (by simp))
    by_cases t1 : labOk b1 n1 f1 g1 = true
    · go_wp2_with fail
      refine (implOk_any _ _ _ _ f2 g2 _ hn2 (C2.below hb1)).mono ?_
      rintro e w2 ⟨rfl, hb2⟩
      obtain ⟨q2, _⟩ := bcell hb2
      have z2 : w.heap.size < w2.heap.size := by have := hb2.size; omega
      have B2 : Below w.heap.size w w2 := B1.trans (hb2.mono (by omega))
      by_cases t2 : labOk b2 n2 f2 g2 = true
      · go_wp2_with fail
        refine (ownsOk_any _ _ _ h _ hn3 ((C3.below hb1).below hb2)).mono ?_
        rintro e w3 ⟨rfl, rfl⟩
        have B3 := B2
        by_cases t3 : ownOk n3 h = true
        · go_wp2
          all_goals
            go_ret
            refine ⟨ret_bool ?_, B3⟩
            rw [thrOk_all t0 t1 t2 t3]
            first | exact (inB_yes (by assumption)).symm | exact (inB_no (by assumption)).symm
        · have t3' : ownOk n3 h = false := by simpa using t3
          clear t3
          go_wp2
          go_ret
          exact ⟨ret_bool (by simp [thrOk, t3']), B3⟩
      · have t2' : labOk b2 n2 f2 g2 = false := by simpa using t2
        clear t2
        go_wp2
        go_ret
        exact ⟨ret_bool (by simp [thrOk, t2']), B2⟩
    · have t1' : labOk b1 n1 f1 g1 = false := by simpa using t1
      clear t1
      go_wp2
      go_ret
      exact ⟨ret_bool (by simp [thrOk, t1']), B1⟩
  · have t0' : inB id 1 9 = false := by simpa using t0
    clear t0
    go_enter Try.func33, Try.ntmps33
    by_cases s1 : 1 ≤ id
    · have s2 : ¬ id ≤ 9 := fun s2 => by simp [inB, s1, s2] at t0'
      go_wp2
      go_ret
      exact ⟨ret_bool (by simp [thrOk, t0']), hb0⟩
    · go_wp2
      go_ret
      exact ⟨ret_bool (by simp [thrOk, t0']), hb0⟩
end Go.Proofs.Ytimacbpfnkephaa

/- Threads in the exact laws: their budget, their copies and their comparison. -/
namespace Go.Proofs.Ytimacbpfnkephaa
open Go.RowKit Go.Deep

theorem szOf_cases (n : Nat) (left : Int) (h0 : 0 ≤ left) (h1 : left ≤ 1048576) : (szOf n left = -1) ∨ (0 ≤ szOf n left ∧ szOf n left ≤ left ∧ n ≤ 1048576) := by
  unfold szOf; split
  · exact .inl rfl
  · right; omega

end Go.Proofs.Ytimacbpfnkephaa

/- FnExactLeq: the walk: the law answers true at every two labels that came in, and writes nothing that was there. -/
namespace Go.Proofs.Ytimacbpfnkephaa
open Go.RowKit Go.Deep

/-- what lies in a block -/
def Blk (W : World) (P : Nat) (o : Obj) : Prop := W.heap[P]? = some o
theorem Blk.new (W : World) (o : Obj) : Blk (W.alloc o) W.heap.size o := blk_alloc_new _ _
theorem Blk.lt {W : World} {P : Nat} {o : Obj} (h : Blk W P o) : P < W.heap.size := (Array.getElem?_eq_some_iff.1 h).1
theorem Blk.alloc {W : World} {P : Nat} {o : Obj} (h : Blk W P o) (o' : Obj) : Blk (W.alloc o') P o := (blk_alloc_lt _ _ _ h.lt).trans h
theorem Blk.below {W W' : World} {P : Nat} {o : Obj} (h : Blk W P o) (hb : Below W.heap.size W W') : Blk W' P o := (hb.block P h.lt).trans h
theorem Blk.two {W : World} {P t : Nat} {x y : Value} (h : Blk W P (.cells #[x, y] t)) : W.cell? ⟨P, 0, none⟩ = some x ∧ W.cell? ⟨P, 1, none⟩ = some y := by
  unfold Blk at h
  simp [World.cell?, h]
end Go.Proofs.Ytimacbpfnkephaa
