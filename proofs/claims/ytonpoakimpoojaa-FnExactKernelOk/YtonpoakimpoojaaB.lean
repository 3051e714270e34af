/- The copies that the exact laws make: toCatS and toLabel hand back a new slice that holds the same numbers. -/
import Derived.Test.YtonpoakimpoojaaA
import Derived.Deep.OwnRows
namespace Go.Proofs.Ytonpoakimpoojaa
open Go.RowKit Go.Deep

theorem Try.info112 : (Try.prog.info? 112).map (fun i => (i.zero, i.size, i.bytes)) = some (some (.agg #[.int .i64 0, .int .i64 0]), 2, 16) := by kernel_rfl

theorem run_make_cats (n : Nat) (hn : n ≤ 1048576) (w : World) :
    (Instr.makeSlice 35 (.int .i64 (n : Int)) (.int .i64 (n : Int))).run Try.prog w = .ok (.slice (some ⟨w.heap.size, 0, none⟩) n n) (w.alloc (.cells (madeCells #[.int .i64 0, .int .i64 0] (n * 2)) 112)) := by
  obtain ⟨i, hi, hzz⟩ := Option.map_eq_some_iff.1 Try.info112
  simp only [Prod.mk.injEq] at hzz
  obtain ⟨hz, hs, hb⟩ := hzz
  have hr := run_make (P := Try.prog) w 35 112 i _ Try.underlying35 hi hz .i64 .i64 n n (by omega) (Int.le_refl _) (by rw [hb]; omega) (by omega)
  simp only [Int.toNat_natCast, hs] at hr
  exact hr

/-- the numbers of a row of pairs, cell by cell -/
def pairCell (f g : Nat → Int) (j : Nat) : Value := if j % 2 = 0 then .int .i64 (f (j / 2)) else .int .i64 (g (j / 2))

def CatsAt (w : World) (a : Option Addr) (n : Nat) (f g : Nat → Int) : Prop :=
  0 < n → ∃ b off, a = some ⟨b, off, none⟩ ∧ b < w.heap.size ∧ ∀ i, i < n → w.cell? ⟨b, off + i * 2, none⟩ = some (.int .i64 (f i)) ∧ w.cell? ⟨b, off + i * 2 + 1, none⟩ = some (.int .i64 (g i))

theorem CatsAt.below {w w' : World} {a : Option Addr} {n : Nat} {f g : Nat → Int} (h : CatsAt w a n f g) (hb : Below w.heap.size w w') : CatsAt w' a n f g := fun hn => by
  obtain ⟨b, off, rfl, hlt, hc⟩ := h hn
  obtain ⟨h1, _⟩ := bcell hb
  exact ⟨b, off, rfl, Nat.lt_of_lt_of_le hlt hb.size, fun i hi => by rw [h1 _ _ hlt, h1 _ _ hlt]; exact hc i hi⟩

theorem CatsAt.row {w : World} {b n : Nat} {f g : Nat → Int} (h : w.rowIs b 112 (n * 2) (pairCell f g)) : CatsAt w (some ⟨b, 0, none⟩) n f g := fun _ => by
  refine ⟨b, 0, rfl, h.lt, fun i hi => ⟨?_, ?_⟩⟩
  · have := h.cell (i := 0 + i * 2) (by omega)
    rw [this]
    have e1 : (0 + i * 2) % 2 = 0 := by omega
    have e2 : (0 + i * 2) / 2 = i := by omega
    simp only [pairCell, e1, e2, if_true]
  · have := h.cell (i := 0 + i * 2 + 1) (by omega)
    rw [this]
    have e1 : ¬ (0 + i * 2 + 1) % 2 = 0 := by omega
    have e2 : (0 + i * 2 + 1) / 2 = i := by omega
    simp only [pairCell, e2, if_neg e1]

theorem made_row (w : World) (n : Nat) : (w.alloc (.cells (madeCells #[.int .i64 0, .int .i64 0] (n * 2)) 112)).rowIs w.heap.size 112 (n * 2) (pairCell (fun _ => 0) (fun _ => 0)) :=
  ⟨_, blk_alloc_new _ _, size_madeCells _ _, fun i hi => by
    rcases Nat.mod_two_eq_zero_or_one i with h | h <;> simp [madeCells, hi, pairCell, h]⟩

/-- the first k of f, and nought behind them -/
def upto (k : Nat) (f : Nat → Int) (i : Nat) : Int := if i < k then f i else 0


theorem upto_zero (f : Nat → Int) : upto 0 f = fun _ => 0 := by funext i; simp [upto]

theorem upto_row {w : World} {b n k : Nat} {f g : Nat → Int} (h : w.rowIs b 112 (n * 2) (pairCell (upto k f) (upto k g))) :
    ((w.setCell ⟨b, k * 2, none⟩ (.int .i64 (f k))).setCell ⟨b, k * 2 + 1, none⟩ (.int .i64 (g k))).rowIs b 112 (n * 2) (pairCell (upto (k + 1) f) (upto (k + 1) g)) := by
  refine ((h.set (k * 2) _).set (k * 2 + 1) _).congr fun j _ => ?_
  by_cases e1 : j = k * 2 + 1
  · subst e1
    have a1 : ¬ (k * 2 + 1) % 2 = 0 := by omega
    have a2 : (k * 2 + 1) / 2 = k := by omega
    simp [pairCell, upto, a2]
  · by_cases e2 : j = k * 2
    · subst e2
      simp [pairCell, upto]
    · have a1 : (j / 2 < k + 1) = (j / 2 < k) := by apply propext; omega
      simp [pairCell, upto, e1, e2, a1]

theorem upto_done {w : World} {b n : Nat} {f g : Nat → Int} (h : w.rowIs b 112 (n * 2) (pairCell (upto n f) (upto n g))) : w.rowIs b 112 (n * 2) (pairCell f g) :=
  h.congr fun j hj => by have : j / 2 < n := by omega
                         simp [pairCell, upto, this]

theorem World.rowIs.below {w w' : World} {B b n : Nat} {t : TypeId} {f : Nat → Value} (h : w.rowIs b t n f) (hb : Below B w w') (hB : b < B) : w'.rowIs b t n f :=
  h.of_block (hb.block b hB)

set_option maxHeartbeats 1000000 in
theorem toCatS_any (a : Option Addr) (n cap : Nat) (f g : Nat → Int) (w : World) (hn : n ≤ 1048576) (hc : CatsAt w a n f g) :
    Calls Try.prog 101 #[.slice a n cap] w fun e w' => e = .returned (.slice (some ⟨w.heap.size, 0, none⟩) n n) ∧ w'.rowIs w.heap.size 112 (n * 2) (pairCell f g) ∧ Below w.heap.size w w' := by
  have hmk := run_make_cats n hn
  go_enter Try.func101, Try.ntmps101
  go_wp2
  go_loopw [4] (fun i wr => ∃ k : Nat, k ≤ n ∧ i = .int .i64 k ∧ wr.rowIs w.heap.size 112 (n * 2) (pairCell (upto k f) (upto k g)) ∧ Below w.heap.size w wr) (fun i _ => n - (intOf i).toNat)
  case atStart => exact ⟨0, Nat.zero_le _, rfl, by rw [upto_zero, upto_zero]; exact made_row w n, (Below.refl _ _).alloc (Nat.le_refl _) _⟩
  case round =>
    obtain ⟨k, hk, rfl, hrow, hB⟩ := hrel
    clear hmk
    by_cases hlt' : k < n
    · obtain ⟨b, off, rfl, hlt, hc⟩ := hc (by omega)
      obtain ⟨h1, h2⟩ := hc k hlt'
      have g1 : wr.cell? ⟨b, off + k * 2, none⟩ = some (.int .i64 (f k)) := (hB.cell (p := ⟨b, _, none⟩) hlt).trans h1
      have g2 : wr.cell? ⟨b, off + k * 2 + 1, none⟩ = some (.int .i64 (g k)) := (hB.cell (p := ⟨b, _, none⟩) hlt).trans h2
      clear h1 h2 hc
      go_wp2_with fail
      refine (toCat_any _ _ _).mono ?_
      rintro e w1 ⟨rfl, hb1⟩
      have hrow1 := World.rowIs.below hrow hb1 hrow.lt
      have c1 := hrow1.cell (i := k * 2) (by omega)
      have c2 := hrow1.cell (i := k * 2 + 1) (by omega)
      have f1 := hrow1.frozen (k * 2)
      have f2 := hrow1.frozen (k * 2 + 1)
      clear g1 g2
      go_wp2
      go_roundw
      case rel => exact ⟨k + 1, by omega, by go_num, upto_row hrow1, ((hB.trans (hb1.mono hB.size)).setCell (Nat.le_refl _) _).setCell (Nat.le_refl _) _⟩
      case measure => simp [intOf]; omega
    · clear hc
      go_wp2
      go_ret
      have e : k = n := by omega
      subst e
      exact ⟨rfl, upto_done hrow, hB⟩

set_option maxHeartbeats 1000000 in
theorem toLabel_any (base : Int) (a : Option Addr) (n cap : Nat) (f g : Nat → Int) (w : World) (hn : n ≤ 1048576) (hc : CatsAt w a n f g) :
    Calls Try.prog 88 #[.agg #[.int .i64 base, .slice a n cap]] w fun e w' => ∃ c, e = .returned (.agg #[.int .i64 base, .slice (some ⟨c, 0, none⟩) n n]) ∧ w.heap.size ≤ c ∧ w'.rowIs c 112 (n * 2) (pairCell f g) ∧ Below w.heap.size w w' := by
  have hb0 := (((Below.refl _ w).alloc (Nat.le_refl _) (.cells #[.int .i64 base, .slice a n cap] 88)).alloc (by simp) (.cells #[.int .i64 0, .slice none 0 0] 37)).alloc (by simp; omega) (.cells #[.int .i64 base, .slice none 0 0] 37)
  have hc3 := hc.below hb0
  go_enter Try.func88, Try.ntmps88
  go_wp2_with fail
  refine (toCatS_any _ _ _ f g _ hn hc3).mono ?_
  rintro e w1 ⟨rfl, hrow, hb1⟩
  obtain ⟨q1, q2⟩ := bcell hb1
  have hz : w.heap.size + 1 + 1 + 1 ≤ w1.heap.size := by have := hb1.size; simpa using this
  have hz' := hrow.lt
  simp at hrow hz'
  clear hc hc3
  go_wp2
  refine bodyPost_ret (v := .agg #[.int .i64 base, .slice (some ⟨w.heap.size + 1 + 1 + 1, 0, none⟩) n n]) (by simp [results, Try.results88, go_sem, q1]) rfl ⟨_, rfl, by omega, ?_, ?_⟩
  · exact ((hrow.setOther (by dsimp only; omega) _).setOther (by dsimp only; omega) _).setOther (by dsimp only; omega) _
  · exact (((hb0.trans (hb1.mono (by simp; omega))).setCell (by simp; omega) _).setCell (by simp) _).setCell (by simp) _
end Go.Proofs.Ytonpoakimpoojaa
