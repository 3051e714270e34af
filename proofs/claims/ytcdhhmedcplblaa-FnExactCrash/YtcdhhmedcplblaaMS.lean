/- Lists of whole numbers: copies, comparison, marks. -/
import Derived.Test.YtcdhhmedcplblaaMC
import Derived.Deep.QuietTactic
import Derived.BigQuiet
namespace Go.Proofs.Ytcdhhmedcplblaa
open Go Go.RowKit Go.Deep Go.Maps

def IntsAt (w : World) (a : Option Addr) (n : Nat) (h : Nat → Int) : Prop :=
  0 < n → ∃ b off, a = some ⟨b, off, none⟩ ∧ b < w.heap.size ∧ ∀ i, i < n → w.cell? ⟨b, off + i, none⟩ = some (.int .i64 (h i))

theorem IntsAt.below {w w' : World} {a : Option Addr} {n : Nat} {h : Nat → Int} (hc : IntsAt w a n h) (hb : Below w.heap.size w w') : IntsAt w' a n h := fun hn => by
  obtain ⟨b, off, rfl, hlt, hc⟩ := hc hn
  obtain ⟨h1, _⟩ := bcell hb
  exact ⟨b, off, rfl, Nat.lt_of_lt_of_le hlt hb.size, fun i hi => by rw [h1 _ _ hlt]; exact hc i hi⟩

theorem IntsAt.row {w : World} {b n : Nat} {t : TypeId} {h : Nat → Int} (hr : w.rowIs b t n (fun i => .int .i64 (h i))) : IntsAt w (some ⟨b, 0, none⟩) n h := fun _ =>
  ⟨b, 0, rfl, hr.lt, fun i hi => by rw [Nat.zero_add]; exact hr.cell hi⟩

theorem Try.info2 : (Try.prog.info? 2).map (fun i => (i.zero, i.size, i.bytes)) = some (some (.int .i64 0), 1, 8) := by kernel_rfl

def upto (k : Nat) (f : Nat → Int) (i : Nat) : Int := if i < k then f i else 0
theorem upto_zero (f : Nat → Int) : upto 0 f = fun _ => 0 := by funext i; simp [upto]
theorem upto_int_row {w : World} {b n k : Nat} {h : Nat → Int} (hr : w.rowIs b 2 n (fun i => .int .i64 (upto k h i))) :
    (w.setCell ⟨b, k, none⟩ (.int .i64 (h k))).rowIs b 2 n (fun i => .int .i64 (upto (k + 1) h i)) := by
  refine (hr.set k _).congr fun j _ => ?_
  by_cases e : j = k
  · subst e; simp [upto]
  · have a1 : (j < k + 1) = (j < k) := by apply propext; omega
    simp [upto, e, a1]

theorem upto_int_done {w : World} {b n : Nat} {h : Nat → Int} (hr : w.rowIs b 2 n (fun i => .int .i64 (upto n h i))) : w.rowIs b 2 n (fun i => .int .i64 (h i)) :=
  hr.congr fun j hj => by simp [upto, hj]

set_option maxHeartbeats 1000000 in
theorem toInt64S_any (a : Option Addr) (n cap : Nat) (h : Nat → Int) (w : World) (hn : n ≤ 1048576) (hc : IntsAt w a n h) :
    Calls Try.prog 19 #[.slice a n cap] w fun e w' => e = .returned (.slice (some ⟨w.heap.size, 0, none⟩) n n) ∧ w'.rowIs w.heap.size 2 n (fun i => .int .i64 (h i)) ∧ Below w.heap.size w w' := by
  have hmk := run_make_row' (P := Try.prog) 44 2 _ 8 Try.underlying44 Try.info2 rfl .i64 .i64 n (by omega) (by omega)
  go_enter Try.func19, Try.ntmps19
  go_wp2
  go_loopw [4] (fun i wr => ∃ k : Nat, k ≤ n ∧ i = .int .i64 k ∧ wr.rowIs w.heap.size 2 n (fun j => .int .i64 (upto k h j)) ∧ Below w.heap.size w wr) (fun i _ => n - (intOf i).toNat)
  case atStart => exact ⟨0, Nat.zero_le _, rfl, by simpa [upto_zero] using World.rowIs_made w (.int .i64 0) n 2, (Below.refl _ _).alloc (Nat.le_refl _) _⟩
  case round =>
    obtain ⟨k, hk, rfl, hrow, hB⟩ := hrel
    clear hmk
    by_cases hlt' : k < n
    · obtain ⟨b, off, rfl, hlt, hc⟩ := hc (by omega)
      have g1 : wr.cell? ⟨b, off + k, none⟩ = some (.int .i64 (h k)) := (hB.cell (p := ⟨b, _, none⟩) hlt).trans (hc k hlt')
      have c1 := hrow.cell (i := k) (by omega)
      have f1 := hrow.frozen k
      clear hc
      go_wp2
      go_roundw
      case rel => exact ⟨k + 1, by omega, by go_num, upto_int_row hrow, hB.setCell (Nat.le_refl _) _⟩
      case measure => simp [intOf]; omega
    · clear hc
      go_wp2
      go_ret
      have e : k = n := by omega
      subst e
      exact ⟨rfl, upto_int_done hrow, hB⟩

set_option maxHeartbeats 1000000 in
theorem eqInt64S_true (a a' : Option Addr) (n cap cap' : Nat) (h : Nat → Int) (w : World) (hn : n ≤ maxLen) (hc : IntsAt w a n h) (hc' : IntsAt w a' n h) :
    Calls Try.prog 21 #[.slice a n cap, .slice a' n cap'] w fun e w' => e = .returned (.bool true) ∧ Below w.heap.size w w' := by
  unfold maxLen at hn
  go_enter Try.func21, Try.ntmps21
  go_wp2
  go_loopw [5] (fun i wr => ∃ k : Nat, k ≤ n ∧ i = .int .i64 k ∧ Below w.heap.size w wr) (fun i _ => n - (intOf i).toNat)
  case atStart => exact ⟨0, Nat.zero_le _, rfl, Below.refl _ _⟩
  case round =>
    obtain ⟨k, hk, rfl, hB⟩ := hrel
    by_cases hlt' : k < n
    · obtain ⟨b, off, rfl, hlt, hc⟩ := hc (by omega)
      obtain ⟨b', off', rfl, hlt2, hc'⟩ := hc' (by omega)
      have g1 : wr.cell? ⟨b, off + k, none⟩ = some (.int .i64 (h k)) := (hB.cell (p := ⟨b, _, none⟩) hlt).trans (hc k hlt')
      have g2 : wr.cell? ⟨b', off' + k, none⟩ = some (.int .i64 (h k)) := (hB.cell (p := ⟨b', _, none⟩) hlt2).trans (hc' k hlt')
      clear hc hc'
      have i0 : (0 : Int) ≤ (k : Int) := by omega
      have i1 : (k : Int) < (n : Int) := by omega
      go_wp2_with fail
      go_quiet (fail)
      go_wp2
      go_roundw
      case rel => exact ⟨k + 1, by omega, by go_num, below_drewN hB _⟩
      case measure => simp [intOf]; omega
    · clear hc hc'
      go_wp2
      go_ret
      exact ⟨rfl, hB⟩
theorem grown_set {a b : World} {P : Nat} (h : a.grownBy b (some P)) (i : Nat) (v : Value) : a.grownBy (b.setCell ⟨P, i, none⟩ v) (some P) :=
  ⟨h.os, h.tape, h.output, by rw [nblk_setCell]; exact h.size, fun j hj hne => (blk_setCell_other _ _ _ _ (by dsimp only; intro e; exact hne (by rw [e]))).trans (h.block j hj hne)⟩
theorem grown_refl (a : World) (P : Nat) : a.grownBy a (some P) := ⟨rfl, rfl, rfl, Nat.le_refl _, fun _ _ _ => rfl⟩
def RowI (w : World) (a : Option Addr) (b n : Nat) : Prop := 0 < n → a = some ⟨b, 0, none⟩ ∧ ∃ m F, n ≤ m ∧ w.rowIs b 2 m F
def mkI (k0 : Int) (i : Nat) : Int := k0 + i
set_option maxRecDepth 100000 in
set_option maxHeartbeats 1000000 in
theorem markInt64S_any (a : Option Addr) (b n cap : Nat) (k0 : Int) (w : World) (hn : n ≤ 1048576) (h0 : 0 ≤ k0) (h1 : k0 ≤ 1000000000000) (hr : RowI w a b n) :
    Calls Try.prog 22 #[.slice a n cap, .int .i64 k0] w fun e w' => e = .returned (.int .i64 (k0 + n)) ∧ w.grownBy w' (some b) ∧ IntsAt w' a n (mkI k0) := by
  go_enter Try.func22, Try.ntmps22
  go_wp2
  go_loopw [1, 5] (fun kk i wr => ∃ j : Nat, j ≤ n ∧ i = .int .i64 j ∧ kk = .int .i64 (k0 + j) ∧ w.grownBy wr (some b) ∧ RowI wr a b n ∧ (∀ i, i < j → wr.cell? ⟨b, i, none⟩ = some (.int .i64 (mkI k0 i)))) (fun _ i _ => n - (intOf i).toNat)
  case atStart => exact ⟨0, Nat.zero_le _, rfl, by simp, grown_refl _ _, hr, fun i hi => by omega⟩
  case round =>
    obtain ⟨j, hj, rfl, rfl, hg, hrow, hcells⟩ := hrel
    have HCL : Hid (∀ i, i < j → wr.cell? ⟨b, i, none⟩ = some (.int .i64 (mkI k0 i))) := hcells
    clear hcells
    by_cases hlt : j < n
    · obtain ⟨rfl, m, F, hm, hR⟩ := hrow (by omega)
      have c1 := hR.cell (i := j) (by omega)
      have f1 := hR.frozen j
      have HR : Hid (wr.rowIs b 2 m F) := hR
      clear hR hrow hr
      go_wp2
      go_roundw
      case rel =>
        have R1 := HR.out.set j (.int .i64 (k0 + j))
        refine ⟨j + 1, by omega, by go_num, by go_num, grown_set hg _ _, fun _ => ⟨rfl, m, _, hm, R1⟩, fun i hi => ?_⟩
        rw [R1.cell (i := i) (by omega)]
        by_cases e : i = j
        · subst e; rw [if_pos rfl]; rfl
        · rw [if_neg e, ← HR.out.cell (i := i) (by omega)]
          exact HCL.out i (by omega)
      case measure => simp [intOf]; omega
    · go_wp2
      go_ret
      have e : j = n := by omega
      subst e
      refine ⟨rfl, hg, fun h => ?_⟩
      obtain ⟨rfl, m, F, hm, hR⟩ := hrow h
      exact ⟨b, 0, rfl, hR.lt, fun i hi => by rw [Nat.zero_add]; exact HCL.out i hi⟩

end Go.Proofs.Ytcdhhmedcplblaa
