/- Lists of whole numbers in the exact laws: their budget, their copies, their comparison. -/
import Derived.Test.YtlpbiigiecpknaaC
import Derived.Deep.QuietTactic
import Derived.BigQuiet
namespace Go.Proofs.Ytlpbiigiecpknaa
open Go.RowKit Go.Deep

def IntsAt (w : World) (a : Option Addr) (n : Nat) (h : Nat → Int) : Prop :=
  0 < n → ∃ b off, a = some ⟨b, off, none⟩ ∧ b < w.heap.size ∧ ∀ i, i < n → w.cell? ⟨b, off + i, none⟩ = some (.int .i64 (h i))

theorem IntsAt.below {w w' : World} {a : Option Addr} {n : Nat} {h : Nat → Int} (hc : IntsAt w a n h) (hb : Below w.heap.size w w') : IntsAt w' a n h := fun hn => by
  obtain ⟨b, off, rfl, hlt, hc⟩ := hc hn
  obtain ⟨h1, _⟩ := bcell hb
  exact ⟨b, off, rfl, Nat.lt_of_lt_of_le hlt hb.size, fun i hi => by rw [h1 _ _ hlt]; exact hc i hi⟩

theorem IntsAt.row {w : World} {b n : Nat} {t : TypeId} {h : Nat → Int} (hr : w.rowIs b t n (fun i => .int .i64 (h i))) : IntsAt w (some ⟨b, 0, none⟩) n h := fun _ =>
  ⟨b, 0, rfl, hr.lt, fun i hi => by rw [Nat.zero_add]; exact hr.cell hi⟩

theorem Try.info2 : (Try.prog.info? 2).map (fun i => (i.zero, i.size, i.bytes)) = some (some (.int .i64 0), 1, 8) := by kernel_rfl

theorem upto_int_row {w : World} {b n k : Nat} {h : Nat → Int} (hr : w.rowIs b 2 n (fun i => .int .i64 (upto k h i))) :
    (w.setCell ⟨b, k, none⟩ (.int .i64 (h k))).rowIs b 2 n (fun i => .int .i64 (upto (k + 1) h i)) := by
  refine (hr.set k _).congr fun j _ => ?_
  by_cases e : j = k
  · subst e; simp [upto]
  · have a1 : (j < k + 1) = (j < k) := by apply propext; omega
    simp [upto, e, a1]

theorem upto_int_done {w : World} {b n : Nat} {h : Nat → Int} (hr : w.rowIs b 2 n (fun i => .int .i64 (upto n h i))) : w.rowIs b 2 n (fun i => .int .i64 (h i)) :=
  hr.congr fun j hj => by simp [upto, hj]

set_option maxHeartbeats 1000000 in
theorem eqInt64S_true (a a' : Option Addr) (n cap cap' : Nat) (h : Nat → Int) (w : World) (hn : n ≤ maxLen) (hc : IntsAt w a n h) (hc' : IntsAt w a' n h) :
    Calls Try.prog 18 #[.slice a n cap, .slice a' n cap'] w fun e w' => e = .returned (.bool true) ∧ Below w.heap.size w w' := by
  unfold maxLen at hn
  go_enter Try.func18, Try.ntmps18
  go_wp2
  go_loopw [5] (fun i wr => ∃ k : Nat, k ≤ n ∧ i = .int .i64 k ∧ Below w.heap.size w wr) (fun i _ => n - (intOf i).toNat)
  case atStart => exact ⟨0, Nat.zero_le _, rfl, Below.refl _ _⟩
  case round =>
    obtain ⟨k, hk, rfl, hB⟩ := hrel
    by_cases hlt' : k < n
    · obtain ⟨b, off, rfl, hlt, hc⟩ := hc (by omega)
      obtain ⟨b', off', rfl, hlt2, hc'⟩ := hc' (by omega)
      have g1 : wr.cell? ⟨b, off + k, none⟩ = some (.int .i64 (h k)) := (hB.cell (p := ⟨b, _, none⟩) hlt).trans (hc k hlt')
      have g2 : wr.cell? ⟨b', off' + k, none⟩ = some (.int .i64 (h k)) := (hB.cell (p := ⟨b', _, none⟩) hlt2).trans (hc' k hlt')
      clear hc hc'
      have i0 : (0 : Int) ≤ (k : Int) := by omega
      have i1 : (k : Int) < (n : Int) := by omega
      go_wp2_with fail
      go_quiet (fail)
      go_wp2
      go_roundw
      case rel => exact ⟨k + 1, by omega, by go_num, below_drewN hB _⟩
      case measure => simp [intOf]; omega
    · clear hc hc'
      go_wp2
      go_ret
      exact ⟨rfl, hB⟩
end Go.Proofs.Ytlpbiigiecpknaa
