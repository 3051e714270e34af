/- Kernels as they lie in memory: rows of threads that are the same compare equal. -/
import Derived.Test.YtonpoakimpoojaaKA8
import Derived.Deep.RegionHeld3
import Derived.Deep.QuietTactic
import Derived.BigQuiet
namespace Go.Proofs.Ytonpoakimpoojaa
open Go.RowKit Go.Deep

set_option maxRecDepth 100000 in
set_option maxHeartbeats 2000000 in
theorem eqThreadS_any (a a' : Option Addr) (n cap cap' : Nat) (T U : Nat → ThrV) (w : World) (hn : n ≤ maxLen) (hT : ThrsAt w a n T) (hU : ThrsAt w a' n U) (hs : ∀ i, i < n → (T i).same (U i)) :
    Calls Try.prog 44 #[.slice a n cap, .slice a' n cap'] w fun e w' => e = .returned (.bool true) ∧ Below w.heap.size w w' := by
  unfold maxLen at hn
  have HT := hid hT
  have HU := hid hU
  have HS := hid hs
  clear hT hU hs
  go_enter Try.func44, Try.ntmps44
  go_wp2
  go_loopw [5] (fun i wr => ∃ k : Nat, k ≤ n ∧ i = .int .i64 k ∧ Below w.heap.size w wr) (fun i _ => n - (intOf i).toNat)
  case atStart => exact ⟨0, Nat.zero_le _, rfl, Below.refl _ _⟩
  case round =>
    obtain ⟨k, hk, rfl, hB⟩ := hrel
    by_cases hlt' : k < n
    · obtain ⟨b, off, rfl, hl1, hc⟩ := HT.out.below hB (by omega)
      obtain ⟨b', off', rfl, hl2, hc'⟩ := HU.out.below hB (by omega)
      obtain ⟨q, qa⟩ := hc k hlt'
      obtain ⟨r, ra⟩ := hc' k hlt'
      have Q := hid (show Cells7 wr.drew b (off + k * 7) (T k) from ⟨q.c0, q.c1, q.c2, q.c3, q.c4, q.c5, q.c6⟩)
      have R := hid (show Cells7 wr.drew b' (off' + k * 7) (U k) from ⟨r.c0, r.c1, r.c2, r.c3, r.c4, r.c5, r.c6⟩)
      have EQ := hid (eqThread_v (T k) (U k) wr.drew (qa.below (Below.refl _ wr).drew) (ra.below (Below.refl _ wr).drew) (HS.out k hlt'))
      unfold ThrV.val at EQ
      obtain ⟨g0, g1, g2, g3, g4, g5, g6⟩ := q
      obtain ⟨h0, h1, h2, h3, h4, h5, h6⟩ := r
      have i0 : (0 : Int) ≤ (k : Int) := by omega
      have i1 : (k : Int) < (n : Int) := by omega
      have hl1' : b < wr.drew.heap.size := hl1
      have hl2' : b' < wr.drew.heap.size := hl2
      clear hc hc' qa ra
      go_wp2_with fail
      go_region_held3 (fun w' => w'.cell? ⟨b, off + k * 7, none⟩ = some (.int .i64 (T k).id) ∧ w'.cell? ⟨b, off + k * 7 + 1, none⟩ = some (.int .i64 (T k).b1) ∧ w'.cell? ⟨b, off + k * 7 + 2, none⟩ = some ((T k).c1.val) ∧ w'.cell? ⟨b, off + k * 7 + 3, none⟩ = some (.int .i64 (T k).b2) ∧ w'.cell? ⟨b, off + k * 7 + 4, none⟩ = some ((T k).c2.val) ∧ w'.cell? ⟨b, off + k * 7 + 5, none⟩ = some ((T k).own.val) ∧ w'.cell? ⟨b, off + k * 7 + 6, none⟩ = some (.int .i64 (T k).made) ∧ w'.cell? ⟨b', off' + k * 7, none⟩ = some (.int .i64 (U k).id) ∧ w'.cell? ⟨b', off' + k * 7 + 1, none⟩ = some (.int .i64 (U k).b1) ∧ w'.cell? ⟨b', off' + k * 7 + 2, none⟩ = some ((U k).c1.val) ∧ w'.cell? ⟨b', off' + k * 7 + 3, none⟩ = some (.int .i64 (U k).b2) ∧ w'.cell? ⟨b', off' + k * 7 + 4, none⟩ = some ((U k).c2.val) ∧ w'.cell? ⟨b', off' + k * 7 + 5, none⟩ = some ((U k).own.val) ∧ w'.cell? ⟨b', off' + k * 7 + 6, none⟩ = some (.int .i64 (U k).made)) (go_keep)
        (first | (go_at_call 21; refine EQ.out.mono ?_; rintro e w1 ⟨rfl, hb1⟩; obtain ⟨p0, p1, p2, p3, p4, p5, p6⟩ := Q.out.below hl1' hb1; obtain ⟨q0, q1, q2, q3, q4, q5, q6⟩ := R.out.below hl2' hb1))
      have hB1 : Below w.heap.size w w1 := hB.drew.trans (hb1.mono hB.size)
      clear g0 g1 g2 g3 g4 g5 g6 h0 h1 h2 h3 h4 h5 h6 p0 p1 p2 p3 p4 p5 p6 q0 q1 q2 q3 q4 q5 q6 hb1
      go_wp2
      go_roundw
      case rel => exact ⟨k + 1, by omega, by go_num, hB1⟩
      case measure => simp [intOf]; omega
    · go_wp2
      go_ret
      exact ⟨rfl, hB⟩
set_option maxRecDepth 100000 in
set_option maxHeartbeats 1000000 in
theorem eqStringS_true (a a' : Option Addr) (n cap cap' : Nat) (f : Nat → ByteArray) (w : World) (hn : n ≤ maxLen) (hc : StrAt w a n f) (hc' : StrAt w a' n f) :
    Calls Try.prog 50 #[.slice a n cap, .slice a' n cap'] w fun e w' => e = .returned (.bool true) ∧ Below w.heap.size w w' := by
  unfold maxLen at hn
  go_enter Try.func50, Try.ntmps50
  go_wp2
  go_loopw [5] (fun i wr => ∃ k : Nat, k ≤ n ∧ i = .int .i64 k ∧ Below w.heap.size w wr) (fun i _ => n - (intOf i).toNat)
  case atStart => exact ⟨0, Nat.zero_le _, rfl, Below.refl _ _⟩
  case round =>
    obtain ⟨k, hk, rfl, hB⟩ := hrel
    by_cases hlt' : k < n
    · obtain ⟨b, off, rfl, hlt, hc⟩ := hc (by omega)
      obtain ⟨b', off', rfl, hlt2, hc'⟩ := hc' (by omega)
      have g1 : wr.cell? ⟨b, off + k, none⟩ = some (.string (f k)) := (hB.cell (p := ⟨b, _, none⟩) hlt).trans (hc k hlt')
      have g2 : wr.cell? ⟨b', off' + k, none⟩ = some (.string (f k)) := (hB.cell (p := ⟨b', _, none⟩) hlt2).trans (hc' k hlt')
      clear hc hc'
      have i0 : (0 : Int) ≤ (k : Int) := by omega
      have i1 : (k : Int) < (n : Int) := by omega
      go_wp2_with fail
      go_quiet (fail)
      go_wp2
      go_roundw
      case rel => exact ⟨k + 1, by omega, by go_num, below_drewN hB _⟩
      case measure => simp [intOf]; omega
    · clear hc hc'
      go_wp2
      go_ret
      exact ⟨rfl, hB⟩
end Go.Proofs.Ytonpoakimpoojaa
