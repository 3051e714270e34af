/- Marks in objects that a call made. -/
import Derived.Test.YtonpoakimpoojaaKX8
import Derived.Test.YtonpoakimpoojaaKO1
import Derived.Test.YtonpoakimpoojaaKM1
import Derived.Test.YtonpoakimpoojaaKB10
namespace Go.Proofs.Ytonpoakimpoojaa
open Go Go.RowKit Go.Deep Go.Maps

def mkS (k i : Nat) : ByteArray := ⟨(109 :: digs (k + i)).toArray⟩
def RowS (w : World) (a : Option Addr) (b n : Nat) : Prop := 0 < n → a = some ⟨b, 0, none⟩ ∧ ∃ m F, n ≤ m ∧ w.rowIs b 9 m F

set_option maxRecDepth 100000 in
set_option maxHeartbeats 1000000 in
theorem markStringS_any (a : Option Addr) (b n cap k : Nat) (w : World) (hn : n ≤ 1048576) (hk : 1 ≤ k) (hk2 : k ≤ 1000000000000) (hr : RowS w a b n) :
    Calls Try.prog 54 #[.slice a n cap, .int .i64 (k : Nat)] w fun e w' => e = .returned (.int .i64 (k + n : Nat)) ∧ w.grownBy w' (some b) ∧ StrAt w' a n (mkS k) := by
  have M := hid (fun (j : Nat) (hj : j < n) w => markText_any (k + j) w (by omega) (by omega))
  go_enter Try.func54, Try.ntmps54
  go_wp2
  go_loopw [1, 5] (fun kk i wr => ∃ j : Nat, j ≤ n ∧ i = .int .i64 j ∧ kk = .int .i64 (k + j : Nat) ∧ w.grownBy wr (some b) ∧ RowS wr a b n ∧ (∀ i, i < j → wr.cell? ⟨b, i, none⟩ = some (.string (mkS k i)))) (fun _ i _ => n - (intOf i).toNat)
  case atStart => exact ⟨0, Nat.zero_le _, rfl, rfl, grown_refl _ _, hr, fun i hi => by omega⟩
  case round =>
    obtain ⟨j, hj, rfl, rfl, hg, hrow, hcells⟩ := hrel
    have HCL := hid hcells
    clear hcells
    by_cases hlt : j < n
    · obtain ⟨rfl, m, F, hm, hR⟩ := hrow (by omega)
      have HR := hid hR
      have MJ := hid (M.out j hlt)
      have i0 : (j : Int) < (n : Int) := by omega
      clear hR hrow hr M
      go_wp2_with (go_at_call 78; refine (MJ.out _).mono ?_; rintro e w2 ⟨rfl, h2⟩; have R2 := hid (HR.out.of_block (h2.block b HR.out.lt)); have c1 := R2.out.cell (i := j) (Nat.lt_of_lt_of_le hlt hm); have f1 := R2.out.frozen j)
      go_roundw
      case rel =>
        have R1 := R2.out.set j (.string (mkS k j))
        refine ⟨j + 1, by omega, by go_num, by go_num, ?_, fun _ => ⟨rfl, m, _, hm, R1⟩, fun i hi => ?_⟩
        · have g2 : w.grownBy w2 (some b) := ⟨h2.os.trans hg.os, h2.tape.trans hg.tape, h2.output.trans hg.output, Nat.le_trans hg.size h2.size, fun k hk hne => (h2.block k (Nat.lt_of_lt_of_le hk hg.size)).trans (hg.block k hk hne)⟩
          exact grown_set g2 _ _
        · show (w2.setCell ⟨b, j, none⟩ (.string (mkS k j))).cell? ⟨b, i, none⟩ = _
          rw [R1.cell (i := i) (by omega)]
          by_cases e : i = j
          · subst e; rw [if_pos rfl]
          · have d := HCL.out i (by omega)
            have hb' : w2.cell? ⟨b, i, none⟩ = wr.cell? ⟨b, i, none⟩ := h2.cell (p := ⟨b, i, none⟩) HR.out.lt
            rw [← hb', R2.out.cell (i := i) (by omega)] at d
            rw [if_neg e]
            exact d
      case measure => simp [intOf]; omega
    · have ej : j = n := by omega
      subst ej
      go_wp2
      go_ret
      refine ⟨by simp, hg, fun hp => ?_⟩
      obtain ⟨rfl, m, F, hm, hR⟩ := hrow hp
      exact ⟨b, 0, rfl, hR.lt, fun i hi => by rw [Nat.zero_add]; exact HCL.out i hi⟩

set_option maxRecDepth 100000 in
set_option maxHeartbeats 1000000 in
theorem heldStringS_any (a : Option Addr) (n cap k : Nat) (w : World) (hn : n ≤ 1048576) (hk : 1 ≤ k) (hk2 : k ≤ 1000000000000) (H : StrAt w a n (mkS k)) :
    Calls Try.prog 56 #[.slice a n cap, .int .i64 (k : Nat)] w fun e w' => e = .returned (.int .i64 (k + n : Nat)) ∧ Below w.heap.size w w' := by
  have M := hid (fun (j : Nat) (hj : j < n) w => markText_any (k + j) w (by omega) (by omega))
  go_enter Try.func56, Try.ntmps56
  go_wp2
  go_loopw [1, 5] (fun kk i wr => ∃ j : Nat, j ≤ n ∧ i = .int .i64 j ∧ kk = .int .i64 (k + j : Nat) ∧ Below w.heap.size w wr) (fun _ i _ => n - (intOf i).toNat)
  case atStart => exact ⟨0, Nat.zero_le _, rfl, rfl, Below.refl _ _⟩
  case round =>
    obtain ⟨j, hj, rfl, rfl, hB⟩ := hrel
    by_cases hlt : j < n
    · obtain ⟨b, off, rfl, hz, hc⟩ := H (by omega)
      have u1 : ∀ p : Up wr, p.W.cell? ⟨b, off + j, none⟩ = some (.string (mkS k j)) := fun p => ((then_ hB p.h).cell (p := ⟨b, _, none⟩) hz).trans (hc j hlt)
      have MJ : Hid (∀ W, Calls Try.prog 78 #[.int .i64 (k + j : Nat)] W fun e w' => e = .returned (.string (mkS k j)) ∧ Below W.heap.size W w') := M.out j hlt
      have i0 : (j : Int) < (n : Int) := by omega
      clear hc H M
      generalize mkS k j = X at *
      go_wp2
      refine wp_region_quiet_up (by kernel_rfl) (by kernel_rfl) ?_
      repeat (go_big_quiet_step (first | (go_at_call 78; exact up_of (MJ.out _))))
      refine wpQuiet_nil ?_
      rintro _ ⟨p, rfl⟩
      go_wp2
      exact ⟨⟨j + 1, by omega, by go_num, by go_num, then_ hB p.h⟩, by simp [intOf]; omega⟩
    · have ej : j = n := by omega
      subst ej
      clear H
      go_wp2
      go_ret
      exact ⟨by simp, hB⟩
end Go.Proofs.Ytonpoakimpoojaa
