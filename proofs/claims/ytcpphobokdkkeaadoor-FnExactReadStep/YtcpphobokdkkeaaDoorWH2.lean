/- The marks that the exact laws write into an answer, and their reading. -/
import Derived.Test.YtcpphobokdkkeaaDoorLO
namespace Go.Proofs.YtcpphobokdkkeaaDoor
open Go.RowKit Go.Deep Go.Maps

def mk1 (k0 : Int) (i : Nat) : Int := k0 + 2 * i
def mk2 (k0 : Int) (i : Nat) : Int := k0 + 2 * i + 1

/-- a slice of categories that may be written: it begins block b -/
def RowAt (w : World) (a : Option Addr) (b n : Nat) : Prop := 0 < n → a = some ⟨b, 0, none⟩ ∧ ∃ m F, n * 2 ≤ m ∧ w.rowIs b 68 m F

theorem RowAt.of_row {w : World} {b n : Nat} {F : Nat → Value} (h : w.rowIs b 68 (n * 2) F) : RowAt w (some ⟨b, 0, none⟩) b n := fun _ => ⟨rfl, n * 2, F, Nat.le_refl _, h⟩
theorem RowAt.below {w w' : World} {a : Option Addr} {b n : Nat} (h : RowAt w a b n) (hb : Below w.heap.size w w') : RowAt w' a b n := fun h0 => by
  obtain ⟨e, m, F, hm, hr⟩ := h h0
  exact ⟨e, m, F, hm, hr.of_block (hb.block b hr.lt)⟩
theorem RowAt.grown {w w' : World} {a : Option Addr} {b n : Nat} {row : Option Nat} (h : RowAt w a b n) (hg : w.grownBy w' row) (hne : some b ≠ row) : RowAt w' a b n := fun h0 => by
  obtain ⟨e, m, F, hm, hr⟩ := h h0
  exact ⟨e, m, F, hm, hr.of_block (hg.block b hr.lt hne)⟩
theorem RowAt.of_own {w : World} {B k : Nat} {a : Option Addr} {l : List (Int × Int)} (h : OwnList w B (.slice a l.length k) l) : ∃ b, RowAt w a b l.length ∧ (0 < l.length → B ≤ b) := by
  rcases h.2 with ⟨_, h0⟩ | ⟨g, cap, cur, hv, hbg, hg, hle, _, hsz, _⟩
  · exact ⟨0, fun h => by omega, fun h => by omega⟩
  · simp only [Value.slice.injEq] at hv
    refine ⟨g, fun _ => ⟨hv.1, cap * 2, fun i => cur.getD i undef, by omega, cur, hg, hsz, fun i hi => ?_⟩, fun _ => hbg⟩
    have : i < cur.size := by omega
    simp [this]

set_option maxRecDepth 100000 in
set_option maxHeartbeats 1000000 in
theorem markCatS_any (a : Option Addr) (b n cap : Nat) (k0 : Int) (w : World) (hn : n ≤ 1048576) (h0 : 0 ≤ k0) (h1 : k0 ≤ 4194304) (hr : RowAt w a b n) :
    Calls Tryd.prog 54 #[.slice a n cap, .int .i64 k0] w fun e w' => e = .returned (.int .i64 (k0 + 2 * n)) ∧ w.grownBy w' (some b) ∧ CatsAt w' a n (mk1 k0) (mk2 k0) := by
  go_enter Tryd.func54, Tryd.ntmps54
  go_wp2
  go_loopw [1, 5] (fun kk i wr => ∃ j : Nat, j ≤ n ∧ i = .int .i64 j ∧ kk = .int .i64 (k0 + 2 * j) ∧ w.grownBy wr (some b) ∧ RowAt wr a b n ∧ (∀ i, i < j → wr.cell? ⟨b, i * 2, none⟩ = some (.int .i64 (mk1 k0 i)) ∧ wr.cell? ⟨b, i * 2 + 1, none⟩ = some (.int .i64 (mk2 k0 i)))) (fun _ i _ => n - (intOf i).toNat)
  case atStart => exact ⟨0, Nat.zero_le _, rfl, by simp, grown_refl _ _, hr, fun i hi => by omega⟩
  case round =>
    obtain ⟨j, hj, rfl, rfl, hg, hrow, hcells⟩ := hrel
    have HCL : Hid (∀ i, i < j → wr.cell? ⟨b, i * 2, none⟩ = some (.int .i64 (mk1 k0 i)) ∧ wr.cell? ⟨b, i * 2 + 1, none⟩ = some (.int .i64 (mk2 k0 i))) := hcells
    clear hcells
    by_cases hlt : j < n
    · obtain ⟨rfl, m, F, hm, hR⟩ := hrow (by omega)
      have c1 := hR.cell (i := j * 2) (by omega)
      have c2 := hR.cell (i := j * 2 + 1) (by omega)
      have f1 := hR.frozen (j * 2)
      have f2 := hR.frozen (j * 2 + 1)
      have HR : Hid (wr.rowIs b 68 m F) := hR
      clear hR hrow hr
      go_wp2
      go_roundw
      case rel =>
        have R1 := (HR.out.set (j * 2) (.int .i64 (k0 + 2 * j))).set (j * 2 + 1) (.int .i64 (k0 + 2 * j + 1))
        refine ⟨j + 1, by omega, by go_num, by go_num, grown_set (grown_set hg _ _) _ _, fun _ => ⟨rfl, m, _, hm, R1⟩, fun i hi => ⟨?_, ?_⟩⟩
        · rw [R1.cell (i := i * 2) (by omega)]
          have e1 : ¬ i * 2 = j * 2 + 1 := by omega
          rw [if_neg e1]
          by_cases e : i = j
          · subst e; rw [if_pos rfl]; rfl
          · have e2 : ¬ i * 2 = j * 2 := by omega
            rw [if_neg e2, ← HR.out.cell (i := i * 2) (by omega)]
            exact (HCL.out i (by omega)).1
        · rw [R1.cell (i := i * 2 + 1) (by omega)]
          by_cases e : i = j
          · subst e; rw [if_pos rfl]; rfl
          · have e1 : ¬ i * 2 + 1 = j * 2 + 1 := by omega
            have e2 : ¬ i * 2 + 1 = j * 2 := by omega
            rw [if_neg e1, if_neg e2, ← HR.out.cell (i := i * 2 + 1) (by omega)]
            exact (HCL.out i (by omega)).2
      case measure => simp [intOf]; omega
    · go_wp2
      go_ret
      have e : j = n := by omega
      subst e
      refine ⟨rfl, hg, fun h => ?_⟩
      obtain ⟨rfl, m, F, hm, hR⟩ := hrow h
      exact ⟨b, 0, rfl, hR.lt, fun i hi => by rw [Nat.zero_add]; exact HCL.out i hi⟩

set_option maxHeartbeats 1000000 in
theorem heldCatS_any (a : Option Addr) (n cap : Nat) (k0 : Int) (w : World) (hn : n ≤ 1048576) (h0 : 0 ≤ k0) (h1 : k0 ≤ 4194304) (hc : CatsAt w a n (mk1 k0) (mk2 k0)) :
    Calls Tryd.prog 55 #[.slice a n cap, .int .i64 k0] w fun e w' => e = .returned (.int .i64 (k0 + 2 * n)) ∧ w' = w := by
  go_enter Tryd.func55, Tryd.ntmps55
  go_wp2
  go_loop [1, 5] (fun kk i => ∃ j : Nat, j ≤ n ∧ i = .int .i64 j ∧ kk = .int .i64 (k0 + 2 * j)) (fun _ i => n - (intOf i).toNat)
  case atStart => exact ⟨0, Nat.zero_le _, rfl, by simp⟩
  case round =>
    obtain ⟨j, hj, rfl, rfl⟩ := hrel
    by_cases hlt : j < n
    · obtain ⟨b, off, rfl, hbl, hcc⟩ := hc (by omega)
      obtain ⟨c1, c2⟩ := hcc j hlt
      unfold mk1 at c1
      unfold mk2 at c2
      clear hcc hc
      go_wp2
      go_round
      case rel => exact ⟨j + 1, by omega, by go_num, by go_num⟩
      case measure => simp [intOf]; omega
    · clear hc
      go_wp2
      go_ret
      have e : j = n := by omega
      subst e
      exact ⟨rfl, rfl⟩

set_option maxRecDepth 100000 in
set_option maxHeartbeats 1000000 in
theorem markLabel_any (base : Int) (a : Option Addr) (b n cap : Nat) (k0 : Int) (w : World) (hn : n ≤ 1048576) (h0 : 0 ≤ k0) (h1 : k0 ≤ 4194304) (hr : RowAt w a b n) :
    Calls Tryd.prog 29 #[.agg #[.int .i64 base, .slice a n cap], .int .i64 k0] w fun e w' => e = .returned (.int .i64 (k0 + 2 * n)) ∧ w.grownBy w' (if 0 < n then some b else none) ∧ CatsAt w' a n (mk1 k0) (mk2 k0) := by
  have hb0 := (Below.refl _ w).alloc (Nat.le_refl _) (.cells #[.int .i64 base, .slice a n cap] 31)
  have hr0 := hr.below hb0
  have g0 := World.grownBy_alloc w (.cells #[.int .i64 base, .slice a n cap] 31) none
  go_enter Tryd.func29, Tryd.ntmps29
  go_wp2_with fail
  by_cases hp : 0 < n
  · refine (markCatS_any _ b _ _ _ _ hn h0 h1 hr0).mono ?_
    rintro e w1 ⟨rfl, hg, hc⟩
    go_wp2
    go_ret
    exact ⟨rfl, ⟨hg.os.trans g0.os, hg.tape.trans g0.tape, hg.output.trans g0.output, Nat.le_trans g0.size hg.size, fun k hk hne => (hg.block k (Nat.lt_of_lt_of_le hk g0.size) hne).trans (g0.block k hk (by simp))⟩, hc⟩
  · refine (markCatS_any _ w.heap.size _ _ _ _ hn h0 h1 (fun h => absurd h hp)).mono ?_
    rintro e w1 ⟨rfl, hg, hc⟩
    go_wp2
    go_ret
    exact ⟨rfl, ⟨hg.os.trans g0.os, hg.tape.trans g0.tape, hg.output.trans g0.output, Nat.le_trans g0.size hg.size, fun k hk _ => (hg.block k (Nat.lt_of_lt_of_le hk g0.size) (by simp; omega)).trans (g0.block k hk (by simp))⟩, hc⟩

set_option maxHeartbeats 1000000 in
theorem heldLabel_any (base : Int) (a : Option Addr) (n cap : Nat) (k0 : Int) (w : World) (hn : n ≤ 1048576) (h0 : 0 ≤ k0) (h1 : k0 ≤ 4194304) (hc : CatsAt w a n (mk1 k0) (mk2 k0)) :
    Calls Tryd.prog 30 #[.agg #[.int .i64 base, .slice a n cap], .int .i64 k0] w fun e w' => e = .returned (.int .i64 (k0 + 2 * n)) ∧ Below w.heap.size w w' := by
  have hb0 := (Below.refl _ w).alloc (Nat.le_refl _) (.cells #[.int .i64 base, .slice a n cap] 31)
  go_enter Tryd.func30, Tryd.ntmps30
  go_wp2_with fail
  refine (heldCatS_any _ _ _ _ _ hn h0 h1 (hc.below hb0)).mono ?_
  rintro e w1 ⟨rfl, rfl⟩
  have : ¬ k0 + 2 * (n : Int) < 0 := by omega
  go_wp2
  go_ret
  exact ⟨rfl, hb0⟩
end Go.Proofs.YtcpphobokdkkeaaDoor
