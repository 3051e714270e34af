/- LabelOk of the model answers the plain function labOk, at every label. -/
import Derived.Test.YthbmfbnnemgbpaaGreatDoorZ0
import Derived.Deep.QuietTactic
import Derived.BigQuiet
import Derived.Lib.ConvBytes
namespace Go.Proofs.YthbmfbnnemgbpaaGreatDoor
open Go.RowKit Go.Deep
theorem catOk_n5 {base : Int} {f g : Nat → Int} {k : Nat} (h0 : 0 < k) (h : f k ≤ f (k - 1)) : catOk base f g k = false := by
 have e : ¬ k = 0 := by omega
 have : decide (f (k - 1) < f k) = false := by simp; omega
 simp [catOk, e, this]
theorem catOk_y0 {base : Int} {f g : Nat → Int} {k : Nat} (h1 : inB (f k) 1 9999 = true) (h3 : inB (g k) 0 3 = true) (h4 : (g k == base) = false) (h : k = 0 ∨ f (k - 1) < f k) : catOk base f g k = true := by
 rcases h with h | h <;> simp_all [catOk]
set_option maxHeartbeats 1000000 in
theorem specOk_any (base : Int) (a : Option Addr) (n cap : Nat) (f g : Nat → Int) (w : World) (hn : n ≤ maxLen) (hc : CatsAt w a n f g) :
 Calls Tryz.prog 55 #[.agg #[.int .i64 base, .slice a n cap]] w fun e w' => e = .returned (.bool (labOk base n f g)) ∧ Below w.heap.size w w' := by
 unfold maxLen at hn
 by_cases hb : inB base 0 3 = true
 ·by_cases h12 : 12 < n
  ·have h12' : (12 : Int) < (n : Int) := by omega
   go_enter Tryz.func55, Tryz.ntmps55
   go_wp2_with (go_at_call 53; refine (l1In_any _ _ _ _).mono ?_; rintro e w' ⟨rfl, rfl⟩)
   go_ret
   exact ⟨ret_bool (labOk_len h12).symm, (Below.refl _ _).alloc (Nat.le_refl _) _⟩
  ·have h12' : ¬ (12 : Int) < (n : Int) := by omega
   have hb0 := (Below.refl _ w).alloc (Nat.le_refl _) (.cells #[.int .i64 base, .slice a n cap] 26)
   have hc1 := hc.below hb0
   go_enter Tryz.func55, Tryz.ntmps55
   go_wp2_with (go_at_call 53; refine (l1In_any _ _ _ _).mono ?_; rintro e w' ⟨rfl, rfl⟩)
   go_loopw [3] (fun i wr => ∃ k : Nat, k ≤ n ∧ i = .int .i64 k ∧ (∀ j, j < k → catOk base f g j = true) ∧ Below (w.heap.size + 1) (w.alloc (.cells #[.int .i64 base, .slice a n cap] 26)) wr) (fun i _ => n - (intOf i).toNat)
   case atStart => exact ⟨0, Nat.zero_le _, rfl, fun j hj => by omega, Below.refl _ _⟩
   case round =>
    obtain ⟨k, hk, rfl, hall, hB⟩ := hrel
    have x0 : wr.cell? ⟨w.heap.size, 0, none⟩ = some (.int .i64 base) := (hB.cell (p := ⟨w.heap.size, 0, none⟩) (by simp)).trans (by simp)
    have y0 : wr.cell? ⟨w.heap.size, 1, none⟩ = some (.slice a n cap) := (hB.cell (p := ⟨w.heap.size, 1, none⟩) (by simp)).trans (by simp)
    have hB' : Below w.heap.size w wr := hb0.trans (hB.mono (by omega))
    have zz : w.heap.size < wr.heap.size := by have := hB.size; simp at this; omega
    by_cases hlt' : k < n
    ·obtain ⟨b, off, rfl, hlt, hcc⟩ := hc (by omega)
     obtain ⟨h1, h2⟩ := hcc k hlt'
     have zb : b < wr.heap.size := by omega
     have g1 : wr.cell? ⟨b, off + k * 2, none⟩ = some (.int .i64 (f k)) := (hB'.cell (p := ⟨b, _, none⟩) hlt).trans h1
     have g2 : wr.cell? ⟨b, off + k * 2 + 1, none⟩ = some (.int .i64 (g k)) := (hB'.cell (p := ⟨b, _, none⟩) hlt).trans h2
     have x1 : ∀ o, (wr.alloc o).cell? ⟨w.heap.size, 0, none⟩ = some (.int .i64 base) := fun o => (((Below.refl _ wr).alloc (Nat.le_refl _) o).cell (p := ⟨w.heap.size, 0, none⟩) zz).trans x0
     have y1 : ∀ o, (wr.alloc o).cell? ⟨w.heap.size, 1, none⟩ = some (.slice (some ⟨b, off, none⟩) n cap) := fun o => (((Below.refl _ wr).alloc (Nat.le_refl _) o).cell (p := ⟨w.heap.size, 1, none⟩) zz).trans y0
     have i0 : (0 : Int) ≤ (k : Int) := by omega
     have i1 : (k : Int) < (n : Int) := by omega
     have HA : Hid (∀ j, j < k → catOk base f g j = true) := hall
     clear h1 h2 hc hc1 hb0 hall
     by_cases t1 : inB (f k) 1 9999 = true
     ·by_cases t3 : inB (g k) 0 3 = true
      ·by_cases t4 : (g k == base) = true
       ·have t4' : g k = base := by simpa using t4
        clear t4
        go_wp2_with fail
        go_quiet ((go_at_call 53; exact Calls.quiet_of_same (l1In_any _ _ _ _)))
        go_wp2
        go_ret
        exact ⟨ret_bool (labOk_at hlt' (catOk_n4 (by simpa using t4'))).symm, below_drewN (hB'.alloc (by omega) _) _⟩
       ·have t4' : (g k == base) = false := by simpa using t4
        clear t4
        by_cases k0 : k = 0
        ·have d0 : decide ((0 : Int) < (k : Int)) = false := by simp; omega
         have d1 : decide (0 < k) = false := by simp; omega
         have K0 : Hid (k = 0) := k0
         clear k0
         go_wp2_with fail
         go_quiet ((go_at_call 53; exact Calls.quiet_of_same (l1In_any _ _ _ _)))
         go_wp2
         go_roundw
         case rel =>
          refine ⟨k + 1, by omega, by go_num, fun j hj => ?_, below_drewN (hB.alloc (by omega) _) _⟩
          by_cases e : j = k
          ·subst e; exact catOk_y0 t1 t3 t4' (.inl K0.out)
          ·exact HA.out j (by omega)
         case measure => simp [intOf]; omega
        ·obtain ⟨m, rfl⟩ : ∃ m, k = m + 1 := ⟨k - 1, by omega⟩
         have d0 : (0 : Int) < ((m + 1 : Nat) : Int) := by omega
         have q1 : ∀ o, (wr.alloc o).cell? ⟨b, off + m * 2, none⟩ = some (.int .i64 (f m)) := fun o => (((Below.refl _ wr).alloc (Nat.le_refl _) o).cell (p := ⟨b, off + m * 2, none⟩) zb).trans ((hB'.cell (p := ⟨b, _, none⟩) hlt).trans (hcc m (by omega)).1)
         have j1 : ((m : Nat) : Int) < (n : Int) := by omega
         clear hcc
         by_cases t5 : f (m + 1) ≤ f m
         ·have d5 : decide (f (m + 1) ≤ f m) = true := by simpa using t5
          go_wp2_with fail
          go_quiet ((go_at_call 53; exact Calls.quiet_of_same (l1In_any _ _ _ _)))
          go_wp2
          go_ret
          exact ⟨ret_bool (labOk_at hlt' (catOk_n5 (by omega) t5)).symm, below_drewN (hB'.alloc (by omega) _) _⟩
         ·have d5 : decide (f (m + 1) ≤ f m) = false := by simpa using t5
          go_wp2_with fail
          go_quiet ((go_at_call 53; exact Calls.quiet_of_same (l1In_any _ _ _ _)))
          go_wp2
          go_roundw
          case rel =>
           refine ⟨m + 1 + 1, by omega, by go_num, fun j hj => ?_, below_drewN (hB.alloc (by omega) _) _⟩
           by_cases e : j = (m + 1)
           ·subst e; exact catOk_y0 t1 t3 t4' (.inr (by simpa using t5))
           ·exact HA.out j (by omega)
          case measure => simp [intOf]; omega
      ·have t3' : inB (g k) 0 3 = false := by simpa using t3
       clear t3
       go_wp2_with fail
       go_quiet ((go_at_call 53; exact Calls.quiet_of_same (l1In_any _ _ _ _)))
       go_wp2
       go_ret
       exact ⟨ret_bool (labOk_at hlt' (catOk_n3 t3')).symm, below_drewN (hB'.alloc (by omega) _) _⟩
     ·have t1' : inB (f k) 1 9999 = false := by simpa using t1
      clear t1
      go_wp2_with fail
      go_quiet ((go_at_call 53; exact Calls.quiet_of_same (l1In_any _ _ _ _)))
      go_wp2
      go_ret
      exact ⟨ret_bool (labOk_at hlt' (catOk_n1 t1')).symm, below_drewN (hB'.alloc (by omega) _) _⟩
    ·have HA : Hid (∀ j, j < k → catOk base f g j = true) := hall
     clear hall hc hc1
     go_wp2
     go_ret
     have e : k = n := by omega
     subst e
     exact ⟨ret_bool (labOk_mk hb (by omega) HA.out).symm, hB'⟩
 ·have hb' : inB base 0 3 = false := by simpa using hb
  clear hb
  go_enter Tryz.func55, Tryz.ntmps55
  go_wp2_with (go_at_call 53; refine (l1In_any _ _ _ _).mono ?_; rintro e w' ⟨rfl, rfl⟩)
  go_ret
  exact ⟨ret_bool (labOk_base hb').symm, (Below.refl _ _).alloc (Nat.le_refl _) _⟩
end Go.Proofs.YthbmfbnnemgbpaaGreatDoor
namespace Go.Proofs.YthbmfbnnemgbpaaGreatDoor
open Go.RowKit Go.Deep
def IntsAt (w : World) (a : Option Addr) (n : Nat) (h : Nat → Int) : Prop :=
 0 < n → ∃ b off, a = some ⟨b, off, none⟩ ∧ b < w.heap.size ∧ ∀ i, i < n → w.cell? ⟨b, off + i, none⟩ = some (.int .i64 (h i))
theorem IntsAt.below {w w' : World} {a : Option Addr} {n : Nat} {h : Nat → Int} (hc : IntsAt w a n h) (hb : Below w.heap.size w w') : IntsAt w' a n h := fun hn => by
 obtain ⟨b, off, rfl, hlt, hc⟩ := hc hn
 obtain ⟨h1, _⟩ := bcell hb
 exact ⟨b, off, rfl, Nat.lt_of_lt_of_le hlt hb.size, fun i hi => by rw [h1 _ _ hlt]; exact hc i hi⟩
theorem IntsAt.row {w : World} {b n : Nat} {t : TypeId} {h : Nat → Int} (hr : w.rowIs b t n (fun i => .int .i64 (h i))) : IntsAt w (some ⟨b, 0, none⟩) n h := fun _ =>
 ⟨b, 0, rfl, hr.lt, fun i hi => by rw [Nat.zero_add]; exact hr.cell hi⟩
theorem Tryz.info2 : (Tryz.prog.info? 2).map (fun i => (i.zero, i.size, i.bytes)) = some (some (.int .i64 0), 1, 8) := by kernel_rfl
end Go.Proofs.YthbmfbnnemgbpaaGreatDoor
namespace Go.Proofs.YthbmfbnnemgbpaaGreatDoor
open Go.RowKit Go.Deep
def ownAt (h : Nat → Int) (i : Nat) : Bool := inB (h i) 1 9999 && (i == 0 || decide (h (i - 1) < h i))
def ownOk (n : Nat) (h : Nat → Int) : Bool := decide (n ≤ 10) && (List.range n).all (ownAt h)
theorem ownOk_at {n k : Nat} {h : Nat → Int} (hk : k < n) (e : ownAt h k = false) : ownOk n h = false := by
 have : (List.range n).all (ownAt h) = false := by
  rw [List.all_eq_false]; exact ⟨k, List.mem_range.2 hk, by simp [e]⟩
 simp [ownOk, this]
theorem ownOk_all {n : Nat} {h : Nat → Int} (e : ∀ i, i < n → ownAt h i = true) : ownOk n h = decide (n ≤ 10) := by
 have : (List.range n).all (ownAt h) = true := by
  rw [List.all_eq_true]; intro i hi; exact e i (List.mem_range.1 hi)
 simp [ownOk, this]
theorem ownAt_n1 {h : Nat → Int} {k : Nat} (e : inB (h k) 1 9999 = false) : ownAt h k = false := by simp [ownAt, e]
theorem ownAt_n5 {h : Nat → Int} {k : Nat} (h0 : 0 < k) (e : h k ≤ h (k - 1)) : ownAt h k = false := by
 have e0 : ¬ k = 0 := by omega
 have : decide (h (k - 1) < h k) = false := by simp; omega
 simp [ownAt, e0, this]
theorem ownAt_y0 {h : Nat → Int} {k : Nat} (h1 : inB (h k) 1 9999 = true) (e : k = 0 ∨ h (k - 1) < h k) : ownAt h k = true := by
 rcases e with e | e <;> simp_all [ownAt]
set_option maxHeartbeats 1000000 in
theorem l2Owns_any (a : Option Addr) (n cap : Nat) (h : Nat → Int) (w : World) (hn : n ≤ maxLen) (hc : IntsAt w a n h) :
 Calls Tryz.prog 86 #[.slice a n cap] w fun e w' => e = .returned (.bool (ownOk n h)) ∧ Below w.heap.size w w' := by
 unfold maxLen at hn
 go_enter Tryz.func86, Tryz.ntmps86
 go_wp2
 go_loopw [3] (fun i wr => ∃ k : Nat, k ≤ n ∧ i = .int .i64 k ∧ (∀ j, j < k → ownAt h j = true) ∧ Below w.heap.size w wr) (fun i _ => n - (intOf i).toNat)
 case atStart => exact ⟨0, Nat.zero_le _, rfl, fun j hj => by omega, Below.refl _ _⟩
 case round =>
  obtain ⟨k, hk, rfl, hall, hB⟩ := hrel
  have HA : Hid (∀ j, j < k → ownAt h j = true) := hall
  clear hall
  by_cases hlt' : k < n
  ·obtain ⟨b, off, rfl, hlt, hcc⟩ := hc (by omega)
   have g1 : wr.cell? ⟨b, off + k, none⟩ = some (.int .i64 (h k)) := (hB.cell (p := ⟨b, _, none⟩) hlt).trans (hcc k hlt')
   have i0 : (0 : Int) ≤ (k : Int) := by omega
   have i1 : (k : Int) < (n : Int) := by omega
   clear hc
   by_cases t1 : inB (h k) 1 9999 = true
   ·by_cases k0 : k = 0
    ·have d0 : decide ((0 : Int) < (k : Int)) = false := by simp; omega
     have d1 : decide (0 < k) = false := by simp; omega
     have K0 : Hid (k = 0) := k0
     clear k0 hcc
     go_wp2_with fail
     go_quiet ((go_at_call 53; exact Calls.quiet_of_same (l1In_any _ _ _ _)))
     go_wp2
     go_roundw
     case rel =>
      refine ⟨k + 1, by omega, by go_num, fun j hj => ?_, below_drewN hB _⟩
      by_cases e : j = k
      ·subst e; exact ownAt_y0 t1 (.inl K0.out)
      ·exact HA.out j (by omega)
     case measure => simp [intOf]; omega
    ·obtain ⟨m, rfl⟩ : ∃ m, k = m + 1 := ⟨k - 1, by omega⟩
     have d0 : (0 : Int) < ((m + 1 : Nat) : Int) := by omega
     have q1 : wr.cell? ⟨b, off + m, none⟩ = some (.int .i64 (h m)) := (hB.cell (p := ⟨b, _, none⟩) hlt).trans (hcc m (by omega))
     have j1 : ((m : Nat) : Int) < (n : Int) := by omega
     clear hcc
     by_cases t5 : h (m + 1) ≤ h m
     ·have d5 : decide (h (m + 1) ≤ h m) = true := by simpa using t5
      go_wp2_with fail
      go_quiet ((go_at_call 53; exact Calls.quiet_of_same (l1In_any _ _ _ _)))
      go_wp2
      go_ret
      exact ⟨ret_bool (ownOk_at hlt' (ownAt_n5 (by omega) t5)).symm, below_drewN hB _⟩
     ·have d5 : decide (h (m + 1) ≤ h m) = false := by simpa using t5
      go_wp2_with fail
      go_quiet ((go_at_call 53; exact Calls.quiet_of_same (l1In_any _ _ _ _)))
      go_wp2
      go_roundw
      case rel =>
       refine ⟨m + 1 + 1, by omega, by go_num, fun j hj => ?_, below_drewN hB _⟩
       by_cases e : j = m + 1
       ·subst e; exact ownAt_y0 t1 (.inr (by simpa using t5))
       ·exact HA.out j (by omega)
      case measure => simp [intOf]; omega
   ·have t1' : inB (h k) 1 9999 = false := by simpa using t1
    clear t1 hcc
    go_wp2_with fail
    go_quiet ((go_at_call 53; exact Calls.quiet_of_same (l1In_any _ _ _ _)))
    go_wp2
    go_ret
    exact ⟨ret_bool (ownOk_at hlt' (ownAt_n1 t1')).symm, below_drewN hB _⟩
  ·clear hc
   go_wp2
   go_ret
   have e : k = n := by omega
   subst e
   exact ⟨ret_bool (by rw [ownOk_all HA.out]; exact decide_eq_decide.2 (by omega)), hB⟩
end Go.Proofs.YthbmfbnnemgbpaaGreatDoor
namespace Go.Proofs.YthbmfbnnemgbpaaGreatDoor
open Go.RowKit Go.Deep
def thrOk (id made b1 : Int) (n1 : Nat) (f1 g1 : Nat → Int) (b2 : Int) (n2 : Nat) (f2 g2 : Nat → Int) (n3 : Nat) (h : Nat → Int) : Bool :=
 inB id 1 9 && labOk b1 n1 f1 g1 && labOk b2 n2 f2 g2 && ownOk n3 h && inB made 0 30
set_option maxHeartbeats 1000000 in
theorem specThr_any (id made b1 : Int) (a1 : Option Addr) (n1 k1 : Nat) (f1 g1 : Nat → Int) (b2 : Int) (a2 : Option Addr) (n2 k2 : Nat) (f2 g2 : Nat → Int) (a3 : Option Addr) (n3 k3 : Nat) (h : Nat → Int) (w : World)
 (hn1 : n1 ≤ maxLen) (hn2 : n2 ≤ maxLen) (hn3 : n3 ≤ maxLen) (hc1 : CatsAt w a1 n1 f1 g1) (hc2 : CatsAt w a2 n2 f2 g2) (hc3 : IntsAt w a3 n3 h) :
 Calls Tryz.prog 72 #[.agg #[.int .i64 id, .int .i64 b1, .slice a1 n1 k1, .int .i64 b2, .slice a2 n2 k2, .slice a3 n3 k3, .int .i64 made]] w fun e w' => e = .returned (.bool (thrOk id made b1 n1 f1 g1 b2 n2 f2 g2 n3 h)) ∧ Below w.heap.size w w' := by
 have hb0 := (Below.refl _ w).alloc (Nat.le_refl _) (.cells #[.int .i64 id, .int .i64 b1, .slice a1 n1 k1, .int .i64 b2, .slice a2 n2 k2, .slice a3 n3 k3, .int .i64 made] 79)
 have C1 := hc1.below hb0
 have C2 := hc2.below hb0
 have C3 := hc3.below hb0
 clear hc1 hc2 hc3
 by_cases t0 : inB id 1 9 = true
 ·skip
  go_enter Tryz.func72, Tryz.ntmps72
  go_wp2_with (go_at_call 53; refine (l1In_any _ _ _ _).mono ?_; rintro e w' ⟨rfl, rfl⟩)
  refine (specOk_any _ _ _ _ f1 g1 _ hn1 C1).mono ?_
  rintro e w1 ⟨rfl, hb1⟩
  obtain ⟨q1, _⟩ := bcell hb1
  have z1 : w.heap.size < w1.heap.size := by have := hb1.size; simp at this; omega
  have B1 : Below w.heap.size w w1 := hb0.trans (hb1.mono (by simp))
  by_cases t1 : labOk b1 n1 f1 g1 = true
  ·go_wp2_with fail
   refine (specOk_any _ _ _ _ f2 g2 _ hn2 (C2.below hb1)).mono ?_
   rintro e w2 ⟨rfl, hb2⟩
   obtain ⟨q2, _⟩ := bcell hb2
   have z2 : w.heap.size < w2.heap.size := by have := hb2.size; omega
   have B2 : Below w.heap.size w w2 := B1.trans (hb2.mono (by omega))
   by_cases t2 : labOk b2 n2 f2 g2 = true
   ·go_wp2_with fail
    refine (l2Owns_any _ _ _ h _ hn3 ((C3.below hb1).below hb2)).mono ?_
    rintro e w3 ⟨rfl, hb3⟩
    obtain ⟨q3, _⟩ := bcell hb3
    have z3 : w.heap.size < w3.heap.size := by have := hb3.size; omega
    have B3 : Below w.heap.size w w3 := B2.trans (hb3.mono (by omega))
    by_cases t3 : ownOk n3 h = true
    ·go_wp2_with (go_at_call 53; refine (l1In_any _ _ _ _).mono ?_; rintro e w' ⟨rfl, rfl⟩)
     go_ret
     exact ⟨ret_bool (by simp [thrOk, t0, t1, t2, t3]), B3⟩
    ·have t3' : ownOk n3 h = false := by simpa using t3
     clear t3
     go_wp2
     go_ret
     exact ⟨ret_bool (by simp [thrOk, t3']), B3⟩
   ·have t2' : labOk b2 n2 f2 g2 = false := by simpa using t2
    clear t2
    go_wp2
    go_ret
    exact ⟨ret_bool (by simp [thrOk, t2']), B2⟩
  ·have t1' : labOk b1 n1 f1 g1 = false := by simpa using t1
   clear t1
   go_wp2
   go_ret
   exact ⟨ret_bool (by simp [thrOk, t1']), B1⟩
 ·have t0' : inB id 1 9 = false := by simpa using t0
  clear t0
  go_enter Tryz.func72, Tryz.ntmps72
  go_wp2_with (go_at_call 53; refine (l1In_any _ _ _ _).mono ?_; rintro e w' ⟨rfl, rfl⟩)
  go_ret
  exact ⟨ret_bool (by simp [thrOk, t0']), hb0⟩
end Go.Proofs.YthbmfbnnemgbpaaGreatDoor
namespace Go.Proofs.YthbmfbnnemgbpaaGreatDoor
open Go.RowKit Go.Deep
end Go.Proofs.YthbmfbnnemgbpaaGreatDoor
namespace Go.Proofs.YthbmfbnnemgbpaaGreatDoor
open Go.RowKit Go.Deep
def Blk (W : World) (P : Nat) (o : Obj) : Prop := W.heap[P]? = some o
theorem Blk.new (W : World) (o : Obj) : Blk (W.alloc o) W.heap.size o := blk_alloc_new _ _
theorem Blk.lt {W : World} {P : Nat} {o : Obj} (h : Blk W P o) : P < W.heap.size := (Array.getElem?_eq_some_iff.1 h).1
theorem Blk.alloc {W : World} {P : Nat} {o : Obj} (h : Blk W P o) (o' : Obj) : Blk (W.alloc o') P o := (blk_alloc_lt _ _ _ h.lt).trans h
theorem Blk.below {W W' : World} {P : Nat} {o : Obj} (h : Blk W P o) (hb : Below W.heap.size W W') : Blk W' P o := (hb.block P h.lt).trans h
theorem Blk.two {W : World} {P t : Nat} {x y : Value} (h : Blk W P (.cells #[x, y] t)) : W.cell? ⟨P, 0, none⟩ = some x ∧ W.cell? ⟨P, 1, none⟩ = some y := by
 unfold Blk at h
 simp [World.cell?, h]
end Go.Proofs.YthbmfbnnemgbpaaGreatDoor
namespace Go.Proofs.YthbmfbnnemgbpaaGreatDoor
open Go.RowKit Go.Deep
theorem hid {p : Prop} (h : p) : Hid p := h
theorem then_ {w a b : World} (h : Below w.heap.size w a) (k : Below a.heap.size a b) : Below w.heap.size w b := h.trans (k.mono h.size)
structure CatL where
 a : Option Addr
 n : Nat
 k : Nat
 f : Nat → Int
 g : Nat → Int
structure IntL where
 a : Option Addr
 n : Nat
 k : Nat
 h : Nat → Int
def CatL.at (w : World) (c : CatL) : Prop := c.n ≤ maxLen ∧ CatsAt w c.a c.n c.f c.g
def IntL.at (w : World) (c : IntL) : Prop := c.n ≤ maxLen ∧ IntsAt w c.a c.n c.h
def CatL.val (c : CatL) : Value := .slice c.a c.n c.k
def IntL.val (c : IntL) : Value := .slice c.a c.n c.k
structure ThrV where
 id : Int
 b1 : Int
 c1 : CatL
 b2 : Int
 c2 : CatL
 own : IntL
 made : Int
def ThrV.val (t : ThrV) : Value := .agg #[.int .i64 t.id, .int .i64 t.b1, t.c1.val, .int .i64 t.b2, t.c2.val, t.own.val, .int .i64 t.made]
def ThrV.at (w : World) (t : ThrV) : Prop := t.c1.at w ∧ t.c2.at w ∧ t.own.at w
theorem CatL.at.below {w w' : World} {c : CatL} (h : c.at w) (hb : Below w.heap.size w w') : c.at w' := ⟨h.1, h.2.below hb⟩
theorem IntL.at.below {w w' : World} {c : IntL} (h : c.at w) (hb : Below w.heap.size w w') : c.at w' := ⟨h.1, h.2.below hb⟩
theorem ThrV.at.below {w w' : World} {t : ThrV} (h : t.at w) (hb : Below w.heap.size w w') : t.at w' := ⟨h.1.below hb, h.2.1.below hb, h.2.2.below hb⟩
structure Cells7 (w : World) (b o : Nat) (t : ThrV) : Prop where
 c0 : w.cell? ⟨b, o, none⟩ = some (.int .i64 t.id)
 c1 : w.cell? ⟨b, o + 1, none⟩ = some (.int .i64 t.b1)
 c2 : w.cell? ⟨b, o + 2, none⟩ = some t.c1.val
 c3 : w.cell? ⟨b, o + 3, none⟩ = some (.int .i64 t.b2)
 c4 : w.cell? ⟨b, o + 4, none⟩ = some t.c2.val
 c5 : w.cell? ⟨b, o + 5, none⟩ = some t.own.val
 c6 : w.cell? ⟨b, o + 6, none⟩ = some (.int .i64 t.made)
theorem Cells7.below {w w' : World} {b o : Nat} {t : ThrV} (h : Cells7 w b o t) (hl : b < w.heap.size) (hb : Below w.heap.size w w') : Cells7 w' b o t :=
 ⟨(hb.cell (p := ⟨b, o, none⟩) hl).trans h.c0, (hb.cell (p := ⟨b, o + 1, none⟩) hl).trans h.c1, (hb.cell (p := ⟨b, o + 2, none⟩) hl).trans h.c2, (hb.cell (p := ⟨b, o + 3, none⟩) hl).trans h.c3, (hb.cell (p := ⟨b, o + 4, none⟩) hl).trans h.c4, (hb.cell (p := ⟨b, o + 5, none⟩) hl).trans h.c5, (hb.cell (p := ⟨b, o + 6, none⟩) hl).trans h.c6⟩
def ThrsAt (w : World) (a : Option Addr) (n : Nat) (T : Nat → ThrV) : Prop :=
 0 < n → ∃ b off, a = some ⟨b, off, none⟩ ∧ b < w.heap.size ∧ ∀ i, i < n → Cells7 w b (off + i * 7) (T i) ∧ (T i).at w
theorem ThrsAt.below {w w' : World} {a : Option Addr} {n : Nat} {T : Nat → ThrV} (h : ThrsAt w a n T) (hb : Below w.heap.size w w') : ThrsAt w' a n T := fun hn => by
 obtain ⟨b, off, e, hlt, hc⟩ := h hn
 exact ⟨b, off, e, Nat.lt_of_lt_of_le hlt hb.size, fun i hi => ⟨(hc i hi).1.below hlt hb, (hc i hi).2.below hb⟩⟩
def ThrV.small (t : ThrV) : Prop := t.c1.n ≤ 1048576 ∧ t.c2.n ≤ 1048576 ∧ t.own.n ≤ 1048576
end Go.Proofs.YthbmfbnnemgbpaaGreatDoor
namespace Go.Proofs.YthbmfbnnemgbpaaGreatDoor
open Go.RowKit Go.Deep
def StrAt (w : World) (a : Option Addr) (n : Nat) (f : Nat → ByteArray) : Prop := 0 < n → ∃ b off, a = some ⟨b, off, none⟩ ∧ b < w.heap.size ∧ ∀ i, i < n → w.cell? ⟨b, off + i, none⟩ = some (.string (f i))
theorem StrAt.below {w w' : World} {a : Option Addr} {n : Nat} {f : Nat → ByteArray} (h : StrAt w a n f) (hb : Below w.heap.size w w') : StrAt w' a n f := fun hn => by
 obtain ⟨b, off, e, hlt, hc⟩ := h hn
 exact ⟨b, off, e, Nat.lt_of_lt_of_le hlt hb.size, fun i hi => (hb.cell (p := ⟨b, off + i, none⟩) hlt).trans (hc i hi)⟩
structure StrL where
 a : Option Addr
 n : Nat
 k : Nat
 f : Nat → ByteArray
def StrL.at (w : World) (c : StrL) : Prop := c.n ≤ maxLen ∧ StrAt w c.a c.n c.f ∧ ∀ i, i < c.n → (c.f i).size ≤ maxLen
def StrL.val (c : StrL) : Value := .slice c.a c.n c.k
theorem StrL.at.below {w w' : World} {c : StrL} (h : c.at w) (hb : Below w.heap.size w w') : c.at w' := ⟨h.1, h.2.1.below hb, h.2.2⟩
def StrL.small (c : StrL) : Prop := c.n ≤ 1048576 ∧ ∀ i, i < c.n → (c.f i).size ≤ 1048576
structure ObjV where
 id : Int
 kind : Int
 up : Int
 b1 : Int
 c1 : CatL
 data : ByteArray
 items : StrL
 own : IntL
 b2 : Int
 c2 : CatL
def ObjV.val (t : ObjV) : Value := .agg #[.int .i64 t.id, .int .i64 t.kind, .int .i64 t.up, .int .i64 t.b1, t.c1.val, .string t.data, t.items.val, t.own.val, .int .i64 t.b2, t.c2.val]
def ObjV.at (w : World) (t : ObjV) : Prop := t.c1.at w ∧ t.items.at w ∧ t.own.at w ∧ t.c2.at w ∧ t.data.size ≤ maxLen
theorem ObjV.at.below {w w' : World} {t : ObjV} (h : t.at w) (hb : Below w.heap.size w w') : t.at w' := ⟨h.1.below hb, h.2.1.below hb, h.2.2.1.below hb, h.2.2.2.1.below hb, h.2.2.2.2⟩
def ObjV.small (t : ObjV) : Prop := t.c1.n ≤ 1048576 ∧ t.data.size ≤ 1048576 ∧ t.items.small ∧ t.own.n ≤ 1048576 ∧ t.c2.n ≤ 1048576
structure Cells10 (w : World) (b o : Nat) (t : ObjV) : Prop where
 c0 : w.cell? ⟨b, o, none⟩ = some (.int .i64 t.id)
 c1 : w.cell? ⟨b, o + 1, none⟩ = some (.int .i64 t.kind)
 c2 : w.cell? ⟨b, o + 2, none⟩ = some (.int .i64 t.up)
 c3 : w.cell? ⟨b, o + 3, none⟩ = some (.int .i64 t.b1)
 c4 : w.cell? ⟨b, o + 4, none⟩ = some t.c1.val
 c5 : w.cell? ⟨b, o + 5, none⟩ = some (.string t.data)
 c6 : w.cell? ⟨b, o + 6, none⟩ = some t.items.val
 c7 : w.cell? ⟨b, o + 7, none⟩ = some t.own.val
 c8 : w.cell? ⟨b, o + 8, none⟩ = some (.int .i64 t.b2)
 c9 : w.cell? ⟨b, o + 9, none⟩ = some t.c2.val
theorem Cells10.below {w w' : World} {b o : Nat} {t : ObjV} (h : Cells10 w b o t) (hl : b < w.heap.size) (hb : Below w.heap.size w w') : Cells10 w' b o t :=
 ⟨(hb.cell (p := ⟨b, o, none⟩) hl).trans h.c0, (hb.cell (p := ⟨b, o + 1, none⟩) hl).trans h.c1, (hb.cell (p := ⟨b, o + 2, none⟩) hl).trans h.c2, (hb.cell (p := ⟨b, o + 3, none⟩) hl).trans h.c3, (hb.cell (p := ⟨b, o + 4, none⟩) hl).trans h.c4, (hb.cell (p := ⟨b, o + 5, none⟩) hl).trans h.c5, (hb.cell (p := ⟨b, o + 6, none⟩) hl).trans h.c6, (hb.cell (p := ⟨b, o + 7, none⟩) hl).trans h.c7, (hb.cell (p := ⟨b, o + 8, none⟩) hl).trans h.c8, (hb.cell (p := ⟨b, o + 9, none⟩) hl).trans h.c9⟩
def ObjsAt (w : World) (a : Option Addr) (n : Nat) (T : Nat → ObjV) : Prop :=
 0 < n → ∃ b off, a = some ⟨b, off, none⟩ ∧ b < w.heap.size ∧ ∀ i, i < n → Cells10 w b (off + i * 10) (T i) ∧ (T i).at w
theorem ObjsAt.below {w w' : World} {a : Option Addr} {n : Nat} {T : Nat → ObjV} (h : ObjsAt w a n T) (hb : Below w.heap.size w w') : ObjsAt w' a n T := fun hn => by
 obtain ⟨b, off, e, hlt, hc⟩ := h hn
 exact ⟨b, off, e, Nat.lt_of_lt_of_le hlt hb.size, fun i hi => ⟨(hc i hi).1.below hlt hb, (hc i hi).2.below hb⟩⟩
theorem Blk.ten {W : World} {P t : Nat} {x0 x1 x2 x3 x4 x5 x6 x7 x8 x9 : Value} (h : Blk W P (.cells #[x0, x1, x2, x3, x4, x5, x6, x7, x8, x9] t)) : W.cell? ⟨P, 0, none⟩ = some x0 ∧ W.cell? ⟨P, 1, none⟩ = some x1 ∧ W.cell? ⟨P, 2, none⟩ = some x2 ∧ W.cell? ⟨P, 3, none⟩ = some x3 ∧ W.cell? ⟨P, 4, none⟩ = some x4 ∧ W.cell? ⟨P, 5, none⟩ = some x5 ∧ W.cell? ⟨P, 6, none⟩ = some x6 ∧ W.cell? ⟨P, 7, none⟩ = some x7 ∧ W.cell? ⟨P, 8, none⟩ = some x8 ∧ W.cell? ⟨P, 9, none⟩ = some x9 := by
 unfold Blk at h
 simp [World.cell?, h]
def ObjV.cells (t : ObjV) : Array Value := #[.int .i64 t.id, .int .i64 t.kind, .int .i64 t.up, .int .i64 t.b1, t.c1.val, .string t.data, t.items.val, t.own.val, .int .i64 t.b2, t.c2.val]
structure KerV where
 ta : Option Addr
 tn : Nat
 tk : Nat
 T : Nat → ThrV
 oa : Option Addr
 on : Nat
 ok : Nat
 O : Nat → ObjV
def KerV.val (k : KerV) : Value := .agg #[.slice k.ta k.tn k.tk, .slice k.oa k.on k.ok]
def KerV.at (w : World) (k : KerV) : Prop := k.tn ≤ maxLen ∧ k.on ≤ maxLen ∧ ThrsAt w k.ta k.tn k.T ∧ ObjsAt w k.oa k.on k.O
theorem KerV.at.below {w w' : World} {k : KerV} (h : k.at w) (hb : Below w.heap.size w w') : k.at w' := ⟨h.1, h.2.1, h.2.2.1.below hb, h.2.2.2.below hb⟩
def KerV.small (k : KerV) : Prop := (k.tn ≤ 1048576 ∧ ∀ i, i < k.tn → (k.T i).small) ∧ (k.on ≤ 1048576 ∧ ∀ i, i < k.on → (k.O i).small)
end Go.Proofs.YthbmfbnnemgbpaaGreatDoor
namespace Go.Proofs.YthbmfbnnemgbpaaGreatDoor
open Go.RowKit Go.Deep
def byteOk (b : UInt8) : Bool := decide (32 ≤ b.toNat) && decide (b.toNat ≤ 126)
def plainB (s : ByteArray) (most : Int) : Bool := s.data.toList.all byteOk && decide ((s.size : Int) ≤ most)
theorem plain_at {s : ByteArray} {most : Int} {k : Nat} (h : k < s.size) (hb : byteOk s[k] = false) : plainB s most = false := by
 have : s.data.toList.all byteOk = false := by
  rw [List.all_eq_false]
  exact ⟨s[k], Array.getElem_mem_toList h, by simp [hb]⟩
 simp [plainB, this]
theorem plain_all {s : ByteArray} {most : Int} (h : ∀ (k : Nat) (hk : k < s.size), byteOk s[k] = true) : plainB s most = decide ((s.size : Int) ≤ most) := by
 have : s.data.toList.all byteOk = true := by
  rw [List.all_eq_true]
  intro b hb
  obtain ⟨k, hk, rfl⟩ := List.getElem_of_mem hb
  have hk' : k < s.size := by simpa using hk
  have := h k hk'
  have e : s[k] = s.data.toList[k] := rfl
  rw [e] at this
  exact this
 simp [plainB, this]
theorem byteOk_lo {b : UInt8} (h : (b.toNat : Int) < 32) : byteOk b = false := by
 have : ¬ 32 ≤ b.toNat := by omega
 simp [byteOk, this]
theorem byteOk_hi {b : UInt8} (h : 126 < (b.toNat : Int)) : byteOk b = false := by
 have : ¬ b.toNat ≤ 126 := by omega
 simp [byteOk, this]
theorem byteOk_yes {b : UInt8} (h1 : 32 ≤ (b.toNat : Int)) (h2 : (b.toNat : Int) ≤ 126) : byteOk b = true := by
 have e1 : 32 ≤ b.toNat := by omega
 have e2 : b.toNat ≤ 126 := by omega
 simp [byteOk, e1, e2]
set_option maxHeartbeats 1000000 in
theorem l3Plain_any (s : ByteArray) (most : Int) (w : World) (hn : s.size ≤ maxLen) :
 Calls Tryz.prog 56 #[.string s, .int .i64 most] w fun e w' => e = .returned (.bool (plainB s most)) ∧ w' = w := by
 unfold maxLen at hn
 go_enter Tryz.func56, Tryz.ntmps56
 go_wp2
 go_loop [5] (fun i => ∃ k : Nat, k ≤ s.size ∧ i = .int .i64 k ∧ (∀ (j : Nat) (hj : j < s.size), j < k → byteOk s[j] = true)) (fun i => s.size - (intOf i).toNat)
 case atStart => exact ⟨0, Nat.zero_le _, rfl, fun j _ hj => by omega⟩
 case round =>
  obtain ⟨k, hk, rfl, hall⟩ := hrel
  have HA : Hid (∀ (j : Nat) (hj : j < s.size), j < k → byteOk s[j] = true) := hall
  clear hall
  by_cases hlt : k < s.size
  ·have hki : (k : Int) < (s.size : Int) := by omega
   go_wp2
   ·go_ret
    rename_i h1 h2 _
    refine ⟨ret_bool (plain_at hlt ?_).symm, rfl⟩
    rcases h2 with h2 | h2
    ·exact byteOk_lo h2
    ·exact byteOk_hi h2
   ·rename_i h1 h2
    go_round
    case rel =>
     refine ⟨k + 1, by omega, by go_num, fun j hj hjk => ?_⟩
     by_cases e : j = k
     ·subst e; exact byteOk_yes h2.1 h2.2
     ·exact HA.out j hj (by omega)
    case measure => simp [intOf]; omega
   ·go_ret
    rename_i h1
    exact ⟨ret_bool (plain_at hlt (byteOk_lo h1)).symm, rfl⟩
  ·have hki : ¬ (k : Int) < (s.size : Int) := by omega
   go_wp2
   go_ret
   exact ⟨ret_bool (plain_all (fun j hj => HA.out j hj (by omega))).symm, rfl⟩
theorem bytesWorld_below (w : World) (e : TypeId) (s : ByteArray) : Below w.heap.size w (Lib.bytesWorld w e s) :=
 ⟨rfl, rfl, rfl, by rw [Lib.bytesWorld_size]; omega, fun k hk => Lib.bytesWorld_at_old w e s k hk⟩
set_option maxHeartbeats 1000000 in
theorem isData_any (s : ByteArray) (w : World) (hn : s.size ≤ maxLen) :
 Calls Tryz.prog 27 #[.string s] w fun e w' => e = .returned (.bool (plainB s 40)) ∧ Below w.heap.size w w' := by
 unfold maxLen at hn
 by_cases h40 : 40 < s.size
 ·have h40' : (40 : Int) < (s.size : Int) := by omega
  go_enter Tryz.func27, Tryz.ntmps27
  go_wp2
  go_ret
  have : ¬ (s.size : Int) ≤ 40 := by omega
  exact ⟨ret_bool (by simp [plainB, this]), Below.refl _ _⟩
 ·have h40' : (s.size : Int) ≤ 40 := by omega
  have kc := fun (w : World) (s : ByteArray) => Lib.run_convert_string_bytes (P := Tryz.prog) w 9 22 5 s Tryz.underlying9 Tryz.underlying22 Tryz.underlying5
  go_enter Tryz.func27, Tryz.ntmps27
  go_wp2_with fail
  have hB := bytesWorld_below w 5 s
  have hcell : ∀ (j : Nat) (hj : j < s.size), (Lib.bytesWorld w 5 s).cell? ⟨w.heap.size, j, none⟩ = some (.int .u8 (s[j].toNat : Int)) := fun j hj => by
   rw [Lib.bytesWorld_cell w 5 s j hj]
   have e : s.data.toList.getD j 0 = s[j] := by
    have hj' : j < s.data.toList.length := by simpa using hj
    rw [List.getD_eq_getElem?_getD, List.getElem?_eq_getElem hj']
    rfl
   rw [e]
  generalize Lib.bytesWorld w 5 s = W at *
  generalize grownCap w s.size 0 5 = cp at *
  go_loop [11] (fun i => ∃ k : Nat, k ≤ s.size ∧ i = .int .i64 k ∧ (∀ (j : Nat) (hj : j < s.size), j < k → byteOk s[j] = true)) (fun i => s.size - (intOf i).toNat)
  case atStart => exact ⟨0, Nat.zero_le _, rfl, fun j _ hj => by omega⟩
  case round =>
   obtain ⟨k, hk, rfl, hall⟩ := hrel
   have HA : Hid (∀ (j : Nat) (hj : j < s.size), j < k → byteOk s[j] = true) := hall
   clear hall
   by_cases hlt : k < s.size
   ·have hki : (k : Int) < (s.size : Int) := by omega
    have hc := hcell k hlt
    clear hcell
    go_wp2
    ·go_ret
     rename_i h1 h2 _
     refine ⟨ret_bool (plain_at hlt ?_).symm, hB⟩
     rcases h2 with h2 | h2
     ·exact byteOk_lo h2
     ·exact byteOk_hi h2
    ·rename_i h1 h2
     go_round
     case rel =>
      refine ⟨k + 1, by omega, by go_num, fun j hj hjk => ?_⟩
      by_cases e : j = k
      ·subst e; exact byteOk_yes h2.1 h2.2
      ·exact HA.out j hj (by omega)
     case measure => simp [intOf]; omega
    ·go_ret
     rename_i h1
     exact ⟨ret_bool (plain_at hlt (byteOk_lo h1)).symm, hB⟩
   ·have hki : ¬ (k : Int) < (s.size : Int) := by omega
    clear hcell
    go_wp2
    go_ret
    exact ⟨ret_bool (by rw [plain_all (fun j hj => HA.out j hj (by omega))]; simpa using h40'), hB⟩
end Go.Proofs.YthbmfbnnemgbpaaGreatDoor
namespace Go.Proofs.YthbmfbnnemgbpaaGreatDoor
open Go.RowKit Go.Deep
def zeroB (base : Int) (n : Nat) : Bool := (base == 0) && (n == 0)
def uId (kind : Int) : Bool := kind == 2 || kind == 3 || kind == 4 || kind == 5 || kind == 6 || kind == 7 || kind == 8 || kind == 9 || kind == 10 || kind == 11 || kind == 13 || kind == 15
def uTo (kind : Int) : Bool := kind == 8
def uCat (kind : Int) : Bool := kind == 5 || kind == 14
def uData (kind : Int) : Bool := kind == 6 || kind == 9
def uLabel (kind : Int) : Bool := kind == 2 || kind == 3 || kind == 4 || kind == 5 || kind == 12
def uClear (kind : Int) : Bool := kind == 5
def uOk (kind : Int) : Bool := kind == 1 || kind == 2 || kind == 3 || kind == 4 || kind == 5 || kind == 6 || kind == 7 || kind == 8 || kind == 9 || kind == 10 || kind == 11 || kind == 12 || kind == 13 || kind == 14 || kind == 15
def numB (n : Int) (used : Bool) : Bool := if used then inB n 1 9030 else n == 0
def catB (kind cat : Int) (used : Bool) : Bool := if cat == 0 then kind != 14 else used && inB cat 1 9999
theorem isZero_any (base : Int) (a : Option Addr) (n cap : Nat) (w : World) (hn : n ≤ maxLen) :
 Calls Tryz.prog 26 #[.agg #[.int .i64 base, .slice a n cap]] w fun e w' => e = .returned (.bool (zeroB base n)) ∧ Below w.heap.size w w' := by
 unfold maxLen at hn
 have hb0 := (Below.refl _ w).alloc (Nat.le_refl _) (.cells #[.int .i64 base, .slice a n cap] 26)
 cases t : (base == 0) with
 | true =>
  go_enter Tryz.func26, Tryz.ntmps26
  go_wp2
  go_ret
  refine ⟨ret_bool ?_, hb0⟩
  unfold zeroB
  rw [t, Bool.true_and]
  by_cases e : n = 0
  ·subst e; rfl
  ·have e1 : (n == 0) = false := by simpa using e
   rw [e1]
   simp
   omega
 | false =>
  go_enter Tryz.func26, Tryz.ntmps26
  go_wp2
  go_ret
  exact ⟨ret_bool (by simp [zeroB, t]), hb0⟩
end Go.Proofs.YthbmfbnnemgbpaaGreatDoor
