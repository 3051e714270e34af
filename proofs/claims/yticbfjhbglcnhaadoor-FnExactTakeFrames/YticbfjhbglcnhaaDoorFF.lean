/- The walk of FnExactTakeFrames. -/
import Derived.Test.YticbfjhbglcnhaaDoorFE
namespace Go.Proofs.YticbfjhbglcnhaaDoor
open Go Go.RowKit Go.Deep Go.Maps Go.BigFrame

theorem farS {w : World} {a : Option Addr} {n b : Nat} {f : Nat → ByteArray} (H : StrAt w a n f) (hb : w.heap.size ≤ b) : 0 < n → ∀ p : Addr, a = some p → p.block ≠ b := fun hn p hp => by
  obtain ⟨b', off, e, hlt, _⟩ := H hn
  rw [e] at hp
  have := Option.some.inj hp
  rw [← this]
  show b' ≠ b
  omega
theorem st_le (s : ByteArray) (m : Nat) : (st s m).1.length ≤ (st s m).2 ∧ (st s m).2 ≤ s.size := by
  induction m with
  | zero => simp [st]
  | succ m ih =>
    by_cases h : isFr s (st s m).2
    · rw [st_next h]
      have := h.2.2.1
      simp only [List.length_append, List.length_cons, List.length_nil]
      omega
    · rw [show st s (m + 1) = st s m from if_neg h]
      exact ih

set_option maxRecDepth 100000 in
set_option maxHeartbeats 4000000 in
theorem exactTakeFrames_walk (s : ByteArray) (w : World) (hT : Tab4 w) :
    Calls Tryd.prog 4 #[.string s] w fun e w' => e = .returned (.bool true) ∧ Below w.heap.size w w' := by
  by_cases h : s.size ≤ 1048576
  · have h' : ¬ (1048576 : Int) < (s.size : Int) := by omega
    have P7 : Hid (∀ W, Calls Tryd.prog 7 #[.string s] W fun e w' => ResS W w' e (taken s).1 (taken s).2) := fun W => (specTake_any s W h).mono fun _ _ t => ResS.of t
    have P8 : Hid (∀ W, Below w.heap.size w W → Calls Tryd.prog 8 #[.string s] W fun e w' => ResS W w' e (taken s).1 (taken s).2) := fun W hW => (implTake_any s W h (hT.below hW)).mono fun _ _ t => ResS.of t
    have hX : (taken s).1.length ≤ 1048576 := by have := st_le s s.size; unfold taken; omega
    clear hT
    generalize (taken s).1 = X at *
    generalize (taken s).2 = K at *
    have hXm : X.length ≤ maxLen := by unfold maxLen; omega
    have m1 : ¬ (1 : Int) + (X.length : Int) < 0 := by omega
    go_enter Tryd.func4, Tryd.ntmps4
    go_wp2_with (first
      | (go_at_call 7; refine (P7.out _).mono ?_; rintro e w1 ⟨a1, b1, c1, rfl, s1, _, _, L1⟩; have S1 := hid s1; have B1 := hid L1; clear s1 L1)
      | (go_at_call 8; have mk' := mk4; refine (P8.out _ B4.out).mono ?_; rintro e w6 ⟨a6, b6, c6, rfl, s6, _, _, L6⟩; have S6 := hid s6; have B6 := hid (then_ B4.out L6); replace S1 := hid (S1.out.below L6); replace S2 := hid (S2.out.below L6); have mk6 : True := trivial; clear s6 L6)
      | (go_at_call 8; refine (P8.out _ B1.out).mono ?_; rintro e w2 ⟨a2, b2, c2, rfl, s2, r2, z2, L2⟩; have S2 := hid s2; have R2 := hid r2; have F1 := hid (farS S1.out z2); have Z2 := hid (Nat.le_trans B1.out.size z2); have B2 := hid (then_ B1.out L2); replace S1 := hid (S1.out.below L2); clear s2 r2 L2 z2)
      | (go_at_call 9; have mk' := mk6; refine (eqStringS_true a6 a1 X.length c6 c1 _ _ hXm S6.out S1.out).mono ?_; rintro e w7 ⟨rfl, L7⟩; have B7 := hid (then_ B6.out L7); replace S2 := hid (S2.out.below L7); clear L7; have mk7 : True := trivial)
      | (go_at_call 9; refine (eqStringS_true a2 a1 X.length c2 c1 _ _ hXm S2.out S1.out).mono ?_; rintro e w3 ⟨rfl, L3⟩; have B3 := hid (then_ B2.out L3); replace S1 := hid (S1.out.below L3); replace R2 := hid (R2.out.below L3); clear L3)
      | (go_at_call 10; refine (markStringS_any a2 b2 X.length c2 _ hX R2.out).mono ?_; rintro e w4 ⟨rfl, g4, s4⟩; replace S2 := hid s4; replace S1 := hid (S1.out.grown g4 F1.out); have B4' := hid (B3.out.trans (below_grown g4 B3.out.size (fun j hj => Option.some.inj hj ▸ Z2.out))); clear g4 s4)
      | (go_at_call 11; have mk' := mk7; refine (heldStringS_any a2 X.length c2 _ hX S2.out).mono ?_; rintro e w8 ⟨rfl, L8⟩; have B8 := hid (then_ B7.out L8); clear L8)
      | (go_at_call 11; refine (heldStringS_any a2 X.length c2 _ hX S2.out).mono ?_; rintro e w5 ⟨rfl, L5⟩; have B4 := hid (then_ B4'.out L5); replace S2 := hid (S2.out.below L5); replace S1 := hid (S1.out.below L5); have mk4 : True := trivial; clear L5))
    go_ret
    exact ⟨rfl, B8.out⟩
  · have h' : (1048576 : Int) < (s.size : Int) := by omega
    clear hT
    go_enter Tryd.func4, Tryd.ntmps4
    go_wp2
    go_ret
    exact ⟨rfl, Below.refl _ _⟩
end Go.Proofs.YticbfjhbglcnhaaDoor
