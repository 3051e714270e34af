/- TakeFrames of the model. -/
import Derived.Test.YtccgnmdiainafaaDoorFRB
namespace Go.Proofs.YtccgnmdiainafaaDoor
open Go Go.RowKit Go.Deep Go.Maps Go.BigFrame

theorem toList_ext {a b : ByteArray} (h : a.toList = b.toList) : a = b := by
  rw [ByteArray.toList_eq, ByteArray.toList_eq] at h
  exact ByteArray.ext (Array.toList_inj.1 h)
theorem num4_any (s : ByteArray) (k : Nat) (w : World) (h : k + 4 ≤ s.size) : Calls Tryd.prog 18 #[.string (s.extract k (k + 4))] w fun e w' => e = .returned (.int .i64 (nAt s k : Nat)) ∧ w' = w := by
  have hz : (s.extract k (k + 4)).size = 4 := by rw [ByteArray.size_extract]; omega
  have := l7Num_any (s.extract k (k + 4)) w (by omega)
  rw [hz] at this
  exact this

/-- what a call answers: texts in memory of its own, and a place -/
def TakesTo (w : World) (s : ByteArray) (e : Ending) (w' : World) : Prop :=
  ∃ B v, e = .returned (.tuple #[v, .int .i64 ((taken s).2 : Nat)]) ∧ w.heap.size ≤ B ∧ OwnS w' B v (taken s).1 ∧ Below w.heap.size w w'

set_option maxRecDepth 100000 in
set_option maxHeartbeats 4000000 in
theorem specTake_any (s : ByteArray) (w : World) (hz : s.size ≤ 1048576) : Calls Tryd.prog 7 #[.string s] w (TakesTo w s) := by
  have K0 := (Below.refl _ w).alloc (Nat.le_refl _) (.cells #[] 9)
  have O0 := OwnS.none w
  go_enter Tryd.func7, Tryd.ntmps7
  go_wp2
  go_loopw [4, 5] (fun v i wr => ∃ m k : Nat, ∃ l : List ByteArray, st s m = (l, k) ∧ m ≤ k ∧ l.length ≤ k ∧ k ≤ s.size ∧ i = .int .i64 k ∧ OwnS wr w.heap.size v l ∧ (∃ g n c, v = .slice (some ⟨g, 0, none⟩) n c) ∧ Below w.heap.size w wr) (fun _ i _ => s.size - (intOf i).toNat)
  case atStart => exact ⟨0, 0, [], rfl, Nat.zero_le _, Nat.zero_le _, Nat.zero_le _, rfl, O0, ⟨_, _, _, rfl⟩, K0⟩
  case round =>
    obtain ⟨m, k, l, hst, hmk, hlk, hks, rfl, hO, ⟨g, n, c, rfl⟩, hB⟩ := hrel
    clear O0 K0
    have OO := hid hO
    have ST := hid hst
    have MK := hid hmk
    clear hO hst hmk
    have DONE : Hid (¬ isFr s k → ∀ W, Below wr.heap.size wr W → TakesTo w s (.returned (.tuple #[.slice (some ⟨g, 0, none⟩) n c, .int .i64 (k : Nat)])) W) := fun hn W hW => by
      have e := taken_of (s := s) (m := m) (by rw [ST.out]; exact hn) (Nat.le_trans MK.out hks)
      rw [ST.out] at e
      exact ⟨w.heap.size, _, by rw [e], Nat.le_refl _, by rw [e]; exact OO.out.below hW, then_ hB hW⟩
    by_cases h8 : k + 8 ≤ s.size
    · have h8' : (k : Int) + 8 ≤ (s.size : Int) := by omega
      have P16 := hid (fun w => num4_any s k w (by omega))
      have FR : Hid (isFr s k ↔ nAt s k ≤ 1000000 ∧ k + 8 + nAt s k ≤ s.size ∧ (⟨(lowL (crc (s.extract (k + 8) (k + 8 + nAt s k)) : Nat)).toArray⟩ : ByteArray) = s.extract (k + 4) (k + 8)) := ⟨fun h => h.2, fun h => ⟨h8, h⟩⟩
      have NX : Hid (isFr s k → st s (m + 1) = (l ++ [s.extract (k + 8) (k + 8 + nAt s k)], k + 8 + nAt s k)) := fun h => by
        have e := st_next (s := s) (m := m) (by rw [ST.out]; exact h)
        rw [ST.out] at e
        exact e
      have hn := nAt_lt s k
      generalize nAt s k = N at *
      have i1 : ((k : Int) + 4).toNat = k + 4 := by omega
      have i2 : ((k : Int) + 8).toNat = k + 8 := by omega
      have i3 : ((k : Int) + 8 + (N : Int)).toNat = k + 8 + N := by omega
      have w1 : (k : Int) + 4 ≤ (s.size : Int) := by omega
      by_cases c1 : N ≤ 1000000
      · have d1 : decide ((1000000 : Int) < (N : Int)) = false := decide_eq_false (by omega)
        by_cases c2 : k + 8 + N ≤ s.size
        · have d2 : decide ((s.size : Int) < (k : Int) + 8 + (N : Int)) = false := decide_eq_false (by omega)
          have w3 : (k : Int) + 8 + (N : Int) ≤ (s.size : Int) := by omega
          have P13 := hid (fun w => l9Sum_any (s.extract (k + 8) (k + 8 + N)) w (by rw [ByteArray.size_extract]; omega))
          generalize hX : s.extract (k + 8) (k + 8 + N) = X at *
          generalize (⟨(lowL (crc X : Nat)).toArray⟩ : ByteArray) = C at *
          generalize hY : s.extract (k + 4) (k + 8) = Y at *
          by_cases c3 : C = Y
          · have IS := hid (FR.out.2 ⟨c1, c2, c3⟩)
            have NX2 := hid (NX.out IS.out)
            subst c3
            clear DONE NX FR
            go_wp2_with (go_at_call 18; refine (P16.out _).mono ?_; rintro e w2 ⟨rfl, h2⟩; subst w2)
            refine wp_region_quiet_up (by kernel_rfl) (by kernel_rfl) ?_
            repeat (go_big_quiet_step (first | (go_at_call 19; exact up_of (P13.out _))))
            refine wpQuiet_nil ?_
            rintro _ ⟨p, rfl⟩
            generalize hP : p = P
            have OP := hid (OO.out.below P.h)
            have BP := hid (then_ hB P.h)
            clear hB hP
            have HO3 := hid (OP.out.alloc (.cells #[.string X] 9))
            have HL3 := hid (one_str (w := P.W) X)
            have sz3 := hid (Nat.le_trans BP.out.size (show P.W.heap.size ≤ (P.W.alloc (.cells #[.string X] 9)).heap.size by rw [World.size_alloc]; omega))
            have lm : l.length ≤ 2000000 := by omega
            go_wp2_with (at_builtin; refine wpList_append_str _ rfl _ _ rfl w.heap.size _ l rfl HO3.out _ 1 X rfl HL3.out lm sz3.out ?_; intro g3 c3 w3 O3 hg3; generalize hX3 : l ++ [X] = X3 at O3 ⊢; have EX3 := hid hX3; have OX3 := hid O3; have GX3 := hid hg3; clear hX3 O3 hg3)
            have B3 : Below w.heap.size w w3 := (BP.out.alloc BP.out.size (.cells #[.string X] 9)).trans (below_grown GX3.out sz3.out (fun j hj => (World.ownsRow.lt HO3.out j hj).1))
            have l3 : X3.length = l.length + 1 := by rw [← EX3.out]; simp
            have MK' := MK.out
            exact ⟨⟨m + 1, k + 8 + N, X3, by rw [NX2.out, EX3.out], by omega, by omega, c2, rfl, OX3.out, ⟨_, _, _, rfl⟩, B3⟩, by simp [intOf]; omega⟩
          · have d3 : (C.toList == Y.toList) = false := beq_eq_false_iff_ne.2 (fun h => c3 (toList_ext h))
            have D := hid (DONE.out (fun h => c3 (FR.out.1 h).2.2))
            clear DONE NX FR OO ST
            go_wp2_with (go_at_call 18; refine (P16.out _).mono ?_; rintro e w2 ⟨rfl, h2⟩; subst w2)
            refine wp_region_quiet_up (by kernel_rfl) (by kernel_rfl) ?_
            repeat (go_big_quiet_step (first | (go_at_call 19; exact up_of (P13.out _))))
            refine wpQuiet_nil ?_
            rintro _ ⟨p, rfl⟩
            go_wp2
            go_ret2
            exact D.out _ p.h
        · have d2 : decide ((s.size : Int) < (k : Int) + 8 + (N : Int)) = true := decide_eq_true (by omega)
          have D := hid (DONE.out (fun h => c2 (FR.out.1 h).2.1))
          clear DONE NX FR OO ST
          go_wp2_with (go_at_call 18; refine (P16.out _).mono ?_; rintro e w2 ⟨rfl, h2⟩; subst w2)
          refine wp_region_quiet_up (by kernel_rfl) (by kernel_rfl) ?_
          repeat (go_big_quiet_step (fail))
          refine wpQuiet_nil ?_
          rintro _ ⟨p, rfl⟩
          go_wp2
          go_ret2
          exact D.out _ p.h
      · have d1 : decide ((1000000 : Int) < (N : Int)) = true := decide_eq_true (by omega)
        have D := hid (DONE.out (fun h => c1 (FR.out.1 h).1))
        clear DONE NX FR OO ST
        go_wp2_with (go_at_call 18; refine (P16.out _).mono ?_; rintro e w2 ⟨rfl, h2⟩; subst w2)
        refine wp_region_quiet_up (by kernel_rfl) (by kernel_rfl) ?_
        repeat (go_big_quiet_step (fail))
        refine wpQuiet_nil ?_
        rintro _ ⟨p, rfl⟩
        go_wp2
        go_ret2
        exact D.out _ p.h
    · have h8' : ¬ (k : Int) + 8 ≤ (s.size : Int) := by omega
      have D := hid (DONE.out (fun h => h8 h.1) wr (Below.refl _ _))
      clear DONE OO ST
      go_wp2
      go_ret2
      exact D.out
end Go.Proofs.YtccgnmdiainafaaDoor
