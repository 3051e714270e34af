/- TakeFrames of the program. -/
import Derived.Test.YtccgnmdiainafaaDoorFRC
import Derived.Test.YtccgnmdiainafaaDoorNV
namespace Go.Proofs.YtccgnmdiainafaaDoor
open Go Go.RowKit Go.Deep Go.Maps Go.BigFrame

theorem ext_ext (s : ByteArray) (k a b : Nat) (h : k + b ≤ s.size) : (s.extract k s.size).extract a b = s.extract (k + a) (k + b) := by
  rw [ByteArray.extract_extract]
  congr 1
  omega
theorem ext_size {s : ByteArray} {k : Nat} (h : k ≤ s.size) : (s.extract k s.size).size = s.size - k := by rw [ByteArray.size_extract]; omega
theorem nAt_ext {s : ByteArray} {k : Nat} (h : k + 8 ≤ s.size) : nAt (s.extract k s.size) 0 = nAt s k := by
  unfold nAt
  rw [ext_ext s k 0 (0 + 4) (by omega), Nat.zero_add, Nat.add_zero]
theorem dataAt_ext {s : ByteArray} {k : Nat} (h : k + 8 + nAt s k ≤ s.size) : dataAt (s.extract k s.size) 0 = dataAt s k := by
  unfold dataAt
  rw [nAt_ext (by omega), ext_ext s k _ _ (by omega)]
  congr 1 <;> omega
theorem isFr_ext {s : ByteArray} {k : Nat} (h : k ≤ s.size) : isFr (s.extract k s.size) 0 ↔ isFr s k := by
  unfold isFr
  rw [ext_size h]
  by_cases h8 : k + 8 ≤ s.size
  · rw [nAt_ext h8]
    by_cases hn : k + 8 + nAt s k ≤ s.size
    · rw [dataAt_ext hn, ext_ext s k (0 + 4) (0 + 8) (by omega), Nat.zero_add, Nat.zero_add]
      constructor
      · rintro ⟨a, b, c, d⟩; exact ⟨h8, b, hn, d⟩
      · rintro ⟨a, b, c, d⟩; exact ⟨by omega, b, by omega, d⟩
    · constructor
      · rintro ⟨a, b, c, d⟩; omega
      · rintro ⟨a, b, c, d⟩; omega
  · constructor
    · rintro ⟨a, b⟩; omega
    · rintro ⟨a, b⟩; omega

theorem clone_any (s : ByteArray) (w : World) (hn : s.size ≤ 281474976710656) :
    Calls Tryd.prog 17 #[.string s] w fun e w' => e = .returned (.string s) ∧ Below w.heap.size w w' := by
  have hc := fun v => Go.Proofs.Any.stringslite_Clone Tryd.cloneA s v hn
  change ∀ v : World, Calls Tryd.prog 26 #[.string s] v fun e w' => e = .returned (.string s) ∧ Below v.heap.size v w' at hc
  go_enter Tryd.func17, Tryd.ntmps17
  go_wp2_with fail
  refine (hc _).mono ?_
  rintro e w1 ⟨rfl, hb⟩
  go_wp2
  go_ret
  exact ⟨rfl, hb⟩
theorem read4_any (s : ByteArray) (w : World) (h : 4 ≤ s.size) : Calls Tryd.prog 25 #[.string (s.extract 0 4)] w fun e w' => e = .returned (.int .i64 (nAt s 0 : Nat)) ∧ Below w.heap.size w w' := by
  have hz : (s.extract 0 4).size = 4 := by rw [ByteArray.size_extract]; omega
  have := readHigh_any (s.extract 0 4) w (by omega)
  rw [hz] at this
  exact this.mono fun e w' ⟨h1, h2⟩ => ⟨h1, h2 ▸ Below.refl _ _⟩

theorem ret_sb {a b : ByteArray} {p q : Bool} (h : a = b) (k : p = q) : Ending.returned (.tuple #[.string a, .bool p]) = .returned (.tuple #[.string b, .bool q]) := by rw [h, k]
/-- what firstFrame answers -/
def FirstTo (w : World) (s : ByteArray) (e : Ending) (w' : World) : Prop :=
  ∃ d, e = .returned (.tuple #[.string d, .bool (decide (isFr s 0))]) ∧ (isFr s 0 → d = dataAt s 0) ∧ Below w.heap.size w w'

set_option maxRecDepth 100000 in
set_option maxHeartbeats 2000000 in
theorem first_any (s : ByteArray) (w : World) (hz : s.size ≤ 1048576) (hT : Tab4 w) : Calls Tryd.prog 16 #[.string s] w (FirstTo w s) := by
  by_cases h8 : 8 ≤ s.size
  · have h8' : ¬ (s.size : Int) < 8 := by omega
    have h8'' : (8 : Int) ≤ (s.size : Int) := by omega
    have h4' : (4 : Int) ≤ (s.size : Int) := by omega
    have P21 := hid (fun w => read4_any s w (by omega))
    have FR : Hid (isFr s 0 ↔ nAt s 0 ≤ 1000000 ∧ 8 + nAt s 0 ≤ s.size ∧ (⟨(lowL (crc (s.extract 8 (8 + nAt s 0)) : Nat)).toArray⟩ : ByteArray) = s.extract 4 8) := by
      show _ ↔ _
      unfold isFr dataAt
      simp only [Nat.zero_add]
      exact ⟨fun h => h.2, fun h => ⟨h8, h⟩⟩
    have DA : Hid (dataAt s 0 = s.extract 8 (8 + nAt s 0)) := by show _ = _; unfold dataAt; simp only [Nat.zero_add]
    have hn := nAt_lt s 0
    generalize nAt s 0 = N at *
    have hbz : (s.extract 8 s.size).size = s.size - 8 := ext_size h8
    have EE : Hid (8 + N ≤ s.size → (s.extract 8 s.size).extract 0 N = s.extract 8 (8 + N)) := fun h => ext_ext s 8 0 N h
    generalize hB : s.extract 8 s.size = BH at *
    by_cases c1 : N ≤ 1000000
    · have d1 : decide ((1000000 : Int) < (N : Int)) = false := decide_eq_false (by omega)
      by_cases c2 : 8 + N ≤ s.size
      · have d2 : decide ((BH.size : Int) < (N : Int)) = false := decide_eq_false (by omega)
        have d2' : (N : Int) ≤ (BH.size : Int) := by omega
        have P15 : Hid (∀ W, Below w.heap.size w W → Calls Tryd.prog 21 #[.string (s.extract 8 (8 + N))] W fun e w' => e = .returned (.string ⟨(lowL (crc (s.extract 8 (8 + N)) : Nat)).toArray⟩) ∧ Below W.heap.size W w') := fun W hW => crcText_any _ W (by rw [ByteArray.size_extract]; omega) (hT.below hW)
        have hX := EE.out c2
        generalize s.extract 8 (8 + N) = X at *
        generalize (⟨(lowL (crc X : Nat)).toArray⟩ : ByteArray) = C at *
        generalize hY : s.extract 4 8 = Y at *
        clear hT EE
        have F1 : Hid (∀ q, (Y.toList == C.toList) = q → decide (isFr s 0) = q) := fun q hq => by
          cases q with
          | true => exact decide_eq_true (FR.out.2 ⟨c1, c2, (toList_ext (eq_of_beq hq)).symm⟩)
          | false =>
            refine decide_eq_false fun h => ?_
            have e := (FR.out.1 h).2.2
            rw [e] at hq
            simp at hq
        clear FR
        go_enter Tryd.func16, Tryd.ntmps16
        go_wp2
        refine wp_region_quiet_up (by kernel_rfl) (by kernel_rfl) ?_
        repeat (go_big_quiet_step (first | (go_at_call 25; exact up_of (P21.out _))))
        refine wpQuiet_nil ?_
        rintro _ ⟨p, rfl⟩
        go_wp2
        refine wp_region_quiet_up (by kernel_rfl) (by kernel_rfl) ?_
        repeat (go_big_quiet_step (first | (go_at_call 21; exact up_of (P15.out _ (then_ p.h (Up.h _))))))
        refine wpQuiet_nil ?_
        rintro _ ⟨p2, rfl⟩
        go_wp2
        go_ret2
        exact ⟨X, ret_sb rfl (F1.out _ rfl).symm, fun _ => DA.out.symm, then_ p.h p2.h⟩
      · have d2 : decide ((BH.size : Int) < (N : Int)) = true := decide_eq_true (by omega)
        have D := hid (decide_eq_false (p := isFr s 0) fun h => c2 (FR.out.1 h).2.1)
        have NO := hid (fun h => c2 (FR.out.1 h).2.1)
        clear FR EE hT
        go_enter Tryd.func16, Tryd.ntmps16
        go_wp2
        refine wp_region_quiet_up (by kernel_rfl) (by kernel_rfl) ?_
        repeat (go_big_quiet_step (first | (go_at_call 25; exact up_of (P21.out _))))
        refine wpQuiet_nil ?_
        rintro _ ⟨p, rfl⟩
        go_wp2
        go_ret2
        exact ⟨_, ret_sb rfl D.out.symm, fun h => absurd h NO.out, p.h⟩
    · have d1 : decide ((1000000 : Int) < (N : Int)) = true := decide_eq_true (by omega)
      have D := hid (decide_eq_false (p := isFr s 0) fun h => c1 (FR.out.1 h).1)
      have NO := hid (fun h => c1 (FR.out.1 h).1)
      clear FR EE hT
      go_enter Tryd.func16, Tryd.ntmps16
      go_wp2
      refine wp_region_quiet_up (by kernel_rfl) (by kernel_rfl) ?_
      repeat (go_big_quiet_step (first | (go_at_call 25; exact up_of (P21.out _))))
      refine wpQuiet_nil ?_
      rintro _ ⟨p, rfl⟩
      go_wp2
      go_ret2
      exact ⟨_, ret_sb rfl D.out.symm, fun h => absurd h NO.out, p.h⟩
  · have h8' : (s.size : Int) < 8 := by omega
    have D := hid (decide_eq_false (p := isFr s 0) fun h => h8 (by have := h.1; omega))
    have NO : Hid (¬ isFr s 0) := fun h => h8 (by have := h.1; omega)
    clear hT
    go_enter Tryd.func16, Tryd.ntmps16
    go_wp2
    go_ret2
    exact ⟨_, ret_sb rfl D.out.symm, fun h => absurd h NO.out, Below.refl _ _⟩

set_option maxRecDepth 100000 in
set_option maxHeartbeats 2000000 in
theorem implTake_any (s : ByteArray) (w : World) (hz : s.size ≤ 1048576) (hT : Tab4 w) : Calls Tryd.prog 6 #[.string s] w (TakesTo w s) := by
  have F : Hid (∀ W, Below w.heap.size w W → ∀ k, k ≤ s.size → Calls Tryd.prog 16 #[.string (s.extract k s.size)] W (FirstTo W (s.extract k s.size))) := fun W hW k hk => first_any _ W (by rw [ext_size hk]; omega) (hT.below hW)
  have E0 : s.extract 0 s.size = s := by simp
  clear hT
  go_enter Tryd.func6, Tryd.ntmps6
  go_wp2
  go_loopw [4, 5] (fun v r wr => ∃ m k : Nat, ∃ l : List ByteArray, st s m = (l, k) ∧ m ≤ k ∧ l.length ≤ k ∧ k ≤ s.size ∧ r = .string (s.extract k s.size) ∧ OwnS wr w.heap.size v l ∧ (∃ a n c, v = .slice a n c) ∧ Below w.heap.size w wr) (fun _ r _ => match r with | .string b => b.size | _ => 0)
  case atStart => exact ⟨0, 0, [], rfl, Nat.zero_le _, Nat.zero_le _, Nat.zero_le _, by rw [E0], World.ownsRow_nil _ _ _ _, ⟨_, _, _, rfl⟩, Below.refl _ _⟩
  case round =>
    obtain ⟨m, k, l, hst, hmk, hlk, hks, rfl, hO, ⟨a, n, c, rfl⟩, hB⟩ := hrel
    have OO := hid hO
    have ST := hid hst
    have MK := hid hmk
    clear hO hst hmk E0
    have hR : (s.extract k s.size).size = s.size - k := ext_size hks
    by_cases hf : isFr s k
    · have hf0 := (isFr_ext hks).2 hf
      have fn := hf.2.2.1
      have P17 : Hid (∀ W, Below w.heap.size w W → Calls Tryd.prog 16 #[.string (s.extract k s.size)] W fun e w' => e = .returned (.tuple #[.string (dataAt s k), .bool true]) ∧ Below W.heap.size W w') := fun W hW => (F.out W hW k hks).mono fun e w' ⟨d, he, hd, hb⟩ => ⟨by rw [he, hd hf0, decide_eq_true hf0, dataAt_ext fn], hb⟩
      have NX2 : Hid (st s (m + 1) = (l ++ [dataAt s k], k + 8 + nAt s k)) := by
        have e := st_next (s := s) (m := m) (by rw [ST.out]; exact hf)
        rw [ST.out] at e
        exact e
      have xs : (dataAt s k).size = nAt s k := by unfold dataAt; rw [ByteArray.size_extract]; omega
      have P18 := hid (fun w => clone_any (dataAt s k) w (by have := hf.2.1; omega))
      have RX : Hid ((s.extract k s.size).extract (8 + nAt s k) (s.extract k s.size).size = s.extract (k + 8 + nAt s k) s.size) := by
        show _ = _
        rw [hR, ext_ext s k _ _ (by omega)]
        congr 1 <;> omega
      clear F hf hf0
      generalize nAt s k = N at *
      generalize dataAt s k = X at *
      generalize s.extract k s.size = R at *
      have i1 : (8 + (X.size : Int)).toNat = 8 + N := by omega
      have i2 : (8 + (X.size : Int)) ≤ (R.size : Int) := by omega
      have lm : l.length ≤ 2000000 := by omega
      have HX := hid xs
      have HR := hid hR
      have z1 : X.size ≤ 9223372036854775799 := by omega
      clear hR xs
      have rx := RX.out
      go_wp2_with (first
        | (go_at_call 16; refine (P17.out _ hB).mono ?_; rintro e w2 ⟨rfl, h2⟩)
        | (go_at_call 17; refine (P18.out _).mono ?_; rintro e w3 ⟨rfl, h3⟩; have b3 := hid (then_ h2 h3); have HO3 := hid ((OO.out.below b3.out).alloc (.cells #[.string X] 9)); have HL3 := hid (one_str (w := w3) X); have sz3 := hid (Nat.le_trans (then_ hB b3.out).size (show w3.heap.size ≤ (w3.alloc (.cells #[.string X] 9)).heap.size by rw [World.size_alloc]; exact Nat.le_succ _)))
        | (at_builtin; refine wpList_append_str _ rfl _ _ rfl w.heap.size _ l rfl HO3.out _ 1 X rfl HL3.out lm sz3.out ?_; intro g4 c4 w4 O4 hg4; generalize hX4 : l ++ [X] = X4 at O4 ⊢; have EX4 := hid hX4; have OX4 := hid O4; have GX4 := hid hg4; clear hX4 O4 hg4))
      have B3 := then_ hB b3.out
      have B4 : Below w.heap.size w w4 := (B3.alloc B3.size (.cells #[.string X] 9)).trans (below_grown GX4.out sz3.out (fun j hj => (World.ownsRow.lt HO3.out j hj).1))
      have l4 : X4.length = l.length + 1 := by rw [← EX4.out]; simp
      have MK' := MK.out
      refine ⟨⟨m + 1, k + 8 + N, X4, by rw [NX2.out, EX4.out], by omega, by omega, fn, rfl, OX4.out, ⟨_, _, _, rfl⟩, B4⟩, ?_⟩
      have HR' := HR.out
      simp [ext_size fn, HR']
      omega
    · have hf0 : ¬ isFr (s.extract k s.size) 0 := fun h => hf ((isFr_ext hks).1 h)
      have P17 : Hid (∀ W, Below w.heap.size w W → Calls Tryd.prog 16 #[.string (s.extract k s.size)] W fun e w' => ∃ d, e = .returned (.tuple #[.string d, .bool false]) ∧ Below W.heap.size W w') := fun W hW => (F.out W hW k hks).mono fun e w' ⟨d, he, hd, hb⟩ => ⟨d, by rw [he, decide_eq_false hf0], hb⟩
      have DONE : Hid (∀ W, Below wr.heap.size wr W → TakesTo w s (.returned (.tuple #[.slice a n c, .int .i64 (k : Nat)])) W) := fun W hW => by
        have e := taken_of (s := s) (m := m) (by rw [ST.out]; exact hf) (Nat.le_trans MK.out hks)
        rw [ST.out] at e
        exact ⟨w.heap.size, _, by rw [e], Nat.le_refl _, by rw [e]; exact OO.out.below hW, then_ hB hW⟩
      have i1 : (s.size : Int) - ((s.extract k s.size).size : Int) = (k : Int) := by omega
      have i2 : wrap64 ((s.size : Int) - ((s.extract k s.size).size : Int)) = (k : Int) := by rw [i1]; unfold wrap64; omega
      clear F hf hf0 hR
      generalize s.extract k s.size = R at *
      go_wp2_with (go_at_call 16; refine (P17.out _ hB).mono ?_; rintro e w2 ⟨d, rfl, h2⟩)
      go_ret2
      exact DONE.out _ h2
end Go.Proofs.YtccgnmdiainafaaDoor
