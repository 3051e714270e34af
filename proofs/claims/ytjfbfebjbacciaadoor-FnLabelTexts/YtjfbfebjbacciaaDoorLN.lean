/- FnLabelTexts, its walk. -/
import Derived.Test.YtjfbfebjbacciaaDoorLM
import Derived.Test.YtjfbfebjbacciaaDoorRG
import Derived.Test.YtjfbfebjbacciaaDoorMB
namespace Go.Proofs.YtjfbfebjbacciaaDoor
open Go Go.RowKit Go.Deep Go.Maps

theorem then_ {w a b : World} (h : Below w.heap.size w a) (k : Below a.heap.size a b) : Below w.heap.size w b := h.trans (k.mono h.size)
theorem alloc_ {w a : World} (h : Below w.heap.size w a) (o : Obj) : Below w.heap.size w (a.alloc o) := h.alloc h.size o

set_option maxRecDepth 100000 in
set_option maxHeartbeats 4000000 in
theorem labelTexts_walk (a : Option Addr) (n cap : Nat) (w : World) (hb : BytesAt w a n) (hT : Tab w) : Calls Tryd.prog 3 #[.slice a n cap] w fun e w' => e = .returned (.bool true) ∧ Below w.heap.size w w' := by
  by_cases hn : n ≤ 1048576
  · have hn' : decide (1048576 < n) = false := decide_eq_false (by omega)
    have P0 := hid (drawText_any a n cap w hn hb)
    have P1 : Hid (∀ W, Below w.heap.size w W → Calls Tryd.prog 12 #[.slice a n cap] W fun e w' => ∃ t : ByteArray, e = .returned (.string t) ∧ t.size ≤ 1000 ∧ Below W.heap.size W w') := fun W h => drawRead_any a n cap W hn (hb.below h)
    have HT : Hid (∀ W, Below w.heap.size w W → Tab W) := fun W h => hT.below h
    clear hb hT
    go_enter Tryd.func3, Tryd.ntmps3
    go_wp2_with (go_at_call 5; refine (big_any a n cap _).mono ?_; rintro e w1 ⟨rfl, hw1⟩; subst w1)
    refine P0.out.mono ?_
    rintro e w1 ⟨base, l, va, vc, rfl, l3, hc, c1⟩
    have HC : Hid (∀ W, Below w1.heap.size w1 W → CatsAt W va l.length (fstAt l) (sndAt l)) := fun W h => hc.below h
    clear P0 hc
    have hlt := ltext_short base l
    have hnm : l.length ≤ maxLen := by unfold maxLen; omega
    have T1 : Hid (∀ W, Below w1.heap.size w1 W → Calls Tryd.prog 7 #[.agg #[.int .i64 base, .slice va l.length vc]] W fun e w' => e = .returned (.string ⟨(ltext base l.length (fstAt l) (sndAt l)).toArray⟩) ∧ Below W.heap.size W w') := fun W h => implText_any base va l.length vc _ _ W hnm (HC.out W h) (HT.out W (then_ c1 h))
    have T2 : Hid (∀ W, Below w1.heap.size w1 W → Calls Tryd.prog 9 #[.agg #[.int .i64 base, .slice va l.length vc]] W fun e w' => e = .returned (.string ⟨(ltext base l.length (fstAt l) (sndAt l)).toArray⟩) ∧ Below W.heap.size W w') := fun W h => specLabelText_any base va l.length vc _ _ W hnm (HC.out W h)
    have T3 : Hid (∀ W, Calls Tryd.prog 8 #[.string ⟨(ltext base l.length (fstAt l) (sndAt l)).toArray⟩] W (RPost (readL (ltext base l.length (fstAt l) (sndAt l))) W)) := fun W => by
      have t := implRead_any ⟨(ltext base l.length (fstAt l) (sndAt l)).toArray⟩ W (by rw [size_ofM]; omega)
      simpa using t
    have T4 : Hid (∀ W, Below w1.heap.size w1 W → Calls Tryd.prog 10 #[.agg #[.int .i64 base, .slice va l.length vc]] W fun e w' => e = .returned (.bool (labOk base l.length (fstAt l) (sndAt l))) ∧ Below W.heap.size W w') := fun W h => implOk_any base va l.length vc _ _ W hnm (HC.out W h)
    have d1 : Hid (Below w1.heap.size w1 (w1.alloc (.cells #[.int .i64 base, .slice va l.length vc] 26))) := alloc_ (Below.refl _ _) _
    have A1 := hid (Blk.new w1 (.cells #[.int .i64 base, .slice va l.length vc] 26))
    cases hp : labOk base l.length (fstAt l) (sndAt l) with
    | true =>
      have hr : readL (ltext base l.length (fstAt l) (sndAt l)) = (base, l, true) := by
        rw [ltext, if_pos hp, catsTo_list]
        exact read_txt hp
      rw [hr] at T3
      rw [hp] at T4
      have T5 : Hid (∀ W, Calls Tryd.prog 8 #[.string ⟨(ltext base l.length (fstAt l) (sndAt l)).toArray⟩] W fun e w' => ∃ a k, e = .returned (.tuple #[.agg #[.int .i64 base, .slice a l.length k], .bool true]) ∧ OwnList w' W.heap.size (.slice a l.length k) l ∧ Below W.heap.size W w') := T3
      clear T3
      generalize (⟨(ltext base l.length (fstAt l) (sndAt l)).toArray⟩ : ByteArray) = X at *
      clear hr hp hlt
      go_wp2_with (first
        | (go_at_call 7; refine (T1.out _ d1.out).mono ?_; rintro e w2 ⟨rfl, h2⟩; have d2 := hid (then_ d1.out h2); have A2 := hid (A1.out.below h2))
        | (go_at_call 8; refine (T5.out _).mono ?_; rintro e w3 ⟨va2, vc2, rfl, O3, h3⟩; have d3 := hid (then_ d2.out h3); have A3 := hid (A2.out.below h3); obtain ⟨p0, p1⟩ := A3.out.two; have pl := A3.out.lt; have d3' := hid (alloc_ d3.out (.cells #[.int .i64 base, .slice va2 l.length vc2] 26)); have C3 := hid (OwnCats.cats O3); clear T5)
        | (go_at_call 9; refine (T2.out _ d3'.out).mono ?_; rintro e w4 ⟨rfl, h4⟩; have d4 := hid (then_ d3'.out h4); have A4 := hid ((A3.out.alloc (.cells #[.int .i64 base, .slice va2 l.length vc2] 26)).below h4); obtain ⟨s0, s1⟩ := A4.out.two; have B4 := hid ((Blk.new w3 (.cells #[.int .i64 base, .slice va2 l.length vc2] 26)).below h4); have C4 := hid ((C3.out.below (alloc_ (Below.refl _ _) (.cells #[.int .i64 base, .slice va2 l.length vc2] 26))).below h4))
        | (go_at_call 10; refine (T4.out _ d4.out).mono ?_; rintro e w5 ⟨rfl, h5⟩; have d5 := hid (then_ d4.out h5); obtain ⟨r0, r1⟩ := (A4.out.below h5).two; obtain ⟨q0, q1⟩ := (B4.out.below h5).two; have C5 := hid (C4.out.below h5))
        | (go_at_call 11; refine (same_any base va2 va l.length vc2 vc _ _ _ (by omega) C5.out (HC.out _ d5.out)).mono ?_; rintro e w6 ⟨rfl, h6⟩; have d6 := hid (then_ d5.out h6))
        | (go_at_call 12; refine (P1.out _ (then_ c1 d6.out)).mono ?_; rintro e w7 ⟨u, rfl, hu, h7⟩; have c7 := hid (then_ (then_ c1 d6.out) h7)))
      obtain ⟨b', l', q, hR⟩ : ∃ b' l' q, readL u.data.toList = (b', l', q) := ⟨_, _, _, rfl⟩
      have U1 := hid (fun W => implRead_any u W (by omega))
      have U2 := hid (fun W => specRead_any u W (by omega))
      rw [hR] at U1 U2
      have V1 : Hid (∀ W, Calls Tryd.prog 8 #[.string u] W fun e w' => ∃ a k, e = .returned (.tuple #[.agg #[.int .i64 b', .slice a l'.length k], .bool q]) ∧ OwnList w' W.heap.size (.slice a l'.length k) l' ∧ Below W.heap.size W w') := U1
      have V2 : Hid (∀ W, Calls Tryd.prog 13 #[.string u] W fun e w' => ∃ a k, e = .returned (.tuple #[.agg #[.int .i64 b', .slice a l'.length k], .bool q]) ∧ OwnList w' W.heap.size (.slice a l'.length k) l' ∧ Below W.heap.size W w') := U2
      clear U1 U2
      refine (V1.out _).mono ?_
      rintro e w8 ⟨va8, vc8, rfl, O8, h8⟩
      have c8 := hid (then_ c7.out h8)
      have c8' := hid (alloc_ c8.out (.cells #[.int .i64 b', .slice va8 l'.length vc8] 26))
      cases q with
      | true =>
        obtain ⟨hk, ht⟩ := read_back hR
        have hn12 : l'.length ≤ maxLen := by have := (labOk_out hk).2.1; unfold maxLen; omega
        have hX : (⟨(ltext b' l'.length (fstAt l') (sndAt l')).toArray⟩ : ByteArray) = u := by
          rw [ltext, if_pos hk, catsTo_list, ht]
        have C8 := hid ((OwnCats.cats O8).below (alloc_ (Below.refl _ _) (.cells #[.int .i64 b', .slice va8 l'.length vc8] 26)))
        have B8 := hid (Blk.new w8 (.cells #[.int .i64 b', .slice va8 l'.length vc8] 26))
        have V3 : Hid (∀ W, Below w.heap.size w W → CatsAt W va8 l'.length (fstAt l') (sndAt l') → Calls Tryd.prog 7 #[.agg #[.int .i64 b', .slice va8 l'.length vc8]] W fun e w' => e = .returned (.string u) ∧ Below W.heap.size W w') := fun W h hc => by
          have t := implText_any b' va8 l'.length vc8 _ _ W hn12 hc (HT.out W h)
          rw [hX] at t
          exact t
        clear hR hk ht hX V1 O8
        go_wp2_with (first
          | (go_at_call 13; refine (V2.out _).mono ?_; rintro e w9 ⟨va9, vc9, rfl, O9, h9⟩; have c9 := hid (then_ c8'.out h9); have c9' := hid (alloc_ c9.out (.cells #[.int .i64 b', .slice va9 l'.length vc9] 26)); obtain ⟨y0, y1⟩ := (B8.out.below h9).two; have yl := (B8.out.below h9).lt; have C9 := hid ((C8.out.below h9).below (alloc_ (Below.refl _ _) (.cells #[.int .i64 b', .slice va9 l'.length vc9] 26))))
          | (go_at_call 7; refine (V3.out _ c9'.out C9.out).mono ?_; rintro e w10 ⟨rfl, h10⟩; have c10 := hid (then_ c9'.out h10)))
        go_ret
        exact ⟨rfl, c10.out⟩
      | false =>
        clear hR V1 O8
        go_wp2_with (go_at_call 13; refine (V2.out _).mono ?_; rintro e w9 ⟨va9, vc9, rfl, O9, h9⟩; have c9 := hid (then_ c8'.out h9); have c9' := hid (alloc_ c9.out (.cells #[.int .i64 b', .slice va9 l'.length vc9] 26)))
        go_ret
        exact ⟨rfl, c9'.out⟩
    | false =>
      have e0 : ltext base l.length (fstAt l) (sndAt l) = [] := by rw [ltext, if_neg (by rw [hp]; simp)]
      rw [e0] at T1 T2 T3
      rw [read_nil] at T3
      rw [hp] at T4
      have T5 : Hid (∀ W, Calls Tryd.prog 8 #[.string ⟨([] : List UInt8).toArray⟩] W fun e w' => ∃ a k, e = .returned (.tuple #[.agg #[.int .i64 0, .slice a ([] : List (Int × Int)).length k], .bool false]) ∧ OwnList w' W.heap.size (.slice a ([] : List (Int × Int)).length k) [] ∧ Below W.heap.size W w') := T3
      clear T3 hp e0 hlt
      go_wp2_with (first
        | (go_at_call 7; refine (T1.out _ d1.out).mono ?_; rintro e w2 ⟨rfl, h2⟩; have d2 := hid (then_ d1.out h2); have A2 := hid (A1.out.below h2))
        | (go_at_call 8; refine (T5.out _).mono ?_; rintro e w3 ⟨va2, vc2, rfl, O3, h3⟩; have d3 := hid (then_ d2.out h3); have A3 := hid (A2.out.below h3); obtain ⟨p0, p1⟩ := A3.out.two; have pl := A3.out.lt; have d3' := hid (alloc_ d3.out (.cells #[.int .i64 0, .slice va2 0 vc2] 26)); clear T5)
        | (go_at_call 9; refine (T2.out _ d3'.out).mono ?_; rintro e w4 ⟨rfl, h4⟩; have d4 := hid (then_ d3'.out h4); have A4 := hid ((A3.out.alloc (.cells #[.int .i64 0, .slice va2 0 vc2] 26)).below h4); obtain ⟨s0, s1⟩ := A4.out.two)
        | (go_at_call 10; refine (T4.out _ d4.out).mono ?_; rintro e w5 ⟨rfl, h5⟩; have d5 := hid (then_ d4.out h5))
        | (go_at_call 12; refine (P1.out _ (then_ c1 d5.out)).mono ?_; rintro e w7 ⟨u, rfl, hu, h7⟩; have c7 := hid (then_ (then_ c1 d5.out) h7)))
      obtain ⟨b', l', q, hR⟩ : ∃ b' l' q, readL u.data.toList = (b', l', q) := ⟨_, _, _, rfl⟩
      have U1 := hid (fun W => implRead_any u W (by omega))
      have U2 := hid (fun W => specRead_any u W (by omega))
      rw [hR] at U1 U2
      have V1 : Hid (∀ W, Calls Tryd.prog 8 #[.string u] W fun e w' => ∃ a k, e = .returned (.tuple #[.agg #[.int .i64 b', .slice a l'.length k], .bool q]) ∧ OwnList w' W.heap.size (.slice a l'.length k) l' ∧ Below W.heap.size W w') := U1
      have V2 : Hid (∀ W, Calls Tryd.prog 13 #[.string u] W fun e w' => ∃ a k, e = .returned (.tuple #[.agg #[.int .i64 b', .slice a l'.length k], .bool q]) ∧ OwnList w' W.heap.size (.slice a l'.length k) l' ∧ Below W.heap.size W w') := U2
      clear U1 U2
      refine (V1.out _).mono ?_
      rintro e w8 ⟨va8, vc8, rfl, O8, h8⟩
      have c8 := hid (then_ c7.out h8)
      have c8' := hid (alloc_ c8.out (.cells #[.int .i64 b', .slice va8 l'.length vc8] 26))
      cases q with
      | true =>
        obtain ⟨hk, ht⟩ := read_back hR
        have hn12 : l'.length ≤ maxLen := by have := (labOk_out hk).2.1; unfold maxLen; omega
        have hX : (⟨(ltext b' l'.length (fstAt l') (sndAt l')).toArray⟩ : ByteArray) = u := by
          rw [ltext, if_pos hk, catsTo_list, ht]
        have C8 := hid ((OwnCats.cats O8).below (alloc_ (Below.refl _ _) (.cells #[.int .i64 b', .slice va8 l'.length vc8] 26)))
        have B8 := hid (Blk.new w8 (.cells #[.int .i64 b', .slice va8 l'.length vc8] 26))
        have V3 : Hid (∀ W, Below w.heap.size w W → CatsAt W va8 l'.length (fstAt l') (sndAt l') → Calls Tryd.prog 7 #[.agg #[.int .i64 b', .slice va8 l'.length vc8]] W fun e w' => e = .returned (.string u) ∧ Below W.heap.size W w') := fun W h hc => by
          have t := implText_any b' va8 l'.length vc8 _ _ W hn12 hc (HT.out W h)
          rw [hX] at t
          exact t
        clear hR hk ht hX V1 O8
        go_wp2_with (first
          | (go_at_call 13; refine (V2.out _).mono ?_; rintro e w9 ⟨va9, vc9, rfl, O9, h9⟩; have c9 := hid (then_ c8'.out h9); have c9' := hid (alloc_ c9.out (.cells #[.int .i64 b', .slice va9 l'.length vc9] 26)); obtain ⟨y0, y1⟩ := (B8.out.below h9).two; have yl := (B8.out.below h9).lt; have C9 := hid ((C8.out.below h9).below (alloc_ (Below.refl _ _) (.cells #[.int .i64 b', .slice va9 l'.length vc9] 26))))
          | (go_at_call 7; refine (V3.out _ c9'.out C9.out).mono ?_; rintro e w10 ⟨rfl, h10⟩; have c10 := hid (then_ c9'.out h10)))
        go_ret
        exact ⟨rfl, c10.out⟩
      | false =>
        clear hR V1 O8
        go_wp2_with (go_at_call 13; refine (V2.out _).mono ?_; rintro e w9 ⟨va9, vc9, rfl, O9, h9⟩; have c9 := hid (then_ c8'.out h9); have c9' := hid (alloc_ c9.out (.cells #[.int .i64 b', .slice va9 l'.length vc9] 26)))
        go_ret
        exact ⟨rfl, c9'.out⟩
  · have hn' : decide (1048576 < n) = true := decide_eq_true (by omega)
    go_enter Tryd.func3, Tryd.ntmps3
    go_wp2_with (go_at_call 5; refine (big_any a n cap _).mono ?_; rintro e w1 ⟨rfl, hw1⟩; subst w1)
    go_ret
    exact ⟨rfl, Below.refl _ _⟩
end Go.Proofs.YtjfbfebjbacciaaDoor
