/- FnSealed, its walk. -/
import Derived.Test.YtbopcgokmgifhaaDoorDB
import Derived.Test.YtbopcgokmgifhaaDoorPA
import Derived.Test.YtbopcgokmgifhaaDoorZG
namespace Go.Proofs.YtbopcgokmgifhaaDoor
open Go Go.RowKit Go.Deep Go.Maps

theorem BytesAt.below {w W : World} {a : Option Addr} {n : Nat} (h : BytesAt w a n) (hb : Below w.heap.size w W) : BytesAt W a n := fun hn => by
  obtain ⟨b, off, e, hlt, hc⟩ := h hn
  exact ⟨b, off, e, Nat.lt_of_lt_of_le hlt hb.size, fun i hi => by
    obtain ⟨v, h1, h2⟩ := hc i hi
    exact ⟨v, (hb.cell (p := ⟨b, off + i, none⟩) hlt).trans h1, h2⟩⟩
theorem then_ {w a b : World} (h : Below w.heap.size w a) (k : Below a.heap.size a b) : Below w.heap.size w b := h.trans (k.mono h.size)

set_option maxRecDepth 100000 in
set_option maxHeartbeats 4000000 in
theorem sealed_walk (a : Option Addr) (n cap : Nat) (w : World) (hb : BytesAt w a n) (hT : Tab4 w) : Calls Tryd.prog 3 #[.slice a n cap] w fun e w' => e = .returned (.bool true) ∧ Below w.heap.size w w' := by
  by_cases hn : n ≤ 1048576
  · have hn' : decide (1048576 < n) = false := decide_eq_false (by omega)
    have P0 := hid (drawSealed_any a n cap w hn hb)
    have P1 : Hid (∀ W, Below w.heap.size w W → Calls Tryd.prog 11 #[.slice a n cap] W fun e w' => ∃ (s : ByteArray) (t : ByteArray), e = .returned (.tuple #[.string s, .string t]) ∧ t.size ≤ 1000 ∧ Below W.heap.size W w') := fun W h => drawOpened_any a n cap W hn (hb.below h)
    have HT : Hid (∀ W, Below w.heap.size w W → Tab4 W) := fun W h => hT.below h
    clear hT hb
    go_enter Tryd.func3, Tryd.ntmps3
    go_wp2_with (first
      | (go_at_call 5; refine (big_any a n cap _).mono ?_; rintro e w1 ⟨rfl, hw1⟩; subst w1)
      | (go_at_call 6; refine P0.out.mono ?_; rintro e w1 ⟨s, b, t, rfl, ht, c1⟩))
    clear P0
    have PS := hid (fun W h => implSealed_any s b t W (HT.out W h))
    have PT := hid (fun W => specSealed_any s b t W)
    cases ho : (sealAns s b t).2 with
    | false =>
      rw [ho] at PS PT
      generalize (sealAns s b t).1 = X at *
      refine (PS.out _ c1).mono ?_
      rintro e w2 ⟨rfl, h2⟩
      have c2 := hid (then_ c1 h2)
      go_wp2_with (first
        | (go_at_call 8; refine (PT.out _).mono ?_; rintro e w3 ⟨rfl, h3⟩; have c3 := hid (then_ c2.out h3))
        | (go_at_call 11; refine (P1.out _ c3.out).mono ?_; rintro e w4 ⟨k, r, rfl, hr, h4⟩; have c4 := hid (then_ c3.out h4)))
      have Q1 := hid (fun W h => implOpened_any k r W (by omega) (HT.out W h))
      have Q2 := hid (fun W => specOpened_any k r W (by omega))
      have Q3 := hid (fun W h => implSealed_any k (openAns k r).1 (openAns k r).2.1 W (HT.out W h))
      cases hg : (openAns k r).2.2 with
      | true =>
        rw [opened_sealed k r hg] at Q3
        rw [hg] at Q1 Q2
        generalize (openAns k r).1 = N at *
        generalize (openAns k r).2.1 = T at *
        clear hg
        refine (Q1.out _ c4.out).mono ?_
        rintro e w6 ⟨rfl, h6⟩
        have c6 := hid (then_ c4.out h6)
        go_wp2_with (first
          | (go_at_call 12; refine (Q2.out _).mono ?_; rintro e w7 ⟨rfl, h7⟩; have c7 := hid (then_ c6.out h7))
          | (go_at_call 7; refine (Q3.out _ c7.out).mono ?_; rintro e w8 ⟨rfl, h8⟩; have c8 := hid (then_ c7.out h8)))
        go_ret
        exact ⟨rfl, c8.out⟩
      | false =>
        rw [hg] at Q1 Q2
        generalize (openAns k r).1 = N at *
        generalize (openAns k r).2.1 = T at *
        generalize (sealAns k N T).1 = Y at *
        generalize (sealAns k N T).2 = O at *
        clear hg
        refine (Q1.out _ c4.out).mono ?_
        rintro e w6 ⟨rfl, h6⟩
        have c6 := hid (then_ c4.out h6)
        go_wp2_with (first
          | (go_at_call 12; refine (Q2.out _).mono ?_; rintro e w7 ⟨rfl, h7⟩; have c7 := hid (then_ c6.out h7))
          | (go_at_call 7; refine (Q3.out _ c7.out).mono ?_; rintro e w8 ⟨rfl, h8⟩; have c8 := hid (then_ c7.out h8)))
        go_ret
        exact ⟨rfl, c8.out⟩
    | true =>
      have HO : Hid (openAns s (sealAns s b t).1 = (b, t, true)) := sealed_opened s b t ho
      have hst : strmOk s b t.size := by
        by_cases hh : strmOk s b t.size ∧ t.size ≤ 200
        · exact hh.1
        · rw [sealAns, if_neg hh] at ho; cases ho
      have hst9 : strmOk s b ((t.size : Int) + 9) := by unfold strmOk at hst ⊢; omega
      have hx := stream_more s b t.size hst9
      have hza := strmAns_size s b t.size hst
      have hzb : (strmAns s b ((t.size : Int) + 9)).1.size = t.size + 9 := strmAns_size s b (t.size + 9) hst9
      have U1 := hid (fun W => implStream_any s b (t.size : Int) W)
      have U2 := hid (fun W => implStream_any s b ((t.size : Int) + 9) W)
      have hzX : (sealAns s b t).1.size ≤ 1048576 := by have := sealAns_size s b t; omega
      have U3 := hid (fun W h => implOpened_any s (sealAns s b t).1 W hzX (HT.out W h))
      rw [HO.out] at U3
      rw [ho] at PS PT
      clear hst hst9 HO hzX
      generalize (sealAns s b t).1 = X at *
      generalize (strmAns s b (t.size : Int)).1 = A at *
      generalize (strmAns s b (t.size : Int)).2 = o1 at *
      generalize (strmAns s b ((t.size : Int) + 9)).1 = B at *
      generalize (strmAns s b ((t.size : Int) + 9)).2 = o2 at *
      have hle : (t.size : Int) ≤ (t.size : Int) + 9 := by omega
      have hle2 : (t.size : Int) ≤ (B.size : Int) := by omega
      refine (PS.out _ c1).mono ?_
      rintro e w2 ⟨rfl, h2⟩
      have c2 := hid (then_ c1 h2)
      go_wp2_with (first
        | (go_at_call 8; refine (PT.out _).mono ?_; rintro e w3 ⟨rfl, h3⟩; have c3 := hid (then_ c2.out h3))
        | (go_at_call 9; refine (U3.out _ c3.out).mono ?_; rintro e w4 ⟨rfl, h4⟩; have c4 := hid (then_ c3.out h4); clear U3)
        | (go_at_call 10; have mk' := mk; refine (U2.out _).mono ?_; rintro e w6 ⟨rfl, h6⟩; have c6 := hid (then_ c5.out h6))
        | (go_at_call 10; refine (U1.out _).mono ?_; rintro e w5 ⟨rfl, h5⟩; have c5 := hid (then_ c4.out h5); have mk : True := trivial)
        | (go_at_call 11; refine (P1.out _ c6.out).mono ?_; rintro e w7 ⟨k, r, rfl, hr, h7⟩; have c7' := hid (then_ c6.out h7)))
      have Q1 := hid (fun W h => implOpened_any k r W (by omega) (HT.out W h))
      have Q2 := hid (fun W => specOpened_any k r W (by omega))
      have Q3 := hid (fun W h => implSealed_any k (openAns k r).1 (openAns k r).2.1 W (HT.out W h))
      cases hg : (openAns k r).2.2 with
      | true =>
        rw [opened_sealed k r hg] at Q3
        rw [hg] at Q1 Q2
        generalize (openAns k r).1 = N at *
        generalize (openAns k r).2.1 = T at *
        clear hg
        refine (Q1.out _ c7'.out).mono ?_
        rintro e w6 ⟨rfl, h6⟩
        have c6 := hid (then_ c7'.out h6)
        go_wp2_with (first
          | (go_at_call 12; refine (Q2.out _).mono ?_; rintro e w7 ⟨rfl, h7⟩; have c7 := hid (then_ c6.out h7))
          | (go_at_call 7; refine (Q3.out _ c7.out).mono ?_; rintro e w8 ⟨rfl, h8⟩; have c8 := hid (then_ c7.out h8)))
        go_ret
        exact ⟨rfl, c8.out⟩
      | false =>
        rw [hg] at Q1 Q2
        generalize (openAns k r).1 = N at *
        generalize (openAns k r).2.1 = T at *
        generalize (sealAns k N T).1 = Y at *
        generalize (sealAns k N T).2 = O at *
        clear hg
        refine (Q1.out _ c7'.out).mono ?_
        rintro e w6 ⟨rfl, h6⟩
        have c6 := hid (then_ c7'.out h6)
        go_wp2_with (first
          | (go_at_call 12; refine (Q2.out _).mono ?_; rintro e w7 ⟨rfl, h7⟩; have c7 := hid (then_ c6.out h7))
          | (go_at_call 7; refine (Q3.out _ c7.out).mono ?_; rintro e w8 ⟨rfl, h8⟩; have c8 := hid (then_ c7.out h8)))
        go_ret
        exact ⟨rfl, c8.out⟩
  · have hn' : decide (1048576 < n) = true := decide_eq_true (by omega)
    go_enter Tryd.func3, Tryd.ntmps3
    go_wp2_with (go_at_call 5; refine (big_any a n cap _).mono ?_; rintro e w1 ⟨rfl, hw1⟩; subst w1)
    go_ret
    exact ⟨rfl, Below.refl _ _⟩
end Go.Proofs.YtbopcgokmgifhaaDoor
