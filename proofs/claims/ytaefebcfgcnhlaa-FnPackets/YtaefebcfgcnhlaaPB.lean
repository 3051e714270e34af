/- FnPackets, its walk. -/
import Derived.Test.YtaefebcfgcnhlaaDB
import Derived.Test.YtaefebcfgcnhlaaPA
namespace Go.Proofs.Ytaefebcfgcnhlaa
open Go Go.RowKit Go.Deep Go.Maps

set_option maxRecDepth 100000 in
set_option maxHeartbeats 4000000 in
theorem packets_walk (a : Option Addr) (n cap : Nat) (w : World) (hb : BytesAt w a n) : Calls Try.prog 3 #[.slice a n cap] w fun e w' => e = .returned (.bool true) ∧ Below w.heap.size w w' := by
  by_cases hn : n ≤ 1048576
  · have hn' : decide (1048576 < n) = false := decide_eq_false (by omega)
    have P0 := hid (drawPacket_any a n cap w hn hb)
    have P1 : Hid (∀ W, Below w.heap.size w W → Calls Try.prog 12 #[.slice a n cap] W fun e w' => ∃ t : ByteArray, e = .returned (.string t) ∧ t.size ≤ 1000 ∧ Below W.heap.size W w') := fun W h => drawRead_any a n cap W hn (hb.below h)
    clear hb
    go_enter Try.func3, Try.ntmps3
    go_wp2_with (go_at_call 6; refine (big_any a n cap _).mono ?_; rintro e w1 ⟨rfl, hw1⟩; subst w1)
    refine P0.out.mono ?_
    rintro e w1 ⟨f, t, k, B, rfl, hz, c1⟩
    obtain ⟨l, rfl⟩ : ∃ l : List UInt8, B = ⟨l.toArray⟩ := ⟨B.data.toList, by cases B; simp⟩
    have hl : l.length ≤ 10 := by have := size_ofR l; omega
    clear P0 hz
    unfold pk
    have T1 := hid (fun W => implText_any f t k l W)
    have T2 := hid (fun W => specText_any f t k l W (by unfold maxLen; omega))
    have hpl : (ptext f t k l).length ≤ 214 := ptext_len
    have T3 := hid (fun W => implRead_any ⟨(ptext f t k l).toArray⟩ W (by rw [size_ofR]; omega))
    have hc1 := hid (c1.alloc c1.size (.cells #[.int .i64 f, .int .i64 t, .int .i64 k, .string ⟨l.toArray⟩] 25))
    cases hp : pOk f t k l with
    | true =>
      obtain ⟨rf, rt, rk, rB, rd⟩ := text_read f t k l hp
      have hsum := text_sum f t k l hp
      have T4 := hid (fun W => implSum_any ⟨(ptext f t k l).toArray⟩ W (by rw [size_ofR]; omega))
      rw [hsum] at T4
      rw [rd] at T3
      simp only [rdV, if_true, rf, rt, rk, rB] at T3
      have hne : ptext f t k l ≠ [] := fun e0 => by rw [e0] at rd; cases rd
      have hX : (⟨(ptext f t k l).toArray⟩ : ByteArray).toList ≠ [] := by
        rw [ByteArray.toList_eq]
        simpa using hne
      generalize (⟨(ptext f t k l).toArray⟩ : ByteArray) = X at *
      clear rf rt rk rB rd hsum hne hpl hp
      have hX' : X.toList.isEmpty = false := by cases h : X.toList with
        | nil => exact absurd h hX
        | cons _ _ => rfl
      have hX2 : (X.toList == []) = false := beq_eq_false_iff_ne.2 hX
      clear hX
      have A1 := hid (Blk.new w1 (.cells #[.int .i64 f, .int .i64 t, .int .i64 k, .string ⟨l.toArray⟩] 25))
      have AN : Hid (∀ W : World, Blk (W.alloc (.cells #[.int .i64 f, .int .i64 t, .int .i64 k, .string ⟨l.toArray⟩] 25)) W.heap.size (.cells #[.int .i64 f, .int .i64 t, .int .i64 k, .string ⟨l.toArray⟩] 25)) := fun W => Blk.new W _
      go_wp2_with (first
        | (go_at_call 8; refine (T1.out _).mono ?_; rintro e w2 ⟨rfl, h2⟩; have c2 := hid (then_ hc1.out h2); have A2 := hid (A1.out.below h2))
        | (go_at_call 9; refine (T3.out _).mono ?_; rintro e w3 ⟨rfl, h3⟩; have c3 := hid (then_ c2.out h3); have A3 := hid (A2.out.below h3); obtain ⟨p0, p1, p2, p3⟩ := A3.out.four; have pl := A3.out.lt; have c3' := hid (c3.out.alloc c3.out.size (.cells #[.int .i64 f, .int .i64 t, .int .i64 k, .string ⟨l.toArray⟩] 25)); clear T3)
        | (go_at_call 10; refine (T2.out _).mono ?_; rintro e w4 ⟨rfl, h4⟩; have c4 := hid (then_ c3'.out h4); have A4 := hid ((A3.out.alloc (.cells #[.int .i64 f, .int .i64 t, .int .i64 k, .string ⟨l.toArray⟩] 25)).below h4); obtain ⟨s0, s1, s2, s3⟩ := A4.out.four; have B4 := hid ((AN.out w3).below h4); obtain ⟨r0, r1, r2, r3⟩ := B4.out.four)
        | (go_at_call 11; refine (T4.out _).mono ?_; rintro e w5 ⟨rfl, hw5⟩; subst w5)
        | (go_at_call 12; refine (P1.out _ c4.out).mono ?_; rintro e w5 ⟨u, rfl, hu, h5⟩; have c5 := hid (then_ c4.out h5)))
      have U1 := hid (fun W => implRead_any u W (by omega))
      have U2 := hid (fun W => specRead_any u W (by omega))
      cases hq : rdp u with
      | true =>
        rw [hq] at U1 U2
        have hpt : (⟨(ptext (fromOf u) (toOf u) (kindOf u) (bodyOf u)).toArray⟩ : ByteArray) = u := by
          by_cases h14 : 14 ≤ u.size
          · exact (rdp_iff h14).1 hq
          · rw [rdp_short h14] at hq; cases hq
        have U3 := hid (fun W => implText_any (fromOf u) (toOf u) (kindOf u) (bodyOf u) W)
        rw [hpt] at U3
        simp only [rdV, if_true] at U1 U2
        generalize fromOf u = F at *
        generalize toOf u = T at *
        generalize kindOf u = K at *
        generalize (bodyOf u) = D at *
        clear hpt hq
        have AQ : Hid (∀ W : World, Blk (W.alloc (.cells #[.int .i64 F, .int .i64 T, .int .i64 K, .string ⟨D.toArray⟩] 25)) W.heap.size (.cells #[.int .i64 F, .int .i64 T, .int .i64 K, .string ⟨D.toArray⟩] 25)) := fun W => Blk.new W _
        refine (U1.out _).mono ?_
        rintro e w6 ⟨rfl, h6⟩
        have c6 := hid (then_ c5.out h6)
        have c6' := hid (c6.out.alloc c6.out.size (.cells #[.int .i64 F, .int .i64 T, .int .i64 K, .string ⟨D.toArray⟩] 25))
        go_wp2_with (first
          | (go_at_call 13; refine (U2.out _).mono ?_; rintro e w7 ⟨rfl, h7⟩; have c7 := hid (then_ c6'.out h7); have c7' := hid (c7.out.alloc c7.out.size (.cells #[.int .i64 F, .int .i64 T, .int .i64 K, .string ⟨D.toArray⟩] 25)); obtain ⟨y0, y1, y2, y3⟩ := ((AQ.out w6).below h7).four; have yl := ((AQ.out w6).below h7).lt)
          | (go_at_call 8; refine (U3.out _).mono ?_; rintro e w8 ⟨rfl, h8⟩; have c8 := hid (then_ c7'.out h8)))
        go_ret
        exact ⟨rfl, c8.out⟩
      | false =>
        rw [hq] at U1 U2
        simp only [rdV] at U1 U2
        clear hq
        refine (U1.out _).mono ?_
        rintro e w6 ⟨rfl, h6⟩
        have c6 := hid (then_ c5.out h6)
        have c6' := hid (c6.out.alloc c6.out.size (.cells #[.int .i64 0, .int .i64 0, .int .i64 0, .string ⟨#[]⟩] 25))
        go_wp2_with (first
          | (go_at_call 13; refine (U2.out _).mono ?_; rintro e w7 ⟨rfl, h7⟩; have c7 := hid (then_ c6'.out h7); have c7' := hid (c7.out.alloc c7.out.size (.cells #[.int .i64 0, .int .i64 0, .int .i64 0, .string ⟨#[]⟩] 25))))
        go_ret
        exact ⟨rfl, c7'.out⟩
    | false =>
      have e0 := text_none f t k l hp
      have rd : rdp ⟨([] : List UInt8).toArray⟩ = false := rdp_short (by decide)
      rw [e0] at T1 T2 T3
      rw [rd] at T3
      simp only [rdV] at T3
      clear hp e0 rd hpl
      have A1 := hid (Blk.new w1 (.cells #[.int .i64 f, .int .i64 t, .int .i64 k, .string ⟨l.toArray⟩] 25))
      go_wp2_with (first
        | (go_at_call 8; refine (T1.out _).mono ?_; rintro e w2 ⟨rfl, h2⟩; have c2 := hid (then_ hc1.out h2); have A2 := hid (A1.out.below h2))
        | (go_at_call 9; refine (T3.out _).mono ?_; rintro e w3 ⟨rfl, h3⟩; have c3 := hid (then_ c2.out h3); have A3 := hid (A2.out.below h3); obtain ⟨p0, p1, p2, p3⟩ := A3.out.four; have pl := A3.out.lt; have c3' := hid (c3.out.alloc c3.out.size (.cells #[.int .i64 0, .int .i64 0, .int .i64 0, .string ⟨#[]⟩] 25)); clear T3)
        | (go_at_call 10; refine (T2.out _).mono ?_; rintro e w4 ⟨rfl, h4⟩; have c4 := hid (then_ c3'.out h4))
        | (go_at_call 12; refine (P1.out _ c4.out).mono ?_; rintro e w5 ⟨u, rfl, hu, h5⟩; have c5 := hid (then_ c4.out h5)))
      have U1 := hid (fun W => implRead_any u W (by omega))
      have U2 := hid (fun W => specRead_any u W (by omega))
      cases hq : rdp u with
      | true =>
        rw [hq] at U1 U2
        have hpt : (⟨(ptext (fromOf u) (toOf u) (kindOf u) (bodyOf u)).toArray⟩ : ByteArray) = u := by
          by_cases h14 : 14 ≤ u.size
          · exact (rdp_iff h14).1 hq
          · rw [rdp_short h14] at hq; cases hq
        have U3 := hid (fun W => implText_any (fromOf u) (toOf u) (kindOf u) (bodyOf u) W)
        rw [hpt] at U3
        simp only [rdV, if_true] at U1 U2
        generalize fromOf u = F at *
        generalize toOf u = T at *
        generalize kindOf u = K at *
        generalize (bodyOf u) = D at *
        clear hpt hq
        have AQ : Hid (∀ W : World, Blk (W.alloc (.cells #[.int .i64 F, .int .i64 T, .int .i64 K, .string ⟨D.toArray⟩] 25)) W.heap.size (.cells #[.int .i64 F, .int .i64 T, .int .i64 K, .string ⟨D.toArray⟩] 25)) := fun W => Blk.new W _
        refine (U1.out _).mono ?_
        rintro e w6 ⟨rfl, h6⟩
        have c6 := hid (then_ c5.out h6)
        have c6' := hid (c6.out.alloc c6.out.size (.cells #[.int .i64 F, .int .i64 T, .int .i64 K, .string ⟨D.toArray⟩] 25))
        go_wp2_with (first
          | (go_at_call 13; refine (U2.out _).mono ?_; rintro e w7 ⟨rfl, h7⟩; have c7 := hid (then_ c6'.out h7); have c7' := hid (c7.out.alloc c7.out.size (.cells #[.int .i64 F, .int .i64 T, .int .i64 K, .string ⟨D.toArray⟩] 25)); obtain ⟨y0, y1, y2, y3⟩ := ((AQ.out w6).below h7).four; have yl := ((AQ.out w6).below h7).lt)
          | (go_at_call 8; refine (U3.out _).mono ?_; rintro e w8 ⟨rfl, h8⟩; have c8 := hid (then_ c7'.out h8)))
        go_ret
        exact ⟨rfl, c8.out⟩
      | false =>
        rw [hq] at U1 U2
        simp only [rdV] at U1 U2
        clear hq
        refine (U1.out _).mono ?_
        rintro e w6 ⟨rfl, h6⟩
        have c6 := hid (then_ c5.out h6)
        have c6' := hid (c6.out.alloc c6.out.size (.cells #[.int .i64 0, .int .i64 0, .int .i64 0, .string ⟨#[]⟩] 25))
        go_wp2_with (first
          | (go_at_call 13; refine (U2.out _).mono ?_; rintro e w7 ⟨rfl, h7⟩; have c7 := hid (then_ c6'.out h7); have c7' := hid (c7.out.alloc c7.out.size (.cells #[.int .i64 0, .int .i64 0, .int .i64 0, .string ⟨#[]⟩] 25))))
        go_ret
        exact ⟨rfl, c7'.out⟩
  · have hn' : decide (1048576 < n) = true := decide_eq_true (by omega)
    go_enter Try.func3, Try.ntmps3
    go_wp2_with (go_at_call 6; refine (big_any a n cap _).mono ?_; rintro e w1 ⟨rfl, hw1⟩; subst w1)
    go_ret
    exact ⟨rfl, Below.refl _ _⟩
end Go.Proofs.Ytaefebcfgcnhlaa
