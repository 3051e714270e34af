/- Crash: the program. -/
import Derived.Test.YtcchpeebhkiacaaMU
import Derived.Test.YtcchpeebhkiacaaMT
import Derived.Test.YtcchpeebhkiacaaMG
import Derived.Test.YtcchpeebhkiacaaEF
namespace Go.Proofs.Ytcchpeebhkiacaa
open Go Go.RowKit Go.Deep Go.Maps

set_option maxRecDepth 100000 in
set_option maxHeartbeats 16000000 in
theorem crashed_any (d : DiskV) (ka : Option Addr) (n kc : Nat) (g : Nat → Int) (t : Int) (w : World) (hd : d.at w) (hs : d.sz ≤ 1048576) (hn : n ≤ 1048576) (hk : IntsAt w ka n g) (T1 : Hid (dkOk d = true)) :
    Calls Try.prog 31 #[d.val, .slice ka n kc, .int .i64 t] w fun e w' => ∃ vl vs vo, e = .returned (.tuple #[.agg #[vl, vs, vo], .bool (crA d n g t).2]) ∧ AnsI w' w.heap.size vl vs vo (crA d n g t).1 (crA d n g t).1 [] ∧ Below w.heap.size w w' := by
  obtain ⟨A0, R0, b0⟩ := two_boxes w (.cells #[.slice d.live.a d.live.n d.live.k, .slice d.safe.a d.safe.n d.safe.k, .slice d.ops.a d.ops.n d.ops.k] 27) (.cells #[.slice none 0 0, .slice none 0 0, .slice none 0 0] 27)
  have HD := hid hd
  have HK := hid hk
  have zo : Hid (∀ i, i < d.ops.n → (d.ops.f i).wf ∧ (d.ops.f i).data.size ≤ 1048576) := hid (fun i hi => ⟨hd.2.2.2.2 i hi, by
    have h1 := tot_one (g := fun i => (d.ops.f i).sz) hi
    unfold DiskV.sz at hs
    simp only [OpV.sz] at h1 hs
    omega⟩)
  have C1 := hid (keepOk_any ka d.ops.a n kc d.ops.n d.ops.k g _ hn (hk.below b0))
  unfold DiskV.val
  obtain ⟨x0, x1, x2⟩ := A0.three
  obtain ⟨r0, r1, r2⟩ := R0.three
  have rf := R0.warm
  have NO : Hid (¬ (dkOk d = true ∧ 0 ≤ t ∧ kpAll n g d.ops.n = true ∧ okL (runK n g d.ops.f t d.safe.toL n) = true) → crA d n g t = ([], false)) := hid crA_no
  clear hd hs hk
  go_enter Try.func31, Try.ntmps31
  go_wp2_with fail
  refine C1.out.mono ?_
  rintro e w1 ⟨rfl, hb1⟩
  have A1 := A0.below hb1
  have R1 := R0.below hb1
  have B1 := then_ b0 hb1
  clear x0 x1 x2 r0 r1 r2 rf C1 A0 R0 b0 hb1
  obtain ⟨r0, r1, r2⟩ := R1.three
  have rf := R1.warm
  cases t1 : kpAll n g d.ops.n with
  | false =>
    have E := hid (NO.out (fun h => by rw [t1] at h; cases h.2.2.1))
    go_wp2
    refine bodyPost_ret (cr_results _ _ (w.heap.size + 1) (.slice none 0 0) (.slice none 0 0) (.slice none 0 0) (.bool false) Try.results31 (R1.put3 _ _ _) rfl rfl) rfl ⟨_, _, _, by rw [E.out], ?_, ?_⟩
    · rw [E.out]
      exact AnsI.none _ _
    · exact set3_low B1 (by omega) _ _ _
  | true =>
  by_cases t2 : t < 0
  · have E := hid (NO.out (fun h => by omega))
    go_wp2
    refine bodyPost_ret (cr_results _ _ (w.heap.size + 1) (.slice none 0 0) (.slice none 0 0) (.slice none 0 0) (.bool false) Try.results31 (R1.put3 _ _ _) rfl rfl) rfl ⟨_, _, _, by rw [E.out], ?_, ?_⟩
    · rw [E.out]
      exact AnsI.none _ _
    · exact set3_low B1 (by omega) _ _ _

  have KP := hid t1
  have T2 : Hid (0 ≤ t) := hid (by omega)
  have n2 : n ≤ 200 := Nat.le_trans (kp_few KP.out) (dkOk_safe T1.out).2
  have WAY : Hid (∀ i, i ≤ n → OnWay (runK n g d.ops.f t d.safe.toL i) i) := hid (runK_way (way0 HD.out T1.out) (dkOk_safe T1.out).2 KP.out (dkOk_forms T1.out) zo.out)
  have s60 : d.safe.n ≤ 60 := by
    have h1 := (dkOk_safe T1.out).1
    rw [okL_toL] at h1
    exact fsOk_len h1
  have C2 := hid (shelfOf_L d.safe w1 (HD.out.2.1.below B1) (by have h1 := (dkOk_safe T1.out).1; rw [okL_toL] at h1; exact h1))
  unfold FileL.val at C2
  obtain ⟨x0, x1, x2⟩ := A1.three
  clear t1 r0 r1 r2 rf
  go_wp2_with fail
  refine C2.out.mono ?_
  rintro e w2 ⟨c, rfl, S2, b2⟩
  have HA := hid A1
  have HR := hid R1
  have HB1 := hid B1
  have lR : w.heap.size + 1 < w1.heap.size := R1.lt
  clear C2 x0 x1 x2 A1 R1 B1
  go_wp2
  go_loopw [29] (fun i wr => ∃ k N Q : Nat, k ≤ n ∧ i = .int .i64 k ∧ N ≤ 60 + k ∧ Q ≤ 1 + k ∧ SL wr w1.heap.size c N Q (runK n g d.ops.f t d.safe.toL k) ∧ Below w1.heap.size w1 wr) (fun i _ => n - (intOf i).toNat)
  case atStart => exact ⟨0, d.safe.n, 1, Nat.zero_le _, rfl, by omega, by omega, S2, b2⟩
  case round =>
    clear S2 b2
    obtain ⟨k, N, Q, hk, rfl, hN, hQ, S, hB⟩ := hrel
    have HS := hid S
    have HN := hid hN
    have HQ := hid hQ
    have A := HA.out.below hB
    have HB := hid hB
    clear S hN hQ hB
    by_cases hlt' : k < n
    · obtain ⟨b, off, ea, hlt, hcc⟩ := (HK.out.below (then_ HB1.out HB.out)) (by omega)
      obtain ⟨hg0, hg1⟩ := kpOk_in (kpAll_at KP.out hlt')
      obtain ⟨m, hm⟩ : ∃ m : Nat, g k = (m : Int) := ⟨(g k).toNat, by omega⟩
      have g0 := hcc k hlt'
      rw [hm] at g0 hg0 hg1
      have hmn : m < d.ops.n := by omega
      obtain ⟨b', off', ea', hlt2, hcc'⟩ := (HD.out.2.2.2.1.below (then_ HB1.out HB.out)) (by omega)
      obtain ⟨h0, h1, h2, h3⟩ := hcc' m hmn
      obtain ⟨x0, x1, x2⟩ := A.three
      rw [ea'] at x2
      have HM := hid hm
      subst ea
      have i0 : (0 : Int) ≤ (k : Int) := by omega
      have i1 : (k : Int) < (n : Int) := by omega
      have wn : IntKind.i64.wrap ((n : Int) - 1) = (n : Int) - 1 := by rw [IntKind.wrap_i64]; omega
      have OK0 : Hid (opK n g d.ops.f t k = if k = n - 1 then cutO (d.ops.f m) t else d.ops.f m) := hid (by unfold opK; rw [HM.out]; rfl)
      have OB := Blk.new wr (.cells #[Value.int IntKind.i64 (d.ops.f m).kind, Value.string (d.ops.f m).name, Value.string (d.ops.f m).to, .string (d.ops.f m).data] 36)
      have bV : Below wr.heap.size wr (wr.alloc (.cells #[Value.int IntKind.i64 (d.ops.f m).kind, Value.string (d.ops.f m).name, Value.string (d.ops.f m).to, .string (d.ops.f m).data] 36)) := (Below.refl _ wr).alloc (Nat.le_refl _) _
      have WK := WAY.out k hk
      have GK := hid (opK_good (t := t) KP.out (dkOk_forms T1.out) zo.out hlt')
      have CG : Hid (∀ (W : World) (x : Int) (p q r : ByteArray), Below wr.heap.size wr W → opK n g d.ops.f t k = ⟨x, p, q, r⟩ → ∃ found, Chg ⟨x, p, q, r⟩ W w1.heap.size c N Q (runK n g d.ops.f t d.safe.toL k) 98 113 112 found ∨ Chg ⟨x, p, q, r⟩ W w1.heap.size c N Q (runK n g d.ops.f t d.safe.toL k) 99 117 116 found ∨ Chg ⟨x, p, q, r⟩ W w1.heap.size c N Q (runK n g d.ops.f t d.safe.toL k) 100 120 119 found) := hid (fun W x p q r hW he => by
        have h1 := GK.out
        rw [he] at h1
        have h2 := WK.bytes
        have h3 := WK.len
        have h4 := HN.out
        have h5 := HQ.out
        have h6 := h1.2.2
        refine chg_any ⟨x, p, q, r⟩ ⟨HS.out.below hW, WK.neat, h1.2.1, Nat.le_trans HB.out.size hW.size, by unfold maxLen; omega, by omega, ?_, by omega⟩ h1.1
        simp only at h6 ⊢
        omega)
      have BV := hid bV
      obtain ⟨z0, z1, z2, z3⟩ := OB.four
      have zf := OB.warm
      have OBH := hid OB
      clear hcc hcc' A hm ea' x0 x1 WK bV OB
      go_wp2_with fail
      · have e1 : ((k : Int) == (n : Int) - 1) = true := by assumption
        have HE1 : Hid (k = n - 1) := hid (by rw [beq_iff_eq] at e1; omega)
        have EO : Hid (opK n g d.ops.f t k = ⟨(d.ops.f m).kind, (d.ops.f m).name, (d.ops.f m).to, (d.ops.f m).data.extract 0 (min t ((d.ops.f m).data.size : Int)).toNat⟩) := hid (by rw [OK0.out, if_pos HE1.out]; rfl)
        have CL := hid (fun W => clone_any ((d.ops.f m).data.extract 0 (min t ((d.ops.f m).data.size : Int)).toNat) W (by rw [ByteArray.size_extract]; have := (zo.out m hmn).2; omega))
        refine (CL.out _).mono ?_
        rintro e wc ⟨rfl, hbc⟩
        have OC := OBH.out.below hbc
        have BC := then_ BV.out hbc
        obtain ⟨y0, y1, y2, y3⟩ := OC.four
        have yf := OC.warm
        have OX := OC.setAt (i := 3) (.string ((d.ops.f m).data.extract 0 (min t ((d.ops.f m).data.size : Int)).toNat))
        change Blk _ _ (.cells #[.int .i64 (d.ops.f m).kind, .string (d.ops.f m).name, .string (d.ops.f m).to, .string ((d.ops.f m).data.extract 0 (min t ((d.ops.f m).data.size : Int)).toNat)] _) at OX
        have BX : Hid (Below wr.heap.size wr (wc.setCell ⟨wr.heap.size, 3, none⟩ (.string ((d.ops.f m).data.extract 0 (min t ((d.ops.f m).data.size : Int)).toNat)))) := hid (BC.setCell (Nat.le_refl _) _)
        obtain ⟨v0, v1, v2, v3⟩ := OX.four
        clear z0 z1 z2 z3 zf hbc CL OC BC OX
        go_wp2_with fail
        obtain ⟨found, hc | hc | hc⟩ := CG.out _ _ _ _ _ BX.out EO.out
        · skip
          have CC := hid hc.ch
          have FF := hid hc.fi
          have GG := hid hc.go
          have NN := hid hc.no
          have m1 := hc.mf
          have m2 := hc.md
          clear hc
          unfold OpV.val at CC FF GG
          (try simp only at CC)
          (try simp only at FF)
          refine (CC.out _).mono ?_
          rintro e w3 ⟨rfl, hb3⟩
          have B3 := hid hb3
          clear hb3 CC y0 y1 y2 y3 yf v0 v1 v2 v3
          go_wp2_with fail
          refine (FF.out _ B3.out).mono ?_
          rintro e w4 ⟨rfl, hb4⟩
          have B4 := hid (then_ B3.out hb4)
          have X4 := hid (then_ (then_ HB.out BX.out) B4.out)
          clear hb4 FF
          cases found with
          | false =>
            have S4 : Hid (SL w4 w1.heap.size c N Q (runK n g d.ops.f t d.safe.toL (k + 1))) := hid (by
              show SL w4 w1.heap.size c N Q (doF (runK n g d.ops.f t d.safe.toL k).length (fileAt (runK n g d.ops.f t d.safe.toL k)) (opK n g d.ops.f t k)).1
              rw [EO.out, NN.out rfl]
              exact (HS.out.below BX.out).below B4.out)
            clear m1 m2 GG
            go_wp2
            go_roundw
            case rel => exact ⟨k + 1, N, Q, by omega, (by have h1 := HE1.out; first | go_num | exact congrArg (Value.int IntKind.i64) (by omega)), by have := HN.out; omega, by have := HQ.out; omega, S4.out, X4.out⟩
            case measure => simp [intOf]; omega
          | true =>
            have G2 := hid (GG.out rfl _ B4.out)
            (try simp only at G2)
            clear GG
            go_wp2_with fail
            refine G2.out.mono ?_
            rintro e w5 ⟨rfl, S5, hb5⟩
            have S6 : Hid (SL w5 w1.heap.size c (N + 1) (Q + 1) (runK n g d.ops.f t d.safe.toL (k + 1))) := hid (by
              show SL w5 w1.heap.size c (N + 1) (Q + 1) (doF (runK n g d.ops.f t d.safe.toL k).length (fileAt (runK n g d.ops.f t d.safe.toL k)) (opK n g d.ops.f t k)).1
              rw [EO.out]
              exact S5)
            have X5 := hid (X4.out.trans hb5)
            clear m1 m2 G2 S5 hb5
            go_wp2
            go_roundw
            case rel => exact ⟨k + 1, N + 1, Q + 1, by omega, (by have h1 := HE1.out; first | go_num | exact congrArg (Value.int IntKind.i64) (by omega)), by have := HN.out; omega, by have := HQ.out; omega, S6.out, X5.out⟩
            case measure => simp [intOf]; omega
        · skip
          have CC := hid hc.ch
          have FF := hid hc.fi
          have GG := hid hc.go
          have NN := hid hc.no
          have m1 := hc.mf
          have m2 := hc.md
          clear hc
          unfold OpV.val at CC FF GG
          (try simp only at CC)
          (try simp only at FF)
          refine (CC.out _).mono ?_
          rintro e w3 ⟨rfl, hb3⟩
          have B3 := hid hb3
          clear hb3 CC y0 y1 y2 y3 yf v0 v1 v2 v3
          go_wp2_with fail
          refine (FF.out _ B3.out).mono ?_
          rintro e w4 ⟨rfl, hb4⟩
          have B4 := hid (then_ B3.out hb4)
          have X4 := hid (then_ (then_ HB.out BX.out) B4.out)
          clear hb4 FF
          cases found with
          | false =>
            have S4 : Hid (SL w4 w1.heap.size c N Q (runK n g d.ops.f t d.safe.toL (k + 1))) := hid (by
              show SL w4 w1.heap.size c N Q (doF (runK n g d.ops.f t d.safe.toL k).length (fileAt (runK n g d.ops.f t d.safe.toL k)) (opK n g d.ops.f t k)).1
              rw [EO.out, NN.out rfl]
              exact (HS.out.below BX.out).below B4.out)
            clear m1 m2 GG
            go_wp2
            go_roundw
            case rel => exact ⟨k + 1, N, Q, by omega, (by have h1 := HE1.out; first | go_num | exact congrArg (Value.int IntKind.i64) (by omega)), by have := HN.out; omega, by have := HQ.out; omega, S4.out, X4.out⟩
            case measure => simp [intOf]; omega
          | true =>
            have G2 := hid (GG.out rfl _ B4.out)
            (try simp only at G2)
            clear GG
            go_wp2_with fail
            refine G2.out.mono ?_
            rintro e w5 ⟨rfl, S5, hb5⟩
            have S6 : Hid (SL w5 w1.heap.size c (N + 1) (Q + 1) (runK n g d.ops.f t d.safe.toL (k + 1))) := hid (by
              show SL w5 w1.heap.size c (N + 1) (Q + 1) (doF (runK n g d.ops.f t d.safe.toL k).length (fileAt (runK n g d.ops.f t d.safe.toL k)) (opK n g d.ops.f t k)).1
              rw [EO.out]
              exact S5)
            have X5 := hid (X4.out.trans hb5)
            clear m1 m2 G2 S5 hb5
            go_wp2
            go_roundw
            case rel => exact ⟨k + 1, N + 1, Q + 1, by omega, (by have h1 := HE1.out; first | go_num | exact congrArg (Value.int IntKind.i64) (by omega)), by have := HN.out; omega, by have := HQ.out; omega, S6.out, X5.out⟩
            case measure => simp [intOf]; omega
        · skip
          have CC := hid hc.ch
          have FF := hid hc.fi
          have GG := hid hc.go
          have NN := hid hc.no
          have m1 := hc.mf
          have m2 := hc.md
          clear hc
          unfold OpV.val at CC FF GG
          (try simp only at CC)
          (try simp only at FF)
          refine (CC.out _).mono ?_
          rintro e w3 ⟨rfl, hb3⟩
          have B3 := hid hb3
          clear hb3 CC y0 y1 y2 y3 yf v0 v1 v2 v3
          go_wp2_with fail
          refine (FF.out _ B3.out).mono ?_
          rintro e w4 ⟨rfl, hb4⟩
          have B4 := hid (then_ B3.out hb4)
          have X4 := hid (then_ (then_ HB.out BX.out) B4.out)
          clear hb4 FF
          cases found with
          | false =>
            have S4 : Hid (SL w4 w1.heap.size c N Q (runK n g d.ops.f t d.safe.toL (k + 1))) := hid (by
              show SL w4 w1.heap.size c N Q (doF (runK n g d.ops.f t d.safe.toL k).length (fileAt (runK n g d.ops.f t d.safe.toL k)) (opK n g d.ops.f t k)).1
              rw [EO.out, NN.out rfl]
              exact (HS.out.below BX.out).below B4.out)
            clear m1 m2 GG
            go_wp2
            go_roundw
            case rel => exact ⟨k + 1, N, Q, by omega, (by have h1 := HE1.out; first | go_num | exact congrArg (Value.int IntKind.i64) (by omega)), by have := HN.out; omega, by have := HQ.out; omega, S4.out, X4.out⟩
            case measure => simp [intOf]; omega
          | true =>
            have G2 := hid (GG.out rfl _ B4.out)
            (try simp only at G2)
            clear GG
            go_wp2_with fail
            refine G2.out.mono ?_
            rintro e w5 ⟨rfl, S5, hb5⟩
            have S6 : Hid (SL w5 w1.heap.size c (N + 1) (Q + 1) (runK n g d.ops.f t d.safe.toL (k + 1))) := hid (by
              show SL w5 w1.heap.size c (N + 1) (Q + 1) (doF (runK n g d.ops.f t d.safe.toL k).length (fileAt (runK n g d.ops.f t d.safe.toL k)) (opK n g d.ops.f t k)).1
              rw [EO.out]
              exact S5)
            have X5 := hid (X4.out.trans hb5)
            clear m1 m2 G2 S5 hb5
            go_wp2
            go_roundw
            case rel => exact ⟨k + 1, N + 1, Q + 1, by omega, (by have h1 := HE1.out; first | go_num | exact congrArg (Value.int IntKind.i64) (by omega)), by have := HN.out; omega, by have := HQ.out; omega, S6.out, X5.out⟩
            case measure => simp [intOf]; omega
      · have e1 : ¬ k = n - 1 := by
          have h1 : ((k : Int) == (n : Int) - 1) = false := by first | assumption | exact Bool.not_eq_true _ ▸ (by assumption)
          rw [beq_eq_false_iff_ne] at h1
          omega
        have EO : Hid (opK n g d.ops.f t k = d.ops.f m) := hid (by rw [OK0.out, if_neg e1])
        have HE1 := hid e1
        clear e1
        obtain ⟨found, hc | hc | hc⟩ := CG.out _ _ _ _ _ BV.out EO.out
        · skip
          have CC := hid hc.ch
          have FF := hid hc.fi
          have GG := hid hc.go
          have NN := hid hc.no
          have m1 := hc.mf
          have m2 := hc.md
          clear hc
          unfold OpV.val at CC FF GG
          (try simp only at CC)
          (try simp only at FF)
          refine (CC.out _).mono ?_
          rintro e w3 ⟨rfl, hb3⟩
          have B3 := hid hb3
          clear hb3 CC z0 z1 z2 z3 zf
          go_wp2_with fail
          refine (FF.out _ B3.out).mono ?_
          rintro e w4 ⟨rfl, hb4⟩
          have B4 := hid (then_ B3.out hb4)
          have X4 := hid (then_ (then_ HB.out BV.out) B4.out)
          clear hb4 FF
          cases found with
          | false =>
            have S4 : Hid (SL w4 w1.heap.size c N Q (runK n g d.ops.f t d.safe.toL (k + 1))) := hid (by
              show SL w4 w1.heap.size c N Q (doF (runK n g d.ops.f t d.safe.toL k).length (fileAt (runK n g d.ops.f t d.safe.toL k)) (opK n g d.ops.f t k)).1
              rw [EO.out, NN.out rfl]
              exact (HS.out.below BV.out).below B4.out)
            clear m1 m2 GG
            go_wp2
            go_roundw
            case rel => exact ⟨k + 1, N, Q, by omega, by go_num, by have := HN.out; omega, by have := HQ.out; omega, S4.out, X4.out⟩
            case measure => simp [intOf]; omega
          | true =>
            have G2 := hid (GG.out rfl _ B4.out)
            (try simp only at G2)
            clear GG
            go_wp2_with fail
            refine G2.out.mono ?_
            rintro e w5 ⟨rfl, S5, hb5⟩
            have S6 : Hid (SL w5 w1.heap.size c (N + 1) (Q + 1) (runK n g d.ops.f t d.safe.toL (k + 1))) := hid (by
              show SL w5 w1.heap.size c (N + 1) (Q + 1) (doF (runK n g d.ops.f t d.safe.toL k).length (fileAt (runK n g d.ops.f t d.safe.toL k)) (opK n g d.ops.f t k)).1
              rw [EO.out]
              exact S5)
            have X5 := hid (X4.out.trans hb5)
            clear m1 m2 G2 S5 hb5
            go_wp2
            go_roundw
            case rel => exact ⟨k + 1, N + 1, Q + 1, by omega, by go_num, by have := HN.out; omega, by have := HQ.out; omega, S6.out, X5.out⟩
            case measure => simp [intOf]; omega
        · skip
          have CC := hid hc.ch
          have FF := hid hc.fi
          have GG := hid hc.go
          have NN := hid hc.no
          have m1 := hc.mf
          have m2 := hc.md
          clear hc
          unfold OpV.val at CC FF GG
          (try simp only at CC)
          (try simp only at FF)
          refine (CC.out _).mono ?_
          rintro e w3 ⟨rfl, hb3⟩
          have B3 := hid hb3
          clear hb3 CC z0 z1 z2 z3 zf
          go_wp2_with fail
          refine (FF.out _ B3.out).mono ?_
          rintro e w4 ⟨rfl, hb4⟩
          have B4 := hid (then_ B3.out hb4)
          have X4 := hid (then_ (then_ HB.out BV.out) B4.out)
          clear hb4 FF
          cases found with
          | false =>
            have S4 : Hid (SL w4 w1.heap.size c N Q (runK n g d.ops.f t d.safe.toL (k + 1))) := hid (by
              show SL w4 w1.heap.size c N Q (doF (runK n g d.ops.f t d.safe.toL k).length (fileAt (runK n g d.ops.f t d.safe.toL k)) (opK n g d.ops.f t k)).1
              rw [EO.out, NN.out rfl]
              exact (HS.out.below BV.out).below B4.out)
            clear m1 m2 GG
            go_wp2
            go_roundw
            case rel => exact ⟨k + 1, N, Q, by omega, by go_num, by have := HN.out; omega, by have := HQ.out; omega, S4.out, X4.out⟩
            case measure => simp [intOf]; omega
          | true =>
            have G2 := hid (GG.out rfl _ B4.out)
            (try simp only at G2)
            clear GG
            go_wp2_with fail
            refine G2.out.mono ?_
            rintro e w5 ⟨rfl, S5, hb5⟩
            have S6 : Hid (SL w5 w1.heap.size c (N + 1) (Q + 1) (runK n g d.ops.f t d.safe.toL (k + 1))) := hid (by
              show SL w5 w1.heap.size c (N + 1) (Q + 1) (doF (runK n g d.ops.f t d.safe.toL k).length (fileAt (runK n g d.ops.f t d.safe.toL k)) (opK n g d.ops.f t k)).1
              rw [EO.out]
              exact S5)
            have X5 := hid (X4.out.trans hb5)
            clear m1 m2 G2 S5 hb5
            go_wp2
            go_roundw
            case rel => exact ⟨k + 1, N + 1, Q + 1, by omega, by go_num, by have := HN.out; omega, by have := HQ.out; omega, S6.out, X5.out⟩
            case measure => simp [intOf]; omega
        · skip
          have CC := hid hc.ch
          have FF := hid hc.fi
          have GG := hid hc.go
          have NN := hid hc.no
          have m1 := hc.mf
          have m2 := hc.md
          clear hc
          unfold OpV.val at CC FF GG
          (try simp only at CC)
          (try simp only at FF)
          refine (CC.out _).mono ?_
          rintro e w3 ⟨rfl, hb3⟩
          have B3 := hid hb3
          clear hb3 CC z0 z1 z2 z3 zf
          go_wp2_with fail
          refine (FF.out _ B3.out).mono ?_
          rintro e w4 ⟨rfl, hb4⟩
          have B4 := hid (then_ B3.out hb4)
          have X4 := hid (then_ (then_ HB.out BV.out) B4.out)
          clear hb4 FF
          cases found with
          | false =>
            have S4 : Hid (SL w4 w1.heap.size c N Q (runK n g d.ops.f t d.safe.toL (k + 1))) := hid (by
              show SL w4 w1.heap.size c N Q (doF (runK n g d.ops.f t d.safe.toL k).length (fileAt (runK n g d.ops.f t d.safe.toL k)) (opK n g d.ops.f t k)).1
              rw [EO.out, NN.out rfl]
              exact (HS.out.below BV.out).below B4.out)
            clear m1 m2 GG
            go_wp2
            go_roundw
            case rel => exact ⟨k + 1, N, Q, by omega, by go_num, by have := HN.out; omega, by have := HQ.out; omega, S4.out, X4.out⟩
            case measure => simp [intOf]; omega
          | true =>
            have G2 := hid (GG.out rfl _ B4.out)
            (try simp only at G2)
            clear GG
            go_wp2_with fail
            refine G2.out.mono ?_
            rintro e w5 ⟨rfl, S5, hb5⟩
            have S6 : Hid (SL w5 w1.heap.size c (N + 1) (Q + 1) (runK n g d.ops.f t d.safe.toL (k + 1))) := hid (by
              show SL w5 w1.heap.size c (N + 1) (Q + 1) (doF (runK n g d.ops.f t d.safe.toL k).length (fileAt (runK n g d.ops.f t d.safe.toL k)) (opK n g d.ops.f t k)).1
              rw [EO.out]
              exact S5)
            have X5 := hid (X4.out.trans hb5)
            clear m1 m2 G2 S5 hb5
            go_wp2
            go_roundw
            case rel => exact ⟨k + 1, N + 1, Q + 1, by omega, by go_num, by have := HN.out; omega, by have := HQ.out; omega, S6.out, X5.out⟩
            case measure => simp [intOf]; omega
    · have ek : n = k := by omega
      subst ek
      have WK := WAY.out n (Nat.le_refl _)
      have h2 := WK.bytes
      have h3 := WK.len
      have h4 := HN.out
      have h5 := HQ.out
      have C5 := hid (fitsL HS.out WK.neat (by omega) (by omega))
      have CF : Hid (∀ W, Below wr.heap.size wr W → Calls Try.prog 26 #[.map (some c)] W fun e w' => ∃ v, e = .returned v ∧ OwnF w' W.heap.size v (runK n g d.ops.f t d.safe.toL n) ∧ Below W.heap.size W w') := hid (fun W hW => files_any (HS.out.below hW) WK.neat.rise (by omega) WK.wf (by omega) (by omega) (by omega))
      clear WK h2 h3 h4 h5
      go_wp2_with fail
      refine C5.out.mono ?_
      rintro e w3 ⟨rfl, hb3⟩
      have X3 := hid (then_ HB.out hb3)
      have R3 := HR.out.below X3.out
      have B3 := then_ HB1.out X3.out
      have H3 := hid hb3
      clear C5 hb3 A
      cases t6 : okL (runK n g d.ops.f t d.safe.toL n) with
      | false =>
        have E := hid (NO.out (fun h => by have h1 := h.2.2.2; rw [t6] at h1; cases h1))
        obtain ⟨r0, r1, r2⟩ := R3.three
        have rf := R3.warm
        go_wp2
        refine bodyPost_ret (cr_results _ _ (w.heap.size + 1) (.slice none 0 0) (.slice none 0 0) (.slice none 0 0) (.bool false) Try.results31 (R3.put3 _ _ _) rfl rfl) rfl ⟨_, _, _, by rw [E.out], ?_, ?_⟩
        · rw [E.out]
          exact AnsI.none _ _
        · exact set3_low B3 (by omega) _ _ _
      | true =>
        have E := hid (crA_yes ⟨T1.out, T2.out, KP.out, t6⟩)
        clear t6
        go_wp2_with fail
        refine (CF.out _ H3.out).mono ?_
        rintro e w4 ⟨v4, rfl, O4, hb4⟩
        have H4 := hid (then_ H3.out hb4)
        have HO4 := hid O4
        have HB4 := hid hb4
        clear O4 hb4
        go_wp2_with fail
        refine (CF.out _ H4.out).mono ?_
        rintro e w5 ⟨v5, rfl, O5, hb5⟩
        have R5 := (R3.below HB4.out).below hb5
        have B5 := then_ (then_ B3 HB4.out) hb5
        have HO5 := hid O5
        have P4 := hid (HO4.out.below hb5)
        have AP := hid (own_apart HO4.out HO5.out)
        have l4 : w.heap.size ≤ w4.heap.size := (then_ B3 HB4.out).size
        have l3 : w.heap.size ≤ w3.heap.size := B3.size
        obtain ⟨r0, r1, r2⟩ := R5.three
        have rf := R5.warm
        obtain ⟨a4, c4, rfl⟩ := ownsRow_shape HO4.out
        obtain ⟨a5, c5, rfl⟩ := ownsRow_shape HO5.out
        clear O5 hb5
        go_wp2
        refine bodyPost_ret (cr_results _ _ (w.heap.size + 1) _ _ (.slice none 0 0) (.bool true) Try.results31 (R5.put3 _ _ _) rfl rfl) rfl ⟨_, _, _, by rw [E.out], ?_, ?_⟩
        · rw [E.out]
          exact AnsI.set3 ⟨own_base P4.out l3, own_base HO5.out l4, OwnO.nil _ _, AP.out⟩ R5 _ _ _
        · exact set3_low B5 (by omega) _ _ _
set_option maxRecDepth 100000 in
set_option maxHeartbeats 4000000 in
theorem implCrash_any (d : DiskV) (ka : Option Addr) (n kc : Nat) (g : Nat → Int) (t : Int) (w : World) (hd : d.at w) (hs : d.sz ≤ 1048576) (hn : n ≤ 1048576) (hk : IntsAt w ka n g) :
    Calls Try.prog 10 #[d.val, .slice ka n kc, .int .i64 t] w fun e w' => ∃ vl vs vo, e = .returned (.tuple #[.agg #[vl, vs, vo], .bool (crA d n g t).2]) ∧ AnsI w' w.heap.size vl vs vo (crA d n g t).1 (crA d n g t).1 [] ∧ Below w.heap.size w w' := by
  obtain ⟨A0, R0, b0⟩ := two_boxes w (.cells #[.slice d.live.a d.live.n d.live.k, .slice d.safe.a d.safe.n d.safe.k, .slice d.ops.a d.ops.n d.ops.k] 27) (.cells #[.slice none 0 0, .slice none 0 0, .slice none 0 0] 27)
  have C1 := hid (implDisk_any d _ (hd.below b0) hs)
  have C2 : Hid (dkOk d = true → ∀ W, Below w.heap.size w W → Calls Try.prog 31 #[d.val, .slice ka n kc, .int .i64 t] W fun e w' => ∃ vl vs vo, e = .returned (.tuple #[.agg #[vl, vs, vo], .bool (crA d n g t).2]) ∧ AnsI w' W.heap.size vl vs vo (crA d n g t).1 (crA d n g t).1 [] ∧ Below W.heap.size W w') := hid (fun h W hW => crashed_any d ka n kc g t W (hd.below hW) hs hn (hk.below hW) (hid h))
  have NO : Hid (¬ (dkOk d = true ∧ 0 ≤ t ∧ kpAll n g d.ops.n = true ∧ okL (runK n g d.ops.f t d.safe.toL n) = true) → crA d n g t = ([], false)) := hid crA_no
  unfold DiskV.val at C1 C2 ⊢
  obtain ⟨x0, x1, x2⟩ := A0.three
  obtain ⟨r0, r1, r2⟩ := R0.three
  have rf := R0.warm
  clear hd hs hk
  go_enter Try.func10, Try.ntmps10
  go_wp2_with fail
  refine C1.out.mono ?_
  rintro e w1 ⟨rfl, hb1⟩
  have A1 := A0.below hb1
  have R1 := R0.below hb1
  have B1 := then_ b0 hb1
  clear x0 x1 x2 r0 r1 r2 rf C1 A0 R0 b0 hb1
  cases t1 : dkOk d with
  | false =>
    have E := hid (NO.out (fun h => by rw [t1] at h; cases h.1))
    obtain ⟨r0, r1, r2⟩ := R1.three
    have rf := R1.warm
    go_wp2
    refine bodyPost_ret (cr_results _ _ (w.heap.size + 1) (.slice none 0 0) (.slice none 0 0) (.slice none 0 0) (.bool false) Try.results10 (R1.put3 _ _ _) rfl rfl) rfl ⟨_, _, _, by rw [E.out], ?_, ?_⟩
    · rw [E.out]
      exact AnsI.none _ _
    · exact set3_low B1 (by omega) _ _ _
  | true =>
    have C3 := hid (C2.out t1 _ B1)
    obtain ⟨x0, x1, x2⟩ := A1.three
    clear t1 C2
    go_wp2_with fail
    refine C3.out.mono ?_
    rintro e w2 ⟨vl, vs, vo, rfl, hA, hb⟩
    have R2 := R1.below hb
    have B2 := then_ B1 hb
    have HA := hid (hA.base B1.size)
    obtain ⟨⟨al, cl, rfl⟩, ⟨aq, cq, rfl⟩, ⟨ao, co, rfl⟩⟩ := hA.rowD.shapes
    obtain ⟨r0, r1, r2⟩ := R2.three
    have rf := R2.warm
    clear x0 x1 x2 hA hb
    go_wp2
    refine bodyPost_ret (cr_results _ _ (w.heap.size + 1) _ _ _ (.bool (crA d n g t).2) Try.results10 (R2.put3 _ _ _) rfl rfl) rfl ⟨_, _, _, rfl, ?_, ?_⟩
    · exact HA.out.set3 R2 _ _ _
    · exact set3_low B2 (by omega) _ _ _
end Go.Proofs.Ytcchpeebhkiacaa
