/- The reader's disks. -/
import Derived.Test.YtcchpeebhkiacaaZH
namespace Go.Proofs.Ytcchpeebhkiacaa
open Go Go.RowKit Go.Deep Go.Maps

theorem grown_new3 {w W : World} {rb P : Nat} (h : w.grownBy W (some rb)) (hP : w.heap.size ≤ P) (x y z : Value) : w.grownBy (((W.setCell ⟨P, 0, none⟩ x).setCell ⟨P, 1, none⟩ y).setCell ⟨P, 2, none⟩ z) (some rb) := grown_new (grown_new (grown_new h hP) hP) hP
theorem Rd.new3 {w0 W : World} {rb P : Nat} {a : Option Addr} {n cap : Nat} (h : Rd w0 W rb a n cap) (hP : w0.heap.size ≤ P) (hne : P ≠ rb) (x y z : Value) : Rd w0 (((W.setCell ⟨P, 0, none⟩ x).setCell ⟨P, 1, none⟩ y).setCell ⟨P, 2, none⟩ z) rb a n cap := ((h.new hP hne).new hP hne).new hP hne
theorem Blk.put3' {W : World} {P t : Nat} {a b c : Value} (h : Blk W P (.cells #[a, b, c] t)) (x y z : Value) : Blk (((W.setCell ⟨P, 0, none⟩ x).setCell ⟨P, 1, none⟩ y).setCell ⟨P, 2, none⟩ z) P (.cells #[x, y, z] t) := ((h.setAt (i := 0) x).setAt (i := 1) y).setAt (i := 2) z
theorem Blk.other3 {W : World} {P Q : Nat} {o : Obj} (h : Blk W P o) (hne : Q ≠ P) (x y z : Value) : Blk (((W.setCell ⟨Q, 0, none⟩ x).setCell ⟨Q, 1, none⟩ y).setCell ⟨Q, 2, none⟩ z) P o := ((h.other hne x).other hne y).other hne z
theorem Rd.under {w0 W W' : World} {rb B : Nat} {a : Option Addr} {n cap : Nat} (h : Rd w0 W rb a n cap) (hb : Below B W W') (hB : w0.heap.size ≤ B) (hr : rb < B) : Rd w0 W' rb a n cap := by
  obtain ⟨E, le, by_, hn, p, hp, hB'⟩ := h
  exact ⟨E.trans (hb.mono hB), le, by_, hn, p, hp, (hb.block rb hr).trans hB'⟩
theorem grown_under {w W W' : World} {rb : Nat} (h : w.grownBy W (some rb)) (hb : Below w.heap.size W W') : w.grownBy W' (some rb) :=
  ⟨hb.os.trans h.os, hb.tape.trans h.tape, hb.output.trans h.output, Nat.le_trans h.size hb.size, fun j hj hne => (hb.block j hj).trans (h.block j hj hne)⟩
/-- the state between two rounds -/
structure DSt (w0 w : World) (rb : Nat) (a : Option Addr) (n cap : Nat) (wr : World) (L S : List FileV) (O : List OpV) (al aq ao : Option Addr) (ax aqk az j : Nat) : Prop where
  few : Few L S O j
  ans : AnsS wr w.heap.size (.slice al L.length ax) (.slice aq S.length aqk) (.slice ao O.length az) L S O
  apt : Apt (.slice al L.length ax) (.slice aq S.length aqk)
  box : Blk wr (w.heap.size + 1) (.cells #[.slice al L.length ax, .slice aq S.length aqk, .slice ao O.length az] 27)
  res : Blk wr w.heap.size (.cells #[.slice none 0 0, .slice none 0 0, .slice none 0 0] 27)
  rd : Rd w0 wr rb a n cap
  gr : w.grownBy wr (some rb)
theorem DSt.grown {w0 w : World} {rb : Nat} {a : Option Addr} {n cap : Nat} {wr wr' : World} {L S : List FileV} {O : List OpV} {al aq ao : Option Addr} {ax aqk az j : Nat} (h : DSt w0 w rb a n cap wr L S O al aq ao ax aqk az j) (hr : rb < w.heap.size) (hg : wr.grownBy wr' (some rb)) (hd : Rd w0 wr' rb a n cap) : DSt w0 w rb a n cap wr' L S O al aq ao ax aqk az j :=
  ⟨h.few, h.ans.grown hg hr, h.apt, h.box.grown hg (by simp; omega), h.res.grown hg (by simp; omega), hd, grown_pair h.gr hg⟩
theorem DSt.below {w0 w : World} {rb : Nat} {a : Option Addr} {n cap : Nat} {wr wr' : World} {L S : List FileV} {O : List OpV} {al aq ao : Option Addr} {ax aqk az j : Nat} (h : DSt w0 w rb a n cap wr L S O al aq ao ax aqk az j) (hb : Below wr.heap.size wr wr') : DSt w0 w rb a n cap wr' L S O al aq ao ax aqk az j :=
  ⟨h.few, h.ans.below hb, h.apt, h.box.below hb, h.res.below hb, h.rd.below hb, grown_pair h.gr (grown_of_below' (some rb) hb)⟩
/-- a new disk is put into the box -/
theorem DSt.put {w0 w : World} {rb : Nat} {a : Option Addr} {n cap : Nat} {wr : World} {L S M N : List FileV} {O Q : List OpV} {al aq ao bl bs bo : Option Addr} {ax aqk az j i bx by_ bz : Nat} (h : DSt w0 w rb a n cap wr L S O al aq ao ax aqk az j) (hr : rb < w.heap.size) (l0 : w0.heap.size ≤ w.heap.size) (hf : Few M N Q i) (ha : AnsS wr w.heap.size (.slice bl M.length bx) (.slice bs N.length by_) (.slice bo Q.length bz) M N Q) (hap : Apt (.slice bl M.length bx) (.slice bs N.length by_)) :
    DSt w0 w rb a n cap (((wr.setCell ⟨w.heap.size + 1, 0, none⟩ (.slice bl M.length bx)).setCell ⟨w.heap.size + 1, 1, none⟩ (.slice bs N.length by_)).setCell ⟨w.heap.size + 1, 2, none⟩ (.slice bo Q.length bz)) M N Q bl bs bo bx by_ bz i :=
  ⟨hf, ha.set3 h.box _ _ _, hap, h.box.put3' _ _ _, h.res.other3 (by omega) _ _ _, h.rd.new3 (by omega) (by omega) _ _ _, grown_new3 h.gr (by omega) _ _ _⟩
/-- another box is written -/
theorem DSt.side {w0 w : World} {rb P : Nat} {a : Option Addr} {n cap : Nat} {wr : World} {L S : List FileV} {O : List OpV} {al aq ao : Option Addr} {ax aqk az j : Nat} {cs : Array Value} (h : DSt w0 w rb a n cap wr L S O al aq ao ax aqk az j) (hr : rb < w.heap.size) (l0 : w0.heap.size ≤ w.heap.size) (hP : w.heap.size + 2 ≤ P) (hb : Blk wr P (.cells cs 27)) (x y z : Value) :
    DSt w0 w rb a n cap (((wr.setCell ⟨P, 0, none⟩ x).setCell ⟨P, 1, none⟩ y).setCell ⟨P, 2, none⟩ z) L S O al aq ao ax aqk az j :=
  ⟨h.few, h.ans.set3 hb _ _ _, h.apt, h.box.other3 (by omega) _ _ _, h.res.other3 (by omega) _ _ _, h.rd.new3 (by omega) (by omega) _ _ _, grown_new3 h.gr (by omega) _ _ _⟩

set_option maxRecDepth 100000 in
set_option maxHeartbeats 16000000 in
theorem disk_any (w0 : World) (rb : Nat) (a : Option Addr) (n cap : Nat) (w : World) (h : Rd w0 w rb a n cap) :
    Calls Try.prog 21 #[.pointer (some ⟨rb, 0, none⟩)] w fun e w' => ∃ d : DiskV, e = .returned d.val ∧ d.at w' ∧ d.sz ≤ 500000 ∧ d.new w.heap.size ∧ Rd w0 w' rb a n cap ∧ w.grownBy w' (some rb) := by
  have hrb : rb < w.heap.size := h.lt
  have l0 : w0.heap.size ≤ w.heap.size := h.E.size
  obtain ⟨A0, D0, b0⟩ := two_boxes w (.cells #[.slice none 0 0, .slice none 0 0, .slice none 0 0] 27) (.cells #[.slice none 0 0, .slice none 0 0, .slice none 0 0] 27)
  have R0 := h.below b0
  have C1 := hid (size_any w0 rb a n cap _ R0)
  have S0 : Hid (DSt w0 w rb a n cap ((w.alloc (.cells #[.slice none 0 0, .slice none 0 0, .slice none 0 0] 27)).alloc (.cells #[.slice none 0 0, .slice none 0 0, .slice none 0 0] 27)) [] [] [] none none none 0 0 0 0) := hid ⟨Few.nil, AnsS.none _ _, .inl ⟨none, rfl⟩, D0, A0, R0, grown_of_below' (some rb) b0⟩
  clear h A0 D0 b0 R0
  go_enter Try.func21, Try.ntmps21
  go_wp2_with fail
  refine C1.out.mono ?_
  rintro e w1 ⟨x, rfl, hx, R1, g1⟩
  have S1 := hid (S0.out.grown hrb g1 R1)
  clear S0 C1 R1 g1
  go_wp2
  go_loopw [4] (fun i wr => ∃ (k j : Nat) (L S : List FileV) (O : List OpV) (al aq ao : Option Addr) (ax aqk az : Nat), i = .int .i64 k ∧ k + j ≤ 10 ∧ DSt w0 w rb a n cap wr L S O al aq ao ax aqk az j) (fun i _ => (intOf i).toNat)
  case atStart => exact ⟨x, 0, [], [], [], none, none, none, 0, 0, 0, rfl, by omega, S1.out⟩
  case round =>
    clear S1 hx
    obtain ⟨k, j, L, S, O, al, aq, ao, ax, aqk, az, rfl, hkj, st⟩ := hrel
    have ST := hid st
    clear st
    have j20 : j ≤ 20 := by omega
    by_cases hk : 0 < k
    · have hk' : (0 : Int) < (k : Int) := by omega
      have wk : IntKind.i64.wrap ((k : Int) - 1) = (k : Int) - 1 := by rw [IntKind.wrap_i64]; omega
      have CO := hid (once_any w0 rb a n cap 5 _ (by omega) ST.out.rd)
      go_wp2_with fail
      refine CO.out.mono ?_
      rintro e w2 ⟨b, rfl, R2, g2⟩
      have S2 := hid (ST.out.grown hrb g2 R2)
      clear ST CO R2 g2
      cases b with
      | true =>
        have CS := hid (specSync_L L S O j w.heap.size S2.out.few j20 al aq ao ax aqk az w2 S2.out.ans)
        obtain ⟨x0, x1, x2⟩ := S2.out.box.three
        go_wp2_with fail
        refine CS.out.mono ?_
        rintro e w3 ⟨M, bl, bs, bo, bx, by_, bz, rfl, hA, hF, hP, hb⟩
        have S3 := hid (S2.out.below hb)
        have A3 := hid (hA.base S2.out.gr.size)
        clear x0 x1 x2 CS S2 hA
        obtain ⟨x0, x1, x2⟩ := S3.out.box.three
        have xf := S3.out.box.warm
        have S4 := hid (S3.out.put (O := O) (Q := []) hrb l0 hF A3.out hP)
        go_wp2
        go_roundw
        case rel => exact ⟨k - 1, j, M, M, [], bl, bs, bo, bx, by_, bz, by rw [show ((k - 1 : Nat) : Int) = (k : Int) - 1 by omega], by omega, S4.out⟩
        case measure => simp [intOf]; omega
      | false =>
        have HK := hid hkj
        clear hkj
        have BX : Hid (∀ W, Below w2.heap.size w2 W → W.cell? ⟨w.heap.size + 1, 0, none⟩ = some (.slice al L.length ax) ∧ W.cell? ⟨w.heap.size + 1, 1, none⟩ = some (.slice aq S.length aqk) ∧ W.cell? ⟨w.heap.size + 1, 2, none⟩ = some (.slice ao O.length az)) := hid (fun W hW => (S2.out.box.below hW).three)
        have H1 := hid (below_drew (Below.refl w2.heap.size w2))
        have H2 := hid (below_drew ((Below.refl _ w2).alloc (Nat.le_refl _) (.cells #[.slice none 0 0, .slice none 0 0, .slice none 0 0] 27)))
        have CD : Hid (∀ W, Below w2.heap.size w2 W → Calls Try.prog 33 #[.pointer (some ⟨rb, 0, none⟩)] W fun e w' => ∃ o : OpV, e = .returned (.agg #[.int .i64 o.kind, .string o.name, .string o.to, .string o.data]) ∧ (o.name.size ≤ 8 ∧ o.to.size ≤ 8 ∧ o.data.size ≤ 8) ∧ DSt w0 w rb a n cap w' L S O al aq ao ax aqk az j ∧ W.grownBy w' (some rb)) := hid (fun W hW => (dop_any w0 rb a n cap W (S2.out.rd.below hW)).mono fun _ _ ⟨o, e1, h1, h2, h3⟩ => ⟨o, e1, h1, (S2.out.below hW).grown hrb h3 h2, h3⟩)
        have CS : Hid (∀ (o : OpV), o.name.size ≤ 8 ∧ o.to.size ≤ 8 ∧ o.data.size ≤ 8 → ∀ W, DSt w0 w rb a n cap W L S O al aq ao ax aqk az j → Calls Try.prog 15 #[.agg #[.slice al L.length ax, .slice aq S.length aqk, .slice ao O.length az], .agg #[.int .i64 o.kind, .string o.name, .string o.to, .string o.data]] W fun e w' => ∃ (c : Int) (M N : List FileV) (Q : List OpV) (bl bs bo : Option Addr) (bx by_ bz : Nat), e = .returned (.tuple #[.agg #[.slice bl M.length bx, .slice bs N.length by_, .slice bo Q.length bz], .int .i64 c]) ∧ DSt w0 w rb a n cap w' L S O al aq ao ax aqk az j ∧ AnsS w' w.heap.size (.slice bl M.length bx) (.slice bs N.length by_) (.slice bo Q.length bz) M N Q ∧ (c = 0 → Few M N Q (j + 1) ∧ Apt (.slice bl M.length bx) (.slice bs N.length by_)) ∧ Below W.heap.size W w') := hid (fun o ho W hW => (specDo_L L S O j w.heap.size hW.few j20 al aq ao ax aqk az o ho W hW.ans).mono fun _ _ ⟨c, M, N, Q, bl, bs, bo, bx, by_, bz, e1, h1, h2, h3⟩ => ⟨c, M, N, Q, bl, bs, bo, bx, by_, bz, e1, hW.below h3, h1.base hW.gr.size, h2, h3⟩)
        have lw2 : Hid (w.heap.size + 2 ≤ w2.heap.size) := hid (by have := S2.out.box.lt; omega)
        have NB : Hid (∀ w3, ((w2.alloc (.cells #[.slice none 0 0, .slice none 0 0, .slice none 0 0] 27)).drew).grownBy w3 (some rb) → Blk w3 w2.heap.size (.cells #[.slice none 0 0, .slice none 0 0, .slice none 0 0] 27)) := hid (fun w3 g => ((Blk.new w2 (.cells #[.slice none 0 0, .slice none 0 0, .slice none 0 0] 27)).below (Below.refl _ _).drew).grown g (by have := lw2.out; simp; omega))
        obtain ⟨x0, x1, x2⟩ := BX.out _ H1.out
        obtain ⟨y0, y1, y2⟩ := BX.out _ H2.out
        have hne : ¬ w.heap.size + 1 = w2.heap.size := by have := lw2.out; omega
        clear S2
        go_wp2_with fail
        go_region_held3 (fun w' => w'.cell? ⟨w.heap.size + 1, 0, none⟩ = some (.slice al L.length ax) ∧ w'.cell? ⟨w.heap.size + 1, 1, none⟩ = some (.slice aq S.length aqk) ∧ w'.cell? ⟨w.heap.size + 1, 2, none⟩ = some (.slice ao O.length az)) (first | with_reducible exact ⟨m0, m1, m2⟩ | exact (S4.out.box.other3 (Q := w2.heap.size) (fun e => hne e.symm) (.slice bl M.length bx) (.slice bs N.length by_) (.slice bo Q.length bz)).three | exact (S4.out.box.other3 (Q := w3.heap.size) (fun e => hne3 e.symm) (.slice bl M.length bx) (.slice bs N.length by_) (.slice bo Q.length bz)).three | exact (S4.out.box.alloc _).three | with_reducible exact ⟨p0, p1, p2⟩ | with_reducible exact ⟨q0, q1, q2⟩ | with_reducible exact ⟨x0, x1, x2⟩ | with_reducible exact ⟨y0, y1, y2⟩ | go_keep | (simp only [*, and_self])) (first
          | (go_at_call 33; refine (CD.out _ (by first | with_reducible exact H1.out | with_reducible exact H2.out)).mono ?_; rintro e w3 ⟨o, rfl, ho, d3, g3⟩; (try (have N3 := hid (NB.out _ g3))); have S3 := hid d3; have S3a := hid (d3.below ((Below.refl _ w3).alloc (Nat.le_refl _) (.cells #[.slice none 0 0, .slice none 0 0, .slice none 0 0] 27))); have HO := hid ho; obtain ⟨p0, p1, p2⟩ := S3.out.box.three; obtain ⟨q0, q1, q2⟩ := S3a.out.box.three; have lw3 : Hid (w.heap.size + 2 ≤ w3.heap.size) := hid (by have := d3.box.lt; omega); have hne3 : ¬ w.heap.size + 1 = w3.heap.size := (by have := d3.box.lt; omega); clear d3 g3 ho; have mk3 : True := trivial)
          | (go_at_call 15; have mq := mk3; refine (CS.out o HO.out _ (by first | with_reducible exact S3.out | with_reducible exact S3a.out)).mono ?_; rintro e w4 ⟨c, M, N, Q, bl, bs, bo, bx, by_, bz, rfl, d4, a4, f4, b4⟩; (try (have N4 := hid (N3.out.below b4))); (try (have N4 := hid ((Blk.new w3 (.cells #[.slice none 0 0, .slice none 0 0, .slice none 0 0] 27)).below b4))); (try (obtain ⟨n0, n1, n2⟩ := N4.out.three)); (try (have nf := N4.out.warm)); have S4 := hid d4; have A4 := hid a4; have F4 := hid f4; have lw4 : Hid (w.heap.size + 2 ≤ w4.heap.size) := hid (by have := d4.box.lt; omega); have hne4 : ¬ w.heap.size + 1 = w4.heap.size := (by have := d4.box.lt; omega); obtain ⟨m0, m1, m2⟩ := S4.out.box.three; have mf := S4.out.box.warm; clear d4 a4 f4))
        skip
        · have b5 : Below w4.heap.size w4 (w4.alloc (.cells #[.slice bl M.length bx, .slice bs N.length by_, .slice bo Q.length bz] 27)) := (Below.refl _ w4).alloc (Nat.le_refl _) _
          have S5 := hid (S4.out.below b5)
          have A5 := hid (A4.out.below b5)
          have X5 := hid (Blk.new w4 (.cells #[.slice bl M.length bx, .slice bs N.length by_, .slice bo Q.length bz] 27))
          clear p0 p1 p2 q0 q1 q2 x0 x1 x2 y0 y1 y2 hne hne3 hne4 m0 m1 m2 mf
          clear S4 A4 b5
          generalize w4.alloc (.cells #[.slice bl M.length bx, .slice bs N.length by_, .slice bo Q.length bz] 27) = W5 at *
          obtain ⟨n0, n1, n2⟩ := X5.out.three
          obtain ⟨m0, m1, m2⟩ := S5.out.box.three
          have mf := S5.out.box.warm
          by_cases hc : c = 0
          · have S6 := hid (S5.out.put hrb l0 (F4.out hc).1 A5.out (F4.out hc).2)
            clear F4
            go_wp2
            go_roundw
            case rel => exact ⟨k - 1, j + 1, M, N, Q, bl, bs, bo, bx, by_, bz, by rw [show ((k - 1 : Nat) : Int) = (k : Int) - 1 by omega], by have := HK.out; omega, S6.out⟩
            case measure => simp [intOf]; omega
          · clear F4
            go_wp2
            go_roundw
            case rel => exact ⟨k - 1, j, L, S, O, al, aq, ao, ax, aqk, az, by rw [show ((k - 1 : Nat) : Int) = (k : Int) - 1 by omega], by have := HK.out; omega, S5.out⟩
            case measure => simp [intOf]; omega
        · have S5 := hid (S4.out.side hrb l0 lw3.out N4.out (.slice bl M.length bx) (.slice bs N.length by_) (.slice bo Q.length bz))
          have A5 := hid (A4.out.set3 N4.out (.slice bl M.length bx) (.slice bs N.length by_) (.slice bo Q.length bz))
          have X5 := hid (N4.out.put3' (.slice bl M.length bx) (.slice bs N.length by_) (.slice bo Q.length bz))
          clear p0 p1 p2 q0 q1 q2 x0 x1 x2 y0 y1 y2 hne hne3 hne4 m0 m1 m2 mf
          clear S4 A4 n0 n1 n2 nf N4
          generalize (((w4.setCell ⟨w3.heap.size, 0, none⟩ (.slice bl M.length bx)).setCell ⟨w3.heap.size, 1, none⟩ (.slice bs N.length by_)).setCell ⟨w3.heap.size, 2, none⟩ (.slice bo Q.length bz)) = W5 at *
          obtain ⟨n0, n1, n2⟩ := X5.out.three
          obtain ⟨m0, m1, m2⟩ := S5.out.box.three
          have mf := S5.out.box.warm
          by_cases hc : c = 0
          · have S6 := hid (S5.out.put hrb l0 (F4.out hc).1 A5.out (F4.out hc).2)
            clear F4
            go_wp2
            go_roundw
            case rel => exact ⟨k - 1, j + 1, M, N, Q, bl, bs, bo, bx, by_, bz, by rw [show ((k - 1 : Nat) : Int) = (k : Int) - 1 by omega], by have := HK.out; omega, S6.out⟩
            case measure => simp [intOf]; omega
          · clear F4
            go_wp2
            go_roundw
            case rel => exact ⟨k - 1, j, L, S, O, al, aq, ao, ax, aqk, az, by rw [show ((k - 1 : Nat) : Int) = (k : Int) - 1 by omega], by have := HK.out; omega, S5.out⟩
            case measure => simp [intOf]; omega
        · have S5 := hid (S4.out.side hrb l0 lw2.out N4.out (.slice bl M.length bx) (.slice bs N.length by_) (.slice bo Q.length bz))
          have A5 := hid (A4.out.set3 N4.out (.slice bl M.length bx) (.slice bs N.length by_) (.slice bo Q.length bz))
          have X5 := hid (N4.out.put3' (.slice bl M.length bx) (.slice bs N.length by_) (.slice bo Q.length bz))
          clear p0 p1 p2 q0 q1 q2 x0 x1 x2 y0 y1 y2 hne hne3 hne4 m0 m1 m2 mf
          clear S4 A4 n0 n1 n2 nf N4
          generalize (((w4.setCell ⟨w2.heap.size, 0, none⟩ (.slice bl M.length bx)).setCell ⟨w2.heap.size, 1, none⟩ (.slice bs N.length by_)).setCell ⟨w2.heap.size, 2, none⟩ (.slice bo Q.length bz)) = W5 at *
          obtain ⟨n0, n1, n2⟩ := X5.out.three
          obtain ⟨m0, m1, m2⟩ := S5.out.box.three
          have mf := S5.out.box.warm
          by_cases hc : c = 0
          · have S6 := hid (S5.out.put hrb l0 (F4.out hc).1 A5.out (F4.out hc).2)
            clear F4
            go_wp2
            go_roundw
            case rel => exact ⟨k - 1, j + 1, M, N, Q, bl, bs, bo, bx, by_, bz, by rw [show ((k - 1 : Nat) : Int) = (k : Int) - 1 by omega], by have := HK.out; omega, S6.out⟩
            case measure => simp [intOf]; omega
          · clear F4
            go_wp2
            go_roundw
            case rel => exact ⟨k - 1, j, L, S, O, al, aq, ao, ax, aqk, az, by rw [show ((k - 1 : Nat) : Int) = (k : Int) - 1 by omega], by have := HK.out; omega, S5.out⟩
            case measure => simp [intOf]; omega
    · obtain rfl : k = 0 := by omega
      have J := hid hkj
      clear hkj
      have CB := hid (below_any w0 rb a n cap 40 _ (by omega) ST.out.rd)
      go_wp2_with fail
      refine CB.out.mono ?_
      rintro e w2 ⟨y, rfl, _, hy40, R2, g2⟩
      have hy : y < 40 := hy40 (by omega)
      have S2 := hid (ST.out.grown hrb g2 R2)
      clear ST CB R2 g2 hy40
      obtain ⟨x0, x1, x2⟩ := S2.out.box.three
      have xf := S2.out.box.warm
      obtain ⟨r0, r1, r2⟩ := S2.out.res.three
      have rf := S2.out.res.warm
      have ner : ¬ w.heap.size + 1 = w.heap.size := by omega
      have ner' : ¬ w.heap.size = w.heap.size + 1 := by omega
      by_cases y9 : y = 39
      · subst y9
        have bz : Below w2.heap.size w2 (w2.alloc (.cells #[.string ⟨#[122, 122]⟩, .string ⟨#[]⟩] 56)) := (Below.refl _ w2).alloc (Nat.le_refl _) _
        have S3 := hid (S2.out.below bz)
        have LZ : Hid (FilL (w2.alloc (.cells #[.string ⟨#[122, 122]⟩, .string ⟨#[]⟩] 56)) (some ⟨w2.heap.size, 0, none⟩) [zz]) := hid (FilL.one zz)
        have ll : L.length ≤ 1048576 := by have := S2.out.few.ll; omega
        have sz3 : w.heap.size ≤ (w2.alloc (.cells #[.string ⟨#[122, 122]⟩, .string ⟨#[]⟩] 56)).heap.size := S3.out.gr.size
        have lb : w.heap.size + 1 < w2.heap.size := S2.out.box.lt
        have neb : ¬ w.heap.size + 1 = w2.heap.size := by omega
        go_wp2_with (at_builtin; refine wpList_append_f _ rfl _ _ rfl w.heap.size (.slice al L.length ax) L rfl S3.out.ans.l _ _ zz rfl LZ.out ll sz3 ?_; intro a5 c5 w5 o5 kf5 ko5 kb5 b5; have O5 := hid o5; have KF := hid kf5; have KO := hid ko5; have KB := hid kb5; have B5 := hid b5; have X5 := hid (kb5 _ _ _ (by decide) S3.out.box); obtain ⟨m0, m1, m2⟩ := X5.out.three; have mf := X5.out.warm; have Y5 := hid (kb5 _ _ _ (by decide) S3.out.res); obtain ⟨p0, p1, p2⟩ := Y5.out.three; have pf := Y5.out.warm; clear o5 kf5 ko5 kb5 b5 x0 x1 x2 xf r0 r1 r2 rf)
        have E5 : Hid (AnsS w5 w.heap.size (.slice a5 (L.length + 1) c5) (.slice aq S.length aqk) (.slice ao O.length az) (L ++ [zz]) S O) := hid ⟨.inl O5.out, KF.out _ _ S3.out.ans.s S2.out.apt, KO.out _ _ S3.out.ans.o⟩
        have e1 : (L ++ [zz]).length = L.length + 1 := by simp
        have R5 : Hid (Rd w0 w5 rb a n cap ∧ w.grownBy w5 (some rb)) := hid ⟨S3.out.rd.under B5.out l0 hrb, grown_under S3.out.gr B5.out⟩
        have E6 := hid ((E5.out.set X5.out (i := 0) (.slice a5 (L.length + 1) c5)).set3 (Y5.out.other ner (.slice a5 (L.length + 1) c5)) (.slice a5 (L.length + 1) c5) (.slice aq S.length aqk) (.slice ao O.length az))
        rw [← e1] at E6 ⊢
        have F6 := hid (ans_more E6.out S2.out.few j20)
        refine bodyPost_ret (disk_results _ _ w.heap.size _ _ _ Try.results21 ((Y5.out.other ner _).put3' _ _ _) rfl) rfl ⟨mkD a5 c5 aq aqk ao az (L ++ [zz]) S O, rfl, F6.out.1, F6.out.2.1, F6.out.2.2, ?_, ?_⟩
        · exact (R5.out.1.new (by omega) (by omega)).new3 (by omega) (by omega) _ _ _
        · exact grown_new3 (grown_new R5.out.2 (by omega)) (Nat.le_refl _) _ _ _
      have DEF : Hid ((mkD al ax aq aqk ao az L S O).at (((w2.setCell ⟨w.heap.size, 0, none⟩ (.slice al L.length ax)).setCell ⟨w.heap.size, 1, none⟩ (.slice aq S.length aqk)).setCell ⟨w.heap.size, 2, none⟩ (.slice ao O.length az)) ∧ (mkD al ax aq aqk ao az L S O).sz ≤ 500000 ∧ (mkD al ax aq aqk ao az L S O).new w.heap.size) := hid ((S2.out.ans.set3 S2.out.res _ _ _).few S2.out.few j20)
      have D2 := hid (S2.out.rd.new3 (P := w.heap.size) (by omega) (by omega) (.slice al L.length ax) (.slice aq S.length aqk) (.slice ao O.length az))
      have G2 := hid (grown_new3 S2.out.gr (Nat.le_refl _) (.slice al L.length ax) (.slice aq S.length aqk) (.slice ao O.length az))
      have y9' : ¬ (y : Int) = 39 := by omega
      by_cases y8 : y = 38
      · subst y8
        by_cases ho : 0 < O.length
        · have ho' : (0 : Int) < (O.length : Int) := by omega
          obtain ⟨g, c, hv, hgB, hgl⟩ : ∃ g c, (Value.slice ao O.length az) = .slice (some ⟨g, 0, none⟩) O.length c ∧ O.length ≤ c ∧ c ≤ maxLen := by
            rcases S2.out.ans.o with h | ⟨h, _⟩
            · rcases h.2 with ⟨_, hn⟩ | ⟨g, c, cur, hv, _, _, h1, h2, _⟩
              · omega
              · exact ⟨g, c, hv, h1, h2⟩
            · rw [h] at ho; exact absurd ho (Nat.lt_irrefl 0)
          simp only [Value.slice.injEq, true_and] at hv
          obtain ⟨rfl, rfl⟩ := hv
          have hgB' : (O.length : Int) ≤ (az : Int) := by omega
          by_cases a1 : az = 1
          · subst a1
            have LS := hid (ans_less (c := 0) (ad := (some ⟨g, 0, none⟩)) ((S2.out.ans.set S2.out.box (i := 2) (.slice (some ⟨g, 0, none⟩) (O.length - 1) 0)).set3 (S2.out.res.other ner (.slice (some ⟨g, 0, none⟩) (O.length - 1) 0)) (.slice al L.length ax) (.slice aq S.length aqk) (.slice (some ⟨g, 0, none⟩) (O.length - 1) 0)) S2.out.few j20 ho (fun h => by omega))
            have eo : O.length - 1 = 0 := by omega
            rw [eo] at LS
            clear DEF D2 G2
            go_wp2
            refine bodyPost_ret (disk_results _ _ w.heap.size _ _ _ Try.results21 ((S2.out.res.other ner _).put3' _ _ _) rfl) rfl ⟨_, rfl, LS.out.1, LS.out.2.1, LS.out.2.2, ?_, ?_⟩
            · exact (S2.out.rd.new (by omega) (by omega)).new3 (by omega) (by omega) _ _ _
            · exact grown_new3 (grown_new S2.out.gr (by omega)) (Nat.le_refl _) _ _ _
          · have a2 : ¬ az - 1 = 0 := by omega
            have a3 : ¬ az ≤ 1 := by omega
            have LS := hid (ans_less (c := (az - 1)) (ad := (some ⟨g, 4, none⟩)) ((S2.out.ans.set S2.out.box (i := 2) (.slice (some ⟨g, 4, none⟩) (O.length - 1) (az - 1))).set3 (S2.out.res.other ner (.slice (some ⟨g, 4, none⟩) (O.length - 1) (az - 1))) (.slice al L.length ax) (.slice aq S.length aqk) (.slice (some ⟨g, 4, none⟩) (O.length - 1) (az - 1))) S2.out.few j20 ho (fun _ => rfl))
            clear DEF D2 G2
            go_wp2
            refine bodyPost_ret (disk_results _ _ w.heap.size _ _ _ Try.results21 ((S2.out.res.other ner _).put3' _ _ _) rfl) rfl ⟨_, rfl, LS.out.1, LS.out.2.1, LS.out.2.2, ?_, ?_⟩
            · exact (S2.out.rd.new (by omega) (by omega)).new3 (by omega) (by omega) _ _ _
            · exact grown_new3 (grown_new S2.out.gr (by omega)) (Nat.le_refl _) _ _ _
        · have ho' : ¬ (0 : Int) < (O.length : Int) := by omega
          go_wp2
          exact bodyPost_ret (disk_results _ _ w.heap.size _ _ _ Try.results21 (S2.out.res.put3' _ _ _) rfl) rfl ⟨_, rfl, DEF.out.1, DEF.out.2.1, DEF.out.2.2, D2.out, G2.out⟩
      have y8' : ¬ (y : Int) = 38 := by omega
      by_cases y7 : y = 37
      · subst y7
        have C9 := hid (below_any w0 rb a n cap 9 _ (by omega) S2.out.rd)
        clear DEF D2 G2 x0 x1 x2 xf r0 r1 r2 rf
        go_wp2_with fail
        refine C9.out.mono ?_
        rintro e w3 ⟨z, rfl, _, hz9, R3, g3⟩
        have hz : z < 9 := hz9 (by omega)
        have S3 := hid (S2.out.grown hrb g3 R3)
        clear C9 R3 g3 hz9 S2
        have wz : IntKind.i64.wrap (200000 - (z : Int)) = ((200000 - z : Nat) : Int) := by rw [IntKind.wrap_i64]; omega
        obtain ⟨m, hm⟩ : ∃ m, m = 200000 - z := ⟨_, rfl⟩
        rw [← hm] at wz
        have m1 : m ≤ 1048576 := by omega
        have HM := hid hm
        clear hm
        have lb3 : w.heap.size + 1 < w3.heap.size := S3.out.box.lt
        go_wp2_with (first
          | (at_make; refine wpList_make_bytes _ rfl _ _ rfl m rfl rfl m1 ?_; intro s w4 hs4 hl4 hb4 hc4; have HS := hid hs4; have b5 : Below w4.heap.size w4 (w4.alloc (.cells #[.string ⟨#[98, 105, 103]⟩, .string s] 56)) := (Below.refl _ w4).alloc (Nat.le_refl _) _; have S4 := hid ((S3.out.below hb4).below b5); have lb4 : w.heap.size + 1 < w4.heap.size := (by omega); clear hs4 hb4 hl4 b5; have FB := hid (Blk.new w4 (.cells #[.string ⟨#[98, 105, 103]⟩, .string s] 56)); have mkS : True := trivial)
          | (have mq := mkS; refine wpList_store3 _ rfl rfl _ _ rfl (w.heap.size + 1) rfl (.slice (some ⟨w4.heap.size, 0, none⟩) 1 1) (.slice none 0 0) (.slice none 0 0) rfl _ _ _ S4.out.box rfl rfl rfl ?_; clear mkS; intro W xb on; have X5 := hid xb; have Y5 := hid (on.blk S4.out.res (by omega)); have F5 := hid (on.blk FB.out (by omega)); have R5 := hid (S4.out.rd.under (on.below (B := w.heap.size) (by omega) S4.out.gr.size) l0 hrb); have G5 := hid (grown_under S4.out.gr (on.below (B := w.heap.size) (by omega) S4.out.gr.size)); clear xb on S4 FB; obtain ⟨x0, x1, x2⟩ := X5.out.three; have xf := X5.out.warm; obtain ⟨r0, r1, r2⟩ := Y5.out.three; have rf := Y5.out.warm))
        have FE := hid ((F5.out.other (Q := w.heap.size + 1) (i := 1) (by omega) (.slice (some ⟨w4.heap.size, 0, none⟩) 1 1)).other3 (Q := w.heap.size) (by omega) (.slice (some ⟨w4.heap.size, 0, none⟩) 1 1) (.slice (some ⟨w4.heap.size, 0, none⟩) 1 1) (.slice none 0 0))
        have FG := hid (great_disk (B := w.heap.size) FE.out (by have := HS.out; have := HM.out; omega) (by omega))
        refine bodyPost_ret (disk_results _ _ w.heap.size _ _ _ Try.results21 ((Y5.out.other (by omega) _).put3' _ _ _) rfl) rfl ⟨_, rfl, FG.out.1, FG.out.2.1, FG.out.2.2, ?_, ?_⟩
        · exact (R5.out.new (by omega) (by omega)).new3 (by omega) (by omega) _ _ _
        · exact grown_new3 (grown_new G5.out (by omega)) (Nat.le_refl _) _ _ _
      have y7' : ¬ (y : Int) = 37 := by omega
      go_wp2
      exact bodyPost_ret (disk_results _ _ w.heap.size _ _ _ Try.results21 (S2.out.res.put3' _ _ _) rfl) rfl ⟨_, rfl, DEF.out.1, DEF.out.2.1, DEF.out.2.2, D2.out, G2.out⟩
end Go.Proofs.Ytcchpeebhkiacaa
