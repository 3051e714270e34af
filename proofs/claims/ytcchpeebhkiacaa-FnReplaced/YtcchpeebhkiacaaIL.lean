/- FnDone: the walk. -/
import Derived.Test.YtcchpeebhkiacaaZI
import Derived.Test.YtcchpeebhkiacaaZJ
namespace Go.Proofs.Ytcchpeebhkiacaa
open Go Go.RowKit Go.Deep Go.Maps

theorem AnsI.s' {w : World} {B : Nat} {vl vs vo : Value} {L S : List FileV} {O : List OpV} (h : AnsI w B vl vs vo L S O) : AnsS w B vl vs vo L S O := ⟨.inl h.l, .inl h.s, .inl h.o⟩
/-- what is known of an op that is done -/
structure DoneK (d : DiskV) (o : OpV) (L : List FileV) : Prop where
  one : o.kind = 1 → lookL L (key o.name) = some ((lookL d.live.toL (key o.name)).getD ⟨#[]⟩ ++ o.data)
  two : o.kind = 2 → ∃ x, lookL d.live.toL (key o.name) = some x ∧ lookL L (key o.to) = some x ∧ (lookL L (key o.name)).isSome = decide (o.to = o.name)
  three : o.kind = 3 → lookL L (key o.name) = none
theorem done_k {d : DiskV} {o : OpV} (h : dkOk d = true) (hc : actC d o = 0) : DoneK d o (actL d o) := by
  have hn : ¬ (codeL d.live.toL o = 0 ∧ d.ops.n = 200) := fun hh => by unfold actC at hc; rw [if_pos hh] at hc; cases hc
  have c0 : codeL d.live.toL o = 0 := by unfold actC at hc; rw [if_neg hn] at hc; exact hc
  have eL : actL d o = (doF d.live.toL.length (fileAt d.live.toL) o).1 := by unfold actL; rw [if_pos hc]; rfl
  obtain ⟨f1, f2, f3⟩ := codeL_zero c0
  have hM : okL d.live.toL = true := by rw [okL_toL]; exact dkOk_live h
  have hR := (neat_ok hM).rise
  rw [eL]
  refine ⟨fun k => ?_, fun k => ?_, fun k => look_three k f2⟩
  · rw [look_one hR k]
    cases e : lookL d.live.toL (key o.name) with
    | none =>
      show some o.data = some (⟨#[]⟩ ++ o.data)
      rw [show ((⟨#[]⟩ : ByteArray) ++ o.data) = o.data from ByteArray.empty_append]
    | some x => rfl
  · obtain ⟨x, hx⟩ := found_do (by omega) f2
    obtain ⟨h1, h2⟩ := look_two hR k hx
    refine ⟨x, hx, h1, ?_⟩
    rw [h2]
    by_cases e : o.to = o.name
    · rw [e]; simp
    · rw [decide_eq_false e, decide_eq_false (fun e' => e (key_inj e'))]

set_option maxRecDepth 100000 in
set_option maxHeartbeats 16000000 in
theorem done_walk (a : Option Addr) (n cap : Nat) (w : World) (hb : BytesAt w a n) : Calls Try.prog 4 #[.slice a n cap] w fun e w' => e = .returned (.bool true) ∧ Below w.heap.size w w' := by
  by_cases hn : n ≤ 1048576
  rotate_left
  · have hn' : decide (1048576 < n) = true := decide_eq_true (by omega)
    have CB := hid (big_any a n cap w)
    rw [hn'] at CB
    clear hb
    go_enter Try.func4, Try.ntmps4
    go_wp2_with fail
    refine CB.out.mono ?_
    rintro e w1 ⟨rfl, rfl⟩
    go_wp2
    go_ret
    exact ⟨rfl, Below.refl _ _⟩
  have hn' : decide (1048576 < n) = false := decide_eq_false (by omega)
  have CB := hid (big_any a n cap w)
  rw [hn'] at CB
  have P1 := hid (drawDo_any a n cap w hn hb)
  clear hb hn'
  go_enter Try.func4, Try.ntmps4
  go_wp2_with fail
  refine CB.out.mono ?_
  rintro e w1 ⟨rfl, rfl⟩
  clear CB
  go_wp2_with fail
  refine P1.out.mono ?_
  rintro e w2 ⟨d, o, rfl, hd, ⟨hs, hz⟩, ho, hb2⟩
  clear P1
  have SM := hid (DiskV.small_of hs)
  have HOZ := hid hz
  have n1 : d.live.n ≤ 1048576 := SM.out.1
  have n2 : d.safe.n ≤ 1048576 := SM.out.2.1
  have n3 : d.ops.n ≤ 1048576 := SM.out.2.2
  unfold DiskV.val OpV.val
  obtain ⟨D2, O2, b2⟩ := two_boxes w2 (.cells #[.slice d.live.a d.live.n d.live.k, .slice d.safe.a d.safe.n d.safe.k, .slice d.ops.a d.ops.n d.ops.k] 27) (.cells #[.int .i64 o.kind, .string o.name, .string o.to, .string o.data] 36)
  have HD : Hid (∀ W, Below w2.heap.size w2 W → d.at W) := hid (fun W hW => hd.below hW)
  obtain ⟨q, hq⟩ : ∃ q, q = dkOk d := ⟨_, rfl⟩
  obtain ⟨c, hc⟩ : ∃ c, c = doC d o := ⟨_, rfl⟩
  obtain ⟨L, hL⟩ : ∃ L, L = doLi d o := ⟨_, rfl⟩
  obtain ⟨S, hS⟩ : ∃ S, S = doSa d := ⟨_, rfl⟩
  obtain ⟨O, hO⟩ : ∃ O, O = doOp d o := ⟨_, rfl⟩
  have CI : Hid (∀ W, Below w2.heap.size w2 W → Calls Try.prog 14 #[.agg #[.slice d.live.a d.live.n d.live.k, .slice d.safe.a d.safe.n d.safe.k, .slice d.ops.a d.ops.n d.ops.k], .agg #[.int .i64 o.kind, .string o.name, .string o.to, .string o.data]] W fun e w' => ∃ al aq ao ax ay az, e = .returned (.tuple #[.agg #[.slice al L.length ax, .slice aq S.length ay, .slice ao O.length az], .int .i64 c]) ∧ AnsI w' W.heap.size (.slice al L.length ax) (.slice aq S.length ay) (.slice ao O.length az) L S O ∧ Below W.heap.size W w') := hid (fun W hW => by
    have h := implDo_any d o W (HD.out W hW) hs (wf8 ho) (by omega)
    rw [← hc, ← hL, ← hS, ← hO] at h
    refine h.mono ?_
    rintro e w' ⟨vl, vs, vo, rfl, h2, h3⟩
    obtain ⟨cl, cs, co, cx, cy, cz, rfl, rfl, rfl⟩ := h2.slices
    exact ⟨cl, cs, co, cx, cy, cz, rfl, h2, h3⟩)
  have CS : Hid (∀ W, Below w2.heap.size w2 W → Calls Try.prog 15 #[.agg #[.slice d.live.a d.live.n d.live.k, .slice d.safe.a d.safe.n d.safe.k, .slice d.ops.a d.ops.n d.ops.k], .agg #[.int .i64 o.kind, .string o.name, .string o.to, .string o.data]] W fun e w' => ∃ bl bq bo bx bw bz, e = .returned (.tuple #[.agg #[.slice bl L.length bx, .slice bq S.length bw, .slice bo O.length bz], .int .i64 c]) ∧ Below W.heap.size W w') := hid (fun W hW => by
    have h := specDo_any d o W (HD.out W hW) hs (wf8 ho) (by omega)
    rw [← hc, ← hL, ← hS, ← hO] at h
    refine h.mono ?_
    rintro e w' ⟨vl, vs, vo, rfl, h2, h3⟩
    obtain ⟨bl, bx, rfl⟩ := h2.l.shape
    obtain ⟨bq, bw, rfl⟩ := h2.s.shape
    obtain ⟨bo, bz, rfl⟩ := h2.o.shape
    exact ⟨bl, bq, bo, bx, bw, bz, rfl, h3⟩)
  have CK : Hid (∀ W, Below w2.heap.size w2 W → Calls Try.prog 9 #[.agg #[.slice d.live.a d.live.n d.live.k, .slice d.safe.a d.safe.n d.safe.k, .slice d.ops.a d.ops.n d.ops.k]] W fun e w' => e = .returned (.bool q) ∧ Below W.heap.size W w') := hid (fun W hW => by rw [hq]; exact specDisk_any d W (HD.out W hW) hs)
  have HE := hid (And.intro hq (And.intro hc (And.intro hL (And.intro hS hO))))
  have B2 := hid (hb2.trans (b2.mono hb2.size))
  have HV := hid b2
  clear hq hc hL hS hO hd b2 hb2 hz
  obtain ⟨x0, x1, x2⟩ := D2.three
  obtain ⟨y0, y1, y2, y3⟩ := O2.four
  go_wp2_with fail
  refine (CI.out _ HV.out).mono ?_
  rintro e w3 ⟨al, aq, ao, ax, ay, az, rfl, hA, hb3⟩
  have ab : Below w3.heap.size w3 (w3.alloc (.cells #[.slice al L.length ax, .slice aq S.length ay, .slice ao O.length az] 27)) := (Below.refl _ w3).alloc (Nat.le_refl _) _
  have T3 := then_ hb3 ab
  have D3 := D2.below T3
  have O3 := O2.below T3
  have A3 := Blk.new w3 (.cells #[.slice al L.length ax, .slice aq S.length ay, .slice ao O.length az] 27)
  have HA3 := hid (hA.below ab)
  have H3 := hid (then_ HV.out T3)
  have B3 := hid (B2.out.trans (T3.mono B2.out.size))
  clear CI hA hb3 ab T3 x0 x1 x2 y0 y1 y2 y3 D2 O2 B2 HV
  obtain ⟨x0, x1, x2⟩ := D3.three
  obtain ⟨y0, y1, y2, y3⟩ := O3.four
  go_wp2_with fail
  refine (CS.out _ H3.out).mono ?_
  rintro e w4 ⟨bl, bq, bo, bx, bw, bz, rfl, hb4⟩
  have ab : Below w4.heap.size w4 (w4.alloc (.cells #[.slice bl L.length bx, .slice bq S.length bw, .slice bo O.length bz] 27)) := (Below.refl _ w4).alloc (Nat.le_refl _) _
  have T4 := then_ hb4 ab
  have D4 := D3.below T4
  have O4 := O3.below T4
  have A4 := A3.below T4
  have HA4 := hid (HA3.out.below T4)
  have H4 := hid (then_ H3.out T4)
  have B4 := hid (B3.out.trans (T4.mono B3.out.size))
  clear CS hb4 ab T4 x0 x1 x2 y0 y1 y2 y3 D3 O3 A3 HA3 H3 B3
  obtain ⟨x0, x1, x2⟩ := D4.three
  go_wp2_with fail
  refine (CK.out _ H4.out).mono ?_
  rintro e w5 ⟨rfl, hb5⟩
  have BX : Hid (∀ W, Below w5.heap.size w5 W → Blk W w2.heap.size (.cells #[.slice d.live.a d.live.n d.live.k, .slice d.safe.a d.safe.n d.safe.k, .slice d.ops.a d.ops.n d.ops.k] 27) ∧ Blk W (w2.heap.size + 1) (.cells #[.int .i64 o.kind, .string o.name, .string o.to, .string o.data] 36) ∧ Blk W w3.heap.size (.cells #[.slice al L.length ax, .slice aq S.length ay, .slice ao O.length az] 27)) := hid (fun W hW => ⟨(D4.below hb5).below hW, (O4.below hb5).below hW, (A4.below hb5).below hW⟩)
  have HA5 := hid (HA4.out.below hb5)
  have H5 : Hid (∀ W, Below w5.heap.size w5 W → Below w2.heap.size w2 W) := hid (fun W hW => then_ (then_ H4.out hb5) hW)
  have LE : Hid (∀ W, Below w5.heap.size w5 W → Below w1.heap.size w1 W) := hid (fun W hW => (B4.out.trans (hb5.mono B4.out.size)).trans (hW.mono (Nat.le_trans B4.out.size hb5.size)))
  have W5 := hid (Below.refl w5.heap.size w5)
  clear CK hb5 x0 x1 x2 D4 O4 A4 HA4 H4 B4
  obtain ⟨x0, x1, x2⟩ := (BX.out _ W5.out).1.three
  obtain ⟨y0, y1, y2, y3⟩ := (BX.out _ W5.out).2.1.four
  obtain ⟨z0, z1, z2⟩ := (BX.out _ W5.out).2.2.three
  cases q with
  | false =>
    go_wp2
    go_ret
    exact ⟨rfl, LE.out _ W5.out⟩
  | true =>
  have LW1 : Hid (∀ x ∈ d.live.toL, x.wf) := hid (toL_wf (HD.out _ (H5.out _ W5.out)).1)
  have LW2 : Hid (∀ x ∈ d.safe.toL, x.wf) := hid (toL_wf (HD.out _ (H5.out _ W5.out)).2.1)
  have ES : Hid (S = d.safe.toL) := hid (by rw [HE.out.2.2.2.1]; exact (do_yes (o := o) HE.out.1.symm).2.2.1)
  have F2 : Hid (∀ W, Below w5.heap.size w5 W → Calls Try.prog 12 #[.slice aq S.length ay, .slice d.safe.a d.safe.n d.safe.k] W fun e w' => e = .returned (.bool true) ∧ Below W.heap.size W w') := hid (fun W hW => sameFiles_yes ⟨aq, S.length, ay, fileAt S⟩ d.safe W (OwnF.fileL (HA5.out.s.below hW) (by rw [ES.out, toL_len]; exact n2) (by rw [ES.out]; exact LW2.out)) (HD.out W (H5.out W hW)).2.1 ((map_fileAt S).trans ES.out))
  by_cases c0 : c = 0
  rotate_left
  · have NZ : Hid (actC d o ≠ 0) := hid (fun h => c0 (by rw [HE.out.2.1, (do_yes (o := o) HE.out.1.symm).1]; exact h))
    have EL : Hid (L = d.live.toL) := hid (by rw [HE.out.2.2.1, (do_yes (o := o) HE.out.1.symm).2.1]; exact (actL_no NZ.out).1)
    have EO : O.length = d.ops.n := by rw [HE.out.2.2.2.2, (do_yes (o := o) HE.out.1.symm).2.2.2, (actL_no NZ.out).2, OpL.toL_len]
    have F1 : Hid (∀ W, Below w5.heap.size w5 W → Calls Try.prog 12 #[.slice al L.length ax, .slice d.live.a d.live.n d.live.k] W fun e w' => e = .returned (.bool true) ∧ Below W.heap.size W w') := hid (fun W hW => sameFiles_yes ⟨al, L.length, ax, fileAt L⟩ d.live W (OwnF.fileL (HA5.out.l.below hW) (by rw [EL.out, toL_len]; exact n1) (by rw [EL.out]; exact LW1.out)) (HD.out W (H5.out W hW)).1 ((map_fileAt L).trans EL.out))
    have EOH := hid EO
    clear EO
    go_wp2_with fail
    refine (F1.out _ W5.out).mono ?_
    rintro e u1 ⟨rfl, hb⟩
    have u1B := hid (W5.out.trans (hb.mono W5.out.size))
    clear hb x0 x1 x2 y0 y1 y2 y3 z0 z1 z2
    obtain ⟨x0, x1, x2⟩ := (BX.out _ u1B.out).1.three
    obtain ⟨y0, y1, y2, y3⟩ := (BX.out _ u1B.out).2.1.four
    obtain ⟨z0, z1, z2⟩ := (BX.out _ u1B.out).2.2.three
    go_wp2_with fail
    refine (F2.out _ u1B.out).mono ?_
    rintro e u2 ⟨rfl, hb⟩
    have u2B := hid (u1B.out.trans (hb.mono u1B.out.size))
    clear hb x0 x1 x2 y0 y1 y2 y3 z0 z1 z2
    obtain ⟨x0, x1, x2⟩ := (BX.out _ u2B.out).1.three
    obtain ⟨y0, y1, y2, y3⟩ := (BX.out _ u2B.out).2.1.four
    obtain ⟨z0, z1, z2⟩ := (BX.out _ u2B.out).2.2.three
    have EO' : (O.length : Int) = (d.ops.n : Int) := by rw [EOH.out]
    go_wp2
    go_ret
    exact ⟨rfl, LE.out _ u2B.out⟩
  subst c0
  have DK : Hid (dkOk d = true) := hid HE.out.1.symm
  have GG := hid (do_good (HD.out _ (H5.out _ W5.out)) HE.out.2.1.symm (wf8 ho) (by omega))
  have GD : Hid (GoodD L S O 201) := hid (by rw [HE.out.2.2.1, HE.out.2.2.2.1, HE.out.2.2.2.2]; exact GG.out.1)
  have EL : Hid (L = actL d o) := hid (by rw [HE.out.2.2.1]; exact (do_yes (o := o) DK.out).2.1)
  have EO : Hid (O = d.ops.toL ++ [o]) := hid (by rw [HE.out.2.2.2.2]; exact GG.out.2.2.1)
  have EO2 : Hid (O = actO d o) := hid (by rw [HE.out.2.2.2.2]; exact (do_yes (o := o) DK.out).2.2.2)
  have KK : Hid (DoneK d o L) := hid (by rw [EL.out]; exact done_k DK.out GG.out.2.2.2.2)
  have ZS : Hid ((mkD al ax aq ay ao az L S O).sz ≤ 1048576) := hid (by
    have h := (do_sz (al := al) (ax := ax) (as_ := aq) (ay := ay) (ao := ao) (az := az) (HD.out _ (H5.out _ W5.out)) HE.out.2.1.symm (wf8 ho) (by omega)).2
    rw [← HE.out.2.2.1, ← HE.out.2.2.2.1, ← HE.out.2.2.2.2] at h
    have h2 : o.sz ≤ 24 := by unfold OpV.sz; omega
    have h3 := HOZ.out
    omega)
  have AA : Hid (∀ W, Below w5.heap.size w5 W → (mkD al ax aq ay ao az L S O).at W) := hid (fun W hW => ((HA5.out.below hW).s'.disk GD.out.lw GD.out.sw GD.out.ow (by have := (okL_bytes GD.out.ok).2; omega) GD.out.sn (by have := GD.out.on; omega)).1)
  have AK : Hid (dkOk (mkD al ax aq ay ao az L S O) = true) := hid (dkOk_do DK.out GG.out.2.2.2.2 (mkD_live.1.trans EL.out) (mkD_live.2.1.trans ES.out) (mkD_live.2.2.trans EO2.out))
  obtain ⟨sa, hsa⟩ : ∃ sa, sa = (lookL L (key o.name)).getD ⟨#[]⟩ := ⟨_, rfl⟩
  obtain ⟨ta, hta⟩ : ∃ ta, ta = (lookL L (key o.name)).isSome := ⟨_, rfl⟩
  obtain ⟨so, hso⟩ : ∃ so, so = (lookL d.live.toL (key o.name)).getD ⟨#[]⟩ := ⟨_, rfl⟩
  obtain ⟨to_, hto⟩ : ∃ to_, to_ = (lookL d.live.toL (key o.name)).isSome := ⟨_, rfl⟩
  obtain ⟨st, hst⟩ : ∃ st, st = (lookL L (key o.to)).getD ⟨#[]⟩ := ⟨_, rfl⟩
  obtain ⟨tt, htt⟩ : ∃ tt, tt = (lookL L (key o.to)).isSome := ⟨_, rfl⟩
  have RA : Hid (∀ W, Below w5.heap.size w5 W → Calls Try.prog 16 #[.agg #[.slice al L.length ax, .slice aq S.length ay, .slice ao O.length az], .string o.name] W fun e w' => e = .returned (.tuple #[.string sa, .bool ta]) ∧ Below W.heap.size W w') := hid (fun W hW => by
    have h := implRead_any (mkD al ax aq ay ao az L S O) o.name W (AA.out W hW) ZS.out
    rw [read_ok AK.out, mkD_live.1, ← hsa, ← hta] at h
    exact h)
  have RT : Hid (∀ W, Below w5.heap.size w5 W → Calls Try.prog 16 #[.agg #[.slice al L.length ax, .slice aq S.length ay, .slice ao O.length az], .string o.to] W fun e w' => e = .returned (.tuple #[.string st, .bool tt]) ∧ Below W.heap.size W w') := hid (fun W hW => by
    have h := implRead_any (mkD al ax aq ay ao az L S O) o.to W (AA.out W hW) ZS.out
    rw [read_ok AK.out, mkD_live.1, ← hst, ← htt] at h
    exact h)
  have RO : Hid (∀ W, Below w5.heap.size w5 W → Calls Try.prog 16 #[.agg #[.slice d.live.a d.live.n d.live.k, .slice d.safe.a d.safe.n d.safe.k, .slice d.ops.a d.ops.n d.ops.k], .string o.name] W fun e w' => e = .returned (.tuple #[.string so, .bool to_]) ∧ Below W.heap.size W w') := hid (fun W hW => by
    have h := implRead_any d o.name W (HD.out W (H5.out W hW)) hs
    rw [read_ok DK.out, ← hso, ← hto] at h
    exact h)
  have CA : Hid (∀ W, Below w5.heap.size w5 W → Calls Try.prog 8 #[.agg #[.slice al L.length ax, .slice aq S.length ay, .slice ao O.length az]] W fun e w' => e = .returned (.bool true) ∧ Below W.heap.size W w') := hid (fun W hW => by
    have h := implDisk_any (mkD al ax aq ay ao az L S O) W (AA.out W hW) ZS.out
    rw [AK.out] at h
    exact h)
  have K1 : Hid (o.kind = 1 → ta = true ∧ sa = so ++ o.data) := hid (fun k => by
    have h := KK.out.one k
    rw [hta, hsa, hso, h]
    exact ⟨rfl, rfl⟩)
  have K2 : Hid (o.kind = 2 → tt = true ∧ st = so ∧ ta = decide (o.to = o.name)) := hid (fun k => by
    obtain ⟨x, h1, h2, h3⟩ := KK.out.two k
    rw [htt, hst, hso, hta, h1, h2, h3]
    exact ⟨rfl, rfl, rfl⟩)
  have K3 : Hid (o.kind = 3 → ta = false) := hid (fun k => by
    rw [hta, KK.out.three k]
    rfl)
  have LO : Hid ((O.length : Int) = (d.ops.n : Int) + 1) := hid (by rw [EO.out, List.length_append, OpL.toL_len]; rfl)
  have sz1 : so.size ≤ 200000 := by
    have hM : okL d.live.toL = true := by rw [okL_toL]; exact dkOk_live DK.out
    have hB := (okL_bytes hM).1
    rw [hso]
    cases e : lookL d.live.toL (key o.name) with
    | none => exact Nat.zero_le _
    | some x => exact Nat.le_trans (look_bytes e) hB
  have sz2 : o.data.size ≤ 8 := ho.2.2
  clear hsa hta hso hto hst htt
  go_wp2_with fail
  refine (RA.out _ W5.out).mono ?_
  rintro e u1 ⟨rfl, hb⟩
  have u1B := hid (W5.out.trans (hb.mono W5.out.size))
  clear hb x0 x1 x2 y0 y1 y2 y3 z0 z1 z2
  obtain ⟨x0, x1, x2⟩ := (BX.out _ u1B.out).1.three
  obtain ⟨y0, y1, y2, y3⟩ := (BX.out _ u1B.out).2.1.four
  obtain ⟨z0, z1, z2⟩ := (BX.out _ u1B.out).2.2.three
  go_wp2_with fail
  refine (RO.out _ u1B.out).mono ?_
  rintro e u2 ⟨rfl, hb⟩
  have u2B := hid (u1B.out.trans (hb.mono u1B.out.size))
  clear hb x0 x1 x2 y0 y1 y2 y3 z0 z1 z2
  obtain ⟨x0, x1, x2⟩ := (BX.out _ u2B.out).1.three
  obtain ⟨y0, y1, y2, y3⟩ := (BX.out _ u2B.out).2.1.four
  obtain ⟨z0, z1, z2⟩ := (BX.out _ u2B.out).2.2.three
  by_cases k1 : o.kind = 1
  · obtain ⟨e1, e2⟩ := K1.out k1
    have E2 := hid e2
    have tS := eqS_true e2
    subst e1
    clear e2 K1 K2 K3
    go_wp2_with fail
    refine (CA.out _ u2B.out).mono ?_
    rintro e u3 ⟨rfl, hb⟩
    have u3B := hid (u2B.out.trans (hb.mono u2B.out.size))
    clear hb x0 x1 x2 y0 y1 y2 y3 z0 z1 z2
    obtain ⟨x0, x1, x2⟩ := (BX.out _ u3B.out).1.three
    obtain ⟨y0, y1, y2, y3⟩ := (BX.out _ u3B.out).2.1.four
    obtain ⟨z0, z1, z2⟩ := (BX.out _ u3B.out).2.2.three
    go_wp2_with fail
    refine (F2.out _ u3B.out).mono ?_
    rintro e u4 ⟨rfl, hb⟩
    have u4B := hid (u3B.out.trans (hb.mono u3B.out.size))
    clear hb x0 x1 x2 y0 y1 y2 y3 z0 z1 z2
    obtain ⟨x0, x1, x2⟩ := (BX.out _ u4B.out).1.three
    obtain ⟨y0, y1, y2, y3⟩ := (BX.out _ u4B.out).2.1.four
    obtain ⟨z0, z1, z2⟩ := (BX.out _ u4B.out).2.2.three
    have lo := LO.out
    go_wp2
    go_ret
    exact ⟨rfl, LE.out _ u4B.out⟩
  by_cases k2 : o.kind = 2
  · obtain ⟨e1, e2, e3⟩ := K2.out k2
    have tS := eqS_true e2
    have E3 := hid e3
    subst e1
    clear e2 e3 K1 K2 K3
    go_wp2_with fail
    refine (RT.out _ u2B.out).mono ?_
    rintro e u3 ⟨rfl, hb⟩
    have u3B := hid (u2B.out.trans (hb.mono u2B.out.size))
    clear hb x0 x1 x2 y0 y1 y2 y3 z0 z1 z2
    obtain ⟨x0, x1, x2⟩ := (BX.out _ u3B.out).1.three
    obtain ⟨y0, y1, y2, y3⟩ := (BX.out _ u3B.out).2.1.four
    obtain ⟨z0, z1, z2⟩ := (BX.out _ u3B.out).2.2.three
    by_cases e4 : o.to = o.name
    · have t4 := eqS_true e4
      have e5 : ta = true := by rw [E3.out]; exact decide_eq_true e4
      have H4 := hid e4
      clear e4
      subst e5
      go_wp2_with fail
      refine (CA.out _ u3B.out).mono ?_
      rintro e u4 ⟨rfl, hb⟩
      have u4B := hid (u3B.out.trans (hb.mono u3B.out.size))
      clear hb x0 x1 x2 y0 y1 y2 y3 z0 z1 z2
      obtain ⟨x0, x1, x2⟩ := (BX.out _ u4B.out).1.three
      obtain ⟨y0, y1, y2, y3⟩ := (BX.out _ u4B.out).2.1.four
      obtain ⟨z0, z1, z2⟩ := (BX.out _ u4B.out).2.2.three
      go_wp2_with fail
      refine (F2.out _ u4B.out).mono ?_
      rintro e u5 ⟨rfl, hb⟩
      have u5B := hid (u4B.out.trans (hb.mono u4B.out.size))
      clear hb x0 x1 x2 y0 y1 y2 y3 z0 z1 z2
      obtain ⟨x0, x1, x2⟩ := (BX.out _ u5B.out).1.three
      obtain ⟨y0, y1, y2, y3⟩ := (BX.out _ u5B.out).2.1.four
      obtain ⟨z0, z1, z2⟩ := (BX.out _ u5B.out).2.2.three
      have lo := LO.out
      go_wp2
      go_ret
      exact ⟨rfl, LE.out _ u5B.out⟩
    · have t4 := eqS_false e4
      have e5 : ta = false := by rw [E3.out]; exact decide_eq_false e4
      clear e4
      subst e5
      go_wp2_with fail
      refine (CA.out _ u3B.out).mono ?_
      rintro e u4 ⟨rfl, hb⟩
      have u4B := hid (u3B.out.trans (hb.mono u3B.out.size))
      clear hb x0 x1 x2 y0 y1 y2 y3 z0 z1 z2
      obtain ⟨x0, x1, x2⟩ := (BX.out _ u4B.out).1.three
      obtain ⟨y0, y1, y2, y3⟩ := (BX.out _ u4B.out).2.1.four
      obtain ⟨z0, z1, z2⟩ := (BX.out _ u4B.out).2.2.three
      go_wp2_with fail
      refine (F2.out _ u4B.out).mono ?_
      rintro e u5 ⟨rfl, hb⟩
      have u5B := hid (u4B.out.trans (hb.mono u4B.out.size))
      clear hb x0 x1 x2 y0 y1 y2 y3 z0 z1 z2
      obtain ⟨x0, x1, x2⟩ := (BX.out _ u5B.out).1.three
      obtain ⟨y0, y1, y2, y3⟩ := (BX.out _ u5B.out).2.1.four
      obtain ⟨z0, z1, z2⟩ := (BX.out _ u5B.out).2.2.three
      have lo := LO.out
      go_wp2
      go_ret
      exact ⟨rfl, LE.out _ u5B.out⟩
  by_cases k3 : o.kind = 3
  · have e1 := K3.out k3
    subst e1
    clear K1 K2 K3
    go_wp2_with fail
    refine (CA.out _ u2B.out).mono ?_
    rintro e u3 ⟨rfl, hb⟩
    have u3B := hid (u2B.out.trans (hb.mono u2B.out.size))
    clear hb x0 x1 x2 y0 y1 y2 y3 z0 z1 z2
    obtain ⟨x0, x1, x2⟩ := (BX.out _ u3B.out).1.three
    obtain ⟨y0, y1, y2, y3⟩ := (BX.out _ u3B.out).2.1.four
    obtain ⟨z0, z1, z2⟩ := (BX.out _ u3B.out).2.2.three
    go_wp2_with fail
    refine (F2.out _ u3B.out).mono ?_
    rintro e u4 ⟨rfl, hb⟩
    have u4B := hid (u3B.out.trans (hb.mono u3B.out.size))
    clear hb x0 x1 x2 y0 y1 y2 y3 z0 z1 z2
    obtain ⟨x0, x1, x2⟩ := (BX.out _ u4B.out).1.three
    obtain ⟨y0, y1, y2, y3⟩ := (BX.out _ u4B.out).2.1.four
    obtain ⟨z0, z1, z2⟩ := (BX.out _ u4B.out).2.2.three
    have lo := LO.out
    go_wp2
    go_ret
    exact ⟨rfl, LE.out _ u4B.out⟩
  clear K1 K2 K3
  go_wp2_with fail
  refine (CA.out _ u2B.out).mono ?_
  rintro e u3 ⟨rfl, hb⟩
  have u3B := hid (u2B.out.trans (hb.mono u2B.out.size))
  clear hb x0 x1 x2 y0 y1 y2 y3 z0 z1 z2
  obtain ⟨x0, x1, x2⟩ := (BX.out _ u3B.out).1.three
  obtain ⟨y0, y1, y2, y3⟩ := (BX.out _ u3B.out).2.1.four
  obtain ⟨z0, z1, z2⟩ := (BX.out _ u3B.out).2.2.three
  go_wp2_with fail
  refine (F2.out _ u3B.out).mono ?_
  rintro e u4 ⟨rfl, hb⟩
  have u4B := hid (u3B.out.trans (hb.mono u3B.out.size))
  clear hb x0 x1 x2 y0 y1 y2 y3 z0 z1 z2
  obtain ⟨x0, x1, x2⟩ := (BX.out _ u4B.out).1.three
  obtain ⟨y0, y1, y2, y3⟩ := (BX.out _ u4B.out).2.1.four
  obtain ⟨z0, z1, z2⟩ := (BX.out _ u4B.out).2.2.three
  have lo := LO.out
  go_wp2
  go_ret
  exact ⟨rfl, LE.out _ u4B.out⟩
end Go.Proofs.Ytcchpeebhkiacaa
