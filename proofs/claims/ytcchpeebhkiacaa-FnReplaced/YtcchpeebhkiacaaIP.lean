/- FnReplaced: the walk. -/
import Derived.Test.YtcchpeebhkiacaaZI
import Derived.Test.YtcchpeebhkiacaaZM
import Derived.Test.YtcchpeebhkiacaaIL
import Derived.Test.YtcchpeebhkiacaaMP
namespace Go.Proofs.Ytcchpeebhkiacaa
open Go Go.RowKit Go.Deep Go.Maps

theorem AnsI.grown {w w' : World} {B rb : Nat} {vl vs vo : Value} {L S : List FileV} {O : List OpV} (h : AnsI w B vl vs vo L S O) (hg : w.grownBy w' (some rb)) (hr : rb < B) : AnsI w' B vl vs vo L S O := ⟨World.ownsRow.kept h.l hg (own_ne h.l hr), World.ownsRow.kept h.s hg (own_ne h.s hr), World.ownsRow.kept h.o hg (own_ne h.o hr), h.ap⟩
theorem sync_ok (d : DiskV) : okL (syncL d) = true := by
  cases t : dkOk d with
  | true => rw [syncL, if_pos t, okL_toL]; exact dkOk_live t
  | false => rw [syncL, if_neg (by rw [t]; decide)]; rfl
theorem sync_wf {W : World} {d : DiskV} (hd : d.at W) : ∀ x ∈ syncL d, x.wf := by
  unfold syncL
  split
  · exact toL_wf hd.1
  · exact fun x hx => absurd hx List.not_mem_nil
theorem two_sz {al as_ ao : Option Addr} {ax ay az : Nat} {L S : List FileV} {O : List OpV} {c m : Nat} (hl : okL L = true) (hs : okL S = true) (hn : O.length ≤ c) (ho : ∀ o ∈ O, o.sz ≤ m) : (mkD al ax as_ ay ao az L S O).sz ≤ 412120 + (c + c * m) := by
  have e1 := fsOk_sz (n := L.length) (f := fileAt L) hl
  have e2 := fsOk_sz (n := S.length) (f := fileAt S) hs
  have e3 : tot (fun i => (opAt O i).sz) O.length ≤ O.length * m := tot_bound fun i hi => ho _ (opAt_mem hi)
  have e4 : O.length * m ≤ c * m := Nat.mul_le_mul_right m hn
  unfold DiskV.sz mkD
  simp only
  omega

theorem crA_ok {d : DiskV} {n : Nat} {g : Nat → Int} {t : Int} : okL (crA d n g t).1 = true := by
  by_cases h : dkOk d = true ∧ 0 ≤ t ∧ kpAll n g d.ops.n = true ∧ okL (runK n g d.ops.f t d.safe.toL n) = true
  · rw [crA_yes h]; exact h.2.2.2
  · rw [crA_no h]; rfl
theorem okL_wf {M : List FileV} (h : okL M = true) : ∀ x ∈ M, x.wf := fun x hx => by
  have h1 := (neat_ok h).names x hx
  unfold nmOk at h1
  simp only [Bool.and_eq_true, decide_eq_true_eq] at h1
  have h2 : x.data.size ≤ bytesL M := look_bytes (lookL_mem (neat_ok h).rise x hx)
  have h3 := (okL_bytes h).1
  unfold FileV.wf maxLen
  omega
set_option maxRecDepth 100000 in
set_option maxHeartbeats 16000000 in
theorem replaced_walk (a : Option Addr) (n cap : Nat) (w : World) (hb : BytesAt w a n) : Calls Try.prog 5 #[.slice a n cap] w fun e w' => e = .returned (.bool true) ∧ Below w.heap.size w w' := by
  by_cases hn : n ≤ 1048576
  rotate_left
  · have hn' : decide (1048576 < n) = true := decide_eq_true (by omega)
    have CB := hid (big_any a n cap w)
    rw [hn'] at CB
    clear hb
    go_enter Try.func5, Try.ntmps5
    go_wp2_with fail
    refine CB.out.mono ?_
    rintro e w1 ⟨rfl, rfl⟩
    go_wp2
    go_ret
    exact ⟨rfl, Below.refl _ _⟩
  have hn' : decide (1048576 < n) = false := decide_eq_false (by omega)
  have CB := hid (big_any a n cap w)
  rw [hn'] at CB
  have P1 := hid (drawReplace_any a n cap w hn hb)
  have HBY := hid hb
  clear hb hn'
  go_enter Try.func5, Try.ntmps5
  go_wp2_with fail
  refine CB.out.mono ?_
  rintro e w1 ⟨rfl, rfl⟩
  clear CB
  go_wp2_with fail
  refine P1.out.mono ?_
  rintro e w2 ⟨d, s, t, rfl, hd, hs, s1, t1, hb2⟩
  clear P1
  have hs' : d.sz ≤ 1048576 := by omega
  unfold DiskV.val
  have b2 : Below w2.heap.size w2 (w2.alloc (.cells #[.slice d.live.a d.live.n d.live.k, .slice d.safe.a d.safe.n d.safe.k, .slice d.ops.a d.ops.n d.ops.k] 27)) := (Below.refl _ w2).alloc (Nat.le_refl _) _
  have D2 := Blk.new w2 (.cells #[.slice d.live.a d.live.n d.live.k, .slice d.safe.a d.safe.n d.safe.k, .slice d.ops.a d.ops.n d.ops.k] 27)
  obtain ⟨L, hL⟩ : ∃ L, L = syncL d := ⟨_, rfl⟩
  have OKL : Hid (okL L = true) := hid (by rw [hL]; exact sync_ok d)
  have LWF : Hid (∀ x ∈ L, x.wf) := hid (by rw [hL]; exact sync_wf hd)
  have CY : Hid (Calls Try.prog 11 #[.agg #[.slice d.live.a d.live.n d.live.k, .slice d.safe.a d.safe.n d.safe.k, .slice d.ops.a d.ops.n d.ops.k]] (w2.alloc (.cells #[.slice d.live.a d.live.n d.live.k, .slice d.safe.a d.safe.n d.safe.k, .slice d.ops.a d.ops.n d.ops.k] 27)) fun e w' => ∃ sl ss so sx sy sz, e = .returned (.agg #[.slice sl L.length sx, .slice ss L.length sy, .slice so 0 sz]) ∧ AnsI w' (w2.alloc (.cells #[.slice d.live.a d.live.n d.live.k, .slice d.safe.a d.safe.n d.safe.k, .slice d.ops.a d.ops.n d.ops.k] 27)).heap.size (.slice sl L.length sx) (.slice ss L.length sy) (.slice so 0 sz) L L [] ∧ Below (w2.alloc (.cells #[.slice d.live.a d.live.n d.live.k, .slice d.safe.a d.safe.n d.safe.k, .slice d.ops.a d.ops.n d.ops.k] 27)).heap.size (w2.alloc (.cells #[.slice d.live.a d.live.n d.live.k, .slice d.safe.a d.safe.n d.safe.k, .slice d.ops.a d.ops.n d.ops.k] 27)) w') := hid (by
    have h := implSync_any d (w2.alloc (.cells #[.slice d.live.a d.live.n d.live.k, .slice d.safe.a d.safe.n d.safe.k, .slice d.ops.a d.ops.n d.ops.k] 27)) (hd.below b2) hs'
    rw [← hL] at h
    refine h.mono ?_
    rintro e w' ⟨vl, vs, vo, rfl, h2, h3⟩
    obtain ⟨sl, ss, so, sx, sy, sz, rfl, rfl, rfl⟩ := h2.slices
    exact ⟨sl, ss, so, sx, sy, sz, rfl, h2, h3⟩)
  have B2 := hid (hb2.trans (b2.mono hb2.size))
  have l12 : w1.heap.size ≤ w2.heap.size := hb2.size
  have lv : w2.heap.size < (w2.alloc (.cells #[.slice d.live.a d.live.n d.live.k, .slice d.safe.a d.safe.n d.safe.k, .slice d.ops.a d.ops.n d.ops.k] 27)).heap.size := by simp
  clear hL hd hs hs' b2 hb2
  obtain ⟨x0, x1, x2⟩ := D2.three
  go_wp2_with fail
  refine CY.out.mono ?_
  rintro e w3 ⟨sl, ss, so, sx, sy, sz, rfl, hA, hb3⟩
  have D3 := D2.below hb3
  have HA3 := hid hA
  have B3 := hid (B2.out.trans (hb3.mono B2.out.size))
  have l3 : w2.heap.size < w3.heap.size := D3.lt
  clear CY hA hb3 D2 x0 x1 x2
  go_wp2_with (refine wpList_store3 _ rfl rfl _ _ rfl w2.heap.size rfl (.slice sl L.length sx) (.slice ss L.length sy) (.slice so 0 sz) rfl _ _ _ D3 rfl rfl rfl ?_; intro W xb on; have XB := hid xb; have ON := hid on; clear xb on; obtain ⟨x0, x1, x2⟩ := XB.out.three)
  have BW : Hid (Below w1.heap.size w1 W) := hid (B3.out.trans (ON.out.below l12 B3.out.size))
  have HAW := hid (HA3.out.grown ON.out.gr lv)
  have okD : Hid (∀ e : DiskV, e.live.toL = L → e.safe.toL = L → e.ops.toL = [] → dkOk e = true) := hid (fun e h1 h2 h3 => dkOk_synced OKL.out h1 h2 h3)
  have DK : Hid (dkOk (mkD sl sx ss sy so sz L L []) = true) := hid (okD.out _ mkD_live.1 mkD_live.2.1 mkD_live.2.2)
  have l60 : L.length ≤ 60 := (okL_bytes OKL.out).2
  have HD1 : Hid (∀ X, Below W.heap.size W X → (mkD sl sx ss sy so sz L L []).at X) := hid (fun X hX => ((HAW.out.below hX).s'.disk LWF.out LWF.out (fun x hx => absurd hx List.not_mem_nil) (by omega) (by omega) (Nat.zero_le _)).1)
  have Z1 : Hid ((mkD sl sx ss sy so sz L L []).sz ≤ 1048576) := hid (Nat.le_trans (two_sz (c := 0) (m := 0) OKL.out OKL.out (Nat.le_refl _) (fun o ho => absurd ho List.not_mem_nil)) (by omega))
  obtain ⟨c, hc⟩ : ∃ c, c = (repA (mkD sl sx ss sy so sz L L []) s t).2.2.2 := ⟨_, rfl⟩
  obtain ⟨RL, hRL⟩ : ∃ RL, RL = (repA (mkD sl sx ss sy so sz L L []) s t).1 := ⟨_, rfl⟩
  obtain ⟨RS, hRS⟩ : ∃ RS, RS = (repA (mkD sl sx ss sy so sz L L []) s t).2.1 := ⟨_, rfl⟩
  obtain ⟨RO, hRO⟩ : ∃ RO, RO = (repA (mkD sl sx ss sy so sz L L []) s t).2.2.1 := ⟨_, rfl⟩
  have CI : Hid (∀ X, Below W.heap.size W X → Calls Try.prog 18 #[.agg #[.slice sl L.length sx, .slice ss L.length sy, .slice so 0 sz], .string s, .string t] X fun e w' => ∃ al aq ao ax ay az, e = .returned (.tuple #[.agg #[.slice al RL.length ax, .slice aq RS.length ay, .slice ao RO.length az], .int .i64 c]) ∧ AnsI w' X.heap.size (.slice al RL.length ax) (.slice aq RS.length ay) (.slice ao RO.length az) RL RS RO ∧ Below X.heap.size X w') := hid (fun X hX => by
    have h := implReplace_any (mkD sl sx ss sy so sz L L []) s t X (HD1.out X hX) Z1.out (by omega) (by omega)
    rw [← hc, ← hRL, ← hRS, ← hRO] at h
    refine h.mono ?_
    rintro e w' ⟨vl, vs, vo, rfl, h2, h3⟩
    obtain ⟨cl, cs, co, cx, cy, cz, rfl, rfl, rfl⟩ := h2.slices
    exact ⟨cl, cs, co, cx, cy, cz, rfl, h2, h3⟩)
  have CS : Hid (∀ X, Below W.heap.size W X → Calls Try.prog 19 #[.agg #[.slice sl L.length sx, .slice ss L.length sy, .slice so 0 sz], .string s, .string t] X fun e w' => ∃ bl bq bo bx bw bz, e = .returned (.tuple #[.agg #[.slice bl RL.length bx, .slice bq RS.length bw, .slice bo RO.length bz], .int .i64 c]) ∧ Below X.heap.size X w') := hid (fun X hX => by
    have h := specReplace_any (mkD sl sx ss sy so sz L L []) s t X (HD1.out X hX) Z1.out (by omega) (by omega)
    rw [← hc, ← hRL, ← hRS, ← hRO] at h
    refine h.mono ?_
    rintro e w' ⟨vl, vs, vo, rfl, h2, h3⟩
    obtain ⟨bl, bx, rfl⟩ := h2.l.shape
    obtain ⟨bq, bw, rfl⟩ := h2.s.shape
    obtain ⟨bo, bz, rfl⟩ := h2.o.shape
    exact ⟨bl, bq, bo, bx, bw, bz, rfl, h3⟩)
  have HE := hid (And.intro hc (And.intro hRL (And.intro hRS hRO)))
  clear hc hRL hRS hRO D3 HA3 ON B3
  refine (CI.out _ (Below.refl _ _)).mono ?_
  rintro e w4 ⟨al, aq, ao, ax, ay, az, rfl, hA, hb4⟩
  have ab : Below w4.heap.size w4 (w4.alloc (.cells #[.slice al RL.length ax, .slice aq RS.length ay, .slice ao RO.length az] 27)) := (Below.refl _ w4).alloc (Nat.le_refl _) _
  have T4 := then_ hb4 ab
  have X4 := XB.out.below T4
  have A4 := Blk.new w4 (.cells #[.slice al RL.length ax, .slice aq RS.length ay, .slice ao RO.length az] 27)
  have HA4 := hid (hA.below ab)
  have H4 := hid T4
  clear CI hA hb4 ab T4 x0 x1 x2
  obtain ⟨x0, x1, x2⟩ := X4.three
  go_wp2_with fail
  refine (CS.out _ H4.out).mono ?_
  rintro e w5 ⟨bl, bq, bo, bx, bw, bz, rfl, hb5⟩
  have ab : Below w5.heap.size w5 (w5.alloc (.cells #[.slice bl RL.length bx, .slice bq RS.length bw, .slice bo RO.length bz] 27)) := (Below.refl _ w5).alloc (Nat.le_refl _) _
  have T5 := then_ hb5 ab
  have BX : Hid (∀ X, Below (w5.alloc (.cells #[.slice bl RL.length bx, .slice bq RS.length bw, .slice bo RO.length bz] 27)).heap.size (w5.alloc (.cells #[.slice bl RL.length bx, .slice bq RS.length bw, .slice bo RO.length bz] 27)) X → Blk X w2.heap.size (.cells #[.slice sl L.length sx, .slice ss L.length sy, .slice so 0 sz] 27) ∧ Blk X w4.heap.size (.cells #[.slice al RL.length ax, .slice aq RS.length ay, .slice ao RO.length az] 27)) := hid (fun X hX => ⟨(X4.below T5).below hX, (A4.below T5).below hX⟩)
  have HA5 := hid (HA4.out.below T5)
  have H5 : Hid (∀ X, Below (w5.alloc (.cells #[.slice bl RL.length bx, .slice bq RS.length bw, .slice bo RO.length bz] 27)).heap.size (w5.alloc (.cells #[.slice bl RL.length bx, .slice bq RS.length bw, .slice bo RO.length bz] 27)) X → Below W.heap.size W X) := hid (fun X hX => then_ (then_ H4.out T5) hX)
  have LE : Hid (∀ X, Below (w5.alloc (.cells #[.slice bl RL.length bx, .slice bq RS.length bw, .slice bo RO.length bz] 27)).heap.size (w5.alloc (.cells #[.slice bl RL.length bx, .slice bq RS.length bw, .slice bo RO.length bz] 27)) X → Below w1.heap.size w1 X) := hid (fun X hX => BW.out.trans ((H5.out X hX).mono BW.out.size))
  have W5 := hid (Below.refl (w5.alloc (.cells #[.slice bl RL.length bx, .slice bq RS.length bw, .slice bo RO.length bz] 27)).heap.size (w5.alloc (.cells #[.slice bl RL.length bx, .slice bq RS.length bw, .slice bo RO.length bz] 27)))
  clear CS hb5 ab T5 x0 x1 x2 X4 A4 HA4 H4
  obtain ⟨x0, x1, x2⟩ := (BX.out _ W5.out).1.three
  obtain ⟨z0, z1, z2⟩ := (BX.out _ W5.out).2.three
  by_cases c0 : c = 0
  rotate_left
  · go_wp2
    go_ret
    exact ⟨rfl, LE.out _ W5.out⟩
  subst c0
  obtain ⟨sf, hsf⟩ : ∃ sf, sf = (lookL L (key (s ++ ⟨#[46, 110, 101, 119]⟩))).getD ⟨#[]⟩ := ⟨_, rfl⟩
  obtain ⟨tf, htf⟩ : ∃ tf, tf = (lookL L (key (s ++ ⟨#[46, 110, 101, 119]⟩))).isSome := ⟨_, rfl⟩
  obtain ⟨old, hold⟩ : ∃ old, old = (lookL L (key s)).getD ⟨#[]⟩ := ⟨_, rfl⟩
  obtain ⟨was, hwas⟩ : ∃ was, was = (lookL L (key s)).isSome := ⟨_, rfl⟩
  have RN : Hid (∀ X, Below (w5.alloc (.cells #[.slice bl RL.length bx, .slice bq RS.length bw, .slice bo RO.length bz] 27)).heap.size (w5.alloc (.cells #[.slice bl RL.length bx, .slice bq RS.length bw, .slice bo RO.length bz] 27)) X → Calls Try.prog 16 #[.agg #[.slice sl L.length sx, .slice ss L.length sy, .slice so 0 sz], .string (s ++ ⟨#[46, 110, 101, 119]⟩)] X fun e w' => e = .returned (.tuple #[.string sf, .bool tf]) ∧ Below X.heap.size X w') := hid (fun X hX => by
    have h := implRead_any (mkD sl sx ss sy so sz L L []) (s ++ ⟨#[46, 110, 101, 119]⟩) X (HD1.out X (H5.out X hX)) Z1.out
    rw [read_ok DK.out, mkD_live.1, ← hsf, ← htf] at h
    exact h)
  have RD : Hid (∀ X, Below (w5.alloc (.cells #[.slice bl RL.length bx, .slice bq RS.length bw, .slice bo RO.length bz] 27)).heap.size (w5.alloc (.cells #[.slice bl RL.length bx, .slice bq RS.length bw, .slice bo RO.length bz] 27)) X → Calls Try.prog 16 #[.agg #[.slice sl L.length sx, .slice ss L.length sy, .slice so 0 sz], .string s] X fun e w' => e = .returned (.tuple #[.string old, .bool was]) ∧ Below X.heap.size X w') := hid (fun X hX => by
    have h := implRead_any (mkD sl sx ss sy so sz L L []) s X (HD1.out X (H5.out X hX)) Z1.out
    rw [read_ok DK.out, mkD_live.1, ← hold, ← hwas] at h
    exact h)
  have HF : Hid (tf = false → lookL L (key (s ++ ⟨#[46, 110, 101, 119]⟩)) = none) := hid (fun h => by
    rw [htf] at h
    cases e : lookL L (key (s ++ ⟨#[46, 110, 101, 119]⟩)) with
    | none => rfl
    | some x => rw [e] at h; cases h)
  have HO := hid (And.intro hold hwas)
  clear hsf htf hold hwas
  go_wp2_with fail
  refine (RN.out _ W5.out).mono ?_
  rintro e w6 ⟨rfl, hb⟩
  have w6B := hid (W5.out.trans (hb.mono W5.out.size))
  clear hb x0 x1 x2 z0 z1 z2
  obtain ⟨x0, x1, x2⟩ := (BX.out _ w6B.out).1.three
  obtain ⟨z0, z1, z2⟩ := (BX.out _ w6B.out).2.three
  cases tf with
  | true =>
    go_wp2
    go_ret
    exact ⟨rfl, LE.out _ w6B.out⟩
  | false =>
  go_wp2_with fail
  refine (RD.out _ w6B.out).mono ?_
  rintro e w7 ⟨rfl, hb⟩
  have w7B := hid (w6B.out.trans (hb.mono w6B.out.size))
  clear hb x0 x1 x2 z0 z1 z2
  obtain ⟨x0, x1, x2⟩ := (BX.out _ w7B.out).1.three
  obtain ⟨z0, z1, z2⟩ := (BX.out _ w7B.out).2.three
  obtain ⟨M, hM, hOK⟩ := rep_two (d := (mkD sl sx ss sy so sz L L [])) (s := s) (t := t) DK.out mkD_live.2.2 (mkD_live.2.1.trans mkD_live.1.symm) HE.out.1.symm (by rw [mkD_live.1]; exact HF.out trivial)
  rw [mkD_live.1] at hM hOK
  have ES : Hid (RS = L) := hid (by rw [HE.out.2.2.1, hM])
  have EO : Hid (RO = [opA s t, opR s]) := hid (by rw [HE.out.2.2.2, hM])
  have EL : Hid (RL = M) := hid (by rw [HE.out.2.1, hM])
  have AK : Hid (dkOk (mkD al ax aq ay ao az RL RS RO) = true) := hid (hOK _ (mkD_live.1.trans EL.out) (mkD_live.2.1.trans ES.out) (mkD_live.2.2.trans EO.out))
  have OKR : Hid (okL RL = true) := hid (by have h := dkOk_live AK.out; rw [← okL_toL, mkD_live.1] at h; exact h)
  have e4 : dotNew.size = 4 := rfl
  have OW : Hid (∀ x ∈ RO, x.wf ∧ x.sz ≤ 400) := hid (by
    rw [EO.out]
    intro x hx
    simp only [List.mem_cons, List.not_mem_nil, or_false] at hx
    rcases hx with rfl | rfl
    · unfold OpV.wf OpV.sz opA maxLen; simp only [ByteArray.size_append]; have : (⟨#[]⟩ : ByteArray).size = 0 := rfl; omega
    · unfold OpV.wf OpV.sz opR maxLen; simp only [ByteArray.size_append]; have : (⟨#[]⟩ : ByteArray).size = 0 := rfl; omega)
  have lo : RO.length = 2 := by rw [EO.out]; rfl
  have ZA : Hid ((mkD al ax aq ay ao az RL RS RO).sz ≤ 1048576) := hid (Nat.le_trans (two_sz (c := 2) (m := 400) OKR.out (by rw [ES.out]; exact OKL.out) (by omega) (fun o ho => (OW.out o ho).2)) (by omega))
  have AA : Hid (∀ X, Below (w5.alloc (.cells #[.slice bl RL.length bx, .slice bq RS.length bw, .slice bo RO.length bz] 27)).heap.size (w5.alloc (.cells #[.slice bl RL.length bx, .slice bq RS.length bw, .slice bo RO.length bz] 27)) X → (mkD al ax aq ay ao az RL RS RO).at X) := hid (fun X hX => ((HA5.out.below hX).s'.disk (okL_wf OKR.out) (by rw [ES.out]; exact LWF.out) (fun x hx => (OW.out x hx).1) (by have := (okL_bytes OKR.out).2; omega) (by rw [ES.out]; omega) (by omega)).1)
  have LO := hid lo
  have E0 := hid (OwnI.made w7 w7.heap.size (Nat.le_refl _))
  have BE := hid ((Below.refl _ w7).alloc (Nat.le_refl _) (.cells #[] 2))
  clear hM hOK lo
  go_wp2
  go_loopw [14, 15] (fun v i wr => ∃ (k : Nat) (l : List Int) (b : Option Addr) (c : Nat), k ≤ 2 ∧ i = .int .i64 k ∧ v = .slice b l.length c ∧ OwnI wr w7.heap.size (.slice b l.length c) l ∧ Kept l k ∧ Below w7.heap.size w7 wr) (fun _ i _ => 2 - (intOf i).toNat)
  case atStart => exact ⟨0, [], _, 0, Nat.zero_le _, rfl, rfl, E0.out, Kept.nil, BE.out⟩
  case round =>
    clear BE E0 x0 x1 x2 z0 z1 z2
    obtain ⟨k, l, b, c, hk, rfl, rfl, O, KP, B⟩ := hrel
    have HB7 := hid B
    have B8 := hid (w7B.out.trans (B.mono w7B.out.size))
    have HKP := hid KP
    have HO7 := hid O
    have ll : l.length ≤ k := KP.len
    clear O KP B
    obtain ⟨x0, x1, x2⟩ := (BX.out _ B8.out).1.three
    obtain ⟨z0, z1, z2⟩ := (BX.out _ B8.out).2.three
    by_cases hlt : k < 2
    · have hlt' : (k : Int) < (RO.length : Int) := by rw [LO.out]; omega
      have HLT := hid hlt
      by_cases n0 : 0 < n
      · obtain ⟨bb, off, ea, hbl, hcc⟩ := HBY.out n0
        have hm : k % n < n := Nat.mod_lt _ n0
        obtain ⟨v, hv, v0, v1⟩ := hcc (k % n) hm
        have hv' : wr.cell? ⟨bb, off + k % n, none⟩ = some (.int .u8 v) := ((LE.out _ B8.out).cell (p := ⟨bb, _, none⟩) hbl).trans hv
        have n0' : (0 : Int) < (n : Int) := by omega
        have nz : ¬ (n : Int) = 0 := by omega
        have et : (k : Int).tmod (n : Int) = ((k % n : Nat) : Int) := by rw [Int.tmod_eq_emod_of_nonneg (by omega)]; omega
        have e8 : (k : Int).tmod 8 = (k : Int) := by rw [Int.tmod_eq_emod_of_nonneg (by omega)]; omega
        have i0 : (0 : Int) ≤ ((k % n : Nat) : Int) := by omega
        have i1 : ((k % n : Nat) : Int) < (n : Int) := by omega
        have wm : IntKind.i64.wrap ((k % n : Nat) : Int) = ((k % n : Nat) : Int) := by rw [IntKind.wrap_i64]; omega
        obtain ⟨m, hm'⟩ : ∃ m, m = k % n := ⟨_, rfl⟩
        rw [← hm'] at et i0 i1 wm hv'
        clear hcc hv hm hm'
        subst ea
        obtain ⟨R, hR⟩ : ∃ R, R = l ++ [(k : Int)] := ⟨_, rfl⟩
        have ER := hid hR
        have HOa := hid (HO7.out.alloc (.cells #[.int .i64 k] 2))
        have LI : Hid (IntL (wr.alloc (.cells #[.int .i64 k] 2)) (some ⟨wr.heap.size, 0, none⟩) [(k : Int)]) := hid (fun _ => ⟨wr.heap.size, 0, rfl, by simp, fun j u hu => by
          cases j with
          | zero => simp at hu; subst hu; exact one_cell wr _
          | succ j => simp at hu⟩)
        have l1 : R.length ≤ 4194304 := by rw [hR, List.length_append]; simp; omega
        have s7 : w7.heap.size ≤ (wr.alloc (.cells #[.int .i64 k] 2)).heap.size := by have := HB7.out.size; simp; omega
        have BWa := hid (HB7.out.alloc HB7.out.size (.cells #[.int .i64 k] 2))
        clear hR
        go_wp2_with (at_builtin; refine wpList_append_intsR _ rfl _ _ rfl w7.heap.size (.slice b l.length c) l rfl HOa.out _ 1 1 [(k : Int)] rfl rfl LI.out R ER.out l1 s7 ?_; intro a1 c1 w8 o8 g8 h8; have O8 := hid o8; have B9 : Hid (Below w7.heap.size w7 w8) := hid (BWa.out.trans (below_grown g8 s7 (fun j e => (World.ownsRow.lt HOa.out j e).1))); clear o8 g8 h8)
        · go_roundw
          case rel => exact ⟨k + 1, R, a1, c1, by have := HLT.out; omega, by go_num, rfl, O8.out, by rw [ER.out]; exact HKP.out.add, B9.out⟩
          case measure => have := HLT.out; simp [intOf]; omega
        · go_roundw
          case rel => exact ⟨k + 1, l, b, c, by have := HLT.out; omega, by go_num, rfl, HO7.out, HKP.out.skip, HB7.out⟩
          case measure => have := HLT.out; simp [intOf]; omega
      · have n0' : ¬ (0 : Int) < (n : Int) := by omega
        have kd : decide (0 < n) = false := decide_eq_false n0
        go_wp2
        go_roundw
        case rel => exact ⟨k + 1, l, b, c, by have := HLT.out; omega, by go_num, rfl, HO7.out, HKP.out.skip, HB7.out⟩
        case measure => have := HLT.out; simp [intOf]; omega
    · obtain rfl : k = 2 := by omega
      have hlt' : ¬ (2 : Int) < (RO.length : Int) := by rw [LO.out]; omega
      have et : (n : Int).tmod 4 = ((n % 4 : Nat) : Int) := by rw [Int.tmod_eq_emod_of_nonneg (by omega)]; omega
      have wm : IntKind.i64.wrap ((n % 4 : Nat) : Int) = ((n % 4 : Nat) : Int) := by rw [IntKind.wrap_i64]; omega
      obtain ⟨m, hm⟩ : ∃ m, m = n % 4 := ⟨_, rfl⟩
      rw [← hm] at et wm
      have o0 : Hid (opAt RO 0 = opA s t ∧ opAt RO 1 = opR s) := hid (by rw [EO.out]; exact ⟨rfl, rfl⟩)
      have RC := hid (rep_crash (e := (mkD al ax aq ay ao az RL RS RO)) (n := l.length) (g := numAt l) (t := (m : Int)) (s := s) (fr := s ++ dotNew) (data := t) AK.out LO.out o0.out.1 o0.out.2 (by rw [mkD_live.2.1, ES.out]; exact HF.out trivial) (fresh_ne s) HKP.out.all (by omega))
      obtain ⟨CL, hCL⟩ : ∃ CL, CL = (crA (mkD al ax aq ay ao az RL RS RO) l.length (numAt l) (m : Int)).1 := ⟨_, rfl⟩
      have OKC : Hid (okL CL = true) := hid (by rw [hCL]; exact crA_ok)
      have RC1 : Hid (lookL CL (key s) = lookL L (key s) ∨ lookL CL (key s) = some t) := hid (by have h := RC.out.2.1; rw [mkD_live.2.1] at h; have e : lookL L (key s) = lookL RS (key s) := (by rw [ES.out]); rw [hCL, e]; exact h)
      have RC2 : Hid (lookL RL (key s) = some t) := hid (by have h := RC.out.2.2; rw [mkD_live.1] at h; exact h)
      have CC : Hid (∀ X, Below wr.heap.size wr X → Calls Try.prog 10 #[.agg #[.slice al RL.length ax, .slice aq RS.length ay, .slice ao RO.length az], .slice b l.length c, .int .i64 (m : Int)] X fun e w' => ∃ cl cq co cx cy cz, e = .returned (.tuple #[.agg #[.slice cl CL.length cx, .slice cq CL.length cy, .slice co 0 cz], .bool true]) ∧ AnsI w' X.heap.size (.slice cl CL.length cx) (.slice cq CL.length cy) (.slice co 0 cz) CL CL [] ∧ Below X.heap.size X w') := hid (fun X hX => by
        have h := implCrash_any (mkD al ax aq ay ao az RL RS RO) b l.length c (numAt l) (m : Int) X (AA.out X (B8.out.trans (hX.mono B8.out.size))) ZA.out (by omega) (HO7.out.lies.ints.below hX)
        rw [RC.out.1, ← hCL] at h
        refine h.mono ?_
        rintro e w' ⟨vl, vs, vo, rfl, h2, h3⟩
        obtain ⟨cl, cq, co, cx, cy, cz, rfl, rfl, rfl⟩ := h2.slices
        exact ⟨cl, cq, co, cx, cy, cz, rfl, h2, h3⟩)
      clear hCL RC hm
      go_wp2_with fail
      refine (CC.out _ (Below.refl _ _)).mono ?_
      rintro e w8 ⟨cl, cq, co, cx, cy, cz, rfl, hA, hb8⟩
      have ab : Below w8.heap.size w8 (w8.alloc (.cells #[.slice cl CL.length cx, .slice cq CL.length cy, .slice co 0 cz] 27)) := (Below.refl _ w8).alloc (Nat.le_refl _) _
      have T8 := hid (then_ hb8 ab)
      have HC := hid (hA.below ab)
      have C8 := hid (Blk.new w8 (.cells #[.slice cl CL.length cx, .slice cq CL.length cy, .slice co 0 cz] 27))
      have B9 : Hid (∀ X, Below (w8.alloc (.cells #[.slice cl CL.length cx, .slice cq CL.length cy, .slice co 0 cz] 27)).heap.size (w8.alloc (.cells #[.slice cl CL.length cx, .slice cq CL.length cy, .slice co 0 cz] 27)) X → Below (w5.alloc (.cells #[.slice bl RL.length bx, .slice bq RS.length bw, .slice bo RO.length bz] 27)).heap.size (w5.alloc (.cells #[.slice bl RL.length bx, .slice bq RS.length bw, .slice bo RO.length bz] 27)) X) := hid (fun X hX => B8.out.trans ((then_ T8.out hX).mono B8.out.size))
      have BY : Hid (∀ X, Below (w8.alloc (.cells #[.slice cl CL.length cx, .slice cq CL.length cy, .slice co 0 cz] 27)).heap.size (w8.alloc (.cells #[.slice cl CL.length cx, .slice cq CL.length cy, .slice co 0 cz] 27)) X → Blk X w4.heap.size (.cells #[.slice al RL.length ax, .slice aq RS.length ay, .slice ao RO.length az] 27) ∧ Blk X w8.heap.size (.cells #[.slice cl CL.length cx, .slice cq CL.length cy, .slice co 0 cz] 27)) := hid (fun X hX => ⟨(BX.out X (B9.out X hX)).2, C8.out.below hX⟩)
      have LE9 : Hid (∀ X, Below (w8.alloc (.cells #[.slice cl CL.length cx, .slice cq CL.length cy, .slice co 0 cz] 27)).heap.size (w8.alloc (.cells #[.slice cl CL.length cx, .slice cq CL.length cy, .slice co 0 cz] 27)) X → Below w1.heap.size w1 X) := hid (fun X hX => LE.out X (B9.out X hX))
      have c60 : CL.length ≤ 60 := (okL_bytes OKC.out).2
      have KC : Hid (dkOk (mkD cl cx cq cy co cz CL CL []) = true) := hid (dkOk_synced OKC.out mkD_live.1 mkD_live.2.1 mkD_live.2.2)
      have ZC : Hid ((mkD cl cx cq cy co cz CL CL []).sz ≤ 1048576) := hid (Nat.le_trans (two_sz (c := 0) (m := 0) OKC.out OKC.out (Nat.le_refl _) (fun o ho => absurd ho List.not_mem_nil)) (by omega))
      have AC : Hid (∀ X, Below (w8.alloc (.cells #[.slice cl CL.length cx, .slice cq CL.length cy, .slice co 0 cz] 27)).heap.size (w8.alloc (.cells #[.slice cl CL.length cx, .slice cq CL.length cy, .slice co 0 cz] 27)) X → (mkD cl cx cq cy co cz CL CL []).at X) := hid (fun X hX => ((HC.out.below hX).s'.disk (okL_wf OKC.out) (okL_wf OKC.out) (fun x hx => absurd hx List.not_mem_nil) (by omega) (by omega) (Nat.zero_le _)).1)
      obtain ⟨sb, hsb⟩ : ∃ sb, sb = (lookL CL (key s)).getD ⟨#[]⟩ := ⟨_, rfl⟩
      obtain ⟨tb, htb⟩ : ∃ tb, tb = (lookL CL (key s)).isSome := ⟨_, rfl⟩
      have RB : Hid (∀ X, Below (w8.alloc (.cells #[.slice cl CL.length cx, .slice cq CL.length cy, .slice co 0 cz] 27)).heap.size (w8.alloc (.cells #[.slice cl CL.length cx, .slice cq CL.length cy, .slice co 0 cz] 27)) X → Calls Try.prog 16 #[.agg #[.slice cl CL.length cx, .slice cq CL.length cy, .slice co 0 cz], .string s] X fun e w' => e = .returned (.tuple #[.string sb, .bool tb]) ∧ Below X.heap.size X w') := hid (fun X hX => by
        have h := implRead_any (mkD cl cx cq cy co cz CL CL []) s X (AC.out X hX) ZC.out
        rw [read_ok KC.out, mkD_live.1, ← hsb, ← htb] at h
        exact h)
      have RA : Hid (∀ X, Below (w8.alloc (.cells #[.slice cl CL.length cx, .slice cq CL.length cy, .slice co 0 cz] 27)).heap.size (w8.alloc (.cells #[.slice cl CL.length cx, .slice cq CL.length cy, .slice co 0 cz] 27)) X → Calls Try.prog 16 #[.agg #[.slice al RL.length ax, .slice aq RS.length ay, .slice ao RO.length az], .string s] X fun e w' => e = .returned (.tuple #[.string t, .bool true]) ∧ Below X.heap.size X w') := hid (fun X hX => by
        have h := implRead_any (mkD al ax aq ay ao az RL RS RO) s X (AA.out X (B9.out X hX)) ZA.out
        rw [read_ok AK.out, mkD_live.1, RC2.out] at h
        exact h)
      have FN : Hid ((sb = old ∧ tb = was) ∨ (sb = t ∧ tb = true)) := hid (by
        rw [hsb, htb, HO.out.1, HO.out.2]
        rcases RC1.out with h | h
        · rw [h]; exact .inl ⟨rfl, rfl⟩
        · rw [h]; exact .inr ⟨rfl, rfl⟩)
      have W8 := hid (Below.refl (w8.alloc (.cells #[.slice cl CL.length cx, .slice cq CL.length cy, .slice co 0 cz] 27)).heap.size (w8.alloc (.cells #[.slice cl CL.length cx, .slice cq CL.length cy, .slice co 0 cz] 27)))
      clear CC hA hb8 ab hsb htb x0 x1 x2 z0 z1 z2
      obtain ⟨x0, x1, x2⟩ := (BY.out _ W8.out).1.three
      obtain ⟨z0, z1, z2⟩ := (BY.out _ W8.out).2.three
      go_wp2_with fail
      refine (RB.out _ W8.out).mono ?_
      rintro e u1 ⟨rfl, hb⟩
      have u1B := hid (W8.out.trans (hb.mono W8.out.size))
      clear hb x0 x1 x2 z0 z1 z2
      obtain ⟨x0, x1, x2⟩ := (BY.out _ u1B.out).1.three
      obtain ⟨z0, z1, z2⟩ := (BY.out _ u1B.out).2.three
      go_wp2_with fail
      refine (RA.out _ u1B.out).mono ?_
      rintro e u2 ⟨rfl, hb⟩
      have u2B := hid (u1B.out.trans (hb.mono u1B.out.size))
      clear hb x0 x1 x2 z0 z1 z2
      obtain ⟨x0, x1, x2⟩ := (BY.out _ u2B.out).1.three
      obtain ⟨z0, z1, z2⟩ := (BY.out _ u2B.out).2.three
      have tt := eqS_true (rfl : t = t)
      rcases FN.out with ⟨e1, e2⟩ | ⟨e1, e2⟩
      · have t1 := eqS_true e1
        subst e2
        clear e1
        go_wp2
        go_ret
        exact ⟨rfl, LE9.out _ u2B.out⟩
      · have t1 := eqS_true e1
        subst e2
        clear e1
        by_cases e3 : sb = old
        · have t3 := eqS_true e3
          clear e3
          cases was with
          | true =>
            go_wp2
            go_ret
            exact ⟨rfl, LE9.out _ u2B.out⟩
          | false =>
            go_wp2
            go_ret
            exact ⟨rfl, LE9.out _ u2B.out⟩
        · have t3 := eqS_false e3
          clear e3
          cases was with
          | true =>
            go_wp2
            go_ret
            exact ⟨rfl, LE9.out _ u2B.out⟩
          | false =>
            go_wp2
            go_ret
            exact ⟨rfl, LE9.out _ u2B.out⟩
end Go.Proofs.Ytcchpeebhkiacaa
