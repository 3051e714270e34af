/- Replace, the model. -/
import Derived.Test.YtcchpeebhkiacaaMN
import Derived.Test.YtcchpeebhkiacaaMK
import Derived.Test.YtcchpeebhkiacaaEI
namespace Go.Proofs.Ytcchpeebhkiacaa
open Go Go.RowKit Go.Deep Go.Maps

theorem rep_results {F : Func} (tmps : Array Value) (W : World) (P : Nat) (x y z u : Value) (hF : F.results = #[.cell 6 27, .tmp 7]) (h : Blk W P (.cells #[x, y, z] 27)) (h2 : tmps[6]? = some (.pointer (some ⟨P, 0, none⟩))) (h5 : tmps[7]? = some u) :
    (results F tmps).run Try.prog W = .ok (.tuple #[.agg #[x, y, z], u]) W := by
  obtain ⟨z0, z1, z2⟩ := h.three
  simp [results, hF, go_sem, h2, h5, z0, z1, z2]
theorem Blk.other3 {W : World} {P Q : Nat} {o : Obj} (h : Blk W P o) (hne : Q ≠ P) (x y z : Value) : Blk (((W.setCell ⟨Q, 0, none⟩ x).setCell ⟨Q, 1, none⟩ y).setCell ⟨Q, 2, none⟩ z) P o := ((h.other hne x).other hne y).other hne z
theorem Blk.set3 {W : World} {P t : Nat} {a b c : Value} (h : Blk W P (.cells #[a, b, c] t)) (x y z : Value) : Blk (((W.setCell ⟨P, 0, none⟩ x).setCell ⟨P, 1, none⟩ y).setCell ⟨P, 2, none⟩ z) P (.cells #[x, y, z] t) := ((h.setAt (i := 0) x).setAt (i := 1) y).setAt (i := 2) z
theorem DAt.below' {w w' : World} {vl vs vo : Value} {nl ns no : Nat} {fl fs : Nat → FileV} {fo : Nat → OpV} (h : DAt w vl vs vo nl ns no fl fs fo) (hb : Below w.heap.size w w') : DAt w' vl vs vo nl ns no fl fs fo := h.below hb
theorem lookF_L (l : FileL) (s : ByteArray) : lookF l.n l.f s = lookL l.toL (key s) := by
  have e : lookF l.n l.f s = lookF l.toL.length (fileAt l.toL) s := by
    rw [toL_len]
    unfold lookF
    have : (List.range l.n).find? (fun i => (l.f i).name.toList == s.toList) = (List.range l.n).find? (fun i => (fileAt l.toL i).name.toList == s.toList) := by
      refine find_congr _ fun i hi => ?_
      rw [fileAt_toL (List.mem_range.1 hi)]
    rw [this]
    cases h : (List.range l.n).find? (fun i => (fileAt l.toL i).name.toList == s.toList) with
    | none => rfl
    | some i => simp only [Option.map_some]; rw [fileAt_toL (List.mem_range.1 (List.mem_of_find?_eq_some h))]
  rw [e, lookF_eq]
theorem dn_size : dotNew.size = 4 := rfl
theorem rep_wf {s t : ByteArray} (hs : s.size ≤ 1048576) (ht : t.size ≤ 1048576) : (OpV.wf ⟨3, (s ++ dotNew), ⟨#[]⟩, ⟨#[]⟩⟩ ∧ OpV.wf ⟨1, (s ++ dotNew), ⟨#[]⟩, t⟩ ∧ OpV.wf ⟨2, (s ++ dotNew), s, ⟨#[]⟩⟩) := by
  have e : (s ++ dotNew).size = s.size + 4 := by rw [ByteArray.size_append, dn_size]
  unfold OpV.wf maxLen
  simp only [e]
  have z : (⟨#[]⟩ : ByteArray).size = 0 := rfl
  refine ⟨⟨by omega, by rw [z]; omega, by rw [z]; omega⟩, ⟨by omega, by rw [z]; omega, by omega⟩, ⟨by omega, by omega, by rw [z]; omega⟩⟩

set_option maxRecDepth 100000 in
set_option maxHeartbeats 16000000 in
theorem specReplace_any (d : DiskV) (s t : ByteArray) (w : World) (hd : d.at w) (hs : d.sz ≤ 1048576) (h1 : s.size ≤ 1048576) (h2 : t.size ≤ 1048576) :
    Calls Try.prog 19 #[d.val, .string s, .string t] w fun e w' => ∃ vl vs vo, e = .returned (.tuple #[.agg #[vl, vs, vo], .int .i64 (repA d s t).2.2.2]) ∧ AnsS w' w.heap.size vl vs vo (repA d s t).1 (repA d s t).2.1 (repA d s t).2.2.1 ∧ Below w.heap.size w w' := by
  have eL := toL_len d.live
  have eS := toL_len d.safe
  have eO := OpL.toL_len d.ops
  obtain ⟨A0, R0, b0⟩ := two_boxes w (.cells #[.slice d.live.a d.live.toL.length d.live.k, .slice d.safe.a d.safe.toL.length d.safe.k, .slice d.ops.a d.ops.toL.length d.ops.k] 27) (.cells #[.slice none 0 0, .slice none 0 0, .slice none 0 0] 27)
  have HD := hid hd
  have W3 := hid (rep_wf h1 h2)
  have EF := hid (show (⟨#[46, 110, 101, 119]⟩ : ByteArray) = dotNew from rfl)
  have C1 := hid (specDisk_any d _ (hd.below b0) hs)
  unfold DiskV.val at C1 ⊢
  rw [← eL, ← eS, ← eO] at C1 ⊢
  have CA : Hid (∀ W, Below w.heap.size w W → Calls Try.prog 43 #[.slice d.live.a d.live.toL.length d.live.k, .string (s ++ dotNew)] W fun e w' => ∃ r : Int, e = .returned (.int .i64 r) ∧ ((0 ≤ r) ↔ (lookL d.live.toL (key (s ++ dotNew))).isSome = true) ∧ Below W.heap.size W w') := hid (fun W hW => by
    have h := l11At_any d.live (s ++ dotNew) W (HD.out.1.below hW)
    unfold FileL.val at h
    rw [← eL] at h
    refine h.mono ?_
    rintro e w' ⟨r, rfl, hr, hb⟩
    refine ⟨r, rfl, ?_, hb⟩
    rw [← lookF_L]
    rw [eL] at hr
    rcases hr with ⟨i, hi, rfl, hn, hj⟩ | ⟨rfl, hj⟩
    · rw [lookF_some hi hn hj]; simp
    · rw [lookF_none hj]; simp)
  have GD : Hid (dkOk d = true → GoodD d.live.toL d.safe.toL d.ops.toL 200) := hid (fun hk => dkOk_good HD.out hk)
  have DD : Hid (∀ W, Below w.heap.size w W → DAt W (.slice d.live.a d.live.toL.length d.live.k) (.slice d.safe.a d.safe.toL.length d.safe.k) (.slice d.ops.a d.ops.toL.length d.ops.k) d.live.toL.length d.safe.toL.length d.ops.toL.length (fileAt d.live.toL) (fileAt d.safe.toL) (opAt d.ops.toL)) := hid (fun W hW => DiskV.datL (HD.out.below hW))
  have zn : ¬ 9223372036854775807 < s.size + 4 := by omega
  have zn2 : ¬ (9223372036854775807 : Int) < (s.size : Int) + 4 := by omega
  have HR : Hid (∀ x, repA d s t = x → repA d s t = x) := hid (fun _ h => h)
  obtain ⟨x0, x1, x2⟩ := A0.three
  obtain ⟨r0, r1, r2⟩ := R0.three
  have rf := R0.warm
  clear hd hs eL eS eO
  go_enter Try.func19, Try.ntmps19
  go_wp2_with fail
  refine C1.out.mono ?_
  rintro e w1 ⟨rfl, hb1⟩
  have A1 := A0.below hb1
  have R1 := R0.below hb1
  have B1 := then_ b0 hb1
  clear x0 x1 x2 r0 r1 r2 rf C1 A0 R0 b0 hb1
  cases t1 : dkOk d with
  | false =>
    have E : Hid (repA d s t = ([], [], [], 1)) := hid (by rw [repA, if_neg (by rw [t1]; decide)])
    obtain ⟨r0, r1, r2⟩ := R1.three
    have rf := R1.warm
    go_wp2
    refine bodyPost_ret (rep_results _ _ (w.heap.size + 1) (.slice none 0 0) (.slice none 0 0) (.slice none 0 0) (.int .i64 1) Try.results19 (R1.set3 _ _ _) rfl rfl) rfl ⟨_, _, _, by rw [E.out], ?_, ?_⟩
    · rw [E.out]
      exact AnsS.none _ _
    · exact set3_below B1 (by omega) _ _ _
  | true =>
  have G0 := hid (GD.out t1)
  have E0 : Hid (∀ x, runA (repOps d.live.toL s t) d.live.toL d.ops.toL = x → repA d s t = (if x.2.2 = 0 then (x.1, d.safe.toL, x.2.1, 0) else (d.live.toL, d.safe.toL, d.ops.toL, x.2.2))) := hid (fun x hx => by rw [repA, if_pos t1, hx])
  have bn : Below w1.heap.size w1 (w1.alloc (.cells #[.slice d.live.a d.live.toL.length d.live.k, .slice d.safe.a d.safe.toL.length d.safe.k, .slice d.ops.a d.ops.toL.length d.ops.k] 27)) := (Below.refl _ w1).alloc (Nat.le_refl _) _
  have N2 := Blk.new w1 (.cells #[.slice d.live.a d.live.toL.length d.live.k, .slice d.safe.a d.safe.toL.length d.safe.k, .slice d.ops.a d.ops.toL.length d.ops.k] 27)
  have A2 := A1.below bn
  have R2 := R1.below bn
  have B2 := then_ B1 bn
  have lR : w.heap.size + 1 < w1.heap.size := R1.lt
  have lN : w1.heap.size < (w1.alloc (.cells #[.slice d.live.a d.live.toL.length d.live.k, .slice d.safe.a d.safe.toL.length d.safe.k, .slice d.ops.a d.ops.toL.length d.ops.k] 27)).heap.size := N2.lt
  obtain ⟨x0, x1, x2⟩ := A1.three
  obtain ⟨y0, y1, y2⟩ := A2.three
  clear t1
  go_wp2_with fail
  rw [EF.out]
  clear zn zn2
  generalize w1.alloc (.cells #[.slice d.live.a d.live.toL.length d.live.k, .slice d.safe.a d.safe.toL.length d.safe.k, .slice d.ops.a d.ops.toL.length d.ops.k] 27) = V at *
  refine (CA.out _ B2).mono ?_
  rintro e w2 ⟨r, rfl, hr, hb⟩
  have A3 := A2.below hb
  have R3 := R2.below hb
  have N3 := N2.below hb
  have B3 := then_ B2 hb
  have D3 := hid (DD.out _ B3)
  clear x0 x1 x2 y0 y1 y2 A1 R1 B1 A2 R2 N2 B2 bn hb
  have G3 := G0
  by_cases hp : 0 ≤ r
  · have HO : Hid (repOps d.live.toL s t = [⟨3, (s ++ dotNew), ⟨#[]⟩, ⟨#[]⟩⟩, ⟨1, (s ++ dotNew), ⟨#[]⟩, t⟩, ⟨2, (s ++ dotNew), s, ⟨#[]⟩⟩]) := hid (by unfold repOps; rw [if_pos (hr.1 hp)]; rfl)
    clear hr
    obtain ⟨n0, n1, n2⟩ := N3.three
    have nf := N3.warm
    have C4 := hid (specAct_L d.live.toL d.safe.toL d.ops.toL 200 G3.out (by omega) _ _ _ _ _ _ ⟨3, (s ++ dotNew), ⟨#[]⟩, ⟨#[]⟩⟩ W3.out.1 (by show (⟨#[]⟩ : ByteArray).size ≤ _; exact Nat.zero_le _) _ D3.out)
    simp only at C4
    go_wp2_with fail
    (try rw [EF.out])
    refine C4.out.mono ?_
    rintro e v4 ⟨bl4, bs4, bo4, bx4, by4, bz4, rfl, hA, hb⟩
    have HA4 := hid (hA.base B3.size)
    have Ax := A3.below hb
    have Rx := R3.below hb
    have Nx := N3.below hb
    have Bx := then_ B3 hb
    have A4 := Ax.other3 (Q := w1.heap.size) (by omega) (.slice bl4 (stL d.live.toL d.ops.toL ⟨3, (s ++ dotNew), ⟨#[]⟩, ⟨#[]⟩⟩).length bx4) (.slice bs4 d.safe.toL.length by4) (.slice bo4 (stO d.live.toL d.ops.toL ⟨3, (s ++ dotNew), ⟨#[]⟩, ⟨#[]⟩⟩).length bz4)
    have R4 := Rx.other3 (Q := w1.heap.size) (by omega) (.slice bl4 (stL d.live.toL d.ops.toL ⟨3, (s ++ dotNew), ⟨#[]⟩, ⟨#[]⟩⟩).length bx4) (.slice bs4 d.safe.toL.length by4) (.slice bo4 (stO d.live.toL d.ops.toL ⟨3, (s ++ dotNew), ⟨#[]⟩, ⟨#[]⟩⟩).length bz4)
    have N4 := Nx.set3 (.slice bl4 (stL d.live.toL d.ops.toL ⟨3, (s ++ dotNew), ⟨#[]⟩, ⟨#[]⟩⟩).length bx4) (.slice bs4 d.safe.toL.length by4) (.slice bo4 (stO d.live.toL d.ops.toL ⟨3, (s ++ dotNew), ⟨#[]⟩, ⟨#[]⟩⟩).length bz4)
    have D4 := hid (HA4.out.set3 Nx (.slice bl4 (stL d.live.toL d.ops.toL ⟨3, (s ++ dotNew), ⟨#[]⟩, ⟨#[]⟩⟩).length bx4) (.slice bs4 d.safe.toL.length by4) (.slice bo4 (stO d.live.toL d.ops.toL ⟨3, (s ++ dotNew), ⟨#[]⟩, ⟨#[]⟩⟩).length bz4)).dat
    have B4 := set3_below Bx (show w.heap.size ≤ w1.heap.size by omega) (.slice bl4 (stL d.live.toL d.ops.toL ⟨3, (s ++ dotNew), ⟨#[]⟩, ⟨#[]⟩⟩).length bx4) (.slice bs4 d.safe.toL.length by4) (.slice bo4 (stO d.live.toL d.ops.toL ⟨3, (s ++ dotNew), ⟨#[]⟩, ⟨#[]⟩⟩).length bz4)
    have G4 := hid (G3.out.step W3.out.1 (by show (⟨#[]⟩ : ByteArray).size ≤ _; exact Nat.zero_le _))
    obtain ⟨m0, m1, m2⟩ := Nx.three
    have mf := Nx.warm
    clear n0 n1 n2 nf C4 hA hb Ax Rx Bx
    by_cases c4 : cdL d.live.toL d.ops.toL.length ⟨3, (s ++ dotNew), ⟨#[]⟩, ⟨#[]⟩⟩ = 0
    rotate_left
    · obtain ⟨kk, hk⟩ : ∃ kk, kk = cdL d.live.toL d.ops.toL.length ⟨3, (s ++ dotNew), ⟨#[]⟩, ⟨#[]⟩⟩ := ⟨_, rfl⟩
      have ER : Hid (repA d s t = (d.live.toL, d.safe.toL, d.ops.toL, kk)) := hid (by
        have hrun : runA (repOps d.live.toL s t) d.live.toL d.ops.toL = (d.live.toL, d.ops.toL, kk) := by rw [HO.out, runA_no c4, hk]
        rw [E0.out _ hrun, if_neg (by rw [hk]; exact c4)])
      rw [← hk]
      have kb : (kk == 0) = false := by rw [hk]; exact beq_eq_false_iff_ne.2 c4
      clear hk c4
      obtain ⟨x0, x1, x2⟩ := A4.three
      go_wp2_with fail
      refine (specCopy_L d.live.toL d.safe.toL d.ops.toL 200 G0.out (by omega) _ _ _ _ _ _ _ (DD.out _ B4)).mono ?_
      rintro e vz ⟨zl, zs, zo, zx, zy, zz, rfl, hA, hb⟩
      have Rz := R4.below hb
      have Bz := then_ B4 hb
      have HZ := hid (hA.base B4.size)
      clear x0 x1 x2 m0 m1 m2 mf hA hb
      obtain ⟨r0, r1, r2⟩ := Rz.three
      have rf := Rz.warm
      go_wp2
      refine bodyPost_ret (rep_results _ _ (w.heap.size + 1) _ _ _ (.int .i64 kk) Try.results19 (Rz.set3 _ _ _) rfl rfl) rfl ⟨_, _, _, by rw [ER.out], ?_, ?_⟩
      · rw [ER.out]
        exact HZ.out.set3 Rz _ _ _
      · exact set3_below Bz (by omega) _ _ _
    have HC4 := hid c4
    rw [c4]
    clear c4
    have mk4 : True := trivial
    obtain ⟨n0, n1, n2⟩ := N4.three
    have nf := N4.warm
    have C5 := hid (specAct_L (stL d.live.toL d.ops.toL ⟨3, (s ++ dotNew), ⟨#[]⟩, ⟨#[]⟩⟩) d.safe.toL (stO d.live.toL d.ops.toL ⟨3, (s ++ dotNew), ⟨#[]⟩, ⟨#[]⟩⟩) 201 G4.out (by omega) _ _ _ _ _ _ ⟨1, (s ++ dotNew), ⟨#[]⟩, t⟩ W3.out.2.1 h2 _ D4.out)
    simp only at C5
    go_wp2_with fail
    (try rw [EF.out])
    refine C5.out.mono ?_
    rintro e v5 ⟨bl5, bs5, bo5, bx5, by5, bz5, rfl, hA, hb⟩
    have HA5 := hid (hA.base B4.size)
    have Ax := A4.below hb
    have Rx := R4.below hb
    have Nx := N4.below hb
    have Bx := then_ B4 hb
    have A5 := Ax.other3 (Q := w1.heap.size) (by omega) (.slice bl5 (stL (stL d.live.toL d.ops.toL ⟨3, (s ++ dotNew), ⟨#[]⟩, ⟨#[]⟩⟩) (stO d.live.toL d.ops.toL ⟨3, (s ++ dotNew), ⟨#[]⟩, ⟨#[]⟩⟩) ⟨1, (s ++ dotNew), ⟨#[]⟩, t⟩).length bx5) (.slice bs5 d.safe.toL.length by5) (.slice bo5 (stO (stL d.live.toL d.ops.toL ⟨3, (s ++ dotNew), ⟨#[]⟩, ⟨#[]⟩⟩) (stO d.live.toL d.ops.toL ⟨3, (s ++ dotNew), ⟨#[]⟩, ⟨#[]⟩⟩) ⟨1, (s ++ dotNew), ⟨#[]⟩, t⟩).length bz5)
    have R5 := Rx.other3 (Q := w1.heap.size) (by omega) (.slice bl5 (stL (stL d.live.toL d.ops.toL ⟨3, (s ++ dotNew), ⟨#[]⟩, ⟨#[]⟩⟩) (stO d.live.toL d.ops.toL ⟨3, (s ++ dotNew), ⟨#[]⟩, ⟨#[]⟩⟩) ⟨1, (s ++ dotNew), ⟨#[]⟩, t⟩).length bx5) (.slice bs5 d.safe.toL.length by5) (.slice bo5 (stO (stL d.live.toL d.ops.toL ⟨3, (s ++ dotNew), ⟨#[]⟩, ⟨#[]⟩⟩) (stO d.live.toL d.ops.toL ⟨3, (s ++ dotNew), ⟨#[]⟩, ⟨#[]⟩⟩) ⟨1, (s ++ dotNew), ⟨#[]⟩, t⟩).length bz5)
    have N5 := Nx.set3 (.slice bl5 (stL (stL d.live.toL d.ops.toL ⟨3, (s ++ dotNew), ⟨#[]⟩, ⟨#[]⟩⟩) (stO d.live.toL d.ops.toL ⟨3, (s ++ dotNew), ⟨#[]⟩, ⟨#[]⟩⟩) ⟨1, (s ++ dotNew), ⟨#[]⟩, t⟩).length bx5) (.slice bs5 d.safe.toL.length by5) (.slice bo5 (stO (stL d.live.toL d.ops.toL ⟨3, (s ++ dotNew), ⟨#[]⟩, ⟨#[]⟩⟩) (stO d.live.toL d.ops.toL ⟨3, (s ++ dotNew), ⟨#[]⟩, ⟨#[]⟩⟩) ⟨1, (s ++ dotNew), ⟨#[]⟩, t⟩).length bz5)
    have D5 := hid (HA5.out.set3 Nx (.slice bl5 (stL (stL d.live.toL d.ops.toL ⟨3, (s ++ dotNew), ⟨#[]⟩, ⟨#[]⟩⟩) (stO d.live.toL d.ops.toL ⟨3, (s ++ dotNew), ⟨#[]⟩, ⟨#[]⟩⟩) ⟨1, (s ++ dotNew), ⟨#[]⟩, t⟩).length bx5) (.slice bs5 d.safe.toL.length by5) (.slice bo5 (stO (stL d.live.toL d.ops.toL ⟨3, (s ++ dotNew), ⟨#[]⟩, ⟨#[]⟩⟩) (stO d.live.toL d.ops.toL ⟨3, (s ++ dotNew), ⟨#[]⟩, ⟨#[]⟩⟩) ⟨1, (s ++ dotNew), ⟨#[]⟩, t⟩).length bz5)).dat
    have B5 := set3_below Bx (show w.heap.size ≤ w1.heap.size by omega) (.slice bl5 (stL (stL d.live.toL d.ops.toL ⟨3, (s ++ dotNew), ⟨#[]⟩, ⟨#[]⟩⟩) (stO d.live.toL d.ops.toL ⟨3, (s ++ dotNew), ⟨#[]⟩, ⟨#[]⟩⟩) ⟨1, (s ++ dotNew), ⟨#[]⟩, t⟩).length bx5) (.slice bs5 d.safe.toL.length by5) (.slice bo5 (stO (stL d.live.toL d.ops.toL ⟨3, (s ++ dotNew), ⟨#[]⟩, ⟨#[]⟩⟩) (stO d.live.toL d.ops.toL ⟨3, (s ++ dotNew), ⟨#[]⟩, ⟨#[]⟩⟩) ⟨1, (s ++ dotNew), ⟨#[]⟩, t⟩).length bz5)
    have G5 := hid (G4.out.step W3.out.2.1 h2)
    obtain ⟨m0, m1, m2⟩ := Nx.three
    have mf := Nx.warm
    clear n0 n1 n2 nf C5 hA hb Ax Rx Bx
    by_cases c5 : cdL (stL d.live.toL d.ops.toL ⟨3, (s ++ dotNew), ⟨#[]⟩, ⟨#[]⟩⟩) (stO d.live.toL d.ops.toL ⟨3, (s ++ dotNew), ⟨#[]⟩, ⟨#[]⟩⟩).length ⟨1, (s ++ dotNew), ⟨#[]⟩, t⟩ = 0
    rotate_left
    · obtain ⟨kk, hk⟩ : ∃ kk, kk = cdL (stL d.live.toL d.ops.toL ⟨3, (s ++ dotNew), ⟨#[]⟩, ⟨#[]⟩⟩) (stO d.live.toL d.ops.toL ⟨3, (s ++ dotNew), ⟨#[]⟩, ⟨#[]⟩⟩).length ⟨1, (s ++ dotNew), ⟨#[]⟩, t⟩ := ⟨_, rfl⟩
      have ER : Hid (repA d s t = (d.live.toL, d.safe.toL, d.ops.toL, kk)) := hid (by
        have hrun : runA (repOps d.live.toL s t) d.live.toL d.ops.toL = ((stL d.live.toL d.ops.toL ⟨3, (s ++ dotNew), ⟨#[]⟩, ⟨#[]⟩⟩), (stO d.live.toL d.ops.toL ⟨3, (s ++ dotNew), ⟨#[]⟩, ⟨#[]⟩⟩), kk) := by rw [HO.out, runA_yes HC4.out, runA_no c5, hk]
        rw [E0.out _ hrun, if_neg (by rw [hk]; exact c5)])
      rw [← hk]
      have kb : (kk == 0) = false := by rw [hk]; exact beq_eq_false_iff_ne.2 c5
      clear hk c5
      obtain ⟨x0, x1, x2⟩ := A5.three
      go_wp2_with fail
      refine (specCopy_L d.live.toL d.safe.toL d.ops.toL 200 G0.out (by omega) _ _ _ _ _ _ _ (DD.out _ B5)).mono ?_
      rintro e vz ⟨zl, zs, zo, zx, zy, zz, rfl, hA, hb⟩
      have Rz := R5.below hb
      have Bz := then_ B5 hb
      have HZ := hid (hA.base B5.size)
      clear x0 x1 x2 m0 m1 m2 mf hA hb
      obtain ⟨r0, r1, r2⟩ := Rz.three
      have rf := Rz.warm
      go_wp2
      refine bodyPost_ret (rep_results _ _ (w.heap.size + 1) _ _ _ (.int .i64 kk) Try.results19 (Rz.set3 _ _ _) rfl rfl) rfl ⟨_, _, _, by rw [ER.out], ?_, ?_⟩
      · rw [ER.out]
        exact HZ.out.set3 Rz _ _ _
      · exact set3_below Bz (by omega) _ _ _
    have HC5 := hid c5
    rw [c5]
    clear c5
    have mk5 : True := trivial
    obtain ⟨n0, n1, n2⟩ := N5.three
    have nf := N5.warm
    have C6 := hid (specAct_L (stL (stL d.live.toL d.ops.toL ⟨3, (s ++ dotNew), ⟨#[]⟩, ⟨#[]⟩⟩) (stO d.live.toL d.ops.toL ⟨3, (s ++ dotNew), ⟨#[]⟩, ⟨#[]⟩⟩) ⟨1, (s ++ dotNew), ⟨#[]⟩, t⟩) d.safe.toL (stO (stL d.live.toL d.ops.toL ⟨3, (s ++ dotNew), ⟨#[]⟩, ⟨#[]⟩⟩) (stO d.live.toL d.ops.toL ⟨3, (s ++ dotNew), ⟨#[]⟩, ⟨#[]⟩⟩) ⟨1, (s ++ dotNew), ⟨#[]⟩, t⟩) 202 G5.out (by omega) _ _ _ _ _ _ ⟨2, (s ++ dotNew), s, ⟨#[]⟩⟩ W3.out.2.2 (by show (⟨#[]⟩ : ByteArray).size ≤ _; exact Nat.zero_le _) _ D5.out)
    simp only at C6
    go_wp2_with fail
    (try rw [EF.out])
    refine C6.out.mono ?_
    rintro e v6 ⟨bl6, bs6, bo6, bx6, by6, bz6, rfl, hA, hb⟩
    have HA6 := hid (hA.base B5.size)
    have Ax := A5.below hb
    have Rx := R5.below hb
    have Nx := N5.below hb
    have Bx := then_ B5 hb
    have A6 := Ax.other3 (Q := w1.heap.size) (by omega) (.slice bl6 (stL (stL (stL d.live.toL d.ops.toL ⟨3, (s ++ dotNew), ⟨#[]⟩, ⟨#[]⟩⟩) (stO d.live.toL d.ops.toL ⟨3, (s ++ dotNew), ⟨#[]⟩, ⟨#[]⟩⟩) ⟨1, (s ++ dotNew), ⟨#[]⟩, t⟩) (stO (stL d.live.toL d.ops.toL ⟨3, (s ++ dotNew), ⟨#[]⟩, ⟨#[]⟩⟩) (stO d.live.toL d.ops.toL ⟨3, (s ++ dotNew), ⟨#[]⟩, ⟨#[]⟩⟩) ⟨1, (s ++ dotNew), ⟨#[]⟩, t⟩) ⟨2, (s ++ dotNew), s, ⟨#[]⟩⟩).length bx6) (.slice bs6 d.safe.toL.length by6) (.slice bo6 (stO (stL (stL d.live.toL d.ops.toL ⟨3, (s ++ dotNew), ⟨#[]⟩, ⟨#[]⟩⟩) (stO d.live.toL d.ops.toL ⟨3, (s ++ dotNew), ⟨#[]⟩, ⟨#[]⟩⟩) ⟨1, (s ++ dotNew), ⟨#[]⟩, t⟩) (stO (stL d.live.toL d.ops.toL ⟨3, (s ++ dotNew), ⟨#[]⟩, ⟨#[]⟩⟩) (stO d.live.toL d.ops.toL ⟨3, (s ++ dotNew), ⟨#[]⟩, ⟨#[]⟩⟩) ⟨1, (s ++ dotNew), ⟨#[]⟩, t⟩) ⟨2, (s ++ dotNew), s, ⟨#[]⟩⟩).length bz6)
    have R6 := Rx.other3 (Q := w1.heap.size) (by omega) (.slice bl6 (stL (stL (stL d.live.toL d.ops.toL ⟨3, (s ++ dotNew), ⟨#[]⟩, ⟨#[]⟩⟩) (stO d.live.toL d.ops.toL ⟨3, (s ++ dotNew), ⟨#[]⟩, ⟨#[]⟩⟩) ⟨1, (s ++ dotNew), ⟨#[]⟩, t⟩) (stO (stL d.live.toL d.ops.toL ⟨3, (s ++ dotNew), ⟨#[]⟩, ⟨#[]⟩⟩) (stO d.live.toL d.ops.toL ⟨3, (s ++ dotNew), ⟨#[]⟩, ⟨#[]⟩⟩) ⟨1, (s ++ dotNew), ⟨#[]⟩, t⟩) ⟨2, (s ++ dotNew), s, ⟨#[]⟩⟩).length bx6) (.slice bs6 d.safe.toL.length by6) (.slice bo6 (stO (stL (stL d.live.toL d.ops.toL ⟨3, (s ++ dotNew), ⟨#[]⟩, ⟨#[]⟩⟩) (stO d.live.toL d.ops.toL ⟨3, (s ++ dotNew), ⟨#[]⟩, ⟨#[]⟩⟩) ⟨1, (s ++ dotNew), ⟨#[]⟩, t⟩) (stO (stL d.live.toL d.ops.toL ⟨3, (s ++ dotNew), ⟨#[]⟩, ⟨#[]⟩⟩) (stO d.live.toL d.ops.toL ⟨3, (s ++ dotNew), ⟨#[]⟩, ⟨#[]⟩⟩) ⟨1, (s ++ dotNew), ⟨#[]⟩, t⟩) ⟨2, (s ++ dotNew), s, ⟨#[]⟩⟩).length bz6)
    have N6 := Nx.set3 (.slice bl6 (stL (stL (stL d.live.toL d.ops.toL ⟨3, (s ++ dotNew), ⟨#[]⟩, ⟨#[]⟩⟩) (stO d.live.toL d.ops.toL ⟨3, (s ++ dotNew), ⟨#[]⟩, ⟨#[]⟩⟩) ⟨1, (s ++ dotNew), ⟨#[]⟩, t⟩) (stO (stL d.live.toL d.ops.toL ⟨3, (s ++ dotNew), ⟨#[]⟩, ⟨#[]⟩⟩) (stO d.live.toL d.ops.toL ⟨3, (s ++ dotNew), ⟨#[]⟩, ⟨#[]⟩⟩) ⟨1, (s ++ dotNew), ⟨#[]⟩, t⟩) ⟨2, (s ++ dotNew), s, ⟨#[]⟩⟩).length bx6) (.slice bs6 d.safe.toL.length by6) (.slice bo6 (stO (stL (stL d.live.toL d.ops.toL ⟨3, (s ++ dotNew), ⟨#[]⟩, ⟨#[]⟩⟩) (stO d.live.toL d.ops.toL ⟨3, (s ++ dotNew), ⟨#[]⟩, ⟨#[]⟩⟩) ⟨1, (s ++ dotNew), ⟨#[]⟩, t⟩) (stO (stL d.live.toL d.ops.toL ⟨3, (s ++ dotNew), ⟨#[]⟩, ⟨#[]⟩⟩) (stO d.live.toL d.ops.toL ⟨3, (s ++ dotNew), ⟨#[]⟩, ⟨#[]⟩⟩) ⟨1, (s ++ dotNew), ⟨#[]⟩, t⟩) ⟨2, (s ++ dotNew), s, ⟨#[]⟩⟩).length bz6)
    have D6 := hid (HA6.out.set3 Nx (.slice bl6 (stL (stL (stL d.live.toL d.ops.toL ⟨3, (s ++ dotNew), ⟨#[]⟩, ⟨#[]⟩⟩) (stO d.live.toL d.ops.toL ⟨3, (s ++ dotNew), ⟨#[]⟩, ⟨#[]⟩⟩) ⟨1, (s ++ dotNew), ⟨#[]⟩, t⟩) (stO (stL d.live.toL d.ops.toL ⟨3, (s ++ dotNew), ⟨#[]⟩, ⟨#[]⟩⟩) (stO d.live.toL d.ops.toL ⟨3, (s ++ dotNew), ⟨#[]⟩, ⟨#[]⟩⟩) ⟨1, (s ++ dotNew), ⟨#[]⟩, t⟩) ⟨2, (s ++ dotNew), s, ⟨#[]⟩⟩).length bx6) (.slice bs6 d.safe.toL.length by6) (.slice bo6 (stO (stL (stL d.live.toL d.ops.toL ⟨3, (s ++ dotNew), ⟨#[]⟩, ⟨#[]⟩⟩) (stO d.live.toL d.ops.toL ⟨3, (s ++ dotNew), ⟨#[]⟩, ⟨#[]⟩⟩) ⟨1, (s ++ dotNew), ⟨#[]⟩, t⟩) (stO (stL d.live.toL d.ops.toL ⟨3, (s ++ dotNew), ⟨#[]⟩, ⟨#[]⟩⟩) (stO d.live.toL d.ops.toL ⟨3, (s ++ dotNew), ⟨#[]⟩, ⟨#[]⟩⟩) ⟨1, (s ++ dotNew), ⟨#[]⟩, t⟩) ⟨2, (s ++ dotNew), s, ⟨#[]⟩⟩).length bz6)).dat
    have B6 := set3_below Bx (show w.heap.size ≤ w1.heap.size by omega) (.slice bl6 (stL (stL (stL d.live.toL d.ops.toL ⟨3, (s ++ dotNew), ⟨#[]⟩, ⟨#[]⟩⟩) (stO d.live.toL d.ops.toL ⟨3, (s ++ dotNew), ⟨#[]⟩, ⟨#[]⟩⟩) ⟨1, (s ++ dotNew), ⟨#[]⟩, t⟩) (stO (stL d.live.toL d.ops.toL ⟨3, (s ++ dotNew), ⟨#[]⟩, ⟨#[]⟩⟩) (stO d.live.toL d.ops.toL ⟨3, (s ++ dotNew), ⟨#[]⟩, ⟨#[]⟩⟩) ⟨1, (s ++ dotNew), ⟨#[]⟩, t⟩) ⟨2, (s ++ dotNew), s, ⟨#[]⟩⟩).length bx6) (.slice bs6 d.safe.toL.length by6) (.slice bo6 (stO (stL (stL d.live.toL d.ops.toL ⟨3, (s ++ dotNew), ⟨#[]⟩, ⟨#[]⟩⟩) (stO d.live.toL d.ops.toL ⟨3, (s ++ dotNew), ⟨#[]⟩, ⟨#[]⟩⟩) ⟨1, (s ++ dotNew), ⟨#[]⟩, t⟩) (stO (stL d.live.toL d.ops.toL ⟨3, (s ++ dotNew), ⟨#[]⟩, ⟨#[]⟩⟩) (stO d.live.toL d.ops.toL ⟨3, (s ++ dotNew), ⟨#[]⟩, ⟨#[]⟩⟩) ⟨1, (s ++ dotNew), ⟨#[]⟩, t⟩) ⟨2, (s ++ dotNew), s, ⟨#[]⟩⟩).length bz6)
    have G6 := hid (G5.out.step W3.out.2.2 (by show (⟨#[]⟩ : ByteArray).size ≤ _; exact Nat.zero_le _))
    obtain ⟨m0, m1, m2⟩ := Nx.three
    have mf := Nx.warm
    clear n0 n1 n2 nf C6 hA hb Ax Rx Bx
    by_cases c6 : cdL (stL (stL d.live.toL d.ops.toL ⟨3, (s ++ dotNew), ⟨#[]⟩, ⟨#[]⟩⟩) (stO d.live.toL d.ops.toL ⟨3, (s ++ dotNew), ⟨#[]⟩, ⟨#[]⟩⟩) ⟨1, (s ++ dotNew), ⟨#[]⟩, t⟩) (stO (stL d.live.toL d.ops.toL ⟨3, (s ++ dotNew), ⟨#[]⟩, ⟨#[]⟩⟩) (stO d.live.toL d.ops.toL ⟨3, (s ++ dotNew), ⟨#[]⟩, ⟨#[]⟩⟩) ⟨1, (s ++ dotNew), ⟨#[]⟩, t⟩).length ⟨2, (s ++ dotNew), s, ⟨#[]⟩⟩ = 0
    rotate_left
    · obtain ⟨kk, hk⟩ : ∃ kk, kk = cdL (stL (stL d.live.toL d.ops.toL ⟨3, (s ++ dotNew), ⟨#[]⟩, ⟨#[]⟩⟩) (stO d.live.toL d.ops.toL ⟨3, (s ++ dotNew), ⟨#[]⟩, ⟨#[]⟩⟩) ⟨1, (s ++ dotNew), ⟨#[]⟩, t⟩) (stO (stL d.live.toL d.ops.toL ⟨3, (s ++ dotNew), ⟨#[]⟩, ⟨#[]⟩⟩) (stO d.live.toL d.ops.toL ⟨3, (s ++ dotNew), ⟨#[]⟩, ⟨#[]⟩⟩) ⟨1, (s ++ dotNew), ⟨#[]⟩, t⟩).length ⟨2, (s ++ dotNew), s, ⟨#[]⟩⟩ := ⟨_, rfl⟩
      have ER : Hid (repA d s t = (d.live.toL, d.safe.toL, d.ops.toL, kk)) := hid (by
        have hrun : runA (repOps d.live.toL s t) d.live.toL d.ops.toL = ((stL (stL d.live.toL d.ops.toL ⟨3, (s ++ dotNew), ⟨#[]⟩, ⟨#[]⟩⟩) (stO d.live.toL d.ops.toL ⟨3, (s ++ dotNew), ⟨#[]⟩, ⟨#[]⟩⟩) ⟨1, (s ++ dotNew), ⟨#[]⟩, t⟩), (stO (stL d.live.toL d.ops.toL ⟨3, (s ++ dotNew), ⟨#[]⟩, ⟨#[]⟩⟩) (stO d.live.toL d.ops.toL ⟨3, (s ++ dotNew), ⟨#[]⟩, ⟨#[]⟩⟩) ⟨1, (s ++ dotNew), ⟨#[]⟩, t⟩), kk) := by rw [HO.out, runA_yes HC4.out, runA_yes HC5.out, runA_no c6, hk]
        rw [E0.out _ hrun, if_neg (by rw [hk]; exact c6)])
      rw [← hk]
      have kb : (kk == 0) = false := by rw [hk]; exact beq_eq_false_iff_ne.2 c6
      clear hk c6
      obtain ⟨x0, x1, x2⟩ := A6.three
      go_wp2_with fail
      refine (specCopy_L d.live.toL d.safe.toL d.ops.toL 200 G0.out (by omega) _ _ _ _ _ _ _ (DD.out _ B6)).mono ?_
      rintro e vz ⟨zl, zs, zo, zx, zy, zz, rfl, hA, hb⟩
      have Rz := R6.below hb
      have Bz := then_ B6 hb
      have HZ := hid (hA.base B6.size)
      clear x0 x1 x2 m0 m1 m2 mf hA hb
      obtain ⟨r0, r1, r2⟩ := Rz.three
      have rf := Rz.warm
      go_wp2
      refine bodyPost_ret (rep_results _ _ (w.heap.size + 1) _ _ _ (.int .i64 kk) Try.results19 (Rz.set3 _ _ _) rfl rfl) rfl ⟨_, _, _, by rw [ER.out], ?_, ?_⟩
      · rw [ER.out]
        exact HZ.out.set3 Rz _ _ _
      · exact set3_below Bz (by omega) _ _ _
    have HC6 := hid c6
    rw [c6]
    clear c6
    have ER : Hid (repA d s t = ((stL (stL (stL d.live.toL d.ops.toL ⟨3, (s ++ dotNew), ⟨#[]⟩, ⟨#[]⟩⟩) (stO d.live.toL d.ops.toL ⟨3, (s ++ dotNew), ⟨#[]⟩, ⟨#[]⟩⟩) ⟨1, (s ++ dotNew), ⟨#[]⟩, t⟩) (stO (stL d.live.toL d.ops.toL ⟨3, (s ++ dotNew), ⟨#[]⟩, ⟨#[]⟩⟩) (stO d.live.toL d.ops.toL ⟨3, (s ++ dotNew), ⟨#[]⟩, ⟨#[]⟩⟩) ⟨1, (s ++ dotNew), ⟨#[]⟩, t⟩) ⟨2, (s ++ dotNew), s, ⟨#[]⟩⟩), d.safe.toL, (stO (stL (stL d.live.toL d.ops.toL ⟨3, (s ++ dotNew), ⟨#[]⟩, ⟨#[]⟩⟩) (stO d.live.toL d.ops.toL ⟨3, (s ++ dotNew), ⟨#[]⟩, ⟨#[]⟩⟩) ⟨1, (s ++ dotNew), ⟨#[]⟩, t⟩) (stO (stL d.live.toL d.ops.toL ⟨3, (s ++ dotNew), ⟨#[]⟩, ⟨#[]⟩⟩) (stO d.live.toL d.ops.toL ⟨3, (s ++ dotNew), ⟨#[]⟩, ⟨#[]⟩⟩) ⟨1, (s ++ dotNew), ⟨#[]⟩, t⟩) ⟨2, (s ++ dotNew), s, ⟨#[]⟩⟩), 0)) := hid (by
      have hrun : runA (repOps d.live.toL s t) d.live.toL d.ops.toL = ((stL (stL (stL d.live.toL d.ops.toL ⟨3, (s ++ dotNew), ⟨#[]⟩, ⟨#[]⟩⟩) (stO d.live.toL d.ops.toL ⟨3, (s ++ dotNew), ⟨#[]⟩, ⟨#[]⟩⟩) ⟨1, (s ++ dotNew), ⟨#[]⟩, t⟩) (stO (stL d.live.toL d.ops.toL ⟨3, (s ++ dotNew), ⟨#[]⟩, ⟨#[]⟩⟩) (stO d.live.toL d.ops.toL ⟨3, (s ++ dotNew), ⟨#[]⟩, ⟨#[]⟩⟩) ⟨1, (s ++ dotNew), ⟨#[]⟩, t⟩) ⟨2, (s ++ dotNew), s, ⟨#[]⟩⟩), (stO (stL (stL d.live.toL d.ops.toL ⟨3, (s ++ dotNew), ⟨#[]⟩, ⟨#[]⟩⟩) (stO d.live.toL d.ops.toL ⟨3, (s ++ dotNew), ⟨#[]⟩, ⟨#[]⟩⟩) ⟨1, (s ++ dotNew), ⟨#[]⟩, t⟩) (stO (stL d.live.toL d.ops.toL ⟨3, (s ++ dotNew), ⟨#[]⟩, ⟨#[]⟩⟩) (stO d.live.toL d.ops.toL ⟨3, (s ++ dotNew), ⟨#[]⟩, ⟨#[]⟩⟩) ⟨1, (s ++ dotNew), ⟨#[]⟩, t⟩) ⟨2, (s ++ dotNew), s, ⟨#[]⟩⟩), 0) := by rw [HO.out, runA_yes HC4.out, runA_yes HC5.out, runA_yes HC6.out]; rfl
      rw [E0.out _ hrun, if_pos rfl])
    have HD6 := hid (HA6.out.set3 Nx (.slice bl6 (stL (stL (stL d.live.toL d.ops.toL ⟨3, (s ++ dotNew), ⟨#[]⟩, ⟨#[]⟩⟩) (stO d.live.toL d.ops.toL ⟨3, (s ++ dotNew), ⟨#[]⟩, ⟨#[]⟩⟩) ⟨1, (s ++ dotNew), ⟨#[]⟩, t⟩) (stO (stL d.live.toL d.ops.toL ⟨3, (s ++ dotNew), ⟨#[]⟩, ⟨#[]⟩⟩) (stO d.live.toL d.ops.toL ⟨3, (s ++ dotNew), ⟨#[]⟩, ⟨#[]⟩⟩) ⟨1, (s ++ dotNew), ⟨#[]⟩, t⟩) ⟨2, (s ++ dotNew), s, ⟨#[]⟩⟩).length bx6) (.slice bs6 d.safe.toL.length by6) (.slice bo6 (stO (stL (stL d.live.toL d.ops.toL ⟨3, (s ++ dotNew), ⟨#[]⟩, ⟨#[]⟩⟩) (stO d.live.toL d.ops.toL ⟨3, (s ++ dotNew), ⟨#[]⟩, ⟨#[]⟩⟩) ⟨1, (s ++ dotNew), ⟨#[]⟩, t⟩) (stO (stL d.live.toL d.ops.toL ⟨3, (s ++ dotNew), ⟨#[]⟩, ⟨#[]⟩⟩) (stO d.live.toL d.ops.toL ⟨3, (s ++ dotNew), ⟨#[]⟩, ⟨#[]⟩⟩) ⟨1, (s ++ dotNew), ⟨#[]⟩, t⟩) ⟨2, (s ++ dotNew), s, ⟨#[]⟩⟩).length bz6)).dat
    obtain ⟨n0, n1, n2⟩ := N6.three
    go_wp2_with fail
    refine (specCopy_L (stL (stL (stL d.live.toL d.ops.toL ⟨3, (s ++ dotNew), ⟨#[]⟩, ⟨#[]⟩⟩) (stO d.live.toL d.ops.toL ⟨3, (s ++ dotNew), ⟨#[]⟩, ⟨#[]⟩⟩) ⟨1, (s ++ dotNew), ⟨#[]⟩, t⟩) (stO (stL d.live.toL d.ops.toL ⟨3, (s ++ dotNew), ⟨#[]⟩, ⟨#[]⟩⟩) (stO d.live.toL d.ops.toL ⟨3, (s ++ dotNew), ⟨#[]⟩, ⟨#[]⟩⟩) ⟨1, (s ++ dotNew), ⟨#[]⟩, t⟩) ⟨2, (s ++ dotNew), s, ⟨#[]⟩⟩) d.safe.toL (stO (stL (stL d.live.toL d.ops.toL ⟨3, (s ++ dotNew), ⟨#[]⟩, ⟨#[]⟩⟩) (stO d.live.toL d.ops.toL ⟨3, (s ++ dotNew), ⟨#[]⟩, ⟨#[]⟩⟩) ⟨1, (s ++ dotNew), ⟨#[]⟩, t⟩) (stO (stL d.live.toL d.ops.toL ⟨3, (s ++ dotNew), ⟨#[]⟩, ⟨#[]⟩⟩) (stO d.live.toL d.ops.toL ⟨3, (s ++ dotNew), ⟨#[]⟩, ⟨#[]⟩⟩) ⟨1, (s ++ dotNew), ⟨#[]⟩, t⟩) ⟨2, (s ++ dotNew), s, ⟨#[]⟩⟩) 203 G6.out (by omega) _ _ _ _ _ _ _ D6.out).mono ?_
    rintro e vz ⟨zl, zs, zo, zx, zy, zz, rfl, hA, hb⟩
    have Rz := R6.below hb
    have Bz := then_ B6 hb
    have HZ := hid (hA.base B6.size)
    clear n0 n1 n2 m0 m1 m2 mf hA hb
    obtain ⟨r0, r1, r2⟩ := Rz.three
    have rf := Rz.warm
    go_wp2
    refine bodyPost_ret (rep_results _ _ (w.heap.size + 1) _ _ _ (.int .i64 0) Try.results19 (Rz.set3 _ _ _) rfl rfl) rfl ⟨_, _, _, by rw [ER.out], ?_, ?_⟩
    · rw [ER.out]
      exact HZ.out.set3 Rz _ _ _
    · exact set3_below Bz (by omega) _ _ _
  · have HO : Hid (repOps d.live.toL s t = [⟨1, (s ++ dotNew), ⟨#[]⟩, t⟩, ⟨2, (s ++ dotNew), s, ⟨#[]⟩⟩]) := hid (by unfold repOps; rw [if_neg (fun h => hp (hr.2 h))]; rfl)
    have hp' : r < 0 := by omega
    clear hr hp
    obtain ⟨n0, n1, n2⟩ := N3.three
    have nf := N3.warm
    have C21 := hid (specAct_L d.live.toL d.safe.toL d.ops.toL 200 G3.out (by omega) _ _ _ _ _ _ ⟨1, (s ++ dotNew), ⟨#[]⟩, t⟩ W3.out.2.1 h2 _ D3.out)
    simp only at C21
    go_wp2_with fail
    (try rw [EF.out])
    refine C21.out.mono ?_
    rintro e v21 ⟨bl21, bs21, bo21, bx21, by21, bz21, rfl, hA, hb⟩
    have HA21 := hid (hA.base B3.size)
    have Ax := A3.below hb
    have Rx := R3.below hb
    have Nx := N3.below hb
    have Bx := then_ B3 hb
    have A21 := Ax.other3 (Q := w1.heap.size) (by omega) (.slice bl21 (stL d.live.toL d.ops.toL ⟨1, (s ++ dotNew), ⟨#[]⟩, t⟩).length bx21) (.slice bs21 d.safe.toL.length by21) (.slice bo21 (stO d.live.toL d.ops.toL ⟨1, (s ++ dotNew), ⟨#[]⟩, t⟩).length bz21)
    have R21 := Rx.other3 (Q := w1.heap.size) (by omega) (.slice bl21 (stL d.live.toL d.ops.toL ⟨1, (s ++ dotNew), ⟨#[]⟩, t⟩).length bx21) (.slice bs21 d.safe.toL.length by21) (.slice bo21 (stO d.live.toL d.ops.toL ⟨1, (s ++ dotNew), ⟨#[]⟩, t⟩).length bz21)
    have N21 := Nx.set3 (.slice bl21 (stL d.live.toL d.ops.toL ⟨1, (s ++ dotNew), ⟨#[]⟩, t⟩).length bx21) (.slice bs21 d.safe.toL.length by21) (.slice bo21 (stO d.live.toL d.ops.toL ⟨1, (s ++ dotNew), ⟨#[]⟩, t⟩).length bz21)
    have D21 := hid (HA21.out.set3 Nx (.slice bl21 (stL d.live.toL d.ops.toL ⟨1, (s ++ dotNew), ⟨#[]⟩, t⟩).length bx21) (.slice bs21 d.safe.toL.length by21) (.slice bo21 (stO d.live.toL d.ops.toL ⟨1, (s ++ dotNew), ⟨#[]⟩, t⟩).length bz21)).dat
    have B21 := set3_below Bx (show w.heap.size ≤ w1.heap.size by omega) (.slice bl21 (stL d.live.toL d.ops.toL ⟨1, (s ++ dotNew), ⟨#[]⟩, t⟩).length bx21) (.slice bs21 d.safe.toL.length by21) (.slice bo21 (stO d.live.toL d.ops.toL ⟨1, (s ++ dotNew), ⟨#[]⟩, t⟩).length bz21)
    have G21 := hid (G3.out.step W3.out.2.1 h2)
    obtain ⟨m0, m1, m2⟩ := Nx.three
    have mf := Nx.warm
    clear n0 n1 n2 nf C21 hA hb Ax Rx Bx
    by_cases c21 : cdL d.live.toL d.ops.toL.length ⟨1, (s ++ dotNew), ⟨#[]⟩, t⟩ = 0
    rotate_left
    · obtain ⟨kk, hk⟩ : ∃ kk, kk = cdL d.live.toL d.ops.toL.length ⟨1, (s ++ dotNew), ⟨#[]⟩, t⟩ := ⟨_, rfl⟩
      have ER : Hid (repA d s t = (d.live.toL, d.safe.toL, d.ops.toL, kk)) := hid (by
        have hrun : runA (repOps d.live.toL s t) d.live.toL d.ops.toL = (d.live.toL, d.ops.toL, kk) := by rw [HO.out, runA_no c21, hk]
        rw [E0.out _ hrun, if_neg (by rw [hk]; exact c21)])
      rw [← hk]
      have kb : (kk == 0) = false := by rw [hk]; exact beq_eq_false_iff_ne.2 c21
      clear hk c21
      obtain ⟨x0, x1, x2⟩ := A21.three
      go_wp2_with fail
      refine (specCopy_L d.live.toL d.safe.toL d.ops.toL 200 G0.out (by omega) _ _ _ _ _ _ _ (DD.out _ B21)).mono ?_
      rintro e vz ⟨zl, zs, zo, zx, zy, zz, rfl, hA, hb⟩
      have Rz := R21.below hb
      have Bz := then_ B21 hb
      have HZ := hid (hA.base B21.size)
      clear x0 x1 x2 m0 m1 m2 mf hA hb
      obtain ⟨r0, r1, r2⟩ := Rz.three
      have rf := Rz.warm
      go_wp2
      refine bodyPost_ret (rep_results _ _ (w.heap.size + 1) _ _ _ (.int .i64 kk) Try.results19 (Rz.set3 _ _ _) rfl rfl) rfl ⟨_, _, _, by rw [ER.out], ?_, ?_⟩
      · rw [ER.out]
        exact HZ.out.set3 Rz _ _ _
      · exact set3_below Bz (by omega) _ _ _
    have HC21 := hid c21
    rw [c21]
    clear c21
    have mk21 : True := trivial
    obtain ⟨n0, n1, n2⟩ := N21.three
    have nf := N21.warm
    have C22 := hid (specAct_L (stL d.live.toL d.ops.toL ⟨1, (s ++ dotNew), ⟨#[]⟩, t⟩) d.safe.toL (stO d.live.toL d.ops.toL ⟨1, (s ++ dotNew), ⟨#[]⟩, t⟩) 201 G21.out (by omega) _ _ _ _ _ _ ⟨2, (s ++ dotNew), s, ⟨#[]⟩⟩ W3.out.2.2 (by show (⟨#[]⟩ : ByteArray).size ≤ _; exact Nat.zero_le _) _ D21.out)
    simp only at C22
    go_wp2_with fail
    (try rw [EF.out])
    refine C22.out.mono ?_
    rintro e v22 ⟨bl22, bs22, bo22, bx22, by22, bz22, rfl, hA, hb⟩
    have HA22 := hid (hA.base B21.size)
    have Ax := A21.below hb
    have Rx := R21.below hb
    have Nx := N21.below hb
    have Bx := then_ B21 hb
    have A22 := Ax.other3 (Q := w1.heap.size) (by omega) (.slice bl22 (stL (stL d.live.toL d.ops.toL ⟨1, (s ++ dotNew), ⟨#[]⟩, t⟩) (stO d.live.toL d.ops.toL ⟨1, (s ++ dotNew), ⟨#[]⟩, t⟩) ⟨2, (s ++ dotNew), s, ⟨#[]⟩⟩).length bx22) (.slice bs22 d.safe.toL.length by22) (.slice bo22 (stO (stL d.live.toL d.ops.toL ⟨1, (s ++ dotNew), ⟨#[]⟩, t⟩) (stO d.live.toL d.ops.toL ⟨1, (s ++ dotNew), ⟨#[]⟩, t⟩) ⟨2, (s ++ dotNew), s, ⟨#[]⟩⟩).length bz22)
    have R22 := Rx.other3 (Q := w1.heap.size) (by omega) (.slice bl22 (stL (stL d.live.toL d.ops.toL ⟨1, (s ++ dotNew), ⟨#[]⟩, t⟩) (stO d.live.toL d.ops.toL ⟨1, (s ++ dotNew), ⟨#[]⟩, t⟩) ⟨2, (s ++ dotNew), s, ⟨#[]⟩⟩).length bx22) (.slice bs22 d.safe.toL.length by22) (.slice bo22 (stO (stL d.live.toL d.ops.toL ⟨1, (s ++ dotNew), ⟨#[]⟩, t⟩) (stO d.live.toL d.ops.toL ⟨1, (s ++ dotNew), ⟨#[]⟩, t⟩) ⟨2, (s ++ dotNew), s, ⟨#[]⟩⟩).length bz22)
    have N22 := Nx.set3 (.slice bl22 (stL (stL d.live.toL d.ops.toL ⟨1, (s ++ dotNew), ⟨#[]⟩, t⟩) (stO d.live.toL d.ops.toL ⟨1, (s ++ dotNew), ⟨#[]⟩, t⟩) ⟨2, (s ++ dotNew), s, ⟨#[]⟩⟩).length bx22) (.slice bs22 d.safe.toL.length by22) (.slice bo22 (stO (stL d.live.toL d.ops.toL ⟨1, (s ++ dotNew), ⟨#[]⟩, t⟩) (stO d.live.toL d.ops.toL ⟨1, (s ++ dotNew), ⟨#[]⟩, t⟩) ⟨2, (s ++ dotNew), s, ⟨#[]⟩⟩).length bz22)
    have D22 := hid (HA22.out.set3 Nx (.slice bl22 (stL (stL d.live.toL d.ops.toL ⟨1, (s ++ dotNew), ⟨#[]⟩, t⟩) (stO d.live.toL d.ops.toL ⟨1, (s ++ dotNew), ⟨#[]⟩, t⟩) ⟨2, (s ++ dotNew), s, ⟨#[]⟩⟩).length bx22) (.slice bs22 d.safe.toL.length by22) (.slice bo22 (stO (stL d.live.toL d.ops.toL ⟨1, (s ++ dotNew), ⟨#[]⟩, t⟩) (stO d.live.toL d.ops.toL ⟨1, (s ++ dotNew), ⟨#[]⟩, t⟩) ⟨2, (s ++ dotNew), s, ⟨#[]⟩⟩).length bz22)).dat
    have B22 := set3_below Bx (show w.heap.size ≤ w1.heap.size by omega) (.slice bl22 (stL (stL d.live.toL d.ops.toL ⟨1, (s ++ dotNew), ⟨#[]⟩, t⟩) (stO d.live.toL d.ops.toL ⟨1, (s ++ dotNew), ⟨#[]⟩, t⟩) ⟨2, (s ++ dotNew), s, ⟨#[]⟩⟩).length bx22) (.slice bs22 d.safe.toL.length by22) (.slice bo22 (stO (stL d.live.toL d.ops.toL ⟨1, (s ++ dotNew), ⟨#[]⟩, t⟩) (stO d.live.toL d.ops.toL ⟨1, (s ++ dotNew), ⟨#[]⟩, t⟩) ⟨2, (s ++ dotNew), s, ⟨#[]⟩⟩).length bz22)
    have G22 := hid (G21.out.step W3.out.2.2 (by show (⟨#[]⟩ : ByteArray).size ≤ _; exact Nat.zero_le _))
    obtain ⟨m0, m1, m2⟩ := Nx.three
    have mf := Nx.warm
    clear n0 n1 n2 nf C22 hA hb Ax Rx Bx
    by_cases c22 : cdL (stL d.live.toL d.ops.toL ⟨1, (s ++ dotNew), ⟨#[]⟩, t⟩) (stO d.live.toL d.ops.toL ⟨1, (s ++ dotNew), ⟨#[]⟩, t⟩).length ⟨2, (s ++ dotNew), s, ⟨#[]⟩⟩ = 0
    rotate_left
    · obtain ⟨kk, hk⟩ : ∃ kk, kk = cdL (stL d.live.toL d.ops.toL ⟨1, (s ++ dotNew), ⟨#[]⟩, t⟩) (stO d.live.toL d.ops.toL ⟨1, (s ++ dotNew), ⟨#[]⟩, t⟩).length ⟨2, (s ++ dotNew), s, ⟨#[]⟩⟩ := ⟨_, rfl⟩
      have ER : Hid (repA d s t = (d.live.toL, d.safe.toL, d.ops.toL, kk)) := hid (by
        have hrun : runA (repOps d.live.toL s t) d.live.toL d.ops.toL = ((stL d.live.toL d.ops.toL ⟨1, (s ++ dotNew), ⟨#[]⟩, t⟩), (stO d.live.toL d.ops.toL ⟨1, (s ++ dotNew), ⟨#[]⟩, t⟩), kk) := by rw [HO.out, runA_yes HC21.out, runA_no c22, hk]
        rw [E0.out _ hrun, if_neg (by rw [hk]; exact c22)])
      rw [← hk]
      have kb : (kk == 0) = false := by rw [hk]; exact beq_eq_false_iff_ne.2 c22
      clear hk c22
      obtain ⟨x0, x1, x2⟩ := A22.three
      go_wp2_with fail
      refine (specCopy_L d.live.toL d.safe.toL d.ops.toL 200 G0.out (by omega) _ _ _ _ _ _ _ (DD.out _ B22)).mono ?_
      rintro e vz ⟨zl, zs, zo, zx, zy, zz, rfl, hA, hb⟩
      have Rz := R22.below hb
      have Bz := then_ B22 hb
      have HZ := hid (hA.base B22.size)
      clear x0 x1 x2 m0 m1 m2 mf hA hb
      obtain ⟨r0, r1, r2⟩ := Rz.three
      have rf := Rz.warm
      go_wp2
      refine bodyPost_ret (rep_results _ _ (w.heap.size + 1) _ _ _ (.int .i64 kk) Try.results19 (Rz.set3 _ _ _) rfl rfl) rfl ⟨_, _, _, by rw [ER.out], ?_, ?_⟩
      · rw [ER.out]
        exact HZ.out.set3 Rz _ _ _
      · exact set3_below Bz (by omega) _ _ _
    have HC22 := hid c22
    rw [c22]
    clear c22
    have ER : Hid (repA d s t = ((stL (stL d.live.toL d.ops.toL ⟨1, (s ++ dotNew), ⟨#[]⟩, t⟩) (stO d.live.toL d.ops.toL ⟨1, (s ++ dotNew), ⟨#[]⟩, t⟩) ⟨2, (s ++ dotNew), s, ⟨#[]⟩⟩), d.safe.toL, (stO (stL d.live.toL d.ops.toL ⟨1, (s ++ dotNew), ⟨#[]⟩, t⟩) (stO d.live.toL d.ops.toL ⟨1, (s ++ dotNew), ⟨#[]⟩, t⟩) ⟨2, (s ++ dotNew), s, ⟨#[]⟩⟩), 0)) := hid (by
      have hrun : runA (repOps d.live.toL s t) d.live.toL d.ops.toL = ((stL (stL d.live.toL d.ops.toL ⟨1, (s ++ dotNew), ⟨#[]⟩, t⟩) (stO d.live.toL d.ops.toL ⟨1, (s ++ dotNew), ⟨#[]⟩, t⟩) ⟨2, (s ++ dotNew), s, ⟨#[]⟩⟩), (stO (stL d.live.toL d.ops.toL ⟨1, (s ++ dotNew), ⟨#[]⟩, t⟩) (stO d.live.toL d.ops.toL ⟨1, (s ++ dotNew), ⟨#[]⟩, t⟩) ⟨2, (s ++ dotNew), s, ⟨#[]⟩⟩), 0) := by rw [HO.out, runA_yes HC21.out, runA_yes HC22.out]; rfl
      rw [E0.out _ hrun, if_pos rfl])
    have HD22 := hid (HA22.out.set3 Nx (.slice bl22 (stL (stL d.live.toL d.ops.toL ⟨1, (s ++ dotNew), ⟨#[]⟩, t⟩) (stO d.live.toL d.ops.toL ⟨1, (s ++ dotNew), ⟨#[]⟩, t⟩) ⟨2, (s ++ dotNew), s, ⟨#[]⟩⟩).length bx22) (.slice bs22 d.safe.toL.length by22) (.slice bo22 (stO (stL d.live.toL d.ops.toL ⟨1, (s ++ dotNew), ⟨#[]⟩, t⟩) (stO d.live.toL d.ops.toL ⟨1, (s ++ dotNew), ⟨#[]⟩, t⟩) ⟨2, (s ++ dotNew), s, ⟨#[]⟩⟩).length bz22)).dat
    obtain ⟨n0, n1, n2⟩ := N22.three
    go_wp2_with fail
    refine (specCopy_L (stL (stL d.live.toL d.ops.toL ⟨1, (s ++ dotNew), ⟨#[]⟩, t⟩) (stO d.live.toL d.ops.toL ⟨1, (s ++ dotNew), ⟨#[]⟩, t⟩) ⟨2, (s ++ dotNew), s, ⟨#[]⟩⟩) d.safe.toL (stO (stL d.live.toL d.ops.toL ⟨1, (s ++ dotNew), ⟨#[]⟩, t⟩) (stO d.live.toL d.ops.toL ⟨1, (s ++ dotNew), ⟨#[]⟩, t⟩) ⟨2, (s ++ dotNew), s, ⟨#[]⟩⟩) 202 G22.out (by omega) _ _ _ _ _ _ _ D22.out).mono ?_
    rintro e vz ⟨zl, zs, zo, zx, zy, zz, rfl, hA, hb⟩
    have Rz := R22.below hb
    have Bz := then_ B22 hb
    have HZ := hid (hA.base B22.size)
    clear n0 n1 n2 m0 m1 m2 mf hA hb
    obtain ⟨r0, r1, r2⟩ := Rz.three
    have rf := Rz.warm
    go_wp2
    refine bodyPost_ret (rep_results _ _ (w.heap.size + 1) _ _ _ (.int .i64 0) Try.results19 (Rz.set3 _ _ _) rfl rfl) rfl ⟨_, _, _, by rw [ER.out], ?_, ?_⟩
    · rw [ER.out]
      exact HZ.out.set3 Rz _ _ _
    · exact set3_below Bz (by omega) _ _ _
end Go.Proofs.Ytcchpeebhkiacaa
/- ReadFile, the program. -/
namespace Go.Proofs.Ytcchpeebhkiacaa
open Go Go.RowKit Go.Deep Go.Maps

def readD (d : DiskV) (s : ByteArray) : Option ByteArray := if dkOk d = true then lookF d.live.n d.live.f s else none
set_option maxRecDepth 100000 in
set_option maxHeartbeats 2000000 in
theorem implRead_any (d : DiskV) (s : ByteArray) (w : World) (hd : d.at w) (hs : d.sz ≤ 1048576) :
    Calls Try.prog 16 #[d.val, .string s] w fun e w' => e = .returned (.tuple #[.string ((readD d s).getD ⟨#[]⟩), .bool (readD d s).isSome]) ∧ Below w.heap.size w w' := by
  have b0 : Below w.heap.size w (w.alloc (.cells #[.slice d.live.a d.live.n d.live.k, .slice d.safe.a d.safe.n d.safe.k, .slice d.ops.a d.ops.n d.ops.k] 27)) := (Below.refl _ w).alloc (Nat.le_refl _) _
  have A0 := Blk.new w (.cells #[.slice d.live.a d.live.n d.live.k, .slice d.safe.a d.safe.n d.safe.k, .slice d.ops.a d.ops.n d.ops.k] 27)
  have C1 := hid (implDisk_any d _ (hd.below b0) hs)
  have HD := hid hd
  unfold DiskV.val at C1
  unfold DiskV.val
  obtain ⟨x0, x1, x2⟩ := A0.three
  clear hd hs
  go_enter Try.func16, Try.ntmps16
  go_wp2_with fail
  refine C1.out.mono ?_
  rintro e w1 ⟨rfl, hb1⟩
  have A1 := A0.below hb1
  have B1 := then_ b0 hb1
  clear x0 x1 x2 C1 A0 b0 hb1
  obtain ⟨x0, x1, x2⟩ := A1.three
  cases t1 : dkOk d with
  | false =>
    have E : Hid (readD d s = none) := hid (by rw [readD, if_neg (by rw [t1]; decide)])
    go_wp2
    exact bodyPost_ret (v := .tuple #[.string ⟨#[]⟩, .bool false]) (by simp [results, Try.results16, go_sem]) rfl ⟨by rw [E.out]; rfl, B1⟩
  | true =>
    have E : Hid (readD d s = lookF d.live.n d.live.f s) := hid (by rw [readD, if_pos t1])
    have C2 := hid (dataIn_any d.live s w1 (HD.out.1.below B1))
    unfold FileL.val at C2
    go_wp2_with fail
    refine C2.out.mono ?_
    rintro e w2 ⟨rfl, hb2⟩
    have B2 := then_ B1 hb2
    clear C2 t1
    go_wp2
    exact bodyPost_ret (v := .tuple #[.string ((lookF d.live.n d.live.f s).getD ⟨#[]⟩), .bool (lookF d.live.n d.live.f s).isSome]) (by simp [results, Try.results16, go_sem]) rfl ⟨by rw [E.out], B2⟩
/-- read off a right disk: what its list says -/
theorem read_ok {d : DiskV} {s : ByteArray} (h : dkOk d = true) : readD d s = lookL d.live.toL (key s) := by
  unfold readD
  rw [if_pos h, lookF_L]
theorem read_no {d : DiskV} {s : ByteArray} (h : dkOk d = false) : readD d s = none := by
  unfold readD
  rw [if_neg (by rw [h]; decide)]
end Go.Proofs.Ytcchpeebhkiacaa
