/- Right disks, for the program. -/
import Derived.Test.YtcchpeebhkiacaaEE
namespace Go.Proofs.Ytcchpeebhkiacaa
open Go Go.RowKit Go.Deep Go.Maps

theorem toL_mem {l : FileL} {x : FileV} (h : x ∈ l.toL) : ∃ i, i < l.n ∧ l.f i = x := by
  obtain ⟨i, hi, rfl⟩ := List.mem_map.1 h
  exact ⟨i, List.mem_range.1 hi, rfl⟩
theorem shelfOf_L (l : FileL) (w : World) (hl : l.at w) (hok : fsOk l.n l.f = true) :
    Calls Try.prog 23 #[l.val] w fun e w' => ∃ c, e = .returned (.map (some c)) ∧ SL w' w.heap.size c l.n 1 l.toL ∧ Below w.heap.size w w' := by
  have hN : Neat l.toL := neat_ok (by rw [okL_toL]; exact hok)
  refine (shelfOf_any l w hl (fsOk_len hok) (fun i j hij hj e => ?_)).mono ?_
  · have := List.pairwise_iff_getElem.1 hN.rise i j (by rw [toL_len]; omega) (by rw [toL_len]; exact hj) hij
    have e1 : ∀ x (hx : x < l.toL.length), l.toL[x] = l.f x := fun x hx => by simp [FileL.toL]
    rw [e1, e1] at this
    exact klt_ne this e
  · rintro e w' ⟨c, m, pv, ps, rfl, h1, h2⟩
    rw [lookK_eq] at h1
    exact ⟨c, rfl, ⟨m, pv, ps, h1⟩, h2⟩
theorem okL_bytes {M : List FileV} (h : okL M = true) : bytesL M ≤ 200000 ∧ M.length ≤ 60 := by
  rw [okL_neat (neat_ok h)] at h
  simp only [Bool.and_eq_true, decide_eq_true_eq] at h
  exact ⟨h.2, h.1⟩
theorem stepL_code {M : List FileV} {o : OpV} : stepL M o = if codeL M o = 0 then some (doF M.length (fileAt M) o).1 else none := by
  unfold stepL codeL
  cases h1 : opForm o
  · simp
  · cases h2 : (doF M.length (fileAt M) o).2
    · simp
    · cases h3 : okL (doF M.length (fileAt M) o).1
      · simp
      · simp
theorem stepL_do {M : List FileV} {o : OpV} (h : codeL M o = 0) : stepL M o = some (doF M.length (fileAt M) o).1 := by rw [stepL_code, if_pos h]
theorem stepL_not {M : List FileV} {o : OpV} (h : codeL M o ≠ 0) : stepL M o = none := by rw [stepL_code, if_neg h]
theorem codeL_good {M : List FileV} {o : OpV} (h : codeL M o = 0) : okL (doF M.length (fileAt M) o).1 = true ∧ opForm o = true := by
  unfold codeL at h
  cases h1 : opForm o <;> rw [h1] at h
  · simp at h
  · cases h2 : (doF M.length (fileAt M) o).2 <;> rw [h2] at h
    · simp at h
    · cases h3 : okL (doF M.length (fileAt M) o).1 <;> rw [h3] at h
      · simp at h
      · exact ⟨rfl, rfl⟩
theorem Blk.under {w w' : World} {P B : Nat} {o : Obj} (h : Blk w P o) (hb : Below B w w') (hP : P < B) : Blk w' P o := (hb.block P hP).trans h

set_option maxRecDepth 100000 in
set_option maxHeartbeats 8000000 in
theorem implDisk_any (d : DiskV) (w : World) (hd : d.at w) (hs : d.sz ≤ 1048576) :
    Calls Try.prog 8 #[d.val] w fun e w' => e = .returned (.bool (dkOk d)) ∧ Below w.heap.size w w' := by
  have b0 : Below w.heap.size w (w.alloc (.cells #[.slice d.live.a d.live.n d.live.k, .slice d.safe.a d.safe.n d.safe.k, .slice d.ops.a d.ops.n d.ops.k] 27)) := (Below.refl _ w).alloc (Nat.le_refl _) _
  have A0 := Blk.new w (.cells #[.slice d.live.a d.live.n d.live.k, .slice d.safe.a d.safe.n d.safe.k, .slice d.ops.a d.ops.n d.ops.k] 27)
  have HD := hid hd
  have HS := hid hs
  have zl : Hid (tot (dsz d.live.f) d.live.n ≤ 1000000000) := hid (dsz_under (by unfold DiskV.sz at hs; omega))
  have zs : Hid (tot (dsz d.safe.f) d.safe.n ≤ 1000000000) := hid (dsz_under (by unfold DiskV.sz at hs; omega))
  have zo : Hid (∀ i, i < d.ops.n → (d.ops.f i).data.size ≤ 1048576) := hid (fun i hi => by
    have h1 := tot_one (g := fun i => (d.ops.f i).sz) hi
    unfold DiskV.sz at hs
    simp only [OpV.sz] at h1 hs
    omega)
  have C1 := hid (filesOk_any d.live _ (hd.1.below b0) zl.out)
  unfold FileL.val at C1
  unfold DiskV.val
  obtain ⟨x0, x1, x2⟩ := A0.three
  clear hd hs
  go_enter Try.func8, Try.ntmps8
  go_wp2_with fail
  refine C1.out.mono ?_
  rintro e w1 ⟨rfl, hb1⟩
  have A1 := A0.below hb1
  have B1 := then_ b0 hb1
  clear x0 x1 x2 C1 A0 b0 hb1
  obtain ⟨x0, x1, x2⟩ := A1.three
  cases t1 : fsOk d.live.n d.live.f with
  | false =>
    have E := hid (dkOk_no1 t1)
    go_wp2
    go_ret
    exact ⟨ret_bool E.out.symm, B1⟩
  | true =>
  have C2 := hid (filesOk_any d.safe w1 (HD.out.2.1.below B1) zs.out)
  unfold FileL.val at C2
  go_wp2_with fail
  refine C2.out.mono ?_
  rintro e w2 ⟨rfl, hb2⟩
  have A2 := A1.below hb2
  have B2 := then_ B1 hb2
  clear x0 x1 x2 C2 A1 B1 hb2
  obtain ⟨x0, x1, x2⟩ := A2.three
  cases t2 : fsOk d.safe.n d.safe.f with
  | false =>
    have E := hid (dkOk_no2 t2)
    go_wp2
    go_ret
    exact ⟨ret_bool E.out.symm, B2⟩
  | true =>
  have hon := HD.out.2.2.1
  unfold maxLen at hon
  by_cases t3 : d.ops.n ≤ 200
  · have t3' : ¬ (200 : Int) < (d.ops.n : Int) := by omega
    have T1 := hid t1
    have T2 := hid t2
    have C3 := hid (shelfOf_L d.safe w2 (HD.out.2.1.below B2) t2)
    unfold FileL.val at C3
    have S2 : Hid (okL d.safe.toL = true) := hid (by rw [okL_toL]; exact t2)
    have S3 : Hid (∀ x ∈ d.safe.toL, x.wf) := hid (fun x hx => by obtain ⟨i, hi, rfl⟩ := toL_mem hx; exact HD.out.2.1.2.2 i hi)
    have n60 := fsOk_len t2
    clear t1 t2
    go_wp2_with fail
    refine C3.out.mono ?_
    rintro e w3 ⟨c, rfl, hS, hb3⟩
    have A3 := A2.below hb3
    have lA : w.heap.size < w2.heap.size := A2.lt
    have B3 := then_ B2 hb3
    clear x0 x1 x2 C3 A2
    obtain ⟨x0, x1, x2⟩ := A3.three
    have HSL := hid hS
    have z3 := hb3.size
    clear hS hb3 B2
    generalize w2.heap.size = B at *
    go_wp2_with fail
    clear x0 x1 x2
    go_loopw [28] (fun i wr => ∃ (k : Nat) (M : List FileV), k ≤ d.ops.n ∧ i = .int .i64 k ∧ runO d.safe.toL d.ops.f k = some M ∧ okL M = true ∧ (∀ x ∈ M, x.wf) ∧ SL wr B c (d.safe.n + k) (1 + k) M ∧ Blk wr w.heap.size (.cells #[.slice d.live.a d.live.n d.live.k, .slice d.safe.a d.safe.n d.safe.k, .slice d.ops.a d.ops.n d.ops.k] 27) ∧ Below w.heap.size w wr) (fun i _ => d.ops.n - (intOf i).toNat)
    case atStart => exact ⟨0, d.safe.toL, Nat.zero_le _, rfl, rfl, S2.out, S3.out, HSL.out, A3, B3⟩
    case round =>
      clear A3 B3 S2 S3 HSL z3
      obtain ⟨k, M, hk, rfl, hr, hok, hwf, hS, A, hB⟩ := hrel
      have HR := hid hr
      have HO := hid hok
      have HW := hid hwf
      have HS1 := hid hS
      clear hr hok hwf hS
      by_cases hlt' : k < d.ops.n
      · obtain ⟨b, off, ea, hlt, hcc⟩ := (HD.out.2.2.2.1.below hB) (by omega)
        obtain ⟨h0, h1, h2, h3⟩ := hcc k hlt'
        have i0 : (0 : Int) ≤ (k : Int) := by omega
        have i1 : (k : Int) < (d.ops.n : Int) := by omega
        have OW := hid (HD.out.2.2.2.2 k hlt')
        have OZ := zo.out k hlt'
        have EA := hid ea
        rw [ea]
        have bm := okL_bytes HO.out
        have b1 : Below wr.heap.size wr (wr.alloc (.cells #[.int .i64 (d.ops.f k).kind, .string (d.ops.f k).name, .string (d.ops.f k).to, .string (d.ops.f k).data] 36)) := (Below.refl _ wr).alloc (Nat.le_refl _) _
        have lB := HS1.out.lt
        have C4 := hid (doneOn_any (d.ops.f k) ⟨HS1.out.below b1, neat_ok HO.out, OW.out, Nat.le_trans (Nat.le_of_lt lB) b1.size, by unfold maxLen; omega, by omega, by omega, by omega⟩)
        unfold OpV.val at C4
        have A1 := A.below b1
        have B1 := then_ hB b1
        clear hcc ea
        go_wp2_with fail
        refine C4.out.mono ?_
        rintro e w4 ⟨rfl, hS4, hb4⟩
        have A4 := A1.under hb4 lA
        have B4 : Below w.heap.size w w4 := B1.trans (hb4.mono (Nat.le_of_lt lA))
        have HS4 := hid hS4
        clear C4 hS4 h0 h1 h2 h3 A1 B1 b1 hb4 A hB
        by_cases cd : codeL M (d.ops.f k) = 0
        · have OK := hid (codeL_good cd)
          have ER : Hid (runO d.safe.toL d.ops.f (k + 1) = some (doF M.length (fileAt M) (d.ops.f k)).1) := hid (by rw [runO, HR.out]; exact stepL_do cd)
          have S5 := hid (HS4.out cd)
          have WF := hid (doF_wf HO.out HW.out OW.out OZ)
          rw [cd]
          rw [EA.out] at A4
          clear HS4 cd
          go_wp2
          go_roundw
          case rel => exact ⟨k + 1, _, by omega, by go_num, ER.out, OK.out.1, fun x hx => (WF.out.2 x hx).1, S5.out, A4, B4⟩
          case measure => simp [intOf]; omega
        · have E := hid (dkOk_no4 (runO_stop HR.out hlt' (stepL_not cd)))
          clear HS4
          go_wp2
          go_ret
          exact ⟨ret_bool E.out.symm, B4⟩
      · obtain rfl : k = d.ops.n := by omega
        have E := hid (dkOk_yes T1.out T2.out t3 HR.out)
        have bm := okL_bytes HO.out
        have CF : Hid (∀ W, Below wr.heap.size wr W → Calls Try.prog 26 #[.map (some c)] W fun e w' => ∃ v, e = .returned v ∧ OwnF w' W.heap.size v M ∧ Below W.heap.size W w') := hid (fun W hW => files_any (HS1.out.below hW) (neat_ok HO.out).rise (by omega) HW.out (by omega) (by omega) (by omega))
        have CE : Hid (∀ W a c', FilesAt W a M.length (fileAt M) → Below w.heap.size w W → Calls Try.prog 25 #[.slice a M.length c', .slice d.live.a d.live.n d.live.k] W fun e w' => e = .returned (.bool (decide (M.length = d.live.n) && sameF M.length (fileAt M) d.live.f)) ∧ Below W.heap.size W w') := hid (fun W a c' h hW => equal_any ⟨a, M.length, c', fileAt M⟩ d.live W ⟨by unfold maxLen; show M.length ≤ _; omega, h, fun i hi => HW.out _ (fileAt_mem hi)⟩ (HD.out.1.below hW))
        generalize (decide (M.length = d.live.n) && sameF M.length (fileAt M) d.live.f) = R at *
        have HA := hid A
        obtain ⟨x0, x1, x2⟩ := A.three
        clear x1 x2 A
        go_wp2_with fail
        go_region_held3 (fun w' => w'.cell? ⟨w.heap.size, 0, none⟩ = some (.slice d.live.a d.live.n d.live.k)) (first | go_keep | (simp only [*]))
          (first
            | (go_at_call 26; refine (CF.out _ (Below.refl _ wr).drew).mono ?_; rintro e w4 ⟨v4, rfl, o4, hb4⟩; have O4 := hid o4; have HB4 := hid hb4; obtain ⟨va, vc, rfl⟩ := o4.shape; have q0 := (HA.out.below ((Below.refl _ wr).drew.trans (hb4.mono (Nat.le_refl _)))).three.1)
            | (go_at_call 25; refine (CE.out _ _ _ O4.out.lies.files (hB.trans ((Below.refl _ wr).drew.trans HB4.out |>.mono hB.size))).mono ?_; rintro e w5 ⟨rfl, hb5⟩; have q1 := (hb5.cell (p := ⟨w.heap.size, 0, none⟩) (HA.out.below ((Below.refl _ wr).drew.trans (HB4.out.mono (Nat.le_refl _)))).lt).trans q0))
        all_goals (
          go_wp2
          go_ret
          exact ⟨ret_bool E.out.symm, then_ (hB.trans ((Below.refl _ wr).drew.trans HB4.out |>.mono hB.size)) hb5⟩)
  · have t3' : (200 : Int) < (d.ops.n : Int) := by omega
    have E := hid (dkOk_no3 t3)
    go_wp2
    go_ret
    exact ⟨ret_bool E.out.symm, B2⟩
end Go.Proofs.Ytcchpeebhkiacaa
