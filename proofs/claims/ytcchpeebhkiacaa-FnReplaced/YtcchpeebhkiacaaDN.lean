/- Right disks, for the model. -/
import Derived.Test.YtcchpeebhkiacaaZK
namespace Go.Proofs.Ytcchpeebhkiacaa
open Go Go.RowKit Go.Deep Go.Maps

theorem dsz_under {l : FileL} {B : Nat} (h : tot (fun i => (l.f i).sz) l.n ≤ B) : tot (dsz l.f) l.n ≤ B := Nat.le_trans (tot_le fun i _ => by unfold dsz FileV.sz; omega) h
theorem FileL.at.list {w : World} {l : FileL} (h : l.at w) : FileL.at w ⟨l.a, l.toL.length, l.k, fileAt l.toL⟩ := by
  refine ⟨by show l.toL.length ≤ _; rw [toL_len]; exact h.1, ?_, fun i (hi : i < l.toL.length) => ?_⟩
  · show FilesAt w l.a l.toL.length (fileAt l.toL)
    rw [toL_len]
    intro hn
    obtain ⟨b, off, e, hlt, hc⟩ := h.2.1 hn
    exact ⟨b, off, e, hlt, fun i hi => by rw [fileAt_toL hi]; exact hc i hi⟩
  · rw [toL_len] at hi
    show (fileAt l.toL i).wf
    rw [fileAt_toL hi]
    exact h.2.2 i hi
theorem dkOk_no1 {d : DiskV} (h : fsOk d.live.n d.live.f = false) : dkOk d = false := by simp [dkOk, h]
theorem dkOk_no2 {d : DiskV} (h : fsOk d.safe.n d.safe.f = false) : dkOk d = false := by simp [dkOk, h]
theorem dkOk_no3 {d : DiskV} (h : ¬ d.ops.n ≤ 200) : dkOk d = false := by simp [dkOk, h]
theorem dkOk_no4 {d : DiskV} (h : runO d.safe.toL d.ops.f d.ops.n = none) : dkOk d = false := by simp [dkOk, h]
theorem dkOk_yes {d : DiskV} {M : List FileV} (h1 : fsOk d.live.n d.live.f = true) (h2 : fsOk d.safe.n d.safe.f = true) (h3 : d.ops.n ≤ 200) (h : runO d.safe.toL d.ops.f d.ops.n = some M) : dkOk d = (decide (M.length = d.live.n) && sameF M.length (fileAt M) d.live.f) := by
  simp [dkOk, h, h1, h2, h3]
theorem runO_stop {L M : List FileV} {g : Nat → OpV} {k n : Nat} (h : runO L g k = some M) (hk : k < n) (hs : stepL M (g k) = none) : runO L g n = none :=
  runO_none (k := k + 1) (by rw [runO, h]; exact hs) hk
theorem stepL_yes {M : List FileV} {o : OpV} (h1 : (doF M.length (fileAt M) o).2 = true) (h2 : opForm o = true) (h3 : okL (doF M.length (fileAt M) o).1 = true) : stepL M o = some (doF M.length (fileAt M) o).1 := by rw [stepL, if_pos ⟨h1, h2, h3⟩]
theorem stepL_no1 {M : List FileV} {o : OpV} (h1 : (doF M.length (fileAt M) o).2 = false) : stepL M o = none := by rw [stepL, if_neg (fun h => by rw [h1] at h; cases h.1)]
theorem stepL_no2 {M : List FileV} {o : OpV} (h1 : opForm o = false) : stepL M o = none := by rw [stepL, if_neg (fun h => by rw [h1] at h; cases h.2.1)]
theorem stepL_no3 {M : List FileV} {o : OpV} (h1 : okL (doF M.length (fileAt M) o).1 = false) : stepL M o = none := by rw [stepL, if_neg (fun h => by rw [h1] at h; cases h.2.2)]
/-- the files behind an op are bounded -/
theorem doF_wf {M : List FileV} {o : OpV} (hM : okL M = true) (hw : ∀ x ∈ M, x.wf) (ho : o.wf) (hd : o.data.size ≤ 1048576) :
    (doF M.length (fileAt M) o).1.length ≤ 121 ∧ (∀ x ∈ (doF M.length (fileAt M) o).1, x.wf ∧ x.data.size ≤ 1300000) := by
  have h60 := fsOk_len hM
  refine ⟨Nat.le_trans doF_len (by omega), fun x hx => ?_⟩
  have hh := doF_mem (P := fun s => s.size ≤ maxLen) (Q := fun s => s.size ≤ 1300000) (fun i hi => ⟨(hw _ (fileAt_mem hi)).1, by have := fsOk_data hM hi; omega⟩) ho.1 ho.2.1 (by omega) (fun i hi => by rw [ByteArray.size_append]; have := fsOk_data hM hi; omega) x hx
  refine ⟨⟨hh.1, ?_⟩, hh.2⟩
  unfold maxLen
  have := hh.2
  omega

set_option maxRecDepth 100000 in
set_option maxHeartbeats 8000000 in
theorem specDisk_any (d : DiskV) (w : World) (hd : d.at w) (hs : d.sz ≤ 1048576) :
    Calls Try.prog 9 #[d.val] w fun e w' => e = .returned (.bool (dkOk d)) ∧ Below w.heap.size w w' := by
  have b0 : Below w.heap.size w (w.alloc (.cells #[.slice d.live.a d.live.n d.live.k, .slice d.safe.a d.safe.n d.safe.k, .slice d.ops.a d.ops.n d.ops.k] 27)) := (Below.refl _ w).alloc (Nat.le_refl _) _
  have A0 := Blk.new w (.cells #[.slice d.live.a d.live.n d.live.k, .slice d.safe.a d.safe.n d.safe.k, .slice d.ops.a d.ops.n d.ops.k] 27)
  have HD := hid hd
  have HS := hid hs
  have zl : Hid (tot (dsz d.live.f) d.live.n ≤ 1000000000) := hid (dsz_under (by unfold DiskV.sz at hs; omega))
  have zs : Hid (tot (dsz d.safe.f) d.safe.n ≤ 1000000000) := hid (dsz_under (by unfold DiskV.sz at hs; omega))
  have zo : Hid (∀ i, i < d.ops.n → (d.ops.f i).data.size ≤ 1048576) := hid (fun i hi => by
    have h1 := tot_one (g := fun i => (d.ops.f i).sz) hi
    unfold DiskV.sz at hs
    simp only [OpV.sz] at h1 hs
    omega)
  have C1 := hid (l11Files_any d.live _ (hd.1.below b0) zl.out)
  unfold FileL.val at C1
  unfold DiskV.val
  obtain ⟨x0, x1, x2⟩ := A0.three
  clear hd hs
  go_enter Try.func9, Try.ntmps9
  go_wp2_with fail
  refine C1.out.mono ?_
  rintro e w1 ⟨rfl, hb1⟩
  have A1 := A0.below hb1
  have B1 := then_ b0 hb1
  clear x0 x1 x2 C1 A0 b0 hb1
  obtain ⟨x0, x1, x2⟩ := A1.three
  cases t1 : fsOk d.live.n d.live.f with
  | false =>
    have E := hid (dkOk_no1 t1)
    go_wp2
    go_ret
    exact ⟨ret_bool E.out.symm, B1⟩
  | true =>
  have C2 := hid (l11Files_any d.safe w1 (HD.out.2.1.below B1) zs.out)
  unfold FileL.val at C2
  go_wp2_with fail
  refine C2.out.mono ?_
  rintro e w2 ⟨rfl, hb2⟩
  have A2 := A1.below hb2
  have B2 := then_ B1 hb2
  clear x0 x1 x2 C2 A1 B1 hb2
  obtain ⟨x0, x1, x2⟩ := A2.three
  cases t2 : fsOk d.safe.n d.safe.f with
  | false =>
    have E := hid (dkOk_no2 t2)
    go_wp2
    go_ret
    exact ⟨ret_bool E.out.symm, B2⟩
  | true =>
  have hon := HD.out.2.2.1
  unfold maxLen at hon
  by_cases t3 : d.ops.n ≤ 200
  · have t3' : ¬ (200 : Int) < (d.ops.n : Int) := by omega
    have T1 := hid t1
    have T2 := hid t2
    have S0 := hid (HD.out.2.1.below B2).list
    have S1 := hid (toL_len d.safe)
    have S2 : Hid (okL d.safe.toL = true) := hid (by rw [okL_toL]; exact t2)
    clear t1 t2
    go_wp2
    clear x0 x1 x2
    go_loopw [3, 4] (fun v i wr => ∃ (k : Nat) (a : Option Addr) (c : Nat) (M : List FileV), k ≤ d.ops.n ∧ i = .int .i64 k ∧ v = .slice a M.length c ∧ FileL.at wr ⟨a, M.length, c, fileAt M⟩ ∧ runO d.safe.toL d.ops.f k = some M ∧ okL M = true ∧ Blk wr w.heap.size (.cells #[.slice d.live.a d.live.n d.live.k, .slice d.safe.a d.safe.n d.safe.k, .slice d.ops.a d.ops.n d.ops.k] 27) ∧ Below w.heap.size w wr) (fun _ i _ => d.ops.n - (intOf i).toNat)
    case atStart => exact ⟨0, d.safe.a, d.safe.k, d.safe.toL, Nat.zero_le _, rfl, by rw [S1.out], S0.out, rfl, S2.out, A2, B2⟩
    case round =>
      clear A2 B2 S0 S1 S2
      obtain ⟨k, a, c, M, hk, rfl, rfl, hM, hr, hok, A, hB⟩ := hrel
      have HM := hid hM
      have HR := hid hr
      have HO := hid hok
      have m60 : M.length ≤ 60 := fsOk_len hok
      clear hM hr hok
      obtain ⟨x0, x1, x2⟩ := A.three
      by_cases hlt' : k < d.ops.n
      · obtain ⟨b, off, ea, hlt, hcc⟩ := (HD.out.2.2.2.1.below hB) (by omega)
        obtain ⟨h0, h1, h2, h3⟩ := hcc k hlt'
        have i0 : (0 : Int) ≤ (k : Int) := by omega
        have i1 : (k : Int) < (d.ops.n : Int) := by omega
        have OW := hid (HD.out.2.2.2.2 k hlt')
        have OZ := zo.out k hlt'
        have MW : Hid (∀ x ∈ M, x.wf) := hid (fun x hx => by
          obtain ⟨i, hi, rfl⟩ := List.mem_iff_getElem.1 hx
          have := HM.out.2.2 i hi
          simpa [fileAt, hi] using this)
        have DW := hid (doF_wf HO.out MW.out OW.out OZ)
        have C3 := hid (l11Do_any ⟨a, M.length, c, fileAt M⟩ (d.ops.f k) wr HM.out (by show M.length ≤ _; omega) (fun i hi => by have := fsOk_data HO.out hi; show (fileAt M i).data.size ≤ _; omega) (by omega))
        unfold FileL.val OpV.val at C3
        simp only at C3
        have ST : Hid (∀ r, stepL M (d.ops.f k) = r → stepL M (d.ops.f k) = r) := hid (fun _ h => h)
        have G0 := hid (stepL_yes (M := M) (o := d.ops.f k))
        have G1 := hid (stepL_no1 (M := M) (o := d.ops.f k))
        have G2 := hid (stepL_no2 (M := M) (o := d.ops.f k))
        have G3 := hid (stepL_no3 (M := M) (o := d.ops.f k))
        generalize (doF M.length (fileAt M) (d.ops.f k)).1 = N at *
        generalize (doF M.length (fileAt M) (d.ops.f k)).2 = ok at *
        have AA := hid A
        have EA := hid ea
        rw [ea] at x2
        have C4 : Hid (∀ W, Calls Try.prog 29 #[.agg #[.int .i64 (d.ops.f k).kind, .string (d.ops.f k).name, .string (d.ops.f k).to, .string (d.ops.f k).data]] W fun e w' => e = .returned (.bool (opForm (d.ops.f k))) ∧ Below W.heap.size W w') := hid (fun W => l11Form_any (d.ops.f k) W OW.out)
        clear hcc ea ST
        go_wp2_with fail
        refine C3.out.mono ?_
        rintro e w3 ⟨v, rfl, o3, hb3⟩
        have A3 := AA.out.below hb3
        have B3 := then_ hB hb3
        have O3 := hid o3
        have g0 := (hb3.cell (p := ⟨b, _, none⟩) hlt).trans h0
        have g1 := (hb3.cell (p := ⟨b, _, none⟩) hlt).trans h1
        have g2 := (hb3.cell (p := ⟨b, _, none⟩) hlt).trans h2
        have g3 := (hb3.cell (p := ⟨b, _, none⟩) hlt).trans h3
        clear x0 x1 x2 C3 o3 h0 h1 h2 h3
        have A3' := A3
        rw [EA.out] at A3'
        obtain ⟨x0, x1, x2⟩ := A3'.three
        cases ok with
        | false =>
          have E := hid (dkOk_no4 (runO_stop HR.out hlt' (G1.out rfl)))
          go_wp2
          go_ret
          exact ⟨ret_bool E.out.symm, B3⟩
        | true =>
        go_wp2_with fail
        refine (C4.out w3).mono ?_
        rintro e w4 ⟨rfl, hb4⟩
        have A4 := A3.below hb4
        have B4 := then_ B3 hb4
        have O4 := hid (O3.out.below hb4)
        clear x0 x1 x2 g0 g1 g2 g3 A3' A3 hb3 C4 O3
        cases t5 : opForm (d.ops.f k) with
        | false =>
          have E := hid (dkOk_no4 (runO_stop HR.out hlt' (G2.out t5)))
          go_wp2
          go_ret
          exact ⟨ret_bool E.out.symm, B4⟩
        | true =>
        obtain ⟨va, vc, rfl⟩ := O4.out.shape
        have NA := hid (O4.out.at (by have := DW.out.1; omega) (fun x hx => (DW.out.2 x hx).1))
        have C5 := hid (l11Files_any ⟨va, N.length, vc, fileAt N⟩ w4 NA.out (Nat.le_trans (tot_bound (c := 1300000) (fun i hi => (DW.out.2 _ (fileAt_mem hi)).2)) (by show N.length * _ ≤ _; have := DW.out.1; omega)))
        unfold FileL.val at C5
        simp only at C5
        go_wp2_with fail
        refine C5.out.mono ?_
        rintro e w5 ⟨rfl, hb5⟩
        have A5 := A4.below hb5
        have B5 := then_ B4 hb5
        have N5 := hid (NA.out.below hb5)
        clear A4 B4 C5 hb5 NA O4 hb4
        cases t6 : fsOk N.length (fileAt N) with
        | false =>
          have E := hid (dkOk_no4 (runO_stop HR.out hlt' (G3.out t6)))
          go_wp2
          go_ret
          exact ⟨ret_bool E.out.symm, B5⟩
        | true =>
          have ER : Hid (runO d.safe.toL d.ops.f (k + 1) = some N) := hid (by rw [runO, HR.out]; exact G0.out (by trivial) t5 t6)
          have EO : Hid (okL N = true) := hid t6
          clear G0 G1 G2 G3 HR HO HM AA t5 t6
          rw [← EA.out]
          clear EA
          go_wp2
          go_roundw
          case rel => exact ⟨k + 1, va, vc, N, by omega, by go_num, rfl, N5.out, ER.out, EO.out, A5, B5⟩
          case measure => simp [intOf]; omega
      · obtain rfl : k = d.ops.n := by omega
        have E := hid (dkOk_yes T1.out T2.out t3 HR.out)
        have C3 := hid (l11Same_any ⟨a, M.length, c, fileAt M⟩ d.live wr HM.out (HD.out.1.below hB))
        unfold FileL.val at C3
        simp only at C3
        go_wp2_with fail
        refine C3.out.mono ?_
        rintro e w3 ⟨rfl, hb3⟩
        have B3 := then_ hB hb3
        clear x0 x1 x2 C3 hb3
        go_wp2
        go_ret
        exact ⟨ret_bool E.out.symm, B3⟩
  · have t3' : (200 : Int) < (d.ops.n : Int) := by omega
    have E := hid (dkOk_no3 t3)
    go_wp2
    go_ret
    exact ⟨ret_bool E.out.symm, B2⟩
end Go.Proofs.Ytcchpeebhkiacaa
