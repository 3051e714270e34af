/- ReadFile, both sides, and FnExactReadFile: the walk. -/
import Derived.Test.YtncjkdfjafckhaaEG
namespace Go.Proofs.Ytncjkdfjafckhaa
open Go Go.RowKit Go.Deep Go.Maps

def readD (d : DiskV) (s : ByteArray) : Option ByteArray := if dkOk d = true then lookF d.live.n d.live.f s else none
set_option maxRecDepth 100000 in
set_option maxHeartbeats 2000000 in
theorem dataIn_any (l : FileL) (s : ByteArray) (w : World) (hl : l.at w) :
    Calls Try.prog 28 #[l.val, .string s] w fun e w' => e = .returned (.tuple #[.string ((lookF l.n l.f s).getD ⟨#[]⟩), .bool (lookF l.n l.f s).isSome]) ∧ Below w.heap.size w w' := by
  obtain ⟨a, n, cap, f⟩ := l
  obtain ⟨hn, hc, _⟩ := hl
  simp only at hn hc
  unfold maxLen at hn
  unfold FileL.val
  simp only
  go_enter Try.func28, Try.ntmps28
  go_wp2
  go_loopw [10] (fun i wr => ∃ k : Nat, k ≤ n ∧ i = .int .i64 k ∧ (∀ j, j < k → (f j).name ≠ s) ∧ Below w.heap.size w wr) (fun i _ => n - (intOf i).toNat)
  case atStart => exact ⟨0, Nat.zero_le _, rfl, fun j hj => absurd hj (Nat.not_lt_zero _), Below.refl _ _⟩
  case round =>
    obtain ⟨k, hk, rfl, hall, hB⟩ := hrel
    have HA := hid hall
    clear hall
    by_cases hlt' : k < n
    · obtain ⟨b, off, rfl, hlt, hcc⟩ := hc (by omega)
      have g1 : wr.cell? ⟨b, off + k * 2, none⟩ = some (.string (f k).name) := (hB.cell (p := ⟨b, _, none⟩) hlt).trans (hcc k hlt').1
      have g2 : wr.cell? ⟨b, off + k * 2 + 1, none⟩ = some (.string (f k).data) := (hB.cell (p := ⟨b, _, none⟩) hlt).trans (hcc k hlt').2
      have i0 : (0 : Int) ≤ (k : Int) := by omega
      have i1 : (k : Int) < (n : Int) := by omega
      have B1 : Hid (Below w.heap.size w (wr.alloc (.cells #[.string (f k).name, .string (f k).data] 54))) := hid (hB.alloc hB.size _)
      clear hc hcc
      by_cases en : (f k).name = s
      · have t := eqS_true en
        have E := hid (lookF_some hlt' en HA.out)
        clear en
        go_wp2
        exact bodyPost_ret (v := .tuple #[.string (f k).data, .bool true]) (by simp [results, Try.results28, go_sem]) rfl ⟨by rw [E.out]; rfl, B1.out⟩
      · have t := eqS_false en
        have HE := hid en
        clear en
        go_wp2
        go_roundw
        case rel => exact ⟨k + 1, by omega, by go_num, fun j hj => by
          by_cases e : j = k
          · subst e; exact HE.out
          · exact HA.out j (by omega), B1.out⟩
        case measure => simp [intOf]; omega
    · obtain rfl : k = n := by omega
      have E := hid (lookF_none HA.out)
      clear hc
      go_wp2
      exact bodyPost_ret (v := .tuple #[.string ⟨#[]⟩, .bool false]) (by simp [results, Try.results28, go_sem]) rfl ⟨by rw [E.out]; rfl, hB⟩

set_option maxRecDepth 100000 in
set_option maxHeartbeats 2000000 in
theorem specRead_any (d : DiskV) (s : ByteArray) (w : World) (hd : d.at w) (hs : d.sz ≤ 1048576) :
    Calls Try.prog 10 #[d.val, .string s] w fun e w' => e = .returned (.tuple #[.string ((readD d s).getD ⟨#[]⟩), .bool (readD d s).isSome]) ∧ Below w.heap.size w w' := by
  have b0 : Below w.heap.size w (w.alloc (.cells #[.slice d.live.a d.live.n d.live.k, .slice d.safe.a d.safe.n d.safe.k, .slice d.ops.a d.ops.n d.ops.k] 31)) := (Below.refl _ w).alloc (Nat.le_refl _) _
  have A0 := Blk.new w (.cells #[.slice d.live.a d.live.n d.live.k, .slice d.safe.a d.safe.n d.safe.k, .slice d.ops.a d.ops.n d.ops.k] 31)
  have C1 := hid (specDisk_any d _ (hd.below b0) hs)
  have HD := hid hd
  unfold DiskV.val at C1
  unfold DiskV.val
  obtain ⟨x0, x1, x2⟩ := A0.three
  clear hd hs
  go_enter Try.func10, Try.ntmps10
  go_wp2_with fail
  refine C1.out.mono ?_
  rintro e w1 ⟨rfl, hb1⟩
  have A1 := A0.below hb1
  have B1 := then_ b0 hb1
  clear x0 x1 x2 C1 A0 b0 hb1
  obtain ⟨x0, x1, x2⟩ := A1.three
  cases t1 : dkOk d with
  | false =>
    have E : Hid (readD d s = none) := hid (by rw [readD, if_neg (by rw [t1]; decide)])
    go_wp2
    exact bodyPost_ret (v := .tuple #[.string ⟨#[]⟩, .bool false]) (by simp [results, Try.results10, go_sem]) rfl ⟨by rw [E.out]; rfl, B1⟩
  | true =>
    have E : Hid (readD d s = lookF d.live.n d.live.f s) := hid (by rw [readD, if_pos t1])
    have C2 := hid (l11At_any d.live s w1 (HD.out.1.below B1))
    unfold FileL.val at C2
    go_wp2_with fail
    refine C2.out.mono ?_
    rintro e w2 ⟨r, rfl, hr, hb2⟩
    have A2 := A1.below hb2
    have B2 := then_ B1 hb2
    clear C2 t1 x0 x1 x2
    rcases hr with ⟨i, hi, rfl, hn, hj⟩ | ⟨rfl, hj⟩
    · have E2 := hid (lookF_some hi hn hj)
      obtain ⟨b, off, ea, hlt, hcc⟩ := (HD.out.1.2.1.below B2) (by omega)
      have A3 := A2
      rw [ea] at A3
      obtain ⟨x0, x1, x2⟩ := A3.three
      have g2 := (hcc i hi).2
      have i0 : (0 : Int) ≤ (i : Int) := by omega
      have i1 : (i : Int) < (d.live.n : Int) := by omega
      have i2 : ¬ (i : Int) < 0 := by omega
      clear hj hn hcc ea
      go_wp2
      exact bodyPost_ret (v := .tuple #[.string (d.live.f i).data, .bool true]) (by simp [results, Try.results10, go_sem]) rfl ⟨by rw [E.out, E2.out]; rfl, B2⟩
    · have E2 := hid (lookF_none hj)
      clear hj
      go_wp2
      exact bodyPost_ret (v := .tuple #[.string ⟨#[]⟩, .bool false]) (by simp [results, Try.results10, go_sem]) rfl ⟨by rw [E.out, E2.out]; rfl, B2⟩

set_option maxRecDepth 100000 in
set_option maxHeartbeats 2000000 in
theorem implRead_any (d : DiskV) (s : ByteArray) (w : World) (hd : d.at w) (hs : d.sz ≤ 1048576) :
    Calls Try.prog 11 #[d.val, .string s] w fun e w' => e = .returned (.tuple #[.string ((readD d s).getD ⟨#[]⟩), .bool (readD d s).isSome]) ∧ Below w.heap.size w w' := by
  have b0 : Below w.heap.size w (w.alloc (.cells #[.slice d.live.a d.live.n d.live.k, .slice d.safe.a d.safe.n d.safe.k, .slice d.ops.a d.ops.n d.ops.k] 31)) := (Below.refl _ w).alloc (Nat.le_refl _) _
  have A0 := Blk.new w (.cells #[.slice d.live.a d.live.n d.live.k, .slice d.safe.a d.safe.n d.safe.k, .slice d.ops.a d.ops.n d.ops.k] 31)
  have C1 := hid (implDisk_any d _ (hd.below b0) hs)
  have HD := hid hd
  unfold DiskV.val at C1
  unfold DiskV.val
  obtain ⟨x0, x1, x2⟩ := A0.three
  clear hd hs
  go_enter Try.func11, Try.ntmps11
  go_wp2_with fail
  refine C1.out.mono ?_
  rintro e w1 ⟨rfl, hb1⟩
  have A1 := A0.below hb1
  have B1 := then_ b0 hb1
  clear x0 x1 x2 C1 A0 b0 hb1
  obtain ⟨x0, x1, x2⟩ := A1.three
  cases t1 : dkOk d with
  | false =>
    have E : Hid (readD d s = none) := hid (by rw [readD, if_neg (by rw [t1]; decide)])
    go_wp2
    exact bodyPost_ret (v := .tuple #[.string ⟨#[]⟩, .bool false]) (by simp [results, Try.results11, go_sem]) rfl ⟨by rw [E.out]; rfl, B1⟩
  | true =>
    have E : Hid (readD d s = lookF d.live.n d.live.f s) := hid (by rw [readD, if_pos t1])
    have C2 := hid (dataIn_any d.live s w1 (HD.out.1.below B1))
    unfold FileL.val at C2
    go_wp2_with fail
    refine C2.out.mono ?_
    rintro e w2 ⟨rfl, hb2⟩
    have B2 := then_ B1 hb2
    clear C2 t1
    go_wp2
    exact bodyPost_ret (v := .tuple #[.string ((lookF d.live.n d.live.f s).getD ⟨#[]⟩), .bool (lookF d.live.n d.live.f s).isSome]) (by simp [results, Try.results11, go_sem]) rfl ⟨by rw [E.out], B2⟩

set_option maxRecDepth 100000 in
set_option maxHeartbeats 4000000 in
theorem exactReadFile_walk (d : DiskV) (s : ByteArray) (w : World) (hd : d.at w) (hz : s.size ≤ maxLen) :
    Calls Try.prog 4 #[d.val, .string s] w fun e w' => e = .returned (.bool true) ∧ Below w.heap.size w w' := by
  have hb0 := (Below.refl _ w).alloc (Nat.le_refl _) (.cells #[.slice d.live.a d.live.n d.live.k, .slice d.safe.a d.safe.n d.safe.k, .slice d.ops.a d.ops.n d.ops.k] 25)
  have A0 := Blk.new w (.cells #[.slice d.live.a d.live.n d.live.k, .slice d.safe.a d.safe.n d.safe.k, .slice d.ops.a d.ops.n d.ops.k] 25)
  have HK := hid hd
  have C1 := hid (szDisk_any d 1048576 _ (hd.below hb0) (by omega) (by omega))
  unfold DiskV.val at C1
  unfold DiskV.val
  obtain ⟨x0, x1, x2⟩ := A0.three
  clear hd
  unfold maxLen at hz
  by_cases ts : s.size ≤ 1048576
  case neg =>
    have ts' : (1048576 : Int) < (s.size : Int) := by omega
    clear C1
    go_enter Try.func4, Try.ntmps4
    go_wp2
    go_ret
    exact ⟨rfl, hb0⟩
  have ts' : ¬ (1048576 : Int) < (s.size : Int) := by omega
  go_enter Try.func4, Try.ntmps4
  go_wp2_with fail
  refine C1.out.mono ?_
  rintro e w1 ⟨r, rfl, hr, hb1⟩
  have A1 := A0.below hb1
  have B1 := then_ hb0 hb1
  clear x0 x1 x2 C1 A0 hb0 hb1
  obtain ⟨x0, x1, x2⟩ := A1.three
  rcases hr with rfl | ⟨r0, r1⟩
  · go_wp2
    go_ret
    exact ⟨rfl, B1⟩
  have hs : d.sz ≤ 1048576 := by omega
  have HS := hid hs
  have SM := hid (DiskV.small_of hs)
  clear hs
  have r2 : ¬ r < 0 := by omega
  have C2 := hid (toDisk_any d w1 (HK.out.below B1) SM.out)
  unfold DiskV.val at C2
  go_wp2_with fail
  refine C2.out.mono ?_
  rintro e w2 ⟨x, y, z, rfl, row1, hb2⟩
  have A2 := A1.below hb2
  have B2 := then_ B1 hb2
  have C3 : Hid (Calls Try.prog 10 #[.agg #[.slice (some ⟨x, 0, none⟩) d.live.n d.live.n, .slice (some ⟨y, 0, none⟩) d.safe.n d.safe.n, .slice (some ⟨z, 0, none⟩) d.ops.n d.ops.n], .string s] w2 fun e w' => e = .returned (.tuple #[.string ((readD d s).getD ⟨#[]⟩), .bool (readD d s).isSome]) ∧ Below w2.heap.size w2 w') := hid (specRead_any (d.own x y z) s w2 (row1.at HK.out) HS.out)
  unfold DiskV.own
  clear x0 x1 x2 C2 A1 B1 hb2
  go_wp2_with fail
  refine C3.out.mono ?_
  rintro e w3 ⟨rfl, hb3⟩
  have A3 := A2.below hb3
  have B3 := then_ B2 hb3
  clear C3 A2 B2 hb3 row1
  obtain ⟨x0, x1, x2⟩ := A3.three
  have C4 := hid (toDisk_any d w3 (HK.out.below B3) SM.out)
  unfold DiskV.val DiskV.own at C4
  go_wp2_with fail
  refine C4.out.mono ?_
  rintro e w4 ⟨x', y', z', rfl, row2, hb4⟩
  have B4 := then_ B3 hb4
  have bx : Below w4.heap.size w4 (w4.alloc (.cells #[.slice (some ⟨x', 0, none⟩) d.live.n d.live.n, .slice (some ⟨y', 0, none⟩) d.safe.n d.safe.n, .slice (some ⟨z', 0, none⟩) d.ops.n d.ops.n] 31)) := (Below.refl _ w4).alloc (Nat.le_refl _) _
  have AX := Blk.new w4 (.cells #[.slice (some ⟨x', 0, none⟩) d.live.n d.live.n, .slice (some ⟨y', 0, none⟩) d.safe.n d.safe.n, .slice (some ⟨z', 0, none⟩) d.ops.n d.ops.n] 31)
  have A4 := (A3.below hb4).below bx
  have B5 := then_ B4 bx
  have row3 := row2.below bx
  have C5 : Hid (Calls Try.prog 11 #[.agg #[.slice (some ⟨x', 0, none⟩) d.live.n d.live.n, .slice (some ⟨y', 0, none⟩) d.safe.n d.safe.n, .slice (some ⟨z', 0, none⟩) d.ops.n d.ops.n], .string s] (w4.alloc (.cells #[.slice (some ⟨x', 0, none⟩) d.live.n d.live.n, .slice (some ⟨y', 0, none⟩) d.safe.n d.safe.n, .slice (some ⟨z', 0, none⟩) d.ops.n d.ops.n] 31)) fun e w' => e = .returned (.tuple #[.string ((readD d s).getD ⟨#[]⟩), .bool (readD d s).isSome]) ∧ Below (w4.alloc (.cells #[.slice (some ⟨x', 0, none⟩) d.live.n d.live.n, .slice (some ⟨y', 0, none⟩) d.safe.n d.safe.n, .slice (some ⟨z', 0, none⟩) d.ops.n d.ops.n] 31)).heap.size (w4.alloc (.cells #[.slice (some ⟨x', 0, none⟩) d.live.n d.live.n, .slice (some ⟨y', 0, none⟩) d.safe.n d.safe.n, .slice (some ⟨z', 0, none⟩) d.ops.n d.ops.n] 31)) w') := hid (implRead_any (d.own x' y' z') s _ (row3.at HK.out) HS.out)
  clear x0 x1 x2 C4 A3 B3 hb4 B4
  go_wp2_with fail
  refine C5.out.mono ?_
  rintro e w5 ⟨rfl, hb5⟩
  have X5 := AX.below hb5
  have A5 := A4.below hb5
  have B6 := then_ B5 hb5
  have row5 := row3.below hb5
  clear C5 AX A4 B5 hb5 row3 bx row2
  generalize (readD d s).getD ⟨#[]⟩ = R1 at *
  generalize (readD d s).isSome = R2 at *
  have Xd : Blk w5.drew w4.heap.size (.cells #[.slice (some ⟨x', 0, none⟩) d.live.n d.live.n, .slice (some ⟨y', 0, none⟩) d.safe.n d.safe.n, .slice (some ⟨z', 0, none⟩) d.ops.n d.ops.n] 31) := X5
  have Ad : Blk w5.drew w.heap.size (.cells #[.slice d.live.a d.live.n d.live.k, .slice d.safe.a d.safe.n d.safe.k, .slice d.ops.a d.ops.n d.ops.k] 25) := A5
  have C6 := hid (toDisk_any d w5.drew (HK.out.below B6.drew) SM.out)
  have C7 : Hid (∀ (a b c : Nat) (W : World), Below w5.drew.heap.size w5.drew W → d.row W a b c → Calls Try.prog 9 #[.agg #[.slice (some ⟨x', 0, none⟩) d.live.n d.live.n, .slice (some ⟨y', 0, none⟩) d.safe.n d.safe.n, .slice (some ⟨z', 0, none⟩) d.ops.n d.ops.n], .agg #[.slice (some ⟨a, 0, none⟩) d.live.n d.live.n, .slice (some ⟨b, 0, none⟩) d.safe.n d.safe.n, .slice (some ⟨c, 0, none⟩) d.ops.n d.ops.n]] W fun e w' => e = .returned (.bool true) ∧ Below W.heap.size W w') := hid (fun a b c W hW hr => eqDisk_v d x' y' z' a b c W SM.out ((show d.row w5.drew x' y' z' from row5).below hW) hr)
  unfold DiskV.val DiskV.own at C6
  obtain ⟨x0, x1, x2⟩ := A5.three
  obtain ⟨u0, u1, u2⟩ := X5.three
  clear X5 A5
  go_wp2_with fail
  go_region_held3 (fun w' => w'.cell? ⟨w4.heap.size, 0, none⟩ = some (.slice (some ⟨x', 0, none⟩) d.live.n d.live.n) ∧ w'.cell? ⟨w4.heap.size, 1, none⟩ = some (.slice (some ⟨y', 0, none⟩) d.safe.n d.safe.n) ∧ w'.cell? ⟨w4.heap.size, 2, none⟩ = some (.slice (some ⟨z', 0, none⟩) d.ops.n d.ops.n) ∧ w'.cell? ⟨w.heap.size, 0, none⟩ = some (.slice d.live.a d.live.n d.live.k) ∧ w'.cell? ⟨w.heap.size, 1, none⟩ = some (.slice d.safe.a d.safe.n d.safe.k) ∧ w'.cell? ⟨w.heap.size, 2, none⟩ = some (.slice d.ops.a d.ops.n d.ops.k)) (first | go_keep | (simp only [*, and_self]))
    (first
      | (go_at_call 7; refine C6.out.mono ?_; rintro e w7 ⟨a, b, c, rfl, row7, hb7⟩; obtain ⟨p0, p1, p2⟩ := (Ad.below hb7).three; obtain ⟨q0, q1, q2⟩ := (Xd.below hb7).three)
      | (go_at_call 9; refine (C7.out a b c w7 hb7 row7).mono ?_; rintro e w8 ⟨rfl, hb8⟩; obtain ⟨i0, i1, i2⟩ := ((Ad.below hb7).below hb8).three; obtain ⟨j0, j1, j2⟩ := ((Xd.below hb7).below hb8).three))
  have B8 : Below w.heap.size w w8 := then_ (then_ B6.drew hb7) hb8
  clear p0 p1 p2 q0 q1 q2 i0 i1 i2 j0 j1 j2 x0 x1 x2 u0 u1 u2 Ad Xd C6 C7
  go_wp2
  go_ret
  exact ⟨rfl, B8⟩
end Go.Proofs.Ytncjkdfjafckhaa
