/- FnExactDiskOk: the walk. -/
import Derived.Test.YtncjkdfjafckhaaEF
namespace Go.Proofs.Ytncjkdfjafckhaa
open Go Go.RowKit Go.Deep Go.Maps

set_option maxRecDepth 100000 in
set_option maxHeartbeats 4000000 in
theorem exactDiskOk_walk (d : DiskV) (w : World) (hd : d.at w) :
    Calls Try.prog 3 #[d.val] w fun e w' => e = .returned (.bool true) ∧ Below w.heap.size w w' := by
  have hb0 := (Below.refl _ w).alloc (Nat.le_refl _) (.cells #[.slice d.live.a d.live.n d.live.k, .slice d.safe.a d.safe.n d.safe.k, .slice d.ops.a d.ops.n d.ops.k] 25)
  have A0 := Blk.new w (.cells #[.slice d.live.a d.live.n d.live.k, .slice d.safe.a d.safe.n d.safe.k, .slice d.ops.a d.ops.n d.ops.k] 25)
  have HK := hid hd
  have C1 := hid (szDisk_any d 1048576 _ (hd.below hb0) (by omega) (by omega))
  unfold DiskV.val at C1
  unfold DiskV.val
  obtain ⟨x0, x1, x2⟩ := A0.three
  clear hd
  go_enter Try.func3, Try.ntmps3
  go_wp2_with fail
  refine C1.out.mono ?_
  rintro e w1 ⟨r, rfl, hr, hb1⟩
  have A1 := A0.below hb1
  have B1 := then_ hb0 hb1
  clear x0 x1 x2 C1 A0 hb0 hb1
  obtain ⟨x0, x1, x2⟩ := A1.three
  rcases hr with rfl | ⟨r0, r1⟩
  · go_wp2
    go_ret
    exact ⟨rfl, B1⟩
  have hs : d.sz ≤ 1048576 := by omega
  have HS := hid hs
  have SM := hid (DiskV.small_of hs)
  clear hs
  have r2 : ¬ r < 0 := by omega
  have C2 := hid (toDisk_any d w1 (HK.out.below B1) SM.out)
  unfold DiskV.val at C2
  go_wp2_with fail
  refine C2.out.mono ?_
  rintro e w2 ⟨x, y, z, rfl, row1, hb2⟩
  have A2 := A1.below hb2
  have B2 := then_ B1 hb2
  have C3 : Hid (Calls Try.prog 6 #[.agg #[.slice (some ⟨x, 0, none⟩) d.live.n d.live.n, .slice (some ⟨y, 0, none⟩) d.safe.n d.safe.n, .slice (some ⟨z, 0, none⟩) d.ops.n d.ops.n]] w2 fun e w' => e = .returned (.bool (dkOk d)) ∧ Below w2.heap.size w2 w') := hid (specDisk_any (d.own x y z) w2 (row1.at HK.out) HS.out)
  unfold DiskV.own
  clear x0 x1 x2 C2 A1 B1 hb2
  go_wp2_with fail
  refine C3.out.mono ?_
  rintro e w3 ⟨rfl, hb3⟩
  have A3 := A2.below hb3
  have B3 := then_ B2 hb3
  clear C3 A2 B2 hb3 row1
  obtain ⟨x0, x1, x2⟩ := A3.three
  have C4 := hid (toDisk_any d w3 (HK.out.below B3) SM.out)
  unfold DiskV.val DiskV.own at C4
  go_wp2_with fail
  refine C4.out.mono ?_
  rintro e w4 ⟨x', y', z', rfl, row2, hb4⟩
  have B4 := then_ B3 hb4
  have bx : Below w4.heap.size w4 (w4.alloc (.cells #[.slice (some ⟨x', 0, none⟩) d.live.n d.live.n, .slice (some ⟨y', 0, none⟩) d.safe.n d.safe.n, .slice (some ⟨z', 0, none⟩) d.ops.n d.ops.n] 31)) := (Below.refl _ w4).alloc (Nat.le_refl _) _
  have AX := Blk.new w4 (.cells #[.slice (some ⟨x', 0, none⟩) d.live.n d.live.n, .slice (some ⟨y', 0, none⟩) d.safe.n d.safe.n, .slice (some ⟨z', 0, none⟩) d.ops.n d.ops.n] 31)
  have A4 := (A3.below hb4).below bx
  have B5 := then_ B4 bx
  have row3 := row2.below bx
  have C5 : Hid (Calls Try.prog 8 #[.agg #[.slice (some ⟨x', 0, none⟩) d.live.n d.live.n, .slice (some ⟨y', 0, none⟩) d.safe.n d.safe.n, .slice (some ⟨z', 0, none⟩) d.ops.n d.ops.n]] (w4.alloc (.cells #[.slice (some ⟨x', 0, none⟩) d.live.n d.live.n, .slice (some ⟨y', 0, none⟩) d.safe.n d.safe.n, .slice (some ⟨z', 0, none⟩) d.ops.n d.ops.n] 31)) fun e w' => e = .returned (.bool (dkOk d)) ∧ Below (w4.alloc (.cells #[.slice (some ⟨x', 0, none⟩) d.live.n d.live.n, .slice (some ⟨y', 0, none⟩) d.safe.n d.safe.n, .slice (some ⟨z', 0, none⟩) d.ops.n d.ops.n] 31)).heap.size (w4.alloc (.cells #[.slice (some ⟨x', 0, none⟩) d.live.n d.live.n, .slice (some ⟨y', 0, none⟩) d.safe.n d.safe.n, .slice (some ⟨z', 0, none⟩) d.ops.n d.ops.n] 31)) w') := hid (implDisk_any (d.own x' y' z') _ (row3.at HK.out) HS.out)
  clear x0 x1 x2 C4 A3 B3 hb4 B4
  go_wp2_with fail
  refine C5.out.mono ?_
  rintro e w5 ⟨rfl, hb5⟩
  have X5 := AX.below hb5
  have A5 := A4.below hb5
  have B6 := then_ B5 hb5
  have row5 := row3.below hb5
  clear C5 AX A4 B5 hb5 row3 bx row2
  generalize dkOk d = res at *
  have Xd : Blk w5.drew w4.heap.size (.cells #[.slice (some ⟨x', 0, none⟩) d.live.n d.live.n, .slice (some ⟨y', 0, none⟩) d.safe.n d.safe.n, .slice (some ⟨z', 0, none⟩) d.ops.n d.ops.n] 31) := X5
  have Ad : Blk w5.drew w.heap.size (.cells #[.slice d.live.a d.live.n d.live.k, .slice d.safe.a d.safe.n d.safe.k, .slice d.ops.a d.ops.n d.ops.k] 25) := A5
  have C6 := hid (toDisk_any d w5.drew (HK.out.below B6.drew) SM.out)
  have C7 : Hid (∀ (a b c : Nat) (W : World), Below w5.drew.heap.size w5.drew W → d.row W a b c → Calls Try.prog 9 #[.agg #[.slice (some ⟨x', 0, none⟩) d.live.n d.live.n, .slice (some ⟨y', 0, none⟩) d.safe.n d.safe.n, .slice (some ⟨z', 0, none⟩) d.ops.n d.ops.n], .agg #[.slice (some ⟨a, 0, none⟩) d.live.n d.live.n, .slice (some ⟨b, 0, none⟩) d.safe.n d.safe.n, .slice (some ⟨c, 0, none⟩) d.ops.n d.ops.n]] W fun e w' => e = .returned (.bool true) ∧ Below W.heap.size W w') := hid (fun a b c W hW hr => eqDisk_v d x' y' z' a b c W SM.out ((show d.row w5.drew x' y' z' from row5).below hW) hr)
  unfold DiskV.val DiskV.own at C6
  obtain ⟨x0, x1, x2⟩ := A5.three
  obtain ⟨u0, u1, u2⟩ := X5.three
  clear X5 A5
  go_wp2_with fail
  go_region_held3 (fun w' => w'.cell? ⟨w4.heap.size, 0, none⟩ = some (.slice (some ⟨x', 0, none⟩) d.live.n d.live.n) ∧ w'.cell? ⟨w4.heap.size, 1, none⟩ = some (.slice (some ⟨y', 0, none⟩) d.safe.n d.safe.n) ∧ w'.cell? ⟨w4.heap.size, 2, none⟩ = some (.slice (some ⟨z', 0, none⟩) d.ops.n d.ops.n) ∧ w'.cell? ⟨w.heap.size, 0, none⟩ = some (.slice d.live.a d.live.n d.live.k) ∧ w'.cell? ⟨w.heap.size, 1, none⟩ = some (.slice d.safe.a d.safe.n d.safe.k) ∧ w'.cell? ⟨w.heap.size, 2, none⟩ = some (.slice d.ops.a d.ops.n d.ops.k)) (first | go_keep | (simp only [*, and_self]))
    (first
      | (go_at_call 7; refine C6.out.mono ?_; rintro e w7 ⟨a, b, c, rfl, row7, hb7⟩; obtain ⟨p0, p1, p2⟩ := (Ad.below hb7).three; obtain ⟨q0, q1, q2⟩ := (Xd.below hb7).three)
      | (go_at_call 9; refine (C7.out a b c w7 hb7 row7).mono ?_; rintro e w8 ⟨rfl, hb8⟩; obtain ⟨i0, i1, i2⟩ := ((Ad.below hb7).below hb8).three; obtain ⟨j0, j1, j2⟩ := ((Xd.below hb7).below hb8).three))
  have B8 : Below w.heap.size w w8 := then_ (then_ B6.drew hb7) hb8
  clear p0 p1 p2 q0 q1 q2 i0 i1 i2 j0 j1 j2 x0 x1 x2 u0 u1 u2 Ad Xd C6 C7
  go_wp2
  go_ret
  exact ⟨rfl, B8⟩
end Go.Proofs.Ytncjkdfjafckhaa
