/- Under: the walk: the law answers true at every kernel and number that came in, and writes nothing that was there. -/
import Derived.Test.YtonpoakimpoojaaKU6
import Derived.Test.YtonpoakimpoojaaKD1
import Derived.Test.YtonpoakimpoojaaKN1
namespace Go.Proofs.Ytonpoakimpoojaa
open Go Go.RowKit Go.Deep Go.Maps

set_option maxRecDepth 100000 in
set_option maxHeartbeats 8000000 in
theorem exactUnder_walk (k : KerV) (x : Int) (w : World) (hk : k.at w) (hw : k.wfs) (hx : (Lit.int .i64 x).wf = true) :
    Calls Try.prog 7 #[k.val, .int .i64 x] w fun e w' => e = .returned (.bool true) ∧ Below w.heap.size w w' := by
  have hb0 := (Below.refl _ w).alloc (Nat.le_refl _) (.cells k.cells 25)
  have A0 := Blk.new w (.cells k.cells 25)
  have HK := hid hk
  have HW := hid hw
  have HX := hid hx
  have T0 := hid (hk.below hb0)
  unfold KerV.cells at hb0 A0
  have C1 := hid (szKernel_any k 1048576 _ (by omega) (by omega) T0.out)
  unfold KerV.val at C1
  unfold KerV.cells at C1
  unfold KerV.val
  obtain ⟨x0, x1⟩ := A0.two
  clear hk hw hx
  go_enter Try.func7, Try.ntmps7
  go_wp2_with fail
  refine C1.out.mono ?_
  rintro e w1 ⟨r, rfl, hr, hb1⟩
  have A1 := A0.below hb1
  have B1 := then_ hb0 hb1
  clear x0 x1 C1 T0 A0 hb0 hb1
  obtain ⟨x0, x1⟩ := A1.two
  rcases hr with rfl | ⟨r0, r1, hs⟩
  · go_wp2
    go_ret
    exact ⟨rfl, B1⟩
  have HS := hid hs
  clear hs
  have r2 : ¬ r < 0 := by omega
  obtain ⟨L, hL⟩ : ∃ L, L = underL k x := ⟨_, rfl⟩
  have LL : Hid (L.length ≤ 271) := hid (by rw [hL]; exact underL_len k x)
  have SPEC : Hid (∀ (l : KerV) (W : World), k.same l → l.row W → Calls Try.prog 29 #[l.val, .int .i64 x] W fun e w' => ∃ v, e = .returned v ∧ OwnI w' W.heap.size v L ∧ Below W.heap.size W w') := hid (fun l W s hr => by
    have := specUnder_any l x W (hr.at (s.small HS.out)) (fun i hi => ((s.wfs HW.out) i hi).1)
    rw [underL_same s, ← hL] at this
    exact this)
  have IMPL : Hid (∀ (l : KerV) (W : World), k.same l → l.ok = l.on → l.row W → Calls Try.prog 30 #[l.val, .int .i64 x] W fun e w' => ∃ v, e = .returned v ∧ OwnI w' W.heap.size v L ∧ Below W.heap.size W w') := hid (fun l W s ho hr => by
    have := implUnder_any l x W (hr.at (s.small HS.out)) (by rw [ho]; exact Nat.le_refl _) (s.wfs HW.out) HX.out
    rw [underL_same s, ← hL] at this
    exact this)
  clear hL
  unfold KerV.val at SPEC IMPL
  have C2 := hid (toKernel_any k w1 (HK.out.below B1) HS.out)
  unfold KerV.val at C2
  go_wp2_with fail
  refine C2.out.mono ?_
  rintro e w2 ⟨l1, rfl, s1, c1, ⟨row1, _⟩, hb2⟩
  clear c1
  have A2 := A1.below hb2
  have B2 := then_ B1 hb2
  have C3 := hid (SPEC.out l1 w2 s1 row1)
  clear x0 x1 C2 A1 B1 hb2
  go_wp2_with fail
  refine C3.out.mono ?_
  rintro e w3 ⟨v0, rfl, o3, hb3⟩
  have A3 := A2.below hb3
  have B3 := then_ B2 hb3
  have O3 := hid o3
  clear C3 A2 B2 hb3 row1 s1 o3
  obtain ⟨x0, x1⟩ := A3.two
  have C4 := hid (toKernel_any k w3 (HK.out.below B3) HS.out)
  unfold KerV.val at C4
  go_wp2_with fail
  refine C4.out.mono ?_
  rintro e w4 ⟨l2, rfl, s2, c2, ⟨row2, sin2⟩, hb4⟩
  have HC2 := hid c2
  clear c2
  have B4 := then_ B3 hb4
  have ROOM := hid (row2.room (s2.small HS.out) sin2)
  have bx : Below w4.heap.size w4 (w4.alloc (.cells l2.cells 31)) := (Below.refl _ w4).alloc (Nat.le_refl _) _
  have AX := Blk.new w4 (.cells l2.cells 31)
  have A4 := (A3.below hb4).below bx
  have B5 := then_ B4 bx
  have O5 := hid ((O3.out.below hb4).below bx)
  have row3 := row2.below bx
  have D5 := then_ hb4 bx
  have V0 : Hid (∀ g, v0.ownBlock = some g → g < w3.heap.size) := hid (fun g hg => (World.ownsRow.lt O3.out g hg).2)
  have C5 := hid (IMPL.out l2 _ s2 HC2.out row3)
  have E4 : Hid (Below w4.heap.size w4 (w4.alloc (.cells l2.cells 31))) := hid bx
  have sz := B3.size
  have szl := A3.lt
  unfold KerV.cells at C5 bx AX A4 B5 row3 O5 D5 E4
  clear x0 x1 C4 A3 B4 sin2 O3
  go_wp2_with fail
  refine C5.out.mono ?_
  rintro e w5 ⟨vg, rfl, o5, hb5⟩
  have X5 := AX.below hb5
  have A5 := A4.below hb5
  have B6 := then_ B5 hb5
  have row5 := row3.below hb5
  have O6 := hid (O5.out.below hb5)
  have G6 := hid o5
  have E5 := hid (then_ E4.out hb5)
  have VG : Hid (∀ g, vg.ownBlock = some g → w4.heap.size < g) := hid (fun g hg => by have := (World.ownsRow.lt o5 g hg).1; simp at this; omega)
  clear C5 AX A4 B5 hb5 row3 bx row2 O5 o5 D5 E4
  go_wp2_with fail
  refine (eqNum _ _ vg v0 L w5 G6.out O6.out (by have := LL.out; omega)).mono ?_
  rintro e w6 ⟨rfl, hb6⟩
  have X6 := X5.below hb6
  have A6 := A5.below hb6
  have B7 := then_ B6 hb6
  have row6 := row5.below hb6
  have O7 := hid (O6.out.below hb6)
  have G7 := hid (G6.out.below hb6)
  have E6 := hid (then_ E5.out hb6)
  clear X5 A5 B6 row5 O6 G6 hb6 E5
  have Xd : Blk w6.drew w4.heap.size (.cells #[.slice l2.ta l2.tn l2.tk, .slice l2.oa l2.on l2.ok] 31) := X6
  have Ad : Blk w6.drew w.heap.size (.cells #[.slice k.ta k.tn k.tk, .slice k.oa k.on k.ok] 25) := A6
  have C6 := hid (toKernel_any k w6.drew (HK.out.below B7.drew) HS.out)
  have C7 : Hid (∀ (m : KerV) (W : World), Below w6.drew.heap.size w6.drew W → k.same m → m.row W → Calls Try.prog 12 #[l2.val, m.val] W fun e w' => e = .returned (.bool true) ∧ Below W.heap.size W w') := hid (fun m W hW hm hr => eqKernel_v l2 m W ((show l2.row w6.drew from row6).below hW |>.at (s2.small HS.out)) (hr.at (hm.small HS.out)) (s2.trans' hm))
  unfold KerV.val at C6 C7
  obtain ⟨x0, x1⟩ := A6.two
  obtain ⟨u0, u1⟩ := X6.two
  clear X6 A6
  go_wp2_with fail
  go_region_held3 (fun w' => w'.cell? ⟨w4.heap.size, 0, none⟩ = some (.slice l2.ta l2.tn l2.tk) ∧ w'.cell? ⟨w4.heap.size, 1, none⟩ = some (.slice l2.oa l2.on l2.ok) ∧ w'.cell? ⟨w.heap.size, 0, none⟩ = some (.slice k.ta k.tn k.tk) ∧ w'.cell? ⟨w.heap.size, 1, none⟩ = some (.slice k.oa k.on k.ok)) (first | go_keep | (simp only [*, and_self]))
    (first
      | (go_at_call 10; refine C6.out.mono ?_; rintro e w7 ⟨l3, rfl, s3, c3, ⟨row7, _⟩, hb7⟩; clear c3; obtain ⟨p0, p1⟩ := (Ad.below hb7).two; obtain ⟨q0, q1⟩ := (Xd.below hb7).two)
      | (go_at_call 12; refine (C7.out l3 w7 hb7 s3 row7).mono ?_; rintro e w8 ⟨rfl, hb8⟩; obtain ⟨i0, i1⟩ := ((Ad.below hb7).below hb8).two; obtain ⟨j0, j1⟩ := ((Xd.below hb7).below hb8).two))
  have D8 : Below w6.drew.heap.size w6.drew w8 := then_ hb7 hb8
  have B8 : Below w.heap.size w w8 := then_ B7.drew D8
  have X8 := Xd.below D8
  have A8 := Ad.below D8
  have O8 := hid (OwnI.below (w := w6.drew) O7.out D8)
  have G8 := hid (OwnI.below (w := w6.drew) G7.out D8)
  have E8 := hid (then_ (w := w4) (a := w6.drew) E6.out.drew D8)
  clear p0 p1 q0 q1 i0 i1 j0 j1 x0 x1 u0 u1 Ad Xd C6 C7 hb7 hb8 row6 row7 s3 D8 B7 O7 G7 E6
  have R8 : Hid (l2.room w3.heap.size w4.heap.size w8) := hid ⟨ROOM.out.1.mkL (MkL.of_below E8.out), ROOM.out.2.mkL (MkL.of_below E8.out)⟩
  have C9 := hid (markKernel_k l2 w3.heap.size w4.heap.size w8 R8.out E8.out.size)
  unfold KerV.val at C9
  obtain ⟨u0, u1⟩ := X8.two
  go_wp2_with fail
  refine C9.out.mono ?_
  rintro e w9 ⟨k9, rfl, k91, m9⟩
  have B9 := Mk.below B8 m9 sz
  have A9 : Blk w9 w.heap.size (.cells #[.slice k.ta k.tn k.tk, .slice k.oa k.on k.ok] 25) := (m9.block _ A8.lt (.inl szl)).trans A8
  have O9 := hid (O8.out.mk m9 (fun g hg => .inl (V0.out g hg)))
  have G9 := hid (G8.out.mk m9 (fun g hg => .inr (by have := VG.out g hg; omega)))
  have k92 : ¬ k9 < 0 := by omega
  clear u0 u1 X8 A8 O8 G8 E8 R8 C9 m9 B8 ROOM
  go_wp2_with fail
  refine (eqNum _ _ vg v0 L w9 G9.out O9.out (by have := LL.out; omega)).mono ?_
  rintro e w10 ⟨rfl, hb10⟩
  have B10 := then_ B9 hb10
  have A10 := A9.below hb10
  have O10 := hid (O9.out.below hb10)
  have G10 := hid (G9.out.below hb10)
  clear B9 A9 O9 G9 hb10
  obtain ⟨ga, gc, eg⟩ := ownsRow_shape G10.out
  subst eg
  obtain ⟨gb, RI, hgb⟩ := RowI.of_own' G10.out
  have ln : L.length ≤ 1048576 := by have := LL.out; omega
  have C11 := hid (markInt64S_any ga gb L.length gc 1 w10 ln (by omega) (by omega) RI)
  have gne : Hid (∀ g, v0.ownBlock = some g → some g ≠ some gb) := hid (fun g hg e => by
    have h1 := V0.out g hg
    have h2 := Option.some.inj e
    have h3 := hb4.size
    have h4 : w4.heap.size < (w4.alloc (.cells l2.cells 31)).heap.size := by simp
    unfold KerV.cells at h4
    omega)
  go_wp2_with fail
  refine C11.out.mono ?_
  rintro e w11 ⟨rfl, g11, i11⟩
  have gbw : w.heap.size < gb := by
    have h4 : w4.heap.size < (w4.alloc (.cells l2.cells 31)).heap.size := by simp
    unfold KerV.cells at h4
    have := hb4.size
    omega
  have B11 : Below w.heap.size w w11 := B10.trans (below_grown g11 B10.size (fun j hj => by cases hj; omega))
  have A11 := A10.grown g11 (by simp; omega)
  have O11 := hid (OwnI.of_block O10.out (fun g hg => g11.block g (World.ownsRow.lt O10.out g hg).2 (gne.out g hg)))
  have I11 := hid i11
  clear B10 A10 O10 G10 C11 RI g11 i11 gne hgb
  have C12 := hid (fun W (h : IntsAt W ga L.length (mkI 1)) => heldInt64S_any ga L.length gc 1 W ln (by omega) (by omega) h)
  obtain ⟨x0, x1⟩ := A11.two
  go_wp2_with fail
  refine (C12.out w11 I11.out).mono ?_
  rintro e w12 ⟨rfl, rfl⟩
  have nn : ¬ (1 : Int) + (L.length : Int) < 0 := by omega
  have C13 := hid (toKernel_any k w12 (HK.out.below B11) HS.out)
  unfold KerV.val at C13
  go_wp2_with fail
  refine C13.out.mono ?_
  rintro e w13 ⟨l4, rfl, s4, c4, ⟨row13, _⟩, hb13⟩
  have C14 := hid (IMPL.out l4 w13 s4 c4 row13)
  clear c4 s4 x0 x1 C13
  have B13 := then_ B11 hb13
  have O13 := hid (O11.out.below hb13)
  have I13 := hid (I11.out.below hb13)
  clear B11 O11 I11 A11 hb13
  go_wp2_with fail
  refine C14.out.mono ?_
  rintro e w14 ⟨vh, rfl, o14, hb14⟩
  have B14 := then_ B13 hb14
  have O14 := hid (O13.out.below hb14)
  have I14 := hid (I13.out.below hb14)
  have G14 := hid o14
  clear B13 O13 I13 C14 o14 hb14 row13
  go_wp2_with fail
  refine (eqNum _ _ vh v0 L w14 G14.out O14.out (by have := LL.out; omega)).mono ?_
  rintro e w15 ⟨rfl, hb15⟩
  have B15 := then_ B14 hb15
  have I15 := hid (I14.out.below hb15)
  clear B14 I14 hb15 O14 G14
  go_wp2_with fail
  refine (C12.out w15 I15.out).mono ?_
  rintro e w16 ⟨rfl, rfl⟩
  go_wp2
  go_ret
  exact ⟨rfl, B15⟩
end Go.Proofs.Ytonpoakimpoojaa
