/- ObjectOf: the walk: the law answers true at every kernel and number that came in, and writes nothing that was there. -/
import Derived.Test.YtonpoakimpoojaaKO6
import Derived.Test.YtonpoakimpoojaaKM3
namespace Go.Proofs.Ytonpoakimpoojaa
open Go Go.RowKit Go.Deep Go.Maps

set_option maxRecDepth 100000 in
set_option maxHeartbeats 8000000 in
theorem exactObjectOf_walk (k : KerV) (x : Int) (w : World) (hk : k.at w) (hw : k.wfs) (hx : (Lit.int .i64 x).wf = true) :
    Calls Try.prog 4 #[k.val, .int .i64 x] w fun e w' => e = .returned (.bool true) ∧ Below w.heap.size w w' := by
  have hb0 := (Below.refl _ w).alloc (Nat.le_refl _) (.cells k.cells 25)
  have A0 := Blk.new w (.cells k.cells 25)
  have HK := hid hk
  have HW := hid hw
  have HX := hid hx
  have T0 := hid (hk.below hb0)
  unfold KerV.cells at hb0 A0
  have C1 := hid (szKernel_any k 1048576 _ (by omega) (by omega) T0.out)
  unfold KerV.val at C1
  unfold KerV.cells at C1
  unfold KerV.val
  obtain ⟨x0, x1⟩ := A0.two
  clear hk hw hx
  go_enter Try.func4, Try.ntmps4
  go_wp2_with fail
  refine C1.out.mono ?_
  rintro e w1 ⟨r, rfl, hr, hb1⟩
  have A1 := A0.below hb1
  have B1 := then_ hb0 hb1
  clear x0 x1 C1 T0 A0 hb0 hb1
  obtain ⟨x0, x1⟩ := A1.two
  rcases hr with rfl | ⟨r0, r1, hs⟩
  · go_wp2
    go_ret
    exact ⟨rfl, B1⟩
  have HS := hid hs
  clear hs
  have r2 : ¬ r < 0 := by omega
  obtain ⟨R, hR⟩ : ∃ R, R = theO k x := ⟨_, rfl⟩
  obtain ⟨F, hF⟩ : ∃ F, F = (objL k x).isSome := ⟨_, rfl⟩
  have RS : Hid R.small := hid (by rw [hR]; exact theO_small HS.out)
  have SPEC : Hid (∀ (l : KerV) (W : World), k.same l → l.row W → Calls Try.prog 13 #[l.val, .int .i64 x] W fun e w' => ∃ g : ObjV, e = .returned (.tuple #[.agg g.cells', .bool F]) ∧ R.same g ∧ g.new W.heap.size w' ∧ Below W.heap.size W w') := hid (fun l W s hr => by
    refine (specObjectOf_any l x W (hr.at (s.small HS.out)) (s.small HS.out) (fun i hi => ((s.wfs HW.out) i hi).1)).mono ?_
    rintro e w' ⟨g, rfl, h1, h2, h3⟩
    exact ⟨g, by rw [objL_same s, ← hF]; rfl, by rw [hR]; exact (theO_same s).up' h1, h2, h3⟩)
  have IMPL : Hid (∀ (l : KerV) (W : World), k.same l → l.ok = l.on → l.row W → Calls Try.prog 14 #[l.val, .int .i64 x] W fun e w' => ∃ g : ObjV, e = .returned (.tuple #[.agg g.cells', .bool F]) ∧ R.same g ∧ g.new W.heap.size w' ∧ g.apart ∧ Below W.heap.size W w') := hid (fun l W s ho hr => by
    refine (implObjectOf_any l x W (hr.at (s.small HS.out)) (s.small HS.out) (by rw [ho]; exact Nat.le_refl _) (s.wfs HW.out) HX.out).mono ?_
    rintro e w' ⟨g, rfl, h1, h2, h3, h4⟩
    exact ⟨g, by rw [objL_same s, ← hF]; rfl, by rw [hR]; exact (theO_same s).up' h1, h2, h3, h4⟩)
  clear hR hF
  unfold KerV.val at SPEC IMPL
  unfold ObjV.cells' at SPEC IMPL
  have C2 := hid (toKernel_any k w1 (HK.out.below B1) HS.out)
  unfold KerV.val at C2
  go_wp2_with fail
  refine C2.out.mono ?_
  rintro e w2 ⟨l1, rfl, s1, c1, ⟨row1, _⟩, hb2⟩
  clear c1
  have A2 := A1.below hb2
  have B2 := then_ B1 hb2
  have C3 := hid (SPEC.out l1 w2 s1 row1)
  clear x0 x1 C2 A1 B1 hb2
  go_wp2_with fail
  refine C3.out.mono ?_
  rintro e w3 ⟨g0, rfl, s3, n3, hb3⟩
  have S0 := hid s3
  clear s3
  have by3 : Below w3.heap.size w3 (w3.alloc (.cells g0.cells' 41)) := (Below.refl _ w3).alloc (Nat.le_refl _) _
  have Y3 := Blk.new w3 (.cells g0.cells' 41)
  have A3 := (A2.below hb3).below by3
  have B3 := then_ (then_ B2 hb3) by3
  have N3 := hid (n3.below by3)
  have Q3 := hid (n3.lt)
  unfold ObjV.cells' at by3 Y3 A3 B3 N3
  clear C3 A2 B2 hb3 row1 s1
  obtain ⟨x0, x1⟩ := A3.two
  have C4 := hid (toKernel_any k _ (HK.out.below B3) HS.out)
  unfold KerV.val at C4
  clear n3
  go_wp2_with fail
  refine C4.out.mono ?_
  rintro e w4 ⟨l2, rfl, s2, c2, ⟨row2, sin2⟩, hb4⟩
  have hsz : (w3.alloc (Obj.cells #[Value.int IntKind.i64 g0.id, Value.int IntKind.i64 g0.kind, Value.int IntKind.i64 g0.up, Value.int IntKind.i64 g0.b1, Value.slice g0.c1.a g0.c1.n g0.c1.k, Value.string g0.data, Value.slice g0.items.a g0.items.n g0.items.k, Value.slice g0.own.a g0.own.n g0.own.k, Value.int IntKind.i64 g0.b2, Value.slice g0.c2.a g0.c2.n g0.c2.k] 41)).heap.size = w3.heap.size + 1 := by simp
  generalize hW3 : w3.alloc (Obj.cells #[Value.int IntKind.i64 g0.id, Value.int IntKind.i64 g0.kind, Value.int IntKind.i64 g0.up, Value.int IntKind.i64 g0.b1, Value.slice g0.c1.a g0.c1.n g0.c1.k, Value.string g0.data, Value.slice g0.items.a g0.items.n g0.items.k, Value.slice g0.own.a g0.own.n g0.own.k, Value.int IntKind.i64 g0.b2, Value.slice g0.c2.a g0.c2.n g0.c2.k] 41) = W3 at *
  clear hW3
  have HC2 := hid c2
  clear c2 by3 x0 x1 C4
  have B4 := then_ B3 hb4
  have ROOM := hid (row2.room (s2.small HS.out) sin2)
  have bx : Below w4.heap.size w4 (w4.alloc (.cells l2.cells 31)) := (Below.refl _ w4).alloc (Nat.le_refl _) _
  have AX := Blk.new w4 (.cells l2.cells 31)
  have A4 := (A3.below hb4).below bx
  have Y4 := (Y3.below hb4).below bx
  have B5 := then_ B4 bx
  have N5 := hid ((N3.out.below hb4).below bx)
  have row3 := row2.below bx
  have C5 := hid (IMPL.out l2 _ s2 HC2.out row3)
  have E4 : Hid (Below w4.heap.size w4 (w4.alloc (.cells l2.cells 31))) := hid bx
  have sz := B3.size
  have szl := A3.lt
  have lo4 := hb4.size
  unfold KerV.cells at C5 bx AX A4 Y4 B5 row3 N5 E4
  clear A3 Y3 B4 sin2 N3 B3 hb4
  go_wp2_with fail
  refine C5.out.mono ?_
  rintro e w5 ⟨g1, rfl, s5, n5, ap5, hb5⟩
  have S1 := hid s5
  have AP := hid ap5
  have bz : Below w5.heap.size w5 (w5.alloc (.cells g1.cells' 41)) := (Below.refl _ w5).alloc (Nat.le_refl _) _
  have Z5 := Blk.new w5 (.cells g1.cells' 41)
  have hb6 := then_ hb5 bz
  have X5 := AX.below hb6
  have A5 := A4.below hb6
  have Y5 := Y4.below hb6
  have B6 := then_ B5 hb6
  have row5 := row3.below hb6
  have O6 := hid (N5.out.below hb6)
  have G6 := hid (n5.below bz)
  have E5 := hid (then_ E4.out hb6)
  have VG : Hid (∀ b, g1.has b → w4.heap.size < b) := hid (fun b hb => by have := n5.since b hb; simp at this; omega)
  have zl : w4.heap.size < w5.heap.size := by have := hb5.size; simp at this; omega
  have EQ : Hid (∀ (W : World) (g : ObjV) (B B' : Nat), R.same g → g.new B W → g0.new B' W → Calls Try.prog 15 #[.agg g.cells', .agg g0.cells'] W fun e w' => e = .returned (.bool true) ∧ Below W.heap.size W w') := hid (fun W g B B' s n n' => eqObject_v g g0 W (n.at (s.small RS.out)) (n'.at (S0.out.small RS.out)) (s.trans' S0.out))
  unfold ObjV.cells' at Z5 X5 A5 Y5 B6 row5 O6 G6 E5 EQ
  clear C5 AX A4 Y4 B5 hb5 row3 bx row2 N5 n5 E4 hb6 bz s5 ap5
  obtain ⟨y0, y1, y2, y3, y4, y5, y6, y7, y8, y9⟩ := Y5.ten
  obtain ⟨z0, z1, z2, z3, z4, z5, z6, z7, z8, z9⟩ := Z5.ten
  have C6 := hid (EQ.out _ g1 _ _ S1.out G6.out O6.out)
  go_wp2_with fail
  refine C6.out.mono ?_
  rintro e w6 ⟨rfl, hb6⟩
  clear y0 y1 y2 y3 y4 y5 y6 y7 y8 y9 z0 z1 z2 z3 z4 z5 z6 z7 z8 z9 C6
  have X6 := X5.below hb6
  have A6 := A5.below hb6
  have Y6 := Y5.below hb6
  have Z6 := Z5.below hb6
  have B7 := then_ B6 hb6
  have row6 := row5.below hb6
  have O7 := hid (O6.out.below hb6)
  have G7 := hid (G6.out.below hb6)
  have E6 := hid (then_ E5.out hb6)
  clear X5 A5 Y5 Z5 B6 row5 O6 G6 hb6 E5
  have Xd : Blk w6.drew w4.heap.size (.cells #[.slice l2.ta l2.tn l2.tk, .slice l2.oa l2.on l2.ok] 31) := X6
  have Ad : Blk w6.drew w.heap.size (.cells #[.slice k.ta k.tn k.tk, .slice k.oa k.on k.ok] 25) := A6
  have C6 := hid (toKernel_any k w6.drew (HK.out.below B7.drew) HS.out)
  have C7 : Hid (∀ (m : KerV) (W : World), Below w6.drew.heap.size w6.drew W → k.same m → m.row W → Calls Try.prog 12 #[l2.val, m.val] W fun e w' => e = .returned (.bool true) ∧ Below W.heap.size W w') := hid (fun m W hW hm hr => eqKernel_v l2 m W ((show l2.row w6.drew from row6).below hW |>.at (s2.small HS.out)) (hr.at (hm.small HS.out)) (s2.trans' hm))
  unfold KerV.val at C6 C7
  have HY6 := hid Y6
  have HZ6 := hid Z6
  obtain ⟨x0, x1⟩ := A6.two
  obtain ⟨u0, u1⟩ := X6.two
  clear X6 A6 Y6 Z6
  go_wp2_with fail
  go_region_held3 (fun w' => w'.cell? ⟨w4.heap.size, 0, none⟩ = some (.slice l2.ta l2.tn l2.tk) ∧ w'.cell? ⟨w4.heap.size, 1, none⟩ = some (.slice l2.oa l2.on l2.ok) ∧ w'.cell? ⟨w.heap.size, 0, none⟩ = some (.slice k.ta k.tn k.tk) ∧ w'.cell? ⟨w.heap.size, 1, none⟩ = some (.slice k.oa k.on k.ok)) (first | go_keep | (simp only [*, and_self]))
    (first
      | (go_at_call 10; refine C6.out.mono ?_; rintro e w7 ⟨l3, rfl, s3, c3, ⟨row7, _⟩, hb7⟩; clear c3; obtain ⟨p0, p1⟩ := (Ad.below hb7).two; obtain ⟨q0, q1⟩ := (Xd.below hb7).two)
      | (go_at_call 12; refine (C7.out l3 w7 hb7 s3 row7).mono ?_; rintro e w8 ⟨rfl, hb8⟩; obtain ⟨i0, i1⟩ := ((Ad.below hb7).below hb8).two; obtain ⟨j0, j1⟩ := ((Xd.below hb7).below hb8).two))
  have D8 : Below w6.drew.heap.size w6.drew w8 := then_ hb7 hb8
  have B8 : Below w.heap.size w w8 := then_ B7.drew D8
  have X8 := Xd.below D8
  have A8 := Ad.below D8
  have Y8 := hid (Blk.below (W := w6.drew) HY6.out D8)
  have Z8 := hid (Blk.below (W := w6.drew) HZ6.out D8)
  have O8 := hid (ObjV.new.below (w := w6.drew) O7.out D8)
  have G8 := hid (ObjV.new.below (w := w6.drew) G7.out D8)
  have E8 := hid (then_ (w := w4) (a := w6.drew) E6.out.drew D8)
  clear p0 p1 q0 q1 i0 i1 j0 j1 x0 x1 u0 u1 Ad Xd C6 C7 hb7 hb8 row6 row7 s3 D8 B7 O7 G7 E6 HY6 HZ6
  have R8 : Hid (l2.room W3.heap.size w4.heap.size w8) := hid ⟨ROOM.out.1.mkL (MkL.of_below E8.out), ROOM.out.2.mkL (MkL.of_below E8.out)⟩
  have C9 := hid (markKernel_k l2 W3.heap.size w4.heap.size w8 R8.out E8.out.size)
  unfold KerV.val at C9
  obtain ⟨u0, u1⟩ := X8.two
  go_wp2_with fail
  refine C9.out.mono ?_
  rintro e w9 ⟨k9, rfl, k91, m9⟩
  have B9 := Mk.below B8 m9 sz
  have A9 : Blk w9 w.heap.size (.cells #[.slice k.ta k.tn k.tk, .slice k.oa k.on k.ok] 25) := (m9.block _ A8.lt (.inl szl)).trans A8
  have Y9 := hid ((m9.block _ Y8.out.lt (.inl (by omega))).trans Y8.out)
  have Z9 := hid ((m9.block _ Z8.out.lt (.inr (by omega))).trans Z8.out)
  have O9 := hid (O8.out.mk m9 (fun g hg => .inl (by have := Q3.out g hg; omega)))
  have G9 := hid (G8.out.mk m9 (fun g hg => .inr (by have := VG.out g hg; omega)))
  have k92 : ¬ k9 < 0 := by omega
  clear u0 u1 X8 A8 Y8 Z8 O8 G8 E8 R8 C9 m9 B8 ROOM
  have BY9 : Blk w9 w3.heap.size (.cells g0.cells' 41) := Y9.out
  have BZ9 : Blk w9 w5.heap.size (.cells g1.cells' 41) := Z9.out
  clear Y9 Z9
  unfold ObjV.cells' at BY9 BZ9
  obtain ⟨y0, y1, y2, y3, y4, y5, y6, y7, y8, y9⟩ := BY9.ten
  obtain ⟨z0, z1, z2, z3, z4, z5, z6, z7, z8, z9⟩ := BZ9.ten
  have C10 := hid (EQ.out _ g1 _ _ S1.out G9.out O9.out)
  go_wp2_with fail
  refine C10.out.mono ?_
  rintro e w10 ⟨rfl, hb10⟩
  clear y0 y1 y2 y3 y4 y5 y6 y7 y8 y9 z0 z1 z2 z3 z4 z5 z6 z7 z8 z9 C10
  have B10 := then_ B9 hb10
  have A10 := A9.below hb10
  have Y10 := BY9.below hb10
  have Z10 := BZ9.below hb10
  have O10 := hid (O9.out.below hb10)
  have G10 := hid (G9.out.below hb10)
  clear B9 A9 BY9 BZ9 O9 G9 hb10
  have GS : Hid g1.small := hid (S1.out.small RS.out)
  have C11 := hid (markObject_r g1 _ w10 G10.out AP.out GS.out)
  have C12 : Hid (∀ W, MarkedO g1 W → Calls Try.prog 18 #[g1.val, .int .i64 1] W fun e w' => e = .returned (.int .i64 (1 + 2 * g1.c1.n + g1.items.n + g1.own.n + 2 * g1.c2.n)) ∧ Below W.heap.size W w') := hid (fun W h => heldObject_r g1 W h GS.out)
  unfold ObjV.val CatL.val IntL.val StrL.val at C11 C12
  obtain ⟨z0, z1, z2, z3, z4, z5, z6, z7, z8, z9⟩ := Z10.ten
  go_wp2_with fail
  refine C11.out.mono ?_
  rintro e w11 ⟨rfl, m11, t11⟩
  clear z0 z1 z2 z3 z4 z5 z6 z7 z8 z9 C11
  have B11 := Touched.below B10 t11 (fun b hb => by have := VG.out b hb; omega)
  have A11 := t11.blk A10 (G10.out.box A10 (by decide) (by decide) (by decide))
  have Y11 := t11.blk Y10 (G10.out.box Y10 (by decide) (by decide) (by decide))
  have Z11 := t11.blk Z10 (G10.out.box Z10 (by decide) (by decide) (by decide))
  have O11 := hid (O10.out.of t11.size (fun b hb => t11.block b (O10.out.lt b hb) (fun h => by have h1 := VG.out b h; have h2 := Q3.out b hb; omega)))
  have M11 := hid m11
  clear B10 A10 Y10 Z10 O10 G10 t11 m11
  obtain ⟨z0, z1, z2, z3, z4, z5, z6, z7, z8, z9⟩ := Z11.ten
  have C13 := hid (C12.out w11 M11.out)
  go_wp2_with fail
  refine C13.out.mono ?_
  rintro e w12 ⟨rfl, hb12⟩
  clear z0 z1 z2 z3 z4 z5 z6 z7 z8 z9 C13
  have nn : ¬ (1 : Int) + 2 * (g1.c1.n : Int) + (g1.items.n : Int) + (g1.own.n : Int) + 2 * (g1.c2.n : Int) < 0 := by omega
  have B12 := then_ B11 hb12
  have A12 := A11.below hb12
  have Y12 := Y11.below hb12
  have Z12 := Z11.below hb12
  have O12 := hid (O11.out.below hb12)
  have M12 := hid (M11.out.below hb12)
  clear B11 A11 Y11 Z11 O11 M11 hb12
  obtain ⟨x0, x1⟩ := A12.two
  have C14 := hid (toKernel_any k w12 (HK.out.below B12) HS.out)
  unfold KerV.val at C14
  go_wp2_with fail
  refine C14.out.mono ?_
  rintro e w13 ⟨l4, rfl, s4, c4, ⟨row13, _⟩, hb13⟩
  have C15 := hid (IMPL.out l4 w13 s4 c4 row13)
  clear c4 s4 x0 x1 C14
  have B13 := then_ B12 hb13
  have Y13 := Y12.below hb13
  have Z13 := Z12.below hb13
  have O13 := hid (O12.out.below hb13)
  have M13 := hid (M12.out.below hb13)
  clear B12 A12 Y12 Z12 O12 M12 hb13
  go_wp2_with fail
  refine C15.out.mono ?_
  rintro e w14 ⟨g2, rfl, s14, n14, _, hb14⟩
  have bv : Below w14.heap.size w14 (w14.alloc (.cells g2.cells' 41)) := (Below.refl _ w14).alloc (Nat.le_refl _) _
  have V14 := Blk.new w14 (.cells g2.cells' 41)
  have hbv := then_ hb14 bv
  have B14 := then_ B13 hbv
  have Y14 := Y13.below hbv
  have Z14 := Z13.below hbv
  have O14 := hid (O13.out.below hbv)
  have M14 := hid (M13.out.below hbv)
  have G14 := hid (n14.below bv)
  have S14 := hid s14
  unfold ObjV.cells' at V14 B14 Y14 Z14 O14 M14 G14
  clear B13 Y13 Z13 O13 M13 C15 n14 hb14 row13 hbv bv s14
  obtain ⟨y0, y1, y2, y3, y4, y5, y6, y7, y8, y9⟩ := Y14.ten
  obtain ⟨v0, v1, v2, v3, v4, v5, v6, v7, v8, v9⟩ := V14.ten
  have C16 := hid (EQ.out _ g2 _ _ S14.out G14.out O14.out)
  go_wp2_with fail
  refine C16.out.mono ?_
  rintro e w15 ⟨rfl, hb15⟩
  clear y0 y1 y2 y3 y4 y5 y6 y7 y8 y9 v0 v1 v2 v3 v4 v5 v6 v7 v8 v9 C16
  have B15 := then_ B14 hb15
  have Z15 := Z14.below hb15
  have M15 := hid (M14.out.below hb15)
  clear B14 M14 hb15 O14 G14 Y14 Z14 V14
  obtain ⟨z0, z1, z2, z3, z4, z5, z6, z7, z8, z9⟩ := Z15.ten
  have C17 := hid (C12.out w15 M15.out)
  go_wp2_with fail
  refine C17.out.mono ?_
  rintro e w16 ⟨rfl, hb16⟩
  have B16 := then_ B15 hb16
  clear z0 z1 z2 z3 z4 z5 z6 z7 z8 z9 C17 Z15
  go_wp2
  go_ret
  exact ⟨rfl, B16⟩
end Go.Proofs.Ytonpoakimpoojaa
