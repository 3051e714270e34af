/- FnExactDo: the walk. -/
import Derived.Test.YtcdhhmedcplblaaMJ
import Derived.Test.YtcdhhmedcplblaaMG
namespace Go.Proofs.Ytcdhhmedcplblaa
open Go Go.RowKit Go.Deep Go.Maps

theorem region_cut {P : Program} {c : Code} {Q : Exit → Act → World → Prop} {a : Act} {w : World} (R : Act → World → Prop) (h : c.wp P (fun e a' w' => e = .normal ∧ R a' w') a w) (k : ∀ a' w', R a' w' → Q .normal a' w') : c.wp P Q a w :=
  Code.wp_mono (fun e a w ⟨he, hr⟩ => by subst he; exact k a w hr) h
theorem AnsI.rowD' {w w0 : World} {B : Nat} {vl vs vo : Value} {L S : List FileV} {O : List OpV} (h : AnsI w B vl vs vo L S O) (h0 : AnsI w0 B vl vs vo L S O) : RowD w B w0.heap.size vl vs vo L.length S.length O.length :=
  ⟨h.l.rowF, h.s.rowF, h.o.rowO, h.ap, fun b hb => World.ownsRow.lt h0.l b hb, fun b hb => World.ownsRow.lt h0.s b hb, fun b hb => World.ownsRow.lt h0.o b hb⟩
theorem set3_below {B : Nat} {V W : World} {P : Nat} (h : Below B V W) (hP : B ≤ P) (x y z : Value) : Below B V (((W.setCell ⟨P, 0, none⟩ x).setCell ⟨P, 1, none⟩ y).setCell ⟨P, 2, none⟩ z) := ((h.setCell hP x).setCell hP y).setCell hP z
theorem doLens (d : DiskV) (o : OpV) (hs : d.small) : (doLi d o).length ≤ 4194304 ∧ (doSa d).length ≤ 4194304 ∧ (doOp d o).length ≤ 4194304 := by
  obtain ⟨n0, n1, n2⟩ := hs
  cases t : dkOk d with
  | false =>
    obtain ⟨_, h1, h2, h3⟩ := do_no (o := o) t
    rw [h1, h2, h3]
    exact ⟨Nat.zero_le _, Nat.zero_le _, Nat.zero_le _⟩
  | true =>
    obtain ⟨_, h1, h2, h3⟩ := do_yes (o := o) t
    rw [h1, h2, h3, toL_len]
    have hl : (actL d o).length ≤ 4194304 := by
      unfold actL
      split
      · have := doF_len (n := d.live.toL.length) (f := fileAt d.live.toL) (o := o)
        rw [toL_len] at this
        unfold nextL
        rw [toL_len]
        omega
      · rw [toL_len]; omega
    have ho' : (actO d o).length ≤ 4194304 := by
      unfold actO
      split
      · rw [List.length_append, OpL.toL_len]; simp; omega
      · rw [OpL.toL_len]; omega
    exact ⟨hl, by omega, ho'⟩

set_option maxRecDepth 100000 in
set_option maxHeartbeats 16000000 in
theorem exactDo_walk (d : DiskV) (o : OpV) (w : World) (hd : d.at w) (ho : o.wf) :
    Calls Try.prog 3 #[d.val, o.val] w fun e w' => e = .returned (.bool true) ∧ Below w.heap.size w w' := by
  obtain ⟨A0, Q0, hb0⟩ := two_boxes w (.cells #[.slice d.live.a d.live.n d.live.k, .slice d.safe.a d.safe.n d.safe.k, .slice d.ops.a d.ops.n d.ops.k] 25) (.cells #[.int .i64 o.kind, .string o.name, .string o.to, .string o.data] 27)
  have HK := hid hd
  have HO := hid ho
  have C1 := hid (szDisk_any d 1048576 _ (hd.below hb0) (by omega) (by omega))
  unfold DiskV.val at C1
  unfold DiskV.val OpV.val
  obtain ⟨x0, x1, x2⟩ := A0.three
  obtain ⟨y0, y1, y2, y3⟩ := Q0.four
  clear hd ho
  go_enter Try.func3, Try.ntmps3
  go_wp2_with fail
  refine C1.out.mono ?_
  rintro e w1 ⟨r, rfl, hr, hb1⟩
  have A1 := A0.below hb1
  have Q1 := Q0.below hb1
  have B1 := then_ hb0 hb1
  clear x0 x1 x2 y0 y1 y2 y3 C1 A0 Q0 hb0 hb1
  obtain ⟨x0, x1, x2⟩ := A1.three
  obtain ⟨y0, y1, y2, y3⟩ := Q1.four
  rcases hr with rfl | ⟨r0, r1⟩
  · go_wp2
    go_ret
    exact ⟨rfl, B1⟩
  have hs : d.sz ≤ 1048576 := by omega
  have rle : r ≤ 1048576 := by omega
  have HS := hid hs
  have SM := hid (DiskV.small_of hs)
  have r2 : ¬ r < 0 := by omega
  have C2 := hid (szDOp_any o r w1 HO.out r0 rle)
  unfold OpV.val at C2
  clear hs r1
  go_wp2_with fail
  refine C2.out.mono ?_
  rintro e w2 ⟨q, rfl, hr, hb1⟩
  have A2 := A1.below hb1
  have Q2 := Q1.below hb1
  have B2 := then_ B1 hb1
  clear x0 x1 x2 y0 y1 y2 y3 C2 A1 Q1 B1 hb1
  obtain ⟨x0, x1, x2⟩ := A2.three
  obtain ⟨y0, y1, y2, y3⟩ := Q2.four
  rcases hr with rfl | ⟨q0, q1⟩
  · go_wp2
    go_ret
    exact ⟨rfl, B2⟩
  have q2 : ¬ q < 0 := by omega
  have hz : o.data.size ≤ 1048576 := by unfold OpV.sz at q1; omega
  have HZ := hid hz
  have m1 : d.live.n ≤ 4194304 := by have := SM.out.1; omega
  have m2 : d.safe.n ≤ 4194304 := by have := SM.out.2.1; omega
  have m3 : d.ops.n ≤ 4194304 := by have := SM.out.2.2; omega
  obtain ⟨ml, ms, mo⟩ := doLens d o SM.out
  have C3 : Hid (∀ (x y z : Nat) (W : World), d.row W x y z → Calls Try.prog 9 #[.agg #[.slice (some ⟨x, 0, none⟩) d.live.n d.live.n, .slice (some ⟨y, 0, none⟩) d.safe.n d.safe.n, .slice (some ⟨z, 0, none⟩) d.ops.n d.ops.n], .agg #[.int .i64 o.kind, .string o.name, .string o.to, .string o.data]] W fun e w' => ∃ a b c k1 k2 k3, e = .returned (.tuple #[.agg #[.slice a (doLi d o).length k1, .slice b (doSa d).length k2, .slice c (doOp d o).length k3], .int .i64 (doC d o)]) ∧ AnsS w' W.heap.size (.slice a (doLi d o).length k1) (.slice b (doSa d).length k2) (.slice c (doOp d o).length k3) (doLi d o) (doSa d) (doOp d o) ∧ Below W.heap.size W w') := hid (fun x y z W h => (specDo_any (d.own x y z) o W (h.at HK.out) HS.out HO.out HZ.out).mono fun _ _ ⟨vl, vs, vo, h1, h2, h3⟩ => by
    obtain ⟨a, k1, rfl⟩ := h2.l.shape
    obtain ⟨b, k2, rfl⟩ := h2.s.shape
    obtain ⟨c, k3, rfl⟩ := h2.o.shape
    exact ⟨a, b, c, k1, k2, k3, h1, h2, h3⟩)
  have C5 : Hid (∀ (x y z : Nat) (W : World), d.row W x y z → Calls Try.prog 12 #[.agg #[.slice (some ⟨x, 0, none⟩) d.live.n d.live.n, .slice (some ⟨y, 0, none⟩) d.safe.n d.safe.n, .slice (some ⟨z, 0, none⟩) d.ops.n d.ops.n], .agg #[.int .i64 o.kind, .string o.name, .string o.to, .string o.data]] W fun e w' => ∃ a b c k1 k2 k3, e = .returned (.tuple #[.agg #[.slice a (doLi d o).length k1, .slice b (doSa d).length k2, .slice c (doOp d o).length k3], .int .i64 (doC d o)]) ∧ AnsI w' W.heap.size (.slice a (doLi d o).length k1) (.slice b (doSa d).length k2) (.slice c (doOp d o).length k3) (doLi d o) (doSa d) (doOp d o) ∧ Below W.heap.size W w') := hid (fun x y z W h => (implDo_any (d.own x y z) o W (h.at HK.out) HS.out HO.out HZ.out).mono fun _ _ ⟨vl, vs, vo, h1, h2, h3⟩ => by
    obtain ⟨a, k1, rfl⟩ := ownsRow_shape h2.l
    obtain ⟨b, k2, rfl⟩ := ownsRow_shape h2.s
    obtain ⟨c, k3, rfl⟩ := ownsRow_shape h2.o
    exact ⟨a, b, c, k1, k2, k3, h1, h2, h3⟩)
  have CT : Hid (∀ W, Below w.heap.size w W → Calls Try.prog 10 #[.agg #[.slice d.live.a d.live.n d.live.k, .slice d.safe.a d.safe.n d.safe.k, .slice d.ops.a d.ops.n d.ops.k]] W fun e w' => ∃ x y z, e = .returned (.agg #[.slice (some ⟨x, 0, none⟩) d.live.n d.live.n, .slice (some ⟨y, 0, none⟩) d.safe.n d.safe.n, .slice (some ⟨z, 0, none⟩) d.ops.n d.ops.n]) ∧ d.row w' x y z ∧ (W.heap.size ≤ x ∧ W.heap.size ≤ y ∧ W.heap.size ≤ z ∧ x ≠ y) ∧ Below W.heap.size W w') := hid (fun W hW => toDisk_since d W (HK.out.below hW) SM.out)
  have CP : Hid (∀ W, Calls Try.prog 11 #[.agg #[.int .i64 o.kind, .string o.name, .string o.to, .string o.data]] W fun e w' => e = .returned (.agg #[.int .i64 o.kind, .string o.name, .string o.to, .string o.data]) ∧ Below W.heap.size W w') := hid (fun W => toDOp_any o W)
  clear hz q1
  go_wp2_with fail
  refine region_cut (fun a' W => ∃ (PP sx sy sz : Nat) (sa sb sc : Option Addr) (sp sq sr : Nat), a' = ⟨#[Value.agg #[Value.slice d.live.a d.live.n d.live.k, Value.slice d.safe.a d.safe.n d.safe.k, Value.slice d.ops.a d.ops.n d.ops.k], Value.agg #[Value.int IntKind.i64 o.kind, Value.string o.name, Value.string o.to, Value.string o.data], Value.pointer (some { block := w.heap.size, off := 0 }), Value.pointer (some { block := w.heap.size + 1, off := 0 }), Value.bool false, Value.int IntKind.i64 q, .pointer (some ⟨PP, 0, none⟩), .int .i64 (doC d o), undef, undef, undef, undef, undef, undef, undef, undef, Value.agg #[Value.slice d.live.a d.live.n d.live.k, Value.slice d.safe.a d.safe.n d.safe.k, Value.slice d.ops.a d.ops.n d.ops.k], Value.int IntKind.i64 1048576, Value.int IntKind.i64 r, Value.int IntKind.i64 r, Value.bool (decide (r < 0)), Value.agg #[Value.int IntKind.i64 o.kind, Value.string o.name, Value.string o.to, Value.string o.data], Value.int IntKind.i64 r, Value.int IntKind.i64 q, Value.int IntKind.i64 q, Value.bool (decide (q < 0)), Value.tuple #[.agg #[.slice sa (doLi d o).length sp, .slice sb (doSa d).length sq, .slice sc (doOp d o).length sr], .int .i64 (doC d o)], Value.agg #[.slice d.live.a d.live.n d.live.k, .slice d.safe.a d.safe.n d.safe.k, .slice d.ops.a d.ops.n d.ops.k], Value.agg #[.slice (some ⟨sx, 0, none⟩) d.live.n d.live.n, .slice (some ⟨sy, 0, none⟩) d.safe.n d.safe.n, .slice (some ⟨sz, 0, none⟩) d.ops.n d.ops.n], Value.agg #[.int .i64 o.kind, .string o.name, .string o.to, .string o.data], Value.agg #[.int .i64 o.kind, .string o.name, .string o.to, .string o.data], Value.tuple #[.agg #[.slice sa (doLi d o).length sp, .slice sb (doSa d).length sq, .slice sc (doOp d o).length sr], .int .i64 (doC d o)], Value.agg #[.slice sa (doLi d o).length sp, .slice sb (doSa d).length sq, .slice sc (doOp d o).length sr], .int .i64 (doC d o), undef, undef, undef, undef, undef, undef, undef, undef, undef, undef, undef, undef, undef, undef, undef, undef, undef, undef, undef, undef, undef, undef, undef, undef, undef, undef, undef, undef, undef, undef, undef, undef, undef, undef, undef, undef, undef, undef, undef, undef, undef, undef, undef, undef, undef, undef, undef, undef, undef, undef, undef, undef, undef, undef, undef, undef, undef, undef, undef, undef, undef, undef, undef, undef, undef, undef, undef, undef, undef, undef, undef, undef, undef, undef, undef], []⟩ ∧ Blk W PP (.cells #[.slice sa (doLi d o).length sp, .slice sb (doSa d).length sq, .slice sc (doOp d o).length sr] 33) ∧ DAt W (.slice sa (doLi d o).length sp) (.slice sb (doSa d).length sq) (.slice sc (doOp d o).length sr) (doLi d o).length (doSa d).length (doOp d o).length (fileAt (doLi d o)) (fileAt (doSa d)) (opAt (doOp d o)) ∧ w2.heap.size ≤ PP ∧ Below w2.heap.size w2 W) ?_ ?_
  · have HV := hid (Below.refl w2.heap.size w2)
    have HBW := hid B2
    have CB : Hid (∀ W, Below w2.heap.size w2 W → W.cell? ⟨w.heap.size, 0, none⟩ = some (.slice d.live.a d.live.n d.live.k) ∧ W.cell? ⟨w.heap.size, 1, none⟩ = some (.slice d.safe.a d.safe.n d.safe.k) ∧ W.cell? ⟨w.heap.size, 2, none⟩ = some (.slice d.ops.a d.ops.n d.ops.k) ∧ W.cell? ⟨w.heap.size + 1, 0, none⟩ = some (.int .i64 o.kind) ∧ W.cell? ⟨w.heap.size + 1, 1, none⟩ = some (.string o.name) ∧ W.cell? ⟨w.heap.size + 1, 2, none⟩ = some (.string o.to) ∧ W.cell? ⟨w.heap.size + 1, 3, none⟩ = some (.string o.data)) := hid (fun W hW => ⟨(A2.below hW).three.1, (A2.below hW).three.2.1, (A2.below hW).three.2.2, (Q2.below hW).four.1, (Q2.below hW).four.2.1, (Q2.below hW).four.2.2.1, (Q2.below hW).four.2.2.2⟩)
    have lQ : w.heap.size + 1 < w2.heap.size := Q2.lt
    have NBd : Hid (Blk (w2.alloc (.cells #[.slice none 0 0, .slice none 0 0, .slice none 0 0] 33)).drew w2.heap.size (.cells #[.slice none 0 0, .slice none 0 0, .slice none 0 0] 33)) := hid (Blk.new w2 _)
    have mk1 : True := trivial
    go_region_held3 (fun W => W.cell? ⟨w.heap.size, 0, none⟩ = some (.slice d.live.a d.live.n d.live.k) ∧ W.cell? ⟨w.heap.size, 1, none⟩ = some (.slice d.safe.a d.safe.n d.safe.k) ∧ W.cell? ⟨w.heap.size, 2, none⟩ = some (.slice d.ops.a d.ops.n d.ops.k) ∧ W.cell? ⟨w.heap.size + 1, 0, none⟩ = some (.int .i64 o.kind) ∧ W.cell? ⟨w.heap.size + 1, 1, none⟩ = some (.string o.name) ∧ W.cell? ⟨w.heap.size + 1, 2, none⟩ = some (.string o.to) ∧ W.cell? ⟨w.heap.size + 1, 3, none⟩ = some (.string o.data)) (first | exact CB.out _ (by first | with_reducible exact bD HV.out | with_reducible exact bD (bA HV.out _) | with_reducible exact K1.out | with_reducible exact bA K1.out _ | with_reducible exact K2.out | with_reducible exact bA K2.out _ | with_reducible exact K3.out | with_reducible exact bA K3.out _) | exact CB.out _ (set3_below K3.out (by first | exact Nat.le_refl _ | exact z1 | exact z2 | exact z3) _ _ _) | go_keep | (simp only [*, and_self]))
      (first
        | (go_at_call 10; have mq := mk1; refine (CT.out _ (HBW.out.trans (Below.mono (by first | with_reducible exact bD HV.out | with_reducible exact bD (bA HV.out _)) HBW.out.size))).mono ?_; rintro e v1 ⟨sx, sy, sz, rfl, row1, _, b1⟩; have K1 : Hid (Below w2.heap.size w2 v1) := hid (by first | with_reducible exact then_ (bD HV.out) b1 | with_reducible exact then_ (bD (bA HV.out _)) b1); (try with_reducible have NB1 := hid (NBd.out.below b1)); have ROW1 := hid row1; have z1 := K1.out.size; clear row1 b1 mk1 mq; have NC1 := hid (Blk.new v1 (.cells #[.slice none 0 0, .slice none 0 0, .slice none 0 0] 33)); have mk2 : True := trivial)
        | (go_at_call 11; have mq := mk2; refine (CP.out _).mono ?_; rintro e v2 ⟨rfl, b2⟩; have K2 : Hid (Below w2.heap.size w2 v2) := hid (by first | with_reducible exact then_ K1.out b2 | with_reducible exact then_ (bA K1.out _) b2); (try with_reducible have NB2 := hid (NB1.out.below b2)); (try with_reducible have NB2 := hid (NC1.out.below b2)); have ROW2 : Hid (d.row v2 sx sy sz) := hid (by first | with_reducible exact ROW1.out.below b2 | with_reducible exact (ROW1.out.below ((Below.refl _ v1).alloc (Nat.le_refl _) _)).below b2); have NC2 := hid (Blk.new v2 (.cells #[.slice none 0 0, .slice none 0 0, .slice none 0 0] 33)); have z2 := K2.out.size; clear b2 mk2 mq; have mk3 : True := trivial)
        | (go_at_call 9; have mq := mk3; refine (C3.out sx sy sz _ (by first | with_reducible exact ROW2.out | with_reducible exact ROW2.out.below ((Below.refl _ v2).alloc (Nat.le_refl _) _))).mono ?_; rintro e v3 ⟨sa, sb, sc, sp, sq, sr, rfl, ans, b3⟩; have K3 : Hid (Below w2.heap.size w2 v3) := hid (by first | with_reducible exact then_ K2.out b3 | with_reducible exact then_ (bA K2.out _) b3); (try with_reducible have NB3 := hid (NB2.out.below b3)); (try with_reducible have NB3 := hid (NC2.out.below b3)); have ANS := hid ans; have H3 := hid b3; have NC3 := hid (Blk.new v3 (.cells #[.slice none 0 0, .slice none 0 0, .slice none 0 0] 33)); have z3 := K3.out.size; (try with_reducible (obtain ⟨n0, n1, n2⟩ := NB3.out.three; have nf := NB3.out.warm)); clear mk3 mq ans b3))
    all_goals (first
      | exact ⟨rfl, _, _, _, _, _, _, _, _, _, _, rfl, Blk.new v3 _, (ANS.out.below ((Below.refl _ v3).alloc (Nat.le_refl _) _)).dat, z3, bA K3.out _⟩
      | exact ⟨rfl, _, _, _, _, _, _, _, _, _, _, rfl, ((NB3.out.setAt (i := 0) _).setAt (i := 1) _).setAt (i := 2) _, (ANS.out.set3 NB3.out _ _ _).dat, (by first | exact Nat.le_refl _ | exact z1 | exact z2), set3_below K3.out (by first | exact Nat.le_refl _ | exact z1 | exact z2) _ _ _⟩)
  rintro a' w3 ⟨PW, sx, sy, sz, sa, sb, sc, sp, sq, sr, rfl, PW3, dw3, lPW, hb⟩
  have LW := hid dw3.low
  have DW3 := hid dw3
  have A3 := A2.below hb
  have Q3 := Q2.below hb
  have B3 := then_ B2 hb
  have lQ2 := Q2.lt
  have s23 := hb.size
  have lW3 := PW3.lt
  clear x0 x1 x2 y0 y1 y2 y3 A2 Q2 B2 hb dw3
  obtain ⟨x0, x1, x2⟩ := A3.three
  go_wp2_with fail
  refine (CT.out _ B3).mono ?_
  rintro e w4 ⟨x', y', z', rfl, row4, hx4, hb4⟩
  obtain ⟨PX, hPX⟩ : ∃ PX, PX = w4.heap.size := ⟨_, rfl⟩
  have RX := hid (row4.rowD hx4)
  obtain ⟨XC, hXC⟩ : ∃ XC, XC = Obj.cells #[.slice (some ⟨x', 0, none⟩) d.live.n d.live.n, .slice (some ⟨y', 0, none⟩) d.safe.n d.safe.n, .slice (some ⟨z', 0, none⟩) d.ops.n d.ops.n] 33 := ⟨_, rfl⟩
  have bx : Below w4.heap.size w4 (w4.alloc XC) := (Below.refl _ w4).alloc (Nat.le_refl _) _
  obtain ⟨w5, hw5⟩ : ∃ w5, w5 = w4.alloc XC := ⟨_, rfl⟩
  have PX5 : Blk w5 PX XC := by rw [hw5, hPX]; exact Blk.new w4 XC
  have hb5 : Below w3.heap.size w3 w5 := by rw [hw5]; exact then_ hb4 bx
  have bx5 : Below w4.heap.size w4 w5 := by rw [hw5]; exact bx
  have PW5 := PW3.below hb5
  have A5 := A3.below hb5
  have Q5 := Q3.below hb5
  have B5 := then_ B3 hb5
  have DW5 := hid (DW3.out.below hb5)
  have RX5 := hid (RX.out.below bx5)
  have row5 := row4.below bx5
  have s34 : w3.heap.size ≤ w4.heap.size := hb4.size
  have lX5 : PX < w5.heap.size := PX5.lt
  have lA3 : w.heap.size < w3.heap.size := A3.lt
  have lQ3 : w.heap.size + 1 < w3.heap.size := Q3.lt
  clear x0 x1 x2 PW3 A3 Q3 B3 hb4 DW3 bx RX row4 hx4 hb5 bx5
  go_wp2_with fail
  rw [← hXC, ← hw5, ← hPX]
  rw [← hPX] at RX5 s34
  subst hXC
  clear hw5 hPX
  refine region_cut (fun a' W => ∃ (PP lo hi : Nat) (ga gb gc : Option Addr) (gp gq gr : Nat), a' = ⟨#[Value.agg #[Value.slice d.live.a d.live.n d.live.k, Value.slice d.safe.a d.safe.n d.safe.k, Value.slice d.ops.a d.ops.n d.ops.k], Value.agg #[Value.int IntKind.i64 o.kind, Value.string o.name, Value.string o.to, Value.string o.data], Value.pointer (some { block := w.heap.size, off := 0 }), Value.pointer (some { block := w.heap.size + 1, off := 0 }), Value.bool false, Value.int IntKind.i64 q, Value.pointer (some { block := PW, off := 0 }), Value.int IntKind.i64 (doC d o), Value.pointer (some { block := PX, off := 0 }), .pointer (some ⟨PP, 0, none⟩), .int .i64 (doC d o), undef, undef, undef, undef, undef, Value.agg #[Value.slice d.live.a d.live.n d.live.k, Value.slice d.safe.a d.safe.n d.safe.k, Value.slice d.ops.a d.ops.n d.ops.k], Value.int IntKind.i64 1048576, Value.int IntKind.i64 r, Value.int IntKind.i64 r, Value.bool (decide (r < 0)), Value.agg #[Value.int IntKind.i64 o.kind, Value.string o.name, Value.string o.to, Value.string o.data], Value.int IntKind.i64 r, Value.int IntKind.i64 q, Value.int IntKind.i64 q, Value.bool (decide (q < 0)), Value.tuple #[Value.agg #[Value.slice sa (doLi d o).length sp, Value.slice sb (doSa d).length sq, Value.slice sc (doOp d o).length sr], Value.int IntKind.i64 (doC d o)], Value.agg #[Value.slice d.live.a d.live.n d.live.k, Value.slice d.safe.a d.safe.n d.safe.k, Value.slice d.ops.a d.ops.n d.ops.k], Value.agg #[Value.slice (some { block := sx, off := 0 }) d.live.n d.live.n, Value.slice (some { block := sy, off := 0 }) d.safe.n d.safe.n, Value.slice (some { block := sz, off := 0 }) d.ops.n d.ops.n], Value.agg #[Value.int IntKind.i64 o.kind, Value.string o.name, Value.string o.to, Value.string o.data], Value.agg #[Value.int IntKind.i64 o.kind, Value.string o.name, Value.string o.to, Value.string o.data], Value.tuple #[Value.agg #[Value.slice sa (doLi d o).length sp, Value.slice sb (doSa d).length sq, Value.slice sc (doOp d o).length sr], Value.int IntKind.i64 (doC d o)], Value.agg #[Value.slice sa (doLi d o).length sp, Value.slice sb (doSa d).length sq, Value.slice sc (doOp d o).length sr], Value.int IntKind.i64 (doC d o), Value.agg #[Value.slice d.live.a d.live.n d.live.k, Value.slice d.safe.a d.safe.n d.safe.k, Value.slice d.ops.a d.ops.n d.ops.k], Value.agg #[Value.slice (some { block := x', off := 0 }) d.live.n d.live.n, Value.slice (some { block := y', off := 0 }) d.safe.n d.safe.n, Value.slice (some { block := z', off := 0 }) d.ops.n d.ops.n], Value.tuple #[.agg #[.slice ga (doLi d o).length gp, .slice gb (doSa d).length gq, .slice gc (doOp d o).length gr], .int .i64 (doC d o)], Value.agg #[.slice (some ⟨x', 0, none⟩) d.live.n d.live.n, .slice (some ⟨y', 0, none⟩) d.safe.n d.safe.n, .slice (some ⟨z', 0, none⟩) d.ops.n d.ops.n], Value.agg #[.int .i64 o.kind, .string o.name, .string o.to, .string o.data], Value.agg #[.int .i64 o.kind, .string o.name, .string o.to, .string o.data], Value.tuple #[.agg #[.slice ga (doLi d o).length gp, .slice gb (doSa d).length gq, .slice gc (doOp d o).length gr], .int .i64 (doC d o)], Value.agg #[.slice ga (doLi d o).length gp, .slice gb (doSa d).length gq, .slice gc (doOp d o).length gr], .int .i64 (doC d o), undef, undef, undef, undef, undef, undef, undef, undef, undef, undef, undef, undef, undef, undef, undef, undef, undef, undef, undef, undef, undef, undef, undef, undef, undef, undef, undef, undef, undef, undef, undef, undef, undef, undef, undef, undef, undef, undef, undef, undef, undef, undef, undef, undef, undef, undef, undef, undef, undef, undef, undef, undef, undef, undef, undef, undef, undef, undef, undef, undef, undef, undef, undef, undef, undef, undef], []⟩ ∧ Blk W PP (.cells #[.slice ga (doLi d o).length gp, .slice gb (doSa d).length gq, .slice gc (doOp d o).length gr] 33) ∧ RowD W lo hi (.slice ga (doLi d o).length gp) (.slice gb (doSa d).length gq) (.slice gc (doOp d o).length gr) (doLi d o).length (doSa d).length (doOp d o).length ∧ DAt W (.slice ga (doLi d o).length gp) (.slice gb (doSa d).length gq) (.slice gc (doOp d o).length gr) (doLi d o).length (doSa d).length (doOp d o).length (fileAt (doLi d o)) (fileAt (doSa d)) (opAt (doOp d o)) ∧ (PP < lo ∨ hi ≤ PP) ∧ w5.heap.size ≤ lo ∧ w5.heap.size ≤ PP ∧ Below w5.heap.size w5 W) ?_ ?_
  · have HV := hid (Below.refl w5.heap.size w5)
    have CB : Hid (∀ W, Below w5.heap.size w5 W → W.cell? ⟨PX, 0, none⟩ = some (.slice (some ⟨x', 0, none⟩) d.live.n d.live.n) ∧ W.cell? ⟨PX, 1, none⟩ = some (.slice (some ⟨y', 0, none⟩) d.safe.n d.safe.n) ∧ W.cell? ⟨PX, 2, none⟩ = some (.slice (some ⟨z', 0, none⟩) d.ops.n d.ops.n) ∧ W.cell? ⟨w.heap.size + 1, 0, none⟩ = some (.int .i64 o.kind) ∧ W.cell? ⟨w.heap.size + 1, 1, none⟩ = some (.string o.name) ∧ W.cell? ⟨w.heap.size + 1, 2, none⟩ = some (.string o.to) ∧ W.cell? ⟨w.heap.size + 1, 3, none⟩ = some (.string o.data)) := hid (fun W hW => ⟨(PX5.below hW).three.1, (PX5.below hW).three.2.1, (PX5.below hW).three.2.2, (Q5.below hW).four.1, (Q5.below hW).four.2.1, (Q5.below hW).four.2.2.1, (Q5.below hW).four.2.2.2⟩)
    have NBd : Hid (Blk (w5.alloc (.cells #[.slice none 0 0, .slice none 0 0, .slice none 0 0] 33)).drew w5.heap.size (.cells #[.slice none 0 0, .slice none 0 0, .slice none 0 0] 33)) := hid (Blk.new w5 _)
    have lQ : w.heap.size + 1 < w5.heap.size := Q5.lt
    have lX : PX < w5.heap.size := PX5.lt
    have HROW := hid row5
    have mk1 : True := trivial
    go_region_held3 (fun W => W.cell? ⟨PX, 0, none⟩ = some (.slice (some ⟨x', 0, none⟩) d.live.n d.live.n) ∧ W.cell? ⟨PX, 1, none⟩ = some (.slice (some ⟨y', 0, none⟩) d.safe.n d.safe.n) ∧ W.cell? ⟨PX, 2, none⟩ = some (.slice (some ⟨z', 0, none⟩) d.ops.n d.ops.n) ∧ W.cell? ⟨w.heap.size + 1, 0, none⟩ = some (.int .i64 o.kind) ∧ W.cell? ⟨w.heap.size + 1, 1, none⟩ = some (.string o.name) ∧ W.cell? ⟨w.heap.size + 1, 2, none⟩ = some (.string o.to) ∧ W.cell? ⟨w.heap.size + 1, 3, none⟩ = some (.string o.data)) (first | exact CB.out _ (by first | with_reducible exact bD HV.out | with_reducible exact bD (bA HV.out _) | with_reducible exact K1.out | with_reducible exact bA K1.out _ | with_reducible exact K2.out | with_reducible exact bA K2.out _) | exact CB.out _ (set3_below K2.out (by first | exact Nat.le_refl _ | exact z1 | exact z2) _ _ _) | go_keep | (simp only [*, and_self]))
      (first
        | (go_at_call 11; have mq := mk1; refine (CP.out _).mono ?_; rintro e v1 ⟨rfl, b1⟩; have K1 : Hid (Below w5.heap.size w5 v1) := hid (by first | with_reducible exact then_ (bD HV.out) b1 | with_reducible exact then_ (bD (bA HV.out _)) b1); (try with_reducible have NB1 := hid (NBd.out.below b1)); have NC1 := hid (Blk.new v1 (.cells #[.slice none 0 0, .slice none 0 0, .slice none 0 0] 33)); have z1 := K1.out.size; have lq1 : v1.heap.size < (v1.alloc (.cells #[.slice none 0 0, .slice none 0 0, .slice none 0 0] 33)).heap.size := NC1.out.lt; clear b1 mk1 mq; have mk2 : True := trivial)
        | (go_at_call 12; have mq := mk2; refine (C5.out x' y' z' _ (HROW.out.below (by first | with_reducible exact K1.out | with_reducible exact bA K1.out _))).mono ?_; rintro e v2 ⟨ga, gb, gc, gp, gq, gr, rfl, ans, b2⟩; have K2 : Hid (Below w5.heap.size w5 v2) := hid (by first | with_reducible exact then_ K1.out b2 | with_reducible exact then_ (bA K1.out _) b2); (try with_reducible have NB2 := hid (NB1.out.below b2)); (try with_reducible have NB2 := hid (NC1.out.below b2)); have ANS := hid ans; have z2 := K2.out.size; have LO := hid (by first | with_reducible exact K1.out.size | with_reducible exact (bA K1.out _).size); (try with_reducible (obtain ⟨n0, n1, n2⟩ := NB2.out.three; have nf := NB2.out.warm)); (try have lp : Hid _ := hid NB1.out.lt); clear mk2 mq ans b2))
    all_goals (first
      | exact ⟨rfl, _, _, _, _, _, _, _, _, _, rfl, Blk.new v2 _, AnsI.rowD' (ANS.out.below ((Below.refl _ v2).alloc (Nat.le_refl _) _)) ANS.out, (ANS.out.below ((Below.refl _ v2).alloc (Nat.le_refl _) _)).dat, .inr (Nat.le_refl _), (by first | exact z1 | exact (bA K1.out _).size), z2, bA K2.out _⟩
      | exact ⟨rfl, _, _, _, _, _, _, _, _, _, rfl, ((NB2.out.setAt (i := 0) _).setAt (i := 1) _).setAt (i := 2) _, AnsI.rowD' (ANS.out.set3 NB2.out _ _ _) ANS.out, (ANS.out.set3 NB2.out _ _ _).dat, .inl (by first | exact NB1.out.lt | exact lq1), (by first | exact z1 | exact (bA K1.out _).size), (by first | exact Nat.le_refl _ | exact z1), set3_below K2.out (by first | exact Nat.le_refl _ | exact z1) _ _ _⟩)
  rintro a' w6 ⟨PG, lo, hi, ga, gb, gc, gp, gq, gr, rfl, PG6, rg6, dg6, sep, l5, lPG, hb⟩
  have RG6 := hid rg6
  have DG6 := hid dg6
  have PX6 := PX5.below hb
  have PW6 := PW5.below hb
  have A6 := A5.below hb
  have Q6 := Q5.below hb
  have B6 := then_ B5 hb
  have DW6 := hid (DW5.out.below hb)
  have RX6 := hid (RX5.out.below hb)
  have row6 := row5.below hb
  clear hb rg6 dg6 PX5 PW5 A5 Q5 B5 DW5 RX5 row5
  obtain ⟨u0, u1, u2⟩ := PG6.three
  obtain ⟨v0, v1, v2⟩ := PX6.three
  obtain ⟨y0, y1, y2⟩ := PW6.three
  obtain ⟨x0, x1, x2⟩ := A6.three
  go_wp2_with fail
  refine (eqDisk_any _ _ _ _ _ _ (doLi d o).length (doSa d).length (doOp d o).length (fileAt (doLi d o)) (fileAt (doSa d)) (opAt (doOp d o)) _ DG6.out DW6.out ml ms mo).mono ?_
  rintro e w7 ⟨rfl, hb⟩
  have PG7 := PG6.below hb
  have PX7 := PX6.below hb
  have PW7 := PW6.below hb
  have A7 := A6.below hb
  have Q7 := Q6.below hb
  have B7 := then_ B6 hb
  have DW7 := hid (DW6.out.below hb)
  have DG7 := hid (DG6.out.below hb)
  have RX7 := hid (RX6.out.below hb)
  have RG7 := hid (RG6.out.below hb)
  have row7 := row6.below hb
  clear u0 u1 u2 v0 v1 v2 y0 y1 y2 x0 x1 x2 hb PG6 PX6 PW6 A6 Q6 B6 DW6 DG6 RX6 RG6 row6
  obtain ⟨u0, u1, u2⟩ := PG7.three
  obtain ⟨v0, v1, v2⟩ := PX7.three
  obtain ⟨y0, y1, y2⟩ := PW7.three
  obtain ⟨x0, x1, x2⟩ := A7.three
  have cc : ¬ ¬ (doC d o) = (doC d o) := fun h => h rfl
  have Xd : Blk w7.drew PX (.cells #[.slice (some ⟨x', 0, none⟩) d.live.n d.live.n, .slice (some ⟨y', 0, none⟩) d.safe.n d.safe.n, .slice (some ⟨z', 0, none⟩) d.ops.n d.ops.n] 33) := PX7
  have Ad : Blk w7.drew w.heap.size (.cells #[.slice d.live.a d.live.n d.live.k, .slice d.safe.a d.safe.n d.safe.k, .slice d.ops.a d.ops.n d.ops.k] 25) := A7
  have C7 : Hid (∀ (a b c : Nat) (W : World), Below w7.drew.heap.size w7.drew W → d.row W a b c → Calls Try.prog 13 #[.agg #[.slice (some ⟨x', 0, none⟩) d.live.n d.live.n, .slice (some ⟨y', 0, none⟩) d.safe.n d.safe.n, .slice (some ⟨z', 0, none⟩) d.ops.n d.ops.n], .agg #[.slice (some ⟨a, 0, none⟩) d.live.n d.live.n, .slice (some ⟨b, 0, none⟩) d.safe.n d.safe.n, .slice (some ⟨c, 0, none⟩) d.ops.n d.ops.n]] W fun e w' => e = .returned (.bool true) ∧ Below W.heap.size W w') := hid (fun a b c W hW hr => eqDisk_v d x' y' z' a b c W SM.out ((show d.row w7.drew x' y' z' from row7).below hW) hr)
  have C6 := hid (CT.out w7.drew B7.drew)
  go_wp2_with fail
  go_region_held3 (fun w' => w'.cell? ⟨PX, 0, none⟩ = some (.slice (some ⟨x', 0, none⟩) d.live.n d.live.n) ∧ w'.cell? ⟨PX, 1, none⟩ = some (.slice (some ⟨y', 0, none⟩) d.safe.n d.safe.n) ∧ w'.cell? ⟨PX, 2, none⟩ = some (.slice (some ⟨z', 0, none⟩) d.ops.n d.ops.n) ∧ w'.cell? ⟨w.heap.size, 0, none⟩ = some (.slice d.live.a d.live.n d.live.k) ∧ w'.cell? ⟨w.heap.size, 1, none⟩ = some (.slice d.safe.a d.safe.n d.safe.k) ∧ w'.cell? ⟨w.heap.size, 2, none⟩ = some (.slice d.ops.a d.ops.n d.ops.k)) (first | go_keep | (simp only [*, and_self]))
    (first
      | (go_at_call 10; refine C6.out.mono ?_; rintro e w7x ⟨a, b, c, rfl, row7x, _, hb7⟩; obtain ⟨p0, p1, p2⟩ := (Ad.below hb7).three; obtain ⟨i0, i1, i2⟩ := (Xd.below hb7).three)
      | (go_at_call 13; refine (C7.out a b c w7x hb7 row7x).mono ?_; rintro e w8 ⟨rfl, hb8⟩; obtain ⟨j0, j1, j2⟩ := ((Ad.below hb7).below hb8).three; obtain ⟨k0, k1, k2⟩ := ((Xd.below hb7).below hb8).three))
  have hb : Below w7.heap.size w7 w8 := (Below.refl _ w7).drew.trans (then_ hb7 hb8)
  clear p0 p1 p2 i0 i1 i2 j0 j1 j2 k0 k1 k2 Ad Xd C6 C7 hb7 hb8 row7x
  have PG8 := PG7.below hb
  have PX8 := PX7.below hb
  have PW8 := PW7.below hb
  have A8 := A7.below hb
  have Q8 := Q7.below hb
  have B8 := then_ B7 hb
  have DW8 := hid (DW7.out.below hb)
  have DG8 := hid (DG7.out.below hb)
  have RX8 := hid (RX7.out.below hb)
  have RG8 := hid (RG7.out.below hb)
  have row8 := row7.below hb
  clear u0 u1 u2 v0 v1 v2 y0 y1 y2 x0 x1 x2 hb PG7 PX7 PW7 A7 Q7 B7 DW7 DG7 RX7 RG7 row7
  clear row8
  obtain ⟨u0, u1, u2⟩ := PG8.three
  obtain ⟨v0, v1, v2⟩ := PX8.three
  obtain ⟨y0, y1, y2⟩ := PW8.three
  obtain ⟨x0, x1, x2⟩ := A8.three
  go_wp2_with fail
  refine (markDisk_any _ _ _ d.live.n d.safe.n d.ops.n 1 _ _ _ RX8.out (by omega) (by omega) m1 m2 m3).mono ?_
  rintro e w9 ⟨rfl, _, _, M9⟩
  have PG9 := PG8.mk M9 (.inr (by omega))
  have PX9 := PX8.mk M9 (.inr (Nat.le_refl _))
  have PW9 := PW8.mk M9 (.inl lW3)
  have A9 := A8.mk M9 (.inl lA3)
  have Q9 := Q8.mk M9 (.inl lQ3)
  have B9 : Below w.heap.size w w9 := B8.trans (M9.below (by omega) B8.size)
  have DW9 := hid (DW8.out.under M9 LW.out (Nat.le_refl _))
  have DG9 := hid (DG8.out.over M9 RG8.out (by omega))
  have RG9 := hid (RG8.out.mark M9 (.inl (by omega)))
  clear u0 u1 u2 v0 v1 v2 y0 y1 y2 x0 x1 x2 PG8 PX8 PW8 A8 Q8 B8 DW8 DG8 RG8 RX8 M9
  obtain ⟨u0, u1, u2⟩ := PG9.three
  obtain ⟨v0, v1, v2⟩ := PX9.three
  obtain ⟨y0, y1, y2⟩ := PW9.three
  obtain ⟨x0, x1, x2⟩ := A9.three
  have nk : ¬ ((1 + 2 * d.live.n + 2 * d.safe.n + 4 * d.ops.n : Nat) : Int) < 0 := by omega
  go_wp2_with fail
  refine (eqDisk_any _ _ _ _ _ _ (doLi d o).length (doSa d).length (doOp d o).length (fileAt (doLi d o)) (fileAt (doSa d)) (opAt (doOp d o)) _ DG9.out DW9.out ml ms mo).mono ?_
  rintro e w10 ⟨rfl, hb⟩
  have PG10 := PG9.below hb
  have PX10 := PX9.below hb
  have PW10 := PW9.below hb
  have A10 := A9.below hb
  have Q10 := Q9.below hb
  have B10 := then_ B9 hb
  have DW10 := hid (DW9.out.below hb)
  have DG10 := hid (DG9.out.below hb)
  have RG10 := hid (RG9.out.below hb)
  clear u0 u1 u2 v0 v1 v2 y0 y1 y2 x0 x1 x2 hb PG9 PX9 PW9 A9 Q9 B9 DW9 DG9 RG9
  obtain ⟨u0, u1, u2⟩ := PG10.three
  obtain ⟨v0, v1, v2⟩ := PX10.three
  obtain ⟨y0, y1, y2⟩ := PW10.three
  obtain ⟨x0, x1, x2⟩ := A10.three
  clear nk
  go_wp2_with fail
  refine (markDisk_any _ _ _ (doLi d o).length (doSa d).length (doOp d o).length 1 _ _ _ RG10.out (by omega) (by omega) ml ms mo).mono ?_
  rintro e w11 ⟨rfl, _, mk11, M11⟩
  have MG11 := hid mk11
  have PG11 := PG10.mk M11 sep
  have PX11 := PX10.mk M11 (.inl (by omega))
  have PW11 := PW10.mk M11 (.inl (by omega))
  have A11 := A10.mk M11 (.inl (by omega))
  have Q11 := Q10.mk M11 (.inl (by omega))
  have B11 : Below w.heap.size w w11 := B10.trans (M11.below (by omega) B10.size)
  have DW11 := hid (DW10.out.under M11 LW.out (by omega))
  clear u0 u1 u2 v0 v1 v2 y0 y1 y2 x0 x1 x2 PG10 PX10 PW10 A10 Q10 B10 DW10 DG10 RG10 M11 mk11
  obtain ⟨u0, u1, u2⟩ := PG11.three
  obtain ⟨v0, v1, v2⟩ := PX11.three
  obtain ⟨y0, y1, y2⟩ := PW11.three
  obtain ⟨x0, x1, x2⟩ := A11.three
  go_wp2_with fail
  refine (heldDisk_any _ _ _ (doLi d o).length (doSa d).length (doOp d o).length 1 _ MG11.out (by omega) (by omega) ml ms mo).mono ?_
  rintro e w12 ⟨rfl, hb⟩
  have PG12 := PG11.below hb
  have PX12 := PX11.below hb
  have PW12 := PW11.below hb
  have A12 := A11.below hb
  have Q12 := Q11.below hb
  have B12 := then_ B11 hb
  have DW12 := hid (DW11.out.below hb)
  have MG12 := hid (MG11.out.below hb)
  clear u0 u1 u2 v0 v1 v2 y0 y1 y2 x0 x1 x2 hb PG11 PX11 PW11 A11 Q11 B11 DW11 MG11
  obtain ⟨u0, u1, u2⟩ := PG12.three
  obtain ⟨v0, v1, v2⟩ := PX12.three
  obtain ⟨y0, y1, y2⟩ := PW12.three
  obtain ⟨x0, x1, x2⟩ := A12.three
  obtain ⟨y20, y21, y22, y23⟩ := Q12.four
  have nk : ¬ (((1 + 2 * (doLi d o).length + 2 * (doSa d).length + 4 * (doOp d o).length : Nat) : Nat) : Int) < 0 := by omega
  go_wp2_with fail
  refine region_cut (fun a' W => ∃ (PP hx hy hz : Nat) (ha hb hc : Option Addr) (hp hq hr : Nat), a' = ⟨#[Value.agg #[Value.slice d.live.a d.live.n d.live.k, Value.slice d.safe.a d.safe.n d.safe.k, Value.slice d.ops.a d.ops.n d.ops.k], Value.agg #[Value.int IntKind.i64 o.kind, Value.string o.name, Value.string o.to, Value.string o.data], Value.pointer (some { block := w.heap.size, off := 0 }), Value.pointer (some { block := w.heap.size + 1, off := 0 }), Value.bool false, Value.int IntKind.i64 q, Value.pointer (some { block := PW, off := 0 }), Value.int IntKind.i64 (doC d o), Value.pointer (some { block := PX, off := 0 }), Value.pointer (some { block := PG, off := 0 }), Value.int IntKind.i64 (doC d o), Value.int IntKind.i64 (1 + 2 * ↑d.live.n + 2 * ↑d.safe.n + 4 * ↑d.ops.n), Value.int IntKind.i64 (1 + 2 * ↑(doLi d o).length + 2 * ↑(doSa d).length + 4 * ↑(doOp d o).length), Value.int IntKind.i64 (1 + 2 * ↑(doLi d o).length + 2 * ↑(doSa d).length + 4 * ↑(doOp d o).length), .pointer (some ⟨PP, 0, none⟩), .int .i64 (doC d o), Value.agg #[Value.slice d.live.a d.live.n d.live.k, Value.slice d.safe.a d.safe.n d.safe.k, Value.slice d.ops.a d.ops.n d.ops.k], Value.int IntKind.i64 1048576, Value.int IntKind.i64 r, Value.int IntKind.i64 r, Value.bool (decide (r < 0)), Value.agg #[Value.int IntKind.i64 o.kind, Value.string o.name, Value.string o.to, Value.string o.data], Value.int IntKind.i64 r, Value.int IntKind.i64 q, Value.int IntKind.i64 q, Value.bool (decide (q < 0)), Value.tuple #[Value.agg #[Value.slice sa (doLi d o).length sp, Value.slice sb (doSa d).length sq, Value.slice sc (doOp d o).length sr], Value.int IntKind.i64 (doC d o)], Value.agg #[Value.slice d.live.a d.live.n d.live.k, Value.slice d.safe.a d.safe.n d.safe.k, Value.slice d.ops.a d.ops.n d.ops.k], Value.agg #[Value.slice (some { block := sx, off := 0 }) d.live.n d.live.n, Value.slice (some { block := sy, off := 0 }) d.safe.n d.safe.n, Value.slice (some { block := sz, off := 0 }) d.ops.n d.ops.n], Value.agg #[Value.int IntKind.i64 o.kind, Value.string o.name, Value.string o.to, Value.string o.data], Value.agg #[Value.int IntKind.i64 o.kind, Value.string o.name, Value.string o.to, Value.string o.data], Value.tuple #[Value.agg #[Value.slice sa (doLi d o).length sp, Value.slice sb (doSa d).length sq, Value.slice sc (doOp d o).length sr], Value.int IntKind.i64 (doC d o)], Value.agg #[Value.slice sa (doLi d o).length sp, Value.slice sb (doSa d).length sq, Value.slice sc (doOp d o).length sr], Value.int IntKind.i64 (doC d o), Value.agg #[Value.slice d.live.a d.live.n d.live.k, Value.slice d.safe.a d.safe.n d.safe.k, Value.slice d.ops.a d.ops.n d.ops.k], Value.agg #[Value.slice (some { block := x', off := 0 }) d.live.n d.live.n, Value.slice (some { block := y', off := 0 }) d.safe.n d.safe.n, Value.slice (some { block := z', off := 0 }) d.ops.n d.ops.n], Value.tuple #[Value.agg #[Value.slice ga (doLi d o).length gp, Value.slice gb (doSa d).length gq, Value.slice gc (doOp d o).length gr], Value.int IntKind.i64 (doC d o)], Value.agg #[Value.slice (some { block := x', off := 0 }) d.live.n d.live.n, Value.slice (some { block := y', off := 0 }) d.safe.n d.safe.n, Value.slice (some { block := z', off := 0 }) d.ops.n d.ops.n], Value.agg #[Value.int IntKind.i64 o.kind, Value.string o.name, Value.string o.to, Value.string o.data], Value.agg #[Value.int IntKind.i64 o.kind, Value.string o.name, Value.string o.to, Value.string o.data], Value.tuple #[Value.agg #[Value.slice ga (doLi d o).length gp, Value.slice gb (doSa d).length gq, Value.slice gc (doOp d o).length gr], Value.int IntKind.i64 (doC d o)], Value.agg #[Value.slice ga (doLi d o).length gp, Value.slice gb (doSa d).length gq, Value.slice gc (doOp d o).length gr], Value.int IntKind.i64 (doC d o), Value.agg #[Value.slice ga (doLi d o).length gp, Value.slice gb (doSa d).length gq, Value.slice gc (doOp d o).length gr], Value.agg #[Value.slice sa (doLi d o).length sp, Value.slice sb (doSa d).length sq, Value.slice sc (doOp d o).length sr], Value.bool true, Value.bool false, Value.bool false, Value.int IntKind.i64 (doC d o), Value.int IntKind.i64 (doC d o), Value.bool false, Value.bool false, Value.agg #[Value.slice (some { block := x', off := 0 }) d.live.n d.live.n, Value.slice (some { block := y', off := 0 }) d.safe.n d.safe.n, Value.slice (some { block := z', off := 0 }) d.ops.n d.ops.n], Value.agg #[Value.slice d.live.a d.live.n d.live.k, Value.slice d.safe.a d.safe.n d.safe.k, Value.slice d.ops.a d.ops.n d.ops.k], Value.agg #[Value.slice (some { block := a, off := 0 }) d.live.n d.live.n, Value.slice (some { block := b, off := 0 }) d.safe.n d.safe.n, Value.slice (some { block := c, off := 0 }) d.ops.n d.ops.n], Value.bool true, Value.bool false, Value.agg #[Value.slice (some { block := x', off := 0 }) d.live.n d.live.n, Value.slice (some { block := y', off := 0 }) d.safe.n d.safe.n, Value.slice (some { block := z', off := 0 }) d.ops.n d.ops.n], Value.int IntKind.i64 1, Value.int IntKind.i64 (1 + 2 * ↑d.live.n + 2 * ↑d.safe.n + 4 * ↑d.ops.n), Value.int IntKind.i64 (1 + 2 * ↑d.live.n + 2 * ↑d.safe.n + 4 * ↑d.ops.n), Value.bool (decide (1 + 2 * ↑d.live.n + 2 * ↑d.safe.n + 4 * ↑d.ops.n < 0)), Value.bool (decide (1 + 2 * ↑d.live.n + 2 * ↑d.safe.n + 4 * ↑d.ops.n < 0)), Value.agg #[Value.slice ga (doLi d o).length gp, Value.slice gb (doSa d).length gq, Value.slice gc (doOp d o).length gr], Value.agg #[Value.slice sa (doLi d o).length sp, Value.slice sb (doSa d).length sq, Value.slice sc (doOp d o).length sr], Value.bool true, Value.bool false, Value.bool (decide (1 + 2 * ↑d.live.n + 2 * ↑d.safe.n + 4 * ↑d.ops.n < 0)), Value.bool (decide (1 + 2 * ↑d.live.n + 2 * ↑d.safe.n + 4 * ↑d.ops.n < 0)), Value.int IntKind.i64 (doC d o), Value.int IntKind.i64 (doC d o), Value.bool false, Value.bool (decide (1 + 2 * ↑d.live.n + 2 * ↑d.safe.n + 4 * ↑d.ops.n < 0)), Value.agg #[Value.slice ga (doLi d o).length gp, Value.slice gb (doSa d).length gq, Value.slice gc (doOp d o).length gr], Value.int IntKind.i64 1, Value.int IntKind.i64 (1 + 2 * ↑(doLi d o).length + 2 * ↑(doSa d).length + 4 * ↑(doOp d o).length), Value.agg #[Value.slice ga (doLi d o).length gp, Value.slice gb (doSa d).length gq, Value.slice gc (doOp d o).length gr], Value.int IntKind.i64 1, Value.int IntKind.i64 (1 + 2 * ↑(doLi d o).length + 2 * ↑(doSa d).length + 4 * ↑(doOp d o).length), Value.int IntKind.i64 (1 + 2 * ↑(doLi d o).length + 2 * ↑(doSa d).length + 4 * ↑(doOp d o).length), Value.bool (decide (1 + 2 * ↑(doLi d o).length + 2 * ↑(doSa d).length + 4 * ↑(doOp d o).length < 0)), Value.int IntKind.i64 (1 + 2 * ↑(doLi d o).length + 2 * ↑(doSa d).length + 4 * ↑(doOp d o).length), Value.int IntKind.i64 (1 + 2 * ↑(doLi d o).length + 2 * ↑(doSa d).length + 4 * ↑(doOp d o).length), Value.bool false, Value.tuple #[.agg #[.slice ha (doLi d o).length hp, .slice hb (doSa d).length hq, .slice hc (doOp d o).length hr], .int .i64 (doC d o)], Value.agg #[.slice d.live.a d.live.n d.live.k, .slice d.safe.a d.safe.n d.safe.k, .slice d.ops.a d.ops.n d.ops.k], Value.agg #[.slice (some ⟨hx, 0, none⟩) d.live.n d.live.n, .slice (some ⟨hy, 0, none⟩) d.safe.n d.safe.n, .slice (some ⟨hz, 0, none⟩) d.ops.n d.ops.n], Value.agg #[.int .i64 o.kind, .string o.name, .string o.to, .string o.data], Value.agg #[.int .i64 o.kind, .string o.name, .string o.to, .string o.data], Value.tuple #[.agg #[.slice ha (doLi d o).length hp, .slice hb (doSa d).length hq, .slice hc (doOp d o).length hr], .int .i64 (doC d o)], Value.agg #[.slice ha (doLi d o).length hp, .slice hb (doSa d).length hq, .slice hc (doOp d o).length hr], .int .i64 (doC d o), undef, undef, undef, undef, undef, undef, undef, undef, undef, undef, undef, undef, undef, undef, undef, undef, undef], []⟩ ∧ Blk W PP (.cells #[.slice ha (doLi d o).length hp, .slice hb (doSa d).length hq, .slice hc (doOp d o).length hr] 33) ∧ DAt W (.slice ha (doLi d o).length hp) (.slice hb (doSa d).length hq) (.slice hc (doOp d o).length hr) (doLi d o).length (doSa d).length (doOp d o).length (fileAt (doLi d o)) (fileAt (doSa d)) (opAt (doOp d o)) ∧ w12.heap.size ≤ PP ∧ Below w12.heap.size w12 W) ?_ ?_
  · have HV := hid (Below.refl w12.heap.size w12)
    have HBW := hid B12
    have CB : Hid (∀ W, Below w12.heap.size w12 W → W.cell? ⟨w.heap.size, 0, none⟩ = some (.slice d.live.a d.live.n d.live.k) ∧ W.cell? ⟨w.heap.size, 1, none⟩ = some (.slice d.safe.a d.safe.n d.safe.k) ∧ W.cell? ⟨w.heap.size, 2, none⟩ = some (.slice d.ops.a d.ops.n d.ops.k) ∧ W.cell? ⟨w.heap.size + 1, 0, none⟩ = some (.int .i64 o.kind) ∧ W.cell? ⟨w.heap.size + 1, 1, none⟩ = some (.string o.name) ∧ W.cell? ⟨w.heap.size + 1, 2, none⟩ = some (.string o.to) ∧ W.cell? ⟨w.heap.size + 1, 3, none⟩ = some (.string o.data)) := hid (fun W hW => ⟨(A12.below hW).three.1, (A12.below hW).three.2.1, (A12.below hW).three.2.2, (Q12.below hW).four.1, (Q12.below hW).four.2.1, (Q12.below hW).four.2.2.1, (Q12.below hW).four.2.2.2⟩)
    have lQ : w.heap.size + 1 < w12.heap.size := Q12.lt
    have NBd : Hid (Blk (w12.alloc (.cells #[.slice none 0 0, .slice none 0 0, .slice none 0 0] 33)).drew w12.heap.size (.cells #[.slice none 0 0, .slice none 0 0, .slice none 0 0] 33)) := hid (Blk.new w12 _)
    have mk1 : True := trivial
    go_region_held3 (fun W => W.cell? ⟨w.heap.size, 0, none⟩ = some (.slice d.live.a d.live.n d.live.k) ∧ W.cell? ⟨w.heap.size, 1, none⟩ = some (.slice d.safe.a d.safe.n d.safe.k) ∧ W.cell? ⟨w.heap.size, 2, none⟩ = some (.slice d.ops.a d.ops.n d.ops.k) ∧ W.cell? ⟨w.heap.size + 1, 0, none⟩ = some (.int .i64 o.kind) ∧ W.cell? ⟨w.heap.size + 1, 1, none⟩ = some (.string o.name) ∧ W.cell? ⟨w.heap.size + 1, 2, none⟩ = some (.string o.to) ∧ W.cell? ⟨w.heap.size + 1, 3, none⟩ = some (.string o.data)) (first | exact CB.out _ (by first | with_reducible exact bD HV.out | with_reducible exact bD (bA HV.out _) | with_reducible exact K1.out | with_reducible exact bA K1.out _ | with_reducible exact K2.out | with_reducible exact bA K2.out _ | with_reducible exact K3.out | with_reducible exact bA K3.out _) | exact CB.out _ (set3_below K3.out (by first | exact Nat.le_refl _ | exact z1 | exact z2 | exact z3) _ _ _) | go_keep | (simp only [*, and_self]))
      (first
        | (go_at_call 10; have mq := mk1; refine (CT.out _ (HBW.out.trans (Below.mono (by first | with_reducible exact bD HV.out | with_reducible exact bD (bA HV.out _)) HBW.out.size))).mono ?_; rintro e v1 ⟨hx, hy, hz, rfl, row1, _, b1⟩; have K1 : Hid (Below w12.heap.size w12 v1) := hid (by first | with_reducible exact then_ (bD HV.out) b1 | with_reducible exact then_ (bD (bA HV.out _)) b1); (try with_reducible have NB1 := hid (NBd.out.below b1)); have ROW1 := hid row1; have z1 := K1.out.size; clear row1 b1 mk1 mq; have NC1 := hid (Blk.new v1 (.cells #[.slice none 0 0, .slice none 0 0, .slice none 0 0] 33)); have mk2 : True := trivial)
        | (go_at_call 11; have mq := mk2; refine (CP.out _).mono ?_; rintro e v2 ⟨rfl, b2⟩; have K2 : Hid (Below w12.heap.size w12 v2) := hid (by first | with_reducible exact then_ K1.out b2 | with_reducible exact then_ (bA K1.out _) b2); (try with_reducible have NB2 := hid (NB1.out.below b2)); (try with_reducible have NB2 := hid (NC1.out.below b2)); have ROW2 : Hid (d.row v2 hx hy hz) := hid (by first | with_reducible exact ROW1.out.below b2 | with_reducible exact (ROW1.out.below ((Below.refl _ v1).alloc (Nat.le_refl _) _)).below b2); have NC2 := hid (Blk.new v2 (.cells #[.slice none 0 0, .slice none 0 0, .slice none 0 0] 33)); have z2 := K2.out.size; clear b2 mk2 mq; have mk3 : True := trivial)
        | (go_at_call 12; have mq := mk3; refine (C5.out hx hy hz _ (by first | with_reducible exact ROW2.out | with_reducible exact ROW2.out.below ((Below.refl _ v2).alloc (Nat.le_refl _) _))).mono ?_; rintro e v3 ⟨ha, hb, hc, hp, hq, hr, rfl, ans, b3⟩; have K3 : Hid (Below w12.heap.size w12 v3) := hid (by first | with_reducible exact then_ K2.out b3 | with_reducible exact then_ (bA K2.out _) b3); (try with_reducible have NB3 := hid (NB2.out.below b3)); (try with_reducible have NB3 := hid (NC2.out.below b3)); have ANS := hid ans; have H3 := hid b3; have NC3 := hid (Blk.new v3 (.cells #[.slice none 0 0, .slice none 0 0, .slice none 0 0] 33)); have z3 := K3.out.size; (try with_reducible (obtain ⟨n0, n1, n2⟩ := NB3.out.three; have nf := NB3.out.warm)); clear mk3 mq ans b3))
    all_goals (first
      | exact ⟨rfl, _, _, _, _, _, _, _, _, _, _, rfl, Blk.new v3 _, (ANS.out.below ((Below.refl _ v3).alloc (Nat.le_refl _) _)).dat, z3, bA K3.out _⟩
      | exact ⟨rfl, _, _, _, _, _, _, _, _, _, _, rfl, ((NB3.out.setAt (i := 0) _).setAt (i := 1) _).setAt (i := 2) _, (ANS.out.set3 NB3.out _ _ _).dat, (by first | exact Nat.le_refl _ | exact z1 | exact z2), set3_below K3.out (by first | exact Nat.le_refl _ | exact z1 | exact z2) _ _ _⟩)
  rintro a' w14 ⟨PH, x2', y2', z2', ha, hb_, hc_, hp, hq, hr, rfl, PH14, dh14, lPH, hb⟩
  have DH14 := hid dh14
  have PG14 := PG12.below hb
  have PW14 := PW12.below hb
  have B14 := then_ B12 hb
  have DW14 := hid (DW12.out.below hb)
  have MG14 := hid (MG12.out.below hb)
  clear u0 u1 u2 v0 v1 v2 y0 y1 y2 x0 x1 x2 y20 y21 y22 y23 hb dh14 PG12 PX12 PW12 A12 Q12 B12 DW12 MG12
  obtain ⟨u0, u1, u2⟩ := PG14.three
  obtain ⟨y0, y1, y2⟩ := PW14.three
  obtain ⟨v0, v1, v2⟩ := PH14.three
  go_wp2_with fail
  refine (eqDisk_any _ _ _ _ _ _ (doLi d o).length (doSa d).length (doOp d o).length (fileAt (doLi d o)) (fileAt (doSa d)) (opAt (doOp d o)) _ DH14.out DW14.out ml ms mo).mono ?_
  rintro e w16 ⟨rfl, hb⟩
  have PG16 := PG14.below hb
  have B16 := then_ B14 hb
  have MG16 := hid (MG14.out.below hb)
  clear u0 u1 u2 y0 y1 y2 v0 v1 v2 PG14 PW14 B14 DW14 MG14 PH14 DH14 hb
  obtain ⟨u0, u1, u2⟩ := PG16.three
  go_wp2_with fail
  refine (heldDisk_any _ _ _ (doLi d o).length (doSa d).length (doOp d o).length 1 _ MG16.out (by omega) (by omega) ml ms mo).mono ?_
  rintro e w17 ⟨rfl, hb⟩
  have B17 := then_ B16 hb
  clear u0 u1 u2 hb PG16 B16 MG16
  go_wp2
  go_ret
  exact ⟨rfl, B17⟩
end Go.Proofs.Ytcdhhmedcplblaa
