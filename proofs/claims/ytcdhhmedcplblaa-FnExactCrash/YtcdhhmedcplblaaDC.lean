/- Disks: their copies and comparisons. -/
import Derived.Test.YtcdhhmedcplblaaDB
namespace Go.Proofs.Ytcdhhmedcplblaa
open Go.RowKit Go.Deep

theorem Blk.setAt {W : World} {P t i : Nat} {cs : Array Value} (h : Blk W P (.cells cs t)) (v : Value) : Blk (W.setCell ⟨P, i, none⟩ v) P (.cells (cs.setIfInBounds i v) t) := by
  unfold Blk at *
  simp [World.setCell, Array.getElem?_modify, h]
theorem Blk.warm {W : World} {P t : Nat} {cs : Array Value} (h : Blk W P (.cells cs t)) (i : Nat) : W.frozen? ⟨P, i, none⟩ = false := by
  unfold Blk at h
  simp [World.frozen?, h]
theorem Blk.other {W : World} {P Q i : Nat} {o : Obj} (h : Blk W P o) (hne : Q ≠ P) (v : Value) : Blk (W.setCell ⟨Q, i, none⟩ v) P o := by
  unfold Blk at *
  simp [World.setCell, Array.getElem?_modify, h, hne]
theorem results3 (tmps : Array Value) (W : World) (P : Nat) (x y z : Value) (h : Blk W P (.cells #[x, y, z] 33)) (h2 : tmps[2]? = some (.pointer (some ⟨P, 0, none⟩))) :
    (results Try.f10 tmps).run Try.prog W = .ok (.agg #[x, y, z]) W := by
  obtain ⟨z0, z1, z2⟩ := h.three
  simp [results, Try.results10, go_sem, h2, z0, z1, z2]

set_option maxRecDepth 100000 in
set_option maxHeartbeats 4000000 in
theorem toDisk_since (d : DiskV) (w : World) (hd : d.at w) (hs : d.small) :
    Calls Try.prog 10 #[d.val] w fun e w' => ∃ x y z, e = .returned (d.own x y z).val ∧ d.row w' x y z ∧ (w.heap.size ≤ x ∧ w.heap.size ≤ y ∧ w.heap.size ≤ z ∧ x ≠ y) ∧ Below w.heap.size w w' := by
  have HD := hid hd
  obtain ⟨n0, n1, n2⟩ := hs
  clear hd
  have S0 : Hid (Blk (((w.alloc (.cells #[.slice d.live.a d.live.n d.live.k, .slice d.safe.a d.safe.n d.safe.k, .slice d.ops.a d.ops.n d.ops.k] 25)).alloc (.cells #[.slice none 0 0, .slice none 0 0, .slice none 0 0] 33)).alloc (.cells #[.slice none 0 0, .slice none 0 0, .slice none 0 0] 33)) w.heap.size (.cells #[.slice d.live.a d.live.n d.live.k, .slice d.safe.a d.safe.n d.safe.k, .slice d.ops.a d.ops.n d.ops.k] 25)) := hid (((Blk.new w _).alloc _).alloc _)
  have R0 : Hid (Blk (((w.alloc (.cells #[.slice d.live.a d.live.n d.live.k, .slice d.safe.a d.safe.n d.safe.k, .slice d.ops.a d.ops.n d.ops.k] 25)).alloc (.cells #[.slice none 0 0, .slice none 0 0, .slice none 0 0] 33)).alloc (.cells #[.slice none 0 0, .slice none 0 0, .slice none 0 0] 33)) (w.heap.size + 1) (.cells #[.slice none 0 0, .slice none 0 0, .slice none 0 0] 33)) := by
    have := (Blk.new (w.alloc (.cells #[.slice d.live.a d.live.n d.live.k, .slice d.safe.a d.safe.n d.safe.k, .slice d.ops.a d.ops.n d.ops.k] 25)) (.cells #[.slice none 0 0, .slice none 0 0, .slice none 0 0] 33)).alloc (.cells #[.slice none 0 0, .slice none 0 0, .slice none 0 0] 33)
    refine hid ?_
    simpa using this
  have Q0 : Hid (Blk (((w.alloc (.cells #[.slice d.live.a d.live.n d.live.k, .slice d.safe.a d.safe.n d.safe.k, .slice d.ops.a d.ops.n d.ops.k] 25)).alloc (.cells #[.slice none 0 0, .slice none 0 0, .slice none 0 0] 33)).alloc (.cells #[.slice none 0 0, .slice none 0 0, .slice none 0 0] 33)) (w.heap.size + 1 + 1) (.cells #[.slice none 0 0, .slice none 0 0, .slice none 0 0] 33)) := by
    have := Blk.new ((w.alloc (.cells #[.slice d.live.a d.live.n d.live.k, .slice d.safe.a d.safe.n d.safe.k, .slice d.ops.a d.ops.n d.ops.k] 25)).alloc (.cells #[.slice none 0 0, .slice none 0 0, .slice none 0 0] 33)) (.cells #[.slice none 0 0, .slice none 0 0, .slice none 0 0] 33)
    refine hid ?_
    simpa using this
  have B0 : Hid (Below w.heap.size w (((w.alloc (.cells #[.slice d.live.a d.live.n d.live.k, .slice d.safe.a d.safe.n d.safe.k, .slice d.ops.a d.ops.n d.ops.k] 25)).alloc (.cells #[.slice none 0 0, .slice none 0 0, .slice none 0 0] 33)).alloc (.cells #[.slice none 0 0, .slice none 0 0, .slice none 0 0] 33))) := hid ((((Below.refl _ w).alloc (Nat.le_refl _) _).alloc (by simp) _).alloc (by simp; omega) _)
  have sz0 : w.heap.size + 1 + 1 < (((w.alloc (.cells #[.slice d.live.a d.live.n d.live.k, .slice d.safe.a d.safe.n d.safe.k, .slice d.ops.a d.ops.n d.ops.k] 25)).alloc (.cells #[.slice none 0 0, .slice none 0 0, .slice none 0 0] 33)).alloc (.cells #[.slice none 0 0, .slice none 0 0, .slice none 0 0] 33)).heap.size := by simp
  unfold DiskV.val
  go_enter Try.func10, Try.ntmps10
  go_wp2_with fail
  generalize (((w.alloc (.cells #[.slice d.live.a d.live.n d.live.k, .slice d.safe.a d.safe.n d.safe.k, .slice d.ops.a d.ops.n d.ops.k] 25)).alloc (.cells #[.slice none 0 0, .slice none 0 0, .slice none 0 0] 33)).alloc (.cells #[.slice none 0 0, .slice none 0 0, .slice none 0 0] 33)) = V0 at *
  refine (toFileS_any _ _ _ d.live.f _ n0 (HD.out.1.2.1.below B0.out)).mono ?_
  rintro e w0 ⟨rfl, hr, hb⟩
  have K0 := hid hr
  have Q1 := hid (Q0.out.below hb)
  have S1 := hid (S0.out.below hb)
  have R1 := hid (R0.out.below hb)
  have B1 := hid (then_ B0.out hb)
  have sz1 : w.heap.size + 1 + 1 < w0.heap.size := Nat.lt_of_lt_of_le sz0 hb.size
  have gl0 : w.heap.size + 1 + 1 < V0.heap.size := sz0
  clear hr hb Q0 S0 R0 B0 sz0 
  generalize V0.heap.size = g0 at *
  obtain ⟨q0, q1, q2⟩ := Q1.out.three
  obtain ⟨p0, p1, p2⟩ := S1.out.three
  have qf := Q1.out.warm
  have Q2 : Hid (Blk (w0.setCell ⟨w.heap.size + 1 + 1, 0, none⟩ (.slice (some ⟨g0, 0, none⟩) d.live.n d.live.n)) (w.heap.size + 1 + 1) (.cells #[.slice (some ⟨g0, 0, none⟩) d.live.n d.live.n, .slice none 0 0, .slice none 0 0] 33)) := hid (Q1.out.setAt _)
  have S2 := hid (S1.out.other (Q := w.heap.size + 1 + 1) (i := 0) (by omega) (.slice (some ⟨g0, 0, none⟩) d.live.n d.live.n))
  have R2 := hid (R1.out.other (Q := w.heap.size + 1 + 1) (i := 0) (by omega) (.slice (some ⟨g0, 0, none⟩) d.live.n d.live.n))
  have B2 := hid (B1.out.setCell (p := ⟨w.heap.size + 1 + 1, 0, none⟩) (show w.heap.size ≤ w.heap.size + 1 + 1 by omega) (.slice (some ⟨g0, 0, none⟩) d.live.n d.live.n))
  have sz2 : w.heap.size + 1 + 1 < (w0.setCell ⟨w.heap.size + 1 + 1, 0, none⟩ (.slice (some ⟨g0, 0, none⟩) d.live.n d.live.n)).heap.size := by simpa using sz1
  have K0n := hid (K0.out.setOther (a := ⟨w.heap.size + 1 + 1, 0, none⟩) (by dsimp only; omega) (.slice (some ⟨g0, 0, none⟩) d.live.n d.live.n))
  go_wp2_with fail
  generalize w0.setCell ⟨w.heap.size + 1 + 1, 0, none⟩ (.slice (some ⟨g0, 0, none⟩) d.live.n d.live.n) = V1 at *
  clear q0 q1 q2 p0 p1 p2 qf Q1 S1 R1 B1 sz1 K0 
  have Q0 := Q2
  have S0 := S2
  have R0 := R2
  have B0 := B2
  have sz0 := sz2
  have K0 := K0n
  clear Q2 S2 R2 B2 sz2 K0n
  refine (toFileS_any _ _ _ d.safe.f _ n1 (HD.out.2.1.2.1.below B0.out)).mono ?_
  rintro e w1 ⟨rfl, hr, hb⟩
  have K1 := hid hr
  have K0' := hid (rowUp K0.out hb)
  have lt01 : g0 < V1.heap.size := K0.out.lt
  have Q1 := hid (Q0.out.below hb)
  have S1 := hid (S0.out.below hb)
  have R1 := hid (R0.out.below hb)
  have B1 := hid (then_ B0.out hb)
  have sz1 : w.heap.size + 1 + 1 < w1.heap.size := Nat.lt_of_lt_of_le sz0 hb.size
  have gl1 : w.heap.size + 1 + 1 < V1.heap.size := sz0
  clear hr hb Q0 S0 R0 B0 sz0 K0
  generalize V1.heap.size = g1 at *
  obtain ⟨q0, q1, q2⟩ := Q1.out.three
  obtain ⟨p0, p1, p2⟩ := S1.out.three
  have qf := Q1.out.warm
  have Q2 : Hid (Blk (w1.setCell ⟨w.heap.size + 1 + 1, 1, none⟩ (.slice (some ⟨g1, 0, none⟩) d.safe.n d.safe.n)) (w.heap.size + 1 + 1) (.cells #[.slice (some ⟨g0, 0, none⟩) d.live.n d.live.n, .slice (some ⟨g1, 0, none⟩) d.safe.n d.safe.n, .slice none 0 0] 33)) := hid (Q1.out.setAt _)
  have S2 := hid (S1.out.other (Q := w.heap.size + 1 + 1) (i := 1) (by omega) (.slice (some ⟨g1, 0, none⟩) d.safe.n d.safe.n))
  have R2 := hid (R1.out.other (Q := w.heap.size + 1 + 1) (i := 1) (by omega) (.slice (some ⟨g1, 0, none⟩) d.safe.n d.safe.n))
  have B2 := hid (B1.out.setCell (p := ⟨w.heap.size + 1 + 1, 1, none⟩) (show w.heap.size ≤ w.heap.size + 1 + 1 by omega) (.slice (some ⟨g1, 0, none⟩) d.safe.n d.safe.n))
  have sz2 : w.heap.size + 1 + 1 < (w1.setCell ⟨w.heap.size + 1 + 1, 1, none⟩ (.slice (some ⟨g1, 0, none⟩) d.safe.n d.safe.n)).heap.size := by simpa using sz1
  have K0n := hid (K0'.out.setOther (a := ⟨w.heap.size + 1 + 1, 1, none⟩) (by dsimp only; omega) (.slice (some ⟨g1, 0, none⟩) d.safe.n d.safe.n))
  have K1n := hid (K1.out.setOther (a := ⟨w.heap.size + 1 + 1, 1, none⟩) (by dsimp only; omega) (.slice (some ⟨g1, 0, none⟩) d.safe.n d.safe.n))
  go_wp2_with fail
  generalize w1.setCell ⟨w.heap.size + 1 + 1, 1, none⟩ (.slice (some ⟨g1, 0, none⟩) d.safe.n d.safe.n) = V2 at *
  clear q0 q1 q2 p0 p1 p2 qf Q1 S1 R1 B1 sz1 K1 K0'
  have Q0 := Q2
  have S0 := S2
  have R0 := R2
  have B0 := B2
  have sz0 := sz2
  have K0 := K0n
  have K1 := K1n
  clear Q2 S2 R2 B2 sz2 K0n K1n
  refine (toDOpS_any _ _ _ d.ops.f _ n2 (HD.out.2.2.2.1.below B0.out)).mono ?_
  rintro e w2 ⟨rfl, hr, hb⟩
  have K2 := hid hr
  have K0' := hid (rowUp K0.out hb)
  have lt02 : g0 < V2.heap.size := K0.out.lt
  have K1' := hid (rowUp K1.out hb)
  have lt12 : g1 < V2.heap.size := K1.out.lt
  have Q1 := hid (Q0.out.below hb)
  have S1 := hid (S0.out.below hb)
  have R1 := hid (R0.out.below hb)
  have B1 := hid (then_ B0.out hb)
  have sz1 : w.heap.size + 1 + 1 < w2.heap.size := Nat.lt_of_lt_of_le sz0 hb.size
  have gl2 : w.heap.size + 1 + 1 < V2.heap.size := sz0
  clear hr hb Q0 S0 R0 B0 sz0 K0 K1
  generalize V2.heap.size = g2 at *
  obtain ⟨q0, q1, q2⟩ := Q1.out.three
  obtain ⟨p0, p1, p2⟩ := S1.out.three
  have qf := Q1.out.warm
  obtain ⟨r0, r1, r2⟩ := R1.out.three
  have rf := R1.out.warm
  have ne1 : ¬ w.heap.size + 1 = w.heap.size + 1 + 1 := by omega
  have ne2 : ¬ w.heap.size + 1 + 1 = w.heap.size + 1 := by omega
  have R2 := hid (R1.out.other (Q := w.heap.size + 1 + 1) (i := 2) (by omega) (.slice (some ⟨g2, 0, none⟩) d.ops.n d.ops.n))
  have R3 := hid (R2.out.setAt (i := 0) (.slice (some ⟨g0, 0, none⟩) d.live.n d.live.n))
  have R4 := hid (R3.out.setAt (i := 1) (.slice (some ⟨g1, 0, none⟩) d.safe.n d.safe.n))
  have R5 := hid (R4.out.setAt (i := 2) (.slice (some ⟨g2, 0, none⟩) d.ops.n d.ops.n))
  have KK : Hid (∀ (b ty N : Nat) (G : Nat → Value), w.heap.size + 1 + 1 < b → w2.rowIs b ty N G → ((((w2.setCell ⟨w.heap.size + 1 + 1, 2, none⟩ (.slice (some ⟨g2, 0, none⟩) d.ops.n d.ops.n)).setCell ⟨w.heap.size + 1, 0, none⟩ (.slice (some ⟨g0, 0, none⟩) d.live.n d.live.n)).setCell ⟨w.heap.size + 1, 1, none⟩ (.slice (some ⟨g1, 0, none⟩) d.safe.n d.safe.n)).setCell ⟨w.heap.size + 1, 2, none⟩ (.slice (some ⟨g2, 0, none⟩) d.ops.n d.ops.n)).rowIs b ty N G) := hid (fun b ty N G hb h => (((h.setOther (by dsimp only; omega) _).setOther (by dsimp only; omega) _).setOther (by dsimp only; omega) _).setOther (by dsimp only; omega) _)
  go_wp2
  refine bodyPost_ret (results3 _ _ (w.heap.size + 1) (.slice (some ⟨g0, 0, none⟩) d.live.n d.live.n) (.slice (some ⟨g1, 0, none⟩) d.safe.n d.safe.n) (.slice (some ⟨g2, 0, none⟩) d.ops.n d.ops.n) R5.out rfl) rfl ⟨g0, g1, g2, rfl, ⟨KK.out _ _ _ _ gl0 K0'.out, KK.out _ _ _ _ gl1 K1'.out, KK.out _ _ _ _ gl2 K2.out⟩, ⟨by omega, by omega, by omega, fun e => by omega⟩, ?_⟩
  exact (((B1.out.setCell (show w.heap.size ≤ w.heap.size + 1 + 1 by omega) _).setCell (show w.heap.size ≤ w.heap.size + 1 by omega) _).setCell (show w.heap.size ≤ w.heap.size + 1 by omega) _).setCell (show w.heap.size ≤ w.heap.size + 1 by omega) _

theorem toDisk_any (d : DiskV) (w : World) (hd : d.at w) (hs : d.small) :
    Calls Try.prog 10 #[d.val] w fun e w' => ∃ x y z, e = .returned (d.own x y z).val ∧ d.row w' x y z ∧ Below w.heap.size w w' := (toDisk_since d w hd hs).mono fun _ _ ⟨x, y, z, h1, h2, _, h3⟩ => ⟨x, y, z, h1, h2, h3⟩
set_option maxRecDepth 100000 in
set_option maxHeartbeats 4000000 in
theorem eqDisk_v (d : DiskV) (x y z x' y' z' : Nat) (w : World) (hs : d.small) (h : d.row w x y z) (h' : d.row w x' y' z') :
    Calls Try.prog 13 #[(d.own x y z).val, (d.own x' y' z').val] w fun e w' => e = .returned (.bool true) ∧ Below w.heap.size w w' := by
  obtain ⟨n0, n1, n2⟩ := hs
  have b0 : Below w.heap.size w ((w.alloc (.cells #[.slice (some ⟨x, 0, none⟩) d.live.n d.live.n, .slice (some ⟨y, 0, none⟩) d.safe.n d.safe.n, .slice (some ⟨z, 0, none⟩) d.ops.n d.ops.n] 33)).alloc (.cells #[.slice (some ⟨x', 0, none⟩) d.live.n d.live.n, .slice (some ⟨y', 0, none⟩) d.safe.n d.safe.n, .slice (some ⟨z', 0, none⟩) d.ops.n d.ops.n] 33)) := ((Below.refl _ w).alloc (Nat.le_refl _) _).alloc (by simp) _
  have A0 := (Blk.new w (.cells #[.slice (some ⟨x, 0, none⟩) d.live.n d.live.n, .slice (some ⟨y, 0, none⟩) d.safe.n d.safe.n, .slice (some ⟨z, 0, none⟩) d.ops.n d.ops.n] 33)).alloc (.cells #[.slice (some ⟨x', 0, none⟩) d.live.n d.live.n, .slice (some ⟨y', 0, none⟩) d.safe.n d.safe.n, .slice (some ⟨z', 0, none⟩) d.ops.n d.ops.n] 33)
  have L0 := Blk.new (w.alloc (.cells #[.slice (some ⟨x, 0, none⟩) d.live.n d.live.n, .slice (some ⟨y, 0, none⟩) d.safe.n d.safe.n, .slice (some ⟨z, 0, none⟩) d.ops.n d.ops.n] 33)) (.cells #[.slice (some ⟨x', 0, none⟩) d.live.n d.live.n, .slice (some ⟨y', 0, none⟩) d.safe.n d.safe.n, .slice (some ⟨z', 0, none⟩) d.ops.n d.ops.n] 33)
  simp only [World.size_alloc] at L0
  have H0 := hid (h.below b0)
  have H0' := hid (h'.below b0)
  clear h h'
  obtain ⟨x0, x1, x2⟩ := A0.three
  obtain ⟨y0, y1, y2⟩ := L0.three
  unfold DiskV.val DiskV.own
  go_enter Try.func13, Try.ntmps13
  have C1 := hid (eqFileS_true _ _ _ d.live.n d.live.n d.live.f _ (by unfold maxLen; omega) (FilesAt.row H0.out.1) (FilesAt.row H0'.out.1))
  go_wp2_with fail
  refine C1.out.mono ?_
  rintro e w1 ⟨rfl, hb⟩
  have A1 := A0.below hb
  have L1 := L0.below hb
  have H1 := hid (H0.out.below hb)
  have H1' := hid (H0'.out.below hb)
  have b1 := then_ b0 hb
  clear x0 x1 x2 y0 y1 y2 A0 L0 H0 H0' b0 hb C1
  obtain ⟨x0, x1, x2⟩ := A1.three
  obtain ⟨y0, y1, y2⟩ := L1.three
  have C1 := hid (eqFileS_true _ _ _ d.safe.n d.safe.n d.safe.f _ (by unfold maxLen; omega) (FilesAt.row H1.out.2.1) (FilesAt.row H1'.out.2.1))
  go_wp2_with fail
  refine C1.out.mono ?_
  rintro e w2 ⟨rfl, hb⟩
  have A2 := A1.below hb
  have L2 := L1.below hb
  have H2 := hid (H1.out.below hb)
  have H2' := hid (H1'.out.below hb)
  have b2 := then_ b1 hb
  clear x0 x1 x2 y0 y1 y2 A1 L1 H1 H1' b1 hb C1
  obtain ⟨x0, x1, x2⟩ := A2.three
  obtain ⟨y0, y1, y2⟩ := L2.three
  have C1 := hid (eqDOpS_true _ _ _ d.ops.n d.ops.n d.ops.f _ (by unfold maxLen; omega) (DOpsAt.row H2.out.2.2) (DOpsAt.row H2'.out.2.2))
  go_wp2_with fail
  refine C1.out.mono ?_
  rintro e w3 ⟨rfl, hb⟩
  have A3 := A2.below hb
  have L3 := L2.below hb
  have H3 := hid (H2.out.below hb)
  have H3' := hid (H2'.out.below hb)
  have b3 := then_ b2 hb
  clear x0 x1 x2 y0 y1 y2 A2 L2 H2 H2' b2 hb C1
  obtain ⟨x0, x1, x2⟩ := A3.three
  obtain ⟨y0, y1, y2⟩ := L3.three
  go_wp2
  go_ret
  exact ⟨rfl, b3⟩
end Go.Proofs.Ytcdhhmedcplblaa
