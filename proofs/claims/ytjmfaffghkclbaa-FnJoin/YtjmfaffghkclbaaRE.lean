/- Drawn labels: what DrawLabelText and DrawLeq leave. -/
import Derived.Test.YtjmfaffghkclbaaRD
namespace Go.Proofs.Ytjmfaffghkclbaa
open Go.RowKit Go.Deep Go.Maps

theorem BytesAt.below {w w' : World} {a : Option Addr} {n : Nat} (h : BytesAt w a n) (hb : Below w.heap.size w w') : BytesAt w' a n := fun h0 => by
  obtain ⟨b, off, e, hlt, hc⟩ := h h0
  exact ⟨b, off, e, Nat.lt_of_lt_of_le hlt hb.size, fun i hi => by obtain ⟨v, hv, r⟩ := hc i hi; exact ⟨v, (hb.cell (p := ⟨b, off + i, none⟩) hlt).trans hv, r⟩⟩

theorem l1Open_any (a : Option Addr) (n cap : Nat) (w : World) (hn : n ≤ 1048576) (hb : BytesAt w a n) :
    Calls Try.prog 62 #[.slice a n cap] w fun e w' => ∃ rb, e = .returned (.pointer (some ⟨rb, 0, none⟩)) ∧ Rd w w' rb a n cap := by
  have R : Rd w (w.alloc (.cells #[.slice a n cap, .int .i64 0] 110)) w.heap.size a n cap :=
    ⟨(Below.refl _ w).alloc (Nat.le_refl _) _, Nat.le_refl _, hb, hn, 0, Nat.zero_le _, Blk.new w _⟩
  have HR : Hid (Rd w (w.alloc (.cells #[.slice a n cap, .int .i64 0] 110)) w.heap.size a n cap) := R
  clear R hb
  go_enter Try.func62, Try.ntmps62
  go_wp2
  go_ret
  exact ⟨_, rfl, HR.out⟩

set_option maxRecDepth 100000 in
set_option maxHeartbeats 2000000 in
theorem drawText_any (a : Option Addr) (n cap : Nat) (w : World) (hn : n ≤ 1048576) (hb : BytesAt w a n) :
    Calls Try.prog 27 #[.slice a n cap] w fun e w' => ∃ (base : Int) (l : List (Int × Int)) (va : Option Addr) (vc : Nat), e = .returned (.agg #[.int .i64 base, .slice va l.length vc]) ∧ l.length ≤ 3 ∧ CatsAt w' va l.length (fstAt l) (sndAt l) ∧ Below w.heap.size w w' := by
  have K0 := (Below.refl _ w).alloc (Nat.le_refl _) (.cells #[.int .i64 0, .slice none 0 0] 26)
  have Y0 := Blk.new w (.cells #[.int .i64 0, .slice none 0 0] 26)
  have HB : Hid (BytesAt w a n) := hb
  clear hb
  go_enter Try.func27, Try.ntmps27
  go_wp2_with fail
  refine (l1Open_any a n cap _ hn (HB.out.below K0)).mono ?_
  rintro e u1 ⟨rb, rfl, R1⟩
  have Y1 := Y0.below R1.E
  have rl : w.heap.size + 1 ≤ rb := by have := R1.le; simpa using this
  go_wp2_with fail
  refine (rdLabel_any _ rb a n cap _ R1).mono ?_
  rintro e u2 ⟨base, l, va, vc, rfl, l3, ho, R2, g2⟩
  have Y2 := Y1.grown g2 (by simp; omega)
  have E2 : Below w.heap.size w u2 := K0.trans (R2.E.mono (by simp))
  have lu : w.heap.size < u1.heap.size := Y1.lt
  have HO : Hid (OwnList u2 u1.heap.size (.slice va l.length vc) l) := ho
  clear R1 R2 g2 Y1 Y0 K0 HB ho
  obtain ⟨y1, y2⟩ := Y2.two
  have yf0 := Y2.frozen2 0
  have yf1 := Y2.frozen2 1
  go_wp2
  refine bodyPost_ret (v := .agg #[.int .i64 base, .slice va l.length vc]) (by simp [results, Try.results27, go_sem, *]) rfl ⟨base, l, va, vc, rfl, l3, ?_, ?_⟩
  · exact OwnCats.cats (OwnList.set (OwnList.set HO.out lu _ _) lu _ _)
  · exact (E2.setCell (by dsimp only; omega) _).setCell (by dsimp only; omega) _

set_option maxRecDepth 100000 in
set_option maxHeartbeats 2000000 in
theorem drawLeq_any (a : Option Addr) (n cap : Nat) (w : World) (hn : n ≤ 1048576) (hb : BytesAt w a n) :
    Calls Try.prog 33 #[.slice a n cap] w fun e w' => ∃ (b1 : Int) (l1 : List (Int × Int)) (a1 : Option Addr) (c1 : Nat) (b2 : Int) (l2 : List (Int × Int)) (a2 : Option Addr) (c2 : Nat), e = .returned (.tuple #[.agg #[.int .i64 b1, .slice a1 l1.length c1], .agg #[.int .i64 b2, .slice a2 l2.length c2]]) ∧ l1.length ≤ 3 ∧ l2.length ≤ 3 ∧ CatsAt w' a1 l1.length (fstAt l1) (sndAt l1) ∧ CatsAt w' a2 l2.length (fstAt l2) (sndAt l2) ∧ Below w.heap.size w w' := by
  have K0 := ((Below.refl _ w).alloc (Nat.le_refl _) (.cells #[.int .i64 0, .slice none 0 0] 26)).alloc (by simp) (.cells #[.int .i64 0, .slice none 0 0] 26)
  have X0 : Blk ((w.alloc (.cells #[.int .i64 0, .slice none 0 0] 26)).alloc (.cells #[.int .i64 0, .slice none 0 0] 26)) w.heap.size (.cells #[.int .i64 0, .slice none 0 0] 26) := (Blk.new w _).alloc _
  have Y0 : Blk ((w.alloc (.cells #[.int .i64 0, .slice none 0 0] 26)).alloc (.cells #[.int .i64 0, .slice none 0 0] 26)) (w.heap.size + 1) (.cells #[.int .i64 0, .slice none 0 0] 26) := by
    have := Blk.new (w.alloc (.cells #[.int .i64 0, .slice none 0 0] 26)) (.cells #[.int .i64 0, .slice none 0 0] 26)
    simpa using this
  have HB : Hid (BytesAt w a n) := hb
  clear hb
  go_enter Try.func33, Try.ntmps33
  go_wp2_with fail
  refine (l1Open_any a n cap _ hn (HB.out.below K0)).mono ?_
  rintro e u1 ⟨rb, rfl, R1⟩
  have X1 := X0.below R1.E
  have Y1 := Y0.below R1.E
  have rl : w.heap.size + 1 + 1 ≤ rb := by have := R1.le; simpa using this
  go_wp2_with fail
  refine (rdLabel_any _ rb a n cap _ R1).mono ?_
  rintro e u2 ⟨b1, l1, a1, c1, rfl, l13, o1, R2, g2⟩
  go_wp2_with fail
  have X2 := (X1.grown g2 (by simp; omega)).alloc (.cells #[.int .i64 b1, .slice a1 l1.length c1] 26)
  have Y2 := (Y1.grown g2 (by simp; omega)).alloc (.cells #[.int .i64 b1, .slice a1 l1.length c1] 26)
  have Z2 := Blk.new u2 (.cells #[.int .i64 b1, .slice a1 l1.length c1] 26)
  have K2 := (Below.refl _ u2).alloc (Nat.le_refl _) (.cells #[.int .i64 b1, .slice a1 l1.length c1] 26)
  have R2' := R2.below K2
  have O2 := OwnList.below o1 K2
  have ru := R1.lt
  have rz := R2.lt
  have su : u1.heap.size ≤ u2.heap.size := g2.size
  clear R1 R2 g2 X1 Y1 X0 Y0 HB o1 K2
  generalize u2.alloc (.cells #[.int .i64 b1, .slice a1 l1.length c1] 26) = W2 at *
  have R2d := R2'.drew
  have X2d : Blk W2.drew w.heap.size (.cells #[.int .i64 0, .slice none 0 0] 26) := X2
  have Y2d : Blk W2.drew (w.heap.size + 1) (.cells #[.int .i64 0, .slice none 0 0] 26) := Y2
  have Z2d : Blk W2.drew u2.heap.size (.cells #[.int .i64 b1, .slice a1 l1.length c1] 26) := Z2
  obtain ⟨z1, z2⟩ := Z2.two
  have HO2 : Hid (OwnList W2.drew u1.heap.size (.slice a1 l1.length c1) l1) := OwnList.below O2 (Below.refl _ W2).drew
  clear R2' O2 X2 Y2 Z2
  go_region_held3 (fun w' => w'.cell? ⟨u2.heap.size, 0, none⟩ = some (.int .i64 b1) ∧ w'.cell? ⟨u2.heap.size, 1, none⟩ = some (.slice a1 l1.length c1)) (first | (with_reducible refine ⟨cell_far (by omega) (cell_far (by omega) ?_), cell_far (by omega) (cell_far (by omega) ?_)⟩ <;> first | assumption | (with_reducible refine cell_far (by omega) (cell_far (by omega) ?_); assumption)) | go_keep)
    (first
      | (go_at_call 63; refine (rdLabel_any _ rb a n cap _ R2d).mono ?_; rintro e u3 ⟨b2, l2, a2, c2, rfl, l23, o2, R3, g3⟩; have X3 := X2d.grown g3 (by simp; omega); have Y3 := Y2d.grown g3 (by simp; omega); have Z3 := Z2d.grown g3 (by simp; omega); obtain ⟨p1, p2⟩ := X3.two; obtain ⟨p3, p4⟩ := Y3.two; obtain ⟨p5, p6⟩ := Z3.two; have f1 := X3.frozen2 0; have f2 := X3.frozen2 1; have f3 := Y3.frozen2 0; have f4 := Y3.frozen2 1))
  have E3 : Below w.heap.size w u3 := K0.trans (R3.E.mono (by simp; omega))
  have O3 : OwnList u3 u1.heap.size (.slice a1 l1.length c1) l1 := World.ownsRow.kept HO2.out g3 (Or.inr (fun e => by have := (World.ownsRow.lt HO2.out _ e).1; omega))
  have sw : u2.heap.size < W2.heap.size := Z2d.lt
  have HO1 : Hid (OwnList u3 (w.heap.size + 1 + 1) (.slice a1 l1.length c1) l1) := ownsRow_base_a O3 (by omega)
  have HO3 : Hid (OwnList u3 (w.heap.size + 1 + 1) (.slice a2 l2.length c2) l2) := ownsRow_base_a o2 (by show _ ≤ W2.heap.size; omega)
  clear O3 o2 HO2 z1 z2 R3 g3 R2d X2d Y2d Z2d p5 p6 Z3 K0
  go_wp2
  refine bodyPost_ret (v := .tuple #[.agg #[.int .i64 b1, .slice a1 l1.length c1], .agg #[.int .i64 b2, .slice a2 l2.length c2]]) (by simp [results, Try.results33, go_sem, *]) rfl ⟨b1, l1, a1, c1, b2, l2, a2, c2, rfl, l13, l23, ?_, ?_, ?_⟩
  · exact OwnCats.cats (OwnList.set (OwnList.set (OwnList.set (OwnList.set HO1.out (by omega) _ _) (by omega) _ _) (by omega) _ _) (by omega) _ _)
  · exact OwnCats.cats (OwnList.set (OwnList.set (OwnList.set (OwnList.set HO3.out (by omega) _ _) (by omega) _ _) (by omega) _ _) (by omega) _ _)
  · exact (((E3.setCell (by dsimp only; omega) _).setCell (by dsimp only; omega) _).setCell (by dsimp only; omega) _).setCell (by dsimp only; omega) _
end Go.Proofs.Ytjmfaffghkclbaa
