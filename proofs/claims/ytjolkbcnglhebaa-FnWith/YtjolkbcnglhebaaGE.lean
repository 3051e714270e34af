/- The drawn labels and owned categories of FnFlows. -/
import Derived.Test.YtjolkbcnglhebaaGD
import Derived.Test.YtjolkbcnglhebaaRE
namespace Go.Proofs.Ytjolkbcnglhebaa
open Go.RowKit Go.Deep Go.Maps

theorem Blk.far2 {W : World} {P Q : Nat} {o : Obj} (h : Blk W Q o) (hne : Q ≠ P) (x y : Value) : Blk ((W.setCell ⟨P, 0, none⟩ x).setCell ⟨P, 1, none⟩ y) Q o :=
  (blk_setCell_other _ _ _ _ hne).trans ((blk_setCell_other _ _ _ _ hne).trans h)

theorem hmixed : Try.prog.follows .mixedOrders = true := by kernel_rfl

set_option maxRecDepth 100000 in
set_option maxHeartbeats 4000000 in
theorem drawFlows_any (a : Option Addr) (n cap : Nat) (w : World) (hn : n ≤ 1048576) (hb : BytesAt w a n) :
    Calls Try.prog 16 #[.slice a n cap] w fun e w' => ∃ (b1 : Int) (l1 : List (Int × Int)) (a1 : Option Addr) (c1 : Nat) (o : List Int) (A : Addr) (oc : Nat) (b2 : Int) (l2 : List (Int × Int)) (a2 : Option Addr) (c2 : Nat),
      e = .returned (.tuple #[.agg #[.int .i64 b1, .slice a1 l1.length c1], .slice (some A) o.length oc, .agg #[.int .i64 b2, .slice a2 l2.length c2]]) ∧ l1.length ≤ 3 ∧ l2.length ≤ 3 ∧ o.length ≤ 2 ∧ GoodO o ∧
      CatsAt w' a1 l1.length (fstAt l1) (sndAt l1) ∧ IntL w' (some A) o ∧ CatsAt w' a2 l2.length (fstAt l2) (sndAt l2) ∧ Below w.heap.size w w' := by
  have K0 := ((Below.refl _ w).alloc (Nat.le_refl _) (.cells #[.int .i64 0, .slice none 0 0] 26)).alloc (by simp) (.cells #[.int .i64 0, .slice none 0 0] 26)
  have X0 : Blk ((w.alloc (.cells #[.int .i64 0, .slice none 0 0] 26)).alloc (.cells #[.int .i64 0, .slice none 0 0] 26)) w.heap.size (.cells #[.int .i64 0, .slice none 0 0] 26) := (Blk.new w _).alloc _
  have Y0 : Blk ((w.alloc (.cells #[.int .i64 0, .slice none 0 0] 26)).alloc (.cells #[.int .i64 0, .slice none 0 0] 26)) (w.heap.size + 1) (.cells #[.int .i64 0, .slice none 0 0] 26) := by
    have := Blk.new (w.alloc (.cells #[.int .i64 0, .slice none 0 0] 26)) (.cells #[.int .i64 0, .slice none 0 0] 26)
    simpa using this
  have HB : Hid (BytesAt w a n) := hb
  clear hb
  go_enter Try.func16, Try.ntmps16
  go_wp2_with fail
  refine (l1Open_any a n cap _ hn (HB.out.below K0)).mono ?_
  rintro e u1 ⟨rb, rfl, R1⟩
  have E1 : Below w.heap.size w u1 := K0.trans (R1.E.mono (by simp; omega))
  have X1 := X0.below R1.E
  have Y1 := Y0.below R1.E
  have rl : w.heap.size + 1 + 1 ≤ rb := by have := R1.le; simpa using this
  clear X0 Y0 K0
  go_wp2_with fail
  refine (rdLabel_any _ rb a n cap _ R1).mono ?_
  rintro e u2 ⟨b1, l1, a1, c1, rfl, l13, o1, R2, g2⟩
  have ru := R1.lt
  have E2 : Below w.heap.size w u2 := E1.grown g2 (by omega) (fun j e => by cases e; omega)
  have X2 := (X1.grown g2 (by simp; omega)).alloc (.cells #[.int .i64 b1, .slice a1 l1.length c1] 26)
  have Y2 := (Y1.grown g2 (by simp; omega)).alloc (.cells #[.int .i64 b1, .slice a1 l1.length c1] 26)
  have Z2 := Blk.new u2 (.cells #[.int .i64 b1, .slice a1 l1.length c1] 26)
  have K2 := (Below.refl _ u2).alloc (Nat.le_refl _) (.cells #[.int .i64 b1, .slice a1 l1.length c1] 26)
  have O2 := (OwnList.below o1 K2).low (B' := rb + 1) (by omega)
  have R2' := R2.below K2
  have E2' := E2.trans (K2.mono (by have := E2.size; omega))
  have zr : rb < u2.heap.size := R2.lt
  clear R1 g2 X1 Y1 o1 K2 R2 E1 E2
  go_wp2_with fail
  refine (owns_any _ rb a n cap _ R2').mono ?_
  rintro e u3 ⟨o, A, oc, rfl, ho2, hgo, O3, R3, g3⟩
  have E3 := E2'.grown g3 E2'.size (fun j e => by cases e; omega)
  have X3 := X2.grown g3 (by simp; omega)
  have Y3 := Y2.grown g3 (by simp; omega)
  have Z3 := Z2.grown g3 (by simp; omega)
  have P3 := O2.keptR g3 (by omega)
  have I3 := O3.low (B' := rb + 1) (by simp; omega)
  clear g3 X2 Y2 Z2 R2' O2 O3 E2'
  generalize u2.heap.size = Z at *
  go_wp2_with fail
  obtain ⟨z0, z1⟩ := Z3.two
  have X3d : Blk u3.drew w.heap.size (.cells #[.int .i64 0, .slice none 0 0] 26) := X3
  have Y3d : Blk u3.drew (w.heap.size + 1) (.cells #[.int .i64 0, .slice none 0 0] 26) := Y3
  have Z3d : Blk u3.drew Z (.cells #[.int .i64 b1, .slice a1 l1.length c1] 26) := Z3
  have S0 : u3.drew.cell? ⟨Z, 0, none⟩ = some (.int .i64 b1) ∧ u3.drew.cell? ⟨Z, 1, none⟩ = some (.slice a1 l1.length c1) := Z3d.two
  refine (wpIn_wide (n := 3)).1 ?_
  refine AnyF.region (fun w' => w'.cell? ⟨Z, 0, none⟩ = some (.int .i64 b1) ∧ w'.cell? ⟨Z, 1, none⟩ = some (.slice a1 l1.length c1)) [] hmixed ?_
  refine AnyF.takeD (i := 0) (d := 14) (.agg #[.int .i64 b1, .slice a1 l1.length c1]) rfl rfl rfl (by kernel_rfl) (by kernel_rfl) (by kernel_rfl) (by kernel_rfl) (by kernel_rfl) (fun _ _ _ h => h) S0 (Or.inl ⟨by rfl, fun w' h => (by dsimp only at h; go_simp)⟩) (fun _ => by rfl) ?_
  simp only [Act.put, List.setIfInBounds_toArray, List.set_cons_zero, List.set_cons_succ]
  refine AnyF.takeD (i := 1) (d := 15) (.slice (some A) o.length oc) rfl rfl rfl (by kernel_rfl) (by kernel_rfl) (by kernel_rfl) (by kernel_rfl) (by kernel_rfl) (fun _ _ _ h => h) S0 (Or.inl ⟨by rfl, fun w' h => (by dsimp only at h; go_simp)⟩) (fun _ => by rfl) ?_
  simp only [Act.put, List.setIfInBounds_toArray, List.set_cons_zero, List.set_cons_succ]
  refine AnyF.takeD (i := 2) (d := 16) (.pointer (some ⟨rb, 0, none⟩)) rfl rfl rfl (by kernel_rfl) (by kernel_rfl) (by kernel_rfl) (by kernel_rfl) (by kernel_rfl) (fun _ _ _ h => h) S0 (Or.inl ⟨by rfl, fun w' h => (by dsimp only at h; go_simp)⟩) (fun _ => by rfl) ?_
  simp only [Act.put, List.setIfInBounds_toArray, List.set_cons_zero, List.set_cons_succ]
  refine AnyF.one (i := 3) rfl (by kernel_rfl) (fun K1 hK1 => ?_)
  go_simp
  refine ⟨trivial, ?_⟩
  refine (callsIn_wide.2 (rdLabel_any _ rb a n cap _ R3.drew)).mono ?_
  rintro e u4 ⟨b2, l2, a2, c2, rfl, l23, o4, R4, g4⟩
  have lr4 := R3.lt
  have Z4 := Z3d.grown g4 (by simp; omega)
  have X4 := X3d.grown g4 (by simp; omega)
  have Y4 := Y3d.grown g4 (by simp; omega)
  have E4 : Below w.heap.size w u4 := E3.drew.grown g4 E3.size (fun j e => by cases e; omega)
  have P4 := (OwnList.below P3 (Below.refl _ u3).drew).keptR g4 (by omega)
  have I4 := (I3.below (Below.refl _ u3).drew).kept g4 (by omega)
  have Q4 : OwnList u4 (rb + 1) (.slice a2 l2.length c2) l2 := o4.low (by show rb + 1 ≤ u3.heap.size; omega)
  refine hK1.out _ _ (fun _ => Z4.two) ?_
  clear hK1 K1 X3 Y3 Z3 X3d Y3d Z3d P3 I3 R3 o4 S0 E3 z0 z1
  obtain ⟨x0, x1⟩ := X4.two
  have xf0 := X4.frozen2 0
  have xf1 := X4.frozen2 1
  refine AnyF.one (i := 4) rfl (by kernel_rfl) (fun K1 hK1 => ?_)
  go_simp
  have Z5 := Z4.far2 (P := w.heap.size) (by omega) (.int .i64 b1) (.slice a1 l1.length c1)
  have Y5 := Y4.far2 (P := w.heap.size) (by omega) (.int .i64 b1) (.slice a1 l1.length c1)
  have X5 := (X4.set0 (.int .i64 b1)).set1 (.slice a1 l1.length c1)
  have E5 := (E4.setCell (p := ⟨w.heap.size, 0, none⟩) (Nat.le_refl _) (.int .i64 b1)).setCell (p := ⟨w.heap.size, 1, none⟩) (Nat.le_refl _) (.slice a1 l1.length c1)
  have P5 := (P4.set (P := w.heap.size) (by omega) 0 (.int .i64 b1)).set (P := w.heap.size) (by omega) 1 (.slice a1 l1.length c1)
  have I5 := (I4.set (P := w.heap.size) (by omega) 0 (.int .i64 b1)).set (P := w.heap.size) (by omega) 1 (.slice a1 l1.length c1)
  have Q5 := (Q4.set (P := w.heap.size) (by omega) 0 (.int .i64 b1)).set (P := w.heap.size) (by omega) 1 (.slice a1 l1.length c1)
  refine hK1.out _ _ (fun _ => Z5.two) ?_
  clear hK1 K1 X4 Y4 Z4 E4 P4 I4 Q4 x0 x1 xf0 xf1
  generalize (u4.setCell ⟨w.heap.size, 0, none⟩ (.int .i64 b1)).setCell ⟨w.heap.size, 1, none⟩ (.slice a1 l1.length c1) = u5 at *
  refine AnyF.takeD (i := 5) (d := 3) (.slice (some A) o.length oc) rfl rfl rfl (by kernel_rfl) (by kernel_rfl) (by kernel_rfl) (by kernel_rfl) (by kernel_rfl) (fun _ _ _ h => h) Z5.two (Or.inl ⟨by rfl, fun w' h => (by dsimp only at h; go_simp)⟩) (fun _ => by rfl) ?_
  simp only [Act.put, List.setIfInBounds_toArray, List.set_cons_zero, List.set_cons_succ]
  obtain ⟨y0, y1⟩ := Y5.two
  have yf0 := Y5.frozen2 0
  have yf1 := Y5.frozen2 1
  refine AnyF.one (i := 6) rfl (by kernel_rfl) (fun K1 hK1 => ?_)
  go_simp
  have Z6 := Z5.far2 (P := w.heap.size + 1) (by omega) (.int .i64 b2) (.slice a2 l2.length c2)
  have X6 := X5.far2 (P := w.heap.size + 1) (by omega) (.int .i64 b2) (.slice a2 l2.length c2)
  have Y6 := (Y5.set0 (.int .i64 b2)).set1 (.slice a2 l2.length c2)
  have E6 := (E5.setCell (p := ⟨w.heap.size + 1, 0, none⟩) (by dsimp only; omega) (.int .i64 b2)).setCell (p := ⟨w.heap.size + 1, 1, none⟩) (by dsimp only; omega) (.slice a2 l2.length c2)
  have P6 := (P5.set (P := w.heap.size + 1) (by omega) 0 (.int .i64 b2)).set (P := w.heap.size + 1) (by omega) 1 (.slice a2 l2.length c2)
  have I6 := (I5.set (P := w.heap.size + 1) (by omega) 0 (.int .i64 b2)).set (P := w.heap.size + 1) (by omega) 1 (.slice a2 l2.length c2)
  have Q6 := (Q5.set (P := w.heap.size + 1) (by omega) 0 (.int .i64 b2)).set (P := w.heap.size + 1) (by omega) 1 (.slice a2 l2.length c2)
  refine hK1.out _ _ (fun _ => Z6.two) ?_
  clear hK1 K1 X5 Y5 Z5 E5 P5 I5 Q5 y0 y1 yf0 yf1
  generalize (u5.setCell ⟨w.heap.size + 1, 0, none⟩ (.int .i64 b2)).setCell ⟨w.heap.size + 1, 1, none⟩ (.slice a2 l2.length c2) = u6 at *
  refine AnyF.done (by kernel_rfl) ?_
  obtain ⟨x0, x1⟩ := X6.two
  obtain ⟨y0, y1⟩ := Y6.two
  go_wp2
  refine bodyPost_ret (v := .tuple #[.agg #[.int .i64 b1, .slice a1 l1.length c1], .slice (some A) o.length oc, .agg #[.int .i64 b2, .slice a2 l2.length c2]]) (by simp [results, Try.results16, go_sem, x0, x1, y0, y1]) rfl ⟨b1, l1, a1, c1, o, A, oc, b2, l2, a2, c2, rfl, l13, l23, ho2, hgo, OwnCats.cats P6, I6.lies, OwnCats.cats Q6, E6⟩
end Go.Proofs.Ytjolkbcnglhebaa
