/- The drawn thread and label of FnNoLeak. -/
import Derived.Test.YtjolkbcnglhebaaGE
namespace Go.Proofs.Ytjolkbcnglhebaa
open Go.RowKit Go.Deep Go.Maps

theorem Blk.far7 {W : World} {P Q : Nat} {o : Obj} (h : Blk W Q o) (hne : Q ≠ P) (x0 x1 x2 x3 x4 x5 x6 : Value) : Blk (World.set7 W P x0 x1 x2 x3 x4 x5 x6) Q o := by
  unfold World.set7
  refine (blk_setCell_other _ _ _ _ hne).trans ?_
  refine (blk_setCell_other _ _ _ _ hne).trans ?_
  refine (blk_setCell_other _ _ _ _ hne).trans ?_
  refine (blk_setCell_other _ _ _ _ hne).trans ?_
  refine (blk_setCell_other _ _ _ _ hne).trans ?_
  refine (blk_setCell_other _ _ _ _ hne).trans ?_
  exact (blk_setCell_other _ _ _ _ hne).trans h
theorem below_set7 {B : Nat} {a W : World} (h : Below B a W) {P : Nat} (hp : B ≤ P) (x0 x1 x2 x3 x4 x5 x6 : Value) : Below B a (World.set7 W P x0 x1 x2 x3 x4 x5 x6) :=
  ((((((h.setCell (p := ⟨P, 0, none⟩) hp x0).setCell (p := ⟨P, 1, none⟩) hp x1).setCell (p := ⟨P, 2, none⟩) hp x2).setCell (p := ⟨P, 3, none⟩) hp x3).setCell (p := ⟨P, 4, none⟩) hp x4).setCell (p := ⟨P, 5, none⟩) hp x5).setCell (p := ⟨P, 6, none⟩) hp x6
theorem ownsRow_set7 {W : World} {B e size n : Nat} {v : Value} {cs : List Value} (h : W.ownsRow B e size v n cs) {P : Nat} (hp : P < B) (x0 x1 x2 x3 x4 x5 x6 : Value) : (World.set7 W P x0 x1 x2 x3 x4 x5 x6).ownsRow B e size v n cs :=
  World.ownsRow.kept h (grown_set (grown_set (grown_set (grown_set (grown_set (grown_set (grown_set (grown_refl W P) 0 x0) 1 x1) 2 x2) 3 x3) 4 x4) 5 x5) 6 x6) (Or.inr (fun e => by have := (World.ownsRow.lt h _ e).1; omega))

set_option maxRecDepth 100000 in
set_option maxHeartbeats 8000000 in
theorem drawSees_any (a : Option Addr) (n cap : Nat) (w : World) (hn : n ≤ 1048576) (hb : BytesAt w a n) :
    Calls Try.prog 21 #[.slice a n cap] w fun e w' => ∃ (id made b1 : Int) (l1 : List (Int × Int)) (a1 : Option Addr) (c1 : Nat) (b2 : Int) (o : List Int) (A : Addr) (oc : Nat) (bl : Int) (ll : List (Int × Int)) (al : Option Addr) (cl : Nat),
      e = .returned (.tuple #[.agg #[.int .i64 id, .int .i64 b1, .slice a1 l1.length c1, .int .i64 b2, .slice none 0 0, .slice (some A) o.length oc, .int .i64 made], .agg #[.int .i64 bl, .slice al ll.length cl]]) ∧ l1.length ≤ 3 ∧ ll.length ≤ 3 ∧ o.length ≤ 2 ∧ GoodO o ∧
      CatsAt w' a1 l1.length (fstAt l1) (sndAt l1) ∧ IntL w' (some A) o ∧ CatsAt w' al ll.length (fstAt ll) (sndAt ll) ∧ Below w.heap.size w w' := by
  have K0 := ((Below.refl _ w).alloc (Nat.le_refl _) (.cells #[.int .i64 0, .int .i64 0, .slice none 0 0, .int .i64 0, .slice none 0 0, .slice none 0 0, .int .i64 0] 39)).alloc (by simp) (.cells #[.int .i64 0, .slice none 0 0] 26)
  have X0 : Blk ((w.alloc (.cells #[.int .i64 0, .int .i64 0, .slice none 0 0, .int .i64 0, .slice none 0 0, .slice none 0 0, .int .i64 0] 39)).alloc (.cells #[.int .i64 0, .slice none 0 0] 26)) w.heap.size (.cells #[.int .i64 0, .int .i64 0, .slice none 0 0, .int .i64 0, .slice none 0 0, .slice none 0 0, .int .i64 0] 39) := (Blk.new w _).alloc _
  have Y0 : Blk ((w.alloc (.cells #[.int .i64 0, .int .i64 0, .slice none 0 0, .int .i64 0, .slice none 0 0, .slice none 0 0, .int .i64 0] 39)).alloc (.cells #[.int .i64 0, .slice none 0 0] 26)) (w.heap.size + 1) (.cells #[.int .i64 0, .slice none 0 0] 26) := by
    have := Blk.new (w.alloc (.cells #[.int .i64 0, .int .i64 0, .slice none 0 0, .int .i64 0, .slice none 0 0, .slice none 0 0, .int .i64 0] 39)) (.cells #[.int .i64 0, .slice none 0 0] 26)
    simpa using this
  have HB : Hid (BytesAt w a n) := hb
  clear hb
  go_enter Try.func21, Try.ntmps21
  go_wp2_with fail
  refine (l1Open_any a n cap _ hn (HB.out.below K0)).mono ?_
  rintro e u1 ⟨rb, rfl, R1⟩
  have E1 : Below w.heap.size w u1 := K0.trans (R1.E.mono (by simp; omega))
  have X1 := X0.below R1.E
  have Y1 := Y0.below R1.E
  have rl : w.heap.size + 1 + 1 ≤ rb := by have := R1.le; simpa using this
  clear X0 Y0 K0
  go_wp2_with fail
  refine (rdThread_any _ rb a n cap _ R1).mono ?_
  rintro e u2 ⟨id, made, b1, l1, a1, c1, b2, o, A, oc, rfl, hl1, ho2, hgo, o1, i1, R2, g2⟩
  have ru := R1.lt
  have E2 : Below w.heap.size w u2 := E1.grown g2 (by omega) (fun j e => by cases e; omega)
  have X2 := (X1.grown g2 (by simp; omega)).alloc (.cells #[.int .i64 id, .int .i64 b1, .slice a1 l1.length c1, .int .i64 b2, .slice none 0 0, .slice (some A) o.length oc, .int .i64 made] 39)
  have Y2 := (Y1.grown g2 (by simp; omega)).alloc (.cells #[.int .i64 id, .int .i64 b1, .slice a1 l1.length c1, .int .i64 b2, .slice none 0 0, .slice (some A) o.length oc, .int .i64 made] 39)
  have Z2 := Blk.new u2 (.cells #[.int .i64 id, .int .i64 b1, .slice a1 l1.length c1, .int .i64 b2, .slice none 0 0, .slice (some A) o.length oc, .int .i64 made] 39)
  have K2 := (Below.refl _ u2).alloc (Nat.le_refl _) (.cells #[.int .i64 id, .int .i64 b1, .slice a1 l1.length c1, .int .i64 b2, .slice none 0 0, .slice (some A) o.length oc, .int .i64 made] 39)
  have P2 := (OwnList.below o1 K2).low (B' := rb + 1) (by omega)
  have I2 := (OwnI.below i1 K2).low (B' := rb + 1) (by omega)
  have R2' := R2.below K2
  have E2' := E2.trans (K2.mono (by have := E2.size; omega))
  have zr : rb < u2.heap.size := R2.lt
  clear R1 g2 X1 Y1 o1 i1 K2 R2 E1 E2
  go_wp2_with fail
  refine (once_any _ rb a n cap 3 _ (by omega) R2').mono ?_
  rintro e u3 ⟨t, rfl, R3, g3⟩
  have E3 := E2'.grown g3 E2'.size (fun j e => by cases e; omega)
  have X3 := X2.grown g3 (by simp; omega)
  have Y3 := Y2.grown g3 (by simp; omega)
  have Z3 := Z2.grown g3 (by simp; omega)
  have P3 := P2.keptR g3 (by omega)
  have I3 := I2.kept g3 (by omega)
  clear g3 X2 Y2 Z2 R2' P2 I2 E2'
  generalize u2.heap.size = Z at *
  have S0 : u3.drew.cell? ⟨Z, 0, none⟩ = some (.int .i64 id) ∧ u3.drew.cell? ⟨Z, 1, none⟩ = some (.int .i64 b1) ∧ u3.drew.cell? ⟨Z, 2, none⟩ = some (.slice a1 l1.length c1) ∧ u3.drew.cell? ⟨Z, 3, none⟩ = some (.int .i64 b2) ∧ u3.drew.cell? ⟨Z, 4, none⟩ = some (.slice none 0 0) ∧ u3.drew.cell? ⟨Z, 5, none⟩ = some (.slice (some A) o.length oc) ∧ u3.drew.cell? ⟨Z, 6, none⟩ = some (.int .i64 made) := (show Blk u3.drew Z (.cells #[.int .i64 id, .int .i64 b1, .slice a1 l1.length c1, .int .i64 b2, .slice none 0 0, .slice (some A) o.length oc, .int .i64 made] 39) from Z3).seven
  have X3d : Blk u3.drew w.heap.size (.cells #[.int .i64 0, .int .i64 0, .slice none 0 0, .int .i64 0, .slice none 0 0, .slice none 0 0, .int .i64 0] 39) := X3
  have Y3d : Blk u3.drew (w.heap.size + 1) (.cells #[.int .i64 0, .slice none 0 0] 26) := Y3
  have Z3d : Blk u3.drew Z (.cells #[.int .i64 id, .int .i64 b1, .slice a1 l1.length c1, .int .i64 b2, .slice none 0 0, .slice (some A) o.length oc, .int .i64 made] 39) := Z3
  have E3d := E3.drew
  have P3d := OwnList.below P3 (Below.refl _ u3).drew
  have I3d := OwnI.below I3 (Below.refl _ u3).drew
  have R3d := R3.drew
  clear X3 Y3 Z3 E3 P3 I3
  cases t with
  | true =>
    go_wp2_with fail
    refine (wpIn_wide (n := 3)).1 ?_
    refine AnyF.region (fun w' => w'.cell? ⟨Z, 0, none⟩ = some (.int .i64 id) ∧ w'.cell? ⟨Z, 1, none⟩ = some (.int .i64 b1) ∧ w'.cell? ⟨Z, 2, none⟩ = some (.slice a1 l1.length c1) ∧ w'.cell? ⟨Z, 3, none⟩ = some (.int .i64 b2) ∧ w'.cell? ⟨Z, 4, none⟩ = some (.slice none 0 0) ∧ w'.cell? ⟨Z, 5, none⟩ = some (.slice (some A) o.length oc) ∧ w'.cell? ⟨Z, 6, none⟩ = some (.int .i64 made)) [] hmixed ?_
    clear R3
    generalize u3.drew = v3 at *
    refine AnyF.takeD (i := 0) (d := 12) (.agg #[.int .i64 id, .int .i64 b1, .slice a1 l1.length c1, .int .i64 b2, .slice none 0 0, .slice (some A) o.length oc, .int .i64 made]) rfl rfl rfl (by kernel_rfl) (by kernel_rfl) (by kernel_rfl) (by kernel_rfl) (by kernel_rfl) (fun _ _ _ h => h) S0 (Or.inl ⟨by rfl, fun w' h => (by dsimp only at h; go_simp)⟩) (fun _ => by rfl) ?_
    simp only [Act.put, List.setIfInBounds_toArray, List.set_cons_zero, List.set_cons_succ]
    refine AnyF.takeD (i := 1) (d := 13) (.pointer (some ⟨Z, 1, none⟩)) rfl rfl rfl (by kernel_rfl) (by kernel_rfl) (by kernel_rfl) (by kernel_rfl) (by kernel_rfl) (fun _ _ _ h => h) S0 (Or.inl ⟨by rfl, fun w' h => (by dsimp only at h; go_simp)⟩) (fun _ => by rfl) ?_
    simp only [Act.put, List.setIfInBounds_toArray, List.set_cons_zero, List.set_cons_succ]
    refine AnyF.takeD (i := 2) (d := 14) (.agg #[.int .i64 b1, .slice a1 l1.length c1]) rfl rfl rfl (by kernel_rfl) (by kernel_rfl) (by kernel_rfl) (by kernel_rfl) (by kernel_rfl) (fun _ _ _ h => h) S0 (Or.inl ⟨by rfl, fun w' h => (by dsimp only at h; go_simp)⟩) (fun _ => by rfl) ?_
    simp only [Act.put, List.setIfInBounds_toArray, List.set_cons_zero, List.set_cons_succ]
    clear R3d
    obtain ⟨x0, x1, x2, x3, x4, x5, x6⟩ := X3d.seven
    have f0 := X3d.frozen7 0
    have f1 := X3d.frozen7 1
    have f2 := X3d.frozen7 2
    have f3 := X3d.frozen7 3
    have f4 := X3d.frozen7 4
    have f5 := X3d.frozen7 5
    have f6 := X3d.frozen7 6
    refine AnyF.one (i := 3) rfl (by kernel_rfl) (fun K1 hK1 => ?_)
    go_simp
    have Zs := Z3d.far7 (P := w.heap.size) (by omega) (.int .i64 id) (.int .i64 b1) (.slice a1 l1.length c1) (.int .i64 b2) (.slice none 0 0) (.slice (some A) o.length oc) (.int .i64 made)
    have Ys := Y3d.far7 (P := w.heap.size) (by omega) (.int .i64 id) (.int .i64 b1) (.slice a1 l1.length c1) (.int .i64 b2) (.slice none 0 0) (.slice (some A) o.length oc) (.int .i64 made)
    have Xs := X3d.set7 (.int .i64 id) (.int .i64 b1) (.slice a1 l1.length c1) (.int .i64 b2) (.slice none 0 0) (.slice (some A) o.length oc) (.int .i64 made)
    have Es := below_set7 E3d (Nat.le_refl w.heap.size) (.int .i64 id) (.int .i64 b1) (.slice a1 l1.length c1) (.int .i64 b2) (.slice none 0 0) (.slice (some A) o.length oc) (.int .i64 made)
    have Ps := ownsRow_set7 P3d (show w.heap.size < rb + 1 by omega) (.int .i64 id) (.int .i64 b1) (.slice a1 l1.length c1) (.int .i64 b2) (.slice none 0 0) (.slice (some A) o.length oc) (.int .i64 made)
    have Is := ownsRow_set7 I3d (show w.heap.size < rb + 1 by omega) (.int .i64 id) (.int .i64 b1) (.slice a1 l1.length c1) (.int .i64 b2) (.slice none 0 0) (.slice (some A) o.length oc) (.int .i64 made)
    refine hK1.out _ _ (fun _ => Zs.seven) ?_
    clear hK1 K1 x0 x1 x2 x3 x4 x5 x6 f0 f1 f2 f3 f4 f5 f6 X3d Y3d Z3d E3d P3d I3d
    change AnyF _ _ _ _ _ _ _ _ _ _ _ (World.set7 v3 w.heap.size (.int .i64 id) (.int .i64 b1) (.slice a1 l1.length c1) (.int .i64 b2) (.slice none 0 0) (.slice (some A) o.length oc) (.int .i64 made))
    generalize World.set7 v3 w.heap.size (.int .i64 id) (.int .i64 b1) (.slice a1 l1.length c1) (.int .i64 b2) (.slice none 0 0) (.slice (some A) o.length oc) (.int .i64 made) = us at *
    obtain ⟨y0, y1⟩ := Ys.two
    have yf0 := Ys.frozen2 0
    have yf1 := Ys.frozen2 1
    refine AnyF.one (i := 4) rfl (by kernel_rfl) (fun K1 hK1 => ?_)
    go_simp
    have Zt := Zs.far2 (P := w.heap.size + 1) (by omega) (.int .i64 b1) (.slice a1 l1.length c1)
    have Xt := Xs.far2 (P := w.heap.size + 1) (by omega) (.int .i64 b1) (.slice a1 l1.length c1)
    have Yt := (Ys.set0 (.int .i64 b1)).set1 (.slice a1 l1.length c1)
    have Et := (Es.setCell (p := ⟨w.heap.size + 1, 0, none⟩) (by dsimp only; omega) (.int .i64 b1)).setCell (p := ⟨w.heap.size + 1, 1, none⟩) (by dsimp only; omega) (.slice a1 l1.length c1)
    have Pt := OwnList.set (OwnList.set Ps (P := w.heap.size + 1) (by omega) 0 (.int .i64 b1)) (P := w.heap.size + 1) (by omega) 1 (.slice a1 l1.length c1)
    have It := OwnI.set (OwnI.set Is (P := w.heap.size + 1) (by omega) 0 (.int .i64 b1)) (P := w.heap.size + 1) (by omega) 1 (.slice a1 l1.length c1)
    refine hK1.out _ _ (fun _ => Zt.seven) ?_
    clear hK1 K1 Xs Ys Zs Es Ps Is y0 y1 yf0 yf1
    generalize (us.setCell ⟨w.heap.size + 1, 0, none⟩ (.int .i64 b1)).setCell ⟨w.heap.size + 1, 1, none⟩ (.slice a1 l1.length c1) = ut at *
    refine AnyF.done (by kernel_rfl) ?_
    obtain ⟨x0, x1, x2, x3, x4, x5, x6⟩ := Xt.seven
    obtain ⟨y0, y1⟩ := Yt.two
    go_wp2
    refine bodyPost_ret (v := .tuple #[.agg #[.int .i64 id, .int .i64 b1, .slice a1 l1.length c1, .int .i64 b2, .slice none 0 0, .slice (some A) o.length oc, .int .i64 made], .agg #[.int .i64 b1, .slice a1 l1.length c1]]) (by simp [results, Try.results21, go_sem, x0, x1, x2, x3, x4, x5, x6, y0, y1]) rfl ⟨id, made, b1, l1, a1, c1, b2, o, A, oc, b1, l1, a1, c1, rfl, hl1, hl1, ho2, hgo, OwnCats.cats Pt, It.lies, OwnCats.cats Pt, Et⟩
  | false =>
    go_wp2_with fail
    refine (wpIn_wide (n := 3)).1 ?_
    refine AnyF.region (fun w' => w'.cell? ⟨Z, 0, none⟩ = some (.int .i64 id) ∧ w'.cell? ⟨Z, 1, none⟩ = some (.int .i64 b1) ∧ w'.cell? ⟨Z, 2, none⟩ = some (.slice a1 l1.length c1) ∧ w'.cell? ⟨Z, 3, none⟩ = some (.int .i64 b2) ∧ w'.cell? ⟨Z, 4, none⟩ = some (.slice none 0 0) ∧ w'.cell? ⟨Z, 5, none⟩ = some (.slice (some A) o.length oc) ∧ w'.cell? ⟨Z, 6, none⟩ = some (.int .i64 made)) [] hmixed ?_
    clear R3
    generalize u3.drew = v3 at *
    refine AnyF.takeD (i := 0) (d := 15) (.agg #[.int .i64 id, .int .i64 b1, .slice a1 l1.length c1, .int .i64 b2, .slice none 0 0, .slice (some A) o.length oc, .int .i64 made]) rfl rfl rfl (by kernel_rfl) (by kernel_rfl) (by kernel_rfl) (by kernel_rfl) (by kernel_rfl) (fun _ _ _ h => h) S0 (Or.inl ⟨by rfl, fun w' h => (by dsimp only at h; go_simp)⟩) (fun _ => by rfl) ?_
    simp only [Act.put, List.setIfInBounds_toArray, List.set_cons_zero, List.set_cons_succ]
    refine AnyF.takeD (i := 1) (d := 16) (.pointer (some ⟨rb, 0, none⟩)) rfl rfl rfl (by kernel_rfl) (by kernel_rfl) (by kernel_rfl) (by kernel_rfl) (by kernel_rfl) (fun _ _ _ h => h) S0 (Or.inl ⟨by rfl, fun w' h => (by dsimp only at h; go_simp)⟩) (fun _ => by rfl) ?_
    simp only [Act.put, List.setIfInBounds_toArray, List.set_cons_zero, List.set_cons_succ]
    refine AnyF.one (i := 2) rfl (by kernel_rfl) (fun K1 hK1 => ?_)
    go_simp
    refine ⟨trivial, ?_⟩
    refine (callsIn_wide.2 (rdLabel_any _ rb a n cap _ R3d)).mono ?_
    rintro e u4 ⟨bl, ll, al, cl, rfl, hll, o4, R4, g4⟩
    have lr4 := R3d.lt
    have Z4 := Z3d.grown g4 (by simp; omega)
    have X4 := X3d.grown g4 (by simp; omega)
    have Y4 := Y3d.grown g4 (by simp; omega)
    have E4 := E3d.grown g4 E3d.size (fun j e => by cases e; omega)
    have P4 := P3d.keptR g4 (by omega)
    have I4 := I3d.kept g4 (by omega)
    have Q4 : OwnList u4 (rb + 1) (.slice al ll.length cl) ll := o4.low (by omega)
    refine hK1.out _ _ (fun _ => Z4.seven) ?_
    clear hK1 K1 X3d Y3d Z3d E3d P3d I3d R3d o4 S0 R4 g4
    obtain ⟨x0, x1, x2, x3, x4, x5, x6⟩ := X4.seven
    have f0 := X4.frozen7 0
    have f1 := X4.frozen7 1
    have f2 := X4.frozen7 2
    have f3 := X4.frozen7 3
    have f4 := X4.frozen7 4
    have f5 := X4.frozen7 5
    have f6 := X4.frozen7 6
    refine AnyF.one (i := 3) rfl (by kernel_rfl) (fun K1 hK1 => ?_)
    go_simp
    have Zs := Z4.far7 (P := w.heap.size) (by omega) (.int .i64 id) (.int .i64 b1) (.slice a1 l1.length c1) (.int .i64 b2) (.slice none 0 0) (.slice (some A) o.length oc) (.int .i64 made)
    have Ys := Y4.far7 (P := w.heap.size) (by omega) (.int .i64 id) (.int .i64 b1) (.slice a1 l1.length c1) (.int .i64 b2) (.slice none 0 0) (.slice (some A) o.length oc) (.int .i64 made)
    have Xs := X4.set7 (.int .i64 id) (.int .i64 b1) (.slice a1 l1.length c1) (.int .i64 b2) (.slice none 0 0) (.slice (some A) o.length oc) (.int .i64 made)
    have Es := below_set7 E4 (Nat.le_refl w.heap.size) (.int .i64 id) (.int .i64 b1) (.slice a1 l1.length c1) (.int .i64 b2) (.slice none 0 0) (.slice (some A) o.length oc) (.int .i64 made)
    have Ps := ownsRow_set7 P4 (show w.heap.size < rb + 1 by omega) (.int .i64 id) (.int .i64 b1) (.slice a1 l1.length c1) (.int .i64 b2) (.slice none 0 0) (.slice (some A) o.length oc) (.int .i64 made)
    have Is := ownsRow_set7 I4 (show w.heap.size < rb + 1 by omega) (.int .i64 id) (.int .i64 b1) (.slice a1 l1.length c1) (.int .i64 b2) (.slice none 0 0) (.slice (some A) o.length oc) (.int .i64 made)
    have Qs := ownsRow_set7 Q4 (show w.heap.size < rb + 1 by omega) (.int .i64 id) (.int .i64 b1) (.slice a1 l1.length c1) (.int .i64 b2) (.slice none 0 0) (.slice (some A) o.length oc) (.int .i64 made)
    refine hK1.out _ _ (fun _ => Zs.seven) ?_
    clear hK1 K1 x0 x1 x2 x3 x4 x5 x6 f0 f1 f2 f3 f4 f5 f6 X4 Y4 Z4 E4 P4 I4 Q4
    change AnyF _ _ _ _ _ _ _ _ _ _ _ (World.set7 u4 w.heap.size (.int .i64 id) (.int .i64 b1) (.slice a1 l1.length c1) (.int .i64 b2) (.slice none 0 0) (.slice (some A) o.length oc) (.int .i64 made))
    generalize World.set7 u4 w.heap.size (.int .i64 id) (.int .i64 b1) (.slice a1 l1.length c1) (.int .i64 b2) (.slice none 0 0) (.slice (some A) o.length oc) (.int .i64 made) = us at *
    obtain ⟨y0, y1⟩ := Ys.two
    have yf0 := Ys.frozen2 0
    have yf1 := Ys.frozen2 1
    refine AnyF.one (i := 4) rfl (by kernel_rfl) (fun K1 hK1 => ?_)
    go_simp
    have Zt := Zs.far2 (P := w.heap.size + 1) (by omega) (.int .i64 bl) (.slice al ll.length cl)
    have Xt := Xs.far2 (P := w.heap.size + 1) (by omega) (.int .i64 bl) (.slice al ll.length cl)
    have Yt := (Ys.set0 (.int .i64 bl)).set1 (.slice al ll.length cl)
    have Et := (Es.setCell (p := ⟨w.heap.size + 1, 0, none⟩) (by dsimp only; omega) (.int .i64 bl)).setCell (p := ⟨w.heap.size + 1, 1, none⟩) (by dsimp only; omega) (.slice al ll.length cl)
    have Pt := OwnList.set (OwnList.set Ps (P := w.heap.size + 1) (by omega) 0 (.int .i64 bl)) (P := w.heap.size + 1) (by omega) 1 (.slice al ll.length cl)
    have It := OwnI.set (OwnI.set Is (P := w.heap.size + 1) (by omega) 0 (.int .i64 bl)) (P := w.heap.size + 1) (by omega) 1 (.slice al ll.length cl)
    have Qt := OwnList.set (OwnList.set Qs (P := w.heap.size + 1) (by omega) 0 (.int .i64 bl)) (P := w.heap.size + 1) (by omega) 1 (.slice al ll.length cl)
    refine hK1.out _ _ (fun _ => Zt.seven) ?_
    clear hK1 K1 Xs Ys Zs Es Ps Is Qs y0 y1 yf0 yf1
    generalize (us.setCell ⟨w.heap.size + 1, 0, none⟩ (.int .i64 bl)).setCell ⟨w.heap.size + 1, 1, none⟩ (.slice al ll.length cl) = ut at *
    refine AnyF.done (by kernel_rfl) ?_
    obtain ⟨x0, x1, x2, x3, x4, x5, x6⟩ := Xt.seven
    obtain ⟨y0, y1⟩ := Yt.two
    go_wp2
    refine bodyPost_ret (v := .tuple #[.agg #[.int .i64 id, .int .i64 b1, .slice a1 l1.length c1, .int .i64 b2, .slice none 0 0, .slice (some A) o.length oc, .int .i64 made], .agg #[.int .i64 bl, .slice al ll.length cl]]) (by simp [results, Try.results21, go_sem, x0, x1, x2, x3, x4, x5, x6, y0, y1]) rfl ⟨id, made, b1, l1, a1, c1, b2, o, A, oc, bl, ll, al, cl, rfl, hl1, hll, ho2, hgo, OwnCats.cats Pt, It.lies, OwnCats.cats Qt, Et⟩
end Go.Proofs.Ytjolkbcnglhebaa
