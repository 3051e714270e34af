/- The reader's label: the walk. -/
import Derived.Test.YthbmfbnnemgbpaaGreatDoorZ33
namespace Go.Proofs.YthbmfbnnemgbpaaGreatDoor
open Go.RowKit Go.Deep Go.Maps
set_option maxRecDepth 100000 in
set_option maxHeartbeats 8000000 in
theorem rdLabel_any (w0 : World) (rb : Nat) (a : Option Addr) (n cap : Nat) (w : World) (h : Rd w0 w rb a n cap) :
 Calls Tryz.prog 37 #[.pointer (some ⟨rb, 0, none⟩)] w fun e w' => ∃ (base : Int) (l : List (Int × Int)) (va : Option Addr) (vc : Nat), e = .returned (.agg #[.int .i64 base, .slice va l.length vc]) ∧ l.length ≤ 3 ∧ OwnList w' w.heap.size (.slice va l.length vc) l ∧ Rd w0 w' rb a n cap ∧ w.grownBy w' (some rb) := by
 have HR : Hid (Rd w0 w rb a n cap) := h
 have lr := h.lt
 clear h
 have K0 := (Below.refl _ w).alloc (Nat.le_refl _) (.cells #[.int .i64 0, .slice none 0 0] 26)
 have Y0 := Blk.new w (.cells #[.int .i64 0, .slice none 0 0] 26)
 go_enter Tryz.func37, Tryz.ntmps37
 go_wp2_with fail
 refine (rdBelow_any w0 rb a n cap 2 _ (by omega) (HR.out.below K0)).mono ?_
 rintro e u1 ⟨x, rfl, _, x2, R1, g1⟩
 have x2' := x2 (by omega)
 have gw : w.grownBy u1 (some rb) := grown_pair (grown_trans (grown_refl w rb) (World.grownBy_alloc w _ none) (fun j e => by cases e)) g1
 have Y1 := Y0.grown g1 (by simp; omega)
 have wx : IntKind.i64.wrap (1 + (x : Int)) = 1 + (x : Int) := by rw [IntKind.wrap_i64]; omega
 have su : w.heap.size + 1 ≤ u1.heap.size := by have := g1.size; simpa using this
 have L1 : LSt w0 w (u1.alloc (.cells #[.int .i64 (1 + (x : Int)), .slice none 0 0] 26)) rb a n cap u1.heap.size (1 + (x : Int)) none 0 [] :=
  ⟨Blk.new _ _, R1.below ((Below.refl _ _).alloc (Nat.le_refl _) _), OwnCats.nil _ _ _ _, grown_below gw ((Below.refl _ _).alloc (Nat.le_refl _) _)⟩
 have Y2 := Y1.alloc (.cells #[.int .i64 (1 + (x : Int)), .slice none 0 0] 26)
 have hz : rb < u1.heap.size := by omega
 have hw : w.heap.size ≤ u1.heap.size := by omega
 clear R1 g1 Y1 Y0 K0 gw HR x2
 go_wp2_with fail
 refine (once_any w0 rb a n cap 4 _ (by omega) L1.r).mono ?_
 rintro e u2 ⟨t, rfl, R2, g2⟩
 have L2 := L1.call hz R2 g2
 have Y3 := Y2.grown g2 (by simp; omega)
 clear L1 R2 g2 Y2
 generalize u1.heap.size = Z at *
 go_upto_if 10 with fail
 go_cut [] (fun wc => ∃ base : Int, LSt w0 w wc rb a n cap Z base none 0 [] ∧ Blk wc w.heap.size (.cells #[.int .i64 0, .slice none 0 0] 26))
 case first =>
  cases t with
  | true =>
   go_wp2_with fail
   refine (rdBelow_any w0 rb a n cap 4 _ (by omega) L2.r).mono ?_
   rintro e u3 ⟨y, rfl, _, _, R3, g3⟩
   have L3 := L2.call hz R3 g3
   have Y4 := Y3.grown g3 (by simp; omega)
   obtain ⟨z1, z2⟩ := L3.z.two
   have zf := L3.z.frozen2 0
   go_wp2_with fail
   go_meet
   case rel => exact ⟨_, L3.put0 hz hw _, (blk_setCell_other _ _ _ _ (by dsimp only; omega)).trans Y4⟩
  | false =>
   go_wp2_with fail
   go_meet
   case rel => exact ⟨_, L2, Y3⟩
 case rest =>
  obtain ⟨base, L4, Y4⟩ := hcut
  clear L2 Y3
  go_wp2_with fail
  refine (rdBelow_any w0 rb a n cap 3 _ (by omega) L4.r).mono ?_
  rintro e u4 ⟨m, rfl, _, m3, R5, g5⟩
  have m3' := m3 (by omega)
  have L5 := L4.call hz R5 g5
  have Y5 := Y4.grown g5 (by simp; omega)
  clear L4 R5 g5 Y4
  go_wp2_with fail
  go_loopw [4] (fun i wr => ∃ (k : Nat) (l : List (Int × Int)) (va : Option Addr) (vc : Nat), k ≤ 2 ∧ i = .int .i64 k ∧ l.length + k ≤ 2 ∧ LSt w0 w wr rb a n cap Z base va vc l ∧ Blk wr w.heap.size (.cells #[.int .i64 0, .slice none 0 0] 26)) (fun i _ => (intOf i).toNat)
  case atStart => exact ⟨m, [], none, 0, by omega, rfl, by simp; omega, L5, Y5⟩
  case round =>
   obtain ⟨k, l, va, vc, hk, rfl, hlk, L6, Y6⟩ := hrel
   clear L5 Y5
   by_cases hlt : 0 < k
   ·have hlt' : (0 : Int) < (k : Int) := by omega
    have wk : IntKind.i64.wrap ((k : Int) - 1) = (k : Int) - 1 := by rw [IntKind.wrap_i64]; omega
    have Sd : wr.drew.cell? ⟨Z, 0, none⟩ = some (.int .i64 base) ∧ wr.drew.cell? ⟨Z, 1, none⟩ = some (.slice va l.length vc) := L6.z.two
    have Ld := L6.below (Below.refl _ wr).drew
    have Yd : Blk wr.drew w.heap.size (.cells #[.int .i64 0, .slice none 0 0] 26) := Y6
    obtain ⟨z1, z2⟩ := L6.z.two
    go_wp2_with fail
    refine AnyL.region (fun w' => w'.cell? ⟨Z, 0, none⟩ = some (.int .i64 base) ∧ w'.cell? ⟨Z, 1, none⟩ = some (.slice va l.length vc)) 9 (by kernel_rfl) ?_
    clear z1 z2
    refine AnyL.take (i := 0) (.agg #[.int .i64 base, .slice va l.length vc]) rfl (by kernel_rfl) (by kernel_rfl) (by kernel_rfl) (by kernel_rfl) (fun _ _ _ h => h) Sd (Or.inl ⟨by rfl, fun w' h => (by dsimp only at h; go_simp)⟩) ?_
    simp only [Act.put, List.setIfInBounds_toArray]
    refine AnyL.take (i := 2) (.pointer (some ⟨rb, 0, none⟩)) rfl (by kernel_rfl) (by kernel_rfl) (by kernel_rfl) (by kernel_rfl) (fun _ _ _ h => h) Sd (Or.inl ⟨by rfl, fun w' h => (by dsimp only at h; go_simp)⟩) ?_
    simp only [Act.put]
    refine AnyL.take (i := 6) (.pointer (some ⟨rb, 0, none⟩)) rfl (by kernel_rfl) (by kernel_rfl) (by kernel_rfl) (by kernel_rfl) (fun _ _ _ h => h) Sd (Or.inl ⟨by rfl, fun w' h => (by dsimp only at h; go_simp)⟩) ?_
    simp only [Act.put]
    refine AnyL.two (i := 1) (j := 3) rfl rfl (by kernel_rfl) (fun K1 hK1 => ?_) (fun K1 hK1 => ?_)
    ·go_simp
     have lq : Z < wr.heap.size := L6.z.lt
     have Kv1 : Below wr.heap.size wr (wr.alloc (.cells #[.int .i64 1001, .int .i64 2001, .int .i64 3001, .int .i64 5] 2)).drew := ((Below.refl _ wr).alloc (Nat.le_refl _) (.cells #[.int .i64 1001, .int .i64 2001, .int .i64 3001, .int .i64 5] 2)).drew
     have Lv1 := L6.below Kv1
     have Yv1 := Y6.below Kv1
     have Bv1 : Blk (wr.alloc (.cells #[.int .i64 1001, .int .i64 2001, .int .i64 3001, .int .i64 5] 2)).drew wr.heap.size (.cells #[.int .i64 1001, .int .i64 2001, .int .i64 3001, .int .i64 5] 2) := Blk.new wr (.cells #[.int .i64 1001, .int .i64 2001, .int .i64 3001, .int .i64 5] 2)
     generalize (wr.alloc (.cells #[.int .i64 1001, .int .i64 2001, .int .i64 3001, .int .i64 5] 2)).drew = v1 at *
     generalize wr.heap.size = q at *
     refine hK1.out _ _ (fun _ => Lv1.z.two) ?_
     clear hK1 K1 Kv1
     refine AnyL.one (i := 3) rfl (by kernel_rfl) (fun K1 hK1 => ?_)
     go_simp
     refine (rdBelow_any w0 rb a n cap 4 _ (by omega) Lv1.r).mono ?_
     rintro e v3 ⟨x5, rfl, _, x54, Rv3, gv3⟩
     have x54' := x54 (by omega)
     have x5i0 : (0 : Int) ≤ (x5 : Int) := by omega
     have x5i4 : (x5 : Int) < 4 := by omega
     have Lv3 := Lv1.call hz Rv3 gv3
     have Yv3 := Yv1.grown gv3 (by simp; omega)
     have Bv3 := Bv1.grown gv3 (by simp; omega)
     refine hK1.out _ _ (fun _ => Lv3.z.two) ?_
     clear hK1 K1
     refine AnyL.take (i := 4) (.pointer (some ⟨q, x5, none⟩)) rfl (by kernel_rfl) (by kernel_rfl) (by kernel_rfl) (by kernel_rfl) (fun _ _ _ h => h) Lv3.z.two (Or.inl ⟨by rfl, fun w' h => (by dsimp only at h; go_simp)⟩) ?_
     simp only [Act.put]
     refine AnyL.two (i := 5) (j := 7) rfl rfl (by kernel_rfl) (fun K1 hK1 => ?_) (fun K1 hK1 => ?_)
     ·have c5 := lit_cell Bv3 x54'
      go_simp
      refine hK1.out _ _ (fun _ => Lv3.z.two) ?_
      clear hK1 K1 c5
      refine AnyL.one (i := 7) rfl (by kernel_rfl) (fun K1 hK1 => ?_)
      go_simp
      refine (rdBelow_any w0 rb a n cap 4 _ (by omega) Lv3.r).mono ?_
      rintro e v7 ⟨y, rfl, _, y4, Rv7, gv7⟩
      have y4' := y4 (by omega)
      have yi0 : (0 : Int) ≤ (y : Int) := by omega
      have yi4 : (y : Int) < 4 := by omega
      have Lv7 := Lv3.call hz Rv7 gv7
      have Yv7 := Yv3.grown gv7 (by simp; omega)
      have Bv7 := Bv3.grown gv7 (by simp; omega)
      refine hK1.out _ _ (fun _ => Lv7.z.two) ?_
      clear hK1 K1
      refine AnyL.one (i := 8) rfl (by kernel_rfl) (fun K1 hK1 => ?_)
      go_simp
      refine (l1With_any base va l.length vc (fstAt l) (sndAt l) (litv x5) y _ (by omega) (OwnCats.cats Lv7.o)).mono ?_
      rintro e u9 ⟨ua, uc, rfl, uo, hb9⟩
      have L9 := Lv7.below hb9
      have Y9 := Yv7.below hb9
      refine hK1.out _ _ (fun _ => L9.z.two) ?_
      clear hK1 K1
      obtain ⟨z6, z7⟩ := L9.z.two
      have zf0 := L9.z.frozen2 0
      have zf1 := L9.z.frozen2 1
      refine AnyL.one (i := 9) rfl (by kernel_rfl) (fun K1 hK1 => ?_)
      go_simp
      refine hK1.out _ _ (fun h => absurd rfl h) ?_
      refine AnyL.done (by kernel_rfl) ?_
      have il := insFin_len1 base l.length (fstAt l) (sndAt l) (litv x5) y
      have LN := L9.put hz hw (ownsRow_base_a uo Lv7.z.lt)
      have YN : Blk _ w.heap.size (.cells #[.int .i64 0, .slice none 0 0] 26) := (blk_setCell_other _ ⟨Z, 1, none⟩ (.slice ua (insFin base l.length (fstAt l) (sndAt l) (litv x5) y).length uc) w.heap.size (by dsimp only; omega)).trans ((blk_setCell_other _ ⟨Z, 0, none⟩ (.int .i64 base) w.heap.size (by dsimp only; omega)).trans Y9)
      clear hK1 K1 z6 z7 zf0 zf1 uo hb9 L9 Y9
      go_wp2
      go_roundw
      case rel => exact ⟨k - 1, _, _, _, by omega, by go_num, by omega, LN, YN⟩
      case measure => simp [intOf]; omega
     ·go_simp
      refine (rdBelow_any w0 rb a n cap 4 _ (by omega) Lv3.r).mono ?_
      rintro e v7 ⟨y, rfl, _, y4, Rv7, gv7⟩
      have y4' := y4 (by omega)
      have yi0 : (0 : Int) ≤ (y : Int) := by omega
      have yi4 : (y : Int) < 4 := by omega
      have Lv7 := Lv3.call hz Rv7 gv7
      have Yv7 := Yv3.grown gv7 (by simp; omega)
      have Bv7 := Bv3.grown gv7 (by simp; omega)
      refine hK1.out _ _ (fun _ => Lv7.z.two) ?_
      clear hK1 K1
      refine AnyL.one (i := 5) rfl (by kernel_rfl) (fun K1 hK1 => ?_)
      have c5 := lit_cell Bv7 x54'
      go_simp
      refine hK1.out _ _ (fun _ => Lv7.z.two) ?_
      clear hK1 K1 c5
      refine AnyL.one (i := 8) rfl (by kernel_rfl) (fun K1 hK1 => ?_)
      go_simp
      refine (l1With_any base va l.length vc (fstAt l) (sndAt l) (litv x5) y _ (by omega) (OwnCats.cats Lv7.o)).mono ?_
      rintro e u9 ⟨ua, uc, rfl, uo, hb9⟩
      have L9 := Lv7.below hb9
      have Y9 := Yv7.below hb9
      refine hK1.out _ _ (fun _ => L9.z.two) ?_
      clear hK1 K1
      obtain ⟨z6, z7⟩ := L9.z.two
      have zf0 := L9.z.frozen2 0
      have zf1 := L9.z.frozen2 1
      refine AnyL.one (i := 9) rfl (by kernel_rfl) (fun K1 hK1 => ?_)
      go_simp
      refine hK1.out _ _ (fun h => absurd rfl h) ?_
      refine AnyL.done (by kernel_rfl) ?_
      have il := insFin_len1 base l.length (fstAt l) (sndAt l) (litv x5) y
      have LN := L9.put hz hw (ownsRow_base_a uo Lv7.z.lt)
      have YN : Blk _ w.heap.size (.cells #[.int .i64 0, .slice none 0 0] 26) := (blk_setCell_other _ ⟨Z, 1, none⟩ (.slice ua (insFin base l.length (fstAt l) (sndAt l) (litv x5) y).length uc) w.heap.size (by dsimp only; omega)).trans ((blk_setCell_other _ ⟨Z, 0, none⟩ (.int .i64 base) w.heap.size (by dsimp only; omega)).trans Y9)
      clear hK1 K1 z6 z7 zf0 zf1 uo hb9 L9 Y9
      go_wp2
      go_roundw
      case rel => exact ⟨k - 1, _, _, _, by omega, by go_num, by omega, LN, YN⟩
      case measure => simp [intOf]; omega
    ·go_simp
     refine (rdBelow_any w0 rb a n cap 4 _ (by omega) Ld.r).mono ?_
     rintro e v3 ⟨x5, rfl, _, x54, Rv3, gv3⟩
     have x54' := x54 (by omega)
     have x5i0 : (0 : Int) ≤ (x5 : Int) := by omega
     have x5i4 : (x5 : Int) < 4 := by omega
     have Lv3 := Ld.call hz Rv3 gv3
     have Yv3 := Yd.grown gv3 (by simp; omega)
     refine hK1.out _ _ (fun _ => Lv3.z.two) ?_
     clear hK1 K1
     refine AnyL.two (i := 1) (j := 7) rfl rfl (by kernel_rfl) (fun K1 hK1 => ?_) (fun K1 hK1 => ?_)
     ·go_simp
      have lq : Z < v3.heap.size := Lv3.z.lt
      have Kv1 : Below v3.heap.size v3 (v3.alloc (.cells #[.int .i64 1001, .int .i64 2001, .int .i64 3001, .int .i64 5] 2)) := ((Below.refl _ v3).alloc (Nat.le_refl _) (.cells #[.int .i64 1001, .int .i64 2001, .int .i64 3001, .int .i64 5] 2))
      have Lv1 := Lv3.below Kv1
      have Yv1 := Yv3.below Kv1
      have Bv1 : Blk (v3.alloc (.cells #[.int .i64 1001, .int .i64 2001, .int .i64 3001, .int .i64 5] 2)) v3.heap.size (.cells #[.int .i64 1001, .int .i64 2001, .int .i64 3001, .int .i64 5] 2) := Blk.new v3 (.cells #[.int .i64 1001, .int .i64 2001, .int .i64 3001, .int .i64 5] 2)
      generalize (v3.alloc (.cells #[.int .i64 1001, .int .i64 2001, .int .i64 3001, .int .i64 5] 2)) = v1 at *
      generalize v3.heap.size = q at *
      refine hK1.out _ _ (fun _ => Lv1.z.two) ?_
      clear hK1 K1 Kv1
      refine AnyL.take (i := 4) (.pointer (some ⟨q, x5, none⟩)) rfl (by kernel_rfl) (by kernel_rfl) (by kernel_rfl) (by kernel_rfl) (fun _ _ _ h => h) Lv1.z.two (Or.inl ⟨by rfl, fun w' h => (by dsimp only at h; go_simp)⟩) ?_
      simp only [Act.put]
      refine AnyL.two (i := 5) (j := 7) rfl rfl (by kernel_rfl) (fun K1 hK1 => ?_) (fun K1 hK1 => ?_)
      ·have c5 := lit_cell Bv1 x54'
       go_simp
       refine hK1.out _ _ (fun _ => Lv1.z.two) ?_
       clear hK1 K1 c5
       refine AnyL.one (i := 7) rfl (by kernel_rfl) (fun K1 hK1 => ?_)
       go_simp
       refine (rdBelow_any w0 rb a n cap 4 _ (by omega) Lv1.r).mono ?_
       rintro e v7 ⟨y, rfl, _, y4, Rv7, gv7⟩
       have y4' := y4 (by omega)
       have yi0 : (0 : Int) ≤ (y : Int) := by omega
       have yi4 : (y : Int) < 4 := by omega
       have Lv7 := Lv1.call hz Rv7 gv7
       have Yv7 := Yv1.grown gv7 (by simp; omega)
       have Bv7 := Bv1.grown gv7 (by simp; omega)
       refine hK1.out _ _ (fun _ => Lv7.z.two) ?_
       clear hK1 K1
       refine AnyL.one (i := 8) rfl (by kernel_rfl) (fun K1 hK1 => ?_)
       go_simp
       refine (l1With_any base va l.length vc (fstAt l) (sndAt l) (litv x5) y _ (by omega) (OwnCats.cats Lv7.o)).mono ?_
       rintro e u9 ⟨ua, uc, rfl, uo, hb9⟩
       have L9 := Lv7.below hb9
       have Y9 := Yv7.below hb9
       refine hK1.out _ _ (fun _ => L9.z.two) ?_
       clear hK1 K1
       obtain ⟨z6, z7⟩ := L9.z.two
       have zf0 := L9.z.frozen2 0
       have zf1 := L9.z.frozen2 1
       refine AnyL.one (i := 9) rfl (by kernel_rfl) (fun K1 hK1 => ?_)
       go_simp
       refine hK1.out _ _ (fun h => absurd rfl h) ?_
       refine AnyL.done (by kernel_rfl) ?_
       have il := insFin_len1 base l.length (fstAt l) (sndAt l) (litv x5) y
       have LN := L9.put hz hw (ownsRow_base_a uo Lv7.z.lt)
       have YN : Blk _ w.heap.size (.cells #[.int .i64 0, .slice none 0 0] 26) := (blk_setCell_other _ ⟨Z, 1, none⟩ (.slice ua (insFin base l.length (fstAt l) (sndAt l) (litv x5) y).length uc) w.heap.size (by dsimp only; omega)).trans ((blk_setCell_other _ ⟨Z, 0, none⟩ (.int .i64 base) w.heap.size (by dsimp only; omega)).trans Y9)
       clear hK1 K1 z6 z7 zf0 zf1 uo hb9 L9 Y9
       go_wp2
       go_roundw
       case rel => exact ⟨k - 1, _, _, _, by omega, by go_num, by omega, LN, YN⟩
       case measure => simp [intOf]; omega
      ·go_simp
       refine (rdBelow_any w0 rb a n cap 4 _ (by omega) Lv1.r).mono ?_
       rintro e v7 ⟨y, rfl, _, y4, Rv7, gv7⟩
       have y4' := y4 (by omega)
       have yi0 : (0 : Int) ≤ (y : Int) := by omega
       have yi4 : (y : Int) < 4 := by omega
       have Lv7 := Lv1.call hz Rv7 gv7
       have Yv7 := Yv1.grown gv7 (by simp; omega)
       have Bv7 := Bv1.grown gv7 (by simp; omega)
       refine hK1.out _ _ (fun _ => Lv7.z.two) ?_
       clear hK1 K1
       refine AnyL.one (i := 5) rfl (by kernel_rfl) (fun K1 hK1 => ?_)
       have c5 := lit_cell Bv7 x54'
       go_simp
       refine hK1.out _ _ (fun _ => Lv7.z.two) ?_
       clear hK1 K1 c5
       refine AnyL.one (i := 8) rfl (by kernel_rfl) (fun K1 hK1 => ?_)
       go_simp
       refine (l1With_any base va l.length vc (fstAt l) (sndAt l) (litv x5) y _ (by omega) (OwnCats.cats Lv7.o)).mono ?_
       rintro e u9 ⟨ua, uc, rfl, uo, hb9⟩
       have L9 := Lv7.below hb9
       have Y9 := Yv7.below hb9
       refine hK1.out _ _ (fun _ => L9.z.two) ?_
       clear hK1 K1
       obtain ⟨z6, z7⟩ := L9.z.two
       have zf0 := L9.z.frozen2 0
       have zf1 := L9.z.frozen2 1
       refine AnyL.one (i := 9) rfl (by kernel_rfl) (fun K1 hK1 => ?_)
       go_simp
       refine hK1.out _ _ (fun h => absurd rfl h) ?_
       refine AnyL.done (by kernel_rfl) ?_
       have il := insFin_len1 base l.length (fstAt l) (sndAt l) (litv x5) y
       have LN := L9.put hz hw (ownsRow_base_a uo Lv7.z.lt)
       have YN : Blk _ w.heap.size (.cells #[.int .i64 0, .slice none 0 0] 26) := (blk_setCell_other _ ⟨Z, 1, none⟩ (.slice ua (insFin base l.length (fstAt l) (sndAt l) (litv x5) y).length uc) w.heap.size (by dsimp only; omega)).trans ((blk_setCell_other _ ⟨Z, 0, none⟩ (.int .i64 base) w.heap.size (by dsimp only; omega)).trans Y9)
       clear hK1 K1 z6 z7 zf0 zf1 uo hb9 L9 Y9
       go_wp2
       go_roundw
       case rel => exact ⟨k - 1, _, _, _, by omega, by go_num, by omega, LN, YN⟩
       case measure => simp [intOf]; omega
     ·go_simp
      refine (rdBelow_any w0 rb a n cap 4 _ (by omega) Lv3.r).mono ?_
      rintro e v7 ⟨y, rfl, _, y4, Rv7, gv7⟩
      have y4' := y4 (by omega)
      have yi0 : (0 : Int) ≤ (y : Int) := by omega
      have yi4 : (y : Int) < 4 := by omega
      have Lv7 := Lv3.call hz Rv7 gv7
      have Yv7 := Yv3.grown gv7 (by simp; omega)
      refine hK1.out _ _ (fun _ => Lv7.z.two) ?_
      clear hK1 K1
      refine AnyL.one (i := 1) rfl (by kernel_rfl) (fun K1 hK1 => ?_)
      go_simp
      have lq : Z < v7.heap.size := Lv7.z.lt
      have Kv1 : Below v7.heap.size v7 (v7.alloc (.cells #[.int .i64 1001, .int .i64 2001, .int .i64 3001, .int .i64 5] 2)) := ((Below.refl _ v7).alloc (Nat.le_refl _) (.cells #[.int .i64 1001, .int .i64 2001, .int .i64 3001, .int .i64 5] 2))
      have Lv1 := Lv7.below Kv1
      have Yv1 := Yv7.below Kv1
      have Bv1 : Blk (v7.alloc (.cells #[.int .i64 1001, .int .i64 2001, .int .i64 3001, .int .i64 5] 2)) v7.heap.size (.cells #[.int .i64 1001, .int .i64 2001, .int .i64 3001, .int .i64 5] 2) := Blk.new v7 (.cells #[.int .i64 1001, .int .i64 2001, .int .i64 3001, .int .i64 5] 2)
      generalize (v7.alloc (.cells #[.int .i64 1001, .int .i64 2001, .int .i64 3001, .int .i64 5] 2)) = v1 at *
      generalize v7.heap.size = q at *
      refine hK1.out _ _ (fun _ => Lv1.z.two) ?_
      clear hK1 K1 Kv1
      refine AnyL.take (i := 4) (.pointer (some ⟨q, x5, none⟩)) rfl (by kernel_rfl) (by kernel_rfl) (by kernel_rfl) (by kernel_rfl) (fun _ _ _ h => h) Lv1.z.two (Or.inl ⟨by rfl, fun w' h => (by dsimp only at h; go_simp)⟩) ?_
      simp only [Act.put]
      refine AnyL.one (i := 5) rfl (by kernel_rfl) (fun K1 hK1 => ?_)
      have c5 := lit_cell Bv1 x54'
      go_simp
      refine hK1.out _ _ (fun _ => Lv1.z.two) ?_
      clear hK1 K1 c5
      refine AnyL.one (i := 8) rfl (by kernel_rfl) (fun K1 hK1 => ?_)
      go_simp
      refine (l1With_any base va l.length vc (fstAt l) (sndAt l) (litv x5) y _ (by omega) (OwnCats.cats Lv1.o)).mono ?_
      rintro e u9 ⟨ua, uc, rfl, uo, hb9⟩
      have L9 := Lv1.below hb9
      have Y9 := Yv1.below hb9
      refine hK1.out _ _ (fun _ => L9.z.two) ?_
      clear hK1 K1
      obtain ⟨z6, z7⟩ := L9.z.two
      have zf0 := L9.z.frozen2 0
      have zf1 := L9.z.frozen2 1
      refine AnyL.one (i := 9) rfl (by kernel_rfl) (fun K1 hK1 => ?_)
      go_simp
      refine hK1.out _ _ (fun h => absurd rfl h) ?_
      refine AnyL.done (by kernel_rfl) ?_
      have il := insFin_len1 base l.length (fstAt l) (sndAt l) (litv x5) y
      have LN := L9.put hz hw (ownsRow_base_a uo Lv1.z.lt)
      have YN : Blk _ w.heap.size (.cells #[.int .i64 0, .slice none 0 0] 26) := (blk_setCell_other _ ⟨Z, 1, none⟩ (.slice ua (insFin base l.length (fstAt l) (sndAt l) (litv x5) y).length uc) w.heap.size (by dsimp only; omega)).trans ((blk_setCell_other _ ⟨Z, 0, none⟩ (.int .i64 base) w.heap.size (by dsimp only; omega)).trans Y9)
      clear hK1 K1 z6 z7 zf0 zf1 uo hb9 L9 Y9
      go_wp2
      go_roundw
      case rel => exact ⟨k - 1, _, _, _, by omega, by go_num, by omega, LN, YN⟩
      case measure => simp [intOf]; omega
   ·have hk0 : k = 0 := by omega
    subst hk0
    go_wp2_with fail
    refine (once_any w0 rb a n cap 30 _ (by omega) L6.r).mono ?_
    rintro e u7 ⟨t7, rfl, R7, g7⟩
    have L7 := L6.call hz R7 g7
    have Y7 := Y6.grown g7 (by simp; omega)
    have l3 : l.length ≤ 3 := by omega
    clear L6 Y6 R7 g7
    cases t7 with
    | false =>
     obtain ⟨z1, z2⟩ := L7.z.two
     obtain ⟨y1, y2⟩ := Y7.two
     have yf0 := Y7.frozen2 0
     have yf1 := Y7.frozen2 1
     have ne6 : Z ≠ w.heap.size := by omega
     go_wp2
     refine bodyPost_ret (v := .agg #[.int .i64 base, .slice va l.length vc]) (by simp [results, Tryz.results37, go_sem, *]) rfl ⟨base, l, va, vc, rfl, by omega, ?_, ?_, ?_⟩
     ·exact ownsRow_base_a (OwnList.set (OwnList.set L7.o (by omega) _ _) (by omega) _ _) (by omega)
     ·exact (L7.r.set lr _ _).set lr _ _
     ·exact grown_over (grown_over L7.g (Nat.le_refl _) _ _) (Nat.le_refl _) _ _
    | true =>
     have Sd : u7.drew.cell? ⟨Z, 0, none⟩ = some (.int .i64 base) ∧ u7.drew.cell? ⟨Z, 1, none⟩ = some (.slice va l.length vc) := L7.z.two
     have Ld := L7.below (Below.refl _ u7).drew
     have Yd : Blk u7.drew w.heap.size (.cells #[.int .i64 0, .slice none 0 0] 26) := Y7
     obtain ⟨z1, z2⟩ := L7.z.two
     go_wp2_with fail
     refine AnyL.region (fun w' => w'.cell? ⟨Z, 0, none⟩ = some (.int .i64 base) ∧ w'.cell? ⟨Z, 1, none⟩ = some (.slice va l.length vc)) 8 (by kernel_rfl) ?_
     clear z1 z2
     refine AnyL.take (i := 0) (.pointer (some ⟨Z, 1, none⟩)) rfl (by kernel_rfl) (by kernel_rfl) (by kernel_rfl) (by kernel_rfl) (fun _ _ _ h => h) Sd (Or.inl ⟨by rfl, fun w' h => (by dsimp only at h; go_simp)⟩) ?_
     simp only [Act.put, List.setIfInBounds_toArray]
     refine AnyL.take (i := 1) (.slice va l.length vc) rfl (by kernel_rfl) (by kernel_rfl) (by kernel_rfl) (by kernel_rfl) (fun _ _ _ h => h) Sd (Or.inl ⟨by rfl, fun w' h => (by dsimp only at h; go_simp)⟩) ?_
     simp only [Act.put]
     refine AnyL.take (i := 2) (.pointer (some ⟨rb, 0, none⟩)) rfl (by kernel_rfl) (by kernel_rfl) (by kernel_rfl) (by kernel_rfl) (fun _ _ _ h => h) Sd (Or.inl ⟨by rfl, fun w' h => (by dsimp only at h; go_simp)⟩) ?_
     simp only [Act.put]
     refine AnyL.one (i := 3) rfl (by kernel_rfl) (fun K1 hK1 => ?_)
     go_simp
     refine (off_any w0 rb a n cap 1 9 _ (by omega) (by omega) Ld.r).mono ?_
     rintro e v3 ⟨x5, rfl, Rv3, gv3⟩
     have Lv3 := Ld.call hz Rv3 gv3
     have Yv3 := Yd.grown gv3 (by simp; omega)
     refine hK1.out _ _ (fun _ => Lv3.z.two) ?_
     clear hK1 K1
     refine AnyL.take (i := 4) (.agg #[.int .i64 x5, .int .i64 2]) rfl (by kernel_rfl) (by kernel_rfl) (by kernel_rfl) (by kernel_rfl) (fun _ _ _ h => h) Lv3.z.two (Or.inl ⟨by rfl, fun w' h => (by dsimp only at h; go_simp)⟩) ?_
     simp only [Act.put]
     refine AnyL.one (i := 5) rfl (by kernel_rfl) (fun K1 hK1 => ?_)
     go_simp
     have Kb := (Below.refl _ v3).alloc (Nat.le_refl _) (.cells #[.int .i64 x5, .int .i64 2] 63)
     have Lv4 := Lv3.below Kb
     have Yv4 := Yv3.below Kb
     have C4 := one_cat v3 x5 2
     have b4 : Z + 1 ≤ (v3.alloc (.cells #[.int .i64 x5, .int .i64 2] 63)).heap.size := Lv4.z.lt
     refine hK1.out _ _ (fun _ => Lv4.z.two) ?_
     clear hK1 K1
     refine AnyL.one (i := 6) rfl (by kernel_rfl) (fun K1 hK1 => ?_)
     refine step_append_cats _ rfl _ _ rfl (Z + 1) _ _ (fstAt l) (sndAt l) rfl Lv4.o _ 1 1 (fun _ => x5) (fun _ => 2) rfl C4 (by omega) b4 ?_
     intro a' c' v6 hown' hgrow' hat'
     obtain ⟨Zv6, Rv6, gv6⟩ := Lv4.frame hz hw hgrow' (fun j e => (World.ownsRow.lt Lv4.o j e).1)
     have Yv6 := Yv4.grown hgrow' (fun e => by have := (World.ownsRow.lt Lv4.o _ e.symm).1; omega)
     refine hK1.out _ _ (fun _ => Zv6.two) ?_
     clear hK1 K1
     simp only [Act.put]
     refine AnyL.take (i := 7) (.pointer (some ⟨Z, 1, none⟩)) rfl (by kernel_rfl) (by kernel_rfl) (by kernel_rfl) (by kernel_rfl) (fun _ _ _ h => h) Zv6.two (Or.inl ⟨by rfl, fun w' h => (by dsimp only at h; go_simp)⟩) ?_
     simp only [Act.put]
     obtain ⟨z6, z7⟩ := Zv6.two
     have zf1 := Zv6.frozen2 1
     have e1 : l.length + 1 = (l ++ [(x5, 2)]).length := by simp
     have o' : OwnList v6 (Z + 1) (.slice a' (l ++ [(x5, 2)]).length c') (l ++ [(x5, 2)]) := by rw [← e1]; exact OwnList.snoc hown'
     have LN : LSt w0 w (v6.setCell ⟨Z, 1, none⟩ (.slice a' (l ++ [(x5, 2)]).length c')) rb a n cap Z base a' c' (l ++ [(x5, 2)]) := ⟨Zv6.set1 _, Rv6.set hz _ _, OwnList.set o' (by omega) _ _, grown_over gv6 hw _ _⟩
     have YN : Blk (v6.setCell ⟨Z, 1, none⟩ (.slice a' (l ++ [(x5, 2)]).length c')) w.heap.size (.cells #[.int .i64 0, .slice none 0 0] 26) := (blk_setCell_other _ _ _ _ (by dsimp only; omega)).trans Yv6
     have HE1 : Hid (l.length + 1 = (l ++ [(x5, 2)]).length) := e1
     clear e1
     refine AnyL.one (i := 8) rfl (by kernel_rfl) (fun K1 hK1 => ?_)
     go_simp
     refine hK1.out _ _ (fun h => absurd rfl h) ?_
     refine AnyL.done (by kernel_rfl) ?_
     have e1 := HE1.out
     clear HE1
     rw [e1]
     have l4 : (l ++ [(x5, 2)]).length ≤ 3 := by rw [← e1]; omega
     clear e1
     generalize l ++ [(x5, 2)] = l' at *
     generalize v6.setCell ⟨Z, 1, none⟩ (.slice a' l'.length c') = WN at *
     clear hK1 K1 z6 z7 zf1 hown' o' Zv6 Rv6 gv6 Yv6
     obtain ⟨z1, z2⟩ := LN.z.two
     obtain ⟨y1, y2⟩ := YN.two
     have yf0 := YN.frozen2 0
     have yf1 := YN.frozen2 1
     have ne6 : Z ≠ w.heap.size := by omega
     go_wp2
     refine bodyPost_ret (v := .agg #[.int .i64 base, .slice a' l'.length c']) (by simp [results, Tryz.results37, go_sem, *]) rfl ⟨base, l', a', c', rfl, by omega, ?_, ?_, ?_⟩
     ·exact ownsRow_base_a (OwnList.set (OwnList.set LN.o (by omega) _ _) (by omega) _ _) (by omega)
     ·exact (LN.r.set lr _ _).set lr _ _
     ·exact grown_over (grown_over LN.g (Nat.le_refl _) _ _) (Nat.le_refl _) _ _
end Go.Proofs.YthbmfbnnemgbpaaGreatDoor
