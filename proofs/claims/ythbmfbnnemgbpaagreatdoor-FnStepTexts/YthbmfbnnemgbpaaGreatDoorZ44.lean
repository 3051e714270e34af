/- ReadStep of the model: the walk. -/
import Derived.Test.YthbmfbnnemgbpaaGreatDoorZ13
import Derived.Test.YthbmfbnnemgbpaaGreatDoorZ43
import Derived.Deep.RegionHeld3
namespace Go.Proofs.YthbmfbnnemgbpaaGreatDoor
open Go Go.RowKit Go.Deep Go.Maps
def zeroS : Obj := .cells #[.int .i64 0, .int .i64 0, .int .i64 0, .int .i64 0, .int .i64 0, .string ⟨#[]⟩, .int .i64 0, .slice none 0 0, .int .i64 0, .slice none 0 0] 28
def nums (k : Nat) (L : List UInt8) : List Int := (List.range k).map fun i => nm i L
theorem nums_len (k : Nat) (L : List UInt8) : (nums k L).length = k := by simp [nums]
theorem nums_snoc (k : Nat) (L : List UInt8) : nums k L ++ [nm k L] = nums (k + 1) L := by simp [nums, List.range_succ]
set_option maxRecDepth 100000 in
set_option maxHeartbeats 4000000 in
theorem specReadStep_any (s : ByteArray) (w : World) (hn : s.size ≤ 1048576) :
 Calls Tryz.prog 12 #[.string s] w (SPost (readS s.data.toList) w) := by
 have hsl : s.data.toList.length ≤ 1048576 := by simpa using hn
 have P1 := hid (Blk.new w zeroS)
 have P2 := hid (Blk.new (w.alloc zeroS) zeroS)
 have Q1 := hid (P1.out.alloc zeroS)
 have L2 := hid (((Below.refl _ w).alloc (Nat.le_refl _) zeroS).alloc (by simp) zeroS)
 have es : Hid (s = ⟨(rst 0 s.data.toList).toArray⟩) := by show s = _; simp [rst]
 have O0 : Hid (OwnN (((w.alloc zeroS).alloc zeroS).alloc (.cells #[] 2)) (w.heap.size + 2) (.slice (some ⟨w.heap.size + 1 + 1, 0, none⟩) 0 0) []) := by
  have := OwnN.made ((w.alloc zeroS).alloc zeroS) (w.heap.size + 2) (by simp)
  refine hid ?_
  simpa using this
 have P0 : Hid (Blk (((w.alloc zeroS).alloc zeroS).alloc (.cells #[] 2)) (w.heap.size + 1) zeroS) := by
  have := P2.out.alloc (.cells #[] 2)
  refine hid ?_
  simpa using this
 go_enter Tryz.func12, Tryz.ntmps12
 go_wp2
 obtain ⟨L, hL⟩ : ∃ L, s.data.toList = L := ⟨_, rfl⟩
 rw [hL] at hsl es ⊢
 have HL := hid hL
 clear hL
 go_loopw [5, 6, 7] (fun v r i wr => ∃ k : Nat, k ≤ 5 ∧ i = .int .i64 k ∧ r = .string ⟨(rst k L).toArray⟩ ∧ (∃ g c, v = .slice (some ⟨g, 0, none⟩) k c) ∧ OwnN wr (w.heap.size + 2) v (nums k L) ∧ Blk wr w.heap.size zeroS ∧ Blk wr (w.heap.size + 1) zeroS ∧ Below w.heap.size w wr) (fun _ _ i _ => 5 - (intOf i).toNat)
 case atStart => exact ⟨0, by omega, rfl, by rw [← es.out], ⟨_, _, rfl⟩, O0.out, Q1.out.alloc _, P0.out, L2.out.alloc (by simp; omega) _⟩
 case round =>
  obtain ⟨k, hk, rfl, rfl, ⟨g, c, rfl⟩, hO, hP, hQ, hB⟩ := hrel
  have OO := hid hO
  have PP := hid hP
  have QQ := hid hQ
  have rl0 := rst_len k L
  clear hO hP hQ P1 P2 Q1 L2 O0 P0
  by_cases hlt : k < 5
  ·have i1 : (k : Int) < 5 := by omega
   have ep : pce k L = (cutL 32 (rst k L)).1 := rfl
   have er : rst (k + 1) L = (cutL 32 (rst k L)).2.1 := rfl
   have en : Hid (nm k L = numL (pce k L)) := rfl
   have pl := pce_len k L
   have ER : Hid (nums k L ++ [nm k L] = nums (k + 1) L) := nums_snoc k L
   have ln : (nums k L).length = k := nums_len k L
   go_wp2_with fail
   refine (l1Cut_any _ 32 _ (by rw [size_of]; unfold maxLen; omega)).mono ?_
   rintro e w1 ⟨rfl, hb1⟩
   unfold cutV
   simp only [← ep, ← er]
   generalize (cutL 32 (rst k L)).2.2 = f0 at *
   clear ep er
   generalize pce k L = pc at *
   go_wp2_with fail
   refine (l1Int_any _ _ (by rw [size_of]; unfold maxLen; omega)).mono ?_
   rintro e w2 ⟨rfl, rfl⟩
   unfold numV
   simp only
   rw [← en.out]
   generalize nm k L = x at *
   have HO3 := hid ((OO.out.below hb1).alloc (.cells #[.int .i64 x] 2))
   have HL3 := hid (one_num (w := w2) x)
   have B1 := then_ hB hb1
   have P3 := hid ((PP.out.below hb1).alloc (.cells #[.int .i64 x] 2))
   have Q3 := hid ((QQ.out.below hb1).alloc (.cells #[.int .i64 x] 2))
   have B3 := hid (B1.alloc B1.size (.cells #[.int .i64 x] 2))
   have lt3 := hid Q3.out.lt
   have sz3 : Hid (w.heap.size + 2 ≤ (w2.alloc (.cells #[.int .i64 x] 2)).heap.size) := by have := lt3.out; show _ ≤ _; omega
   generalize nums k L = l at *
   have lm2 : l.length ≤ 2000000 := by omega
   clear hb1 B1 OO PP QQ
   go_wp2_with (at_builtin; refine wpList_append_num _ rfl _ _ rfl (w.heap.size + 2) _ l rfl HO3.out _ 1 x rfl HL3.out lm2 sz3.out ?_; intro g4 c4 w4 O4 hg4; have OX4 := hid O4; have GX4 := hid hg4; clear O4 hg4)
   have lowr : ∀ j, (Value.slice (some ⟨g, 0, none⟩) k c).ownBlock = some j → w.heap.size + 2 ≤ j := fun j hj => (World.ownsRow.lt HO3.out j hj).1
   have el : (l ++ [x]).length = k + 1 := by simp [ln]
   have OF := OX4.out
   rw [el, ER.out] at OF
   refine ⟨⟨k + 1, by omega, by go_num, rfl, ⟨g4, c4, rfl⟩, OF, P3.out.grown GX4.out (fun e => by have := lowr _ e.symm; omega), Q3.out.grown GX4.out (fun e => by have := lowr _ e.symm; omega), B3.out.trans (below_grown GX4.out (by have := sz3.out; omega) (fun j hj => by have := lowr j hj; omega))⟩, by simp [intOf]; omega⟩
  ·have ek : k = 5 := by omega
   subst ek
   have gl : w.heap.size + 2 ≤ g := (World.ownsRow.lt OO.out g rfl).1
   have n1 : ¬ g = w.heap.size + 1 := by omega
   have n2 : ¬ w.heap.size + 1 = g := by omega
   have c0 := OO.out.cells 0 (nm 0 L) rfl
   have c1 := OO.out.cells 1 (nm 1 L) rfl
   have c2 := OO.out.cells 2 (nm 2 L) rfl
   have c3 := OO.out.cells 3 (nm 3 L) rfl
   have c4 := OO.out.cells 4 (nm 4 L) rfl
   obtain ⟨z0, z1, z2, z3, z4, z5, z6, z7, z8, z9⟩ := QQ.out.ten
   have f0 := QQ.out.warm 0
   have f1 := QQ.out.warm 1
   have f2 := QQ.out.warm 2
   have f3 := QQ.out.warm 3
   have f4 := QQ.out.warm 4
   have SR : Hid (∀ (k : Nat) W, Calls Tryz.prog 33 #[.string ⟨(pce k L).toArray⟩] W (RPost (rl k L) W)) := fun k W => specRead_any ⟨(pce k L).toArray⟩ W (by rw [size_of]; have := pce_len k L; omega)
   have CT : Hid (∀ (k : Nat) W, Calls Tryz.prog 31 #[.string ⟨(rst k L).toArray⟩, .int .u8 32] W fun e w' => e = .returned (.tuple #[.string ⟨(pce k L).toArray⟩, .string ⟨(rst (k + 1) L).toArray⟩, .bool (fnd k L)]) ∧ Below W.heap.size W w') := fun k W => l1Cut_any ⟨(rst k L).toArray⟩ 32 W (by rw [size_of]; unfold maxLen; have := rst_len k L; omega)
   go_wp2_with fail
   have Q5 : Hid (Blk (((((wr.setCell ⟨w.heap.size + 1, 0, none⟩ (.int .i64 (nm 0 L))).setCell ⟨w.heap.size + 1, 1, none⟩ (.int .i64 (nm 1 L))).setCell ⟨w.heap.size + 1, 2, none⟩ (.int .i64 (nm 2 L))).setCell ⟨w.heap.size + 1, 3, none⟩ (.int .i64 (nm 3 L))).setCell ⟨w.heap.size + 1, 4, none⟩ (.int .i64 (nm 4 L))) (w.heap.size + 1) (.cells #[.int .i64 (nm 0 L), .int .i64 (nm 1 L), .int .i64 (nm 2 L), .int .i64 (nm 3 L), .int .i64 (nm 4 L), .string ⟨#[]⟩, .int .i64 0, .slice none 0 0, .int .i64 0, .slice none 0 0] 28)) := hid (((((QQ.out.setAt _).setAt _).setAt _).setAt _).setAt _)
   have P5 : Hid (Blk (((((wr.setCell ⟨w.heap.size + 1, 0, none⟩ (.int .i64 (nm 0 L))).setCell ⟨w.heap.size + 1, 1, none⟩ (.int .i64 (nm 1 L))).setCell ⟨w.heap.size + 1, 2, none⟩ (.int .i64 (nm 2 L))).setCell ⟨w.heap.size + 1, 3, none⟩ (.int .i64 (nm 3 L))).setCell ⟨w.heap.size + 1, 4, none⟩ (.int .i64 (nm 4 L))) w.heap.size zeroS) := hid (((((PP.out.other (by omega) _).other (by omega) _).other (by omega) _).other (by omega) _).other (by omega) _)
   have B5 : Hid (Below w.heap.size w (((((wr.setCell ⟨w.heap.size + 1, 0, none⟩ (.int .i64 (nm 0 L))).setCell ⟨w.heap.size + 1, 1, none⟩ (.int .i64 (nm 1 L))).setCell ⟨w.heap.size + 1, 2, none⟩ (.int .i64 (nm 2 L))).setCell ⟨w.heap.size + 1, 3, none⟩ (.int .i64 (nm 3 L))).setCell ⟨w.heap.size + 1, 4, none⟩ (.int .i64 (nm 4 L)))) := hid (((((hB.setCell (Nat.le_succ _) _).setCell (Nat.le_succ _) _).setCell (Nat.le_succ _) _).setCell (Nat.le_succ _) _).setCell (Nat.le_succ _) _)
   generalize ((((wr.setCell ⟨w.heap.size + 1, 0, none⟩ (.int .i64 (nm 0 L))).setCell ⟨w.heap.size + 1, 1, none⟩ (.int .i64 (nm 1 L))).setCell ⟨w.heap.size + 1, 2, none⟩ (.int .i64 (nm 2 L))).setCell ⟨w.heap.size + 1, 3, none⟩ (.int .i64 (nm 3 L))).setCell ⟨w.heap.size + 1, 4, none⟩ (.int .i64 (nm 4 L)) = W5 at *
   clear c0 c1 c2 c3 c4 z0 z1 z2 z3 z4 z5 z6 z7 z8 z9 f0 f1 f2 f3 f4 QQ PP hB OO
   refine (CT.out 5 _).mono ?_
   rintro e w1 ⟨rfl, hb1⟩
   have Q6 := hid (Q5.out.below hb1)
   have P6 := hid (P5.out.below hb1)
   have B6 := hid (then_ B5.out hb1)
   clear Q5 P5 B5 hb1
   go_wp2_with fail
   refine (SR.out 5 _).mono ?_
   rintro e w2 ⟨a1, k1, rfl, O1, hb2⟩
   have lt1 : w.heap.size + 1 < w1.heap.size := Q6.out.lt
   have Q7 := hid (Q6.out.below hb2)
   have P7 := hid (P6.out.below hb2)
   have B7 := hid (then_ B6.out hb2)
   have N7 := hid O1
   clear Q6 P6 B6 hb2 O1
   obtain ⟨z0, z1, z2, z3, z4, z5, z6, z7, z8, z9⟩ := Q7.out.ten
   have f6 := Q7.out.warm 6
   have f7 := Q7.out.warm 7
   have Q8 : Hid (Blk ((w2.setCell ⟨w.heap.size + 1, 6, none⟩ (.int .i64 (rl 5 L).1)).setCell ⟨w.heap.size + 1, 7, none⟩ (.slice a1 (rl 5 L).2.1.length k1)) (w.heap.size + 1) (.cells #[.int .i64 (nm 0 L), .int .i64 (nm 1 L), .int .i64 (nm 2 L), .int .i64 (nm 3 L), .int .i64 (nm 4 L), .string ⟨#[]⟩, .int .i64 (rl 5 L).1, .slice a1 (rl 5 L).2.1.length k1, .int .i64 0, .slice none 0 0] 28)) := hid ((Q7.out.setAt _).setAt _)
   have P8 := hid ((P7.out.other (i := 6) (Q := w.heap.size + 1) (by omega) (.int .i64 (rl 5 L).1)).other (i := 7) (Q := w.heap.size + 1) (by omega) (.slice a1 (rl 5 L).2.1.length k1))
   have B8 := hid ((B7.out.setCell (p := ⟨w.heap.size + 1, 6, none⟩) (Nat.le_succ _) (.int .i64 (rl 5 L).1)).setCell (p := ⟨w.heap.size + 1, 7, none⟩) (Nat.le_succ _) (.slice a1 (rl 5 L).2.1.length k1))
   have N8 := hid ((N7.out.set (P := w.heap.size + 1) lt1 6 (.int .i64 (rl 5 L).1)).set (P := w.heap.size + 1) lt1 7 (.slice a1 (rl 5 L).2.1.length k1))
   go_wp2_with fail
   clear z0 z1 z2 z3 z4 z5 z6 z7 z8 z9 f6 f7 Q7 P7 B7 N7
   generalize (w2.setCell ⟨w.heap.size + 1, 6, none⟩ (.int .i64 (rl 5 L).1)).setCell ⟨w.heap.size + 1, 7, none⟩ (.slice a1 (rl 5 L).2.1.length k1) = W7 at *
   refine (CT.out 6 _).mono ?_
   rintro e w3 ⟨rfl, hb3⟩
   have Q9 := hid (Q8.out.below hb3)
   have P9 := hid (P8.out.below hb3)
   have B9 := hid (then_ B8.out hb3)
   have N9 := hid (N8.out.below hb3)
   clear Q8 P8 B8 N8 hb3
   go_wp2_with fail
   refine (SR.out 6 _).mono ?_
   rintro e w4 ⟨a2, k2, rfl, O2, hb4⟩
   have lt3 : w.heap.size + 1 < w3.heap.size := Q9.out.lt
   have QA := hid (Q9.out.below hb4)
   have PA := hid (P9.out.below hb4)
   have BA := hid (then_ B9.out hb4)
   have NA := hid (N9.out.below hb4)
   have MA := hid O2
   clear Q9 P9 B9 N9 hb4 O2
   have QB : Hid (Blk (((w4.setCell ⟨w.heap.size + 1, 8, none⟩ (.int .i64 (rl 6 L).1)).setCell ⟨w.heap.size + 1, 9, none⟩ (.slice a2 (rl 6 L).2.1.length k2)).setCell ⟨w.heap.size + 1, 5, none⟩ (.string ⟨(rst 7 L).toArray⟩)) (w.heap.size + 1) (.cells #[.int .i64 (nm 0 L), .int .i64 (nm 1 L), .int .i64 (nm 2 L), .int .i64 (nm 3 L), .int .i64 (nm 4 L), .string ⟨(rst 7 L).toArray⟩, .int .i64 (rl 5 L).1, .slice a1 (rl 5 L).2.1.length k1, .int .i64 (rl 6 L).1, .slice a2 (rl 6 L).2.1.length k2] 28)) := hid (((QA.out.setAt _).setAt _).setAt _)
   have PB := hid (((PA.out.other (i := 8) (Q := w.heap.size + 1) (by omega) (.int .i64 (rl 6 L).1)).other (i := 9) (Q := w.heap.size + 1) (by omega) (.slice a2 (rl 6 L).2.1.length k2)).other (i := 5) (Q := w.heap.size + 1) (by omega) (.string ⟨(rst 7 L).toArray⟩))
   have BB := hid (((BA.out.setCell (p := ⟨w.heap.size + 1, 8, none⟩) (Nat.le_succ _) (.int .i64 (rl 6 L).1)).setCell (p := ⟨w.heap.size + 1, 9, none⟩) (Nat.le_succ _) (.slice a2 (rl 6 L).2.1.length k2)).setCell (p := ⟨w.heap.size + 1, 5, none⟩) (Nat.le_succ _) (.string ⟨(rst 7 L).toArray⟩))
   have NB := hid (((NA.out.set (P := w.heap.size + 1) lt1 8 (.int .i64 (rl 6 L).1)).set (P := w.heap.size + 1) lt1 9 (.slice a2 (rl 6 L).2.1.length k2)).set (P := w.heap.size + 1) lt1 5 (.string ⟨(rst 7 L).toArray⟩))
   have MB := hid (((MA.out.set (P := w.heap.size + 1) lt3 8 (.int .i64 (rl 6 L).1)).set (P := w.heap.size + 1) lt3 9 (.slice a2 (rl 6 L).2.1.length k2)).set (P := w.heap.size + 1) lt3 5 (.string ⟨(rst 7 L).toArray⟩))
   obtain ⟨z0, z1, z2, z3, z4, z5, z6, z7, z8, z9⟩ := QA.out.ten
   have f8 := QA.out.warm 8
   have f9 := QA.out.warm 9
   have f5 := QA.out.warm 5
   by_cases e0 : s.size = 0
   ·have he := empty_size s
    rw [e0] at he
    simp only [decide_true] at he
    have er : readS L = noS := by
     have l0 : L = [] := by
      rw [← HL.out]
      exact List.length_eq_zero_iff.1 (by simpa using e0)
     unfold readS
     rw [strict_iff]
     simp [l0]
    obtain ⟨y0, y1, y2, y3, y4, y5, y6, y7, y8, y9⟩ := PA.out.ten
    have n3 : ¬ w.heap.size = w.heap.size + 1 := by omega
    have g0 := PA.out.warm
    go_wp2
    refine bodyPost_ret (v := noS.val none 0 none 0) (results10 _ _ w.heap.size _ _ _ _ _ _ _ _ _ _ _ (PB.out.all10 _ _ _ _ _ _ _ _ _ _) rfl rfl) rfl (SPost.no (by rw [HL.out, er]) ?_)
    exact ((((((((((BB.out.setCell (Nat.le_refl _) _).setCell (Nat.le_refl _) _).setCell (Nat.le_refl _) _).setCell (Nat.le_refl _) _).setCell (Nat.le_refl _) _).setCell (Nat.le_refl _) _).setCell (Nat.le_refl _) _).setCell (Nat.le_refl _) _).setCell (Nat.le_refl _) _).setCell (Nat.le_refl _) _)
   ·have he := empty_size s
    simp only [e0, decide_false] at he
    have ST := hid (specStepText_any (nm 0 L) (nm 1 L) (nm 2 L) (nm 3 L) (nm 4 L) ⟨(rst 7 L).toArray⟩ (rl 5 L).1 a1 (rl 5 L).2.1.length k1 (fstAt (rl 5 L).2.1) (sndAt (rl 5 L).2.1) (rl 6 L).1 a2 (rl 6 L).2.1.length k2 (fstAt (rl 6 L).2.1) (sndAt (rl 6 L).2.1) _ (by rw [size_of]; unfold maxLen; have := rst_len 7 L; omega) (by unfold maxLen; have := readL_len (pce 5 L); unfold rl; omega) (by unfold maxLen; have := readL_len (pce 6 L); unfold rl; omega) (OwnCats.cats NB.out) (OwnCats.cats MB.out))
    change Hid (Calls _ _ _ _ fun e w' => e = .returned (.string (againS L)) ∧ _) at ST
    go_wp2_with fail
    generalize ((w4.setCell ⟨w.heap.size + 1, 8, none⟩ (.int .i64 (rl 6 L).1)).setCell ⟨w.heap.size + 1, 9, none⟩ (.slice a2 (rl 6 L).2.1.length k2)).setCell ⟨w.heap.size + 1, 5, none⟩ (.string ⟨(rst 7 L).toArray⟩) = W8 at *
    clear z0 z1 z2 z3 z4 z5 z6 z7 z8 z9 f8 f9 f5 QA PA BA NA MA
    refine ST.out.mono ?_
    rintro e w5 ⟨rfl, hb5⟩
    have QC := hid (QB.out.below hb5)
    have PC := hid (PB.out.below hb5)
    have BC := hid (then_ BB.out hb5)
    have NC := hid (NB.out.below hb5)
    have MC := hid (MB.out.below hb5)
    clear QB PB BB NB MB hb5 ST
    obtain ⟨z0, z1, z2, z3, z4, z5, z6, z7, z8, z9⟩ := QC.out.ten
    obtain ⟨y0, y1, y2, y3, y4, y5, y6, y7, y8, y9⟩ := PC.out.ten
    have g0 := PC.out.warm
    have n3 : ¬ w.heap.size = w.heap.size + 1 := by omega
    have hne : L ≠ [] := fun h => by
     have := HL.out
     rw [h] at this
     have := congrArg List.length this
     exact e0 (by simpa using this)
    cases hq : ((againS L).toList == s.toList) with
    | false =>
     have er : readS L = noS := by
      unfold readS
      rw [strict_iff, if_neg]
      rw [decide_eq_true_eq]
      intro h
      rw [ByteArray.toList_eq, ByteArray.toList_eq, HL.out, h.2] at hq
      simp at hq
     go_wp2
     refine bodyPost_ret (v := noS.val none 0 none 0) (results10 _ _ w.heap.size _ _ _ _ _ _ _ _ _ _ _ (PC.out.all10 _ _ _ _ _ _ _ _ _ _) rfl rfl) rfl (SPost.no (by rw [HL.out, er]) ?_)
     exact ((((((((((BC.out.setCell (Nat.le_refl _) _).setCell (Nat.le_refl _) _).setCell (Nat.le_refl _) _).setCell (Nat.le_refl _) _).setCell (Nat.le_refl _) _).setCell (Nat.le_refl _) _).setCell (Nat.le_refl _) _).setCell (Nat.le_refl _) _).setCell (Nat.le_refl _) _).setCell (Nat.le_refl _) _)
    | true =>
     have er : readS L = yesS L := by
      unfold readS
      rw [strict_iff, if_pos]
      rw [decide_eq_true_eq]
      rw [ByteArray.toList_eq, ByteArray.toList_eq, HL.out] at hq
      exact ⟨hne, by simpa using hq⟩
     go_wp2
     have lt4 : w.heap.size < w1.heap.size := by omega
     have lt5 : w.heap.size < w3.heap.size := by omega
     refine bodyPost_ret (results10 _ _ w.heap.size true (.int .i64 (nm 0 L)) (.int .i64 (nm 1 L)) (.int .i64 (nm 2 L)) (.int .i64 (nm 3 L)) (.int .i64 (nm 4 L)) (.string ⟨(rst 7 L).toArray⟩) (.int .i64 (rl 5 L).1) (.slice a1 (rl 5 L).2.1.length k1) (.int .i64 (rl 6 L).1) (.slice a2 (rl 6 L).2.1.length k2) (PC.out.all10 _ _ _ _ _ _ _ _ _ _) rfl rfl) rfl (SPost.yes (by rw [HL.out, er]) ?_ ?_ ?_)
     ·exact OwnCats.cats ((((((((((NC.out.set lt4 _ _).set lt4 _ _).set lt4 _ _).set lt4 _ _).set lt4 _ _).set lt4 _ _).set lt4 _ _).set lt4 _ _).set lt4 _ _).set lt4 _ _)
     ·exact OwnCats.cats ((((((((((MC.out.set lt5 _ _).set lt5 _ _).set lt5 _ _).set lt5 _ _).set lt5 _ _).set lt5 _ _).set lt5 _ _).set lt5 _ _).set lt5 _ _).set lt5 _ _)
     ·exact ((((((((((BC.out.setCell (Nat.le_refl _) _).setCell (Nat.le_refl _) _).setCell (Nat.le_refl _) _).setCell (Nat.le_refl _) _).setCell (Nat.le_refl _) _).setCell (Nat.le_refl _) _).setCell (Nat.le_refl _) _).setCell (Nat.le_refl _) _).setCell (Nat.le_refl _) _).setCell (Nat.le_refl _) _)
end Go.Proofs.YthbmfbnnemgbpaaGreatDoor
namespace Go.Proofs.YthbmfbnnemgbpaaGreatDoor
open Go Go.RowKit Go.Deep Go.Maps Go.BigFrame Go.Shelf
theorem draw_results (tmps : Array Value) (W : World) (P : Nat) (x0 x1 x2 x3 x4 x5 x6 x7 x8 x9 : Value) (h : Blk W P (.cells #[x0, x1, x2, x3, x4, x5, x6, x7, x8, x9] 28)) (h2 : tmps[2]? = some (.pointer (some ⟨P, 0, none⟩))) :
 (results Tryz.f5 tmps).run Tryz.prog W = .ok (.agg #[x0, x1, x2, x3, x4, x5, x6, x7, x8, x9]) W := by
 obtain ⟨z0, z1, z2, z3, z4, z5, z6, z7, z8, z9⟩ := h.ten
 simp [results, Tryz.results5, go_sem, h2, z0, z1, z2, z3, z4, z5, z6, z7, z8, z9]
def DrawnS (d : ByteArray) (a1 : Option Addr) (l1 : List (Int × Int)) (a2 : Option Addr) (l2 : List (Int × Int)) (w : World) : Prop :=
 l1.length ≤ maxLen ∧ l2.length ≤ maxLen ∧ d.size ≤ 100 ∧ CatsAt w a1 l1.length (fstAt l1) (sndAt l1) ∧ CatsAt w a2 l2.length (fstAt l2) (sndAt l2)
theorem DrawnS.of {s : StepV} {w : World} (h1 : s.c1.new 0 w) (h2 : s.c2.new 0 w) (h3 : s.data.size ≤ 100) :
 s.c1.n = (catsTo s.c1.f s.c1.g s.c1.n).length ∧ s.c2.n = (catsTo s.c2.f s.c2.g s.c2.n).length ∧ DrawnS s.data s.c1.a (catsTo s.c1.f s.c1.g s.c1.n) s.c2.a (catsTo s.c2.f s.c2.g s.c2.n) w := by
 have e1 : (catsTo s.c1.f s.c1.g s.c1.n).length = s.c1.n := by simp [catsTo]
 have e2 : (catsTo s.c2.f s.c2.g s.c2.n).length = s.c2.n := by simp [catsTo]
 exact ⟨e1.symm, e2.symm, by rw [e1]; exact h1.1.1, by rw [e2]; exact h2.1.1, h3, h1.1.2.list, h2.1.2.list⟩
set_option maxRecDepth 100000 in
set_option maxHeartbeats 4000000 in
theorem drawStep_any (a : Option Addr) (n cap : Nat) (w : World) (hn : n ≤ 1048576) (hb : BytesAt w a n) :
 Calls Tryz.prog 5 #[.slice a n cap] w fun e w' => ∃ (th kind id to' cat : Int) (d : ByteArray) (bl : Int) (a1 : Option Addr) (l1 : List (Int × Int)) (k1 : Nat) (bc : Int) (a2 : Option Addr) (l2 : List (Int × Int)) (k2 : Nat), e = .returned (.agg #[.int .i64 th, .int .i64 kind, .int .i64 id, .int .i64 to', .int .i64 cat, .string d, .int .i64 bl, .slice a1 l1.length k1, .int .i64 bc, .slice a2 l2.length k2]) ∧ DrawnS d a1 l1 a2 l2 w' ∧ Below w.heap.size w w' := by
 have R0 := hid (Blk.new w zeroS)
 have B0 : Hid (Below w.heap.size w (w.alloc zeroS)) := hid ((Below.refl _ w).alloc (Nat.le_refl _) _)
 have HB := hid (hb.below B0.out)
 clear hb
 unfold zeroS at *
 go_enter Tryz.func5, Tryz.ntmps5
 go_wp2_with fail
 generalize w.alloc (.cells #[.int .i64 0, .int .i64 0, .int .i64 0, .int .i64 0, .int .i64 0, .string ⟨#[]⟩, .int .i64 0, .slice none 0 0, .int .i64 0, .slice none 0 0] 28) = V at *
 refine (l1Open_any a n cap V hn HB.out).mono ?_
 rintro e w1 ⟨rb, rfl, r1⟩
 have R1 := hid r1
 clear r1
 go_wp2_with fail
 refine (rdKernel_any V rb a n cap w1 R1.out).mono ?_
 rintro e w2 ⟨lt, lo, g, ca, q, co, rfl, ks, kd, r2, g2⟩
 have KS := hid ks
 have KD := hid kd
 have R2 := hid r2
 clear ks kd r2 g2
 go_wp2_with fail
 refine (rdStep_any V rb a n cap w2 R2.out lt lo g ca q co w1.heap.size KS.out R1.out.lt KD.out.S).mono ?_
 rintro e w3 ⟨s, rfl, sa, r3, g3⟩
 have RB := hid (R0.out.below r3.E)
 have LB := hid (then_ B0.out r3.E)
 have SA := hid sa
 clear sa r3 g3
 obtain ⟨z0, z1, z2, z3, z4, z5, z6, z7, z8, z9⟩ := RB.out.ten
 have zf := RB.out.warm
 go_wp2
 have KP := hid (keeps_set10 RB.out (by decide) (.int .i64 s.th) (.int .i64 s.kind) (.int .i64 s.id) (.int .i64 s.to) (.int .i64 s.cat) (.string s.data) (.int .i64 s.b1) (.slice s.c1.a s.c1.n s.c1.k) (.int .i64 s.b2) (.slice s.c2.a s.c2.n s.c2.k))
 obtain ⟨e1, e2, D⟩ := DrawnS.of (SA.out.1.keeps KP.out) (SA.out.2.1.keeps KP.out) SA.out.2.2
 refine bodyPost_ret (draw_results _ _ w.heap.size (.int .i64 s.th) (.int .i64 s.kind) (.int .i64 s.id) (.int .i64 s.to) (.int .i64 s.cat) (.string s.data) (.int .i64 s.b1) (.slice s.c1.a s.c1.n s.c1.k) (.int .i64 s.b2) (.slice s.c2.a s.c2.n s.c2.k) (blk_set10 RB.out (.int .i64 s.th) (.int .i64 s.kind) (.int .i64 s.id) (.int .i64 s.to) (.int .i64 s.cat) (.string s.data) (.int .i64 s.b1) (.slice s.c1.a s.c1.n s.c1.k) (.int .i64 s.b2) (.slice s.c2.a s.c2.n s.c2.k)) rfl) rfl ⟨s.th, s.kind, s.id, s.to, s.cat, s.data, s.b1, s.c1.a, _, s.c1.k, s.b2, s.c2.a, _, s.c2.k, by rw [← e1, ← e2], D, ?_⟩
 exact set10 LB.out (Nat.le_refl _) (.int .i64 s.th) (.int .i64 s.kind) (.int .i64 s.id) (.int .i64 s.to) (.int .i64 s.cat) (.string s.data) (.int .i64 s.b1) (.slice s.c1.a s.c1.n s.c1.k) (.int .i64 s.b2) (.slice s.c2.a s.c2.n s.c2.k)
set_option maxRecDepth 100000 in
set_option maxHeartbeats 4000000 in
theorem drawRead_any (a : Option Addr) (n cap : Nat) (w : World) (hn : n ≤ 1048576) (hb : BytesAt w a n) :
 Calls Tryz.prog 11 #[.slice a n cap] w fun e w' => ∃ t : ByteArray, e = .returned (.string t) ∧ t.size ≤ 60010 ∧ Below w.heap.size w w' := by
 have HB := hid hb
 clear hb
 go_enter Tryz.func11, Tryz.ntmps11
 go_wp2_with fail
 refine (l1Open_any a n cap w hn HB.out).mono ?_
 rintro e w1 ⟨rb, rfl, r1⟩
 have R1 := hid r1
 clear r1
 go_wp2_with fail
 refine (rdKernel_any w rb a n cap w1 R1.out).mono ?_
 rintro e w2 ⟨lt, lo, g, ca, q, co, rfl, ks, kd, r2, g2⟩
 have KS := hid ks
 have KD := hid kd
 have R2 := hid r2
 clear ks kd r2 g2
 go_wp2_with fail
 refine (rdStep_any w rb a n cap w2 R2.out lt lo g ca q co w1.heap.size KS.out R1.out.lt KD.out.S).mono ?_
 rintro e w3 ⟨s, rfl, sa, r3, g3⟩
 have R3 := hid r3
 obtain ⟨e1, e2, D⟩ := DrawnS.of sa.1 sa.2.1 sa.2.2
 have DD := hid D
 clear sa r3 g3 D
 rw [e1, e2]
 have sh := stepX_short s.th s.kind s.id s.to s.cat s.data s.b1 (catsTo s.c1.f s.c1.g s.c1.n) s.b2 (catsTo s.c2.f s.c2.g s.c2.n)
 have PT : Hid (Calls Tryz.prog 8 #[.agg #[.int .i64 s.th, .int .i64 s.kind, .int .i64 s.id, .int .i64 s.to, .int .i64 s.cat, .string s.data, .int .i64 s.b1, .slice s.c1.a (catsTo s.c1.f s.c1.g s.c1.n).length s.c1.k, .int .i64 s.b2, .slice s.c2.a (catsTo s.c2.f s.c2.g s.c2.n).length s.c2.k]] w3 fun e w' => e = .returned (.string (stepX s.th s.kind s.id s.to s.cat s.data s.b1 (catsTo s.c1.f s.c1.g s.c1.n) s.b2 (catsTo s.c2.f s.c2.g s.c2.n))) ∧ Below w3.heap.size w3 w') := hid (specStepText_any _ _ _ _ _ _ _ _ _ _ _ _ _ _ _ _ _ _ w3 (Nat.le_trans DD.out.2.2.1 (by unfold maxLen; omega)) DD.out.1 DD.out.2.1 DD.out.2.2.2.1 DD.out.2.2.2.2)
 generalize stepX s.th s.kind s.id s.to s.cat s.data s.b1 (catsTo s.c1.f s.c1.g s.c1.n) s.b2 (catsTo s.c2.f s.c2.g s.c2.n) = X at *
 generalize (catsTo s.c1.f s.c1.g s.c1.n).length = N1 at *
 generalize (catsTo s.c2.f s.c2.g s.c2.n).length = N2 at *
 clear DD
 go_wp2_with fail
 refine PT.out.mono ?_
 rintro e w4 ⟨rfl, h4⟩
 have R4 := hid (R3.out.below h4)
 clear h4 PT
 go_wp2_with fail
 refine (hurt_any w rb a n cap X w4 sh R4.out).mono ?_
 rintro e w5 ⟨u, rfl, hu, E5⟩
 go_wp2
 go_ret
 exact ⟨u, rfl, by omega, E5⟩
end Go.Proofs.YthbmfbnnemgbpaaGreatDoor
namespace Go.Proofs.YthbmfbnnemgbpaaGreatDoor
open Go Go.RowKit Go.Deep Go.Maps
set_option maxRecDepth 100000 in
set_option maxHeartbeats 2000000 in
theorem same_any (base : Int) (a1 a2 : Option Addr) (n k1 k2 : Nat) (f g : Nat → Int) (w : World) (hn : n ≤ 1048576) (h1 : CatsAt w a1 n f g) (h2 : CatsAt w a2 n f g) :
 Calls Tryz.prog 10 #[.agg #[.int .i64 base, .slice a1 n k1], .agg #[.int .i64 base, .slice a2 n k2]] w fun e w' => e = .returned (.bool true) ∧ Below w.heap.size w w' := by
 have hb0 := ((Below.refl _ w).alloc (Nat.le_refl _) (.cells #[.int .i64 base, .slice a1 n k1] 26)).alloc (by simp) (.cells #[.int .i64 base, .slice a2 n k2] 26)
 have H1 : Hid (CatsAt w a1 n f g) := h1
 have H2 : Hid (CatsAt w a2 n f g) := h2
 clear h1 h2
 have A0 : Blk ((w.alloc (.cells #[.int .i64 base, .slice a1 n k1] 26)).alloc (.cells #[.int .i64 base, .slice a2 n k2] 26)) w.heap.size (.cells #[.int .i64 base, .slice a1 n k1] 26) := (Blk.new w _).alloc _
 have B0 : Blk ((w.alloc (.cells #[.int .i64 base, .slice a1 n k1] 26)).alloc (.cells #[.int .i64 base, .slice a2 n k2] 26)) (w.heap.size + 1) (.cells #[.int .i64 base, .slice a2 n k2] 26) := by
  have := Blk.new (w.alloc (.cells #[.int .i64 base, .slice a1 n k1] 26)) (.cells #[.int .i64 base, .slice a2 n k2] 26)
  simpa using this
 go_enter Tryz.func10, Tryz.ntmps10
 go_wp2
 generalize (w.alloc (.cells #[.int .i64 base, .slice a1 n k1] 26)).alloc (.cells #[.int .i64 base, .slice a2 n k2] 26) = W0 at *
 go_loopw [5] (fun i wr => ∃ k : Nat, k ≤ n ∧ i = .int .i64 k ∧ Below W0.heap.size W0 wr) (fun i _ => n - (intOf i).toNat)
 case atStart => exact ⟨0, Nat.zero_le _, rfl, Below.refl _ _⟩
 case round =>
  obtain ⟨k, hk, rfl, hB⟩ := hrel
  obtain ⟨x1, x2⟩ := (A0.below hB).two
  obtain ⟨x3, x4⟩ := (B0.below hB).two
  have Lw : Below w.heap.size w wr := hb0.trans (hB.mono hb0.size)
  by_cases hlt' : k < n
  ·obtain ⟨p1, o1, rfl, l1, c1⟩ := H1.out.below Lw (by omega)
   obtain ⟨p2, o2, rfl, l2, c2⟩ := H2.out.below Lw (by omega)
   obtain ⟨r1, r2⟩ := c1 k hlt'
   obtain ⟨r3, r4⟩ := c2 k hlt'
   have i0 : (0 : Int) ≤ (k : Int) := by omega
   have i1 : (k : Int) < (n : Int) := by omega
   clear c1 c2
   go_wp2_with fail
   go_region_held3 (fun w' => w'.cell? ⟨w.heap.size, 1, none⟩ = some (.slice (some ⟨p1, o1, none⟩) n k1) ∧ w'.cell? ⟨w.heap.size + 1, 1, none⟩ = some (.slice (some ⟨p2, o2, none⟩) n k2) ∧ w'.cell? ⟨p1, o1 + k * 2, none⟩ = some (.int .i64 (f k)) ∧ w'.cell? ⟨p1, o1 + k * 2 + 1, none⟩ = some (.int .i64 (g k)) ∧ w'.cell? ⟨p2, o2 + k * 2, none⟩ = some (.int .i64 (f k)) ∧ w'.cell? ⟨p2, o2 + k * 2 + 1, none⟩ = some (.int .i64 (g k))) (go_keep) (fail)
   go_wp2
   go_roundw
   case rel => exact ⟨k + 1, by omega, by go_num, hB.drew⟩
   case measure => simp [intOf]; omega
  ·have i1 : ¬ (k : Int) < (n : Int) := by omega
   go_wp2
   go_ret
   exact ⟨rfl, Lw⟩
end Go.Proofs.YthbmfbnnemgbpaaGreatDoor
