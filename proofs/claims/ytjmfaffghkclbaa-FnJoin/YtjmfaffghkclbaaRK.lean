/- Two drawn labels for FnJoin; a label in a variable. -/
import Derived.Test.YtjmfaffghkclbaaRG
import Derived.Test.YtjmfaffghkclbaaRJ
import Derived.Test.YtjmfaffghkclbaaJH
namespace Go.Proofs.Ytjmfaffghkclbaa
open Go.RowKit Go.Deep Go.Maps

set_option maxRecDepth 100000 in
set_option maxHeartbeats 2000000 in
theorem drawJoin_any (a : Option Addr) (n cap : Nat) (w : World) (hn : n ≤ 1048576) (hb : BytesAt w a n) :
    Calls Try.prog 26 #[.slice a n cap] w fun e w' => ∃ (b1 : Int) (l1 : List (Int × Int)) (a1 : Option Addr) (c1 : Nat) (b2 : Int) (l2 : List (Int × Int)) (a2 : Option Addr) (c2 : Nat), e = .returned (.tuple #[.agg #[.int .i64 b1, .slice a1 l1.length c1], .agg #[.int .i64 b2, .slice a2 l2.length c2]]) ∧ l1.length ≤ 3 ∧ l2.length ≤ 3 ∧ CatsAt w' a1 l1.length (fstAt l1) (sndAt l1) ∧ CatsAt w' a2 l2.length (fstAt l2) (sndAt l2) ∧ Below w.heap.size w w' := by
  have K0 := ((Below.refl _ w).alloc (Nat.le_refl _) (.cells #[.int .i64 0, .slice none 0 0] 26)).alloc (by simp) (.cells #[.int .i64 0, .slice none 0 0] 26)
  have X0 : Blk ((w.alloc (.cells #[.int .i64 0, .slice none 0 0] 26)).alloc (.cells #[.int .i64 0, .slice none 0 0] 26)) w.heap.size (.cells #[.int .i64 0, .slice none 0 0] 26) := (Blk.new w _).alloc _
  have Y0 : Blk ((w.alloc (.cells #[.int .i64 0, .slice none 0 0] 26)).alloc (.cells #[.int .i64 0, .slice none 0 0] 26)) (w.heap.size + 1) (.cells #[.int .i64 0, .slice none 0 0] 26) := by
    have := Blk.new (w.alloc (.cells #[.int .i64 0, .slice none 0 0] 26)) (.cells #[.int .i64 0, .slice none 0 0] 26)
    simpa using this
  have HB : Hid (BytesAt w a n) := hb
  clear hb
  go_enter Try.func26, Try.ntmps26
  go_wp2_with fail
  refine (drawLeq_any a n cap _ hn (HB.out.below K0)).mono ?_
  rintro e u1 ⟨b1, l1, a1, c1, b2, l2, a2, c2, rfl, k1, k2, C1, C2, E1⟩
  have X1 := X0.below E1
  have Y1 := Y0.below E1
  have L1 : Below w.heap.size w u1 := K0.trans (E1.mono K0.size)
  have H1 : Hid (CatsAt u1 a1 l1.length (fstAt l1) (sndAt l1)) := C1
  have H2 : Hid (CatsAt u1 a2 l2.length (fstAt l2) (sndAt l2)) := C2
  clear C1 C2 HB E1 X0 Y0 K0
  obtain ⟨p1, p2⟩ := X1.two
  obtain ⟨p3, p4⟩ := Y1.two
  have f1 := X1.frozen2 0
  have f2 := X1.frozen2 1
  have f3 := Y1.frozen2 0
  have f4 := Y1.frozen2 1
  go_wp2
  have Y1' : Blk ((u1.setCell ⟨w.heap.size, 0, none⟩ (.int .i64 b1)).setCell ⟨w.heap.size, 1, none⟩ (.slice a1 l1.length c1)) (w.heap.size + 1) (.cells #[.int .i64 0, .slice none 0 0] 26) := (blk_setCell_other _ _ _ _ (by dsimp only; omega)).trans ((blk_setCell_other _ _ _ _ (by dsimp only; omega)).trans Y1)
  refine bodyPost_ret (v := .tuple #[.agg #[.int .i64 b1, .slice a1 l1.length c1], .agg #[.int .i64 b2, .slice a2 l2.length c2]]) (by simp [results, Try.results26, go_sem, *]) rfl ⟨b1, l1, a1, c1, b2, l2, a2, c2, rfl, k1, k2, ?_, ?_, ?_⟩
  · exact CatsAt.setP (CatsAt.setP (CatsAt.setP (CatsAt.setP H1.out X1 0 _) (X1.set0 _) 1 _) Y1' 0 _) (Y1'.set0 _) 1 _
  · exact CatsAt.setP (CatsAt.setP (CatsAt.setP (CatsAt.setP H2.out X1 0 _) (X1.set0 _) 1 _) Y1' 0 _) (Y1'.set0 _) 1 _
  · exact (((L1.setCell (by dsimp only; omega) _).setCell (by dsimp only; omega) _).setCell (by dsimp only; omega) _).setCell (by dsimp only; omega) _

/-- a label lies in the variable at block P -/
structure LabAt (W : World) (P : Nat) (b : Int) (l : List (Int × Int)) (a : Option Addr) (c : Nat) : Prop where
  blk : Blk W P (.cells #[.int .i64 b, .slice a l.length c] 26)
  cats : CatsAt W a l.length (fstAt l) (sndAt l)
theorem LabAt.below {W W' : World} {P : Nat} {b : Int} {l : List (Int × Int)} {a : Option Addr} {c : Nat} (h : LabAt W P b l a c) (hb : Below W.heap.size W W') : LabAt W' P b l a c := ⟨h.blk.below hb, h.cats.below hb⟩
theorem LabAt.two {W : World} {P : Nat} {b : Int} {l : List (Int × Int)} {a : Option Addr} {c : Nat} (h : LabAt W P b l a c) : W.cell? ⟨P, 0, none⟩ = some (.int .i64 b) ∧ W.cell? ⟨P, 1, none⟩ = some (.slice a l.length c) := h.blk.two
end Go.Proofs.Ytjmfaffghkclbaa
