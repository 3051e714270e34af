/- The reader of the program: a step that is read. -/
import Derived.Test.YtcpphobokdkkeaaDoorTD
import Derived.Test.YtcpphobokdkkeaaDoorHI
namespace Go.Proofs.YtcpphobokdkkeaaDoor
open Go Go.RowKit Go.Deep Go.Maps

theorem clone_any (s : ByteArray) (w : World) (hn : s.size ≤ 281474976710656) :
    Calls Tryd.prog 52 #[.string s] w fun e w' => e = .returned (.string s) ∧ Below w.heap.size w w' := by
  have hc := fun v => Go.Proofs.Any.stringslite_Clone Tryd.cloneA s v hn
  change ∀ v : World, Calls Tryd.prog 66 #[.string s] v fun e w' => e = .returned (.string s) ∧ Below v.heap.size v w' at hc
  go_enter Tryd.func52, Tryd.ntmps52
  go_wp2_with fail
  refine (hc _).mono ?_
  rintro e w1 ⟨rfl, hb⟩
  go_wp2
  go_ret
  exact ⟨rfl, hb⟩
set_option maxRecDepth 100000 in
theorem results28 (tmps : Array Value) (W : World) (P : Nat) (x0 x1 x2 x3 x4 x5 x6 x7 x8 x9 : Value) (h : Blk W P (.cells #[x0, x1, x2, x3, x4, x5, x6, x7, x8, x9] 33)) (h2 : tmps[2]? = some (.pointer (some ⟨P, 0, none⟩))) :
    (results Tryd.f28 tmps).run Tryd.prog W = .ok (.agg #[x0, x1, x2, x3, x4, x5, x6, x7, x8, x9]) W := by
  obtain ⟨z0, z1, z2, z3, z4, z5, z6, z7, z8, z9⟩ := h.ten
  simp [results, Tryd.results28, go_sem, h2, z0, z1, z2, z3, z4, z5, z6, z7, z8, z9]
/-- two lists of the call's own, one behind the other -/
def Two (w W' : World) (v1 v2 : Value) (l1 l2 : List (Int × Int)) : Prop := ∃ M1 M2, w.heap.size ≤ M1 ∧ M1 ≤ M2 ∧ (∀ j, v1.ownBlock = some j → j < M2) ∧ OwnList W' M1 v1 l1 ∧ OwnList W' M2 v2 l2
theorem Own.lt {w : World} {B : Nat} {v : Value} {l : List (Int × Int)} (h : OwnList w B v l) : ∀ j, v.ownBlock = some j → j < w.heap.size := fun j hj => (World.ownsRow.lt h j hj).2

theorem OwnList.apart {w : World} {B P : Nat} {v : Value} {l : List (Int × Int)} (h : OwnList w B v l) (hne : ¬ v.ownBlock = some P) (i : Nat) (x : Value) : OwnList (w.setCell ⟨P, i, none⟩ x) B v l := by
  refine ⟨h.1, ?_⟩
  rcases h.2 with hn | ⟨g, cap, cur, hv, hbg, hgg, rest⟩
  · exact .inl hn
  · exact .inr ⟨g, cap, cur, hv, hbg, (Below.heap_setCell _ _ _ _ (fun e => hne (by rw [hv]; show some g = some P; rw [e]))).trans hgg, rest⟩
set_option maxRecDepth 100000 in
set_option maxHeartbeats 4000000 in
theorem step_yes (w : World) (rb : Nat) (L : List UInt8) (W : World) (hL : L.length ≤ 1048576) (hR : Reader w rb 0 L W) (hs : strictS L = true) :
    Calls Tryd.prog 28 #[.pointer (some ⟨rb, 0, none⟩)] W fun e W' => ∃ a1 k1 a2 k2, e = .returned (.agg #[.int .i64 (nm 0 L), .int .i64 (nm 1 L), .int .i64 (nm 2 L), .int .i64 (nm 3 L), .int .i64 (nm 4 L), .string ⟨(rst 7 L).toArray⟩, .int .i64 (rl 5 L).1, .slice a1 (rl 5 L).2.1.length k1, .int .i64 (rl 6 L).1, .slice a2 (rl 6 L).2.1.length k2]) ∧ Two w W' (.slice a1 (rl 5 L).2.1.length k1) (.slice a2 (rl 6 L).2.1.length k2) (rl 5 L).2.1 (rl 6 L).2.1 ∧ Below w.heap.size w W' := by
  unfold strictS at hs
  simp only [Bool.and_eq_true] at hs
  obtain ⟨⟨⟨⟨⟨⟨⟨h0, h1⟩, h2⟩, h3⟩, h4⟩, h5⟩, h6⟩, hr⟩ := hs
  have lr := hR.2.1.lt
  have lw := hR.2.2.size
  have ne : some W.heap.size ≠ some rb := fun e => by have := Option.some.inj e; omega
  have R0 := hid (hR.mk' zeroS)
  have Z0 := hid (Blk.new W zeroS)
  clear hR
  go_enter Tryd.func28, Tryd.ntmps28
  go_wp2_with fail
  refine (number_yes w rb 0 L _ hL R0.out h0).mono ?_
  rintro e w1 ⟨rfl, R1', G1⟩
  have R1 := hid R1'
  have Z1 := hid (Z0.out.grown G1 ne)
  clear R1' G1 R0 Z0
  go_wp2_with fail
  refine (number_yes w rb 1 L _ hL R1.out h1).mono ?_
  rintro e w2 ⟨rfl, R2', G2⟩
  have R2 := hid R2'
  have Z2 := hid (Z1.out.grown G2 ne)
  clear R2' G2 R1 Z1
  go_wp2_with fail
  refine (number_yes w rb 2 L _ hL R2.out h2).mono ?_
  rintro e w3 ⟨rfl, R3', G3⟩
  have R3 := hid R3'
  have Z3 := hid (Z2.out.grown G3 ne)
  clear R3' G3 R2 Z2
  go_wp2_with fail
  refine (number_yes w rb 3 L _ hL R3.out h3).mono ?_
  rintro e w4 ⟨rfl, R4', G4⟩
  have R4 := hid R4'
  have Z4 := hid (Z3.out.grown G4 ne)
  clear R4' G4 R3 Z3
  go_wp2_with fail
  refine (number_yes w rb 4 L _ hL R4.out h4).mono ?_
  rintro e w5 ⟨rfl, R5', G5⟩
  have R5 := hid R5'
  have Z5 := hid (Z4.out.grown G5 ne)
  clear R5' G5 R4 Z4
  go_wp2_with fail
  have lz5 : W.heap.size < w5.heap.size := Z5.out.lt
  have lr5 := R5.out.2.1.lt
  refine (label_yes w rb 5 L _ hL R5.out h5).mono ?_
  rintro e w6 ⟨a1, k1, rfl, O6', R6', G6⟩
  have R6 := hid R6'
  have Z6 := hid (Z5.out.grown G6 ne)
  have O6 := hid O6'
  have lr6 := R6.out.2.1.lt
  have l56 := G6.size
  clear R6' G6 R5 Z5 O6'
  go_wp2_with fail
  have OL := hid (Own.lt O6.out)
  refine (label_yes w rb 6 L _ hL R6.out h6).mono ?_
  rintro e w7 ⟨a2, k2, rfl, O7', R7', G7⟩
  have l67 := G7.size
  have OM := hid (Own.lt O7')
  have N7 := hid (OwnList.past O6.out G7 lr5)
  have Z7 := hid (Z6.out.grown G7 ne)
  have O7 := hid O7'
  have R7 := hid (R7'.mk' (.cells #[.int .i64 (nm 0 L), .int .i64 (nm 1 L), .int .i64 (nm 2 L), .int .i64 (nm 3 L), .int .i64 (nm 4 L), .string ⟨#[]⟩, .int .i64 (rl 5 L).1, .slice a1 (rl 5 L).2.1.length k1, .int .i64 (rl 6 L).1, .slice a2 (rl 6 L).2.1.length k2] 33))
  have N8 := hid (OwnCats.alloc N7.out (.cells #[.int .i64 (nm 0 L), .int .i64 (nm 1 L), .int .i64 (nm 2 L), .int .i64 (nm 3 L), .int .i64 (nm 4 L), .string ⟨#[]⟩, .int .i64 (rl 5 L).1, .slice a1 (rl 5 L).2.1.length k1, .int .i64 (rl 6 L).1, .slice a2 (rl 6 L).2.1.length k2] 33))
  have O8 := hid (OwnCats.alloc O7.out (.cells #[.int .i64 (nm 0 L), .int .i64 (nm 1 L), .int .i64 (nm 2 L), .int .i64 (nm 3 L), .int .i64 (nm 4 L), .string ⟨#[]⟩, .int .i64 (rl 5 L).1, .slice a1 (rl 5 L).2.1.length k1, .int .i64 (rl 6 L).1, .slice a2 (rl 6 L).2.1.length k2] 33))
  have Z8 := hid (Z7.out.alloc (.cells #[.int .i64 (nm 0 L), .int .i64 (nm 1 L), .int .i64 (nm 2 L), .int .i64 (nm 3 L), .int .i64 (nm 4 L), .string ⟨#[]⟩, .int .i64 (rl 5 L).1, .slice a1 (rl 5 L).2.1.length k1, .int .i64 (rl 6 L).1, .slice a2 (rl 6 L).2.1.length k2] 33))
  have Y8 := hid (Blk.new w7 (.cells #[.int .i64 (nm 0 L), .int .i64 (nm 1 L), .int .i64 (nm 2 L), .int .i64 (nm 3 L), .int .i64 (nm 4 L), .string ⟨#[]⟩, .int .i64 (rl 5 L).1, .slice a1 (rl 5 L).2.1.length k1, .int .i64 (rl 6 L).1, .slice a2 (rl 6 L).2.1.length k2] 33))
  have c8 := R7.out.2.1.one
  clear R7' G7 R6 Z6 O7' O6 N7 O7 Z7
  go_wp2_with fail
  refine (clone_any _ _ (by rw [size_of]; have := rst_len 7 L; omega)).mono ?_
  rintro e w8 ⟨rfl, hb8⟩
  have N9 := hid (OwnList.apart (OwnList.below N8.out hb8) (P := w7.heap.size) (fun e => by have := OL.out _ e; omega) 5 (.string ⟨(rst 7 L).toArray⟩))
  have O9 := hid (OwnList.apart (OwnList.below O8.out hb8) (P := w7.heap.size) (fun e => by have := OM.out _ e; omega) 5 (.string ⟨(rst 7 L).toArray⟩))
  have B9 := hid ((then_ R7.out.2.2 hb8).setCell (p := ⟨w7.heap.size, 5, none⟩) (show w.heap.size ≤ w7.heap.size by omega) (.string ⟨(rst 7 L).toArray⟩))
  have Z9 := hid ((Z8.out.below hb8).other (Q := w7.heap.size) (i := 5) (by omega) (.string ⟨(rst 7 L).toArray⟩))
  have Y9 := hid (Y8.out.below hb8)
  have YA : Hid (Blk (w8.setCell ⟨w7.heap.size, 5, none⟩ (.string ⟨(rst 7 L).toArray⟩)) w7.heap.size (.cells #[.int .i64 (nm 0 L), .int .i64 (nm 1 L), .int .i64 (nm 2 L), .int .i64 (nm 3 L), .int .i64 (nm 4 L), .string ⟨(rst 7 L).toArray⟩, .int .i64 (rl 5 L).1, .slice a1 (rl 5 L).2.1.length k1, .int .i64 (rl 6 L).1, .slice a2 (rl 6 L).2.1.length k2] 33)) := hid (Y9.out.setAt _)
  obtain ⟨y0, y1, y2, y3, y4, y5, y6, y7, y8, y9⟩ := Y9.out.ten
  have f5 := Y9.out.warm 5
  have P19 := hid (implStep_any (nm 0 L) (nm 1 L) (nm 2 L) (nm 3 L) (nm 4 L) ⟨(rst 7 L).toArray⟩ (rl 5 L).1 a1 (rl 5 L).2.1.length k1 (fstAt (rl 5 L).2.1) (sndAt (rl 5 L).2.1) (rl 6 L).1 a2 (rl 6 L).2.1.length k2 (fstAt (rl 6 L).2.1) (sndAt (rl 6 L).2.1) _ (by rw [size_of]; unfold maxLen; have := rst_len 7 L; omega) (by unfold maxLen; have := readL_len (pce 5 L); unfold rl; omega) (by unfold maxLen; have := readL_len (pce 6 L); unfold rl; omega) (OwnCats.cats N9.out) (OwnCats.cats O9.out))
  change Hid (Calls _ _ _ _ fun e w' => e = .returned (.bool (rightS L)) ∧ _) at P19
  rw [hr] at P19
  clear c8 N8 O8 Z8 Y8 hb8 R7
  go_wp2_with fail
  generalize w8.setCell ⟨w7.heap.size, 5, none⟩ (.string ⟨(rst 7 L).toArray⟩) = V at *
  clear y0 y1 y2 y3 y4 y5 y6 y7 y8 y9 f5 Y9
  refine P19.out.mono ?_
  rintro e w9 ⟨rfl, hb9⟩
  clear P19
  have NA := hid (OwnList.below N9.out hb9)
  have OA := hid (OwnList.below O9.out hb9)
  have BA := hid (then_ B9.out hb9)
  have ZA := hid (Z9.out.below hb9)
  have YB := hid (YA.out.below hb9)
  clear N9 O9 B9 Z9 YA hb9
  obtain ⟨y0, y1, y2, y3, y4, y5, y6, y7, y8, y9⟩ := YB.out.ten
  obtain ⟨z0, z1, z2, z3, z4, z5, z6, z7, z8, z9⟩ := ZA.out.ten
  have g0 := ZA.out.warm
  have n3 : ¬ W.heap.size = w7.heap.size := by omega
  have n4 : ¬ w7.heap.size = W.heap.size := by omega
  have lt6 : W.heap.size < w6.heap.size := by omega
  go_wp2_with (go_at_call 53; refine (must_yes _).mono ?_; rintro e w10 ⟨rfl, rfl⟩)
  refine bodyPost_ret (results28 _ _ W.heap.size (.int .i64 (nm 0 L)) (.int .i64 (nm 1 L)) (.int .i64 (nm 2 L)) (.int .i64 (nm 3 L)) (.int .i64 (nm 4 L)) (.string ⟨(rst 7 L).toArray⟩) (.int .i64 (rl 5 L).1) (.slice a1 (rl 5 L).2.1.length k1) (.int .i64 (rl 6 L).1) (.slice a2 (rl 6 L).2.1.length k2) (ZA.out.all10 _ _ _ _ _ _ _ _ _ _) rfl) rfl ⟨a1, k1, a2, k2, rfl, ⟨w5.heap.size, w6.heap.size, by omega, by omega, OL.out, ?_, ?_⟩, ?_⟩
  · exact OwnList.set (OwnList.set (OwnList.set (OwnList.set (OwnList.set (OwnList.set (OwnList.set (OwnList.set (OwnList.set (OwnList.set NA.out lz5 _ _) lz5 _ _) lz5 _ _) lz5 _ _) lz5 _ _) lz5 _ _) lz5 _ _) lz5 _ _) lz5 _ _) lz5 _ _
  · exact OwnList.set (OwnList.set (OwnList.set (OwnList.set (OwnList.set (OwnList.set (OwnList.set (OwnList.set (OwnList.set (OwnList.set OA.out lt6 _ _) lt6 _ _) lt6 _ _) lt6 _ _) lt6 _ _) lt6 _ _) lt6 _ _) lt6 _ _) lt6 _ _) lt6 _ _
  · exact ((((((((((BA.out.setCell lw _).setCell lw _).setCell lw _).setCell lw _).setCell lw _).setCell lw _).setCell lw _).setCell lw _).setCell lw _).setCell lw _)
end Go.Proofs.YtcpphobokdkkeaaDoor
