/- The reader of the program: a step that is not read. -/
import Derived.Test.YthbmfbnnemgbpaaGreatDoorZ45
import Derived.Laws.Pointers
namespace Go.Proofs.YthbmfbnnemgbpaaGreatDoor
open Go Go.RowKit Go.Deep Go.Maps
set_option maxRecDepth 100000 in
set_option maxHeartbeats 4000000 in
theorem step_no0 (u : TypeId) (pv : Value) (w : World) (rb : Nat) (L : List UInt8) (W : World) (hL : L.length ≤ 1048576) (hR : Reader w rb 0 L W) (hE : Err u pv w) (h0 : numAtB 0 L = false) :
 Calls Tryz.prog 20 #[.pointer (some ⟨rb, 0, none⟩)] W fun e W' => e = gaveUp u pv ∧ Below w.heap.size w W' := by
 unfold gaveUp
 have lr := hR.2.1.lt
 have lw := hR.2.2.size
 have ne : some W.heap.size ≠ some rb := fun e => by have := Option.some.inj e; omega
 have R0 := hid (hR.mk' zeroS)
 have Z0 := hid (Blk.new W zeroS)
 clear hR
 go_enter Tryz.func20, Tryz.ntmps20
 have X := hid (number_no u pv w rb 0 L _ hL R0.out h0 hE)
 unfold gaveUp at X
 go_wp2_with (go_at_call 49; refine X.out.mono ?_; rintro e wx ⟨rfl, LX⟩)
 exact ⟨rfl, rfl, LX⟩
set_option maxRecDepth 100000 in
set_option maxHeartbeats 4000000 in
theorem step_no1 (u : TypeId) (pv : Value) (w : World) (rb : Nat) (L : List UInt8) (W : World) (hL : L.length ≤ 1048576) (hR : Reader w rb 0 L W) (hE : Err u pv w) (h0 : numAtB 0 L = true) (h1 : numAtB 1 L = false) :
 Calls Tryz.prog 20 #[.pointer (some ⟨rb, 0, none⟩)] W fun e W' => e = gaveUp u pv ∧ Below w.heap.size w W' := by
 unfold gaveUp
 have lr := hR.2.1.lt
 have lw := hR.2.2.size
 have ne : some W.heap.size ≠ some rb := fun e => by have := Option.some.inj e; omega
 have R0 := hid (hR.mk' zeroS)
 have Z0 := hid (Blk.new W zeroS)
 clear hR
 go_enter Tryz.func20, Tryz.ntmps20
 go_wp2_with fail
 refine (number_yes w rb 0 L _ hL R0.out h0).mono ?_
 rintro e w1 ⟨rfl, R1', G1⟩
 have R1 := hid R1'
 have Z1 := hid (Z0.out.grown G1 ne)
 clear R1' G1 R0 Z0
 have X := hid (number_no u pv w rb 1 L _ hL R1.out h1 hE)
 unfold gaveUp at X
 go_wp2_with (go_at_call 49; refine X.out.mono ?_; rintro e wx ⟨rfl, LX⟩)
 exact ⟨rfl, rfl, LX⟩
set_option maxRecDepth 100000 in
set_option maxHeartbeats 4000000 in
theorem step_no2 (u : TypeId) (pv : Value) (w : World) (rb : Nat) (L : List UInt8) (W : World) (hL : L.length ≤ 1048576) (hR : Reader w rb 0 L W) (hE : Err u pv w) (h0 : numAtB 0 L = true) (h1 : numAtB 1 L = true) (h2 : numAtB 2 L = false) :
 Calls Tryz.prog 20 #[.pointer (some ⟨rb, 0, none⟩)] W fun e W' => e = gaveUp u pv ∧ Below w.heap.size w W' := by
 unfold gaveUp
 have lr := hR.2.1.lt
 have lw := hR.2.2.size
 have ne : some W.heap.size ≠ some rb := fun e => by have := Option.some.inj e; omega
 have R0 := hid (hR.mk' zeroS)
 have Z0 := hid (Blk.new W zeroS)
 clear hR
 go_enter Tryz.func20, Tryz.ntmps20
 go_wp2_with fail
 refine (number_yes w rb 0 L _ hL R0.out h0).mono ?_
 rintro e w1 ⟨rfl, R1', G1⟩
 have R1 := hid R1'
 have Z1 := hid (Z0.out.grown G1 ne)
 clear R1' G1 R0 Z0
 go_wp2_with fail
 refine (number_yes w rb 1 L _ hL R1.out h1).mono ?_
 rintro e w2 ⟨rfl, R2', G2⟩
 have R2 := hid R2'
 have Z2 := hid (Z1.out.grown G2 ne)
 clear R2' G2 R1 Z1
 have X := hid (number_no u pv w rb 2 L _ hL R2.out h2 hE)
 unfold gaveUp at X
 go_wp2_with (go_at_call 49; refine X.out.mono ?_; rintro e wx ⟨rfl, LX⟩)
 exact ⟨rfl, rfl, LX⟩
set_option maxRecDepth 100000 in
set_option maxHeartbeats 4000000 in
theorem step_no3 (u : TypeId) (pv : Value) (w : World) (rb : Nat) (L : List UInt8) (W : World) (hL : L.length ≤ 1048576) (hR : Reader w rb 0 L W) (hE : Err u pv w) (h0 : numAtB 0 L = true) (h1 : numAtB 1 L = true) (h2 : numAtB 2 L = true) (h3 : numAtB 3 L = false) :
 Calls Tryz.prog 20 #[.pointer (some ⟨rb, 0, none⟩)] W fun e W' => e = gaveUp u pv ∧ Below w.heap.size w W' := by
 unfold gaveUp
 have lr := hR.2.1.lt
 have lw := hR.2.2.size
 have ne : some W.heap.size ≠ some rb := fun e => by have := Option.some.inj e; omega
 have R0 := hid (hR.mk' zeroS)
 have Z0 := hid (Blk.new W zeroS)
 clear hR
 go_enter Tryz.func20, Tryz.ntmps20
 go_wp2_with fail
 refine (number_yes w rb 0 L _ hL R0.out h0).mono ?_
 rintro e w1 ⟨rfl, R1', G1⟩
 have R1 := hid R1'
 have Z1 := hid (Z0.out.grown G1 ne)
 clear R1' G1 R0 Z0
 go_wp2_with fail
 refine (number_yes w rb 1 L _ hL R1.out h1).mono ?_
 rintro e w2 ⟨rfl, R2', G2⟩
 have R2 := hid R2'
 have Z2 := hid (Z1.out.grown G2 ne)
 clear R2' G2 R1 Z1
 go_wp2_with fail
 refine (number_yes w rb 2 L _ hL R2.out h2).mono ?_
 rintro e w3 ⟨rfl, R3', G3⟩
 have R3 := hid R3'
 have Z3 := hid (Z2.out.grown G3 ne)
 clear R3' G3 R2 Z2
 have X := hid (number_no u pv w rb 3 L _ hL R3.out h3 hE)
 unfold gaveUp at X
 go_wp2_with (go_at_call 49; refine X.out.mono ?_; rintro e wx ⟨rfl, LX⟩)
 exact ⟨rfl, rfl, LX⟩
set_option maxRecDepth 100000 in
set_option maxHeartbeats 4000000 in
theorem step_no4 (u : TypeId) (pv : Value) (w : World) (rb : Nat) (L : List UInt8) (W : World) (hL : L.length ≤ 1048576) (hR : Reader w rb 0 L W) (hE : Err u pv w) (h0 : numAtB 0 L = true) (h1 : numAtB 1 L = true) (h2 : numAtB 2 L = true) (h3 : numAtB 3 L = true) (h4 : numAtB 4 L = false) :
 Calls Tryz.prog 20 #[.pointer (some ⟨rb, 0, none⟩)] W fun e W' => e = gaveUp u pv ∧ Below w.heap.size w W' := by
 unfold gaveUp
 have lr := hR.2.1.lt
 have lw := hR.2.2.size
 have ne : some W.heap.size ≠ some rb := fun e => by have := Option.some.inj e; omega
 have R0 := hid (hR.mk' zeroS)
 have Z0 := hid (Blk.new W zeroS)
 clear hR
 go_enter Tryz.func20, Tryz.ntmps20
 go_wp2_with fail
 refine (number_yes w rb 0 L _ hL R0.out h0).mono ?_
 rintro e w1 ⟨rfl, R1', G1⟩
 have R1 := hid R1'
 have Z1 := hid (Z0.out.grown G1 ne)
 clear R1' G1 R0 Z0
 go_wp2_with fail
 refine (number_yes w rb 1 L _ hL R1.out h1).mono ?_
 rintro e w2 ⟨rfl, R2', G2⟩
 have R2 := hid R2'
 have Z2 := hid (Z1.out.grown G2 ne)
 clear R2' G2 R1 Z1
 go_wp2_with fail
 refine (number_yes w rb 2 L _ hL R2.out h2).mono ?_
 rintro e w3 ⟨rfl, R3', G3⟩
 have R3 := hid R3'
 have Z3 := hid (Z2.out.grown G3 ne)
 clear R3' G3 R2 Z2
 go_wp2_with fail
 refine (number_yes w rb 3 L _ hL R3.out h3).mono ?_
 rintro e w4 ⟨rfl, R4', G4⟩
 have R4 := hid R4'
 have Z4 := hid (Z3.out.grown G4 ne)
 clear R4' G4 R3 Z3
 have X := hid (number_no u pv w rb 4 L _ hL R4.out h4 hE)
 unfold gaveUp at X
 go_wp2_with (go_at_call 49; refine X.out.mono ?_; rintro e wx ⟨rfl, LX⟩)
 exact ⟨rfl, rfl, LX⟩
set_option maxRecDepth 100000 in
set_option maxHeartbeats 4000000 in
theorem step_no5 (u : TypeId) (pv : Value) (w : World) (rb : Nat) (L : List UInt8) (W : World) (hL : L.length ≤ 1048576) (hR : Reader w rb 0 L W) (hE : Err u pv w) (h0 : numAtB 0 L = true) (h1 : numAtB 1 L = true) (h2 : numAtB 2 L = true) (h3 : numAtB 3 L = true) (h4 : numAtB 4 L = true) (h5 : labAtB 5 L = false) :
 Calls Tryz.prog 20 #[.pointer (some ⟨rb, 0, none⟩)] W fun e W' => e = gaveUp u pv ∧ Below w.heap.size w W' := by
 unfold gaveUp
 have lr := hR.2.1.lt
 have lw := hR.2.2.size
 have ne : some W.heap.size ≠ some rb := fun e => by have := Option.some.inj e; omega
 have R0 := hid (hR.mk' zeroS)
 have Z0 := hid (Blk.new W zeroS)
 clear hR
 go_enter Tryz.func20, Tryz.ntmps20
 go_wp2_with fail
 refine (number_yes w rb 0 L _ hL R0.out h0).mono ?_
 rintro e w1 ⟨rfl, R1', G1⟩
 have R1 := hid R1'
 have Z1 := hid (Z0.out.grown G1 ne)
 clear R1' G1 R0 Z0
 go_wp2_with fail
 refine (number_yes w rb 1 L _ hL R1.out h1).mono ?_
 rintro e w2 ⟨rfl, R2', G2⟩
 have R2 := hid R2'
 have Z2 := hid (Z1.out.grown G2 ne)
 clear R2' G2 R1 Z1
 go_wp2_with fail
 refine (number_yes w rb 2 L _ hL R2.out h2).mono ?_
 rintro e w3 ⟨rfl, R3', G3⟩
 have R3 := hid R3'
 have Z3 := hid (Z2.out.grown G3 ne)
 clear R3' G3 R2 Z2
 go_wp2_with fail
 refine (number_yes w rb 3 L _ hL R3.out h3).mono ?_
 rintro e w4 ⟨rfl, R4', G4⟩
 have R4 := hid R4'
 have Z4 := hid (Z3.out.grown G4 ne)
 clear R4' G4 R3 Z3
 go_wp2_with fail
 refine (number_yes w rb 4 L _ hL R4.out h4).mono ?_
 rintro e w5 ⟨rfl, R5', G5⟩
 have R5 := hid R5'
 have Z5 := hid (Z4.out.grown G5 ne)
 clear R5' G5 R4 Z4
 have X := hid (label_no u pv w rb 5 L _ hL R5.out h5 hE)
 unfold gaveUp at X
 go_wp2_with (go_at_call 50; refine X.out.mono ?_; rintro e wx ⟨rfl, LX⟩)
 exact ⟨rfl, rfl, LX⟩
set_option maxRecDepth 100000 in
set_option maxHeartbeats 4000000 in
theorem step_no6 (u : TypeId) (pv : Value) (w : World) (rb : Nat) (L : List UInt8) (W : World) (hL : L.length ≤ 1048576) (hR : Reader w rb 0 L W) (hE : Err u pv w) (h0 : numAtB 0 L = true) (h1 : numAtB 1 L = true) (h2 : numAtB 2 L = true) (h3 : numAtB 3 L = true) (h4 : numAtB 4 L = true) (h5 : labAtB 5 L = true) (h6 : labAtB 6 L = false) :
 Calls Tryz.prog 20 #[.pointer (some ⟨rb, 0, none⟩)] W fun e W' => e = gaveUp u pv ∧ Below w.heap.size w W' := by
 unfold gaveUp
 have lr := hR.2.1.lt
 have lw := hR.2.2.size
 have ne : some W.heap.size ≠ some rb := fun e => by have := Option.some.inj e; omega
 have R0 := hid (hR.mk' zeroS)
 have Z0 := hid (Blk.new W zeroS)
 clear hR
 go_enter Tryz.func20, Tryz.ntmps20
 go_wp2_with fail
 refine (number_yes w rb 0 L _ hL R0.out h0).mono ?_
 rintro e w1 ⟨rfl, R1', G1⟩
 have R1 := hid R1'
 have Z1 := hid (Z0.out.grown G1 ne)
 clear R1' G1 R0 Z0
 go_wp2_with fail
 refine (number_yes w rb 1 L _ hL R1.out h1).mono ?_
 rintro e w2 ⟨rfl, R2', G2⟩
 have R2 := hid R2'
 have Z2 := hid (Z1.out.grown G2 ne)
 clear R2' G2 R1 Z1
 go_wp2_with fail
 refine (number_yes w rb 2 L _ hL R2.out h2).mono ?_
 rintro e w3 ⟨rfl, R3', G3⟩
 have R3 := hid R3'
 have Z3 := hid (Z2.out.grown G3 ne)
 clear R3' G3 R2 Z2
 go_wp2_with fail
 refine (number_yes w rb 3 L _ hL R3.out h3).mono ?_
 rintro e w4 ⟨rfl, R4', G4⟩
 have R4 := hid R4'
 have Z4 := hid (Z3.out.grown G4 ne)
 clear R4' G4 R3 Z3
 go_wp2_with fail
 refine (number_yes w rb 4 L _ hL R4.out h4).mono ?_
 rintro e w5 ⟨rfl, R5', G5⟩
 have R5 := hid R5'
 have Z5 := hid (Z4.out.grown G5 ne)
 clear R5' G5 R4 Z4
 go_wp2_with fail
 have lz5 : W.heap.size < w5.heap.size := Z5.out.lt
 have lr5 := R5.out.2.1.lt
 refine (label_yes w rb 5 L _ hL R5.out h5).mono ?_
 rintro e w6 ⟨a1, k1, rfl, O6', R6', G6⟩
 have R6 := hid R6'
 have Z6 := hid (Z5.out.grown G6 ne)
 have O6 := hid O6'
 have lr6 := R6.out.2.1.lt
 have l56 := G6.size
 clear R6' G6 R5 Z5 O6'
 have X := hid (label_no u pv w rb 6 L _ hL R6.out h6 hE)
 unfold gaveUp at X
 go_wp2_with (go_at_call 50; refine X.out.mono ?_; rintro e wx ⟨rfl, LX⟩)
 exact ⟨rfl, rfl, LX⟩
set_option maxRecDepth 100000 in
set_option maxHeartbeats 4000000 in
theorem step_no7 (u : TypeId) (pv : Value) (w : World) (rb : Nat) (L : List UInt8) (W : World) (hL : L.length ≤ 1048576) (hR : Reader w rb 0 L W) (hE : Err u pv w) (h0 : numAtB 0 L = true) (h1 : numAtB 1 L = true) (h2 : numAtB 2 L = true) (h3 : numAtB 3 L = true) (h4 : numAtB 4 L = true) (h5 : labAtB 5 L = true) (h6 : labAtB 6 L = true) (hr : rightS L = false) :
 Calls Tryz.prog 20 #[.pointer (some ⟨rb, 0, none⟩)] W fun e W' => e = gaveUp u pv ∧ Below w.heap.size w W' := by
 unfold gaveUp
 have lr := hR.2.1.lt
 have lw := hR.2.2.size
 have ne : some W.heap.size ≠ some rb := fun e => by have := Option.some.inj e; omega
 have R0 := hid (hR.mk' zeroS)
 have Z0 := hid (Blk.new W zeroS)
 clear hR
 go_enter Tryz.func20, Tryz.ntmps20
 go_wp2_with fail
 refine (number_yes w rb 0 L _ hL R0.out h0).mono ?_
 rintro e w1 ⟨rfl, R1', G1⟩
 have R1 := hid R1'
 have Z1 := hid (Z0.out.grown G1 ne)
 clear R1' G1 R0 Z0
 go_wp2_with fail
 refine (number_yes w rb 1 L _ hL R1.out h1).mono ?_
 rintro e w2 ⟨rfl, R2', G2⟩
 have R2 := hid R2'
 have Z2 := hid (Z1.out.grown G2 ne)
 clear R2' G2 R1 Z1
 go_wp2_with fail
 refine (number_yes w rb 2 L _ hL R2.out h2).mono ?_
 rintro e w3 ⟨rfl, R3', G3⟩
 have R3 := hid R3'
 have Z3 := hid (Z2.out.grown G3 ne)
 clear R3' G3 R2 Z2
 go_wp2_with fail
 refine (number_yes w rb 3 L _ hL R3.out h3).mono ?_
 rintro e w4 ⟨rfl, R4', G4⟩
 have R4 := hid R4'
 have Z4 := hid (Z3.out.grown G4 ne)
 clear R4' G4 R3 Z3
 go_wp2_with fail
 refine (number_yes w rb 4 L _ hL R4.out h4).mono ?_
 rintro e w5 ⟨rfl, R5', G5⟩
 have R5 := hid R5'
 have Z5 := hid (Z4.out.grown G5 ne)
 clear R5' G5 R4 Z4
 go_wp2_with fail
 have lz5 : W.heap.size < w5.heap.size := Z5.out.lt
 have lr5 := R5.out.2.1.lt
 refine (label_yes w rb 5 L _ hL R5.out h5).mono ?_
 rintro e w6 ⟨a1, k1, rfl, O6', R6', G6⟩
 have R6 := hid R6'
 have Z6 := hid (Z5.out.grown G6 ne)
 have O6 := hid O6'
 have lr6 := R6.out.2.1.lt
 have l56 := G6.size
 clear R6' G6 R5 Z5 O6'
 go_wp2_with fail
 have OL := hid (Own.lt O6.out)
 refine (label_yes w rb 6 L _ hL R6.out h6).mono ?_
 rintro e w7 ⟨a2, k2, rfl, O7', R7', G7⟩
 have l67 := G7.size
 have OM := hid (Own.lt O7')
 have N7 := hid (OwnList.past O6.out G7 lr5)
 have Z7 := hid (Z6.out.grown G7 ne)
 have O7 := hid O7'
 have R7 := hid (R7'.mk' (.cells #[.int .i64 (nm 0 L), .int .i64 (nm 1 L), .int .i64 (nm 2 L), .int .i64 (nm 3 L), .int .i64 (nm 4 L), .string ⟨#[]⟩, .int .i64 (rl 5 L).1, .slice a1 (rl 5 L).2.1.length k1, .int .i64 (rl 6 L).1, .slice a2 (rl 6 L).2.1.length k2] 28))
 have N8 := hid (OwnCats.alloc N7.out (.cells #[.int .i64 (nm 0 L), .int .i64 (nm 1 L), .int .i64 (nm 2 L), .int .i64 (nm 3 L), .int .i64 (nm 4 L), .string ⟨#[]⟩, .int .i64 (rl 5 L).1, .slice a1 (rl 5 L).2.1.length k1, .int .i64 (rl 6 L).1, .slice a2 (rl 6 L).2.1.length k2] 28))
 have O8 := hid (OwnCats.alloc O7.out (.cells #[.int .i64 (nm 0 L), .int .i64 (nm 1 L), .int .i64 (nm 2 L), .int .i64 (nm 3 L), .int .i64 (nm 4 L), .string ⟨#[]⟩, .int .i64 (rl 5 L).1, .slice a1 (rl 5 L).2.1.length k1, .int .i64 (rl 6 L).1, .slice a2 (rl 6 L).2.1.length k2] 28))
 have Z8 := hid (Z7.out.alloc (.cells #[.int .i64 (nm 0 L), .int .i64 (nm 1 L), .int .i64 (nm 2 L), .int .i64 (nm 3 L), .int .i64 (nm 4 L), .string ⟨#[]⟩, .int .i64 (rl 5 L).1, .slice a1 (rl 5 L).2.1.length k1, .int .i64 (rl 6 L).1, .slice a2 (rl 6 L).2.1.length k2] 28))
 have Y8 := hid (Blk.new w7 (.cells #[.int .i64 (nm 0 L), .int .i64 (nm 1 L), .int .i64 (nm 2 L), .int .i64 (nm 3 L), .int .i64 (nm 4 L), .string ⟨#[]⟩, .int .i64 (rl 5 L).1, .slice a1 (rl 5 L).2.1.length k1, .int .i64 (rl 6 L).1, .slice a2 (rl 6 L).2.1.length k2] 28))
 have c8 := R7.out.2.1.one
 clear R7' G7 R6 Z6 O7' O6 N7 O7 Z7
 go_wp2_with fail
 refine (clone_any _ _ (by rw [size_of]; have := rst_len 7 L; omega)).mono ?_
 rintro e w8 ⟨rfl, hb8⟩
 have N9 := hid (OwnList.apart (OwnList.below N8.out hb8) (P := w7.heap.size) (fun e => by have := OL.out _ e; omega) 5 (.string ⟨(rst 7 L).toArray⟩))
 have O9 := hid (OwnList.apart (OwnList.below O8.out hb8) (P := w7.heap.size) (fun e => by have := OM.out _ e; omega) 5 (.string ⟨(rst 7 L).toArray⟩))
 have B9 := hid ((then_ R7.out.2.2 hb8).setCell (p := ⟨w7.heap.size, 5, none⟩) (show w.heap.size ≤ w7.heap.size by omega) (.string ⟨(rst 7 L).toArray⟩))
 have Z9 := hid ((Z8.out.below hb8).other (Q := w7.heap.size) (i := 5) (by omega) (.string ⟨(rst 7 L).toArray⟩))
 have Y9 := hid (Y8.out.below hb8)
 have YA : Hid (Blk (w8.setCell ⟨w7.heap.size, 5, none⟩ (.string ⟨(rst 7 L).toArray⟩)) w7.heap.size (.cells #[.int .i64 (nm 0 L), .int .i64 (nm 1 L), .int .i64 (nm 2 L), .int .i64 (nm 3 L), .int .i64 (nm 4 L), .string ⟨(rst 7 L).toArray⟩, .int .i64 (rl 5 L).1, .slice a1 (rl 5 L).2.1.length k1, .int .i64 (rl 6 L).1, .slice a2 (rl 6 L).2.1.length k2] 28)) := hid (Y9.out.setAt _)
 obtain ⟨y0, y1, y2, y3, y4, y5, y6, y7, y8, y9⟩ := Y9.out.ten
 have f5 := Y9.out.warm 5
 have P19 := hid (implStep_any (nm 0 L) (nm 1 L) (nm 2 L) (nm 3 L) (nm 4 L) ⟨(rst 7 L).toArray⟩ (rl 5 L).1 a1 (rl 5 L).2.1.length k1 (fstAt (rl 5 L).2.1) (sndAt (rl 5 L).2.1) (rl 6 L).1 a2 (rl 6 L).2.1.length k2 (fstAt (rl 6 L).2.1) (sndAt (rl 6 L).2.1) _ (by rw [size_of]; unfold maxLen; have := rst_len 7 L; omega) (by unfold maxLen; have := readL_len (pce 5 L); unfold rl; omega) (by unfold maxLen; have := readL_len (pce 6 L); unfold rl; omega) (OwnCats.cats N9.out) (OwnCats.cats O9.out))
 change Hid (Calls _ _ _ _ fun e w' => e = .returned (.bool (rightS L)) ∧ _) at P19
 rw [hr] at P19
 clear c8 N8 O8 Z8 Y8 hb8 R7
 go_wp2_with fail
 generalize w8.setCell ⟨w7.heap.size, 5, none⟩ (.string ⟨(rst 7 L).toArray⟩) = V at *
 clear y0 y1 y2 y3 y4 y5 y6 y7 y8 y9 f5 Y9
 refine P19.out.mono ?_
 rintro e w9 ⟨rfl, hb9⟩
 clear P19
 have BA := hid (then_ B9.out hb9)
 have E9 := hid (hE.below BA.out)
 go_wp2_with (go_at_call 52; refine (must_no u pv _ E9.out).mono ?_; rintro e w10 ⟨rfl, rfl⟩; unfold gaveUp)
 exact ⟨rfl, rfl, BA.out⟩
theorem step_no (u : TypeId) (pv : Value) (w : World) (rb : Nat) (L : List UInt8) (W : World) (hL : L.length ≤ 1048576) (hR : Reader w rb 0 L W) (hE : Err u pv w) (hs : strictS L = false) :
 Calls Tryz.prog 20 #[.pointer (some ⟨rb, 0, none⟩)] W fun e W' => e = gaveUp u pv ∧ Below w.heap.size w W' := by
 cases h0 : numAtB 0 L with
 | false => exact step_no0 u pv w rb L W hL hR hE h0
 | true =>
 cases h1 : numAtB 1 L with
 | false => exact step_no1 u pv w rb L W hL hR hE h0 h1
 | true =>
 cases h2 : numAtB 2 L with
 | false => exact step_no2 u pv w rb L W hL hR hE h0 h1 h2
 | true =>
 cases h3 : numAtB 3 L with
 | false => exact step_no3 u pv w rb L W hL hR hE h0 h1 h2 h3
 | true =>
 cases h4 : numAtB 4 L with
 | false => exact step_no4 u pv w rb L W hL hR hE h0 h1 h2 h3 h4
 | true =>
 cases h5 : labAtB 5 L with
 | false => exact step_no5 u pv w rb L W hL hR hE h0 h1 h2 h3 h4 h5
 | true =>
 cases h6 : labAtB 6 L with
 | false => exact step_no6 u pv w rb L W hL hR hE h0 h1 h2 h3 h4 h5 h6
 | true =>
 cases hr : rightS L with
 | false => exact step_no7 u pv w rb L W hL hR hE h0 h1 h2 h3 h4 h5 h6 hr
 | true =>
  unfold strictS at hs
  rw [h0, h1, h2, h3, h4, h5, h6, hr] at hs
  cases hs
end Go.Proofs.YthbmfbnnemgbpaaGreatDoor
namespace Go.Proofs.YthbmfbnnemgbpaaGreatDoor
open Go Go.RowKit Go.Deep Go.Maps
theorem catch_panicking (p : Addr) (b : Bool) (u : TypeId) (pv : Value) (older : List PanicEntry) (w : World) (hc : w.cell? p = some (.bool b)) (hz : w.frozen? p = false) :
 CallsD Tryz.prog 48 #[.pointer (some p)] (.panicking ({ v := .iface u pv, recovered := false } :: older)) w fun e u' w' =>
  e = .returned (.tuple #[]) ∧ u' = .panicking ({ v := .iface u pv, recovered := true } :: older) ∧ w' = w.setCell p (.bool false) := by
 refine callsD_of_wpS Tryz.func48 rfl fun c₀ cs hu => ?_
 apply wpS_region
 simp [wpOpsS, go_sem, recoverD, hu, Tryz.ntmps48, hc, hz, bodyPostS, results, Tryz.results48]
theorem catch_idle (p : Addr) (b : Bool) (w : World) (hc : w.cell? p = some (.bool b)) (hz : w.frozen? p = false) :
 CallsD Tryz.prog 48 #[.pointer (some p)] .returning w fun e u' w' => e = .returned (.tuple #[]) ∧ u' = .returning ∧ w' = w.setCell p (.bool true) := by
 refine callsD_of_wpS Tryz.func48 rfl fun c₀ cs hu => ?_
 apply wpS_region
 simp [wpOpsS, go_sem, recoverD, hu, Tryz.ntmps48, hc, hz, bodyPostS, results, Tryz.results48]
 cases c₀
 simp_all
set_option maxRecDepth 100000 in
theorem results27 (tmps : Array Value) (W : World) (P Q : Nat) (b : Bool) (x0 x1 x2 x3 x4 x5 x6 x7 x8 x9 : Value) (h : Blk W P (.cells #[x0, x1, x2, x3, x4, x5, x6, x7, x8, x9] 28)) (hq : Blk W Q (.cells #[.bool b] 4)) (h2 : tmps[4]? = some (.pointer (some ⟨P, 0, none⟩))) (h3 : tmps[5]? = some (.pointer (some ⟨Q, 0, none⟩))) :
 (results Tryz.f19 tmps).run Tryz.prog W = .ok (.tuple #[.agg #[x0, x1, x2, x3, x4, x5, x6, x7, x8, x9], .bool b]) W := by
 obtain ⟨z0, z1, z2, z3, z4, z5, z6, z7, z8, z9⟩ := h.ten
 have y := hq.one
 simp [results, Tryz.results19, go_sem, h2, h3, z0, z1, z2, z3, z4, z5, z6, z7, z8, z9, y]
theorem Blk.other10 {W : World} {P Q : Nat} {o : Obj} (h : Blk W P o) (hne : Q ≠ P) (x0 x1 x2 x3 x4 x5 x6 x7 x8 x9 : Value) :
 Blk ((((((((((W.setCell ⟨Q, 0, none⟩ x0).setCell ⟨Q, 1, none⟩ x1).setCell ⟨Q, 2, none⟩ x2).setCell ⟨Q, 3, none⟩ x3).setCell ⟨Q, 4, none⟩ x4).setCell ⟨Q, 5, none⟩ x5).setCell ⟨Q, 6, none⟩ x6).setCell ⟨Q, 7, none⟩ x7).setCell ⟨Q, 8, none⟩ x8).setCell ⟨Q, 9, none⟩ x9) P o :=
 (((((((((h.other hne _).other hne _).other hne _).other hne _).other hne _).other hne _).other hne _).other hne _).other hne _).other hne _
theorem Two.set {w W : World} {v1 v2 : Value} {l1 l2 : List (Int × Int)} (h : Two w W v1 v2 l1 l2) {P : Nat} (hP : P < w.heap.size) (i : Nat) (x : Value) : Two w (W.setCell ⟨P, i, none⟩ x) v1 v2 l1 l2 := by
 obtain ⟨M1, M2, h1, h2, h3, h4, h5⟩ := h
 exact ⟨M1, M2, h1, h2, h3, OwnList.set h4 (by omega) _ _, OwnList.set h5 (by omega) _ _⟩
theorem Two.low {w X W : World} {v1 v2 : Value} {l1 l2 : List (Int × Int)} (h : Two X W v1 v2 l1 l2) (hX : w.heap.size ≤ X.heap.size) : Two w W v1 v2 l1 l2 := by
 obtain ⟨M1, M2, h1, h2, h3, h4, h5⟩ := h
 exact ⟨M1, M2, by omega, h2, h3, h4, h5⟩
theorem Two.below {w W W' : World} {v1 v2 : Value} {l1 l2 : List (Int × Int)} (h : Two w W v1 v2 l1 l2) (hb : Below W.heap.size W W') : Two w W' v1 v2 l1 l2 := by
 obtain ⟨M1, M2, h1, h2, h3, h4, h5⟩ := h
 exact ⟨M1, M2, h1, h2, h3, OwnList.below h4 hb, OwnList.below h5 hb⟩
set_option maxRecDepth 100000 in
set_option maxHeartbeats 4000000 in
theorem readBy_yes (L : List UInt8) (w : World) (hL : L.length ≤ 1048576) (hs : strictS L = true) :
 Calls Tryz.prog 19 #[.string ⟨L.toArray⟩, .func (.func 20) #[] #[]] w fun e w' => ∃ a1 k1 a2 k2, e = .returned (.tuple #[.agg #[.int .i64 (nm 0 L), .int .i64 (nm 1 L), .int .i64 (nm 2 L), .int .i64 (nm 3 L), .int .i64 (nm 4 L), .string ⟨(rst 7 L).toArray⟩, .int .i64 (rl 5 L).1, .slice a1 (rl 5 L).2.1.length k1, .int .i64 (rl 6 L).1, .slice a2 (rl 6 L).2.1.length k2], .bool true]) ∧ Two w w' (.slice a1 (rl 5 L).2.1.length k1) (.slice a2 (rl 6 L).2.1.length k2) (rl 5 L).2.1 (rl 6 L).2.1 ∧ Below w.heap.size w w' := by
 have hmf : ∀ (fn : Fn) (first cap : Array Value) (w : World), (Instr.makeFunc fn first cap).run Tryz.prog w = .ok (.func fn first cap) w := fun _ _ _ _ => rfl
 have Z := hid ((Blk.new w zeroS).alloc (.cells #[.bool false] 4))
 have Y := hid (Blk.new (w.alloc zeroS) (.cells #[.bool false] 4))
 have B := hid (((Below.refl _ w).alloc (Nat.le_refl _) zeroS).alloc (by simp) (.cells #[.bool false] 4))
 have RD : Hid (Reader ((w.alloc zeroS).alloc (.cells #[.bool false] 4)) (w.heap.size + 1 + 1) 0 L (((w.alloc zeroS).alloc (.cells #[.bool false] 4)).alloc (.cells #[.string ⟨L.toArray⟩] 98))) := by
  refine hid ⟨by simp, ?_, (Below.refl _ _).alloc (Nat.le_refl _) _⟩
  have := Blk.new ((w.alloc zeroS).alloc (.cells #[.bool false] 4)) (.cells #[.string ⟨L.toArray⟩] 98)
  simpa [rst] using this
 have ST := hid (step_yes _ _ L _ hL RD.out hs)
 go_enter_defers Tryz.func19, Tryz.ntmps19
 go_wp2_with fail
 refine ST.out.mono ?_
 rintro e w1 ⟨a1, k1, a2, k2, rfl, T1, L1⟩
 have Z1 := hid (Z.out.below L1)
 have Y1 : Hid (Blk w1 (w.heap.size + 1) (.cells #[.bool false] 4)) := by
  have := Y.out.below L1
  refine hid ?_
  simpa using this
 have B1 := hid (B.out.trans (L1.mono B.out.size))
 have T1' := hid T1
 clear ST RD T1 L1 Z Y B
 obtain ⟨z0, z1, z2, z3, z4, z5, z6, z7, z8, z9⟩ := Z1.out.ten
 have g0 := Z1.out.warm
 have y0 := Y1.out.one
 have g1 := Y1.out.warm
 have lt0 : w.heap.size < ((w.alloc zeroS).alloc (.cells #[.bool false] 4)).heap.size := by simp; omega
 have lt1 : w.heap.size + 1 < ((w.alloc zeroS).alloc (.cells #[.bool false] 4)).heap.size := by simp
 have ne0 : w.heap.size + 1 ≠ w.heap.size := by omega
 have ne1 : w.heap.size ≠ w.heap.size + 1 := by omega
 go_wp2
 refine leaves_cons (f := 48) (args := #[.pointer (some ⟨w.heap.size + 1, 0, none⟩)]) (by simp) (by simp [go_sem]) ?_
 have ZV := hid (((Z1.out.all10 (.int .i64 (nm 0 L)) (.int .i64 (nm 1 L)) (.int .i64 (nm 2 L)) (.int .i64 (nm 3 L)) (.int .i64 (nm 4 L)) (.string ⟨(rst 7 L).toArray⟩) (.int .i64 (rl 5 L).1) (.slice a1 (rl 5 L).2.1.length k1) (.int .i64 (rl 6 L).1) (.slice a2 (rl 6 L).2.1.length k2)).other (i := 0) ne0 (.bool true)).other (i := 0) ne0 (.bool true))
 have YV : Hid (Blk _ (w.heap.size + 1) (.cells #[.bool true] 4)) := hid ((Y1.out.other10 (Q := w.heap.size) ne1 (.int .i64 (nm 0 L)) (.int .i64 (nm 1 L)) (.int .i64 (nm 2 L)) (.int .i64 (nm 3 L)) (.int .i64 (nm 4 L)) (.string ⟨(rst 7 L).toArray⟩) (.int .i64 (rl 5 L).1) (.slice a1 (rl 5 L).2.1.length k1) (.int .i64 (rl 6 L).1) (.slice a2 (rl 6 L).2.1.length k2)).setAt (i := 0) (.bool true))
 have yc := YV.out.one
 have yf := YV.out.warm 0
 refine (catch_idle ⟨w.heap.size + 1, 0, none⟩ true _ yc yf).mono ?_
 rintro e u' w'' ⟨rfl, rfl, rfl⟩
 exact ⟨_, results27 _ _ w.heap.size (w.heap.size + 1) true _ _ _ _ _ _ _ _ _ _ ZV.out (YV.out.setAt (i := 0) (.bool true)) rfl rfl, a1, k1, a2, k2, rfl, ((((((((((((T1'.out.set lt0 _ _).set lt0 _ _).set lt0 _ _).set lt0 _ _).set lt0 _ _).set lt0 _ _).set lt0 _ _).set lt0 _ _).set lt0 _ _).set lt0 _ _).set lt1 _ _).set lt1 _ _).low (by simp; omega), (((((((((((B1.out.setCell (Nat.le_refl _) _).setCell (Nat.le_refl _) _).setCell (Nat.le_refl _) _).setCell (Nat.le_refl _) _).setCell (Nat.le_refl _) _).setCell (Nat.le_refl _) _).setCell (Nat.le_refl _) _).setCell (Nat.le_refl _) _).setCell (Nat.le_refl _) _).setCell (Nat.le_refl _) _).setCell (Nat.le_succ _) _).setCell (Nat.le_succ _) _⟩
set_option maxRecDepth 100000 in
set_option maxHeartbeats 4000000 in
theorem readBy_no (u : TypeId) (pv : Value) (L : List UInt8) (w : World) (hL : L.length ≤ 1048576) (hs : strictS L = false) (hE : Err u pv w) :
 Calls Tryz.prog 19 #[.string ⟨L.toArray⟩, .func (.func 20) #[] #[]] w fun e w' => e = .returned (.tuple #[.agg #[.int .i64 0, .int .i64 0, .int .i64 0, .int .i64 0, .int .i64 0, .string ⟨#[]⟩, .int .i64 0, .slice none 0 0, .int .i64 0, .slice none 0 0], .bool false]) ∧ Below w.heap.size w w' := by
 have hmf : ∀ (fn : Fn) (first cap : Array Value) (w : World), (Instr.makeFunc fn first cap).run Tryz.prog w = .ok (.func fn first cap) w := fun _ _ _ _ => rfl
 have Z := hid ((Blk.new w zeroS).alloc (.cells #[.bool false] 4))
 have Y := hid (Blk.new (w.alloc zeroS) (.cells #[.bool false] 4))
 have B := hid (((Below.refl _ w).alloc (Nat.le_refl _) zeroS).alloc (by simp) (.cells #[.bool false] 4))
 have RD : Hid (Reader ((w.alloc zeroS).alloc (.cells #[.bool false] 4)) (w.heap.size + 1 + 1) 0 L (((w.alloc zeroS).alloc (.cells #[.bool false] 4)).alloc (.cells #[.string ⟨L.toArray⟩] 98))) := by
  refine hid ⟨by simp, ?_, (Below.refl _ _).alloc (Nat.le_refl _) _⟩
  have := Blk.new ((w.alloc zeroS).alloc (.cells #[.bool false] 4)) (.cells #[.string ⟨L.toArray⟩] 98)
  simpa [rst] using this
 have ST := hid (step_no u pv _ _ L _ hL RD.out (hE.below B.out) hs)
 unfold gaveUp at ST
 have ne0 : w.heap.size + 1 ≠ w.heap.size := by omega
 go_enter_defers Tryz.func19, Tryz.ntmps19
 go_wp2_with fail
 refine ST.out.mono ?_
 rintro e w1 ⟨rfl, L1⟩
 have Z1 := hid (Z.out.below L1)
 have Y1 : Hid (Blk w1 (w.heap.size + 1) (.cells #[.bool false] 4)) := by
  have := Y.out.below L1
  refine hid ?_
  simpa using this
 have B1 := hid (B.out.trans (L1.mono B.out.size))
 clear ST RD L1 Z Y B
 have yc := Y1.out.one
 have yf := Y1.out.warm 0
 go_wp2
 refine leaves_cons (f := 48) (args := #[.pointer (some ⟨w.heap.size + 1, 0, none⟩)]) (by simp) (by simp [go_sem]) ?_
 refine (catch_panicking ⟨w.heap.size + 1, 0, none⟩ false u pv [] _ yc yf).mono ?_
 rintro e u' w'' ⟨rfl, rfl, rfl⟩
 exact ⟨_, results27 _ _ w.heap.size (w.heap.size + 1) false _ _ _ _ _ _ _ _ _ _ (Z1.out.other (i := 0) ne0 (.bool false)) (Y1.out.setAt (i := 0) (.bool false)) rfl rfl, rfl, B1.out.setCell (Nat.le_succ _) _⟩
set_option maxRecDepth 100000 in
theorem results11 (tmps : Array Value) (W : World) (P : Nat) (b : Bool) (x0 x1 x2 x3 x4 x5 x6 x7 x8 x9 : Value) (h : Blk W P (.cells #[x0, x1, x2, x3, x4, x5, x6, x7, x8, x9] 28)) (h2 : tmps[2]? = some (.pointer (some ⟨P, 0, none⟩))) (h3 : tmps[3]? = some (.bool b)) :
 (results Tryz.f7 tmps).run Tryz.prog W = .ok (.tuple #[.agg #[x0, x1, x2, x3, x4, x5, x6, x7, x8, x9], .bool b]) W := by
 obtain ⟨z0, z1, z2, z3, z4, z5, z6, z7, z8, z9⟩ := h.ten
 simp [results, Tryz.results7, go_sem, h2, h3, z0, z1, z2, z3, z4, z5, z6, z7, z8, z9]
def IPost (r : StepR) (w : World) (e : Ending) (w' : World) : Prop :=
 ∃ a1 k1 a2 k2, e = .returned (r.val a1 k1 a2 k2) ∧ Two w w' (.slice a1 r.l1.length k1) (.slice a2 r.l2.length k2) r.l1 r.l2 ∧ Below w.heap.size w w'
theorem IPost.no {r : StepR} {w w' : World} (hr : r = noS) (hb : Below w.heap.size w w') : IPost r w (.returned (.tuple #[.agg #[.int .i64 0, .int .i64 0, .int .i64 0, .int .i64 0, .int .i64 0, .string ⟨#[]⟩, .int .i64 0, .slice none 0 0, .int .i64 0, .slice none 0 0], .bool false])) w' := by
 subst hr
 exact ⟨none, 0, none, 0, rfl, ⟨w.heap.size, w.heap.size, Nat.le_refl _, Nat.le_refl _, (fun j hj => by cases hj), OwnList.nil _ _, OwnList.nil _ _⟩, hb⟩
theorem IPost.yes {L : List UInt8} {r : StepR} {w w' : World} {a1 a2 : Option Addr} {k1 k2 : Nat} (hr : r = yesS L) (h : Two w w' (.slice a1 (rl 5 L).2.1.length k1) (.slice a2 (rl 6 L).2.1.length k2) (rl 5 L).2.1 (rl 6 L).2.1) (hb : Below w.heap.size w w') : IPost r w (.returned (.tuple #[.agg #[.int .i64 (nm 0 L), .int .i64 (nm 1 L), .int .i64 (nm 2 L), .int .i64 (nm 3 L), .int .i64 (nm 4 L), .string ⟨(rst 7 L).toArray⟩, .int .i64 (rl 5 L).1, .slice a1 (rl 5 L).2.1.length k1, .int .i64 (rl 6 L).1, .slice a2 (rl 6 L).2.1.length k2], .bool true])) w' := by
 subst hr
 refine ⟨a1, k1, a2, k2, ?_, ?_, hb⟩
 ·simp only [yesS, StepR.val]
 ·simp only [yesS]; exact h
set_option maxRecDepth 100000 in
set_option maxHeartbeats 4000000 in
theorem implReadStep_any (u : TypeId) (pv : Value) (L : List UInt8) (w : World) (hL : L.length ≤ 1048576) (hE : Err u pv w) :
 Calls Tryz.prog 7 #[.string ⟨L.toArray⟩] w (IPost (readS L) w) := by
 have Z := hid (Blk.new w zeroS)
 have B := hid ((Below.refl _ w).alloc (Nat.le_refl _) zeroS)
 have lt0 : w.heap.size < (w.alloc zeroS).heap.size := by simp
 cases hs : strictS L with
 | true =>
  have er : Hid (readS L = yesS L) := by show _ = _; rw [readS, if_pos hs]
  have ST := hid (readBy_yes L (w.alloc zeroS) hL hs)
  clear hs
  go_enter Tryz.func7, Tryz.ntmps7
  go_wp2_with fail
  refine ST.out.mono ?_
  rintro e w1 ⟨a1, k1, a2, k2, rfl, T1, L1⟩
  have Z1 := hid (Z.out.below L1)
  have B1 := hid (then_ B.out L1)
  have T1' := hid T1
  clear ST T1 L1 Z B
  obtain ⟨z0, z1, z2, z3, z4, z5, z6, z7, z8, z9⟩ := Z1.out.ten
  have g0 := Z1.out.warm
  go_wp2
  refine bodyPost_ret (results11 _ _ w.heap.size true (.int .i64 (nm 0 L)) (.int .i64 (nm 1 L)) (.int .i64 (nm 2 L)) (.int .i64 (nm 3 L)) (.int .i64 (nm 4 L)) (.string ⟨(rst 7 L).toArray⟩) (.int .i64 (rl 5 L).1) (.slice a1 (rl 5 L).2.1.length k1) (.int .i64 (rl 6 L).1) (.slice a2 (rl 6 L).2.1.length k2) (Z1.out.all10 _ _ _ _ _ _ _ _ _ _) rfl rfl) rfl (IPost.yes er.out ?_ ?_)
  ·exact (((((((((((T1'.out.set lt0 _ _).set lt0 _ _).set lt0 _ _).set lt0 _ _).set lt0 _ _).set lt0 _ _).set lt0 _ _).set lt0 _ _).set lt0 _ _).set lt0 _ _)).low (by simp)
  ·exact ((((((((((B1.out.setCell (Nat.le_refl _) _).setCell (Nat.le_refl _) _).setCell (Nat.le_refl _) _).setCell (Nat.le_refl _) _).setCell (Nat.le_refl _) _).setCell (Nat.le_refl _) _).setCell (Nat.le_refl _) _).setCell (Nat.le_refl _) _).setCell (Nat.le_refl _) _).setCell (Nat.le_refl _) _)
 | false =>
  have er : Hid (readS L = noS) := by show _ = _; rw [readS, if_neg (by rw [hs]; decide)]
  have ST := hid (readBy_no u pv L (w.alloc zeroS) hL hs (hE.below B.out))
  clear hs
  go_enter Tryz.func7, Tryz.ntmps7
  go_wp2_with fail
  refine ST.out.mono ?_
  rintro e w1 ⟨rfl, L1⟩
  have Z1 := hid (Z.out.below L1)
  have B1 := hid (then_ B.out L1)
  clear ST L1 Z B
  obtain ⟨z0, z1, z2, z3, z4, z5, z6, z7, z8, z9⟩ := Z1.out.ten
  have g0 := Z1.out.warm
  go_wp2
  refine bodyPost_ret (results11 _ _ w.heap.size false (.int .i64 0) (.int .i64 0) (.int .i64 0) (.int .i64 0) (.int .i64 0) (.string ⟨#[]⟩) (.int .i64 0) (.slice none 0 0) (.int .i64 0) (.slice none 0 0) (Z1.out.all10 _ _ _ _ _ _ _ _ _ _) rfl rfl) rfl (IPost.no er.out ?_)
  exact ((((((((((B1.out.setCell (Nat.le_refl _) _).setCell (Nat.le_refl _) _).setCell (Nat.le_refl _) _).setCell (Nat.le_refl _) _).setCell (Nat.le_refl _) _).setCell (Nat.le_refl _) _).setCell (Nat.le_refl _) _).setCell (Nat.le_refl _) _).setCell (Nat.le_refl _) _).setCell (Nat.le_refl _) _)
end Go.Proofs.YthbmfbnnemgbpaaGreatDoor
