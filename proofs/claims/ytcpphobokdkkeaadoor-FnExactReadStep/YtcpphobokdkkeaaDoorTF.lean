/- The reader of the program: a step that is not read. -/
import Derived.Test.YtcpphobokdkkeaaDoorTE
namespace Go.Proofs.YtcpphobokdkkeaaDoor
open Go Go.RowKit Go.Deep Go.Maps

set_option maxRecDepth 100000 in
set_option maxHeartbeats 4000000 in
theorem step_no0 (u : TypeId) (pv : Value) (w : World) (rb : Nat) (L : List UInt8) (W : World) (hL : L.length ≤ 1048576) (hR : Reader w rb 0 L W) (hE : Err u pv w) (h0 : numAtB 0 L = false) :
    Calls Tryd.prog 28 #[.pointer (some ⟨rb, 0, none⟩)] W fun e W' => e = gaveUp u pv ∧ Below w.heap.size w W' := by
  unfold gaveUp
  have lr := hR.2.1.lt
  have lw := hR.2.2.size
  have ne : some W.heap.size ≠ some rb := fun e => by have := Option.some.inj e; omega
  have R0 := hid (hR.mk' zeroS)
  have Z0 := hid (Blk.new W zeroS)
  clear hR
  go_enter Tryd.func28, Tryd.ntmps28
  have X := hid (number_no u pv w rb 0 L _ hL R0.out h0 hE)
  unfold gaveUp at X
  go_wp2_with (go_at_call 50; refine X.out.mono ?_; rintro e wx ⟨rfl, LX⟩)
  exact ⟨rfl, rfl, LX⟩
set_option maxRecDepth 100000 in
set_option maxHeartbeats 4000000 in
theorem step_no1 (u : TypeId) (pv : Value) (w : World) (rb : Nat) (L : List UInt8) (W : World) (hL : L.length ≤ 1048576) (hR : Reader w rb 0 L W) (hE : Err u pv w) (h0 : numAtB 0 L = true) (h1 : numAtB 1 L = false) :
    Calls Tryd.prog 28 #[.pointer (some ⟨rb, 0, none⟩)] W fun e W' => e = gaveUp u pv ∧ Below w.heap.size w W' := by
  unfold gaveUp
  have lr := hR.2.1.lt
  have lw := hR.2.2.size
  have ne : some W.heap.size ≠ some rb := fun e => by have := Option.some.inj e; omega
  have R0 := hid (hR.mk' zeroS)
  have Z0 := hid (Blk.new W zeroS)
  clear hR
  go_enter Tryd.func28, Tryd.ntmps28
  go_wp2_with fail
  refine (number_yes w rb 0 L _ hL R0.out h0).mono ?_
  rintro e w1 ⟨rfl, R1', G1⟩
  have R1 := hid R1'
  have Z1 := hid (Z0.out.grown G1 ne)
  clear R1' G1 R0 Z0
  have X := hid (number_no u pv w rb 1 L _ hL R1.out h1 hE)
  unfold gaveUp at X
  go_wp2_with (go_at_call 50; refine X.out.mono ?_; rintro e wx ⟨rfl, LX⟩)
  exact ⟨rfl, rfl, LX⟩
set_option maxRecDepth 100000 in
set_option maxHeartbeats 4000000 in
theorem step_no2 (u : TypeId) (pv : Value) (w : World) (rb : Nat) (L : List UInt8) (W : World) (hL : L.length ≤ 1048576) (hR : Reader w rb 0 L W) (hE : Err u pv w) (h0 : numAtB 0 L = true) (h1 : numAtB 1 L = true) (h2 : numAtB 2 L = false) :
    Calls Tryd.prog 28 #[.pointer (some ⟨rb, 0, none⟩)] W fun e W' => e = gaveUp u pv ∧ Below w.heap.size w W' := by
  unfold gaveUp
  have lr := hR.2.1.lt
  have lw := hR.2.2.size
  have ne : some W.heap.size ≠ some rb := fun e => by have := Option.some.inj e; omega
  have R0 := hid (hR.mk' zeroS)
  have Z0 := hid (Blk.new W zeroS)
  clear hR
  go_enter Tryd.func28, Tryd.ntmps28
  go_wp2_with fail
  refine (number_yes w rb 0 L _ hL R0.out h0).mono ?_
  rintro e w1 ⟨rfl, R1', G1⟩
  have R1 := hid R1'
  have Z1 := hid (Z0.out.grown G1 ne)
  clear R1' G1 R0 Z0
  go_wp2_with fail
  refine (number_yes w rb 1 L _ hL R1.out h1).mono ?_
  rintro e w2 ⟨rfl, R2', G2⟩
  have R2 := hid R2'
  have Z2 := hid (Z1.out.grown G2 ne)
  clear R2' G2 R1 Z1
  have X := hid (number_no u pv w rb 2 L _ hL R2.out h2 hE)
  unfold gaveUp at X
  go_wp2_with (go_at_call 50; refine X.out.mono ?_; rintro e wx ⟨rfl, LX⟩)
  exact ⟨rfl, rfl, LX⟩
set_option maxRecDepth 100000 in
set_option maxHeartbeats 4000000 in
theorem step_no3 (u : TypeId) (pv : Value) (w : World) (rb : Nat) (L : List UInt8) (W : World) (hL : L.length ≤ 1048576) (hR : Reader w rb 0 L W) (hE : Err u pv w) (h0 : numAtB 0 L = true) (h1 : numAtB 1 L = true) (h2 : numAtB 2 L = true) (h3 : numAtB 3 L = false) :
    Calls Tryd.prog 28 #[.pointer (some ⟨rb, 0, none⟩)] W fun e W' => e = gaveUp u pv ∧ Below w.heap.size w W' := by
  unfold gaveUp
  have lr := hR.2.1.lt
  have lw := hR.2.2.size
  have ne : some W.heap.size ≠ some rb := fun e => by have := Option.some.inj e; omega
  have R0 := hid (hR.mk' zeroS)
  have Z0 := hid (Blk.new W zeroS)
  clear hR
  go_enter Tryd.func28, Tryd.ntmps28
  go_wp2_with fail
  refine (number_yes w rb 0 L _ hL R0.out h0).mono ?_
  rintro e w1 ⟨rfl, R1', G1⟩
  have R1 := hid R1'
  have Z1 := hid (Z0.out.grown G1 ne)
  clear R1' G1 R0 Z0
  go_wp2_with fail
  refine (number_yes w rb 1 L _ hL R1.out h1).mono ?_
  rintro e w2 ⟨rfl, R2', G2⟩
  have R2 := hid R2'
  have Z2 := hid (Z1.out.grown G2 ne)
  clear R2' G2 R1 Z1
  go_wp2_with fail
  refine (number_yes w rb 2 L _ hL R2.out h2).mono ?_
  rintro e w3 ⟨rfl, R3', G3⟩
  have R3 := hid R3'
  have Z3 := hid (Z2.out.grown G3 ne)
  clear R3' G3 R2 Z2
  have X := hid (number_no u pv w rb 3 L _ hL R3.out h3 hE)
  unfold gaveUp at X
  go_wp2_with (go_at_call 50; refine X.out.mono ?_; rintro e wx ⟨rfl, LX⟩)
  exact ⟨rfl, rfl, LX⟩
set_option maxRecDepth 100000 in
set_option maxHeartbeats 4000000 in
theorem step_no4 (u : TypeId) (pv : Value) (w : World) (rb : Nat) (L : List UInt8) (W : World) (hL : L.length ≤ 1048576) (hR : Reader w rb 0 L W) (hE : Err u pv w) (h0 : numAtB 0 L = true) (h1 : numAtB 1 L = true) (h2 : numAtB 2 L = true) (h3 : numAtB 3 L = true) (h4 : numAtB 4 L = false) :
    Calls Tryd.prog 28 #[.pointer (some ⟨rb, 0, none⟩)] W fun e W' => e = gaveUp u pv ∧ Below w.heap.size w W' := by
  unfold gaveUp
  have lr := hR.2.1.lt
  have lw := hR.2.2.size
  have ne : some W.heap.size ≠ some rb := fun e => by have := Option.some.inj e; omega
  have R0 := hid (hR.mk' zeroS)
  have Z0 := hid (Blk.new W zeroS)
  clear hR
  go_enter Tryd.func28, Tryd.ntmps28
  go_wp2_with fail
  refine (number_yes w rb 0 L _ hL R0.out h0).mono ?_
  rintro e w1 ⟨rfl, R1', G1⟩
  have R1 := hid R1'
  have Z1 := hid (Z0.out.grown G1 ne)
  clear R1' G1 R0 Z0
  go_wp2_with fail
  refine (number_yes w rb 1 L _ hL R1.out h1).mono ?_
  rintro e w2 ⟨rfl, R2', G2⟩
  have R2 := hid R2'
  have Z2 := hid (Z1.out.grown G2 ne)
  clear R2' G2 R1 Z1
  go_wp2_with fail
  refine (number_yes w rb 2 L _ hL R2.out h2).mono ?_
  rintro e w3 ⟨rfl, R3', G3⟩
  have R3 := hid R3'
  have Z3 := hid (Z2.out.grown G3 ne)
  clear R3' G3 R2 Z2
  go_wp2_with fail
  refine (number_yes w rb 3 L _ hL R3.out h3).mono ?_
  rintro e w4 ⟨rfl, R4', G4⟩
  have R4 := hid R4'
  have Z4 := hid (Z3.out.grown G4 ne)
  clear R4' G4 R3 Z3
  have X := hid (number_no u pv w rb 4 L _ hL R4.out h4 hE)
  unfold gaveUp at X
  go_wp2_with (go_at_call 50; refine X.out.mono ?_; rintro e wx ⟨rfl, LX⟩)
  exact ⟨rfl, rfl, LX⟩
set_option maxRecDepth 100000 in
set_option maxHeartbeats 4000000 in
theorem step_no5 (u : TypeId) (pv : Value) (w : World) (rb : Nat) (L : List UInt8) (W : World) (hL : L.length ≤ 1048576) (hR : Reader w rb 0 L W) (hE : Err u pv w) (h0 : numAtB 0 L = true) (h1 : numAtB 1 L = true) (h2 : numAtB 2 L = true) (h3 : numAtB 3 L = true) (h4 : numAtB 4 L = true) (h5 : labAtB 5 L = false) :
    Calls Tryd.prog 28 #[.pointer (some ⟨rb, 0, none⟩)] W fun e W' => e = gaveUp u pv ∧ Below w.heap.size w W' := by
  unfold gaveUp
  have lr := hR.2.1.lt
  have lw := hR.2.2.size
  have ne : some W.heap.size ≠ some rb := fun e => by have := Option.some.inj e; omega
  have R0 := hid (hR.mk' zeroS)
  have Z0 := hid (Blk.new W zeroS)
  clear hR
  go_enter Tryd.func28, Tryd.ntmps28
  go_wp2_with fail
  refine (number_yes w rb 0 L _ hL R0.out h0).mono ?_
  rintro e w1 ⟨rfl, R1', G1⟩
  have R1 := hid R1'
  have Z1 := hid (Z0.out.grown G1 ne)
  clear R1' G1 R0 Z0
  go_wp2_with fail
  refine (number_yes w rb 1 L _ hL R1.out h1).mono ?_
  rintro e w2 ⟨rfl, R2', G2⟩
  have R2 := hid R2'
  have Z2 := hid (Z1.out.grown G2 ne)
  clear R2' G2 R1 Z1
  go_wp2_with fail
  refine (number_yes w rb 2 L _ hL R2.out h2).mono ?_
  rintro e w3 ⟨rfl, R3', G3⟩
  have R3 := hid R3'
  have Z3 := hid (Z2.out.grown G3 ne)
  clear R3' G3 R2 Z2
  go_wp2_with fail
  refine (number_yes w rb 3 L _ hL R3.out h3).mono ?_
  rintro e w4 ⟨rfl, R4', G4⟩
  have R4 := hid R4'
  have Z4 := hid (Z3.out.grown G4 ne)
  clear R4' G4 R3 Z3
  go_wp2_with fail
  refine (number_yes w rb 4 L _ hL R4.out h4).mono ?_
  rintro e w5 ⟨rfl, R5', G5⟩
  have R5 := hid R5'
  have Z5 := hid (Z4.out.grown G5 ne)
  clear R5' G5 R4 Z4
  have X := hid (label_no u pv w rb 5 L _ hL R5.out h5 hE)
  unfold gaveUp at X
  go_wp2_with (go_at_call 51; refine X.out.mono ?_; rintro e wx ⟨rfl, LX⟩)
  exact ⟨rfl, rfl, LX⟩
set_option maxRecDepth 100000 in
set_option maxHeartbeats 4000000 in
theorem step_no6 (u : TypeId) (pv : Value) (w : World) (rb : Nat) (L : List UInt8) (W : World) (hL : L.length ≤ 1048576) (hR : Reader w rb 0 L W) (hE : Err u pv w) (h0 : numAtB 0 L = true) (h1 : numAtB 1 L = true) (h2 : numAtB 2 L = true) (h3 : numAtB 3 L = true) (h4 : numAtB 4 L = true) (h5 : labAtB 5 L = true) (h6 : labAtB 6 L = false) :
    Calls Tryd.prog 28 #[.pointer (some ⟨rb, 0, none⟩)] W fun e W' => e = gaveUp u pv ∧ Below w.heap.size w W' := by
  unfold gaveUp
  have lr := hR.2.1.lt
  have lw := hR.2.2.size
  have ne : some W.heap.size ≠ some rb := fun e => by have := Option.some.inj e; omega
  have R0 := hid (hR.mk' zeroS)
  have Z0 := hid (Blk.new W zeroS)
  clear hR
  go_enter Tryd.func28, Tryd.ntmps28
  go_wp2_with fail
  refine (number_yes w rb 0 L _ hL R0.out h0).mono ?_
  rintro e w1 ⟨rfl, R1', G1⟩
  have R1 := hid R1'
  have Z1 := hid (Z0.out.grown G1 ne)
  clear R1' G1 R0 Z0
  go_wp2_with fail
  refine (number_yes w rb 1 L _ hL R1.out h1).mono ?_
  rintro e w2 ⟨rfl, R2', G2⟩
  have R2 := hid R2'
  have Z2 := hid (Z1.out.grown G2 ne)
  clear R2' G2 R1 Z1
  go_wp2_with fail
  refine (number_yes w rb 2 L _ hL R2.out h2).mono ?_
  rintro e w3 ⟨rfl, R3', G3⟩
  have R3 := hid R3'
  have Z3 := hid (Z2.out.grown G3 ne)
  clear R3' G3 R2 Z2
  go_wp2_with fail
  refine (number_yes w rb 3 L _ hL R3.out h3).mono ?_
  rintro e w4 ⟨rfl, R4', G4⟩
  have R4 := hid R4'
  have Z4 := hid (Z3.out.grown G4 ne)
  clear R4' G4 R3 Z3
  go_wp2_with fail
  refine (number_yes w rb 4 L _ hL R4.out h4).mono ?_
  rintro e w5 ⟨rfl, R5', G5⟩
  have R5 := hid R5'
  have Z5 := hid (Z4.out.grown G5 ne)
  clear R5' G5 R4 Z4
  go_wp2_with fail
  have lz5 : W.heap.size < w5.heap.size := Z5.out.lt
  have lr5 := R5.out.2.1.lt
  refine (label_yes w rb 5 L _ hL R5.out h5).mono ?_
  rintro e w6 ⟨a1, k1, rfl, O6', R6', G6⟩
  have R6 := hid R6'
  have Z6 := hid (Z5.out.grown G6 ne)
  have O6 := hid O6'
  have lr6 := R6.out.2.1.lt
  have l56 := G6.size
  clear R6' G6 R5 Z5 O6'
  have X := hid (label_no u pv w rb 6 L _ hL R6.out h6 hE)
  unfold gaveUp at X
  go_wp2_with (go_at_call 51; refine X.out.mono ?_; rintro e wx ⟨rfl, LX⟩)
  exact ⟨rfl, rfl, LX⟩
set_option maxRecDepth 100000 in
set_option maxHeartbeats 4000000 in
theorem step_no7 (u : TypeId) (pv : Value) (w : World) (rb : Nat) (L : List UInt8) (W : World) (hL : L.length ≤ 1048576) (hR : Reader w rb 0 L W) (hE : Err u pv w) (h0 : numAtB 0 L = true) (h1 : numAtB 1 L = true) (h2 : numAtB 2 L = true) (h3 : numAtB 3 L = true) (h4 : numAtB 4 L = true) (h5 : labAtB 5 L = true) (h6 : labAtB 6 L = true) (hr : rightS L = false) :
    Calls Tryd.prog 28 #[.pointer (some ⟨rb, 0, none⟩)] W fun e W' => e = gaveUp u pv ∧ Below w.heap.size w W' := by
  unfold gaveUp
  have lr := hR.2.1.lt
  have lw := hR.2.2.size
  have ne : some W.heap.size ≠ some rb := fun e => by have := Option.some.inj e; omega
  have R0 := hid (hR.mk' zeroS)
  have Z0 := hid (Blk.new W zeroS)
  clear hR
  go_enter Tryd.func28, Tryd.ntmps28
  go_wp2_with fail
  refine (number_yes w rb 0 L _ hL R0.out h0).mono ?_
  rintro e w1 ⟨rfl, R1', G1⟩
  have R1 := hid R1'
  have Z1 := hid (Z0.out.grown G1 ne)
  clear R1' G1 R0 Z0
  go_wp2_with fail
  refine (number_yes w rb 1 L _ hL R1.out h1).mono ?_
  rintro e w2 ⟨rfl, R2', G2⟩
  have R2 := hid R2'
  have Z2 := hid (Z1.out.grown G2 ne)
  clear R2' G2 R1 Z1
  go_wp2_with fail
  refine (number_yes w rb 2 L _ hL R2.out h2).mono ?_
  rintro e w3 ⟨rfl, R3', G3⟩
  have R3 := hid R3'
  have Z3 := hid (Z2.out.grown G3 ne)
  clear R3' G3 R2 Z2
  go_wp2_with fail
  refine (number_yes w rb 3 L _ hL R3.out h3).mono ?_
  rintro e w4 ⟨rfl, R4', G4⟩
  have R4 := hid R4'
  have Z4 := hid (Z3.out.grown G4 ne)
  clear R4' G4 R3 Z3
  go_wp2_with fail
  refine (number_yes w rb 4 L _ hL R4.out h4).mono ?_
  rintro e w5 ⟨rfl, R5', G5⟩
  have R5 := hid R5'
  have Z5 := hid (Z4.out.grown G5 ne)
  clear R5' G5 R4 Z4
  go_wp2_with fail
  have lz5 : W.heap.size < w5.heap.size := Z5.out.lt
  have lr5 := R5.out.2.1.lt
  refine (label_yes w rb 5 L _ hL R5.out h5).mono ?_
  rintro e w6 ⟨a1, k1, rfl, O6', R6', G6⟩
  have R6 := hid R6'
  have Z6 := hid (Z5.out.grown G6 ne)
  have O6 := hid O6'
  have lr6 := R6.out.2.1.lt
  have l56 := G6.size
  clear R6' G6 R5 Z5 O6'
  go_wp2_with fail
  have OL := hid (Own.lt O6.out)
  refine (label_yes w rb 6 L _ hL R6.out h6).mono ?_
  rintro e w7 ⟨a2, k2, rfl, O7', R7', G7⟩
  have l67 := G7.size
  have OM := hid (Own.lt O7')
  have N7 := hid (OwnList.past O6.out G7 lr5)
  have Z7 := hid (Z6.out.grown G7 ne)
  have O7 := hid O7'
  have R7 := hid (R7'.mk' (.cells #[.int .i64 (nm 0 L), .int .i64 (nm 1 L), .int .i64 (nm 2 L), .int .i64 (nm 3 L), .int .i64 (nm 4 L), .string ⟨#[]⟩, .int .i64 (rl 5 L).1, .slice a1 (rl 5 L).2.1.length k1, .int .i64 (rl 6 L).1, .slice a2 (rl 6 L).2.1.length k2] 33))
  have N8 := hid (OwnCats.alloc N7.out (.cells #[.int .i64 (nm 0 L), .int .i64 (nm 1 L), .int .i64 (nm 2 L), .int .i64 (nm 3 L), .int .i64 (nm 4 L), .string ⟨#[]⟩, .int .i64 (rl 5 L).1, .slice a1 (rl 5 L).2.1.length k1, .int .i64 (rl 6 L).1, .slice a2 (rl 6 L).2.1.length k2] 33))
  have O8 := hid (OwnCats.alloc O7.out (.cells #[.int .i64 (nm 0 L), .int .i64 (nm 1 L), .int .i64 (nm 2 L), .int .i64 (nm 3 L), .int .i64 (nm 4 L), .string ⟨#[]⟩, .int .i64 (rl 5 L).1, .slice a1 (rl 5 L).2.1.length k1, .int .i64 (rl 6 L).1, .slice a2 (rl 6 L).2.1.length k2] 33))
  have Z8 := hid (Z7.out.alloc (.cells #[.int .i64 (nm 0 L), .int .i64 (nm 1 L), .int .i64 (nm 2 L), .int .i64 (nm 3 L), .int .i64 (nm 4 L), .string ⟨#[]⟩, .int .i64 (rl 5 L).1, .slice a1 (rl 5 L).2.1.length k1, .int .i64 (rl 6 L).1, .slice a2 (rl 6 L).2.1.length k2] 33))
  have Y8 := hid (Blk.new w7 (.cells #[.int .i64 (nm 0 L), .int .i64 (nm 1 L), .int .i64 (nm 2 L), .int .i64 (nm 3 L), .int .i64 (nm 4 L), .string ⟨#[]⟩, .int .i64 (rl 5 L).1, .slice a1 (rl 5 L).2.1.length k1, .int .i64 (rl 6 L).1, .slice a2 (rl 6 L).2.1.length k2] 33))
  have c8 := R7.out.2.1.one
  clear R7' G7 R6 Z6 O7' O6 N7 O7 Z7
  go_wp2_with fail
  refine (clone_any _ _ (by rw [size_of]; have := rst_len 7 L; omega)).mono ?_
  rintro e w8 ⟨rfl, hb8⟩
  have N9 := hid (OwnList.apart (OwnList.below N8.out hb8) (P := w7.heap.size) (fun e => by have := OL.out _ e; omega) 5 (.string ⟨(rst 7 L).toArray⟩))
  have O9 := hid (OwnList.apart (OwnList.below O8.out hb8) (P := w7.heap.size) (fun e => by have := OM.out _ e; omega) 5 (.string ⟨(rst 7 L).toArray⟩))
  have B9 := hid ((then_ R7.out.2.2 hb8).setCell (p := ⟨w7.heap.size, 5, none⟩) (show w.heap.size ≤ w7.heap.size by omega) (.string ⟨(rst 7 L).toArray⟩))
  have Z9 := hid ((Z8.out.below hb8).other (Q := w7.heap.size) (i := 5) (by omega) (.string ⟨(rst 7 L).toArray⟩))
  have Y9 := hid (Y8.out.below hb8)
  have YA : Hid (Blk (w8.setCell ⟨w7.heap.size, 5, none⟩ (.string ⟨(rst 7 L).toArray⟩)) w7.heap.size (.cells #[.int .i64 (nm 0 L), .int .i64 (nm 1 L), .int .i64 (nm 2 L), .int .i64 (nm 3 L), .int .i64 (nm 4 L), .string ⟨(rst 7 L).toArray⟩, .int .i64 (rl 5 L).1, .slice a1 (rl 5 L).2.1.length k1, .int .i64 (rl 6 L).1, .slice a2 (rl 6 L).2.1.length k2] 33)) := hid (Y9.out.setAt _)
  obtain ⟨y0, y1, y2, y3, y4, y5, y6, y7, y8, y9⟩ := Y9.out.ten
  have f5 := Y9.out.warm 5
  have P19 := hid (implStep_any (nm 0 L) (nm 1 L) (nm 2 L) (nm 3 L) (nm 4 L) ⟨(rst 7 L).toArray⟩ (rl 5 L).1 a1 (rl 5 L).2.1.length k1 (fstAt (rl 5 L).2.1) (sndAt (rl 5 L).2.1) (rl 6 L).1 a2 (rl 6 L).2.1.length k2 (fstAt (rl 6 L).2.1) (sndAt (rl 6 L).2.1) _ (by rw [size_of]; unfold maxLen; have := rst_len 7 L; omega) (by unfold maxLen; have := readL_len (pce 5 L); unfold rl; omega) (by unfold maxLen; have := readL_len (pce 6 L); unfold rl; omega) (OwnCats.cats N9.out) (OwnCats.cats O9.out))
  change Hid (Calls _ _ _ _ fun e w' => e = .returned (.bool (rightS L)) ∧ _) at P19
  rw [hr] at P19
  clear c8 N8 O8 Z8 Y8 hb8 R7
  go_wp2_with fail
  generalize w8.setCell ⟨w7.heap.size, 5, none⟩ (.string ⟨(rst 7 L).toArray⟩) = V at *
  clear y0 y1 y2 y3 y4 y5 y6 y7 y8 y9 f5 Y9
  refine P19.out.mono ?_
  rintro e w9 ⟨rfl, hb9⟩
  clear P19
  have BA := hid (then_ B9.out hb9)
  have E9 := hid (hE.below BA.out)
  go_wp2_with (go_at_call 53; refine (must_no u pv _ E9.out).mono ?_; rintro e w10 ⟨rfl, rfl⟩; unfold gaveUp)
  exact ⟨rfl, rfl, BA.out⟩
theorem step_no (u : TypeId) (pv : Value) (w : World) (rb : Nat) (L : List UInt8) (W : World) (hL : L.length ≤ 1048576) (hR : Reader w rb 0 L W) (hE : Err u pv w) (hs : strictS L = false) :
    Calls Tryd.prog 28 #[.pointer (some ⟨rb, 0, none⟩)] W fun e W' => e = gaveUp u pv ∧ Below w.heap.size w W' := by
  cases h0 : numAtB 0 L with
  | false => exact step_no0 u pv w rb L W hL hR hE h0
  | true =>
  cases h1 : numAtB 1 L with
  | false => exact step_no1 u pv w rb L W hL hR hE h0 h1
  | true =>
  cases h2 : numAtB 2 L with
  | false => exact step_no2 u pv w rb L W hL hR hE h0 h1 h2
  | true =>
  cases h3 : numAtB 3 L with
  | false => exact step_no3 u pv w rb L W hL hR hE h0 h1 h2 h3
  | true =>
  cases h4 : numAtB 4 L with
  | false => exact step_no4 u pv w rb L W hL hR hE h0 h1 h2 h3 h4
  | true =>
  cases h5 : labAtB 5 L with
  | false => exact step_no5 u pv w rb L W hL hR hE h0 h1 h2 h3 h4 h5
  | true =>
  cases h6 : labAtB 6 L with
  | false => exact step_no6 u pv w rb L W hL hR hE h0 h1 h2 h3 h4 h5 h6
  | true =>
  cases hr : rightS L with
  | false => exact step_no7 u pv w rb L W hL hR hE h0 h1 h2 h3 h4 h5 h6 hr
  | true =>
    unfold strictS at hs
    rw [h0, h1, h2, h3, h4, h5, h6, hr] at hs
    cases hs
end Go.Proofs.YtcpphobokdkkeaaDoor
