/- Routed where it refuses. -/
import Derived.Test.YthlejmofhcgkdaaROPH
namespace Go.Proofs.Ythlejmofhcgkdaa
open Go Go.RowKit Go.Deep Go.BigFrame Go.Maps

set_option maxRecDepth 100000 in
set_option maxHeartbeats 2000000 in
theorem specRouted_no (a : Option Addr) (n cap : Nat) (f g h : Nat → Int) (x y z : Int) (w : World) (hn : n ≤ maxLen) (H : RtsAt w a n f g h) (ho : (rtsOk n f g h && rOk x y z) = false) :
    Calls Try.prog 11 #[.slice a n cap, .agg #[.int .i64 x, .int .i64 y, .int .i64 z]] w fun e w' => e = .returned (.tuple #[.slice none 0 0, .bool false]) ∧ Below w.heap.size w w' := by
  have L0 := (Below.refl _ w).alloc (Nat.le_refl _) (.cells #[.int .i64 x, .int .i64 y, .int .i64 z] 29)
  have hv : w.heap.size < (w.alloc (.cells #[.int .i64 x, .int .i64 y, .int .i64 z] 29)).heap.size := by rw [World.size_alloc]; omega
  have V1 := hid (up_cell hv (show (w.alloc (.cells #[.int .i64 x, .int .i64 y, .int .i64 z] 29)).cell? ⟨w.heap.size, 0, none⟩ = some (.int .i64 x) by simp))
  have V2 := hid (up_cell hv (show (w.alloc (.cells #[.int .i64 x, .int .i64 y, .int .i64 z] 29)).cell? ⟨w.heap.size, 1, none⟩ = some (.int .i64 y) by simp))
  have V3 := hid (up_cell hv (show (w.alloc (.cells #[.int .i64 x, .int .i64 y, .int .i64 z] 29)).cell? ⟨w.heap.size, 2, none⟩ = some (.int .i64 z) by simp))
  have F7 := hid (specRoutes_any a n cap f g h _ hn (H.below L0))
  have F18 := hid (fun w => l8Ok_any x y z w)
  have HL0 := hid L0
  clear H L0 hv
  cases h1 : rtsOk n f g h with
  | false =>
    rw [h1] at F7
    clear h1 ho
    go_enter Try.func11, Try.ntmps11
    go_wp2_with (go_at_call 24; refine F7.out.mono ?_; rintro e w1 ⟨rfl, h1⟩)
    go_ret2
    exact ⟨rfl, then_ HL0.out h1⟩
  | true =>
    rw [h1, Bool.true_and] at ho
    rw [h1] at F7
    rw [ho] at F18
    clear h1 ho
    go_enter Try.func11, Try.ntmps11
    go_wp2_with (first
      | (go_at_call 32; refine (F18.out _).mono ?_; rintro e w2 ⟨rfl, h2⟩)
      | (go_at_call 24; refine F7.out.mono ?_; rintro e w1 ⟨rfl, h1⟩; have q1 := V1.out ⟨w1, h1⟩; have q2 := V2.out ⟨w1, h1⟩; have q3 := V3.out ⟨w1, h1⟩))
    go_ret2
    exact ⟨rfl, then_ HL0.out (then_ h1 h2)⟩

set_option maxRecDepth 100000 in
set_option maxHeartbeats 2000000 in
theorem implRouted_no (a : Option Addr) (n cap : Nat) (f g h : Nat → Int) (x y z : Int) (w : World) (hn : n ≤ maxLen) (H : RtsAt w a n f g h) (ho : (rtsOk n f g h && rOk x y z) = false) :
    Calls Try.prog 10 #[.slice a n cap, .agg #[.int .i64 x, .int .i64 y, .int .i64 z]] w fun e w' => e = .returned (.tuple #[.slice none 0 0, .bool false]) ∧ Below w.heap.size w w' := by
  have L0 := (Below.refl _ w).alloc (Nat.le_refl _) (.cells #[.int .i64 x, .int .i64 y, .int .i64 z] 29)
  have hv : w.heap.size < (w.alloc (.cells #[.int .i64 x, .int .i64 y, .int .i64 z] 29)).heap.size := by rw [World.size_alloc]; omega
  have V1 := hid (up_cell hv (show (w.alloc (.cells #[.int .i64 x, .int .i64 y, .int .i64 z] 29)).cell? ⟨w.heap.size, 0, none⟩ = some (.int .i64 x) by simp))
  have V2 := hid (up_cell hv (show (w.alloc (.cells #[.int .i64 x, .int .i64 y, .int .i64 z] 29)).cell? ⟨w.heap.size, 1, none⟩ = some (.int .i64 y) by simp))
  have V3 := hid (up_cell hv (show (w.alloc (.cells #[.int .i64 x, .int .i64 y, .int .i64 z] 29)).cell? ⟨w.heap.size, 2, none⟩ = some (.int .i64 z) by simp))
  have F7 := hid (implRoutes_any a n cap f g h _ hn (H.below L0))
  have F18 := hid (fun w => routeOk_any x y z w)
  have HL0 := hid L0
  clear H L0 hv
  cases h1 : rtsOk n f g h with
  | false =>
    rw [h1] at F7
    clear h1 ho
    go_enter Try.func10, Try.ntmps10
    go_wp2_with (go_at_call 12; refine F7.out.mono ?_; rintro e w1 ⟨rfl, h1⟩)
    go_ret2
    exact ⟨rfl, then_ HL0.out h1⟩
  | true =>
    rw [h1, Bool.true_and] at ho
    rw [h1] at F7
    rw [ho] at F18
    clear h1 ho
    go_enter Try.func10, Try.ntmps10
    go_wp2_with (first
      | (go_at_call 28; refine (F18.out _).mono ?_; rintro e w2 ⟨rfl, h2⟩)
      | (go_at_call 12; refine F7.out.mono ?_; rintro e w1 ⟨rfl, h1⟩; have q1 := V1.out ⟨w1, h1⟩; have q2 := V2.out ⟨w1, h1⟩; have q3 := V3.out ⟨w1, h1⟩))
    go_ret2
    exact ⟨rfl, then_ HL0.out (then_ h1 h2)⟩

end Go.Proofs.Ythlejmofhcgkdaa
