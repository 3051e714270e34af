/- Changes: are they formed, do they find their file? -/
import Derived.Test.YtcchpeebhkiacaaDU
namespace Go.Proofs.Ytcchpeebhkiacaa
open Go Go.RowKit Go.Deep Go.Maps

set_option maxRecDepth 100000 in
set_option maxHeartbeats 1000000 in
theorem formedA (o : OpV) (w : World) (ho : o.wf) :
    Calls Try.prog 114 #[o.val] w fun e w' => e = .returned (.bool (nmOk o.name && o.to.toList.isEmpty)) ∧ Below w.heap.size w w' := by
  unfold OpV.val
  obtain ⟨z1, z2, z3⟩ := ho
  cases t0 : nmOk o.name with
  | false =>
    go_enter Try.func114, Try.ntmps114
    go_wp2_with (go_at_call 47; refine (nameOk_any _ _ (by assumption)).mono ?_; rintro e w' ⟨rfl, rfl⟩)
    go_ret
    exact ⟨rfl, (Below.refl _ _).alloc (Nat.le_refl _) _⟩
  | true =>
  cases t1 : o.to.toList.isEmpty with
  | false =>
    go_enter Try.func114, Try.ntmps114
    go_wp2_with (go_at_call 47; refine (nameOk_any _ _ (by assumption)).mono ?_; rintro e w' ⟨rfl, rfl⟩)
    go_ret
    exact ⟨rfl, (Below.refl _ _).alloc (Nat.le_refl _) _⟩
  | true =>
    go_enter Try.func114, Try.ntmps114
    go_wp2_with (go_at_call 47; refine (nameOk_any _ _ (by assumption)).mono ?_; rintro e w' ⟨rfl, rfl⟩)
    go_ret
    exact ⟨rfl, (Below.refl _ _).alloc (Nat.le_refl _) _⟩
set_option maxRecDepth 100000 in
set_option maxHeartbeats 1000000 in
theorem formedR (o : OpV) (w : World) (ho : o.wf) :
    Calls Try.prog 118 #[o.val] w fun e w' => e = .returned (.bool (nmOk o.name && nmOk o.to && o.data.toList.isEmpty)) ∧ Below w.heap.size w w' := by
  unfold OpV.val
  obtain ⟨z1, z2, z3⟩ := ho
  cases t0 : nmOk o.name with
  | false =>
    go_enter Try.func118, Try.ntmps118
    go_wp2_with (go_at_call 47; refine (nameOk_any _ _ (by assumption)).mono ?_; rintro e w' ⟨rfl, rfl⟩)
    go_ret
    exact ⟨rfl, (Below.refl _ _).alloc (Nat.le_refl _) _⟩
  | true =>
  cases t1 : nmOk o.to with
  | false =>
    go_enter Try.func118, Try.ntmps118
    go_wp2_with (go_at_call 47; refine (nameOk_any _ _ (by assumption)).mono ?_; rintro e w' ⟨rfl, rfl⟩)
    go_ret
    exact ⟨rfl, (Below.refl _ _).alloc (Nat.le_refl _) _⟩
  | true =>
  cases t2 : o.data.toList.isEmpty with
  | false =>
    go_enter Try.func118, Try.ntmps118
    go_wp2_with (go_at_call 47; refine (nameOk_any _ _ (by assumption)).mono ?_; rintro e w' ⟨rfl, rfl⟩)
    go_ret
    exact ⟨rfl, (Below.refl _ _).alloc (Nat.le_refl _) _⟩
  | true =>
    go_enter Try.func118, Try.ntmps118
    go_wp2_with (go_at_call 47; refine (nameOk_any _ _ (by assumption)).mono ?_; rintro e w' ⟨rfl, rfl⟩)
    go_ret
    exact ⟨rfl, (Below.refl _ _).alloc (Nat.le_refl _) _⟩
set_option maxRecDepth 100000 in
set_option maxHeartbeats 1000000 in
theorem formedD (o : OpV) (w : World) (ho : o.wf) :
    Calls Try.prog 121 #[o.val] w fun e w' => e = .returned (.bool (nmOk o.name && o.to.toList.isEmpty && o.data.toList.isEmpty)) ∧ Below w.heap.size w w' := by
  unfold OpV.val
  obtain ⟨z1, z2, z3⟩ := ho
  cases t0 : nmOk o.name with
  | false =>
    go_enter Try.func121, Try.ntmps121
    go_wp2_with (go_at_call 47; refine (nameOk_any _ _ (by assumption)).mono ?_; rintro e w' ⟨rfl, rfl⟩)
    go_ret
    exact ⟨rfl, (Below.refl _ _).alloc (Nat.le_refl _) _⟩
  | true =>
  cases t1 : o.to.toList.isEmpty with
  | false =>
    go_enter Try.func121, Try.ntmps121
    go_wp2_with (go_at_call 47; refine (nameOk_any _ _ (by assumption)).mono ?_; rintro e w' ⟨rfl, rfl⟩)
    go_ret
    exact ⟨rfl, (Below.refl _ _).alloc (Nat.le_refl _) _⟩
  | true =>
  cases t2 : o.data.toList.isEmpty with
  | false =>
    go_enter Try.func121, Try.ntmps121
    go_wp2_with (go_at_call 47; refine (nameOk_any _ _ (by assumption)).mono ?_; rintro e w' ⟨rfl, rfl⟩)
    go_ret
    exact ⟨rfl, (Below.refl _ _).alloc (Nat.le_refl _) _⟩
  | true =>
    go_enter Try.func121, Try.ntmps121
    go_wp2_with (go_at_call 47; refine (nameOk_any _ _ (by assumption)).mono ?_; rintro e w' ⟨rfl, rfl⟩)
    go_ret
    exact ⟨rfl, (Below.refl _ _).alloc (Nat.le_refl _) _⟩
theorem findsA (o : OpV) (c : Nat) (w : World) : Calls Try.prog 113 #[o.val, .map (some c)] w fun e w' => e = .returned (.bool true) ∧ Below w.heap.size w w' := by
  unfold OpV.val
  go_enter Try.func113, Try.ntmps113
  go_wp2
  go_ret
  exact ⟨rfl, by first | exact Below.refl _ _ | exact (Below.refl _ _).alloc (Nat.le_refl _) _⟩
theorem findsR (o : OpV) (c n : Nat) (m : List UInt8 → Option Nat) (w : World) (h : MapS w c n m) (hs : o.name.size ≤ maxLen) : Calls Try.prog 117 #[o.val, .map (some c)] w fun e w' => e = .returned (.bool (m (key o.name)).isSome) ∧ Below w.heap.size w w' := by
  unfold OpV.val
  have b0 : Below w.heap.size w (w.alloc (.cells #[.int .i64 o.kind, .string o.name, .string o.to, .string o.data] 99)) := (Below.refl _ w).alloc (Nat.le_refl _) _
  have H := hid (has_any o.name c n m _ (h.below b0) hs)
  clear h
  go_enter Try.func117, Try.ntmps117
  go_wp2_with (go_at_call 115; refine H.out.mono ?_; rintro e w' ⟨rfl, rfl⟩)
  go_ret
  exact ⟨rfl, b0⟩
theorem findsD (o : OpV) (c n : Nat) (m : List UInt8 → Option Nat) (w : World) (h : MapS w c n m) (hs : o.name.size ≤ maxLen) : Calls Try.prog 120 #[o.val, .map (some c)] w fun e w' => e = .returned (.bool (m (key o.name)).isSome) ∧ Below w.heap.size w w' := by
  unfold OpV.val
  have b0 : Below w.heap.size w (w.alloc (.cells #[.int .i64 o.kind, .string o.name, .string o.to, .string o.data] 100)) := (Below.refl _ w).alloc (Nat.le_refl _) _
  have H := hid (has_any o.name c n m _ (h.below b0) hs)
  clear h
  go_enter Try.func120, Try.ntmps120
  go_wp2_with (go_at_call 115; refine H.out.mono ?_; rintro e w' ⟨rfl, rfl⟩)
  go_ret
  exact ⟨rfl, b0⟩
end Go.Proofs.Ytcchpeebhkiacaa
