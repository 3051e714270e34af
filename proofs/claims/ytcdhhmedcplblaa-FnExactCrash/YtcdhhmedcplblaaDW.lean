/- Changes: are they formed, do they find their file? -/
import Derived.Test.YtcdhhmedcplblaaDU
namespace Go.Proofs.Ytcdhhmedcplblaa
open Go Go.RowKit Go.Deep Go.Maps

set_option maxRecDepth 100000 in
set_option maxHeartbeats 1000000 in
theorem formedA (o : OpV) (w : World) (ho : o.wf) :
    Calls Try.prog 123 #[o.val] w fun e w' => e = .returned (.bool (nmOk o.name && o.to.toList.isEmpty)) ∧ Below w.heap.size w w' := by
  unfold OpV.val
  obtain ⟨z1, z2, z3⟩ := ho
  cases t0 : nmOk o.name with
  | false =>
    go_enter Try.func123, Try.ntmps123
    go_wp2_with (go_at_call 70; refine (nameOk_any _ _ (by assumption)).mono ?_; rintro e w' ⟨rfl, rfl⟩)
    go_ret
    exact ⟨rfl, (Below.refl _ _).alloc (Nat.le_refl _) _⟩
  | true =>
  cases t1 : o.to.toList.isEmpty with
  | false =>
    go_enter Try.func123, Try.ntmps123
    go_wp2_with (go_at_call 70; refine (nameOk_any _ _ (by assumption)).mono ?_; rintro e w' ⟨rfl, rfl⟩)
    go_ret
    exact ⟨rfl, (Below.refl _ _).alloc (Nat.le_refl _) _⟩
  | true =>
    go_enter Try.func123, Try.ntmps123
    go_wp2_with (go_at_call 70; refine (nameOk_any _ _ (by assumption)).mono ?_; rintro e w' ⟨rfl, rfl⟩)
    go_ret
    exact ⟨rfl, (Below.refl _ _).alloc (Nat.le_refl _) _⟩
set_option maxRecDepth 100000 in
set_option maxHeartbeats 1000000 in
theorem formedR (o : OpV) (w : World) (ho : o.wf) :
    Calls Try.prog 127 #[o.val] w fun e w' => e = .returned (.bool (nmOk o.name && nmOk o.to && o.data.toList.isEmpty)) ∧ Below w.heap.size w w' := by
  unfold OpV.val
  obtain ⟨z1, z2, z3⟩ := ho
  cases t0 : nmOk o.name with
  | false =>
    go_enter Try.func127, Try.ntmps127
    go_wp2_with (go_at_call 70; refine (nameOk_any _ _ (by assumption)).mono ?_; rintro e w' ⟨rfl, rfl⟩)
    go_ret
    exact ⟨rfl, (Below.refl _ _).alloc (Nat.le_refl _) _⟩
  | true =>
  cases t1 : nmOk o.to with
  | false =>
    go_enter Try.func127, Try.ntmps127
    go_wp2_with (go_at_call 70; refine (nameOk_any _ _ (by assumption)).mono ?_; rintro e w' ⟨rfl, rfl⟩)
    go_ret
    exact ⟨rfl, (Below.refl _ _).alloc (Nat.le_refl _) _⟩
  | true =>
  cases t2 : o.data.toList.isEmpty with
  | false =>
    go_enter Try.func127, Try.ntmps127
    go_wp2_with (go_at_call 70; refine (nameOk_any _ _ (by assumption)).mono ?_; rintro e w' ⟨rfl, rfl⟩)
    go_ret
    exact ⟨rfl, (Below.refl _ _).alloc (Nat.le_refl _) _⟩
  | true =>
    go_enter Try.func127, Try.ntmps127
    go_wp2_with (go_at_call 70; refine (nameOk_any _ _ (by assumption)).mono ?_; rintro e w' ⟨rfl, rfl⟩)
    go_ret
    exact ⟨rfl, (Below.refl _ _).alloc (Nat.le_refl _) _⟩
set_option maxRecDepth 100000 in
set_option maxHeartbeats 1000000 in
theorem formedD (o : OpV) (w : World) (ho : o.wf) :
    Calls Try.prog 130 #[o.val] w fun e w' => e = .returned (.bool (nmOk o.name && o.to.toList.isEmpty && o.data.toList.isEmpty)) ∧ Below w.heap.size w w' := by
  unfold OpV.val
  obtain ⟨z1, z2, z3⟩ := ho
  cases t0 : nmOk o.name with
  | false =>
    go_enter Try.func130, Try.ntmps130
    go_wp2_with (go_at_call 70; refine (nameOk_any _ _ (by assumption)).mono ?_; rintro e w' ⟨rfl, rfl⟩)
    go_ret
    exact ⟨rfl, (Below.refl _ _).alloc (Nat.le_refl _) _⟩
  | true =>
  cases t1 : o.to.toList.isEmpty with
  | false =>
    go_enter Try.func130, Try.ntmps130
    go_wp2_with (go_at_call 70; refine (nameOk_any _ _ (by assumption)).mono ?_; rintro e w' ⟨rfl, rfl⟩)
    go_ret
    exact ⟨rfl, (Below.refl _ _).alloc (Nat.le_refl _) _⟩
  | true =>
  cases t2 : o.data.toList.isEmpty with
  | false =>
    go_enter Try.func130, Try.ntmps130
    go_wp2_with (go_at_call 70; refine (nameOk_any _ _ (by assumption)).mono ?_; rintro e w' ⟨rfl, rfl⟩)
    go_ret
    exact ⟨rfl, (Below.refl _ _).alloc (Nat.le_refl _) _⟩
  | true =>
    go_enter Try.func130, Try.ntmps130
    go_wp2_with (go_at_call 70; refine (nameOk_any _ _ (by assumption)).mono ?_; rintro e w' ⟨rfl, rfl⟩)
    go_ret
    exact ⟨rfl, (Below.refl _ _).alloc (Nat.le_refl _) _⟩
theorem findsA (o : OpV) (c : Nat) (w : World) : Calls Try.prog 122 #[o.val, .map (some c)] w fun e w' => e = .returned (.bool true) ∧ Below w.heap.size w w' := by
  unfold OpV.val
  go_enter Try.func122, Try.ntmps122
  go_wp2
  go_ret
  exact ⟨rfl, by first | exact Below.refl _ _ | exact (Below.refl _ _).alloc (Nat.le_refl _) _⟩
theorem findsR (o : OpV) (c n : Nat) (m : List UInt8 → Option Nat) (w : World) (h : MapS w c n m) (hs : o.name.size ≤ maxLen) : Calls Try.prog 126 #[o.val, .map (some c)] w fun e w' => e = .returned (.bool (m (key o.name)).isSome) ∧ Below w.heap.size w w' := by
  unfold OpV.val
  have b0 : Below w.heap.size w (w.alloc (.cells #[.int .i64 o.kind, .string o.name, .string o.to, .string o.data] 110)) := (Below.refl _ w).alloc (Nat.le_refl _) _
  have H := hid (has_any o.name c n m _ (h.below b0) hs)
  clear h
  go_enter Try.func126, Try.ntmps126
  go_wp2_with (go_at_call 124; refine H.out.mono ?_; rintro e w' ⟨rfl, rfl⟩)
  go_ret
  exact ⟨rfl, b0⟩
theorem findsD (o : OpV) (c n : Nat) (m : List UInt8 → Option Nat) (w : World) (h : MapS w c n m) (hs : o.name.size ≤ maxLen) : Calls Try.prog 129 #[o.val, .map (some c)] w fun e w' => e = .returned (.bool (m (key o.name)).isSome) ∧ Below w.heap.size w w' := by
  unfold OpV.val
  have b0 : Below w.heap.size w (w.alloc (.cells #[.int .i64 o.kind, .string o.name, .string o.to, .string o.data] 111)) := (Below.refl _ w).alloc (Nat.le_refl _) _
  have H := hid (has_any o.name c n m _ (h.below b0) hs)
  clear h
  go_enter Try.func129, Try.ntmps129
  go_wp2_with (go_at_call 124; refine H.out.mono ?_; rintro e w' ⟨rfl, rfl⟩)
  go_ret
  exact ⟨rfl, b0⟩
end Go.Proofs.Ytcdhhmedcplblaa
