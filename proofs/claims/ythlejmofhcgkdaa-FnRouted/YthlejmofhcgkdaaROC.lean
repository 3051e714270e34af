/- The order of routes. -/
import Derived.Test.YthlejmofhcgkdaaROB
namespace Go.Proofs.Ythlejmofhcgkdaa
open Go Go.RowKit Go.Deep

def cmpI (a b : Int) : Int := if a < b then -1 else if b < a then 1 else 0
def orI (p q : Int) : Int := if p = 0 then (if q = 0 then 0 else q) else p
theorem nan_any (a : Int) (w : World) : Calls Try.prog 41 #[.int .i64 a] w fun e w' => e = .returned (.bool false) ∧ w' = w := by
  go_enter Try.func41, Try.ntmps41
  go_wp2
  go_ret
  exact ⟨rfl, rfl⟩
set_option maxHeartbeats 1000000 in
theorem cmp_any (a b : Int) (w : World) : Calls Try.prog 36 #[.int .i64 a, .int .i64 b] w fun e w' => e = .returned (.int .i64 (cmpI a b)) ∧ w' = w := by
  by_cases h1 : a < b
  · have E : Hid (cmpI a b = -1) := by show _ = _; rw [cmpI, if_pos h1]
    go_enter Try.func36, Try.ntmps36
    go_wp2_with (go_at_call 41; refine (nan_any _ _).mono ?_; rintro e w1 ⟨rfl, hw1⟩; subst w1)
    go_ret
    exact ⟨ret_int E.out.symm, rfl⟩
  by_cases h2 : b < a
  · have E : Hid (cmpI a b = 1) := by show _ = _; rw [cmpI, if_neg h1, if_pos h2]
    go_enter Try.func36, Try.ntmps36
    go_wp2_with (go_at_call 41; refine (nan_any _ _).mono ?_; rintro e w1 ⟨rfl, hw1⟩; subst w1)
    go_ret
    exact ⟨ret_int E.out.symm, rfl⟩
  · have E : Hid (cmpI a b = 0) := by show _ = _; rw [cmpI, if_neg h1, if_neg h2]
    go_enter Try.func36, Try.ntmps36
    go_wp2_with (go_at_call 41; refine (nan_any _ _).mono ?_; rintro e w1 ⟨rfl, hw1⟩; subst w1)
    go_ret
    exact ⟨ret_int E.out.symm, rfl⟩
set_option maxHeartbeats 1000000 in
theorem or_any (p q : Int) (b : Nat) (w : World) (h0 : w.cell? ⟨b, 0, none⟩ = some (.int .i64 p)) (h1 : w.cell? ⟨b, 1, none⟩ = some (.int .i64 q)) :
    Calls Try.prog 37 #[.slice (some ⟨b, 0, none⟩) 2 2] w fun e w' => e = .returned (.int .i64 (orI p q)) ∧ w' = w := by
  go_enter Try.func37, Try.ntmps37
  go_wp2
  go_loop [8] (fun i => ∃ k : Nat, k ≤ 2 ∧ i = .int .i64 k ∧ (0 < k → p = 0) ∧ (1 < k → q = 0)) (fun i => 2 - (intOf i).toNat)
  case atStart => exact ⟨0, by omega, rfl, by omega, by omega⟩
  case round =>
    obtain ⟨k, hk, rfl, hp, hq⟩ := hrel
    have h3 : k = 0 ∨ k = 1 ∨ k = 2 := by omega
    rcases h3 with rfl | rfl | rfl
    · by_cases e : p = 0
      · subst e
        go_wp2
        exact ⟨⟨1, by omega, rfl, fun _ => trivial, by omega⟩, by simp [intOf]⟩
      · have E : Hid (orI p q = p) := by show _ = _; rw [orI, if_neg e]
        clear hp hq
        go_wp2
        go_ret
        exact ⟨ret_int E.out.symm, rfl⟩
    · have hp0 := hp (by omega)
      subst hp0
      by_cases e : q = 0
      · subst e
        go_wp2
        exact ⟨⟨2, by omega, rfl, fun _ => trivial, fun _ => trivial⟩, by simp [intOf]⟩
      · have E : Hid (orI 0 q = q) := by show _ = _; rw [orI, if_pos rfl, if_neg e]
        clear hp hq
        go_wp2
        go_ret
        exact ⟨ret_int E.out.symm, rfl⟩
    · have hp0 := hp (by omega)
      have hq0 := hq (by omega)
      subst hp0 hq0
      clear hp hq
      go_wp2
      go_ret
      exact ⟨rfl, rfl⟩

theorem or_new (p q : Int) (w : World) : Calls Try.prog 37 #[.slice (some ⟨w.heap.size, 0, none⟩) 2 2] (w.alloc (.cells #[.int .i64 p, .int .i64 q] 3)) fun e w' => e = .returned (.int .i64 (orI p q)) ∧ w' = w.alloc (.cells #[.int .i64 p, .int .i64 q] 3) :=
  or_any p q w.heap.size _ (by simp) (by simp)
/-- which of two routes comes first -/
def ordR (x y x' y' : Int) : Int := orI (cmpI x x') (cmpI y y')
set_option maxRecDepth 100000 in
set_option maxHeartbeats 2000000 in
theorem order_any (x y z x' y' z' : Int) (w : World) : Calls Try.prog 30 #[.agg #[.int .i64 x, .int .i64 y, .int .i64 z], .agg #[.int .i64 x', .int .i64 y', .int .i64 z']] w fun e w' => e = .returned (.int .i64 (ordR x y x' y')) ∧ Below w.heap.size w w' := by
  have L0 := ((Below.refl _ w).alloc (Nat.le_refl _) (.cells #[.int .i64 x, .int .i64 y, .int .i64 z] 29)).alloc (by simp) (.cells #[.int .i64 x', .int .i64 y', .int .i64 z'] 29)
  have C1 := hid (fun w => cmp_any x x' w)
  have C2 := hid (fun w => cmp_any y y' w)
  have E : Hid (ordR x y x' y' = orI (cmpI x x') (cmpI y y')) := rfl
  generalize cmpI x x' = p at *
  generalize cmpI y y' = q at *
  have HO : Hid (Calls Try.prog 37 #[.slice (some ⟨w.heap.size + 1 + 1, 0, none⟩) 2 2] (((w.alloc (.cells #[.int .i64 x, .int .i64 y, .int .i64 z] 29)).alloc (.cells #[.int .i64 x', .int .i64 y', .int .i64 z'] 29)).alloc (.cells #[.int .i64 p, .int .i64 q] 3)).drew fun e w' => e = .returned (.int .i64 (orI p q)) ∧ w' = (((w.alloc (.cells #[.int .i64 x, .int .i64 y, .int .i64 z] 29)).alloc (.cells #[.int .i64 x', .int .i64 y', .int .i64 z'] 29)).alloc (.cells #[.int .i64 p, .int .i64 q] 3)).drew) := by
    refine or_any p q _ _ ?_ ?_ <;> simp [go_sem]
  have n1 : ¬ w.heap.size = w.heap.size + 1 := by omega
  have n2 : ¬ w.heap.size + 1 = w.heap.size := by omega
  go_enter Try.func30, Try.ntmps30
  go_wp2
  go_region_held3 (fun w' => w'.cell? ⟨w.heap.size, 0, none⟩ = some (.int .i64 x) ∧ w'.cell? ⟨w.heap.size, 1, none⟩ = some (.int .i64 y) ∧ w'.cell? ⟨w.heap.size + 1, 0, none⟩ = some (.int .i64 x') ∧ w'.cell? ⟨w.heap.size + 1, 1, none⟩ = some (.int .i64 y')) (go_keep)
    (first
    | (go_at_call 37; refine HO.out.mono ?_; rintro e w3 ⟨rfl, hw3⟩; subst w3)
    | (go_at_call 36; have mk' := mk; refine (C2.out _).mono ?_; rintro e w2 ⟨rfl, hw2⟩; subst w2)
    | (go_at_call 36; refine (C1.out _).mono ?_; rintro e w1 ⟨rfl, hw1⟩; subst w1; have mk : True := trivial))
  go_wp2
  go_ret
  exact ⟨ret_int E.out.symm, (L0.alloc (by simp; omega) _).drew⟩
end Go.Proofs.Ythlejmofhcgkdaa
