/- slices.BinarySearchFunc over routes. -/
import Derived.Test.YthlejmofhcgkdaaROPA
namespace Go.Proofs.Ythlejmofhcgkdaa
open Go Go.RowKit Go.Deep Go.BigFrame

set_option maxRecDepth 100000 in
theorem beside_any (x y z t : Int) (w : World) : Calls Try.prog 23 #[.agg #[.int .i64 x, .int .i64 y, .int .i64 z], .int .i64 t] w fun e w' => e = .returned (.int .i64 (cmpI x t)) ∧ Below w.heap.size w w' := by
  have L0 := (Below.refl _ w).alloc (Nat.le_refl _) (.cells #[.int .i64 x, .int .i64 y, .int .i64 z] 29)
  go_enter Try.func23, Try.ntmps23
  go_wp2_with (go_at_call 36; refine (cmp_any x t _).mono ?_; rintro e w2 ⟨rfl, h2⟩; subst w2)
  go_ret
  exact ⟨rfl, L0⟩

theorem RtsAt.load {w wr : World} {a : Option Addr} {n k : Nat} {f g h : Nat → Int} (H : RtsAt w a n f g h) (hB : Below w.heap.size w wr) (hk : k < n) :
    ∃ b off, a = some ⟨b, off, none⟩ ∧ b < wr.heap.size ∧ wr.cell? ⟨b, off + k * 3, none⟩ = some (.int .i64 (f k)) ∧ wr.cell? ⟨b, off + k * 3 + 1, none⟩ = some (.int .i64 (g k)) ∧ wr.cell? ⟨b, off + k * 3 + 2, none⟩ = some (.int .i64 (h k)) := by
  obtain ⟨b, off, rfl, hlt, hc⟩ := H (by omega)
  obtain ⟨h1, h2, h3⟩ := hc k hk
  exact ⟨b, off, rfl, Nat.lt_of_lt_of_le hlt hB.size, (hB.cell (p := ⟨b, _, none⟩) hlt).trans h1, (hB.cell (p := ⟨b, _, none⟩) hlt).trans h2, (hB.cell (p := ⟨b, _, none⟩) hlt).trans h3⟩

set_option maxRecDepth 100000 in
set_option maxHeartbeats 2000000 in
theorem search27_any (a : Option Addr) (n cap : Nat) (f g h : Nat → Int) (t : Int) (s : Nat) (w : World) (hn : n ≤ 20) (H : RtsAt w a n f g h) (hs : s ≤ n)
    (lo : ∀ j, j < s → cmpI (f j) t < 0) (hi : ∀ j, s ≤ j → j < n → ¬ cmpI (f j) t < 0) :
    Calls Try.prog 21 #[.slice a n cap, .int .i64 t, .func (.func 23) #[] #[]] w fun e w' => e = .returned (.tuple #[.int .i64 s, .bool (decide (s < n) && (cmpI (f s) t == 0))]) ∧ Below w.heap.size w w' := by
  have LO := hid lo
  have HI := hid hi
  have HL := hid (fun wr (hB : Below w.heap.size w wr) k (hk : k < n) => H.load hB hk)
  clear lo hi H
  go_enter Try.func21, Try.ntmps21
  go_wp2
  go_loopw [9, 10, 11] (fun i j _ wr => ∃ p q : Nat, p ≤ s ∧ s ≤ q ∧ q ≤ n ∧ i = .int .i64 p ∧ j = .int .i64 q ∧ Below w.heap.size w wr) (fun i j _ _ => (intOf j).toNat - (intOf i).toNat)
  case atStart => exact ⟨0, n, Nat.zero_le _, hs, Nat.le_refl _, rfl, rfl, Below.refl _ _⟩
  case round =>
    obtain ⟨p, q, hp, hq, hqn, rfl, rfl, hB⟩ := hrel
    by_cases hlt : p < q
    · have F := hid (fun (k : Nat) w => beside_any (f k) (g k) (h k) t w)
      have em : wrap64 (IntKind.u64.wrap (wrap64 ((p : Int) + (q : Int))) / 2) = (((p + q) / 2 : Nat) : Int) := by
        have h1 : wrap64 ((p : Int) + (q : Int)) = (p : Int) + (q : Int) := by unfold wrap64; omega
        rw [h1]
        have h2 : IntKind.u64.wrap ((p : Int) + (q : Int)) = (p : Int) + (q : Int) := by
          simp [IntKind.wrap, IntKind.bits, IntKind.signed]
          omega
        rw [h2]; unfold wrap64; omega
      obtain ⟨b, off, rfl, hz, c1, c2, c3⟩ := HL.out wr hB ((p + q) / 2) (by omega)
      have F := hid (fun w => beside_any (f ((p + q) / 2)) (g ((p + q) / 2)) (h ((p + q) / 2)) t w)
      by_cases hc : cmpI (f ((p + q) / 2)) t < 0
      · have hlow : (p + q) / 2 < s := by
          rcases Nat.lt_or_ge ((p + q) / 2) s with h1 | h1
          · exact h1
          · have := HI.out _ h1 (by omega); omega
        have HLOW := hid hlow
        clear hlow
        go_wp2_with (go_at_call 23; refine (F.out _).mono ?_; rintro e w2 ⟨rfl, h2⟩)
        exact ⟨⟨(p + q) / 2 + 1, q, HLOW.out, hq, hqn, by rw [show (((p + q) / 2 + 1 : Nat) : Int) = ((p : Int) + (q : Int)) / 2 + 1 by omega], rfl, then_ hB h2⟩, by simp [intOf]; omega⟩
      · have hlow : s ≤ (p + q) / 2 := by
          rcases Nat.lt_or_ge ((p + q) / 2) s with h1 | h1
          · exact absurd (LO.out _ h1) hc
          · exact h1
        have HLOW := hid hlow
        clear hlow
        go_wp2_with (go_at_call 23; refine (F.out _).mono ?_; rintro e w2 ⟨rfl, h2⟩)
        exact ⟨⟨p, (p + q) / 2, hp, HLOW.out, by omega, rfl, by rw [show (((p + q) / 2 : Nat) : Int) = ((p : Int) + (q : Int)) / 2 by omega], then_ hB h2⟩, by simp [intOf]; omega⟩
    · have ep : p = s := by omega
      subst ep
      by_cases hpn : p < n
      · obtain ⟨b, off, rfl, hz, c1, c2, c3⟩ := HL.out wr hB p hpn
        have F := hid (fun w => beside_any (f p) (g p) (h p) t w)
        have d0 : decide ((p : Int) < (n : Int)) = true := decide_eq_true (by omega)
        go_wp2_with (go_at_call 23; refine (F.out _).mono ?_; rintro e w2 ⟨rfl, h2⟩)
        go_ret2
        refine ⟨?_, then_ hB h2⟩
        rw [decide_eq_true hpn, Bool.true_and]
        rfl
      · have d0 : decide ((p : Int) < (n : Int)) = false := decide_eq_false (by omega)
        go_wp2
        go_ret2
        refine ⟨?_, hB⟩
        rw [decide_eq_false hpn, Bool.false_and]
        rfl
set_option maxRecDepth 100000 in
set_option maxHeartbeats 2000000 in
theorem search30_any (a : Option Addr) (n cap : Nat) (f g h : Nat → Int) (t u v : Int) (s : Nat) (w : World) (hn : n ≤ 20) (H : RtsAt w a n f g h) (hs : s ≤ n)
    (lo : ∀ j, j < s → ordR (f j) (g j) t u < 0) (hi : ∀ j, s ≤ j → j < n → ¬ ordR (f j) (g j) t u < 0) :
    Calls Try.prog 29 #[.slice a n cap, .agg #[.int .i64 t, .int .i64 u, .int .i64 v], .func (.func 30) #[] #[]] w fun e w' => e = .returned (.tuple #[.int .i64 s, .bool (decide (s < n) && (ordR (f s) (g s) t u == 0))]) ∧ Below w.heap.size w w' := by
  have LO := hid lo
  have HI := hid hi
  have L0 := (Below.refl _ w).alloc (Nat.le_refl _) (.cells #[.int .i64 t, .int .i64 u, .int .i64 v] 29)
  have hv : w.heap.size < (w.alloc (.cells #[.int .i64 t, .int .i64 u, .int .i64 v] 29)).heap.size := by rw [World.size_alloc]; omega
  have B1 := up_cell hv (show (w.alloc (.cells #[.int .i64 t, .int .i64 u, .int .i64 v] 29)).cell? ⟨w.heap.size, 0, none⟩ = some (.int .i64 t) by simp)
  have B2 := up_cell hv (show (w.alloc (.cells #[.int .i64 t, .int .i64 u, .int .i64 v] 29)).cell? ⟨w.heap.size, 1, none⟩ = some (.int .i64 u) by simp)
  have B3 := up_cell hv (show (w.alloc (.cells #[.int .i64 t, .int .i64 u, .int .i64 v] 29)).cell? ⟨w.heap.size, 2, none⟩ = some (.int .i64 v) by simp)
  have HL := hid (fun wr (hB : Below (w.alloc (.cells #[.int .i64 t, .int .i64 u, .int .i64 v] 29)).heap.size (w.alloc (.cells #[.int .i64 t, .int .i64 u, .int .i64 v] 29)) wr) k (hk : k < n) => (H.below L0).load hB hk)
  clear lo hi H
  go_enter Try.func29, Try.ntmps29
  go_wp2
  go_loopw [9, 10, 11] (fun i j _ wr => ∃ p q : Nat, p ≤ s ∧ s ≤ q ∧ q ≤ n ∧ i = .int .i64 p ∧ j = .int .i64 q ∧ Below (w.alloc (.cells #[.int .i64 t, .int .i64 u, .int .i64 v] 29)).heap.size (w.alloc (.cells #[.int .i64 t, .int .i64 u, .int .i64 v] 29)) wr) (fun i j _ _ => (intOf j).toNat - (intOf i).toNat)
  case atStart => exact ⟨0, n, Nat.zero_le _, hs, Nat.le_refl _, rfl, rfl, Below.refl _ _⟩
  case round =>
    obtain ⟨p, q, hp, hq, hqn, rfl, rfl, hB⟩ := hrel
    have b1 := B1 ⟨wr, hB⟩
    have b2 := B2 ⟨wr, hB⟩
    have b3 := B3 ⟨wr, hB⟩
    have hw : w.heap.size < wr.heap.size := Nat.lt_of_lt_of_le hv hB.size
    have v1 := up_cell hw b1
    have v2 := up_cell hw b2
    have v3 := up_cell hw b3
    clear b1 b2 b3
    by_cases hlt : p < q
    · have F := hid (fun (k : Nat) w => order_any (f k) (g k) (h k) t u v w)
      have em : wrap64 (IntKind.u64.wrap (wrap64 ((p : Int) + (q : Int))) / 2) = (((p + q) / 2 : Nat) : Int) := by
        have h1 : wrap64 ((p : Int) + (q : Int)) = (p : Int) + (q : Int) := by unfold wrap64; omega
        rw [h1]
        have h2 : IntKind.u64.wrap ((p : Int) + (q : Int)) = (p : Int) + (q : Int) := by
          simp [IntKind.wrap, IntKind.bits, IntKind.signed]
          omega
        rw [h2]; unfold wrap64; omega
      obtain ⟨b, off, rfl, hz, c1, c2, c3⟩ := HL.out wr hB ((p + q) / 2) (by omega)
      have F := hid (fun w => order_any (f ((p + q) / 2)) (g ((p + q) / 2)) (h ((p + q) / 2)) t u v w)
      by_cases hc : ordR (f ((p + q) / 2)) (g ((p + q) / 2)) t u < 0
      · have hlow : (p + q) / 2 < s := by
          rcases Nat.lt_or_ge ((p + q) / 2) s with h1 | h1
          · exact h1
          · have := HI.out _ h1 (by omega); omega
        have HLOW := hid hlow
        clear hlow
        have u1 := up_cell hz c1
        have u2 := up_cell hz c2
        have u3 := up_cell hz c3
        go_wp2
        refine wp_region_quiet_up (by kernel_rfl) (by kernel_rfl) ?_
        repeat (go_big_quiet_step (first | (go_at_call 30; exact up_of (F.out _))))
        refine wpQuiet_nil ?_
        rintro _ ⟨P, rfl⟩
        go_wp2
        exact ⟨⟨(p + q) / 2 + 1, q, HLOW.out, hq, hqn, by rw [show (((p + q) / 2 + 1 : Nat) : Int) = ((p : Int) + (q : Int)) / 2 + 1 by omega], rfl, then_ hB P.h⟩, by simp [intOf]; omega⟩
      · have hlow : s ≤ (p + q) / 2 := by
          rcases Nat.lt_or_ge ((p + q) / 2) s with h1 | h1
          · exact absurd (LO.out _ h1) hc
          · exact h1
        have HLOW := hid hlow
        clear hlow
        have u1 := up_cell hz c1
        have u2 := up_cell hz c2
        have u3 := up_cell hz c3
        go_wp2
        refine wp_region_quiet_up (by kernel_rfl) (by kernel_rfl) ?_
        repeat (go_big_quiet_step (first | (go_at_call 30; exact up_of (F.out _))))
        refine wpQuiet_nil ?_
        rintro _ ⟨P, rfl⟩
        go_wp2
        exact ⟨⟨p, (p + q) / 2, hp, HLOW.out, by omega, rfl, by rw [show (((p + q) / 2 : Nat) : Int) = ((p : Int) + (q : Int)) / 2 by omega], then_ hB P.h⟩, by simp [intOf]; omega⟩
    · have ep : p = s := by omega
      subst ep
      by_cases hpn : p < n
      · obtain ⟨b, off, rfl, hz, c1, c2, c3⟩ := HL.out wr hB p hpn
        have F := hid (fun w => order_any (f p) (g p) (h p) t u v w)
        have d0 : decide ((p : Int) < (n : Int)) = true := decide_eq_true (by omega)
        have u1 := up_cell hz c1
        have u2 := up_cell hz c2
        have u3 := up_cell hz c3
        go_wp2
        refine wp_region_quiet_up (by kernel_rfl) (by kernel_rfl) ?_
        repeat (go_big_quiet_step (first | (go_at_call 30; exact up_of (F.out _))))
        refine wpQuiet_nil ?_
        rintro _ ⟨P, rfl⟩
        go_wp2
        go_ret2
        refine ⟨?_, then_ L0 (then_ hB P.h)⟩
        rw [decide_eq_true hpn, Bool.true_and]
        rfl
      · have F := hid (fun w => order_any (f p) (g p) (h p) t u v w)
        have d0 : decide ((p : Int) < (n : Int)) = false := decide_eq_false (by omega)
        go_wp2
        refine wp_region_quiet_up (by kernel_rfl) (by kernel_rfl) ?_
        repeat (go_big_quiet_step (first | (go_at_call 30; exact up_of (F.out _))))
        refine wpQuiet_nil ?_
        rintro _ ⟨P, rfl⟩
        go_wp2
        go_ret2
        refine ⟨?_, then_ L0 (then_ hB P.h)⟩
        rw [decide_eq_false hpn, Bool.false_and]
        rfl
end Go.Proofs.Ythlejmofhcgkdaa
