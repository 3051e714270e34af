/- Objects by themselves: objectOk of the program answers the plain function objOk. -/
import Derived.Test.YtimacbpfnkephaaKB1
namespace Go.Proofs.Ytimacbpfnkephaa
open Go.RowKit Go.Deep

theorem natz (n : Nat) : ((n : Int) == 0) = (n == 0) := by
  by_cases e : n = 0
  · subst e; rfl
  · have e1 : (n == 0) = false := by simpa using e
    rw [e1]; simp; omega
theorem labOk_v (b : Int) (c : CatL) (w : World) (hc : c.at w) :
    Calls Try.prog 40 #[.agg #[.int .i64 b, c.val]] w fun e w' => e = .returned (.bool (labOk b c.n c.f c.g)) ∧ Below w.heap.size w w' := implOk_any b c.a c.n c.k c.f c.g w hc.1 hc.2
theorem ownOk_v (c : IntL) (w : World) (hc : c.at w) :
    Calls Try.prog 41 #[c.val] w fun e w' => e = .returned (.bool (ownOk c.n c.h)) ∧ w' = w := ownsOk_any c.a c.n c.k c.h w hc.1 hc.2
theorem items_v (c : StrL) (w : World) (hc : c.at w) :
    Calls Try.prog 45 #[c.val] w fun e w' => e = .returned (.bool (itemsB c.n c.f)) ∧ Below w.heap.size w w' := itemsOk_any c.a c.n c.k c.f w hc.1 hc.2.1 hc.2.2
theorem zero_v (b : Int) (c : CatL) (w : World) (hc : c.at w) :
    Calls Try.prog 46 #[.agg #[.int .i64 b, c.val]] w fun e w' => e = .returned (.bool (zeroB b c.n)) ∧ Below w.heap.size w w' := isZero_any b c.a c.n c.k w hc.1

set_option maxRecDepth 100000 in
set_option maxHeartbeats 4000000 in
theorem objectOk_any (t : ObjV) (w : World) (ht : t.at w) :
    Calls Try.prog 35 #[t.val] w fun e w' => e = .returned (.bool (objOk t)) ∧ Below w.heap.size w w' := by
  have hb0 := (Below.refl _ w).alloc (Nat.le_refl _) (.cells #[.int .i64 t.id, .int .i64 t.kind, .int .i64 t.up, .int .i64 t.b1, t.c1.val, .string t.data, t.items.val, t.own.val, .int .i64 t.b2, t.c2.val] 37)
  have A0 := Blk.new w (.cells #[.int .i64 t.id, .int .i64 t.kind, .int .i64 t.up, .int .i64 t.b1, t.c1.val, .string t.data, t.items.val, t.own.val, .int .i64 t.b2, t.c2.val] 37)
  have T0 := hid (ht.below hb0)
  unfold ObjV.val
  obtain ⟨x0, x1, x2, x3, x4, x5, x6, x7, x8, x9⟩ := A0.ten
  clear ht
  go_enter Try.func35, Try.ntmps35
  go_wp2_with fail
  refine (labOk_v _ t.c1 _ T0.out.1).mono ?_
  rintro e w1 ⟨rfl, hb1⟩
  have A1 := A0.below hb1
  have T1 := hid (T0.out.below hb1)
  have B1 := then_ hb0 hb1
  clear x0 x1 x2 x3 x4 x5 x6 x7 x8 x9 A0 T0 hb0 hb1
  obtain ⟨x0, x1, x2, x3, x4, x5, x6, x7, x8, x9⟩ := A1.ten
  cases t1 : labOk t.b1 t.c1.n t.c1.f t.c1.g with
  | false =>
    go_wp2
    go_ret
    exact ⟨ret_bool (by simp [objOk, t1]), B1⟩
  | true =>
  go_wp2_with fail
  refine (labOk_v _ t.c2 _ T1.out.2.2.2.1).mono ?_
  rintro e w2 ⟨rfl, hb2⟩
  have A2 := A1.below hb2
  have T2 := hid (T1.out.below hb2)
  have B2 := then_ B1 hb2
  clear x0 x1 x2 x3 x4 x5 x6 x7 x8 x9 A1 T1 B1 hb2
  obtain ⟨x0, x1, x2, x3, x4, x5, x6, x7, x8, x9⟩ := A2.ten
  cases t2 : labOk t.b2 t.c2.n t.c2.f t.c2.g with
  | false =>
    go_wp2
    go_ret
    exact ⟨ret_bool (by simp [objOk, t2]), B2⟩
  | true =>
  go_wp2_with fail
  refine (ownOk_v t.own _ T2.out.2.2.1).mono ?_
  rintro e w3 ⟨rfl, rfl⟩
  cases t3 : ownOk t.own.n t.own.h with
  | false =>
    go_wp2
    go_ret
    exact ⟨ret_bool (by simp [objOk, t3]), B2⟩
  | true =>
  go_wp2_with fail
  refine (isData_any t.data _ T2.out.2.2.2.2).mono ?_
  rintro e w4 ⟨rfl, hb4⟩
  have A4 := A2.below hb4
  have T4 := hid (T2.out.below hb4)
  have B4 := then_ B2 hb4
  clear x0 x1 x2 x3 x4 x5 x6 x7 x8 x9 A2 T2 B2 hb4
  obtain ⟨x0, x1, x2, x3, x4, x5, x6, x7, x8, x9⟩ := A4.ten
  cases t4 : plainB t.data 40 with
  | false =>
    go_wp2
    go_ret
    exact ⟨ret_bool (by simp [objOk, t4]), B4⟩
  | true =>
  go_wp2_with fail
  refine (items_v t.items _ T4.out.2.1).mono ?_
  rintro e w5 ⟨rfl, hb5⟩
  have A5 := A4.below hb5
  have T5 := hid (T4.out.below hb5)
  have B5 := then_ B4 hb5
  clear x0 x1 x2 x3 x4 x5 x6 x7 x8 x9 A4 T4 B4 hb5
  obtain ⟨x0, x1, x2, x3, x4, x5, x6, x7, x8, x9⟩ := A5.ten
  cases t5 : itemsB t.items.n t.items.f with
  | false =>
    go_wp2
    go_ret
    exact ⟨ret_bool (by simp [objOk, t5]), B5⟩
  | true =>
  have OK : Hid (objOk t = kindB t) := hid (by simp [objOk, t1, t2, t3, t4, t5])
  clear t1 t2 t3 t4 t5
  unfold StrL.val at x6
  go_wp2_with fail
  have hn5 := T5.out.2.1.1
  unfold maxLen at hn5
  go_quiet (fail)
  unfold IntL.val at x7
  have hn6 := T5.out.2.2.1.1
  unfold maxLen at hn6
  have Z := hid (zero_v t.b2 t.c2 _ (T5.out.below (below_drewN (Below.refl _ w5) nq)).2.2.2.1)
  have B6 := below_drewN B5 nq
  go_wp2_with (go_at_call 46; refine Z.out.mono ?_; rintro e w6 ⟨rfl, hb6⟩; have x1' := (hb6.cell (p := ⟨w.heap.size, 1, none⟩) A5.lt).trans x1; have B7 := then_ B6 hb6)
  all_goals
    go_ret
    refine ⟨ret_bool ?_, by assumption⟩
    rw [OK.out]
    first
    | (simp_all [kindB]; done)
    | (simp_all [kindB]; exact natz _)
end Go.Proofs.Ytimacbpfnkephaa
