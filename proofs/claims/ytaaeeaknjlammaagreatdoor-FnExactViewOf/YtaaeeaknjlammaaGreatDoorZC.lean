/- Texts put together. -/
import Derived.Test.YtaaeeaknjlammaaGreatDoorZB
import Derived.Test.YtaaeeaknjlammaaGreatDoorHA
import Derived.Test.YtaaeeaknjlammaaGreatDoorHB
/- Objects by themselves: objectOk of the program answers the plain function objOk. -/
namespace Go.Proofs.YtaaeeaknjlammaaGreatDoor
open Go.RowKit Go.Deep

def itemsB (n : Nat) (f : Nat → ByteArray) : Bool := decide (n ≤ 8) && (List.range n).all (fun i => plainB (f i) 40)
theorem itemsB_len {n : Nat} {f : Nat → ByteArray} (e : 8 < n) : itemsB n f = false := by
  have : decide (n ≤ 8) = false := by simp; omega
  simp [itemsB, this]
theorem itemsB_at {n k : Nat} {f : Nat → ByteArray} (hk : k < n) (e : plainB (f k) 40 = false) : itemsB n f = false := by
  have : (List.range n).all (fun i => plainB (f i) 40) = false := by
    rw [List.all_eq_false]; exact ⟨k, List.mem_range.2 hk, by simp [e]⟩
  simp [itemsB, this]
theorem itemsB_all {n : Nat} {f : Nat → ByteArray} (e : ∀ i, i < n → plainB (f i) 40 = true) : itemsB n f = decide (n ≤ 8) := by
  have : (List.range n).all (fun i => plainB (f i) 40) = true := by
    rw [List.all_eq_true]; intro i hi; exact e i (List.mem_range.1 hi)
  simp [itemsB, this]
theorem itemsB_out {n : Nat} {f : Nat → ByteArray} (e : itemsB n f = true) : n ≤ 8 ∧ ∀ i, i < n → plainB (f i) 40 = true := by
  simp only [itemsB, Bool.and_eq_true, decide_eq_true_eq, List.all_eq_true, List.mem_range] at e
  exact e

set_option maxRecDepth 100000 in
set_option maxHeartbeats 2000000 in
theorem itemsOk_any (a : Option Addr) (n cap : Nat) (f : Nat → ByteArray) (w : World) (hn : n ≤ maxLen) (hc : StrAt w a n f) (hz : ∀ i, i < n → (f i).size ≤ maxLen) :
    Calls Tryz.prog 101 #[.slice a n cap] w fun e w' => e = .returned (.bool (itemsB n f)) ∧ Below w.heap.size w w' := by
  unfold maxLen at hn
  have HC := hid hc
  have HZ := hid hz
  clear hc hz
  by_cases h8 : 8 < n
  · have h8' : (8 : Int) < (n : Int) := by omega
    go_enter Tryz.func101, Tryz.ntmps101
    go_wp2
    go_ret
    exact ⟨ret_bool (itemsB_len h8).symm, Below.refl _ _⟩
  · have h8' : ¬ (8 : Int) < (n : Int) := by omega
    go_enter Tryz.func101, Tryz.ntmps101
    go_wp2
    go_loopw [10] (fun i wr => ∃ k : Nat, k ≤ n ∧ i = .int .i64 k ∧ Hid (∀ j, j < k → plainB (f j) 40 = true) ∧ Below w.heap.size w wr) (fun i _ => n - (intOf i).toNat)
    case atStart => exact ⟨0, Nat.zero_le _, rfl, hid (fun j hj => by omega), Below.refl _ _⟩
    case round =>
      obtain ⟨k, hk, rfl, HA, hB⟩ := hrel
      by_cases hlt : k < n
      · obtain ⟨b, off, rfl, hlt0, hcc⟩ := HC.out.below hB (by omega)
        have g1 := hcc k hlt
        have z := HZ.out k hlt
        have i1 : (k : Int) < (n : Int) := by omega
        clear hcc
        go_wp2_with fail
        refine (isData_any _ _ z).mono ?_
        rintro e w1 ⟨rfl, hb1⟩
        have B1 := then_ hB hb1
        clear g1
        by_cases t : plainB (f k) 40 = true
        · have HA2 : Hid (∀ j, j < k + 1 → plainB (f j) 40 = true) := hid (fun j hj => by
            by_cases e : j = k
            · subst e; exact t
            · exact HA.out j (by omega))
          go_wp2
          exact ⟨⟨k + 1, by omega, by go_num, HA2, B1⟩, by simp [intOf]; omega⟩
        · have t' : plainB (f k) 40 = false := by simpa using t
          clear t
          go_wp2
          go_ret
          exact ⟨ret_bool (itemsB_at hlt t').symm, B1⟩
      · go_wp2
        go_ret
        have e : k = n := by omega
        subst e
        exact ⟨ret_bool (by rw [itemsB_all HA.out]; simp; omega), hB⟩

/-- what an object of its kind may not have -/
def kindB (t : ObjV) : Bool :=
  if t.kind = 1 then t.items.n == 0 && (t.own.n == 0 && zeroB t.b2 t.c2.n)
  else if t.kind = 2 then t.data.toList.isEmpty && (t.own.n == 0 && zeroB t.b2 t.c2.n)
  else if t.kind = 3 then t.data.toList.isEmpty && t.items.n == 0 && (t.own.n == 0 && zeroB t.b2 t.c2.n)
  else if t.kind = 4 then t.data.toList.isEmpty && t.items.n == 0
  else false
def objOk (t : ObjV) : Bool := labOk t.b1 t.c1.n t.c1.f t.c1.g && labOk t.b2 t.c2.n t.c2.f t.c2.g && ownOk t.own.n t.own.h && plainB t.data 40 && itemsB t.items.n t.items.f && kindB t
end Go.Proofs.YtaaeeaknjlammaaGreatDoor

/- Objects by themselves: objectOk of the program answers the plain function objOk. -/
namespace Go.Proofs.YtaaeeaknjlammaaGreatDoor
open Go.RowKit Go.Deep

theorem natz (n : Nat) : ((n : Int) == 0) = (n == 0) := by
  by_cases e : n = 0
  · subst e; rfl
  · have e1 : (n == 0) = false := by simpa using e
    rw [e1]; simp; omega
theorem labOk_v (b : Int) (c : CatL) (w : World) (hc : c.at w) :
    Calls Tryz.prog 55 #[.agg #[.int .i64 b, c.val]] w fun e w' => e = .returned (.bool (labOk b c.n c.f c.g)) ∧ Below w.heap.size w w' := implOk_any b c.a c.n c.k c.f c.g w hc.1 hc.2
theorem ownOk_v (c : IntL) (w : World) (hc : c.at w) :
    Calls Tryz.prog 93 #[c.val] w fun e w' => e = .returned (.bool (ownOk c.n c.h)) ∧ w' = w := ownsOk_any c.a c.n c.k c.h w hc.1 hc.2
theorem items_v (c : StrL) (w : World) (hc : c.at w) :
    Calls Tryz.prog 101 #[c.val] w fun e w' => e = .returned (.bool (itemsB c.n c.f)) ∧ Below w.heap.size w w' := itemsOk_any c.a c.n c.k c.f w hc.1 hc.2.1 hc.2.2
theorem zero_v (b : Int) (c : CatL) (w : World) (hc : c.at w) :
    Calls Tryz.prog 102 #[.agg #[.int .i64 b, c.val]] w fun e w' => e = .returned (.bool (zeroB b c.n)) ∧ Below w.heap.size w w' := isZero_any b c.a c.n c.k w hc.1

set_option maxRecDepth 100000 in
set_option maxHeartbeats 4000000 in
theorem objectOk_any (t : ObjV) (w : World) (ht : t.at w) :
    Calls Tryz.prog 88 #[t.val] w fun e w' => e = .returned (.bool (objOk t)) ∧ Below w.heap.size w w' := by
  have hb0 := (Below.refl _ w).alloc (Nat.le_refl _) (.cells #[.int .i64 t.id, .int .i64 t.kind, .int .i64 t.up, .int .i64 t.b1, t.c1.val, .string t.data, t.items.val, t.own.val, .int .i64 t.b2, t.c2.val] 60)
  have A0 := Blk.new w (.cells #[.int .i64 t.id, .int .i64 t.kind, .int .i64 t.up, .int .i64 t.b1, t.c1.val, .string t.data, t.items.val, t.own.val, .int .i64 t.b2, t.c2.val] 60)
  have T0 := hid (ht.below hb0)
  unfold ObjV.val
  obtain ⟨x0, x1, x2, x3, x4, x5, x6, x7, x8, x9⟩ := A0.ten
  clear ht
  go_enter Tryz.func88, Tryz.ntmps88
  go_wp2_with fail
  refine (labOk_v _ t.c1 _ T0.out.1).mono ?_
  rintro e w1 ⟨rfl, hb1⟩
  have A1 := A0.below hb1
  have T1 := hid (T0.out.below hb1)
  have B1 := then_ hb0 hb1
  clear x0 x1 x2 x3 x4 x5 x6 x7 x8 x9 A0 T0 hb0 hb1
  obtain ⟨x0, x1, x2, x3, x4, x5, x6, x7, x8, x9⟩ := A1.ten
  cases t1 : labOk t.b1 t.c1.n t.c1.f t.c1.g with
  | false =>
    go_wp2
    go_ret
    exact ⟨ret_bool (by simp [objOk, t1]), B1⟩
  | true =>
  go_wp2_with fail
  refine (labOk_v _ t.c2 _ T1.out.2.2.2.1).mono ?_
  rintro e w2 ⟨rfl, hb2⟩
  have A2 := A1.below hb2
  have T2 := hid (T1.out.below hb2)
  have B2 := then_ B1 hb2
  clear x0 x1 x2 x3 x4 x5 x6 x7 x8 x9 A1 T1 B1 hb2
  obtain ⟨x0, x1, x2, x3, x4, x5, x6, x7, x8, x9⟩ := A2.ten
  cases t2 : labOk t.b2 t.c2.n t.c2.f t.c2.g with
  | false =>
    go_wp2
    go_ret
    exact ⟨ret_bool (by simp [objOk, t2]), B2⟩
  | true =>
  go_wp2_with fail
  refine (ownOk_v t.own _ T2.out.2.2.1).mono ?_
  rintro e w3 ⟨rfl, rfl⟩
  cases t3 : ownOk t.own.n t.own.h with
  | false =>
    go_wp2
    go_ret
    exact ⟨ret_bool (by simp [objOk, t3]), B2⟩
  | true =>
  go_wp2_with fail
  refine (isData_any t.data _ T2.out.2.2.2.2).mono ?_
  rintro e w4 ⟨rfl, hb4⟩
  have A4 := A2.below hb4
  have T4 := hid (T2.out.below hb4)
  have B4 := then_ B2 hb4
  clear x0 x1 x2 x3 x4 x5 x6 x7 x8 x9 A2 T2 B2 hb4
  obtain ⟨x0, x1, x2, x3, x4, x5, x6, x7, x8, x9⟩ := A4.ten
  cases t4 : plainB t.data 40 with
  | false =>
    go_wp2
    go_ret
    exact ⟨ret_bool (by simp [objOk, t4]), B4⟩
  | true =>
  go_wp2_with fail
  refine (items_v t.items _ T4.out.2.1).mono ?_
  rintro e w5 ⟨rfl, hb5⟩
  have A5 := A4.below hb5
  have T5 := hid (T4.out.below hb5)
  have B5 := then_ B4 hb5
  clear x0 x1 x2 x3 x4 x5 x6 x7 x8 x9 A4 T4 B4 hb5
  obtain ⟨x0, x1, x2, x3, x4, x5, x6, x7, x8, x9⟩ := A5.ten
  cases t5 : itemsB t.items.n t.items.f with
  | false =>
    go_wp2
    go_ret
    exact ⟨ret_bool (by simp [objOk, t5]), B5⟩
  | true =>
  have OK : Hid (objOk t = kindB t) := hid (by simp [objOk, t1, t2, t3, t4, t5])
  clear t1 t2 t3 t4 t5
  unfold StrL.val at x6
  go_wp2_with fail
  have hn5 := T5.out.2.1.1
  unfold maxLen at hn5
  go_quiet (fail)
  unfold IntL.val at x7
  have hn6 := T5.out.2.2.1.1
  unfold maxLen at hn6
  have Z := hid (zero_v t.b2 t.c2 _ (T5.out.below (below_drewN (Below.refl _ w5) nq)).2.2.2.1)
  have B6 := below_drewN B5 nq
  go_wp2_with (go_at_call 102; refine Z.out.mono ?_; rintro e w6 ⟨rfl, hb6⟩; have x1' := (hb6.cell (p := ⟨w.heap.size, 1, none⟩) A5.lt).trans x1; have B7 := then_ B6 hb6)
  all_goals
    go_ret
    refine ⟨ret_bool ?_, by assumption⟩
    rw [OK.out]
    first
    | (simp_all [kindB]; done)
    | (simp_all [kindB]; exact natz _)
end Go.Proofs.YtaaeeaknjlammaaGreatDoor

/- Objects by themselves: l3Object of the model answers the plain function objOk. -/
namespace Go.Proofs.YtaaeeaknjlammaaGreatDoor
open Go.RowKit Go.Deep

theorem sLabOk_v (b : Int) (c : CatL) (w : World) (hc : c.at w) :
    Calls Tryz.prog 19 #[.agg #[.int .i64 b, c.val]] w fun e w' => e = .returned (.bool (labOk b c.n c.f c.g)) ∧ Below w.heap.size w w' := specOk_any b c.a c.n c.k c.f c.g w hc.1 hc.2
theorem sOwn_v (c : IntL) (w : World) (hc : c.at w) :
    Calls Tryz.prog 72 #[c.val] w fun e w' => e = .returned (.bool (ownOk c.n c.h)) ∧ Below w.heap.size w w' := l2Owns_any c.a c.n c.k c.h w hc.1 hc.2

set_option maxRecDepth 100000 in
set_option maxHeartbeats 4000000 in
theorem l3Object_any (t : ObjV) (w : World) (ht : t.at w) :
    Calls Tryz.prog 46 #[t.val] w fun e w' => e = .returned (.bool (objOk t)) ∧ Below w.heap.size w w' := by
  have hb0 := (Below.refl _ w).alloc (Nat.le_refl _) (.cells #[.int .i64 t.id, .int .i64 t.kind, .int .i64 t.up, .int .i64 t.b1, t.c1.val, .string t.data, t.items.val, t.own.val, .int .i64 t.b2, t.c2.val] 60)
  have A0 := Blk.new w (.cells #[.int .i64 t.id, .int .i64 t.kind, .int .i64 t.up, .int .i64 t.b1, t.c1.val, .string t.data, t.items.val, t.own.val, .int .i64 t.b2, t.c2.val] 60)
  have T0 := hid (ht.below hb0)
  unfold ObjV.val
  obtain ⟨x0, x1, x2, x3, x4, x5, x6, x7, x8, x9⟩ := A0.ten
  clear ht
  go_enter Tryz.func46, Tryz.ntmps46
  go_wp2_with fail
  refine (sLabOk_v _ t.c1 _ T0.out.1).mono ?_
  rintro e w1 ⟨rfl, hb1⟩
  have A1 := A0.below hb1
  have T1 := hid (T0.out.below hb1)
  have B1 := then_ hb0 hb1
  clear x0 x1 x2 x3 x4 x5 x6 x7 x8 x9 A0 T0 hb0 hb1
  obtain ⟨x0, x1, x2, x3, x4, x5, x6, x7, x8, x9⟩ := A1.ten
  cases t1 : labOk t.b1 t.c1.n t.c1.f t.c1.g with
  | false =>
    go_wp2
    go_ret
    exact ⟨ret_bool (by simp [objOk, t1]), B1⟩
  | true =>
  go_wp2_with fail
  refine (sLabOk_v _ t.c2 _ T1.out.2.2.2.1).mono ?_
  rintro e w2 ⟨rfl, hb2⟩
  have A2 := A1.below hb2
  have T2 := hid (T1.out.below hb2)
  have B2 := then_ B1 hb2
  clear x0 x1 x2 x3 x4 x5 x6 x7 x8 x9 A1 T1 B1 hb2
  obtain ⟨x0, x1, x2, x3, x4, x5, x6, x7, x8, x9⟩ := A2.ten
  cases t2 : labOk t.b2 t.c2.n t.c2.f t.c2.g with
  | false =>
    go_wp2
    go_ret
    exact ⟨ret_bool (by simp [objOk, t2]), B2⟩
  | true =>
  go_wp2_with fail
  refine (sOwn_v t.own _ T2.out.2.2.1).mono ?_
  rintro e w3 ⟨rfl, hb3⟩
  have A3 := A2.below hb3
  have T3 := hid (T2.out.below hb3)
  have B3 := then_ B2 hb3
  clear x0 x1 x2 x3 x4 x5 x6 x7 x8 x9 A2 T2 B2 hb3
  obtain ⟨x0, x1, x2, x3, x4, x5, x6, x7, x8, x9⟩ := A3.ten
  cases t3 : ownOk t.own.n t.own.h with
  | false =>
    go_wp2
    go_ret
    exact ⟨ret_bool (by simp [objOk, t3]), B3⟩
  | true =>
  unfold StrL.val at x6
  have hn5 := T3.out.2.1.1
  unfold maxLen at hn5
  by_cases h8 : 8 < t.items.n
  · have h8' : (8 : Int) < (t.items.n : Int) := by omega
    go_wp2
    go_ret
    exact ⟨ret_bool (by simp [objOk, itemsB_len h8]), B3⟩
  have h8' : ¬ (8 : Int) < (t.items.n : Int) := by omega
  go_wp2_with fail
  refine (l3Plain_any t.data _ _ T3.out.2.2.2.2).mono ?_
  rintro e w4 ⟨rfl, rfl⟩
  cases t4 : plainB t.data 40 with
  | false =>
    go_wp2
    go_ret
    exact ⟨ret_bool (by simp [objOk, t4]), B3⟩
  | true =>
  have OK : Hid (itemsB t.items.n t.items.f = true → objOk t = kindB t) := hid (fun t5 => by simp [objOk, t1, t2, t3, t4, t5])
  clear t1 t2 t3 t4
  go_wp2
  go_loop [3] (fun i => ∃ k : Nat, k ≤ t.items.n ∧ i = .int .i64 k ∧ Hid (∀ j, j < k → plainB (t.items.f j) 40 = true)) (fun i => t.items.n - (intOf i).toNat)
  case atStart => exact ⟨0, Nat.zero_le _, rfl, hid (fun j hj => by omega)⟩
  case round =>
    obtain ⟨k, hk, rfl, HA⟩ := hrel
    by_cases hlt : k < t.items.n
    · obtain ⟨b, off, ea, hlt0, hcc⟩ := T3.out.2.1.2.1 (by omega)
      rw [ea] at x6
      have g1 := hcc k hlt
      have z := T3.out.2.1.2.2 k hlt
      have i1 : (k : Int) < (t.items.n : Int) := by omega
      clear hcc ea
      go_wp2_with fail
      refine (l3Plain_any _ _ _ z).mono ?_
      rintro e w5 ⟨rfl, rfl⟩
      clear g1
      by_cases t5 : plainB (t.items.f k) 40 = true
      · have HA2 : Hid (∀ j, j < k + 1 → plainB (t.items.f j) 40 = true) := hid (fun j hj => by
          by_cases e : j = k
          · subst e; exact t5
          · exact HA.out j (by omega))
        go_wp2
        exact ⟨⟨k + 1, by omega, by go_num, HA2⟩, by simp [intOf]; omega⟩
      · have t' : plainB (t.items.f k) 40 = false := by simpa using t5
        clear t5
        go_wp2
        go_ret
        exact ⟨ret_bool (by simp [objOk, itemsB_at hlt t']), B3⟩
    · have e : k = t.items.n := by omega
      have OK2 := hid (OK.out (by rw [itemsB_all (by rw [← e]; exact HA.out)]; simp; omega))
      clear e OK HA
      unfold IntL.val at x7
      unfold CatL.val at x9
      have hn6 := T3.out.2.2.1.1
      have hn7 := T3.out.2.2.2.1.1
      unfold maxLen at hn6 hn7
      go_wp2
      all_goals
        go_ret
        refine ⟨ret_bool ?_, by assumption⟩
        rw [OK2.out]
        clear OK2 h8' x0 x1 x2 x3 x4 x5 x6 x7 x8 x9
        first
        | (simp_all [kindB, zeroB, natz]; done)
        | (simp_all [kindB, zeroB]; exact natz _)
end Go.Proofs.YtaaeeaknjlammaaGreatDoor
