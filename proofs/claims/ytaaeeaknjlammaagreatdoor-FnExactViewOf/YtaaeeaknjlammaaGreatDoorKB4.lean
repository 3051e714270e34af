/- Kernels: threadsOk and objectsOk of the program answer plain functions. -/
import Derived.Test.YtaaeeaknjlammaaGreatDoorZC
import Derived.Test.YtaaeeaknjlammaaGreatDoorKC1
namespace Go.Proofs.YtaaeeaknjlammaaGreatDoor
open Go.RowKit Go.Deep

def thrOkV (t : ThrV) : Bool := thrOk t.id t.made t.b1 t.c1.n t.c1.f t.c1.g t.b2 t.c2.n t.c2.f t.c2.g t.own.n t.own.h
theorem implThr_v (t : ThrV) (w : World) (ht : t.at w) :
    Calls Tryz.prog 81 #[t.val] w fun e w' => e = .returned (.bool (thrOkV t)) ∧ Below w.heap.size w w' := implThr_any _ _ _ _ _ _ _ _ _ _ _ _ _ _ _ _ _ _ w ht.1.1 ht.2.1.1 ht.2.2.1 ht.1.2 ht.2.1.2 ht.2.2.2
def thrAt (T : Nat → ThrV) (i : Nat) : Bool := thrOkV (T i) && (i == 0 || decide ((T (i - 1)).id < (T i).id))
def thrsOk (n : Nat) (T : Nat → ThrV) : Bool := decide (1 ≤ n) && decide (n ≤ 9) && (List.range n).all (thrAt T)
def objAt (O : Nat → ObjV) (i : Nat) : Bool := objOk (O i) && (if i = 0 then decide (0 < (O 0).id) else decide ((O (i - 1)).id < (O i).id))
def rootB (t : ObjV) : Bool := t.id == 1 && t.kind == 3 && t.up == 0
def objsOk (n : Nat) (O : Nat → ObjV) : Bool := decide (1 ≤ n) && decide (n ≤ 271) && (List.range n).all (objAt O) && rootB (O 0)

theorem all_at {n k : Nat} {p : Nat → Bool} (hk : k < n) (e : p k = false) : (List.range n).all p = false := by
  rw [List.all_eq_false]; exact ⟨k, List.mem_range.2 hk, by simp [e]⟩
theorem all_yes {n : Nat} {p : Nat → Bool} (e : ∀ i, i < n → p i = true) : (List.range n).all p = true := by
  rw [List.all_eq_true]; intro i hi; exact e i (List.mem_range.1 hi)
theorem all_out {n : Nat} {p : Nat → Bool} (e : (List.range n).all p = true) : ∀ i, i < n → p i = true := fun i hi => List.all_eq_true.1 e i (List.mem_range.2 hi)

theorem thrOk_id {t : ThrV} (h : thrOkV t = true) : 1 ≤ t.id ∧ t.id ≤ 9 := by
  unfold thrOkV thrOk at h
  simp only [Bool.and_eq_true] at h
  exact inB_iff.1 (by simp_all)
theorem thrAt_no {T : Nat → ThrV} {k : Nat} (h : thrOkV (T k) = true) (e : (T k).id ≤ lastOf (fun i => (T i).id) k) : thrAt T k = false := by
  have h1 := thrOk_id h
  by_cases e0 : k = 0
  · subst e0; simp [lastOf] at e; omega
  · simp [lastOf, e0] at e
    have : decide ((T (k - 1)).id < (T k).id) = false := by simp; omega
    simp [thrAt, e0, this]
theorem thrAt_yes {T : Nat → ThrV} {k : Nat} (h : thrOkV (T k) = true) (e : ¬ (T k).id ≤ lastOf (fun i => (T i).id) k) : thrAt T k = true := by
  by_cases e0 : k = 0
  · subst e0; simp [thrAt, h]
  · simp [lastOf, e0] at e
    simp [thrAt, h, e]
theorem objAt_no {O : Nat → ObjV} {k : Nat} (e : (O k).id ≤ lastOf (fun i => (O i).id) k) : objAt O k = false := by
  by_cases e0 : k = 0
  · subst e0; simp [lastOf] at e; simp [objAt]; intro _; omega
  · simp [lastOf, e0] at e
    have : decide ((O (k - 1)).id < (O k).id) = false := by simp; omega
    simp [objAt, e0, this]
theorem objAt_yes {O : Nat → ObjV} {k : Nat} (h : objOk (O k) = true) (e : ¬ (O k).id ≤ lastOf (fun i => (O i).id) k) : objAt O k = true := by
  by_cases e0 : k = 0
  · subst e0; simp [lastOf] at e; simp [objAt, h, e]
  · simp [lastOf, e0] at e
    simp [objAt, h, e, e0]

def ThrV.blk (t : ThrV) : Obj := .cells #[.int .i64 t.id, .int .i64 t.b1, t.c1.val, .int .i64 t.b2, t.c2.val, t.own.val, .int .i64 t.made] 54
theorem Blk.c0 {W : World} {P t : Nat} {cs : Array Value} (h : Blk W P (.cells cs t)) (i : Nat) {v : Value} (hv : cs[i]? = some v) : W.cell? ⟨P, i, none⟩ = some v := by
  unfold Blk at h
  simp [World.cell?, h, hv]

set_option maxRecDepth 100000 in
set_option maxHeartbeats 4000000 in
theorem threadsOk_any (a : Option Addr) (n cap : Nat) (T : Nat → ThrV) (w : World) (hn : n ≤ maxLen) (hT : ThrsAt w a n T) :
    Calls Tryz.prog 66 #[.slice a n cap] w fun e w' => e = .returned (.bool (thrsOk n T)) ∧ Below w.heap.size w w' := by
  unfold maxLen at hn
  have HT := hid hT
  clear hT
  by_cases h1 : n < 1
  · have h1' : (n : Int) < 1 := by omega
    go_enter Tryz.func66, Tryz.ntmps66
    go_wp2
    go_ret
    have : n = 0 := by omega
    exact ⟨ret_bool (by simp [thrsOk, this]), Below.refl _ _⟩
  have h1' : ¬ (n : Int) < 1 := by omega
  by_cases h9 : 9 < n
  · have h9' : (9 : Int) < (n : Int) := by omega
    go_enter Tryz.func66, Tryz.ntmps66
    go_wp2
    go_ret
    have : decide (n ≤ 9) = false := by simp; omega
    exact ⟨ret_bool (by simp [thrsOk, this]), Below.refl _ _⟩
  have h9' : ¬ (9 : Int) < (n : Int) := by omega
  go_enter Tryz.func66, Tryz.ntmps66
  go_wp2
  go_loopw [3, 16] (fun l i wr => ∃ k : Nat, k ≤ n ∧ i = .int .i64 k ∧ l = .int .i64 (lastOf (fun i => (T i).id) k) ∧ Hid (∀ j, j < k → thrAt T j = true) ∧ Below w.heap.size w wr) (fun _ i _ => n - (intOf i).toNat)
  case atStart => exact ⟨0, Nat.zero_le _, rfl, rfl, hid (fun j hj => by omega), Below.refl _ _⟩
  case round =>
    obtain ⟨k, hk, rfl, rfl, HA, hB⟩ := hrel
    by_cases hlt : k < n
    · obtain ⟨b, off, rfl, hlt0, hcc⟩ := HT.out.below hB (by omega)
      obtain ⟨⟨q0, q1, q2, q3, q4, q5, q6⟩, ht⟩ := hcc k hlt
      have i1 : (k : Int) < (n : Int) := by omega
      have b1 : Below wr.heap.size wr (wr.alloc (T k).blk) := (Below.refl _ wr).alloc (Nat.le_refl _) _
      have SZ := hid (implThr_v (T k) _ (ht.below b1))
      have A0 := Blk.new wr (T k).blk
      have B0 := then_ hB b1
      simp only [CatL.val, IntL.val, ThrV.blk, ThrV.val] at q2 q4 q5 SZ A0 b1 B0
      clear hcc ht
      go_wp2_with fail
      refine SZ.out.mono ?_
      rintro e w2 ⟨rfl, hb2⟩
      have A2 := A0.below hb2
      have x0 := A2.c0 0 rfl
      have B2 := then_ B0 hb2
      clear q0 q1 q2 q3 q4 q5 q6 SZ hb2 A0 B0 b1 hlt0
      cases t1 : thrOkV (T k) with
      | false =>
        go_wp2
        go_ret
        exact ⟨ret_bool (by rw [thrsOk, all_at hlt (by simp [thrAt, t1])]; simp), B2⟩
      | true =>
        by_cases t2 : (T k).id ≤ lastOf (fun i => (T i).id) k
        · go_wp2
          go_ret
          exact ⟨ret_bool (by rw [thrsOk, all_at hlt (thrAt_no t1 t2)]; simp), B2⟩
        · have HA2 : Hid (∀ j, j < k + 1 → thrAt T j = true) := hid (fun j hj => by
            by_cases e : j = k
            · subst e; exact thrAt_yes t1 t2
            · exact HA.out j (by omega))
          go_wp2
          exact ⟨⟨k + 1, by omega, by go_num, by rw [lastOf_succ], HA2, B2⟩, by simp [intOf]; omega⟩
    · go_wp2
      go_ret
      have e : k = n := by omega
      subst e
      refine ⟨ret_bool ?_, hB⟩
      rw [thrsOk, all_yes HA.out]; simp; omega

set_option maxRecDepth 100000 in
set_option maxHeartbeats 4000000 in
theorem objectsOk_any (a : Option Addr) (n cap : Nat) (O : Nat → ObjV) (w : World) (hn : n ≤ maxLen) (hT : ObjsAt w a n O) :
    Calls Tryz.prog 67 #[.slice a n cap] w fun e w' => e = .returned (.bool (objsOk n O)) ∧ Below w.heap.size w w' := by
  unfold maxLen at hn
  have HT := hid hT
  clear hT
  by_cases h1 : n < 1
  · have h1' : (n : Int) < 1 := by omega
    go_enter Tryz.func67, Tryz.ntmps67
    go_wp2
    go_ret
    have : n = 0 := by omega
    exact ⟨ret_bool (by simp [objsOk, this]), Below.refl _ _⟩
  have h1' : ¬ (n : Int) < 1 := by omega
  by_cases h9 : 271 < n
  · have h9' : (271 : Int) < (n : Int) := by omega
    go_enter Tryz.func67, Tryz.ntmps67
    go_wp2
    go_ret
    have : decide (n ≤ 271) = false := by simp; omega
    exact ⟨ret_bool (by simp [objsOk, this]), Below.refl _ _⟩
  have h9' : ¬ (271 : Int) < (n : Int) := by omega
  go_enter Tryz.func67, Tryz.ntmps67
  go_wp2
  go_loopw [3, 17] (fun l i wr => ∃ k : Nat, k ≤ n ∧ i = .int .i64 k ∧ l = .int .i64 (lastOf (fun i => (O i).id) k) ∧ Hid (∀ j, j < k → objAt O j = true) ∧ Below w.heap.size w wr) (fun _ i _ => n - (intOf i).toNat)
  case atStart => exact ⟨0, Nat.zero_le _, rfl, rfl, hid (fun j hj => by omega), Below.refl _ _⟩
  case round =>
    obtain ⟨k, hk, rfl, rfl, HA, hB⟩ := hrel
    by_cases hlt : k < n
    · obtain ⟨b, off, rfl, hlt0, hcc⟩ := HT.out.below hB (by omega)
      obtain ⟨⟨q0, q1, q2, q3, q4, q5, q6, q7, q8, q9⟩, ht⟩ := hcc k hlt
      have i1 : (k : Int) < (n : Int) := by omega
      have b1 : Below wr.heap.size wr (wr.alloc (.cells #[.int .i64 (O k).id, .int .i64 (O k).kind, .int .i64 (O k).up, .int .i64 (O k).b1, (O k).c1.val, .string (O k).data, (O k).items.val, (O k).own.val, .int .i64 (O k).b2, (O k).c2.val] 60)) := (Below.refl _ wr).alloc (Nat.le_refl _) _
      have SZ := hid (objectOk_any (O k) _ (ht.below b1))
      have A0 := Blk.new wr (.cells #[.int .i64 (O k).id, .int .i64 (O k).kind, .int .i64 (O k).up, .int .i64 (O k).b1, (O k).c1.val, .string (O k).data, (O k).items.val, (O k).own.val, .int .i64 (O k).b2, (O k).c2.val] 60)
      have B0 := then_ hB b1
      simp only [CatL.val, IntL.val, StrL.val, ObjV.val] at q4 q6 q7 q9 SZ A0 b1 B0
      clear hcc ht
      go_wp2_with fail
      refine SZ.out.mono ?_
      rintro e w2 ⟨rfl, hb2⟩
      have A2 := A0.below hb2
      have x0 := A2.c0 0 rfl
      have B2 := then_ B0 hb2
      clear q0 q1 q2 q3 q4 q5 q6 q7 q8 q9 SZ hb2 A0 B0 b1 hlt0
      cases t1 : objOk (O k) with
      | false =>
        go_wp2
        go_ret
        exact ⟨ret_bool (by rw [objsOk, all_at hlt (by simp [objAt, t1])]; simp), B2⟩
      | true =>
        by_cases t2 : (O k).id ≤ lastOf (fun i => (O i).id) k
        · go_wp2
          go_ret
          exact ⟨ret_bool (by rw [objsOk, all_at hlt (objAt_no t2)]; simp), B2⟩
        · have HA2 : Hid (∀ j, j < k + 1 → objAt O j = true) := hid (fun j hj => by
            by_cases e : j = k
            · subst e; exact objAt_yes t1 t2
            · exact HA.out j (by omega))
          go_wp2
          exact ⟨⟨k + 1, by omega, by go_num, by rw [lastOf_succ], HA2, B2⟩, by simp [intOf]; omega⟩
    · have e : k = n := by omega
      subst e
      obtain ⟨b, off, rfl, hlt0, hcc⟩ := HT.out.below hB (by omega)
      obtain ⟨⟨q0, q1, q2, q3, q4, q5, q6, q7, q8, q9⟩, ht⟩ := hcc 0 (by omega)
      simp only [Nat.zero_mul, Nat.add_zero] at q0 q1 q2 q3 q4 q5 q6 q7 q8 q9
      have i0 : (0 : Int) < (k : Int) := by omega
      have OK : Hid (objsOk k O = rootB (O 0)) := hid (by
        have d1 : decide (1 ≤ k) = true := by simp; omega
        have d2 : decide (k ≤ 271) = true := by simp; omega
        rw [objsOk, all_yes HA.out, d1, d2]; rfl)
      simp only [CatL.val, IntL.val, StrL.val] at q4 q6 q7 q9
      clear hcc ht HA
      go_wp2
      all_goals
        go_ret
        refine ⟨ret_bool ?_, hB.alloc hB.size _⟩
        rw [OK.out]
        clear q0 q1 q2 q3 q4 q5 q6 q7 q8 q9
        simp_all [rootB]
end Go.Proofs.YtaaeeaknjlammaaGreatDoor
