/- KernelOk of the program answers the plain function kerOk. -/
import Derived.Test.YtaaeeaknjlammaaGreatDoorKB11
import Derived.Test.YtaaeeaknjlammaaGreatDoorKC2
namespace Go.Proofs.YtaaeeaknjlammaaGreatDoor
open Go Go.RowKit Go.Deep Go.Maps

theorem reach_len' {n : Nat} {O : Nat → ObjV} (h : objsOk n O = true) : ((((sortL ((preI (fun i => (O i).id) (fun i => (O i).up) n n 0).map (fun i => (O i).id))).length : Nat) : Int) == (n : Int)) = reachB (fun i => (O i).id) (fun i => (O i).up) n := by
  rw [sortL_len, List.length_map]
  obtain ⟨h1, _⟩ := objsOk_out h
  have hp := pre_full (objsOk_rises h) (ups := fun i => (O i).up) (fun j hj => by have := objsOk_pos h j hj; have := (objsOk_root h).2.2; omega) (by omega)
  rw [Bool.eq_iff_iff, ← hp]
  simp only [beq_iff_eq]
  omega

theorem reach_len {n : Nat} {O : Nat → ObjV} (h : objsOk n O = true) : ∃ L : Nat, (sortL ((preI (fun i => (O i).id) (fun i => (O i).up) n n 0).map (fun i => (O i).id))).length = L ∧ L ≤ 271 ∧ ((L : Int) == (n : Int)) = reachB (fun i => (O i).id) (fun i => (O i).up) n := by
  refine ⟨_, rfl, ?_, reach_len' h⟩
  rw [sortL_len, List.length_map]
  obtain ⟨h1, h2, _⟩ := objsOk_out h
  have := nodup_len (nodup_pre (objsOk_rises h) (ups := fun i => (O i).up) (fun j hj => by have := objsOk_pos h j hj; have := (objsOk_root h).2.2; omega) (f := n) (i := 0) (by omega) noCyc_zero) (fun x hx => ((mem_pre (objsOk_rises h) (ups := fun i => (O i).up) (fun j hj => by have := objsOk_pos h j hj; have := (objsOk_root h).2.2; omega) (by omega)).1 hx).1)
  omega

set_option maxRecDepth 100000 in
set_option maxHeartbeats 4000000 in
theorem boxesOk_any (a : Option Addr) (n cap : Nat) (O : Nat → ObjV) (w : World) (hcap : n ≤ cap) (hO : ObjsAt w a n O) (h2 : objsOk n O = true) (hw : ∀ i, i < n → (Lit.int .i64 (O i).id).wf = true ∧ (Lit.int .i64 (O i).up).wf = true) :
    Calls Tryz.prog 69 #[.slice a n cap] w fun e w' => e = .returned (.bool (upsOk n O && reachB (fun i => (O i).id) (fun i => (O i).up) n)) ∧ Below w.heap.size w w' := by
  obtain ⟨on1, on2, _, _⟩ := objsOk_out h2
  have HO := hid hO
  obtain ⟨ob, off, rfl, _, _⟩ := hO (by omega)
  have HW := hid hw
  have H2 := hid h2
  obtain ⟨L, eL, hL, rL⟩ := reach_len h2
  have EL := hid eL
  have RL := hid rL
  clear eL rL
  clear hO h2 hw
  have C1 := hid (nodesOf_any ob off n cap O w on2 HO.out (objsOk_rises H2.out) HW.out)
  go_enter Tryz.func69, Tryz.ntmps69
  go_wp2_with fail
  refine C1.out.mono ?_
  rintro e w1 ⟨c, nb, kv, rfl, hN, b1⟩
  have HN := hid hN
  clear hN C1
  have END : Hid (∀ wr : World, Below w1.heap.size w1 wr → Calls Tryz.prog 89 #[.map (some c), .int .i64 1] wr fun e w' => ∃ a2 k2, e = .returned (.slice a2 L k2) ∧ Below wr.heap.size wr w') := hid (fun wr hb => by
    have := below_any wr w.heap.size c n (fun i => (O i).id) (fun i => (O i).up) ob off nb kv (HN.out.below hb) (objsOk_rises H2.out) (fun j hj => by have := objsOk_pos H2.out j hj; have := (objsOk_root H2.out).2.2; omega) (fun i hi => (HW.out i hi).1) on2 0 (by omega) noCyc_zero
    rw [(objsOk_root H2.out).1] at this
    refine this.mono ?_
    rintro e w' ⟨v, rfl, o, b⟩
    obtain ⟨a2, k2, rfl⟩ := ownsRow_shape o
    rw [EL.out]
    exact ⟨a2, k2, rfl, b⟩)
  have c1 : (n : Int) ≤ (cap : Int) := by omega
  have c2 : (1 : Int) ≤ (n : Int) := by omega
  by_cases hok : cap = 1
  · obtain rfl : n = 1 := by omega
    subst hok
    go_wp2
    go_loopw [12] (fun i wr => i = .int .i64 0 ∧ Below w1.heap.size w1 wr) (fun i _ => 0)
    case atStart => exact ⟨rfl, Below.refl _ _⟩
    case round =>
      obtain ⟨rfl, hB⟩ := hrel
      go_wp2_with fail
      refine (END.out wr hB).mono ?_
      rintro e w2 ⟨a2, k2, rfl, b2⟩
      go_wp2
      go_ret
      refine ⟨ret_bool ?_, then_ b1 (then_ hB b2)⟩
      rw [← RL.out]
      simp [upsOk]
  · go_wp2
    go_loopw [12] (fun i wr => ∃ q : Nat, q ≤ n - 1 ∧ i = .int .i64 q ∧ Hid (∀ p, p < q → boxAt n O (O (p + 1)).up = true) ∧ Below w1.heap.size w1 wr) (fun i _ => n - 1 - (intOf i).toNat)
    case atStart => exact ⟨0, Nat.zero_le _, rfl, hid (fun p hp => by omega), Below.refl _ _⟩
    case round =>
      obtain ⟨q, hq, rfl, HA, hB⟩ := hrel
      by_cases hlt2 : q < n - 1
      · obtain ⟨_, _, ea, hlt0, hcc⟩ := (HO.out.below b1).below hB (by omega)
        cases ea
        obtain ⟨⟨q0, q1, q2, q3, q4, q5, q6, q7, q8, q9⟩, ht⟩ := hcc (q + 1) (by omega)
        have ei : off + (q + 1) * 10 = off + 10 + q * 10 := by omega
        rw [ei] at q0 q1 q2 q3 q4 q5 q6 q7 q8 q9
        have i2 : (q : Int) < ((n - 1 : Nat) : Int) := by omega
        simp only [CatL.val, IntL.val, StrL.val] at q4 q6 q7 q9
        have bC : Below wr.heap.size wr (wr.alloc (.cells #[.int .i64 (O (q + 1)).id, .int .i64 (O (q + 1)).kind, .int .i64 (O (q + 1)).up, .int .i64 (O (q + 1)).b1, .slice (O (q + 1)).c1.a (O (q + 1)).c1.n (O (q + 1)).c1.k, .string (O (q + 1)).data, .slice (O (q + 1)).items.a (O (q + 1)).items.n (O (q + 1)).items.k, .slice (O (q + 1)).own.a (O (q + 1)).own.n (O (q + 1)).own.k, .int .i64 (O (q + 1)).b2, .slice (O (q + 1)).c2.a (O (q + 1)).c2.n (O (q + 1)).c2.k] 60)) := (Below.refl _ wr).alloc (Nat.le_refl _) _
        have BC := then_ hB bC
        have N1 := hid (HN.out.below BC)
        have LK := N1.out.map.look (x := (O (q + 1)).up) (HW.out (q + 1) (by omega)).2
        cases hf : findI (fun i => (O i).id) n (O (q + 1)).up with
        | none =>
          have BO : Hid (boxAt n O (O (q + 1)).up = false) := hid (by simp [boxAt, hf])
          rw [hf] at LK
          simp only [Option.map_none] at LK
          clear hcc ht ei hf
          go_wp2
          go_ret
          exact ⟨ret_bool (by rw [upsOk, all_at hlt2 BO.out]; rfl), then_ b1 BC⟩
        | some u =>
          obtain ⟨hu, _⟩ := findI_some hf
          have BO : Hid (boxAt n O (O (q + 1)).up = ((O u).kind == 3)) := hid (by simp [boxAt, hf])
          rw [hf] at LK
          simp only [Option.map_some] at LK
          have k1 := (hcc u hu).1.c1
          have k2 := (bC.cell (p := ⟨ob, off + u * 10 + 1, none⟩) hlt0).trans k1
          have n1 : _ = some (Value.pointer (some ⟨ob, off + u * 10, none⟩)) := (N1.out.blk u hu).c0 0 rfl
          clear hcc ht ei hf k1
          cases c3 : ((O u).kind == 3) with
          | false =>
            rw [c3] at BO
            have c3' : ¬ (O u).kind = 3 := by simpa using c3
            go_wp2
            go_ret
            exact ⟨ret_bool (by rw [upsOk, all_at hlt2 BO.out]; rfl), then_ b1 BC⟩
          | true =>
            rw [c3] at BO
            have c3' : (O u).kind = 3 := by simpa using c3
            rw [c3'] at k2
            clear c3
            go_wp2
            refine ⟨⟨q + 1, by omega, by go_num, hid (fun p hp => ?_), BC⟩, by simp [intOf]; omega⟩
            by_cases e : p = q
            · subst e; exact BO.out
            · exact HA.out p (by omega)
      · have e : q = n - 1 := by omega
        subst e
        go_wp2_with fail
        refine (END.out wr hB).mono ?_
        rintro e w2 ⟨a2, k2, rfl, b2⟩
        go_wp2
        go_ret
        refine ⟨ret_bool ?_, then_ b1 (then_ hB b2)⟩
        rw [upsOk, all_yes HA.out, Bool.true_and, ← RL.out]
end Go.Proofs.YtaaeeaknjlammaaGreatDoor
