/- Where an object or a thread stands: l3Find and l3Thread of the model. -/
import Derived.Test.YtaaeeaknjlammaaGreatDoorZB
import Derived.Test.YtaaeeaknjlammaaGreatDoorKC1
namespace Go.Proofs.YtaaeeaknjlammaaGreatDoor
open Go Go.RowKit Go.Deep

def idxI : Option Nat → Int
  | none => -1
  | some j => j
theorem findI_first {ids : Nat → Int} {n k : Nat} {x : Int} (hk : k < n) (he : ids k = x) (h : ∀ j, j < k → ids j ≠ x) : findI ids n x = some k := by
  unfold findI
  rw [List.find?_range_eq_some]
  exact ⟨by simpa using he, List.mem_range.2 hk, fun j hj => by simpa using h j hj⟩
theorem findI_no {ids : Nat → Int} {n : Nat} {x : Int} (h : ∀ j, j < n → ids j ≠ x) : findI ids n x = none := by
  unfold findI
  rw [List.find?_eq_none]
  intro j hj
  simpa using h j (List.mem_range.1 hj)

set_option maxRecDepth 100000 in
set_option maxHeartbeats 2000000 in
theorem l3Find_any (k : KerV) (x : Int) (w : World) (hk : k.at w) :
    Calls Tryz.prog 48 #[k.val, .int .i64 x] w fun e w' => e = .returned (.int .i64 (idxI (findI (fun i => (k.O i).id) k.on x))) ∧ Below w.heap.size w w' := by
  have hb0 := (Below.refl _ w).alloc (Nat.le_refl _) (.cells #[.slice k.ta k.tn k.tk, .slice k.oa k.on k.ok] 35)
  have A0 := Blk.new w (.cells #[.slice k.ta k.tn k.tk, .slice k.oa k.on k.ok] 35)
  have HT := hid (hk.below hb0)
  have hn := hk.2.1
  unfold maxLen at hn
  unfold KerV.val
  obtain ⟨x0, x1⟩ := A0.two
  clear hk A0
  go_enter Tryz.func48, Tryz.ntmps48
  go_wp2
  generalize w.alloc (.cells #[.slice k.ta k.tn k.tk, .slice k.oa k.on k.ok] 35) = W at *
  go_loop [5] (fun i => ∃ q : Nat, q ≤ k.on ∧ i = .int .i64 q ∧ Hid (∀ j, j < q → (k.O j).id ≠ x)) (fun i => k.on - (intOf i).toNat)
  case atStart => exact ⟨0, Nat.zero_le _, rfl, hid (fun j hj => by omega)⟩
  case round =>
    obtain ⟨q, hq, rfl, HA⟩ := hrel
    by_cases hlt : q < k.on
    · obtain ⟨b, off, ea, _, hcc⟩ := HT.out.2.2.2 (by omega)
      have q0 := (hcc q hlt).1.c0
      have i1 : (q : Int) < (k.on : Int) := by omega
      rw [ea] at x1
      clear hcc ea
      by_cases e : (k.O q).id = x
      · have HF := hid (findI_first (ids := fun i => (k.O i).id) hlt e HA.out)
        have e' : ((k.O q).id == x) = true := by simpa using e
        clear e HA
        go_wp2
        go_ret
        exact ⟨ret_int (by rw [HF.out]; rfl), hb0⟩
      · have e' : ((k.O q).id == x) = false := by simpa using e
        have HA2 : Hid (∀ j, j < q + 1 → (k.O j).id ≠ x) := hid (fun j hj => by
          by_cases ej : j = q
          · subst ej; exact e
          · exact HA.out j (by omega))
        clear e HA
        go_wp2
        exact ⟨⟨q + 1, by omega, by go_num, HA2⟩, by simp [intOf]; omega⟩
    · have i1 : ¬ (q : Int) < (k.on : Int) := by omega
      have HF := hid (findI_no (ids := fun i => (k.O i).id) (n := k.on) (x := x) (fun j hj => HA.out j (by omega)))
      clear HA
      go_wp2
      go_ret
      exact ⟨ret_int (by rw [HF.out]; rfl), hb0⟩

set_option maxRecDepth 100000 in
set_option maxHeartbeats 2000000 in
theorem l3Thread_any (k : KerV) (x : Int) (w : World) (hk : k.at w) :
    Calls Tryz.prog 47 #[k.val, .int .i64 x] w fun e w' => e = .returned (.int .i64 (idxI (findI (fun i => (k.T i).id) k.tn x))) ∧ Below w.heap.size w w' := by
  have hb0 := (Below.refl _ w).alloc (Nat.le_refl _) (.cells #[.slice k.ta k.tn k.tk, .slice k.oa k.on k.ok] 35)
  have A0 := Blk.new w (.cells #[.slice k.ta k.tn k.tk, .slice k.oa k.on k.ok] 35)
  have HT := hid (hk.below hb0)
  have hn := hk.1
  unfold maxLen at hn
  unfold KerV.val
  obtain ⟨x0, x1⟩ := A0.two
  clear hk A0
  go_enter Tryz.func47, Tryz.ntmps47
  go_wp2
  generalize w.alloc (.cells #[.slice k.ta k.tn k.tk, .slice k.oa k.on k.ok] 35) = W at *
  go_loop [5] (fun i => ∃ q : Nat, q ≤ k.tn ∧ i = .int .i64 q ∧ Hid (∀ j, j < q → (k.T j).id ≠ x)) (fun i => k.tn - (intOf i).toNat)
  case atStart => exact ⟨0, Nat.zero_le _, rfl, hid (fun j hj => by omega)⟩
  case round =>
    obtain ⟨q, hq, rfl, HA⟩ := hrel
    by_cases hlt : q < k.tn
    · obtain ⟨b, off, ea, _, hcc⟩ := HT.out.2.2.1 (by omega)
      have q0 := (hcc q hlt).1.c0
      have i1 : (q : Int) < (k.tn : Int) := by omega
      rw [ea] at x0
      clear hcc ea
      by_cases e : (k.T q).id = x
      · have HF := hid (findI_first (ids := fun i => (k.T i).id) hlt e HA.out)
        have e' : ((k.T q).id == x) = true := by simpa using e
        clear e HA
        go_wp2
        go_ret
        exact ⟨ret_int (by rw [HF.out]; rfl), hb0⟩
      · have e' : ((k.T q).id == x) = false := by simpa using e
        have HA2 : Hid (∀ j, j < q + 1 → (k.T j).id ≠ x) := hid (fun j hj => by
          by_cases ej : j = q
          · subst ej; exact e
          · exact HA.out j (by omega))
        clear e HA
        go_wp2
        exact ⟨⟨q + 1, by omega, by go_num, HA2⟩, by simp [intOf]; omega⟩
    · have i1 : ¬ (q : Int) < (k.tn : Int) := by omega
      have HF := hid (findI_no (ids := fun i => (k.T i).id) (n := k.tn) (x := x) (fun j hj => HA.out j (by omega)))
      clear HA
      go_wp2
      go_ret
      exact ⟨ret_int (by rw [HF.out]; rfl), hb0⟩
end Go.Proofs.YtaaeeaknjlammaaGreatDoor
