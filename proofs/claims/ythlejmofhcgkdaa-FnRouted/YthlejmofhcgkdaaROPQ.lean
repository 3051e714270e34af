/- The iterator over the table, from the most bits down. -/
import Derived.Test.YthlejmofhcgkdaaROPM
import Derived.RangeFuncNested
import Derived.RangeFuncBound
import Derived.RangeFuncCalls
import Derived.RangeFuncLeaves
import Derived.RangeFuncFrom
import Derived.Shelf.Abstract
import Derived.Shelf.RegionOpen
import Derived.OwnWalkIn
import Derived.TacticsInMore
import Derived.LoopNIn
import Derived.LoopIn
namespace Go.Proofs.Ythlejmofhcgkdaa
open Go.RowKit Go.Deep Go.Maps Go.Shelf
attribute [local go_sem] Oper.semAt_some

/-- every block of cells and every map lies as it lay -/
structure KeepsAll (W W' : World) : Prop where
  size : W.heap.size ≤ W'.heap.size
  same : ∀ (k : Nat) (o : Obj), W.heap[k]? = some o → (o.isCells = true ∨ o.isWalk = true) → W'.heap[k]? = some o
theorem KeepsAll.refl (W : World) : KeepsAll W W := ⟨Nat.le_refl _, fun _ _ h _ => h⟩
theorem KeepsAll.trans {A B C : World} (h : KeepsAll A B) (k : KeepsAll B C) : KeepsAll A C :=
  ⟨Nat.le_trans h.size k.size, fun i o hi ho => k.same i o (h.same i o hi ho) ho⟩
theorem KeepsAll.book {w : World} (W : World) (l : Nat) (o o' : Obj) (_ : w.heap.size ≤ l) (h : W.heap[l]? = some o) (hc : o.isCells = false) (hw : o.isWalk = false) : KeepsAll W (W.putObj l o') :=
  ⟨by simp, fun k o'' hk ho => by
    by_cases e : k = l
    · subst e; rw [h] at hk; cases hk; rw [hc, hw] at ho; simp at ho
    · exact (World.putObj_heap_other e).trans hk⟩
theorem KeepsAll.of_below {W W' : World} (h : Below W.heap.size W W') : KeepsAll W W' :=
  ⟨h.size, fun k _ hk _ => (h.block k (Array.getElem?_eq_some_iff.1 hk).1).trans hk⟩
theorem KeepsAll.cell {W W' : World} (h : KeepsAll W W') {a : Addr} {v : Value} (hv : W.cell? a = some v) : W'.cell? a = some v := by
  have hv' := hv
  unfold World.cell? at hv
  cases ho : W.heap[a.block]? with
  | none => simp [ho] at hv
  | some o =>
    have hc : o.isCells = true := by cases o <;> simp_all [Obj.isCells]
    have := h.same _ _ ho (.inl hc)
    exact (World.cell?_of_block (this.trans ho.symm)).trans hv'

def downs : Nat → List (Fin 33)
  | 0 => []
  | m + 1 => downs m ++ [⟨32 - m, by omega⟩]
theorem downs_len (m : Nat) : (downs m).length = m := by induction m with
  | zero => rfl
  | succ m ih => simp [downs, ih]

theorem backward_any (b n cap : Nat) (w : World) :
    Calls Try.prog 20 #[.slice (some ⟨b, 0, none⟩) n cap] w fun e w' => e = .returned (.func (.func 35) #[] #[.pointer (some ⟨w.heap.size, 0, none⟩)]) ∧ w' = w.alloc (.cells #[.slice (some ⟨b, 0, none⟩) n cap] 49) := by
  go_enter Try.func20, Try.ntmps20
  go_wp2
  go_ret
  exact ⟨rfl, rfl⟩

set_option maxRecDepth 100000 in
set_option maxHeartbeats 4000000 in
theorem backward1_in (l X T : Nat) (V : Nat → Value) (J Jx : List (Fin 33) → World → Prop) (w : World) (hx : w.cell? ⟨X, 0, none⟩ = some (.slice (some ⟨T, 0, none⟩) 33 33)) (hV : ∀ j, j < 33 → w.cell? ⟨T, j, none⟩ = some (V j))
    (hY : ∀ pre (x : Fin 33) W1, J pre W1 → pre.length < 33 → YieldAt Fence.wide 2 Try.prog l #[.int .i64 ((x.val : Nat) : Int), V x.val] W1 fun e W' =>
      (e = .returned (.bool true) ∧ J (pre ++ [x]) W' ∧ KeepsAll W1 W') ∨ (e = .returned (.bool false) ∧ Jx (pre ++ [x]) W')) (h0 : J [] w) :
    Calls Try.prog 35 #[.func (.yield l) #[] #[], .pointer (some ⟨X, 0, none⟩)] w fun e W' => (∃ v, e = .returned v) ∧
      ((∃ xs, xs = downs 33 ∧ J xs W') ∨ (∃ pre, (∃ m, m ≤ 33 ∧ pre = downs m) ∧ Jx pre W')) := by
  have HV := hid hV
  have HY := hid hY
  have HJ := hid h0
  clear hV hY h0
  go_enter Try.func35, Try.ntmps35
  refine (wpIn_wide (n := 3)).1 ?_
  gi_wp2
  gi_loopw [3] (fun i wr => ∃ m : Nat, m ≤ 33 ∧ i = .int .i64 (32 - (m : Int)) ∧ J (downs m) wr ∧ KeepsAll w wr) (fun i _ => (intOf i + 1).toNat)
  case atStart => exact ⟨0, Nat.zero_le _, rfl, HJ.out, KeepsAll.refl _⟩
  case round =>
    obtain ⟨m, hm, rfl, hJm, hK⟩ := hrel
    have HJm := hid hJm
    clear hJm HJ
    by_cases h33 : m < 33
    · have i0 : (0 : Int) ≤ 32 - (m : Int) := by omega
      have i1 : 32 - (m : Int) < 33 := by omega
      have it : (32 - (m : Int)).toNat = 32 - m := by omega
      have c1 := hK.cell hx
      have c2 := hK.cell (HV.out (32 - m) (by omega))
      have hyk := HY.out (downs m) ⟨32 - m, by omega⟩ wr HJm.out (by rw [downs_len]; exact h33)
      have ec : (((32 - m : Nat)) : Int) = 32 - (m : Int) := by omega
      obtain ⟨fn, tmps, assign, body, hy, hR⟩ := hyk
      rw [ec] at hy
      gi_wp2_with fail
      refine hR.mono ?_
      rintro e W3 (⟨rfl, hJ3, hk3⟩ | ⟨rfl, hJx3⟩)
      · gi_wp2
        go_roundw
        case rel => exact ⟨m + 1, by omega, by go_num, hJ3, hK.trans hk3⟩
        case measure => simp [intOf]; omega
      · gi_wp2
        refine bodyPost_ret (results_none rfl _ _ _) rfl ?_
        exact ⟨⟨_, rfl⟩, .inr ⟨_, ⟨m + 1, by omega, rfl⟩, hJx3⟩⟩
    · obtain rfl : m = 33 := by omega
      have J33 := HJm.out
      gi_wp2
      refine bodyPost_end (results_none rfl _ _ _) rfl ?_
      exact ⟨⟨_, rfl⟩, .inl ⟨_, rfl, J33⟩⟩
end Go.Proofs.Ythlejmofhcgkdaa
