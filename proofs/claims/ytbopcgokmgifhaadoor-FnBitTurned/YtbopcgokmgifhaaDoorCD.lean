/- blockOf of the program. -/
import Derived.Test.YtbopcgokmgifhaaDoorCC
import Derived.Deep.WholeRow
namespace Go.Proofs.YtbopcgokmgifhaaDoor
open Go Go.RowKit Go.Deep Go.Maps

structure Keys27 (s : ByteArray) (A : Array Value) : Prop where
  size : A.size = 27
  at' : ∀ j, j < 27 → A[j]? = some (.int .u32 (keyAt s j))

theorem wpList_load_arr {ops : Array Oper} {rest : List Oper} {o : Oper} {a : Act} {Q : Exit → Act → World → Prop} (w : World) (hgd : o.guard = none) (p : Operand)
    (ho : o.op = .load 46 p) (b0 : Nat) (A : Array Value) (hp : a.eval p = .pointer (some ⟨b0, 0, none⟩)) (hrow : w.heap[b0]? = some (.cells A 46 (0, 0))) (hs : A.size = 27)
    (h : wpList Tryd.prog ops Q rest (a.put o.dst (.agg A)) w) : wpList Tryd.prog ops Q (o :: rest) a w := by
  refine wpList_plain hgd fun _ hK => ?_
  have hl := run_loadVar_row (P := Tryd.prog) w b0 46 46 A (0, 0) _ hrow Tryd.underlying46 rfl (by rw [hs]; kernel_rfl)
  unfold Oper.wp execOp
  simp only [ho, hp, Instr.loadAt, Instr.sureAddr, Sem.run_bind, Sem.run_pure, Result.andThen_ok, hl]
  exact hK _ _ h

theorem run_index_arr (w : World) (A : Array Value) (j : Nat) (hj : j < 27) (v : Int) (h : A[j]? = some (.int .u32 v)) : (Instr.index 46 (.agg A) (.int .i64 (j : Int))).run Tryd.prog w = .ok (.int .u32 v) w := by
  simp [Instr.index, go_sem, run_underlying Tryd.underlying46, part, Tryd.isAgg44, Tryd.sizeOf44, h]
  intro h3
  omega
theorem hi_same (b : Int) : IntKind.u64.wrap b / 4294967296 % 4294967296 = hiW b := by
  rw [IntKind.wrap_u64]; unfold hiW; omega

set_option maxRecDepth 100000 in
set_option maxHeartbeats 1000000 in
theorem blockOf_any (s : ByteArray) (A : Array Value) (b : Int) (w : World) (hA : Keys27 s A) :
    Calls Tryd.prog 28 #[.agg A, .int .i64 b] w fun e w' => e = .returned (.int .i64 (blkOf s b)) ∧ Below w.heap.size w w' := by
  have HS := hid hA.size
  have HA := hid hA
  clear hA
  go_enter Tryd.func28, Tryd.ntmps28
  go_wp2_with (refine wpList_load_arr _ rfl _ rfl w.heap.size A rfl (heap_alloc_new _ _) HS.out ?_)
  rw [hi_same]
  go_loopw [5, 6, 16] (fun xv yv iv W => ∃ j : Nat, j ≤ 27 ∧ iv = .int .i64 j ∧ xv = .int .u32 (rnd s (hiW b) (loW b) j).1 ∧ yv = .int .u32 (rnd s (hiW b) (loW b) j).2 ∧ Below w.heap.size w W) (fun _ _ i _ => 27 - (intOf i).toNat)
  case atStart => exact ⟨0, by omega, rfl, rfl, rfl, (Below.refl _ _).alloc (Nat.le_refl _) _⟩
  case round =>
    obtain ⟨j, hj, rfl, rfl, rfl, hB⟩ := hrel
    by_cases h0 : j < 27
    · have h0' : (j : Int) < 27 := by omega
      have cj := HA.out.at' j h0
      have hsz := HS.out
      have KX : Hid ((rnd s (hiW b) (loW b) (j + 1)) = (rx (rnd s (hiW b) (loW b) j).1 (rnd s (hiW b) (loW b) j).2 (keyAt s j), ry (rnd s (hiW b) (loW b) j).1 (rnd s (hiW b) (loW b) j).2 (keyAt s j))) := rfl
      generalize (rnd s (hiW b) (loW b) j).1 = x at *
      generalize (rnd s (hiW b) (loW b) j).2 = y at *
      generalize keyAt s j = k at *
      have hB' := hid hB
      have hix := run_index_arr wr A j h0 k cj
      clear hB
      go_wp2_with (go_at_call 37; refine (round_any x y k _).mono ?_; rintro e w4 ⟨rfl, h4⟩)
      refine ⟨⟨j + 1, by omega, rfl, by rw [KX.out], by rw [KX.out], hB'.out.trans ?_⟩, by simp [intOf]; omega⟩
      exact h4.mono (hB'.out.size)
    · obtain rfl : j = 27 := by omega
      go_wp2
      go_ret
      exact ⟨rfl, hB⟩
end Go.Proofs.YtbopcgokmgifhaaDoor
