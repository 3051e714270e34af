/- An op as a change. -/
import Derived.Test.YtcchpeebhkiacaaZL
namespace Go.Proofs.Ytcchpeebhkiacaa
open Go Go.RowKit Go.Deep Go.Maps

theorem form1 {o : OpV} (h : o.kind = 1) : opForm o = (nmOk o.name && o.to.toList.isEmpty) := by simp [opForm, h, inB]
theorem form2 {o : OpV} (h : o.kind = 2) : opForm o = (nmOk o.name && nmOk o.to && o.data.toList.isEmpty) := by simp [opForm, h, inB, Bool.and_assoc]
theorem form3 {o : OpV} (h : o.kind = 3) : opForm o = (nmOk o.name && o.to.toList.isEmpty && o.data.toList.isEmpty) := by simp [opForm, h, inB, Bool.and_assoc]
theorem form0 {o : OpV} (h1 : o.kind ≠ 1) (h2 : o.kind ≠ 2) (h3 : o.kind ≠ 3) : opForm o = false := by
  have : inB o.kind 1 3 = false := by simp [inB]; omega
  simp [opForm, this]
theorem meth1formed (v : Value) (W : World) : (method 252 98 v "loop.example/g00272/impl.formed").run Try.prog W = .ok (114, v) W := by kernel_rfl
theorem meth1finds (v : Value) (W : World) : (method 252 98 v "loop.example/g00272/impl.finds").run Try.prog W = .ok (113, v) W := by kernel_rfl
theorem meth1do (v : Value) (W : World) : (method 252 98 v "loop.example/g00272/impl.do").run Try.prog W = .ok (112, v) W := by kernel_rfl
set_option maxRecDepth 100000 in
set_option maxHeartbeats 1000000 in
theorem change1 (o : OpV) (w : World) (ho : o.wf) (k : o.kind = 1) :
    Calls Try.prog 48 #[o.val] w fun e w' => e = .returned (.tuple #[.iface 98 o.val, .bool (opForm o)]) ∧ Below w.heap.size w w' := by
  have b0 : Below w.heap.size w (w.alloc (.cells #[.int .i64 1, .string o.name, .string o.to, .string o.data] 36)) := (Below.refl _ w).alloc (Nat.le_refl _) _
  have C := hid (formedA o (w.alloc (.cells #[.int .i64 1, .string o.name, .string o.to, .string o.data] 36)) ho)
  rw [form1 k]
  unfold OpV.val at C ⊢
  rw [k] at C ⊢
  generalize (nmOk o.name && o.to.toList.isEmpty) = R at *
  clear k
  go_enter Try.func48, Try.ntmps48
  have hm := meth1formed
  go_wp2_with fail
  refine C.out.mono ?_
  rintro e w1 ⟨rfl, hb1⟩
  have B1 := then_ b0 hb1
  clear hm C
  go_wp2
  exact bodyPost_ret (v := .tuple #[.iface 98 (.agg #[.int .i64 1, .string o.name, .string o.to, .string o.data]), .bool R]) (by simp [results, Try.results48, go_sem]) rfl ⟨rfl, B1⟩
theorem meth2formed (v : Value) (W : World) : (method 252 99 v "loop.example/g00272/impl.formed").run Try.prog W = .ok (118, v) W := by kernel_rfl
theorem meth2finds (v : Value) (W : World) : (method 252 99 v "loop.example/g00272/impl.finds").run Try.prog W = .ok (117, v) W := by kernel_rfl
theorem meth2do (v : Value) (W : World) : (method 252 99 v "loop.example/g00272/impl.do").run Try.prog W = .ok (116, v) W := by kernel_rfl
set_option maxRecDepth 100000 in
set_option maxHeartbeats 1000000 in
theorem change2 (o : OpV) (w : World) (ho : o.wf) (k : o.kind = 2) :
    Calls Try.prog 48 #[o.val] w fun e w' => e = .returned (.tuple #[.iface 99 o.val, .bool (opForm o)]) ∧ Below w.heap.size w w' := by
  have b0 : Below w.heap.size w (w.alloc (.cells #[.int .i64 2, .string o.name, .string o.to, .string o.data] 36)) := (Below.refl _ w).alloc (Nat.le_refl _) _
  have C := hid (formedR o (w.alloc (.cells #[.int .i64 2, .string o.name, .string o.to, .string o.data] 36)) ho)
  rw [form2 k]
  unfold OpV.val at C ⊢
  rw [k] at C ⊢
  generalize (nmOk o.name && nmOk o.to && o.data.toList.isEmpty) = R at *
  clear k
  go_enter Try.func48, Try.ntmps48
  have hm := meth2formed
  go_wp2_with fail
  refine C.out.mono ?_
  rintro e w1 ⟨rfl, hb1⟩
  have B1 := then_ b0 hb1
  clear hm C
  go_wp2
  exact bodyPost_ret (v := .tuple #[.iface 99 (.agg #[.int .i64 2, .string o.name, .string o.to, .string o.data]), .bool R]) (by simp [results, Try.results48, go_sem]) rfl ⟨rfl, B1⟩
theorem meth3formed (v : Value) (W : World) : (method 252 100 v "loop.example/g00272/impl.formed").run Try.prog W = .ok (121, v) W := by kernel_rfl
theorem meth3finds (v : Value) (W : World) : (method 252 100 v "loop.example/g00272/impl.finds").run Try.prog W = .ok (120, v) W := by kernel_rfl
theorem meth3do (v : Value) (W : World) : (method 252 100 v "loop.example/g00272/impl.do").run Try.prog W = .ok (119, v) W := by kernel_rfl
set_option maxRecDepth 100000 in
set_option maxHeartbeats 1000000 in
theorem change3 (o : OpV) (w : World) (ho : o.wf) (k : o.kind = 3) :
    Calls Try.prog 48 #[o.val] w fun e w' => e = .returned (.tuple #[.iface 100 o.val, .bool (opForm o)]) ∧ Below w.heap.size w w' := by
  have b0 : Below w.heap.size w (w.alloc (.cells #[.int .i64 3, .string o.name, .string o.to, .string o.data] 36)) := (Below.refl _ w).alloc (Nat.le_refl _) _
  have C := hid (formedD o (w.alloc (.cells #[.int .i64 3, .string o.name, .string o.to, .string o.data] 36)) ho)
  rw [form3 k]
  unfold OpV.val at C ⊢
  rw [k] at C ⊢
  generalize (nmOk o.name && o.to.toList.isEmpty && o.data.toList.isEmpty) = R at *
  clear k
  go_enter Try.func48, Try.ntmps48
  have hm := meth3formed
  go_wp2_with fail
  refine C.out.mono ?_
  rintro e w1 ⟨rfl, hb1⟩
  have B1 := then_ b0 hb1
  clear hm C
  go_wp2
  exact bodyPost_ret (v := .tuple #[.iface 100 (.agg #[.int .i64 3, .string o.name, .string o.to, .string o.data]), .bool R]) (by simp [results, Try.results48, go_sem]) rfl ⟨rfl, B1⟩
set_option maxRecDepth 100000 in
set_option maxHeartbeats 1000000 in
theorem change0 (o : OpV) (w : World) (k1 : o.kind ≠ 1) (k2 : o.kind ≠ 2) (k3 : o.kind ≠ 3) :
    Calls Try.prog 48 #[o.val] w fun e w' => e = .returned (.tuple #[.nilIface, .bool false]) ∧ Below w.heap.size w w' := by
  unfold OpV.val
  have k1' : ¬ o.kind = 1 := k1
  have k2' : ¬ o.kind = 2 := k2
  have k3' : ¬ o.kind = 3 := k3
  clear k1 k2 k3
  go_enter Try.func48, Try.ntmps48
  go_wp2
  exact bodyPost_ret (v := .tuple #[.nilIface, .bool false]) (by simp [results, Try.results48, go_sem]) rfl ⟨rfl, (Below.refl _ _).alloc (Nat.le_refl _) _⟩
end Go.Proofs.Ytcchpeebhkiacaa
