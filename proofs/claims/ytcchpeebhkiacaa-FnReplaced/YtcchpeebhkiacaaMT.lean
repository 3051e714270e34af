/- Crash: the model. -/
import Derived.Test.YtcchpeebhkiacaaMR
import Derived.Test.YtcchpeebhkiacaaMS
import Derived.Test.YtcchpeebhkiacaaME
namespace Go.Proofs.Ytcchpeebhkiacaa
open Go Go.RowKit Go.Deep Go.Maps

theorem cr_results {F : Func} (tmps : Array Value) (W : World) (P : Nat) (x y z u : Value) (hF : F.results = #[.cell 6 27, .tmp 7]) (h : Blk W P (.cells #[x, y, z] 27)) (h2 : tmps[6]? = some (.pointer (some ⟨P, 0, none⟩))) (h5 : tmps[7]? = some u) :
    (results F tmps).run Try.prog W = .ok (.tuple #[.agg #[x, y, z], u]) W := by
  obtain ⟨z0, z1, z2⟩ := h.three
  simp [results, hF, go_sem, h2, h5, z0, z1, z2]
theorem Blk.put3 {W : World} {P t : Nat} {a b c : Value} (h : Blk W P (.cells #[a, b, c] t)) (x y z : Value) : Blk (((W.setCell ⟨P, 0, none⟩ x).setCell ⟨P, 1, none⟩ y).setCell ⟨P, 2, none⟩ z) P (.cells #[x, y, z] t) := ((h.setAt (i := 0) x).setAt (i := 1) y).setAt (i := 2) z
theorem set3_low {B : Nat} {V W : World} {P : Nat} (h : Below B V W) (hP : B ≤ P) (x y z : Value) : Below B V (((W.setCell ⟨P, 0, none⟩ x).setCell ⟨P, 1, none⟩ y).setCell ⟨P, 2, none⟩ z) := ((h.setCell hP x).setCell hP y).setCell hP z
theorem wpList_zeroF {ops : Array Oper} {rest : List Oper} {o : Oper} {a : Act} {Q : Exit → Act → World → Prop} (w : World) (hgd : o.guard = none) (s x : Operand)
    (ho : o.op = .call { callee := .builtin .append, args := #[s, x], argTypes := #[24, 24] })
    (ab : Option Addr) (hs : a.eval s = .slice ab 0 0) (ad : Option Addr) (n c : Nat) (f : Nat → FileV) (hx : a.eval x = .slice ad n c) (hc : FilesAt w ad n f) (hm : n ≤ 2000000)
    (h : ∀ a' c' w', ZF w' w.heap.size (.slice a' n c') ((List.range n).map f) → Below w.heap.size w w' → wpList Try.prog ops Q rest (a.put o.dst (.slice a' n c')) w') : wpList Try.prog ops Q (o :: rest) a w := by
  refine wpList_plain hgd fun K hK => ?_
  obtain ⟨a', c', w', hr, h2, h3⟩ := run_zeroF w o.type ab ad n c f hc hm
  unfold Oper.wp execOp
  simp only [ho, resolve, invoke, builtin, Sem.run_bind, Sem.run_pure, Result.andThen_ok, List.map_toArray, List.map_cons, List.map_nil, hs, hx, hr]
  exact hK _ _ (h a' c' w' h2 h3)
theorem blk_drewN {W : World} {P : Nat} {o : Obj} (h : Blk W P o) (k : Nat) : Blk (W.drewN k) P o := h.below (below_drewN (Below.refl _ W) k)
theorem ZF.fileL {w : World} {B c : Nat} {a : Option Addr} {l : List FileV} (h : ZF w B (.slice a l.length c) l) (hn : l.length ≤ 1048576) (hw : ∀ x ∈ l, x.wf) : FileL.at w ⟨a, l.length, c, fileAt l⟩ := by
  obtain ⟨a', c', e, hf⟩ := h.at
  cases e
  exact ⟨Nat.le_trans hn (by unfold maxLen; omega), hf, fun i hi => hw _ (fileAt_mem hi)⟩
theorem form_empty {o : OpV} (h : opForm o = true) (k : o.kind ≠ 1) : o.data.size = 0 := by
  have hh : o.data.toList.isEmpty = true := by
    unfold opForm at h
    simp only [Bool.and_eq_true] at h
    have h2 := h.2
    split at h2
    · simp only [Bool.and_eq_true] at h2; exact h2.2
    · simp only [Bool.and_eq_true, Bool.or_eq_true, decide_eq_true_eq] at h2
      rcases h2.2 with h3 | h3
      · exact absurd h3 k
      · exact h3
  rw [Lib.toList_data] at hh
  have : o.data.data.toList = [] := List.isEmpty_iff.1 hh
  show o.data.data.size = 0
  simpa using congrArg List.length this
theorem way_data {M : List FileV} {i : Nat} (h : OnWay M i) (hi : i ≤ 200) : (∀ j, j < M.length → (fileAt M j).data.size ≤ 1000000000) ∧ tot (dsz (fileAt M)) M.length ≤ 1000000000 ∧ M.length ≤ 260 := by
  have h1 := h.bytes
  have h2 := h.len
  refine ⟨fun j hj => ?_, by rw [tot_sum]; omega, by omega⟩
  have : (fileAt M j).data.size ≤ bytesL M := look_bytes (lookL_mem h.neat.rise _ (fileAt_mem hj))
  omega
end Go.Proofs.Ytcchpeebhkiacaa
