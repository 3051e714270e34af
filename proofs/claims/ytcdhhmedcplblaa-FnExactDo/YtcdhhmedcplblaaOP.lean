/- How an op that came in is opened. -/
import Derived.Test.YtcdhhmedcplblaaOG
namespace Go.Proofs.Ytcdhhmedcplblaa
open Go.ChangeShapes Go.WideShapes Go.ChangeAt Go.RowKit Go.Deep Go.Joins

section
variable {H : Type} {enc : TypeId × Value → H} {W : World}
set_option maxRecDepth 100000 in
theorem open_op {r : Reach} {b0 : Nat} {v : Value} {d : DataW H} {p : List MemPlace}
    (hv : Value.okWide Try.prog W r b0 27 v) (h : DataW.Trod enc Try.prog W 0 (fun _ => true) true 27 v d p) :
    ∃ k : OpV, v = k.val ∧ k.wf := by
  obtain ⟨c0, c1, c2, c3, y0, y1, y2, y3, m, rfl, _, _, hy0, hy1, hy2, hy3⟩ := open_agg4 Try.underlying27 (by kernel_rfl) Try.cells27 hv h
  obtain ⟨n, e0, _, _⟩ := DataW.trod_int Try.underlying2 hy0
  obtain ⟨s, e1, _, h1⟩ := DataW.trod_string Try.underlying9 hy1
  obtain ⟨u, e2, _, h2⟩ := DataW.trod_string Try.underlying9 hy2
  obtain ⟨x, e3, _, h3⟩ := DataW.trod_string Try.underlying9 hy3
  simp only [List.cons.injEq, and_true] at e0 e1 e2 e3
  subst e0 e1 e2 e3
  exact ⟨⟨n, s, u, x⟩, rfl, h1, h2, h3⟩
end
end Go.Proofs.Ytcdhhmedcplblaa
