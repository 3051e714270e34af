/- Calls of one and of two arguments within a region that draws its order, guarded or not. -/
import Derived.Test.YtaaeeaknjlammaaGreatDoorProg
import Derived.Test.YtaaeeaknjlammaaGreatDoorKO0
import Derived.ProofKit
import Derived.Shelf.Abstract
namespace Go.Proofs.YtaaeeaknjlammaaGreatDoor
open Go

theorem step_call1g {ops : Array Oper} {o : Oper} {a : Act} {w : World} {K : Act → World → Prop} {Q : Exit → Act → World → Prop} {E : Prop} (hw : Region.wanted o (yielded ops a.tmps) = true) (f : Nat) (x : Operand) (ats : Array TypeId)
    (ho : o.op = .call { callee := .value (.func f), args := #[x], argTypes := ats }) (eg : ∀ args w, (callFunc f args).run Tryz.prog w = .ok (.enter f args) w) (v0 : Value) (hv : a.eval x = v0)
    (d : Option Nat) (hd : o.dst = d) (R : Value → World → Prop) (hc : Calls Tryz.prog f #[v0] w fun e w' => ∃ v, e = .returned v ∧ R v w') (h : ∀ v w', R v w' → K (a.put d v) w') :
    if Region.wanted o (yielded ops a.tmps) = true then Oper.wp Tryz.prog o a w K Q else E := by
  rw [if_pos hw]
  have e : (execOp a.eval o).run Tryz.prog w = .ok (.enter f #[v0]) w := by
    unfold execOp
    simp only [ho, resolve, invoke, Sem.run_bind, List.map_toArray, List.map_cons, List.map_nil, hv]
    simp [go_sem, eg, Act.eval]
  unfold Oper.wp
  rw [e, Oper.upon_enter]
  exact hc.mono fun e w' ⟨v, he, hr⟩ => by subst he; rw [hd]; exact h v w' hr
theorem step_call2g {ops : Array Oper} {o : Oper} {a : Act} {w : World} {K : Act → World → Prop} {Q : Exit → Act → World → Prop} {E : Prop} (hw : Region.wanted o (yielded ops a.tmps) = true) (f : Nat) (x y : Operand) (ats : Array TypeId)
    (ho : o.op = .call { callee := .value (.func f), args := #[x, y], argTypes := ats }) (eg : ∀ args w, (callFunc f args).run Tryz.prog w = .ok (.enter f args) w) (v0 v1 : Value) (hv : a.eval x = v0) (hv1 : a.eval y = v1)
    (d : Option Nat) (hd : o.dst = d) (R : Value → World → Prop) (hc : Calls Tryz.prog f #[v0, v1] w fun e w' => ∃ v, e = .returned v ∧ R v w') (h : ∀ v w', R v w' → K (a.put d v) w') :
    if Region.wanted o (yielded ops a.tmps) = true then Oper.wp Tryz.prog o a w K Q else E := by
  rw [if_pos hw]
  have e : (execOp a.eval o).run Tryz.prog w = .ok (.enter f #[v0, v1]) w := by
    unfold execOp
    simp only [ho, resolve, invoke, Sem.run_bind, List.map_toArray, List.map_cons, List.map_nil, hv, hv1]
    simp [go_sem, eg, Act.eval]
  unfold Oper.wp
  rw [e, Oper.upon_enter]
  exact hc.mono fun e w' ⟨v, he, hr⟩ => by subst he; rw [hd]; exact h v w' hr
theorem step_call3g {ops : Array Oper} {o : Oper} {a : Act} {w : World} {K : Act → World → Prop} {Q : Exit → Act → World → Prop} {E : Prop} (hw : Region.wanted o (yielded ops a.tmps) = true) (f : Nat) (x y z : Operand) (ats : Array TypeId)
    (ho : o.op = .call { callee := .value (.func f), args := #[x, y, z], argTypes := ats }) (eg : ∀ args w, (callFunc f args).run Tryz.prog w = .ok (.enter f args) w) (v0 v1 v2 : Value) (hv : a.eval x = v0) (hv1 : a.eval y = v1) (hv2 : a.eval z = v2)
    (d : Option Nat) (hd : o.dst = d) (R : Value → World → Prop) (hc : Calls Tryz.prog f #[v0, v1, v2] w fun e w' => ∃ v, e = .returned v ∧ R v w') (h : ∀ v w', R v w' → K (a.put d v) w') :
    if Region.wanted o (yielded ops a.tmps) = true then Oper.wp Tryz.prog o a w K Q else E := by
  rw [if_pos hw]
  have e : (execOp a.eval o).run Tryz.prog w = .ok (.enter f #[v0, v1, v2]) w := by
    unfold execOp
    simp only [ho, resolve, invoke, Sem.run_bind, List.map_toArray, List.map_cons, List.map_nil, hv, hv1, hv2]
    simp [go_sem, eg, Act.eval]
  unfold Oper.wp
  rw [e, Oper.upon_enter]
  exact hc.mono fun e w' ⟨v, he, hr⟩ => by subst he; rw [hd]; exact h v w' hr
end Go.Proofs.YtaaeeaknjlammaaGreatDoor
