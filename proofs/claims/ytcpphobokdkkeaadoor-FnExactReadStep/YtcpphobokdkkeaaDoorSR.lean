/- From one operation of a region on, all that is left is carried out by reckoning alone. -/
import Derived.Test.YtcpphobokdkkeaaDoorSQ
namespace Go.Proofs.YtcpphobokdkkeaaDoor
open Go Go.RowKit Go.Deep

section
variable {P : Program} {ops : Array Oper} {Q : Exit → Act → World → Prop} {w : World}

/-- what an operation gives that only carries values on -/
def carried (ev : Operand → Value) : Op → Option Value
  | .move x => some (ev x)
  | .assign x => some (ev x)
  | .pick c x y => match ev c with
    | .bool true => some (ev x)
    | .bool false => some (ev y)
    | _ => none
  | _ => none

theorem run_carried {a : Act} {o : Oper} {v : Value} (h : carried a.eval o.op = some v) : (execOp a.eval o).run P w = .ok (.value v) w := by
  cases o with
  | mk dst op type pos after guard =>
    cases op with
    | move x => cases h; rfl
    | assign x => cases h; rfl
    | pick c x y =>
      simp only [carried] at h
      generalize hc : a.eval c = vc at h
      cases vc with
      | bool b =>
        cases b with
        | true => cases h; simp only [execOp]; rw [hc]; rfl
        | false => cases h; simp only [execOp]; rw [hc]; rfl
      | _ => simp at h
    | _ => simp [carried] at h

/-- operation number i, by reckoning -/
def carry1 (ops : Array Oper) (a : Act) (i : Nat) : Option Act := match ops[i]? with
  | none => none
  | some o => match Region.wanted o (yielded ops a.tmps) with
    | true => match carried a.eval o.op with
      | some v => some (a.put o.dst v)
      | none => none
    | false => match idle ops a.tmps i with
      | true => some a
      | false => none

def carry (ops : Array Oper) : Nat → Nat → Act → Option Act
  | 0, _, a => some a
  | m + 1, i, a => match carry1 ops a i with
    | some a' => carry ops m (i + 1) a'
    | none => none

theorem Seq.carry1 {i : Nat} {a a' : Act} (h : carry1 ops a i = some a') (hr : Seq P ops Q (i + 1) a' w) : Seq P ops Q i a w := by
  unfold YtcpphobokdkkeaaDoor.carry1 at h
  cases ho : ops[i]? with
  | none => rw [ho] at h; simp at h
  | some o =>
    rw [ho] at h
    dsimp only at h
    cases hw : Region.wanted o (yielded ops a.tmps) with
    | true =>
      rw [hw] at h
      dsimp only at h
      cases hc : carried a.eval o.op with
      | none => rw [hc] at h; simp at h
      | some v =>
        rw [hc] at h
        dsimp only at h
        cases h
        refine Seq.step ho fun K' hK => ?_
        rw [if_pos hw]
        unfold Oper.wp
        rw [run_carried hc]
        simp only [Oper.upon]
        exact hK.out _ _ hr
    | false =>
      rw [hw] at h
      dsimp only at h
      cases hi : idle ops a.tmps i with
      | false => rw [hi] at h; simp at h
      | true =>
        rw [hi] at h
        dsimp only at h
        cases h
        exact Seq.pass 1 (i := i) (j := i + 1) rfl (by simp [hi]) hr

theorem Seq.carry (m : Nat) : ∀ {i j : Nat} {a a' : Act}, i + m = j → carry ops m i a = some a' → Seq P ops Q j a' w → Seq P ops Q i a w := by
  induction m with
  | zero => intro i j a a' hj h hr; cases h; have e : i = j := by omega
            rw [e]; exact hr
  | succ m ih =>
    intro i j a a' hj h hr
    unfold YtcpphobokdkkeaaDoor.carry at h
    cases hc : YtcpphobokdkkeaaDoor.carry1 ops a i with
    | none => rw [hc] at h; simp at h
    | some a1 =>
      rw [hc] at h
      dsimp only at h
      exact Seq.carry1 hc (ih (i := i + 1) (by omega) h hr)

theorem carry1_defers {i : Nat} {a a' : Act} (h : carry1 ops a i = some a') : a'.defers = a.defers := by
  unfold YtcpphobokdkkeaaDoor.carry1 at h
  cases ho : ops[i]? with
  | none => rw [ho] at h; simp at h
  | some o =>
    rw [ho] at h
    dsimp only at h
    cases hw : Region.wanted o (yielded ops a.tmps) with
    | true =>
      rw [hw] at h
      dsimp only at h
      cases hc : carried a.eval o.op with
      | none => rw [hc] at h; simp at h
      | some v =>
        rw [hc] at h
        dsimp only at h
        cases h
        unfold Act.put
        cases o.dst <;> rfl
    | false =>
      rw [hw] at h
      dsimp only at h
      cases hi : idle ops a.tmps i with
      | false => rw [hi] at h; simp at h
      | true =>
        rw [hi] at h
        dsimp only at h
        cases h
        rfl

theorem carry_defers (m : Nat) : ∀ {i : Nat} {a a' : Act}, carry ops m i a = some a' → a'.defers = a.defers := by
  induction m with
  | zero => intro i a a' h; cases h; rfl
  | succ m ih =>
    intro i a a' h
    unfold YtcpphobokdkkeaaDoor.carry at h
    cases hc : YtcpphobokdkkeaaDoor.carry1 ops a i with
    | none => rw [hc] at h; simp at h
    | some a1 =>
      rw [hc] at h
      dsimp only at h
      exact (ih h).trans (carry1_defers hc)

def falseAt (t : Nat) : Option Act → Bool
  | some a => match a.tmps[t]? with
    | some (.bool b) => !b
    | _ => false
  | none => false

/-- from number i on nothing but carrying; temporary t ends as false -/
theorem Seq.falls (t m : Nat) {i : Nat} {a : Act} (hm : i + m = ops.size) (h : falseAt t (YtcpphobokdkkeaaDoor.carry ops m i a) = true)
    (hr : ∀ T : Array Value, T[t]? = some (.bool false) → Q .normal ⟨T, a.defers⟩ w) : Seq P ops Q i a w := by
  cases hc : YtcpphobokdkkeaaDoor.carry ops m i a with
  | none => rw [hc] at h; simp [falseAt] at h
  | some a' =>
    rw [hc] at h
    have hd := carry_defers m hc
    refine Seq.carry m hm hc (Seq.done (Nat.le_refl _) ?_)
    have hT : a'.tmps[t]? = some (.bool false) := by
      unfold falseAt at h
      dsimp only at h
      split at h
      · rename_i b hb
        cases b with
        | true => simp at h
        | false => exact hb
      · simp at h
    have := hr a'.tmps hT
    rw [← hd] at this
    exact this

theorem ret_falls {T : Array Value} {D : List Deferred} {t : Nat} {x : Bool} (hT : T[t]? = some (.bool false)) (hx : x = false) : Ending.returned (({ tmps := T, defers := D } : Act).tmps.getD t undef) = Ending.returned (.bool x) := by
  subst hx
  simp [Array.getD_eq_getD_getElem?, hT]
end
end Go.Proofs.YtcpphobokdkkeaaDoor
