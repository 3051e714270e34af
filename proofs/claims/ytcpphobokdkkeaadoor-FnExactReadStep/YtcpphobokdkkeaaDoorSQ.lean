/- A region in the order of its text, walked operation by operation. -/
import Derived.Test.YtcpphobokdkkeaaDoorE
import Derived.Orders
namespace Go.Proofs.YtcpphobokdkkeaaDoor
open Go Go.RowKit Go.Deep

section
variable {P : Program} {ops : Array Oper} {Q : Exit → Act → World → Prop} {a : Act} {w : World}

/-- what is left of the region from number i on -/
def Seq (P : Program) (ops : Array Oper) (Q : Exit → Act → World → Prop) (i : Nat) (a : Act) (w : World) : Prop := wpOps P ops Q (List.range' i (ops.size - i)) a w

theorem Seq.region {id : Nat} (h : Seq P ops Q 0 a w) : (Code.region id ops false).wp P Q a w := by
  refine wp_region ?_
  unfold Seq at h
  rw [Nat.sub_zero, ← List.range_eq_range'] at h
  exact h

theorem range_step {i n : Nat} (h : i < n) : List.range' i (n - i) = i :: List.range' (i + 1) (n - (i + 1)) := by
  obtain ⟨k, hk⟩ : ∃ k, n - i = k + 1 := ⟨n - i - 1, by omega⟩
  have : n - (i + 1) = k := by omega
  rw [hk, this, List.range'_succ]

theorem Seq.step {i : Nat} {o : Oper} (ho : ops[i]? = some o) (h : ∀ K' : Act → World → Prop, Hid (∀ a w, Seq P ops Q (i + 1) a w → K' a w) → if Region.wanted o (yielded ops a.tmps) = true then Oper.wp P o a w K' Q else K' (a.put o.dst undef) w) : Seq P ops Q i a w := by
  have hlt : i < ops.size := (Array.getElem?_eq_some_iff.1 ho).1
  unfold Seq
  rw [range_step hlt]
  unfold wpOps
  rw [ho]
  dsimp only
  have := h (wpOps P ops Q (List.range' (i + 1) (ops.size - (i + 1)))) (fun a w h => h)
  split
  · rename_i hw
    rw [if_pos hw] at this
    exact .inl this
  · rename_i hw
    rw [if_neg hw] at this
    exact this

theorem Seq.take {i d : Nat} {o : Oper} (v : Value) (ho : ops[i]? = some o) (hd : o.dst = some d) (hw : Region.wanted o (yielded ops a.tmps) = true) (hv : (execOp a.eval o).run P w = .ok (.value v) w)
    (h : Seq P ops Q (i + 1) (a.put (some d) v) w) : Seq P ops Q i a w :=
  Seq.step ho fun K' hK => by
    rw [if_pos hw]
    unfold Oper.wp
    rw [hv]
    simp only [Oper.upon]
    rw [hd]
    exact hK.out _ _ h

theorem Seq.done {i : Nat} (hi : ops.size ≤ i) (h : Q .normal a w) : Seq P ops Q i a w := by
  unfold Seq
  have : ops.size - i = 0 := by omega
  rw [this]
  exact h

def Value.isUndef : Value → Bool
  | .tuple xs => xs.size == 0
  | _ => false

/-- number k is not wanted, and its temporary holds nothing yet -/
def idle (ops : Array Oper) (tmps : Array Value) (k : Nat) : Bool := match ops[k]? with
  | some o => !(Region.wanted o (yielded ops tmps)) && match o.dst with
    | some d => match tmps[d]? with
      | some v => Value.isUndef v
      | none => false
    | none => true
  | none => false

theorem put_undef {d : Nat} (h : (match a.tmps[d]? with | some v => Value.isUndef v | none => false) = true) : a.put (some d) undef = a := by
  cases hv : a.tmps[d]? with
  | none => rw [hv] at h; simp at h
  | some v =>
    rw [hv] at h
    dsimp only at h
    have hu : v = undef := by
      cases v with
      | tuple xs =>
        have hs : xs.size = 0 := by simpa [Value.isUndef] using h
        have : xs = #[] := Array.eq_empty_of_size_eq_zero hs
        rw [this]; rfl
      | _ => simp [Value.isUndef] at h
    obtain ⟨hlt, he⟩ := Array.getElem?_eq_some_iff.1 hv
    cases a with
    | mk tmps defers =>
      simp only [Act.put]
      congr
      apply Array.ext
      · simp
      · intro i h1 h2
        by_cases e : d = i
        · subst e
          rw [Array.getElem_setIfInBounds_self]
          rw [← hu]
          exact he.symm
        · rw [Array.getElem_setIfInBounds_ne _ e]

/-- all from i up to j are passed by -/
theorem Seq.pass {j : Nat} (m : Nat) : ∀ {i : Nat}, i + m = j → (List.range' i m).all (idle ops a.tmps) = true → Seq P ops Q j a w → Seq P ops Q i a w := by
  induction m with
  | zero => intro i hi _ h; have e : i = j := by omega
            rw [e]; exact h
  | succ m ih =>
    intro i hi hall h
    rw [List.range'_succ, List.all_cons, Bool.and_eq_true] at hall
    obtain ⟨h1, h2⟩ := hall
    have hrest := ih (i := i + 1) (by omega) h2 h
    unfold idle at h1
    cases ho : ops[i]? with
    | none => rw [ho] at h1; simp at h1
    | some o =>
      rw [ho] at h1
      dsimp only at h1
      rw [Bool.and_eq_true] at h1
      have hw : Region.wanted o (yielded ops a.tmps) = false := by simpa using h1.1
      refine Seq.step ho fun K' hK => ?_
      rw [if_neg (by rw [hw]; simp)]
      cases hd : o.dst with
      | none => exact hK.out _ _ hrest
      | some d =>
        have h3 := h1.2
        rw [hd] at h3
        dsimp only at h3
        rw [put_undef h3]
        exact hK.out _ _ hrest
end
end Go.Proofs.YtcpphobokdkkeaaDoor
