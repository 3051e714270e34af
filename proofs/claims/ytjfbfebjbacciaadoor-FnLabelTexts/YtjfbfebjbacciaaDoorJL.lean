/- A law on a region that draws its order: an operation that waits for all the others (a store at the end) need not keep what is held of the memory. -/
import Derived.Test.YtjfbfebjbacciaaDoorLO
import Derived.Deep.RegionHeld
import Derived.Maps.Own
namespace Go.Proofs.YtjfbfebjbacciaaDoor
open Go Go.RowKit Go.Deep Go.Maps

section
variable {P : Program} {ops : Array Oper} {Q : Exit → Act → World → Prop} {md : Region.Mode} {S : World → Prop} {n : Nat}

/-- In whatever order the rest comes up, S is met behind each of it but number n. -/
def AnyL (P : Program) (md : Region.Mode) (ops : Array Oper) (Q : Exit → Act → World → Prop) (S : World → Prop) (n : Nat) (f : Nat) (L : Array Bool) (a : Act) (w : World) : Prop :=
  match f with
  | 0 => Region.ready md ops L = [] ∧ Q .normal a w
  | f + 1 => (Region.ready md ops L = [] → Q .normal a w) ∧
      ∀ i ∈ Region.ready md ops L, wpOp P ops Q i (fun a' w' => (i ≠ n → S w') ∧ AnyL P md ops Q S n f (L.setIfInBounds i true) a' w') a w

theorem AnyL.any {f : Nat} : ∀ {L : Array Bool} {a : Act} {w : World}, AnyL P md ops Q S n f L a w → wpAny P md ops Q f L a w := by
  induction f with
  | zero => intro L a w h; exact h
  | succ f ih => intro L a w h; exact ⟨h.1, fun i hi => wpOp_mono (fun _ _ k => ih k.2) (h.2 i hi)⟩

theorem ready_unlisted {i : Nat} {L : Array Bool} (h : i ∈ Region.ready md ops L) : L.getD i false = false := by
  have h0 := (mem_ready.1 h).1
  by_cases hl : i < L.size
  · simp [hl] at h0 ⊢; exact h0
  · simp [Array.getElem?_eq_none (Nat.le_of_not_lt hl)]

theorem AnyL.takes {i : Nat} {oi : Oper} {v : Value} (hi : ops[i]? = some oi) (hs : Region.noSelect ops = true)
    (hwait : ∀ o, ops[n]? = some o → ∃ e ∈ o.after, Region.binds md e = true ∧ e.on = i)
    (hQ : ∀ c a w, Q (.panic c) (a.put oi.dst v) w → Q (.panic c) a w) (f : Nat) : ∀ {L : Array Bool} {a : Act} {w : World},
    (∀ j oj, ops[j]? = some oj → j ≠ i → L.getD j true = false → (∀ e ∈ oj.after, Region.binds md e = true → e.on ≠ i) → oi.apart ops oj = true) →
    i ∈ Region.ready md ops L → YieldsIf P ops S oi v a → S w → AnyL P md ops Q S n f (L.setIfInBounds i true) (a.put oi.dst v) w → AnyL P md ops Q S n (f + 1) L a w := by
  have sel := Region.noSelect_spec hs
  induction f with
  | zero =>
    intro L a w _ hr hy hS H
    refine ⟨fun e => absurd hr (by rw [e]; simp), fun j hj => ?_⟩
    by_cases e : j = i
    · subst e; exact hy.wpOp hi hS ⟨fun _ => hS, H⟩
    · have := ready_mono hj e
      rw [H.1] at this
      simp at this
  | succ f ih =>
    intro L a w hfree hr hy hS H
    refine ⟨fun e => absurd hr (by rw [e]; simp), fun j hj => ?_⟩
    by_cases e : j = i
    · subst e; exact hy.wpOp hi hS ⟨fun _ => hS, H⟩
    · obtain ⟨hun, oj, hoj, hall⟩ := mem_ready.1 hj
      have un := ready_unlisted hr
      have apart : ∀ x ∈ oj.after, Region.binds md x = true → x.on ≠ i := fun x hx hb hq => by
        have := hall x hx hb
        rw [hq, un] at this
        cases this
      have hjn : j ≠ n := fun hq => by
        obtain ⟨x, hx, hb, ho⟩ := hwait oj (by rw [← hq]; exact hoj)
        exact apart x hx hb ho
      refine wpOp_mono (fun a' w' k => ⟨fun _ => k.2.1 hjn, ?_⟩) (wpOp_putIf hoj (hfree j oj hoj e hun apart) (fun cs b => sel i oi cs b hi) (fun cs b => sel j oj cs b hoj) hQ hy (H.2 j (ready_mono hj e)))
      refine ih (fun k ok hk hki hkl hkn => hfree k ok hk hki ?_ hkn) (ready_mono hr (Ne.symm e)) k.1 (k.2.1 hjn) ?_
      · by_cases q : j = k
        · subst q; exact hun
        · rw [getD_set_ne true q] at hkl; exact hkl
      · rw [Array.setIfInBounds_comm _ _ e]; exact k.2.2

/-- does number n wait for number i? -/
def waits (md : Region.Mode) (ops : Array Oper) (n i : Nat) : Bool := match ops[n]? with
  | some o => o.after.any (fun e => Region.binds md e && e.on == i)
  | none => true

theorem waits_out {i : Nat} (h : waits md ops n i = true) : ∀ o, ops[n]? = some o → ∃ e ∈ o.after, Region.binds md e = true ∧ e.on = i := fun o ho => by
  unfold waits at h
  rw [ho] at h
  dsimp only at h
  obtain ⟨e, he, hb⟩ := Array.any_eq_true'.1 h
  simp only [Bool.and_eq_true, beq_iff_eq] at hb
  exact ⟨e, he, hb⟩

theorem AnyL.take {i : Nat} {oi : Oper} (v : Value) {f : Nat} {L : Array Bool} {a : Act} {w : World} (hi : ops[i]? = some oi) (hs : Region.noSelect ops = true) (hf : Region.free md ops L i = true)
    (hr : (Region.ready md ops L).contains i = true) (hw : waits md ops n i = true) (hQ : ∀ c a w, Q (.panic c) (a.put oi.dst v) w → Q (.panic c) a w) (hS : S w)
    (hy : YieldsIf P ops S oi v a) (h : AnyL P md ops Q S n f (L.setIfInBounds i true) (a.put oi.dst v) w) : AnyL P md ops Q S n (f + 1) L a w :=
  AnyL.takes hi hs (waits_out hw) hQ f (Region.free_spec hi hf) (by simpa using hr) hy hS h

theorem AnyL.one {i : Nat} {o : Oper} {f : Nat} {L : Array Bool} {a : Act} {w : World} (hi : ops[i]? = some o) (hr : Region.ready md ops L = [i])
    (h : ∀ K' : Act → World → Prop, Hid (∀ a w, (i ≠ n → S w) → AnyL P md ops Q S n f (L.setIfInBounds i true) a w → K' a w) → if Region.wanted o (yielded ops a.tmps) = true then Oper.wp P o a w K' Q else K' (a.put o.dst undef) w) : AnyL P md ops Q S n (f + 1) L a w :=
  ⟨fun e => absurd (hr.symm.trans e) (by simp), fun j hj => by
    rw [hr] at hj
    obtain rfl : j = i := by simpa using hj
    exact wpOp_step hi (fun K' hK => h K' (fun a w h1 h2 => hK a w ⟨h1, h2⟩))⟩

theorem AnyL.done {f : Nat} {L : Array Bool} {a : Act} {w : World} (hr : Region.ready md ops L = []) (h : Q .normal a w) : AnyL P md ops Q S n f L a w := by
  cases f with
  | zero => exact ⟨hr, h⟩
  | succ f => exact ⟨fun _ => h, fun i hi => by rw [hr] at hi; simp at hi⟩

theorem AnyL.region {id : Nat} {a : Act} {w : World} (S : World → Prop) (n : Nat) (hm : P.follows .mixedOrders = true) (h : AnyL P .any ops Q S n ops.size (Array.replicate ops.size false) a w.drew) : (Code.region id ops true).wp P Q a w :=
  wp_region_any hm h.any
end

end Go.Proofs.YtjfbfebjbacciaaDoor
