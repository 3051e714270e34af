/- Texts put together. -/
import Derived.Test.YtaaeeaknjlammaaGreatDoorX
import Derived.RangeFuncNested
import Derived.RangeFuncBound
import Derived.RangeFuncCalls
import Derived.RangeFuncLeaves
import Derived.OrdersIn
import Derived.OrdersHeld
import Derived.Shelf.Abstract
import Derived.Shelf.RegionOpen
import Derived.OwnWalkIn
import Derived.TacticsInMore
import Derived.LoopNIn
import Derived.LoopIn
import Derived.Test.YtaaeeaknjlammaaGreatDoorZA
import Derived.RangeFuncFrom
/- What a round of a loop over the program's iterator keeps: all cells and all maps lie as they lay. -/
namespace Go.Proofs.YtaaeeaknjlammaaGreatDoor
open Go.RowKit Go.Deep Go.Maps

/-- every block of cells and every map lies as it lay -/
structure KeepsAll (W W' : World) : Prop where
  size : W.heap.size ≤ W'.heap.size
  same : ∀ (k : Nat) (o : Obj), W.heap[k]? = some o → (o.isCells = true ∨ o.isWalk = true) → W'.heap[k]? = some o

theorem KeepsAll.refl (W : World) : KeepsAll W W := ⟨Nat.le_refl _, fun _ _ h _ => h⟩
theorem KeepsAll.trans {A B C : World} (h : KeepsAll A B) (k : KeepsAll B C) : KeepsAll A C :=
  ⟨Nat.le_trans h.size k.size, fun i o hi ho => k.same i o (h.same i o hi ho) ho⟩
theorem KeepsAll.book {w : World} (W : World) (l : Nat) (o o' : Obj) (_ : w.heap.size ≤ l) (h : W.heap[l]? = some o) (hc : o.isCells = false) (hw : o.isWalk = false) : KeepsAll W (W.putObj l o') :=
  ⟨by simp, fun k o'' hk ho => by
    by_cases e : k = l
    · subst e; rw [h] at hk; cases hk; rw [hc, hw] at ho; simp at ho
    · exact (World.putObj_heap_other e).trans hk⟩
theorem KeepsAll.of_below {W W' : World} (h : Below W.heap.size W W') : KeepsAll W W' :=
  ⟨h.size, fun k _ hk _ => (h.block k (Array.getElem?_eq_some_iff.1 hk).1).trans hk⟩

theorem KeepsAll.cell {W W' : World} (h : KeepsAll W W') {a : Addr} {v : Value} (hv : W.cell? a = some v) : W'.cell? a = some v := by
  have hv' := hv
  unfold World.cell? at hv
  cases ho : W.heap[a.block]? with
  | none => simp [ho] at hv
  | some o =>
    have hc : o.isCells = true := by cases o <;> simp_all [Obj.isCells]
    have := h.same _ _ ho (.inl hc)
    exact (World.cell?_of_block (this.trans ho.symm)).trans hv'

theorem KeepsAll.map {W W' : World} (h : KeepsAll W W') {b n : Nat} {m : Int → Option Int} (hm : MapIs W b n m) : MapIs W' b n m := by
  have hm' := hm
  obtain ⟨D, ⟨es, clock, hb, F, hs, hD⟩, r⟩ := hm
  exact hm'.of_block ((h.same b _ hb (.inr rfl)).trans hb.symm)

theorem grown_of_below {W W' : World} (h : Below W.heap.size W W') : W.grownBy W' none := ⟨h.os, h.tape, h.output, h.size, fun k hk _ => h.block k hk⟩
end Go.Proofs.YtaaeeaknjlammaaGreatDoor

/- A law on a region that draws its order, inside a fence: what is held of the memory is held behind all operations but some, each of which waits, in the end, for what is taken. -/
namespace Go.Proofs.YtaaeeaknjlammaaGreatDoor
open Go Go.RowKit Go.Deep Go.Maps

section
variable {F : Fence} {n : Nat} {P : Program} {ops : Array Oper} {Q : Exit → Act → World → Prop} {md : Region.Mode} {S : World → Prop} {X : List Nat}

/-- what yields in every world that meets S, and is about to make no call -/
def YieldsF (P : Program) (ops : Array Oper) (S : World → Prop) (o : Oper) (v : Value) (a : Act) : Prop := YieldsIf P ops S o v a ∧ ∀ w, o.about P w a.eval = none

theorem YieldsF.wpOpIn {i : Nat} {o : Oper} {v : Value} {a : Act} (hro : F.round = none) (hi : ops[i]? = some o) (hy : YieldsF P ops S o v a)
    {K : Act → World → Prop} {w : World} (hS : S w) (h : K (a.put o.dst v) w) : wpOpIn F n P ops Q i K a w := by
  unfold Go.wpOpIn
  simp only [hi]
  have hab : ∀ f, o.about P w a.eval = some f → F.fn f := fun f hf => by rw [hy.2 w] at hf; cases hf
  rcases hy.1 with ⟨hw, hv⟩ | ⟨hw, rfl⟩
  · simp only [hw, if_true, Oper.wpIn, hro, Oper.semAt_none, hv w hS, Oper.uponIn]; exact ⟨hab, h⟩
  · simp only [hw, Bool.false_eq_true, if_false]; exact ⟨hab, h⟩

theorem YieldsF.of_same {o : Oper} {v : Value} {a a' : Act} (hy : YieldsF P ops S o v a) (he : execOp a'.eval o = execOp a.eval o)
    (hw : Region.wanted o (yielded ops a'.tmps) = Region.wanted o (yielded ops a.tmps)) (hb : ∀ w, o.about P w a'.eval = o.about P w a.eval) : YieldsF P ops S o v a' :=
  ⟨hy.1.of_same he hw, fun w => by rw [hb w]; exact hy.2 w⟩

theorem wpOpIn_putF {j : Nat} {oi oj : Oper} {v : Value} (hro : F.round = none) (hj : ops[j]? = some oj) (hap : oi.apart ops oj = true)
    (hsi : ∀ cs b, oi.op ≠ .select cs b) (hsj : ∀ cs b, oj.op ≠ .select cs b)
    (hQ : ∀ c a w, Q (.panic c) (a.put oi.dst v) w → Q (.panic c) a w) {K : Act → World → Prop} {a : Act} {w : World}
    (hy : YieldsF P ops S oi v a) (h : wpOpIn F n P ops Q j K (a.put oi.dst v) w) :
    wpOpIn F n P ops Q j (fun a' w' => YieldsF P ops S oi v a' ∧ K (a'.put oi.dst v) w') a w := by
  obtain ⟨h1, h2, h3⟩ := Oper.apart_spec hap
  have keep : ∀ (a : Act), YieldsF P ops S oi v a → ∀ u, YieldsF P ops S oi v (a.put oj.dst u) := fun a hy u =>
    hy.of_same (execOp_put oi hsi a oj.dst u h3) (wanted_put oi a oj.dst u h3) (fun w => about_put oi w a oj.dst u h3)
  have keepD : ∀ d, YieldsF P ops S oi v { a with defers := d :: a.defers } := fun d => hy.of_same rfl rfl (fun _ => rfl)
  unfold wpOpIn at *
  simp only [hj] at *
  rw [wanted_put oj a oi.dst v h1, about_put oj w a oi.dst v h1] at h
  split
  · rename_i hw
    simp only [hw, if_true] at h
    unfold Oper.wpIn at *
    rw [about_put oj w a oi.dst v h1] at h
    refine ⟨h.1, ?_⟩
    have h := h.2
    rw [hro, Oper.semAt_none, execOp_put oj hsj a oi.dst v h1] at h
    rw [hro, Oper.semAt_none]
    generalize (execOp a.eval oj).run P w = r at *
    cases r with
    | ok x w' =>
      cases x <;> simp only [Oper.uponIn] at h ⊢
      case value u => exact ⟨keep a hy u, by rw [← Act.put_comm a v u h2]; exact h⟩
      case skip => exact ⟨keep a hy _, by rw [← Act.put_comm a v undef h2]; exact h⟩
      case defer d =>
        refine ⟨keep _ (keepD d) _, ?_⟩
        rw [← Act.put_comm _ v undef h2, ← Act.put_defers]
        exact h
      case enter f args =>
        refine ⟨h.1, CallsIn.mono h.2 fun e w'' he => ?_⟩
        cases e with
        | returned u => exact ⟨keep a hy u, by rw [← Act.put_comm a v u h2]; exact he⟩
        | panicked c => exact hQ _ _ _ he
        | outgrown => exact he
      case row row args => exact ⟨h.1, RowsIn.mono h.2 fun u w'' he => ⟨keep a hy u, by rw [← Act.put_comm a v u h2]; exact he⟩⟩
      case round l f tmps assign body =>
        refine ⟨h.1, RoundIn.mono h.2 fun e w'' he => ?_⟩
        cases e with
        | returned u => exact ⟨keep a hy u, by rw [← Act.put_comm a v u h2]; exact he⟩
        | panicked c => exact hQ _ _ _ he
        | outgrown => exact he
    | halt x w' =>
      cases x <;> simp only [Oper.uponIn] at h ⊢
      case panic u => exact hQ _ _ _ h
  · rename_i hw
    simp only [hw] at h
    exact ⟨h.1, keep a hy _, by rw [← Act.put_comm a v undef h2]; exact h.2⟩

/-- In whatever order the rest comes up, S is met behind each of it but those of X. -/
def AnyF (F : Fence) (n : Nat) (P : Program) (md : Region.Mode) (ops : Array Oper) (Q : Exit → Act → World → Prop) (S : World → Prop) (X : List Nat) (f : Nat) (L : Array Bool) (a : Act) (w : World) : Prop :=
  match f with
  | 0 => Region.ready md ops L = [] ∧ Q .normal a w
  | f + 1 => (Region.ready md ops L = [] → Q .normal a w) ∧
      ∀ i ∈ Region.ready md ops L, wpOpIn F n P ops Q i (fun a' w' => (X.contains i = false → S w') ∧ AnyF F n P md ops Q S X f (L.setIfInBounds i true) a' w') a w

theorem AnyF.any {f : Nat} : ∀ {L : Array Bool} {a : Act} {w : World}, AnyF F n P md ops Q S X f L a w → wpAnyIn F n P md ops Q f L a w := by
  induction f with
  | zero => intro L a w h; exact h
  | succ f ih => intro L a w h; exact ⟨h.1, fun i hi => wpOpIn_mono (fun _ _ k => ih k.2) (h.2 i hi)⟩

/-- what is listed has all listed that it waits for -/
def ClosedL (md : Region.Mode) (ops : Array Oper) (L : Array Bool) : Prop :=
  ∀ k o, ops[k]? = some o → L.getD k false = true → ∀ e ∈ o.after, Region.binds md e = true → L.getD e.on false = true

/-- number x waits for number i, in the end -/
def leads (md : Region.Mode) (ops : Array Oper) : Nat → Nat → Nat → Bool
  | 0, _, _ => false
  | f + 1, x, i => match ops[x]? with
    | some o => o.after.any (fun e => Region.binds md e && (e.on == i || leads md ops f e.on i))
    | none => false

theorem leads_listed {L : Array Bool} (hc : ClosedL md ops L) {i : Nat} (f : Nat) : ∀ x, leads md ops f x i = true → (∀ o, ops[x]? = some o → ∀ e ∈ o.after, Region.binds md e = true → L.getD e.on false = true) → L.getD i false = true := by
  induction f with
  | zero => intro x h _; simp [leads] at h
  | succ f ih =>
    intro x h hx
    unfold leads at h
    cases ho : ops[x]? with
    | none => rw [ho] at h; simp at h
    | some o =>
      rw [ho] at h
      dsimp only at h
      obtain ⟨e, he, hb⟩ := Array.any_eq_true'.1 h
      simp only [Bool.and_eq_true, Bool.or_eq_true, beq_iff_eq] at hb
      have hl := hx o ho e he hb.1
      rcases hb.2 with q | q
      · rw [← q]; exact hl
      · exact ih e.on q (fun o' ho' e' he' hb' => hc e.on o' ho' hl e' he' hb')

theorem ClosedL.set {L : Array Bool} (hc : ClosedL md ops L) {j : Nat} (hj : j ∈ Region.ready md ops L) : ClosedL md ops (L.setIfInBounds j true) := by
  intro k o ho hk e he hb
  obtain ⟨hun, oj, hoj, hall⟩ := mem_ready.1 hj
  by_cases q : j = k
  · subst q
    rw [hoj] at ho; cases ho
    exact getD_set_true (hall e he hb)
  · rw [getD_set_ne false q] at hk
    exact getD_set_true (hc k o ho hk e he hb)

theorem ready_unlistedF {i : Nat} {L : Array Bool} (h : i ∈ Region.ready md ops L) : L.getD i false = false := by
  have h0 := (mem_ready.1 h).1
  by_cases hl : i < L.size
  · simp [hl] at h0 ⊢; exact h0
  · simp [Array.getElem?_eq_none (Nat.le_of_not_lt hl)]

theorem AnyF.takes {i : Nat} {oi : Oper} {v : Value} (hro : F.round = none) (hi : ops[i]? = some oi) (hs : Region.noSelect ops = true)
    (hX : ∀ x, X.contains x = true → leads md ops ops.size x i = true)
    (hQ : ∀ c a w, Q (.panic c) (a.put oi.dst v) w → Q (.panic c) a w) (f : Nat) : ∀ {L : Array Bool} {a : Act} {w : World}, ClosedL md ops L →
    (∀ j oj, ops[j]? = some oj → j ≠ i → L.getD j true = false → (∀ e ∈ oj.after, Region.binds md e = true → e.on ≠ i) → oi.apart ops oj = true) →
    i ∈ Region.ready md ops L → YieldsF P ops S oi v a → S w → AnyF F n P md ops Q S X f (L.setIfInBounds i true) (a.put oi.dst v) w → AnyF F n P md ops Q S X (f + 1) L a w := by
  have sel := Region.noSelect_spec hs
  induction f with
  | zero =>
    intro L a w _ _ hr hy hS H
    refine ⟨fun e => absurd hr (by rw [e]; simp), fun j hj => ?_⟩
    by_cases e : j = i
    · subst e; exact hy.wpOpIn hro hi hS ⟨fun _ => hS, H⟩
    · have := ready_mono hj e
      rw [H.1] at this
      simp at this
  | succ f ih =>
    intro L a w hcl hfree hr hy hS H
    refine ⟨fun e => absurd hr (by rw [e]; simp), fun j hj => ?_⟩
    by_cases e : j = i
    · subst e; exact hy.wpOpIn hro hi hS ⟨fun _ => hS, H⟩
    · obtain ⟨hun, oj, hoj, hall⟩ := mem_ready.1 hj
      have un := ready_unlistedF hr
      have apart : ∀ x ∈ oj.after, Region.binds md x = true → x.on ≠ i := fun x hx hb hq => by
        have := hall x hx hb
        rw [hq, un] at this
        cases this
      have hjX : X.contains j = false := by
        cases hc : X.contains j
        · rfl
        · have := leads_listed hcl ops.size j (hX j hc) (fun o ho e he hb => by rw [hoj] at ho; cases ho; exact hall e he hb)
          rw [un] at this
          cases this
      refine wpOpIn_mono (fun a' w' k => ⟨fun _ => k.2.1 hjX, ?_⟩) (wpOpIn_putF hro hoj (hfree j oj hoj e hun apart) (fun cs b => sel i oi cs b hi) (fun cs b => sel j oj cs b hoj) hQ hy (H.2 j (ready_mono hj e)))
      refine ih (hcl.set hj) (fun k ok hk hki hkl hkn => hfree k ok hk hki ?_ hkn) (ready_mono hr (Ne.symm e)) k.1 (k.2.1 hjX) ?_
      · by_cases q : j = k
        · subst q; exact hun
        · rw [getD_set_ne true q] at hkl; exact hkl
      · rw [Array.setIfInBounds_comm _ _ e]; exact k.2.2

/-- is it closed? -/
def closedB (md : Region.Mode) (ops : Array Oper) (L : Array Bool) : Bool :=
  (List.range ops.size).all fun k => !(L.getD k false) || match ops[k]? with
    | some o => o.after.all (fun e => !(Region.binds md e) || L.getD e.on false)
    | none => true

theorem closedB_out {L : Array Bool} (h : closedB md ops L = true) : ClosedL md ops L := by
  intro k o ho hk e he hb
  unfold closedB at h
  rw [List.all_eq_true] at h
  have := h k (List.mem_range.2 (Array.getElem?_eq_some_iff.1 ho).1)
  rw [hk, ho] at this
  simp only [Bool.not_true, Bool.false_or] at this
  have := (Array.all_eq_true'.1 this) e he
  rw [hb] at this
  simpa using this

theorem AnyF.takeD {i d : Nat} {oi : Oper} (v : Value) {f : Nat} {L : Array Bool} {a : Act} {w : World} (hro : F.round = none) (hi : ops[i]? = some oi) (hd : oi.dst = some d) (hs : Region.noSelect ops = true) (hf : Region.free md ops L i = true)
    (hr : (Region.ready md ops L).contains i = true) (hcl : closedB md ops L = true) (hX : X.all (fun x => leads md ops ops.size x i) = true) (hQ : ∀ c a w, Q (.panic c) (a.put (some d) v) w → Q (.panic c) a w) (hS : S w)
    (hy : YieldsIf P ops S oi v a) (hab : ∀ w, oi.about P w a.eval = none) (h : AnyF F n P md ops Q S X f (L.setIfInBounds i true) (a.put (some d) v) w) : AnyF F n P md ops Q S X (f + 1) L a w :=
  AnyF.takes (v := v) hro hi hs (fun x hx => List.all_eq_true.1 hX x (by simpa using hx)) (by rw [hd]; exact hQ) f (closedB_out hcl) (Region.free_spec hi hf) (by simpa using hr) ⟨hy, hab⟩ hS (by rw [hd]; exact h)

theorem AnyF.skip {i d : Nat} {oi : Oper} {f : Nat} {L : Array Bool} {a : Act} {w : World} (hro : F.round = none) (hi : ops[i]? = some oi) (hd : oi.dst = some d) (hs : Region.noSelect ops = true) (hf : Region.free md ops L i = true)
    (hr : (Region.ready md ops L).contains i = true) (hcl : closedB md ops L = true) (hX : X.all (fun x => leads md ops ops.size x i) = true) (hQ : ∀ c a w, Q (.panic c) (a.put (some d) undef) w → Q (.panic c) a w) (hS : S w)
    (hun : Region.wanted oi (yielded ops a.tmps) = false) (hab : ∀ w, oi.about P w a.eval = none) (h : AnyF F n P md ops Q S X f (L.setIfInBounds i true) (a.put (some d) undef) w) : AnyF F n P md ops Q S X (f + 1) L a w :=
  AnyF.takeD undef hro hi hd hs hf hr hcl hX hQ hS (Or.inr ⟨hun, rfl⟩) hab h

theorem AnyF.one {i : Nat} {o : Oper} {f : Nat} {L : Array Bool} {a : Act} {w : World} (hi : ops[i]? = some o) (hr : Region.ready md ops L = [i])
    (h : ∀ K' : Act → World → Prop, Hid (∀ a w, (X.contains i = false → S w) → AnyF F n P md ops Q S X f (L.setIfInBounds i true) a w → K' a w) → if Region.wanted o (yielded ops a.tmps) = true then Oper.wpIn F n P o a w K' Q else (∀ f, o.about P w a.eval = some f → F.fn f) ∧ K' (a.put o.dst undef) w) : AnyF F n P md ops Q S X (f + 1) L a w :=
  ⟨fun e => absurd (hr.symm.trans e) (by simp), fun j hj => by
    rw [hr] at hj
    obtain rfl : j = i := by simpa using hj
    exact wpOpIn_step hi (fun K' hK => h K' (fun a w h1 h2 => hK a w ⟨h1, h2⟩))⟩

theorem AnyF.done {f : Nat} {L : Array Bool} {a : Act} {w : World} (hr : Region.ready md ops L = []) (h : Q .normal a w) : AnyF F n P md ops Q S X f L a w := by
  cases f with
  | zero => exact ⟨hr, h⟩
  | succ f => exact ⟨fun _ => h, fun i hi => by rw [hr] at hi; simp at hi⟩

theorem AnyF.region {id : Nat} {a : Act} {w : World} (S : World → Prop) (X : List Nat) (hm : P.follows .mixedOrders = true) (h : AnyF F n P .any ops Q S X ops.size (Array.replicate ops.size false) a w.drew) : (Code.region id ops true).wpIn F n P Q a w :=
  wpIn_region_any hm h.any
end
end Go.Proofs.YtaaeeaknjlammaaGreatDoor

/- The program's iterator over the categories that one label has above another: what it gives, for every loop body that keeps what lies. -/
namespace Go.Proofs.YtaaeeaknjlammaaGreatDoor
open Go.RowKit Go.Deep Go.Maps Go.Shelf
attribute [local go_sem] Oper.semAt_some

theorem hidd {p : Prop} (h : p) : Hid p := h

/-- x is named by one of the two labels, and the first has it above the second -/
def aboveB (ba : Int) (na : Nat) (fa ga : Nat → Int) (bb : Int) (nb : Nat) (fb gb : Nat → Int) (x : Int) : Bool :=
  ((look fa ga na x).isSome || (look fb gb nb x).isSome) && decide (levOf bb nb fb gb x < levOf ba na fa ga x)

/-- both labels lie in boxes, and what they name lies there -/
structure TwoLabs (W : World) (A B : Nat) (ba : Int) (aa : Option Addr) (na ka : Nat) (fa ga : Nat → Int) (bb : Int) (ab : Option Addr) (nb kb : Nat) (fb gb : Nat → Int) : Prop where
  ltA : A < W.heap.size
  ltB : B < W.heap.size
  a0 : W.cell? ⟨A, 0, none⟩ = some (.int .i64 ba)
  a1 : W.cell? ⟨A, 1, none⟩ = some (.slice aa na ka)
  b0 : W.cell? ⟨B, 0, none⟩ = some (.int .i64 bb)
  b1 : W.cell? ⟨B, 1, none⟩ = some (.slice ab nb kb)
  ca : CatsAt W aa na fa ga
  cb : CatsAt W ab nb fb gb

theorem TwoLabs.below {W W' : World} {A B : Nat} {ba : Int} {aa : Option Addr} {na ka : Nat} {fa ga : Nat → Int} {bb : Int} {ab : Option Addr} {nb kb : Nat} {fb gb : Nat → Int}
    (h : TwoLabs W A B ba aa na ka fa ga bb ab nb kb fb gb) (hb : Below W.heap.size W W') : TwoLabs W' A B ba aa na ka fa ga bb ab nb kb fb gb :=
  ⟨Nat.lt_of_lt_of_le h.ltA hb.size, Nat.lt_of_lt_of_le h.ltB hb.size, (hb.cell (p := ⟨A, 0, none⟩) h.ltA).trans h.a0, (hb.cell (p := ⟨A, 1, none⟩) h.ltA).trans h.a1,
    (hb.cell (p := ⟨B, 0, none⟩) h.ltB).trans h.b0, (hb.cell (p := ⟨B, 1, none⟩) h.ltB).trans h.b1, h.ca.below hb, h.cb.below hb⟩

set_option maxRecDepth 100000 in
set_option maxHeartbeats 4000000 in
theorem catsAbove1_in (l A B : Nat) (ba : Int) (aa : Option Addr) (na ka : Nat) (fa ga : Nat → Int) (bb : Int) (ab : Option Addr) (nb kb : Nat) (fb gb : Nat → Int) (J Jx : List Int → World → Prop) (w : World)
    (ma : na ≤ 1048576) (mb : nb ≤ 1048576) (hwa : ∀ i, i < na → (Lit.int .i64 (fa i)).wf = true ∧ (Lit.int .i64 (ga i)).wf = true) (hwb : ∀ i, i < nb → (Lit.int .i64 (fb i)).wf = true ∧ (Lit.int .i64 (gb i)).wf = true)
    (hL : TwoLabs w A B ba aa na ka fa ga bb ab nb kb fb gb) (hJ : AbidesFrom w.heap.size J)
    (hY : ∀ pre x W1, J pre W1 → pre.length < na + nb → YieldAt Fence.wide 2 Tryz.prog l #[.int .i64 x] W1 fun e W' =>
      (e = .returned (.bool true) ∧ J (pre ++ [x]) W' ∧ KeepsAll W1 W') ∨ (e = .returned (.bool false) ∧ Jx (pre ++ [x]) W')) (h0 : J [] w) :
    Calls Tryz.prog 110 #[.func (.yield l) #[] #[], .pointer (some ⟨A, 0, none⟩), .pointer (some ⟨B, 0, none⟩)] w fun e W' => (∃ v, e = .returned v) ∧
      ((∃ xs, (∀ x, x ∈ xs ↔ aboveB ba na fa ga bb nb fb gb x = true) ∧ J xs W') ∨ (∃ pre, (∀ x, x ∈ pre → aboveB ba na fa ga bb nb fb gb x = true) ∧ Jx pre W')) := by
  have HWA : Hid (∀ i, i < na → (Lit.int .i64 (fa i)).wf = true ∧ (Lit.int .i64 (ga i)).wf = true) := hwa
  have HWB : Hid (∀ i, i < nb → (Lit.int .i64 (fb i)).wf = true ∧ (Lit.int .i64 (gb i)).wf = true) := hwb
  clear hwa hwb
  have HJ : Hid (∀ W', Below w.heap.size w W' → J [] W') := fun W' hb => hJ [] w W' none h0 (grown_of_below hb) (fun r e => by cases e)
  have HL : Hid (TwoLabs w A B ba aa na ka fa ga bb ab nb kb fb gb) := hL
  obtain ⟨lA, lB, x1, x2, x3, x4, hca, hcb⟩ := hL
  have levA : ∀ W, Below w.heap.size w W → Calls Tryz.prog 83 #[.agg #[.int .i64 ba, .slice aa na ka]] W fun e w' => ∃ c, e = .returned (.agg #[.int .i64 ba, .map (some c)]) ∧ W.heap.size ≤ c ∧ MapIs w' c na (look fa ga na) ∧ (∀ b o, b < W.heap.size → w'.cell? ⟨b, o, none⟩ = W.cell? ⟨b, o, none⟩) ∧ (∀ b o, b < W.heap.size → w'.frozen? ⟨b, o, none⟩ = W.frozen? ⟨b, o, none⟩) ∧ (∀ V : World, V.heap.size ≤ W.heap.size → V.heap.size + 3 < w'.heap.size) ∧ Below w.heap.size w w' ∧ Below W.heap.size W w' ∧ (w'.heap.size ≠ A ∧ w'.heap.size ≠ B ∧ w'.heap.size + 1 ≠ A ∧ w'.heap.size + 1 ≠ B) ∧ (w.heap.size < w'.heap.size ∧ w.heap.size + 1 < w'.heap.size ∧ w'.heap.size ≠ w.heap.size ∧ w'.heap.size ≠ w.heap.size + 1 ∧ w'.heap.size + 1 ≠ w.heap.size) ∧ w'.cell? ⟨A, 0, none⟩ = some (.int .i64 ba) ∧ w'.cell? ⟨A, 1, none⟩ = some (.slice aa na ka) ∧ w'.cell? ⟨B, 0, none⟩ = some (.int .i64 bb) ∧ w'.cell? ⟨B, 1, none⟩ = some (.slice ab nb kb) := fun W hW => by
    refine (levelsOf_any ba aa na ka fa ga W ma (hca.below hW) HWA.out).mono ?_
    rintro e w' ⟨c, rfl, hl, hm, hz, hb⟩
    have hW' := hW.trans (hb.mono hW.size)
    obtain ⟨q, p⟩ := bcell hb
    have hs := hW'.size
    have hs0 := hW.size
    exact ⟨c, rfl, hl, hm, q, p, fun V hV => by omega, hW', hb, by omega, lt3 (by omega), (hW'.cell (p := ⟨_, _, none⟩) lA).trans x1, (hW'.cell (p := ⟨_, _, none⟩) lA).trans x2, (hW'.cell (p := ⟨_, _, none⟩) lB).trans x3, (hW'.cell (p := ⟨_, _, none⟩) lB).trans x4⟩
  have HlevA : Hid (∀ W, Below w.heap.size w W → Calls Tryz.prog 83 #[.agg #[.int .i64 ba, .slice aa na ka]] W fun e w' => ∃ c, e = .returned (.agg #[.int .i64 ba, .map (some c)]) ∧ W.heap.size ≤ c ∧ MapIs w' c na (look fa ga na) ∧ (∀ b o, b < W.heap.size → w'.cell? ⟨b, o, none⟩ = W.cell? ⟨b, o, none⟩) ∧ (∀ b o, b < W.heap.size → w'.frozen? ⟨b, o, none⟩ = W.frozen? ⟨b, o, none⟩) ∧ (∀ V : World, V.heap.size ≤ W.heap.size → V.heap.size + 3 < w'.heap.size) ∧ Below w.heap.size w w' ∧ Below W.heap.size W w' ∧ (w'.heap.size ≠ A ∧ w'.heap.size ≠ B ∧ w'.heap.size + 1 ≠ A ∧ w'.heap.size + 1 ≠ B) ∧ (w.heap.size < w'.heap.size ∧ w.heap.size + 1 < w'.heap.size ∧ w'.heap.size ≠ w.heap.size ∧ w'.heap.size ≠ w.heap.size + 1 ∧ w'.heap.size + 1 ≠ w.heap.size) ∧ w'.cell? ⟨A, 0, none⟩ = some (.int .i64 ba) ∧ w'.cell? ⟨A, 1, none⟩ = some (.slice aa na ka) ∧ w'.cell? ⟨B, 0, none⟩ = some (.int .i64 bb) ∧ w'.cell? ⟨B, 1, none⟩ = some (.slice ab nb kb)) := levA
  clear levA
  have levB : ∀ W, Below w.heap.size w W → Calls Tryz.prog 83 #[.agg #[.int .i64 bb, .slice ab nb kb]] W fun e w' => ∃ c, e = .returned (.agg #[.int .i64 bb, .map (some c)]) ∧ W.heap.size ≤ c ∧ MapIs w' c nb (look fb gb nb) ∧ (∀ b o, b < W.heap.size → w'.cell? ⟨b, o, none⟩ = W.cell? ⟨b, o, none⟩) ∧ (∀ b o, b < W.heap.size → w'.frozen? ⟨b, o, none⟩ = W.frozen? ⟨b, o, none⟩) ∧ (∀ V : World, V.heap.size ≤ W.heap.size → V.heap.size + 3 < w'.heap.size) ∧ Below w.heap.size w w' ∧ Below W.heap.size W w' ∧ (w'.heap.size ≠ A ∧ w'.heap.size ≠ B ∧ w'.heap.size + 1 ≠ A ∧ w'.heap.size + 1 ≠ B) ∧ (w.heap.size < w'.heap.size ∧ w.heap.size + 1 < w'.heap.size ∧ w'.heap.size ≠ w.heap.size ∧ w'.heap.size ≠ w.heap.size + 1 ∧ w'.heap.size + 1 ≠ w.heap.size) ∧ w'.cell? ⟨A, 0, none⟩ = some (.int .i64 ba) ∧ w'.cell? ⟨A, 1, none⟩ = some (.slice aa na ka) ∧ w'.cell? ⟨B, 0, none⟩ = some (.int .i64 bb) ∧ w'.cell? ⟨B, 1, none⟩ = some (.slice ab nb kb) := fun W hW => by
    refine (levelsOf_any bb ab nb kb fb gb W mb (hcb.below hW) HWB.out).mono ?_
    rintro e w' ⟨c, rfl, hl, hm, hz, hb⟩
    have hW' := hW.trans (hb.mono hW.size)
    obtain ⟨q, p⟩ := bcell hb
    have hs := hW'.size
    have hs0 := hW.size
    exact ⟨c, rfl, hl, hm, q, p, fun V hV => by omega, hW', hb, by omega, lt3 (by omega), (hW'.cell (p := ⟨_, _, none⟩) lA).trans x1, (hW'.cell (p := ⟨_, _, none⟩) lA).trans x2, (hW'.cell (p := ⟨_, _, none⟩) lB).trans x3, (hW'.cell (p := ⟨_, _, none⟩) lB).trans x4⟩
  have HlevB : Hid (∀ W, Below w.heap.size w W → Calls Tryz.prog 83 #[.agg #[.int .i64 bb, .slice ab nb kb]] W fun e w' => ∃ c, e = .returned (.agg #[.int .i64 bb, .map (some c)]) ∧ W.heap.size ≤ c ∧ MapIs w' c nb (look fb gb nb) ∧ (∀ b o, b < W.heap.size → w'.cell? ⟨b, o, none⟩ = W.cell? ⟨b, o, none⟩) ∧ (∀ b o, b < W.heap.size → w'.frozen? ⟨b, o, none⟩ = W.frozen? ⟨b, o, none⟩) ∧ (∀ V : World, V.heap.size ≤ W.heap.size → V.heap.size + 3 < w'.heap.size) ∧ Below w.heap.size w w' ∧ Below W.heap.size W w' ∧ (w'.heap.size ≠ A ∧ w'.heap.size ≠ B ∧ w'.heap.size + 1 ≠ A ∧ w'.heap.size + 1 ≠ B) ∧ (w.heap.size < w'.heap.size ∧ w.heap.size + 1 < w'.heap.size ∧ w'.heap.size ≠ w.heap.size ∧ w'.heap.size ≠ w.heap.size + 1 ∧ w'.heap.size + 1 ≠ w.heap.size) ∧ w'.cell? ⟨A, 0, none⟩ = some (.int .i64 ba) ∧ w'.cell? ⟨A, 1, none⟩ = some (.slice aa na ka) ∧ w'.cell? ⟨B, 0, none⟩ = some (.int .i64 bb) ∧ w'.cell? ⟨B, 1, none⟩ = some (.slice ab nb kb)) := levB
  clear levB
  have HE00 : Hid (Below w.heap.size w w.drew) := (Below.refl _ _).drew
  have HE0 : Hid (∀ o, Below w.heap.size w (w.alloc o).drew) := fun o => ((Below.refl _ _).alloc (Nat.le_refl _) o).drew
  have HE000 : Hid (∀ o o', Below w.heap.size w ((w.alloc o).alloc o').drew) := fun o o' => (((Below.refl _ _).alloc (Nat.le_refl _) o).alloc (by simp) o').drew
  have HY := hidd hY
  have HJ0 := hidd hJ
  clear hY hJ h0 hca hcb
  have n1 : w.heap.size ≠ A := by omega
  have n2 : w.heap.size ≠ B := by omega
  have n3 : w.heap.size + 1 ≠ A := by omega
  have n4 : w.heap.size + 1 ≠ B := by omega
  go_enter Tryz.func110, Tryz.ntmps110
  go_upto_region 0 with fail
  go_cut [4, 5] (fun p q wc => ∃ P Q c d : Nat, p = .pointer (some ⟨P, 0, none⟩) ∧ q = .pointer (some ⟨Q, 0, none⟩) ∧ Cell2 wc P (.int .i64 ba) (.map (some c)) ∧ Cell2 wc Q (.int .i64 bb) (.map (some d)) ∧ MapIs wc c na (look fa ga na) ∧ MapIs wc d nb (look fb gb nb) ∧ Below w.heap.size w wc)
  case first =>
    go_region_held3 (fun w' => w'.cell? ⟨A, 0, none⟩ = some (.int .i64 ba) ∧ w'.cell? ⟨A, 1, none⟩ = some (.slice aa na ka) ∧ w'.cell? ⟨B, 0, none⟩ = some (.int .i64 bb) ∧ w'.cell? ⟨B, 1, none⟩ = some (.slice ab nb kb)) (first | go_keep | (simp [*]))
      (first
        | (go_at_call 83; have hb1' := hb1; clear hb1'; refine (HlevB.out _ ?hB).mono ?_; (case hB => first | exact E1 | exact E1.alloc E1.size _ | exact (E1.alloc E1.size _).alloc (E1.alloc E1.size _).size _); rintro e v2 ⟨c2, rfl, hl2, m2, qb, pb, rb, E2, hb2, ⟨s1, s2, s3, s4⟩, ⟨g1, g2, g3, g4, g5⟩, y1, y2, y3, y4⟩; have rb' := rb v1 (by simp; try omega); obtain ⟨f1, f2, f3, f4, f5⟩ := lt3 rb')
        | (go_at_call 83; refine (HlevA.out _ ?hB).mono ?_; (case hB => first | exact HE00.out | exact HE0.out _ | exact HE000.out _ _); rintro e v1 ⟨c1, rfl, hl1, m1, qa, pa, ra, E1, hb1, ⟨r1, r2, r3, r4⟩, ⟨d1, d2, d3, d4, d5⟩, p1, p2, p3, p4⟩))
    all_goals
      have l1 := m1.lt
      have l2 := m2.lt
      try simp at hl1
      try simp at hl2
      clear qa pa qb pb HlevA HlevB
      have E3 : Below w.heap.size w v2 := E2
      go_wp2_with fail
      go_meet
      case rel =>
        refine ⟨_, _, c1, c2, rfl, rfl, ?_, ?_, ?_, ?_, ?_⟩
        · repeat (first | (with_reducible refine Cell2.new' ?_; simp; done) | with_reducible refine Cell2.set01 ?_ _ _ | (with_reducible refine Cell2.other ?_ ?_ _; rotate_left; (dsimp only; omega)) | with_reducible refine Cell2.alloc ?_ _)
          all_goals repeat (first | (with_reducible refine Has2.new' ?_; simp; done) | (with_reducible refine Has2.other ?_ ?_ _; rotate_left; (dsimp only; omega)) | with_reducible refine Has2.alloc ?_ _ | with_reducible refine Has2.drew ?_ | with_reducible refine Has2.below ?_ hb2 | with_reducible refine Has2.below ?_ hb1)
        · repeat (first | (with_reducible refine Cell2.new' ?_; simp; done) | with_reducible refine Cell2.set01 ?_ _ _ | (with_reducible refine Cell2.other ?_ ?_ _; rotate_left; (dsimp only; omega)) | with_reducible refine Cell2.alloc ?_ _)
          all_goals repeat (first | (with_reducible refine Has2.new' ?_; simp; done) | (with_reducible refine Has2.other ?_ ?_ _; rotate_left; (dsimp only; omega)) | with_reducible refine Has2.alloc ?_ _ | with_reducible refine Has2.drew ?_ | with_reducible refine Has2.below ?_ hb2 | with_reducible refine Has2.below ?_ hb1)
        · repeat (first | with_reducible exact m1 | (with_reducible refine MapIs.setCell ?_ ?_ _; rotate_left; (dsimp only; omega)) | with_reducible refine MapIs.alloc ?_ _ | with_reducible refine MapIs.below ?_ hb2)
        · repeat (first | with_reducible exact m2 | (with_reducible refine MapIs.setCell ?_ ?_ _; rotate_left; (dsimp only; omega)) | with_reducible refine MapIs.alloc ?_ _)
        · repeat (first | with_reducible exact E3 | (with_reducible refine Below.setCell ?_ ?_ _; rotate_left; (dsimp only; omega)) | (with_reducible refine Below.alloc ?_ ?_ _; rotate_left; (first | omega | (simp; omega))))
  case rest =>
    obtain ⟨P, Q, c, d, rfl, rfl, u1, u2, m1, m2, Bc⟩ := hcut
    obtain ⟨a1, a2⟩ := u1.cells
    obtain ⟨a3, a4⟩ := u2.cells
    have lP := u1.lt
    have lQ := u2.lt
    clear u1 u2 n1 n2 n3 n4 x1 x2 x3 x4 HE00 HE0 HE000 HlevA HlevB HWA HWB
    rename_i QQ KK hKK
    refine hKK _ _ ((wpIn_wide (n := 3)).1 ?_)
    clear hKK KK
    have hmix : Tryz.prog.follows .mixedOrders = true := by kernel_rfl
    gi_wp2_with fail
    refine ⟨trivial, ?_⟩
    refine (callsIn_wide.2 (namedBy_any _ _ _ _ _ _ _ _ _ m1 m2 (by omega))).mono ?_
    rintro e w3 ⟨a, n, cap, h, rfl, hle, hat, hmem, hris, hwf, hb3⟩
    have b1 := (hb3.cell (p := ⟨P, 0, none⟩) lP).trans a1
    have b2 := (hb3.cell (p := ⟨P, 1, none⟩) lP).trans a2
    have b3 := (hb3.cell (p := ⟨Q, 0, none⟩) lQ).trans a3
    have b4 := (hb3.cell (p := ⟨Q, 1, none⟩) lQ).trans a4
    have M1 := m1.below hb3
    have M2 := m2.below hb3
    have lP3 : P < w3.heap.size := Nat.lt_of_lt_of_le lP hb3.size
    have lQ3 : Q < w3.heap.size := Nat.lt_of_lt_of_le lQ hb3.size
    have J3 : Hid (J [] w3) := HJ.out _ (Bc.trans (hb3.mono Bc.size))
    have HM : Hid (∀ x, (∃ i, i < n ∧ h i = x) ↔ ((look fa ga na x).isSome || (look fb gb nb x).isSome) = true) := hmem
    have HWF : Hid (∀ i, i < n → (Lit.int .i64 (h i)).wf = true) := hwf
    have HR : Hid (∀ j, j < n → ∀ i, i < j → h i < h j) := hris
    clear a1 a2 a3 a4 m1 m2 hmem hwf hris lP lQ hb3 Bc HJ HL lA lB
    gi_wp2
    gi_loopw [16] (fun i wr => ∃ (k : Nat) (pre : List Int), k ≤ n ∧ i = .int .i64 k ∧ pre.length ≤ k ∧ (∀ x, x ∈ pre ↔ (∃ j, j < k ∧ h j = x) ∧ levOf bb nb fb gb x < levOf ba na fa ga x) ∧ J pre wr ∧ KeepsAll w3 wr) (fun i _ => n - (intOf i).toNat)
    case atStart => exact ⟨0, [], Nat.zero_le _, rfl, Nat.le_refl _, fun x => by simp, J3.out, KeepsAll.refl _⟩
    case round =>
      obtain ⟨k, pre, hk, rfl, hpl, hpre, hJp, hK⟩ := hrel
      have HP : Hid (∀ x, x ∈ pre ↔ (∃ j, j < k ∧ h j = x) ∧ levOf bb nb fb gb x < levOf ba na fa ga x) := hpre
      have HJp : Hid (J pre wr) := hJp
      clear hpre hJp
      by_cases hlt' : k < n
      · obtain ⟨b, off, rfl, hlt, hcc⟩ := hat (by omega)
        have r5 := hK.cell (hcc k hlt')
        have r1 := hK.cell b1
        have r2 := hK.cell b2
        have r3 := hK.cell b3
        have r4 := hK.cell b4
        have lPr : P < wr.heap.size := Nat.lt_of_lt_of_le lP3 hK.size
        have lQr : Q < wr.heap.size := Nat.lt_of_lt_of_le lQ3 hK.size
        have N1 : MapIs wr.drew c na (look fa ga na) := (hK.map M1).below (Below.refl _ _).drew
        have N2 : MapIs wr.drew d nb (look fb gb nb) := (hK.map M2).below (Below.refl _ _).drew
        have HWX : Hid ((Lit.int .i64 (h k)).wf = true) := HWF.out k hlt'
        clear hcc hat b1 b2 b3 b4 M1 M2
        by_cases t5 : levOf bb nb fb gb (h k) < levOf ba na fa ga (h k)
        · have hyk : Hid (∀ W, Below wr.heap.size wr W → YieldAt Fence.wide 2 Tryz.prog l #[.int .i64 (h k)] W fun e W' =>
              (e = .returned (.bool true) ∧ J (pre ++ [h k]) W' ∧ KeepsAll W W') ∨ (e = .returned (.bool false) ∧ Jx (pre ++ [h k]) W')) := fun W hb =>
            HY.out pre (h k) W (HJ0.out pre wr W none HJp.out (grown_of_below hb) (fun r e => by cases e)) (by omega)
          gi_wp2_with fail
          refine AnyF.region (fun w' => w'.cell? ⟨P, 0, none⟩ = some (.int .i64 ba) ∧ w'.cell? ⟨P, 1, none⟩ = some (.map (some c)) ∧ w'.cell? ⟨Q, 0, none⟩ = some (.int .i64 bb) ∧ w'.cell? ⟨Q, 1, none⟩ = some (.map (some d))) [10, 11, 12] hmix ?_
          have S0 : wr.drew.cell? ⟨P, 0, none⟩ = some (.int .i64 ba) ∧ wr.drew.cell? ⟨P, 1, none⟩ = some (.map (some c)) ∧ wr.drew.cell? ⟨Q, 0, none⟩ = some (.int .i64 bb) ∧ wr.drew.cell? ⟨Q, 1, none⟩ = some (.map (some d)) := ⟨r1, r2, r3, r4⟩
          refine AnyF.takeD (i := 0) (d := 20) (.agg #[.int .i64 ba, .map (some c)]) rfl rfl rfl (by kernel_rfl) (by kernel_rfl) (by kernel_rfl) (by kernel_rfl) (by kernel_rfl) (fun _ _ _ h => h) S0 (Or.inl ⟨by rfl, fun w' h => (by dsimp only at h; go_simp)⟩) (fun _ => by rfl) ?_
          simp only [Act.put, List.setIfInBounds_toArray, List.set_cons_zero, List.set_cons_succ]
          refine AnyF.takeD (i := 1) (d := 21) (.int .i64 (h k)) rfl rfl rfl (by kernel_rfl) (by kernel_rfl) (by kernel_rfl) (by kernel_rfl) (by kernel_rfl) (fun _ _ _ h => h) S0 (Or.inl ⟨by rfl, fun w' h => (by dsimp only at h; go_simp)⟩) (fun _ => by rfl) ?_
          simp only [Act.put, List.setIfInBounds_toArray, List.set_cons_zero, List.set_cons_succ]
          refine AnyF.takeD (i := 3) (d := 23) (.agg #[.int .i64 bb, .map (some d)]) rfl rfl rfl (by kernel_rfl) (by kernel_rfl) (by kernel_rfl) (by kernel_rfl) (by kernel_rfl) (fun _ _ _ h => h) S0 (Or.inl ⟨by rfl, fun w' h => (by dsimp only at h; go_simp)⟩) (fun _ => by rfl) ?_
          simp only [Act.put, List.setIfInBounds_toArray, List.set_cons_zero, List.set_cons_succ]
          refine AnyF.takeD (i := 4) (d := 24) (.int .i64 (h k)) rfl rfl rfl (by kernel_rfl) (by kernel_rfl) (by kernel_rfl) (by kernel_rfl) (by kernel_rfl) (fun _ _ _ h => h) S0 (Or.inl ⟨by rfl, fun w' h => (by dsimp only at h; go_simp)⟩) (fun _ => by rfl) ?_
          simp only [Act.put, List.setIfInBounds_toArray, List.set_cons_zero, List.set_cons_succ]
          refine AnyF.one (i := 2) rfl (by kernel_rfl) (fun K1 hK1 => ?_)
          go_simp
          refine ⟨trivial, ?_⟩
          refine (callsIn_wide.2 (of_lev ba c na fa ga (h k) _ N1 HWX.out)).mono ?_
          rintro e v1 ⟨rfl, hb1⟩
          have S1 : v1.cell? ⟨P, 0, none⟩ = some (.int .i64 ba) ∧ v1.cell? ⟨P, 1, none⟩ = some (.map (some c)) ∧ v1.cell? ⟨Q, 0, none⟩ = some (.int .i64 bb) ∧ v1.cell? ⟨Q, 1, none⟩ = some (.map (some d)) := ⟨(hb1.cell (p := ⟨P, 0, none⟩) lPr).trans r1, (hb1.cell (p := ⟨P, 1, none⟩) lPr).trans r2, (hb1.cell (p := ⟨Q, 0, none⟩) lQr).trans r3, (hb1.cell (p := ⟨Q, 1, none⟩) lQr).trans r4⟩
          refine hK1.out _ _ (fun _ => S1) ?_
          clear hK1 K1
          refine AnyF.one (i := 5) rfl (by kernel_rfl) (fun K1 hK1 => ?_)
          go_simp
          refine ⟨trivial, ?_⟩
          refine (callsIn_wide.2 (of_lev bb d nb fb gb (h k) _ (N2.below hb1) HWX.out)).mono ?_
          rintro e v2 ⟨rfl, hb2⟩
          have lPv : P < v1.heap.size := Nat.lt_of_lt_of_le lPr hb1.size
          have lQv : Q < v1.heap.size := Nat.lt_of_lt_of_le lQr hb1.size
          have S2 : v2.cell? ⟨P, 0, none⟩ = some (.int .i64 ba) ∧ v2.cell? ⟨P, 1, none⟩ = some (.map (some c)) ∧ v2.cell? ⟨Q, 0, none⟩ = some (.int .i64 bb) ∧ v2.cell? ⟨Q, 1, none⟩ = some (.map (some d)) := ⟨(hb2.cell (p := ⟨P, 0, none⟩) lPv).trans S1.1, (hb2.cell (p := ⟨P, 1, none⟩) lPv).trans S1.2.1, (hb2.cell (p := ⟨Q, 0, none⟩) lQv).trans S1.2.2.1, (hb2.cell (p := ⟨Q, 1, none⟩) lQv).trans S1.2.2.2⟩
          have B2 : Below wr.heap.size wr v2 := (((Below.refl _ wr).drew.trans hb1).trans (hb2.mono hb1.size))
          refine hK1.out _ _ (fun _ => S2) ?_
          clear hK1 K1 S0 S1 hb1 hb2
          refine AnyF.takeD (i := 6) (d := 26) (.bool true) rfl rfl rfl (by kernel_rfl) (by kernel_rfl) (by kernel_rfl) (by kernel_rfl) (by kernel_rfl) (fun _ _ _ h => h) S2 (Or.inl ⟨by rfl, fun w' h => (by dsimp only at h; go_simp)⟩) (fun _ => by rfl) ?_
          simp only [Act.put, List.setIfInBounds_toArray, List.set_cons_zero, List.set_cons_succ]
          refine AnyF.takeD (i := 7) (d := 27) (.bool true) rfl rfl rfl (by kernel_rfl) (by kernel_rfl) (by kernel_rfl) (by kernel_rfl) (by kernel_rfl) (fun _ _ _ h => h) S2 (Or.inl ⟨by rfl, fun w' h => (by dsimp only at h; go_simp)⟩) (fun _ => by rfl) ?_
          simp only [Act.put, List.setIfInBounds_toArray, List.set_cons_zero, List.set_cons_succ]
          refine AnyF.takeD (i := 8) (d := 28) (.func (.yield l) #[] #[]) rfl rfl rfl (by kernel_rfl) (by kernel_rfl) (by kernel_rfl) (by kernel_rfl) (by kernel_rfl) (fun _ _ _ h => h) S2 (Or.inl ⟨by rfl, fun w' h => (by dsimp only at h; go_simp)⟩) (fun _ => by rfl) ?_
          simp only [Act.put, List.setIfInBounds_toArray, List.set_cons_zero, List.set_cons_succ]
          refine AnyF.takeD (i := 9) (d := 29) (.int .i64 (h k)) rfl rfl rfl (by kernel_rfl) (by kernel_rfl) (by kernel_rfl) (by kernel_rfl) (by kernel_rfl) (fun _ _ _ h => h) S2 (Or.inl ⟨by rfl, fun w' h => (by dsimp only at h; go_simp)⟩) (fun _ => by rfl) ?_
          simp only [Act.put, List.setIfInBounds_toArray, List.set_cons_zero, List.set_cons_succ]
          obtain ⟨fn, tmps, assign, body, hy, hR⟩ := hyk.out v2 B2
          refine AnyF.one (i := 10) rfl (by kernel_rfl) (fun K1 hK1 => ?_)
          go_simp
          refine hR.mono ?_
          rintro e W3 (⟨rfl, hJ3, hk3⟩ | ⟨rfl, hJx3⟩)
          · refine hK1.out _ _ (fun h => by simp at h) ?_
            clear hK1 K1
            refine AnyF.one (i := 11) rfl (by kernel_rfl) (fun K1 hK1 => ?_)
            go_simp
            refine hK1.out _ _ (fun h => by simp at h) ?_
            clear hK1 K1
            refine AnyF.one (i := 12) rfl (by kernel_rfl) (fun K1 hK1 => ?_)
            go_simp
            refine hK1.out _ _ (fun h => by simp at h) ?_
            clear hK1 K1
            refine AnyF.done (by kernel_rfl) ?_
            gi_wp2
            go_roundw
            case rel =>
              refine ⟨k + 1, pre ++ [h k], by omega, by go_num, by simp; omega, fun x => ?_, hJ3, (hK.trans (KeepsAll.of_below B2)).trans hk3⟩
              rw [List.mem_append, HP.out x]
              constructor
              · rintro (⟨⟨j, hj, e⟩, q⟩ | q)
                · exact ⟨⟨j, by omega, e⟩, q⟩
                · obtain rfl : x = h k := by simpa using q
                  exact ⟨⟨k, by omega, rfl⟩, t5⟩
              · rintro ⟨⟨j, hj, e⟩, q⟩
                by_cases ej : j = k
                · subst ej; subst e; exact .inr (by simp)
                · exact .inl ⟨⟨j, by omega, e⟩, q⟩
            case measure => simp [intOf]; omega
          · refine hK1.out _ _ (fun h => by simp at h) ?_
            clear hK1 K1
            refine AnyF.one (i := 11) rfl (by kernel_rfl) (fun K1 hK1 => ?_)
            go_simp
            refine hK1.out _ _ (fun h => by simp at h) ?_
            clear hK1 K1
            refine AnyF.one (i := 12) rfl (by kernel_rfl) (fun K1 hK1 => ?_)
            go_simp
            refine hK1.out _ _ (fun h => by simp at h) ?_
            clear hK1 K1
            refine AnyF.done (by kernel_rfl) ?_
            gi_wp2
            refine bodyPost_ret (results_none rfl _ _ _) rfl ?_
            refine ⟨⟨_, rfl⟩, .inr ⟨pre ++ [h k], fun x hx => ?_, hJx3⟩⟩
            have hx2 : (∃ j, j < n ∧ h j = x) ∧ levOf bb nb fb gb x < levOf ba na fa ga x := by
              rcases List.mem_append.1 hx with hx | hx
              · obtain ⟨⟨j, hj, e⟩, q⟩ := (HP.out x).1 hx
                exact ⟨⟨j, by omega, e⟩, q⟩
              · obtain rfl : x = h k := by simpa using hx
                exact ⟨⟨k, hlt', rfl⟩, t5⟩
            have := (HM.out x).1 hx2.1
            unfold aboveB
            rw [this]
            simpa using hx2.2
        · skip
          gi_wp2_with fail
          refine AnyF.region (fun w' => w'.cell? ⟨P, 0, none⟩ = some (.int .i64 ba) ∧ w'.cell? ⟨P, 1, none⟩ = some (.map (some c)) ∧ w'.cell? ⟨Q, 0, none⟩ = some (.int .i64 bb) ∧ w'.cell? ⟨Q, 1, none⟩ = some (.map (some d))) [] hmix ?_
          have S0 : wr.drew.cell? ⟨P, 0, none⟩ = some (.int .i64 ba) ∧ wr.drew.cell? ⟨P, 1, none⟩ = some (.map (some c)) ∧ wr.drew.cell? ⟨Q, 0, none⟩ = some (.int .i64 bb) ∧ wr.drew.cell? ⟨Q, 1, none⟩ = some (.map (some d)) := ⟨r1, r2, r3, r4⟩
          refine AnyF.takeD (i := 0) (d := 20) (.agg #[.int .i64 ba, .map (some c)]) rfl rfl rfl (by kernel_rfl) (by kernel_rfl) (by kernel_rfl) (by kernel_rfl) (by kernel_rfl) (fun _ _ _ h => h) S0 (Or.inl ⟨by rfl, fun w' h => (by dsimp only at h; go_simp)⟩) (fun _ => by rfl) ?_
          simp only [Act.put, List.setIfInBounds_toArray, List.set_cons_zero, List.set_cons_succ]
          refine AnyF.takeD (i := 1) (d := 21) (.int .i64 (h k)) rfl rfl rfl (by kernel_rfl) (by kernel_rfl) (by kernel_rfl) (by kernel_rfl) (by kernel_rfl) (fun _ _ _ h => h) S0 (Or.inl ⟨by rfl, fun w' h => (by dsimp only at h; go_simp)⟩) (fun _ => by rfl) ?_
          simp only [Act.put, List.setIfInBounds_toArray, List.set_cons_zero, List.set_cons_succ]
          refine AnyF.takeD (i := 3) (d := 23) (.agg #[.int .i64 bb, .map (some d)]) rfl rfl rfl (by kernel_rfl) (by kernel_rfl) (by kernel_rfl) (by kernel_rfl) (by kernel_rfl) (fun _ _ _ h => h) S0 (Or.inl ⟨by rfl, fun w' h => (by dsimp only at h; go_simp)⟩) (fun _ => by rfl) ?_
          simp only [Act.put, List.setIfInBounds_toArray, List.set_cons_zero, List.set_cons_succ]
          refine AnyF.takeD (i := 4) (d := 24) (.int .i64 (h k)) rfl rfl rfl (by kernel_rfl) (by kernel_rfl) (by kernel_rfl) (by kernel_rfl) (by kernel_rfl) (fun _ _ _ h => h) S0 (Or.inl ⟨by rfl, fun w' h => (by dsimp only at h; go_simp)⟩) (fun _ => by rfl) ?_
          simp only [Act.put, List.setIfInBounds_toArray, List.set_cons_zero, List.set_cons_succ]
          refine AnyF.one (i := 2) rfl (by kernel_rfl) (fun K1 hK1 => ?_)
          go_simp
          refine ⟨trivial, ?_⟩
          refine (callsIn_wide.2 (of_lev ba c na fa ga (h k) _ N1 HWX.out)).mono ?_
          rintro e v1 ⟨rfl, hb1⟩
          have S1 : v1.cell? ⟨P, 0, none⟩ = some (.int .i64 ba) ∧ v1.cell? ⟨P, 1, none⟩ = some (.map (some c)) ∧ v1.cell? ⟨Q, 0, none⟩ = some (.int .i64 bb) ∧ v1.cell? ⟨Q, 1, none⟩ = some (.map (some d)) := ⟨(hb1.cell (p := ⟨P, 0, none⟩) lPr).trans r1, (hb1.cell (p := ⟨P, 1, none⟩) lPr).trans r2, (hb1.cell (p := ⟨Q, 0, none⟩) lQr).trans r3, (hb1.cell (p := ⟨Q, 1, none⟩) lQr).trans r4⟩
          refine hK1.out _ _ (fun _ => S1) ?_
          clear hK1 K1
          refine AnyF.one (i := 5) rfl (by kernel_rfl) (fun K1 hK1 => ?_)
          go_simp
          refine ⟨trivial, ?_⟩
          refine (callsIn_wide.2 (of_lev bb d nb fb gb (h k) _ (N2.below hb1) HWX.out)).mono ?_
          rintro e v2 ⟨rfl, hb2⟩
          have lPv : P < v1.heap.size := Nat.lt_of_lt_of_le lPr hb1.size
          have lQv : Q < v1.heap.size := Nat.lt_of_lt_of_le lQr hb1.size
          have S2 : v2.cell? ⟨P, 0, none⟩ = some (.int .i64 ba) ∧ v2.cell? ⟨P, 1, none⟩ = some (.map (some c)) ∧ v2.cell? ⟨Q, 0, none⟩ = some (.int .i64 bb) ∧ v2.cell? ⟨Q, 1, none⟩ = some (.map (some d)) := ⟨(hb2.cell (p := ⟨P, 0, none⟩) lPv).trans S1.1, (hb2.cell (p := ⟨P, 1, none⟩) lPv).trans S1.2.1, (hb2.cell (p := ⟨Q, 0, none⟩) lQv).trans S1.2.2.1, (hb2.cell (p := ⟨Q, 1, none⟩) lQv).trans S1.2.2.2⟩
          have B2 : Below wr.heap.size wr v2 := (((Below.refl _ wr).drew.trans hb1).trans (hb2.mono hb1.size))
          refine hK1.out _ _ (fun _ => S2) ?_
          clear hK1 K1 S0 S1 hb1 hb2
          refine AnyF.takeD (i := 6) (d := 26) (.bool false) rfl rfl rfl (by kernel_rfl) (by kernel_rfl) (by kernel_rfl) (by kernel_rfl) (by kernel_rfl) (fun _ _ _ h => h) S2 (Or.inl ⟨by rfl, fun w' h => (by dsimp only at h; go_simp)⟩) (fun _ => by rfl) ?_
          simp only [Act.put, List.setIfInBounds_toArray, List.set_cons_zero, List.set_cons_succ]
          refine AnyF.takeD (i := 7) (d := 27) (.bool false) rfl rfl rfl (by kernel_rfl) (by kernel_rfl) (by kernel_rfl) (by kernel_rfl) (by kernel_rfl) (fun _ _ _ h => h) S2 (Or.inl ⟨by rfl, fun w' h => (by dsimp only at h; go_simp)⟩) (fun _ => by rfl) ?_
          simp only [Act.put, List.setIfInBounds_toArray, List.set_cons_zero, List.set_cons_succ]
          refine AnyF.skip (i := 8) (d := 28) rfl rfl rfl (by kernel_rfl) (by kernel_rfl) (by kernel_rfl) (by kernel_rfl) (by kernel_rfl) (fun _ _ _ h => h) S2 (by rfl) (fun _ => by rfl) ?_
          simp only [Act.put, List.setIfInBounds_toArray, List.set_cons_zero, List.set_cons_succ]
          refine AnyF.skip (i := 9) (d := 29) rfl rfl rfl (by kernel_rfl) (by kernel_rfl) (by kernel_rfl) (by kernel_rfl) (by kernel_rfl) (fun _ _ _ h => h) S2 (by rfl) (fun _ => by rfl) ?_
          simp only [Act.put, List.setIfInBounds_toArray, List.set_cons_zero, List.set_cons_succ]
          refine AnyF.skip (i := 10) (d := 30) rfl rfl rfl (by kernel_rfl) (by kernel_rfl) (by kernel_rfl) (by kernel_rfl) (by kernel_rfl) (fun _ _ _ h => h) S2 (by rfl) (fun _ => by rfl) ?_
          simp only [Act.put, List.setIfInBounds_toArray, List.set_cons_zero, List.set_cons_succ]
          refine AnyF.skip (i := 11) (d := 31) rfl rfl rfl (by kernel_rfl) (by kernel_rfl) (by kernel_rfl) (by kernel_rfl) (by kernel_rfl) (fun _ _ _ h => h) S2 (by rfl) (fun _ => by rfl) ?_
          simp only [Act.put, List.setIfInBounds_toArray, List.set_cons_zero, List.set_cons_succ]
          refine AnyF.takeD (i := 12) (d := 32) (.bool false) rfl rfl rfl (by kernel_rfl) (by kernel_rfl) (by kernel_rfl) (by kernel_rfl) (by kernel_rfl) (fun _ _ _ h => h) S2 (Or.inl ⟨by rfl, fun w' h => (by dsimp only at h; go_simp)⟩) (fun _ => by rfl) ?_
          simp only [Act.put, List.setIfInBounds_toArray, List.set_cons_zero, List.set_cons_succ]
          refine AnyF.done (by kernel_rfl) ?_
          gi_wp2
          go_roundw
          case rel =>
            refine ⟨k + 1, pre, by omega, by go_num, by omega, fun x => ?_, HJ0.out pre wr v2 none HJp.out (grown_of_below B2) (fun r e => by cases e), hK.trans (KeepsAll.of_below B2)⟩
            rw [HP.out x]
            constructor
            · rintro ⟨⟨j, hj, e⟩, q⟩
              exact ⟨⟨j, by omega, e⟩, q⟩
            · rintro ⟨⟨j, hj, e⟩, q⟩
              by_cases ej : j = k
              · subst ej; subst e; exact absurd q (by omega)
              · exact ⟨⟨j, by omega, e⟩, q⟩
          case measure => simp [intOf]; omega
      · clear hat b1 b2 b3 b4 M1 M2
        gi_wp2
        go_end0
        refine ⟨⟨_, rfl⟩, .inl ⟨pre, fun x => ?_, HJp.out⟩⟩
        have ek : k = n := by omega
        subst ek
        rw [HP.out x, HM.out x]
        simp [aboveB]
end Go.Proofs.YtaaeeaknjlammaaGreatDoor

/- Flows of the program answers the plain function: both labels right, the owned categories so, and flowsB. -/
namespace Go.Proofs.YtaaeeaknjlammaaGreatDoor
open Go.RowKit Go.Deep Go.Maps Go.Shelf
attribute [local go_sem] Oper.semAt_some

set_option maxHeartbeats 1000000 in
theorem index_any (a : Option Addr) (n cap : Nat) (h : Nat → Int) (x : Int) (w : World) (hn : n ≤ maxLen) (hc : IntsAt w a n h) :
    Calls Tryz.prog 111 #[.slice a n cap, .int .i64 x] w fun e w' => ∃ r : Int, e = .returned (.int .i64 r) ∧ (decide (0 ≤ r) = hasB n h x) ∧ w' = w := by
  unfold maxLen at hn
  go_enter Tryz.func111, Tryz.ntmps111
  go_wp2
  go_loop [8] (fun i => ∃ k : Nat, k ≤ n ∧ i = .int .i64 k ∧ (∀ j, j < k → h j ≠ x)) (fun i => n - (intOf i).toNat)
  case atStart => exact ⟨0, Nat.zero_le _, rfl, fun j hj => by omega⟩
  case round =>
    obtain ⟨k, hk, rfl, hall⟩ := hrel
    have HA : Hid (∀ j, j < k → h j ≠ x) := hall
    clear hall
    by_cases hlt' : k < n
    · obtain ⟨b, off, rfl, hlt, hcc⟩ := hc (by omega)
      have g1 := hcc k hlt'
      clear hcc hc
      by_cases t : (x == h k) = true
      · go_wp2
        go_ret
        exact ⟨_, rfl, by rw [hasB_yes hlt' (by simpa using (beq_iff_eq.1 t).symm)]; simp, rfl⟩
      · have t' : (x == h k) = false := by simpa using t
        clear t
        go_wp2
        go_round
        case rel =>
          refine ⟨k + 1, by omega, by go_num, fun j hj => ?_⟩
          by_cases e : j = k
          · subst e; intro q; rw [q] at t'; simp at t'
          · exact HA.out j (by omega)
        case measure => simp [intOf]; omega
    · clear hc
      go_wp2
      go_ret
      have e : k = n := by omega
      subst e
      exact ⟨_, rfl, by rw [hasB_no HA.out]; simp, rfl⟩

theorem contains_any (a : Option Addr) (n cap : Nat) (h : Nat → Int) (x : Int) (w : World) (hn : n ≤ maxLen) (hc : IntsAt w a n h) :
    Calls Tryz.prog 95 #[.slice a n cap, .int .i64 x] w fun e w' => e = .returned (.bool (hasB n h x)) ∧ w' = w := by
  go_enter Tryz.func95, Tryz.ntmps95
  go_wp2_with (go_at_call 111; refine (index_any _ _ _ h _ _ hn hc).mono ?_; rintro e w' ⟨r, rfl, hr, rfl⟩)
  all_goals
    go_ret
    refine ⟨ret_bool ?_, rfl⟩
    rw [← hr]
    first | done | (simp; done) | (simp; omega)

theorem catsAbove_any (ba : Int) (aa : Option Addr) (na ka : Nat) (bb : Int) (ab : Option Addr) (nb kb : Nat) (w : World) :
    Calls Tryz.prog 94 #[.agg #[.int .i64 ba, .slice aa na ka], .agg #[.int .i64 bb, .slice ab nb kb]] w fun e w' => e = .returned (.func (.func 110) #[] #[.pointer (some ⟨w.heap.size, 0, none⟩), .pointer (some ⟨w.heap.size + 1, 0, none⟩)]) ∧
      w' = (w.alloc (.cells #[.int .i64 ba, .slice aa na ka] 39)).alloc (.cells #[.int .i64 bb, .slice ab nb kb] 39) := by
  go_enter Tryz.func94, Tryz.ntmps94
  go_wp2
  go_ret
  exact ⟨rfl, rfl⟩

/-- what Flows answers -/
def flowAll (ba : Int) (na : Nat) (fa ga : Nat → Int) (no : Nat) (ho : Nat → Int) (bb : Int) (nb : Nat) (fb gb : Nat → Int) : Bool :=
  labOk ba na fa ga && labOk bb nb fb gb && ownOk no ho && flowsB ba na fa ga no ho bb nb fb gb

theorem named_of_above {ba : Int} {na : Nat} {fa ga : Nat → Int} {bb : Int} {nb : Nat} {fb gb : Nat → Int} {x : Int} (h0 : ba ≤ bb) (h : levOf bb nb fb gb x < levOf ba na fa ga x) :
    ((look fa ga na x).isSome || (look fb gb nb x).isSome) = true := by
  cases h1 : look fa ga na x with
  | some v => simp
  | none =>
    cases h2 : look fb gb nb x with
    | some v => simp
    | none => simp [levOf, h1, h2] at h; omega

/-- all that stand above are owned: it flows -/
theorem flows_of_owned {ba : Int} {na : Nat} {fa ga : Nat → Int} {no : Nat} {ho : Nat → Int} {bb : Int} {nb : Nat} {fb gb : Nat → Int} (h0 : ba ≤ bb)
    (h : ∀ x, aboveB ba na fa ga bb nb fb gb x = true → hasB no ho x = true) : flowsB ba na fa ga no ho bb nb fb gb = true := by
  refine flowsB_mk h0 fun i hi => ?_
  unfold letB
  by_cases e : levOf bb nb fb gb (glue na fa fb i) < levOf ba na fa ga (glue na fa fb i)
  · rw [h _ (by unfold aboveB; rw [named_of_above h0 e]; simpa using e)]; rfl
  · simp [e]

/-- one that stands above is not owned: it does not flow -/
theorem flows_not_owned {ba : Int} {na : Nat} {fa ga : Nat → Int} {no : Nat} {ho : Nat → Int} {bb : Int} {nb : Nat} {fb gb : Nat → Int} {x : Int}
    (h : aboveB ba na fa ga bb nb fb gb x = true) (ho' : hasB no ho x = false) : flowsB ba na fa ga no ho bb nb fb gb = false := by
  unfold aboveB at h
  rw [Bool.and_eq_true, Bool.or_eq_true] at h
  have hl : letB ba na fa ga no ho bb nb fb gb x = false := by unfold letB; rw [ho', h.2]; rfl
  rcases h.1 with e | e
  · obtain ⟨i, hi, e⟩ := look_isSome e
    exact flowsB_at (k := i) (by omega) (by simp only [glue, hi, if_true]; rw [e]; exact hl)
  · obtain ⟨i, hi, e⟩ := look_isSome e
    exact flowsB_at (k := na + i) (by omega) (by
      have e1 : ¬ na + i < na := by omega
      have e2 : na + i - na = i := by omega
      simp only [glue, e1, if_false, e2]; rw [e]; exact hl)

set_option maxRecDepth 100000 in
set_option maxHeartbeats 4000000 in
theorem implFlows_any (ba : Int) (aa : Option Addr) (na ka : Nat) (fa ga : Nat → Int) (ao : Option Addr) (no ko : Nat) (ho : Nat → Int) (bb : Int) (ab : Option Addr) (nb kb : Nat) (fb gb : Nat → Int) (w : World)
    (hna : na ≤ maxLen) (hnb : nb ≤ maxLen) (hno : no ≤ maxLen) (hca : CatsAt w aa na fa ga) (hcb : CatsAt w ab nb fb gb) (hco : IntsAt w ao no ho) :
    Calls Tryz.prog 82 #[.agg #[.int .i64 ba, .slice aa na ka], .slice ao no ko, .agg #[.int .i64 bb, .slice ab nb kb]] w fun e w' => e = .returned (.bool (flowAll ba na fa ga no ho bb nb fb gb)) ∧ Below w.heap.size w w' := by
  have hb0 := ((((Below.refl _ w).alloc (Nat.le_refl _) (.cells #[.int .i64 ba, .slice aa na ka] 39)).alloc (by simp) (.cells #[.slice ao no ko] 52)).alloc (by simp; omega) (.cells #[.int .i64 bb, .slice ab nb kb] 39)).alloc (by simp; omega) (.cells #[.bool false] 4)
  obtain ⟨W0, hW0⟩ : ∃ W0, W0 = ((((w.alloc (.cells #[.int .i64 ba, .slice aa na ka] 39)).alloc (.cells #[.slice ao no ko] 52)).alloc (.cells #[.int .i64 bb, .slice ab nb kb] 39)).alloc (.cells #[.bool false] 4)) := ⟨_, rfl⟩
  have y1 : W0.cell? ⟨w.heap.size, 0, none⟩ = some (.int .i64 ba) := by rw [hW0]; go_simp
  have y2 : W0.cell? ⟨w.heap.size, 1, none⟩ = some (.slice aa na ka) := by rw [hW0]; go_simp
  have y3 : W0.cell? ⟨w.heap.size + 1, 0, none⟩ = some (.slice ao no ko) := by rw [hW0]; go_simp
  have y4 : W0.cell? ⟨w.heap.size + 1 + 1, 0, none⟩ = some (.int .i64 bb) := by rw [hW0]; go_simp
  have y5 : W0.cell? ⟨w.heap.size + 1 + 1, 1, none⟩ = some (.slice ab nb kb) := by rw [hW0]; go_simp
  have y6 : W0.cell? ⟨w.heap.size + 1 + 1 + 1, 0, none⟩ = some (.bool false) := by rw [hW0]; go_simp
  have y7 : W0.frozen? ⟨w.heap.size + 1 + 1 + 1, 0, none⟩ = false := by rw [hW0]; go_simp
  have ys : W0.heap.size = w.heap.size + 4 := by rw [hW0]; simp
  rw [← hW0] at hb0
  have HW0 : Hid (W0 = ((((w.alloc (.cells #[.int .i64 ba, .slice aa na ka] 39)).alloc (.cells #[.slice ao no ko] 52)).alloc (.cells #[.int .i64 bb, .slice ab nb kb] 39)).alloc (.cells #[.bool false] 4))) := hW0
  clear hW0
  have fin : Hid (∀ W1, Below w.heap.size w W1 → W1.cell? ⟨w.heap.size + 1 + 1 + 1, 0, none⟩ = some (.bool false) → flowAll ba na fa ga no ho bb nb fb gb = false →
      ∀ tm : Array Value, tm[6]? = some (.pointer (some ⟨w.heap.size + 1 + 1 + 1, 0, none⟩)) → bodyPost Tryz.prog Tryz.f82 (fun e w' => e = .returned (.bool (flowAll ba na fa ga no ho bb nb fb gb)) ∧ Below w.heap.size w w') .ret { tmps := tm, defers := [] } (W1.setCell ⟨w.heap.size + 1 + 1 + 1, 0, none⟩ (.bool false))) := fun W1 hB hc hf tm ht => by
    have hc5 := World.cell?_setCell_same' W1 ⟨w.heap.size + 1 + 1 + 1, 0, none⟩ (.bool false) (by rw [hc]; rfl)
    refine bodyPost_ret (v := .bool false) ?_ rfl ⟨by rw [hf], hB.setCell (p := ⟨w.heap.size + 1 + 1 + 1, 0, none⟩) (by dsimp only; omega) _⟩
    simp [results, Tryz.results82, go_sem, ht, hc5]
  by_cases good : labOk ba na fa ga = true ∧ labOk bb nb fb gb = true ∧ ownOk no ho = true ∧ ba ≤ bb
  · obtain ⟨t1, t2, t3, t4⟩ := good
    refine (callsIn_wide (n := 4)).1 ?_
    refine callsIn_of_wp_marks Tryz.func82 rfl trivial ?_ rfl
    simp only [Tryz.ntmps82, List.size_toArray, List.length_cons, List.length_nil, Nat.reduceAdd, Nat.reduceSub, Array.replicate_succ, Array.replicate_zero, List.push_toArray, List.append_toArray, List.nil_append, List.cons_append]
    gi_wp2_with fail
    rw [← HW0.out]
    refine ⟨trivial, ?_⟩
    refine (callsIn_wide.2 (implOk_any _ _ _ _ fa ga _ hna (hca.below hb0))).mono ?_
    rintro e w1 ⟨rfl, hb1⟩
    have z1 : w.heap.size + 1 + 1 + 1 < w1.heap.size := by have := hb1.size; omega
    have B1 : Below w.heap.size w w1 := hb0.trans (hb1.mono (by omega))
    have x1 := (hb1.cell (p := ⟨w.heap.size, 0, none⟩) (by dsimp only; omega)).trans y1
    have x2 := (hb1.cell (p := ⟨w.heap.size, 1, none⟩) (by dsimp only; omega)).trans y2
    have x3 := (hb1.cell (p := ⟨w.heap.size + 1, 0, none⟩) (by dsimp only; omega)).trans y3
    have x4 := (hb1.cell (p := ⟨w.heap.size + 1 + 1, 0, none⟩) (by dsimp only; omega)).trans y4
    have x5 := (hb1.cell (p := ⟨w.heap.size + 1 + 1, 1, none⟩) (by dsimp only; omega)).trans y5
    have x6 := (hb1.cell (p := ⟨w.heap.size + 1 + 1 + 1, 0, none⟩) (by dsimp only; omega)).trans y6
    have x7 := (hb1.frozen (p := ⟨w.heap.size + 1 + 1 + 1, 0, none⟩) (by dsimp only; omega)).trans y7
    clear y1 y2 y3 y4 y5 y6 y7 hb1
    gi_wp2_with fail
    refine ⟨trivial, ?_⟩
    refine (callsIn_wide.2 (implOk_any _ _ _ _ fb gb _ hnb (hcb.below B1))).mono ?_
    rintro e w2 ⟨rfl, hb2⟩
    have z2 : w.heap.size + 1 + 1 + 1 < w2.heap.size := by have := hb2.size; omega
    have B2 : Below w.heap.size w w2 := B1.trans (hb2.mono (by omega))
    have u1 := (hb2.cell (p := ⟨w.heap.size, 0, none⟩) (by dsimp only; omega)).trans x1
    have u2 := (hb2.cell (p := ⟨w.heap.size, 1, none⟩) (by dsimp only; omega)).trans x2
    have u3 := (hb2.cell (p := ⟨w.heap.size + 1, 0, none⟩) (by dsimp only; omega)).trans x3
    have u4 := (hb2.cell (p := ⟨w.heap.size + 1 + 1, 0, none⟩) (by dsimp only; omega)).trans x4
    have u5 := (hb2.cell (p := ⟨w.heap.size + 1 + 1, 1, none⟩) (by dsimp only; omega)).trans x5
    have u6 := (hb2.cell (p := ⟨w.heap.size + 1 + 1 + 1, 0, none⟩) (by dsimp only; omega)).trans x6
    have u7 := (hb2.frozen (p := ⟨w.heap.size + 1 + 1 + 1, 0, none⟩) (by dsimp only; omega)).trans x7
    clear x1 x2 x3 x4 x5 x6 x7 hb2
    gi_wp2_with fail
    refine ⟨trivial, ?_⟩
    refine (callsIn_wide.2 (ownsOk_any _ _ _ ho _ hno (hco.below B2))).mono ?_
    rintro e w3 ⟨rfl, rfl⟩
    gi_wp2_with fail
    refine ⟨trivial, ?_⟩
    refine (callsIn_wide.2 (catsAbove_any _ _ _ _ _ _ _ _ _)).mono ?_
    rintro e w4 ⟨rfl, h4⟩
    have c1 : w4.cell? ⟨w3.heap.size, 0, none⟩ = some (.int .i64 ba) := by rw [h4]; go_simp
    have c2 : w4.cell? ⟨w3.heap.size, 1, none⟩ = some (.slice aa na ka) := by rw [h4]; go_simp
    have c3 : w4.cell? ⟨w3.heap.size + 1, 0, none⟩ = some (.int .i64 bb) := by rw [h4]; go_simp
    have c4 : w4.cell? ⟨w3.heap.size + 1, 1, none⟩ = some (.slice ab nb kb) := by rw [h4]; go_simp
    have z4 : w4.heap.size = w3.heap.size + 2 := by rw [h4]; simp
    have hb4 : Below w3.heap.size w3 w4 := by rw [h4]; exact ((Below.refl _ _).alloc (Nat.le_refl _) _).alloc (by simp) _
    clear h4
    have B4 : Below w.heap.size w w4 := B2.trans (hb4.mono (by omega))
    have x1 := (hb4.cell (p := ⟨w.heap.size, 0, none⟩) (by dsimp only; omega)).trans u1
    have x2 := (hb4.cell (p := ⟨w.heap.size, 1, none⟩) (by dsimp only; omega)).trans u2
    have x3 := (hb4.cell (p := ⟨w.heap.size + 1, 0, none⟩) (by dsimp only; omega)).trans u3
    have x4 := (hb4.cell (p := ⟨w.heap.size + 1 + 1, 0, none⟩) (by dsimp only; omega)).trans u4
    have x5 := (hb4.cell (p := ⟨w.heap.size + 1 + 1, 1, none⟩) (by dsimp only; omega)).trans u5
    have x6 := (hb4.cell (p := ⟨w.heap.size + 1 + 1 + 1, 0, none⟩) (by dsimp only; omega)).trans u6
    have x7 := (hb4.frozen (p := ⟨w.heap.size + 1 + 1 + 1, 0, none⟩) (by dsimp only; omega)).trans u7
    clear u1 u2 u3 u4 u5 u6 u7 hb4
    gi_wp2_with fail
    have hLt : TwoLabs w4 w3.heap.size (w3.heap.size + 1) ba aa na ka fa ga bb ab nb kb fb gb := ⟨by omega, by omega, c1, c2, c3, c4, hca.below B4, hcb.below B4⟩
    have ma : na ≤ 1048576 := by have := (labOk_out t1).2.1; omega
    have mb : nb ≤ 1048576 := by have := (labOk_out t2).2.1; omega
    have hseq : SeqStopsK Fence.wide 3 Tryz.prog 110 #[.pointer (some ⟨w3.heap.size, 0, none⟩), .pointer (some ⟨w3.heap.size + 1, 0, none⟩)] (fun x : Int => #[Value.int .i64 x]) KeepsAll
        (fun xs => ∀ x, x ∈ xs ↔ aboveB ba na fa ga bb nb fb gb x = true) (fun pre => ∀ x, x ∈ pre → aboveB ba na fa ga bb nb fb gb x = true) (na + nb) w4 := fun l J Jx W hW hJ hJx hY h0 =>
      callsIn_wide.2 (catsAbove1_in l w3.heap.size (w3.heap.size + 1) ba aa na ka fa ga bb ab nb kb fb gb J Jx W ma mb (labOk_wf t1) (labOk_wf t2) (hLt.below hW) hJ hY h0)
    clear c1 c2 c3 c4 hLt x1 x2 x4 x5
    refine wpIn_rangeFunc_ownF rfl (by omega) (gf := 110) (lb := #[.pointer (some ⟨w3.heap.size, 0, none⟩), .pointer (some ⟨w3.heap.size + 1, 0, none⟩)]) rfl trivial (enters_of Tryz.func110 (by kernel_rfl) rfl)
      hseq KeepsAll.trans (KeepsAll.book (w := w4)) (Below.refl _ _) (fun _ => rfl)
      (fun pre W => ((∀ y, y ∈ pre → hasB no ho y = true) ∧ W.cell? ⟨w.heap.size + 1, 0, none⟩ = some (.slice ao no ko) ∧ W.cell? ⟨w.heap.size + 1 + 1 + 1, 0, none⟩ = some (.bool false) ∧ W.frozen? ⟨w.heap.size + 1 + 1 + 1, 0, none⟩ = false) ∧ Below w.heap.size w W)
      (fun c pre W => (c = .ret ∧ (∃ y, y ∈ pre ∧ hasB no ho y = false) ∧ W.cell? ⟨w.heap.size + 1 + 1 + 1, 0, none⟩ = some (.bool false)) ∧ Below w.heap.size w W)
      (OwnFrom.and (Own.from (fun s A B row hs hg hr => ⟨hs.1, cell_kept hs.2.1 hg hr, cell_kept hs.2.2.1 hg hr, (frozen_kept hs.2.2.1 hg hr).trans hs.2.2.2⟩) _) (ownFrom_below (Nat.le_refl _) (by omega)))
      (fun c => OwnFrom.and (Own.from (fun s A B row hs hg hr => ⟨hs.1, hs.2.1, cell_kept hs.2.2 hg hr⟩) _) (ownFrom_below (Nat.le_refl _) (by omega)))
      ⟨⟨by simp, x3, x6, x7⟩, B4⟩
      (fun x => { tmps := #[.agg #[.int .i64 ba, .slice aa na ka], .slice ao no ko, .agg #[.int .i64 bb, .slice ab nb kb], .pointer (some ⟨w.heap.size, 0, none⟩), .pointer (some ⟨w.heap.size + 1, 0, none⟩), .pointer (some ⟨w.heap.size + 1 + 1, 0, none⟩), .pointer (some ⟨w.heap.size + 1 + 1 + 1, 0, none⟩), .int .i64 x, .agg #[.int .i64 ba, .slice aa na ka], .bool true, .bool false, .bool false, .agg #[.int .i64 bb, .slice ab nb kb], .bool true, .bool false, .bool false, .bool false, .slice ao no ko, .bool true, .bool false, .bool false, .bool false, .pointer (some ⟨w.heap.size, 0, none⟩), .int .i64 ba, .pointer (some ⟨w.heap.size + 1 + 1, 0, none⟩), .int .i64 bb, .bool (decide (bb < ba)), .bool (decide (bb < ba)), .agg #[.int .i64 ba, .slice aa na ka], .agg #[.int .i64 bb, .slice ab nb kb], .func (.func 110) #[] #[.pointer (some ⟨w3.heap.size, 0, none⟩), .pointer (some ⟨w3.heap.size + 1, 0, none⟩)], .int .i64 x, undef, undef, undef, undef], defers := [] }) ?assign ?body ?done ?stop
    case assign =>
      intro l x W K hK
      gi_wp2
      exact hK
    case body =>
      rintro l pre x W ⟨⟨hp, hcw, hcr, hfr⟩, hB⟩ _
      have HP : Hid (∀ y, y ∈ pre → hasB no ho y = true) := hp
      clear hp
      have hcon := contains_any ao no ko ho x W hno (hco.below hB)
      gi_wp2_with fail
      refine ⟨trivial, ?_⟩
      refine (CallsIn.inRound l (callsIn_wide.2 hcon)).mono ?_
      clear hcon
      rintro e W1 ⟨rfl, rfl⟩
      cases hx : hasB no ho x with
      | true =>
        have HX : Hid (hasB no ho x = true) := hx
        clear hx
        gi_wp2
        exact ⟨KeepsOthers.refl _, KeepsAll.refl _, ⟨fun y hy => (List.mem_append.1 hy).elim (HP.out y) (fun e => by simp at e; subst e; exact HX.out), hcw, hcr, hfr⟩, hB⟩
      | false =>
        have HX : Hid (hasB no ho x = false) := hx
        clear hx
        gi_wp2
        exact ⟨KeepsOthers.setCell _ _ _, ⟨rfl, ⟨x, List.mem_append.2 (.inr (by simp)), HX.out⟩, World.cell?_setCell_same' _ _ _ (by rw [hcr]; rfl)⟩, hB.setCell (p := ⟨w.heap.size + 1 + 1 + 1, 0, none⟩) (by dsimp only; omega) _⟩
    case done =>
      rintro D ys W hD hS ⟨⟨hne, _, hcr, hfr⟩, hB⟩ hK
      have hflow : flowAll ba na fa ga no ho bb nb fb gb = true := by
        have := flows_of_owned (no := no) (ho := ho) t4 (fun x hx => hne x ((hS x).2 hx))
        simp [flowAll, t1, t2, t3, this]
      have HF : Hid (flowAll ba na fa ga no ho bb nb fb gb = true) := hflow
      clear hflow hS hne
      gi_wp2
      have hK' := (KeepsOthers.setCell W ⟨w.heap.size + 1 + 1 + 1, 0, none⟩ (.bool true)).same D _ hK rfl
      refine ⟨by simp, .inl ⟨_, _, rfl, run_takeDeferred hK', ?_⟩⟩
      have hc5 := cell_kept (World.cell?_setCell_same' W ⟨w.heap.size + 1 + 1 + 1, 0, none⟩ (.bool true) (by rw [hcr]; rfl)) (grownBy_putObj' _ D (.deferred none)) (fun r e => by cases e; exact ⟨_, hK', rfl⟩)
      refine ⟨.bool true, ?_, by rw [HF.out], (hB.setCell (p := ⟨w.heap.size + 1 + 1 + 1, 0, none⟩) (by dsimp only; omega) _).trans (belowK_b (w := w) (Nat.le_refl _) _ D _ _ (by omega) hK' rfl rfl)⟩
      simp [results, Tryz.results82, go_sem, hc5]
    case stop =>
      rintro D c pre W hD hpre ⟨⟨rfl, ⟨y, hy, hno'⟩, hcr⟩, hB⟩ hK
      have HF : Hid (flowAll ba na fa ga no ho bb nb fb gb = false) := by show _ = _; simp [flowAll, flows_not_owned (hpre y hy) hno']
      clear hpre
      gi_wp2
      refine ⟨by simp, .inl ⟨_, _, rfl, run_takeDeferred hK, ?_⟩⟩
      have hc5 := cell_kept hcr (grownBy_putObj' _ D (.deferred none)) (fun r e => by cases e; exact ⟨_, hK, rfl⟩)
      refine ⟨.bool false, ?_, by rw [HF.out], hB.trans (belowK_b (w := w) (Nat.le_refl _) W D _ _ (by omega) hK rfl rfl)⟩
      simp [results, Tryz.results82, go_sem, hc5]
  · go_enter Tryz.func82, Tryz.ntmps82
    go_wp2_with fail
    rw [← HW0.out]
    refine (implOk_any _ _ _ _ fa ga _ hna (hca.below hb0)).mono ?_
    rintro e w1 ⟨rfl, hb1⟩
    have z1 : w.heap.size + 1 + 1 + 1 < w1.heap.size := by have := hb1.size; omega
    have B1 : Below w.heap.size w w1 := hb0.trans (hb1.mono (by omega))
    have x1 := (hb1.cell (p := ⟨w.heap.size, 0, none⟩) (by dsimp only; omega)).trans y1
    have x2 := (hb1.cell (p := ⟨w.heap.size, 1, none⟩) (by dsimp only; omega)).trans y2
    have x3 := (hb1.cell (p := ⟨w.heap.size + 1, 0, none⟩) (by dsimp only; omega)).trans y3
    have x4 := (hb1.cell (p := ⟨w.heap.size + 1 + 1, 0, none⟩) (by dsimp only; omega)).trans y4
    have x5 := (hb1.cell (p := ⟨w.heap.size + 1 + 1, 1, none⟩) (by dsimp only; omega)).trans y5
    have x6 := (hb1.cell (p := ⟨w.heap.size + 1 + 1 + 1, 0, none⟩) (by dsimp only; omega)).trans y6
    have x7 := (hb1.frozen (p := ⟨w.heap.size + 1 + 1 + 1, 0, none⟩) (by dsimp only; omega)).trans y7
    clear y1 y2 y3 y4 y5 y6 y7 hb1
    by_cases t1 : labOk ba na fa ga = true
    · go_wp2_with fail
      refine (implOk_any _ _ _ _ fb gb _ hnb (hcb.below B1)).mono ?_
      rintro e w2 ⟨rfl, hb2⟩
      have z2 : w.heap.size + 1 + 1 + 1 < w2.heap.size := by have := hb2.size; omega
      have B2 : Below w.heap.size w w2 := B1.trans (hb2.mono (by omega))
      have u1 := (hb2.cell (p := ⟨w.heap.size, 0, none⟩) (by dsimp only; omega)).trans x1
      have u2 := (hb2.cell (p := ⟨w.heap.size, 1, none⟩) (by dsimp only; omega)).trans x2
      have u3 := (hb2.cell (p := ⟨w.heap.size + 1, 0, none⟩) (by dsimp only; omega)).trans x3
      have u4 := (hb2.cell (p := ⟨w.heap.size + 1 + 1, 0, none⟩) (by dsimp only; omega)).trans x4
      have u5 := (hb2.cell (p := ⟨w.heap.size + 1 + 1, 1, none⟩) (by dsimp only; omega)).trans x5
      have u6 := (hb2.cell (p := ⟨w.heap.size + 1 + 1 + 1, 0, none⟩) (by dsimp only; omega)).trans x6
      have u7 := (hb2.frozen (p := ⟨w.heap.size + 1 + 1 + 1, 0, none⟩) (by dsimp only; omega)).trans x7
      clear x1 x2 x3 x4 x5 x6 x7 hb2
      by_cases t2 : labOk bb nb fb gb = true
      · go_wp2_with fail
        refine (ownsOk_any _ _ _ ho _ hno (hco.below B2)).mono ?_
        rintro e w3 ⟨rfl, rfl⟩
        by_cases t3 : ownOk no ho = true
        · have t4 : bb < ba := by
            by_cases q : ba ≤ bb
            · exact absurd ⟨t1, t2, t3, q⟩ good
            · omega
          have HT : Hid (flowAll ba na fa ga no ho bb nb fb gb = false) := by show _ = _; simp [flowAll, flowsB_base t4]
          clear good
          go_wp2
          exact fin.out _ B2 u6 HT.out _ rfl
        · have t3' : ownOk no ho = false := by simpa using t3
          clear t3 good
          have HT : Hid (flowAll ba na fa ga no ho bb nb fb gb = false) := by show _ = _; simp [flowAll, t3']
          go_wp2
          exact fin.out _ B2 u6 HT.out _ rfl
      · have t2' : labOk bb nb fb gb = false := by simpa using t2
        clear t2 good
        have HT : Hid (flowAll ba na fa ga no ho bb nb fb gb = false) := by show _ = _; simp [flowAll, t2']
        go_wp2
        exact fin.out w2 B2 u6 HT.out _ rfl
    · have t1' : labOk ba na fa ga = false := by simpa using t1
      clear t1 good
      have HT : Hid (flowAll ba na fa ga no ho bb nb fb gb = false) := by show _ = _; simp [flowAll, t1']
      go_wp2
      exact fin.out w1 B1 x6 HT.out _ rfl
end Go.Proofs.YtaaeeaknjlammaaGreatDoor

/- Sees, Changes, Reaches of the program, and Flows, Sees, Changes, Reaches of the model, answer plain functions. -/
namespace Go.Proofs.YtaaeeaknjlammaaGreatDoor
open Go.RowKit Go.Deep Go.Maps

theorem Blk.seven {W : World} {P t : Nat} {x0 x1 x2 x3 x4 x5 x6 : Value} (h : Blk W P (.cells #[x0, x1, x2, x3, x4, x5, x6] t)) : W.cell? ⟨P, 0, none⟩ = some x0 ∧ W.cell? ⟨P, 1, none⟩ = some x1 ∧ W.cell? ⟨P, 2, none⟩ = some x2 ∧ W.cell? ⟨P, 3, none⟩ = some x3 ∧ W.cell? ⟨P, 4, none⟩ = some x4 ∧ W.cell? ⟨P, 5, none⟩ = some x5 ∧ W.cell? ⟨P, 6, none⟩ = some x6 := by
  unfold Blk at h
  simp [World.cell?, h]

def seesB (id made b1 : Int) (n1 : Nat) (f1 g1 : Nat → Int) (b2 : Int) (n2 : Nat) (f2 g2 : Nat → Int) (n3 : Nat) (h : Nat → Int) (bl : Int) (nl : Nat) (fl gl : Nat → Int) : Bool :=
  thrOk id made b1 n1 f1 g1 b2 n2 f2 g2 n3 h && (labOk bl nl fl gl && flowsB bl nl fl gl n3 h b1 n1 f1 g1)
def rchB (id made b1 : Int) (n1 : Nat) (f1 g1 : Nat → Int) (b2 : Int) (n2 : Nat) (f2 g2 : Nat → Int) (n3 : Nat) (h : Nat → Int) (bl : Int) (nl : Nat) (fl gl : Nat → Int) : Bool :=
  thrOk id made b1 n1 f1 g1 b2 n2 f2 g2 n3 h && (labOk bl nl fl gl && flowsB b1 n1 f1 g1 n3 h bl nl fl gl)
def changesB (id made b1 : Int) (n1 : Nat) (f1 g1 : Nat → Int) (b2 : Int) (n2 : Nat) (f2 g2 : Nat → Int) (n3 : Nat) (h : Nat → Int) (bl : Int) (nl : Nat) (fl gl : Nat → Int) : Bool :=
  seesB id made b1 n1 f1 g1 b2 n2 f2 g2 n3 h bl nl fl gl && rchB id made b1 n1 f1 g1 b2 n2 f2 g2 n3 h bl nl fl gl

theorem thrOk_out {id made b1 : Int} {n1 : Nat} {f1 g1 : Nat → Int} {b2 : Int} {n2 : Nat} {f2 g2 : Nat → Int} {n3 : Nat} {h : Nat → Int} (t : thrOk id made b1 n1 f1 g1 b2 n2 f2 g2 n3 h = true) : labOk b1 n1 f1 g1 = true ∧ labOk b2 n2 f2 g2 = true ∧ ownOk n3 h = true := by
  simp only [thrOk, Bool.and_eq_true] at t
  exact ⟨t.1.1.1.2, t.1.1.2, t.1.2⟩

set_option maxRecDepth 100000 in
set_option maxHeartbeats 1000000 in
theorem implReaches_any (id made b1 : Int) (a1 : Option Addr) (n1 k1 : Nat) (f1 g1 : Nat → Int) (b2 : Int) (a2 : Option Addr) (n2 k2 : Nat) (f2 g2 : Nat → Int) (a3 : Option Addr) (n3 k3 : Nat) (h : Nat → Int) (bl : Int) (al : Option Addr) (nl kl : Nat) (fl gl : Nat → Int) (w : World) (hn1 : n1 ≤ maxLen) (hn2 : n2 ≤ maxLen) (hn3 : n3 ≤ maxLen) (hc1 : CatsAt w a1 n1 f1 g1) (hc2 : CatsAt w a2 n2 f2 g2) (hc3 : IntsAt w a3 n3 h) (hnl : nl ≤ maxLen) (hcl : CatsAt w al nl fl gl) :
    Calls Tryz.prog 60 #[.agg #[.int .i64 id, .int .i64 b1, .slice a1 n1 k1, .int .i64 b2, .slice a2 n2 k2, .slice a3 n3 k3, .int .i64 made], .agg #[.int .i64 bl, .slice al nl kl]] w fun e w' => e = .returned (.bool (rchB id made b1 n1 f1 g1 b2 n2 f2 g2 n3 h bl nl fl gl)) ∧ Below w.heap.size w w' := by
  have hb0 := ((Below.refl _ w).alloc (Nat.le_refl _) (.cells #[.int .i64 id, .int .i64 b1, .slice a1 n1 k1, .int .i64 b2, .slice a2 n2 k2, .slice a3 n3 k3, .int .i64 made] 54)).alloc (by simp) (.cells #[.int .i64 bl, .slice al nl kl] 39)
  have yT : Blk ((w.alloc (.cells #[.int .i64 id, .int .i64 b1, .slice a1 n1 k1, .int .i64 b2, .slice a2 n2 k2, .slice a3 n3 k3, .int .i64 made] 54)).alloc (.cells #[.int .i64 bl, .slice al nl kl] 39)) w.heap.size (.cells #[.int .i64 id, .int .i64 b1, .slice a1 n1 k1, .int .i64 b2, .slice a2 n2 k2, .slice a3 n3 k3, .int .i64 made] 54) := (Blk.new w _).alloc _
  have yL : Blk ((w.alloc (.cells #[.int .i64 id, .int .i64 b1, .slice a1 n1 k1, .int .i64 b2, .slice a2 n2 k2, .slice a3 n3 k3, .int .i64 made] 54)).alloc (.cells #[.int .i64 bl, .slice al nl kl] 39)) (w.heap.size + 1) (.cells #[.int .i64 bl, .slice al nl kl] 39) := by have := Blk.new (w.alloc (.cells #[.int .i64 id, .int .i64 b1, .slice a1 n1 k1, .int .i64 b2, .slice a2 n2 k2, .slice a3 n3 k3, .int .i64 made] 54)) (.cells #[.int .i64 bl, .slice al nl kl] 39); simpa using this
  go_enter Tryz.func60, Tryz.ntmps60
  go_wp2_with fail
  refine (implThr_any _ _ _ _ _ _ f1 g1 _ _ _ _ f2 g2 _ _ _ h _ hn1 hn2 hn3 (hc1.below hb0) (hc2.below hb0) (hc3.below hb0)).mono ?_
  rintro e w1 ⟨rfl, hb1⟩
  have B1 : Below w.heap.size w w1 := hb0.trans (hb1.mono (by simp; omega))
  have xT := yT.below hb1
  have xL := yL.below hb1
  obtain ⟨x0, x1, x2, x3, x4, x5, x6⟩ := xT.seven
  obtain ⟨x7, x8⟩ := xL.two
  clear yT yL hb0 hb1
  by_cases t1 : thrOk id made b1 n1 f1 g1 b2 n2 f2 g2 n3 h = true
  · go_wp2_with fail
    refine (implFlows_any _ _ _ _ f1 g1 _ _ _ h _ _ _ _ fl gl _ hn1 hnl hn3 (hc1.below B1) (hcl.below B1) (hc3.below B1)).mono ?_
    rintro e w2 ⟨rfl, hb2⟩
    have B2 : Below w.heap.size w w2 := B1.trans (hb2.mono B1.size)
    clear x0 x1 x2 x3 x4 x5 x6 x7 x8 xT xL
    go_wp2
    go_ret
    obtain ⟨p1, _, p3⟩ := thrOk_out t1
    exact ⟨ret_bool (by simp [flowAll, rchB, t1, p1, p3]), B2⟩
  · have t1' : thrOk id made b1 n1 f1 g1 b2 n2 f2 g2 n3 h = false := by simpa using t1
    clear t1
    go_wp2
    go_ret
    exact ⟨ret_bool (by simp [rchB, t1']), B1⟩

end Go.Proofs.YtaaeeaknjlammaaGreatDoor
