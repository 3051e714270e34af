/- How a slice of bytes that came in is opened. -/
import Derived.Test.YtkoinmddcnnipaaZ0
import Derived.Deep.SlicePairs
import Derived.Test.YtkoinmddcnnipaaZ10
import Derived.Deep.RegionHeld3
import Derived.Test.YtkoinmddcnnipaaProg
import Derived.ProofKit
import Derived.Shelf.Abstract
import Derived.Test.YtkoinmddcnnipaaZ3
import Derived.Test.YtkoinmddcnnipaaZ6
import Derived.Test.YtkoinmddcnnipaaZ7
namespace Go.Proofs.Ytkoinmddcnnipaa
open Go.ChangeShapes Go.WideShapes Go.ChangeAt Go.RowKit Go.Deep Go.Joins

theorem cell_lt {w : World} {b o : Nat} {v : Value} (h : w.cell? ⟨b, o, none⟩ = some v) : b < w.heap.size := by
  apply Nat.lt_of_not_le
  intro hle
  have : w.heap[b]? = none := Array.getElem?_eq_none hle
  simp [World.cell?, this] at h
theorem Try.cells5 : Try.prog.cellsOf 5 = 1 := by kernel_rfl

set_option maxRecDepth 100000 in
theorem open_codeArg {H : Type} {enc : TypeId × Value → H} {W : World} {base : Nat} {v1 : Value} {d1 : DataW H} {p1 : List MemPlace} (hval : Value.okWide Try.prog W .any base 22 v1) (h1 : DataW.Trod enc Try.prog W 0 (fun _ => true) true 22 v1 d1 p1) :
    ∃ a n cap, v1 = .slice a n cap ∧ BytesAt W a n := by
  obtain ⟨a1, len, cap, rfl⟩ := okWide_slice Try.underlying22 hval
  obtain ⟨fuel, hf⟩ := h1
  rcases open_ints Try.underlying22 Try.underlying5 Try.cells5 hf with ⟨hcs, hx⟩ | ⟨a, len', cap', zs, hcs, _, hl, hm, hz, hx, hcell, hwz⟩
  · simp [Value.cells] at hcs
    obtain ⟨rfl, rfl, rfl⟩ := hcs
    exact ⟨none, 0, 0, rfl, fun h => by omega⟩
  · simp [Value.cells] at hcs
    obtain ⟨rfl, rfl, rfl⟩ := hcs
    simp only [if_true] at hz
    obtain ⟨ab, ao, spot⟩ := a
    refine ⟨_, _, _, rfl, fun h0 => ?_⟩
    have hspot : spot = none := by simpa [Addr.add] using World.cell?_spot (hcell 0 (by omega))
    subst hspot
    have h00 := hcell 0 (by omega)
    rw [Addr.add_lit] at h00
    refine ⟨ab, ao, rfl, cell_lt h00, fun i hi => ?_⟩
    have hi' := hcell i (by omega)
    rw [Addr.add_lit] at hi'
    have hb := range_u8 hwz i
    rw [List.getD_eq_getElem?_getD] at hi'
    exact ⟨_, hi', hb.1, by omega⟩
end Go.Proofs.Ytkoinmddcnnipaa
namespace Go.Proofs.Ytkoinmddcnnipaa
open Go

section
variable {P : Program} {ops : Array Oper} {Q : Exit → Act → World → Prop} {md : Region.Mode} {S : World → Prop} {m : Nat}

def wpAnyG (P : Program) (md : Region.Mode) (ops : Array Oper) (Q : Exit → Act → World → Prop) (S : World → Prop) (m : Nat) : Nat → Array Bool → Act → World → Prop
  | 0, listed, a, w => Region.ready md ops listed = [] ∧ Q .normal a w
  | fuel + 1, listed, a, w =>
    (Region.ready md ops listed = [] → Q .normal a w) ∧
    ∀ i ∈ Region.ready md ops listed, wpOp P ops Q i (fun a' w' => ((listed.setIfInBounds i true).getD m false = false → S w') ∧ wpAnyG P md ops Q S m fuel (listed.setIfInBounds i true) a' w') a w

theorem wpAny_of_G : ∀ (fuel : Nat) (listed : Array Bool) (a : Act) (w : World), wpAnyG P md ops Q S m fuel listed a w → wpAny P md ops Q fuel listed a w
  | 0, _, _, _, h => h
  | fuel + 1, _, _, _, h => ⟨h.1, fun i hi => wpOp_mono (fun a' w' h' => wpAny_of_G fuel _ a' w' h'.2) (h.2 i hi)⟩
def waits (md : Region.Mode) (ops : Array Oper) (m i : Nat) : Bool := match ops[m]? with
  | some o => o.after.any fun e => Region.binds md e && (e.on == i)
  | none => false

theorem wpAnyG_first {i : Nat} {oi : Oper} {v : Value} (hi : ops[i]? = some oi) (hsel : ∀ (j : Nat) (o : Oper) cs b, ops[j]? = some o → o.op ≠ .select cs b)
    (hQ : ∀ c a w, Q (.panic c) (a.put oi.dst v) w → Q (.panic c) a w) (hwait : (waits md ops m i || decide (ops.size ≤ m)) = true) (him : i ≠ m) :
    ∀ (fuel : Nat) (listed : Array Bool) (a : Act) (w : World),
      (∀ j oj, ops[j]? = some oj → j ≠ i → listed.getD j true = false → (∀ e ∈ oj.after, Region.binds md e = true → e.on ≠ i) → oi.apart ops oj = true) →
      i ∈ Region.ready md ops listed → YieldsIf P ops S oi v a → S w → listed.getD m false = false →
      wpAnyG P md ops Q S m fuel (listed.setIfInBounds i true) (a.put oi.dst v) w → wpAnyG P md ops Q S m (fuel + 1) listed a w := by
  intro fuel
  induction fuel with
  | zero =>
    intro listed a w _ hr hy hS _ H
    refine ⟨fun h => (by rw [h] at hr; cases hr), fun j hj => ?_⟩
    by_cases hji : j = i
    · subst hji; exact hy.wpOp hi hS ⟨fun _ => hS, H⟩
    · have := ready_mono hj hji
      rw [H.1] at this
      cases this
  | succ fuel ih =>
    intro listed a w hfree hr hy hS hm H
    refine ⟨fun h => (by rw [h] at hr; cases hr), fun j hj => ?_⟩
    by_cases hji : j = i
    · subst hji; exact hy.wpOp hi hS ⟨fun _ => hS, H⟩
    · have h1 := H.2 j (ready_mono hj hji)
      obtain ⟨hjun, oj, hoj, hall⟩ := mem_ready.1 hj
      have hnot : ∀ e ∈ oj.after, Region.binds md e = true → e.on ≠ i := fun e he hb heq => by
        have h1 := hall e he hb
        have h0 := (mem_ready.1 hr).1
        rw [heq] at h1
        rcases Nat.lt_or_ge i listed.size with h' | h'
        · simp [h'] at h0 h1; rw [h0] at h1; cases h1
        · simp [Array.getElem?_eq_none h'] at h1
      have hjm : j ≠ m := fun e => by
        subst e
        simp only [Bool.or_eq_true, decide_eq_true_eq] at hwait
        rcases hwait with hwait | hwait
        rotate_left
        · have := (Array.getElem?_eq_some_iff.1 hoj).1
          omega
        unfold waits at hwait
        rw [hoj] at hwait
        simp only [Array.any_eq_true] at hwait
        obtain ⟨x, hx, hb⟩ := hwait
        simp only [Bool.and_eq_true, beq_iff_eq] at hb
        exact hnot _ (Array.getElem_mem hx) hb.1 hb.2
      have h2 := wpOp_putIf hoj (hfree j oj hoj hji hjun hnot) (fun cs b => hsel i oi cs b hi) (fun cs b => hsel j oj cs b hoj) hQ hy h1
      have hfree' : ∀ k ok, ops[k]? = some ok → k ≠ i → (listed.setIfInBounds j true).getD k true = false →
          (∀ e ∈ ok.after, Region.binds md e = true → e.on ≠ i) → oi.apart ops ok = true := fun k ok hk hki hun hno => by
        refine hfree k ok hk hki ?_ hno
        by_cases hjk : j = k
        · subst hjk; exact hjun
        · rw [getD_set_ne true hjk] at hun; exact hun
      have hm2 : (listed.setIfInBounds j true).getD m false = false := by rw [getD_set_ne false hjm]; exact hm
      have hm3 : ((listed.setIfInBounds i true).setIfInBounds j true).getD m false = false := by rw [getD_set_ne false hjm, getD_set_ne false him]; exact hm
      refine wpOp_mono (fun a' w' h3 => ⟨fun _ => h3.2.1 hm3, ih (listed.setIfInBounds j true) a' w' hfree' (ready_mono hr (Ne.symm hji)) h3.1 (h3.2.1 hm3) hm2 ?_⟩) h2
      rw [Array.setIfInBounds_comm _ _ hji]
      exact h3.2.2

theorem wpAnyG_take {i : Nat} {oi : Oper} {v : Value} {fuel : Nat} {listed : Array Bool} {a : Act} {w : World} (hi : ops[i]? = some oi)
    (hs : Region.noSelect ops = true) (hf : Region.free md ops listed i = true) (hr : (Region.ready md ops listed).contains i = true)
    (hwait : (waits md ops m i || decide (ops.size ≤ m)) = true) (him : (i == m) = false) (hm : listed.getD m false = false)
    (hQ : ∀ c a w, Q (.panic c) (a.put oi.dst v) w → Q (.panic c) a w) (hy : YieldsIf P ops S oi v a) (hS : S w)
    (h : wpAnyG P md ops Q S m fuel (listed.setIfInBounds i true) (a.put oi.dst v) w) : wpAnyG P md ops Q S m (fuel + 1) listed a w :=
  wpAnyG_first hi (Region.noSelect_spec hs) hQ hwait (by simpa using him) fuel listed a w (Region.free_spec hi hf) (by simpa using hr) hy hS hm h

theorem wpAnyG_takeD {i d : Nat} {oi : Oper} (v : Value) {fuel : Nat} {listed : Array Bool} {a : Act} {w : World} (hi : ops[i]? = some oi) (hd : oi.dst = some d)
    (hs : Region.noSelect ops = true) (hf : Region.free md ops listed i = true) (hr : (Region.ready md ops listed).contains i = true)
    (hwait : (waits md ops m i || decide (ops.size ≤ m)) = true) (him : (i == m) = false) (hm : listed.getD m false = false)
    (hQ : ∀ c a w, Q (.panic c) (a.put (some d) v) w → Q (.panic c) a w) (hy : YieldsIf P ops S oi v a) (hS : S w)
    (h : wpAnyG P md ops Q S m fuel (listed.setIfInBounds i true) (a.put (some d) v) w) : wpAnyG P md ops Q S m (fuel + 1) listed a w :=
  wpAnyG_take hi hs hf hr hwait him hm (by rw [hd]; exact hQ) hy hS (by rw [hd]; exact h)
theorem wpAnyG_skip {i d : Nat} {oi : Oper} {fuel : Nat} {listed : Array Bool} {a : Act} {w : World} (hi : ops[i]? = some oi) (hd : oi.dst = some d)
    (hs : Region.noSelect ops = true) (hf : Region.free md ops listed i = true) (hr : (Region.ready md ops listed).contains i = true)
    (hwait : (waits md ops m i || decide (ops.size ≤ m)) = true) (him : (i == m) = false) (hm : listed.getD m false = false)
    (hQ : ∀ c a w, Q (.panic c) (a.put (some d) undef) w → Q (.panic c) a w) (hun : Region.wanted oi (yielded ops a.tmps) = false) (hS : S w)
    (h : wpAnyG P md ops Q S m fuel (listed.setIfInBounds i true) (a.put (some d) undef) w) : wpAnyG P md ops Q S m (fuel + 1) listed a w :=
  wpAnyG_takeD undef hi hd hs hf hr hwait him hm hQ (Or.inr ⟨hun, rfl⟩) hS h
theorem wpAnyG_one {i : Nat} {o : Oper} {fuel : Nat} {listed : Array Bool} {a : Act} {w : World} (hr : Region.ready md ops listed = [i]) (ho : ops[i]? = some o)
    (h : ∀ K' : Act → World → Prop, Shut (∀ a w, ((listed.setIfInBounds i true).getD m false = false → S w) → wpAnyG P md ops Q S m fuel (listed.setIfInBounds i true) a w → K' a w) → if Region.wanted o (yielded ops a.tmps) = true then Oper.wp P o a w K' Q else K' (a.put o.dst undef) w) :
    wpAnyG P md ops Q S m (fuel + 1) listed a w :=
  ⟨fun h0 => (by rw [hr] at h0; cases h0), fun j hj => by
    rw [hr] at hj
    obtain rfl := List.mem_singleton.1 hj
    exact wpOp_step ho (fun K' hK => h K' (fun a w hS hW => hK a w ⟨hS, hW⟩))⟩

theorem wpAnyG_done {listed : Array Bool} {a : Act} {w : World} (hr : Region.ready md ops listed = []) (h : Q .normal a w) :
    ∀ fuel, wpAnyG P md ops Q S m fuel listed a w
  | 0 => ⟨hr, h⟩
  | _ + 1 => ⟨fun _ => h, by rw [hr]; simp⟩

theorem wp_region_G {id : Nat} {a : Act} {w : World} (m : Nat) (S : World → Prop) (hm : P.follows .mixedOrders = true)
    (h : wpAnyG P .any ops Q S m ops.size (Array.replicate ops.size false) a w.drew) : (Code.region id ops true).wp P Q a w :=
  wp_region_any hm (wpAny_of_G _ _ _ _ h)
end

end Go.Proofs.Ytkoinmddcnnipaa
namespace Go.Proofs.Ytkoinmddcnnipaa
open Go

theorem step_call1g {ops : Array Oper} {o : Oper} {a : Act} {w : World} {K : Act → World → Prop} {Q : Exit → Act → World → Prop} {E : Prop} (hw : Region.wanted o (yielded ops a.tmps) = true) (f : Nat) (x : Operand) (ats : Array TypeId)
    (ho : o.op = .call { callee := .value (.func f), args := #[x], argTypes := ats }) (eg : ∀ args w, (callFunc f args).run Try.prog w = .ok (.enter f args) w) (v0 : Value) (hv : a.eval x = v0)
    (d : Option Nat) (hd : o.dst = d) (R : Value → World → Prop) (hc : Calls Try.prog f #[v0] w fun e w' => ∃ v, e = .returned v ∧ R v w') (h : ∀ v w', R v w' → K (a.put d v) w') :
    if Region.wanted o (yielded ops a.tmps) = true then Oper.wp Try.prog o a w K Q else E := by
  rw [if_pos hw]
  have e : (execOp a.eval o).run Try.prog w = .ok (.enter f #[v0]) w := by
    unfold execOp
    simp only [ho, resolve, invoke, Sem.run_bind, List.map_toArray, List.map_cons, List.map_nil, hv]
    simp [go_sem, eg, Act.eval]
  unfold Oper.wp
  rw [e, Oper.upon_enter]
  exact hc.mono fun e w' ⟨v, he, hr⟩ => by subst he; rw [hd]; exact h v w' hr
theorem step_call2g {ops : Array Oper} {o : Oper} {a : Act} {w : World} {K : Act → World → Prop} {Q : Exit → Act → World → Prop} {E : Prop} (hw : Region.wanted o (yielded ops a.tmps) = true) (f : Nat) (x y : Operand) (ats : Array TypeId)
    (ho : o.op = .call { callee := .value (.func f), args := #[x, y], argTypes := ats }) (eg : ∀ args w, (callFunc f args).run Try.prog w = .ok (.enter f args) w) (v0 v1 : Value) (hv : a.eval x = v0) (hv1 : a.eval y = v1)
    (d : Option Nat) (hd : o.dst = d) (R : Value → World → Prop) (hc : Calls Try.prog f #[v0, v1] w fun e w' => ∃ v, e = .returned v ∧ R v w') (h : ∀ v w', R v w' → K (a.put d v) w') :
    if Region.wanted o (yielded ops a.tmps) = true then Oper.wp Try.prog o a w K Q else E := by
  rw [if_pos hw]
  have e : (execOp a.eval o).run Try.prog w = .ok (.enter f #[v0, v1]) w := by
    unfold execOp
    simp only [ho, resolve, invoke, Sem.run_bind, List.map_toArray, List.map_cons, List.map_nil, hv, hv1]
    simp [go_sem, eg, Act.eval]
  unfold Oper.wp
  rw [e, Oper.upon_enter]
  exact hc.mono fun e w' ⟨v, he, hr⟩ => by subst he; rw [hd]; exact h v w' hr
theorem step_call3g {ops : Array Oper} {o : Oper} {a : Act} {w : World} {K : Act → World → Prop} {Q : Exit → Act → World → Prop} {E : Prop} (hw : Region.wanted o (yielded ops a.tmps) = true) (f : Nat) (x y z : Operand) (ats : Array TypeId)
    (ho : o.op = .call { callee := .value (.func f), args := #[x, y, z], argTypes := ats }) (eg : ∀ args w, (callFunc f args).run Try.prog w = .ok (.enter f args) w) (v0 v1 v2 : Value) (hv : a.eval x = v0) (hv1 : a.eval y = v1) (hv2 : a.eval z = v2)
    (d : Option Nat) (hd : o.dst = d) (R : Value → World → Prop) (hc : Calls Try.prog f #[v0, v1, v2] w fun e w' => ∃ v, e = .returned v ∧ R v w') (h : ∀ v w', R v w' → K (a.put d v) w') :
    if Region.wanted o (yielded ops a.tmps) = true then Oper.wp Try.prog o a w K Q else E := by
  rw [if_pos hw]
  have e : (execOp a.eval o).run Try.prog w = .ok (.enter f #[v0, v1, v2]) w := by
    unfold execOp
    simp only [ho, resolve, invoke, Sem.run_bind, List.map_toArray, List.map_cons, List.map_nil, hv, hv1, hv2]
    simp [go_sem, eg, Act.eval]
  unfold Oper.wp
  rw [e, Oper.upon_enter]
  exact hc.mono fun e w' ⟨v, he, hr⟩ => by subst he; rw [hd]; exact h v w' hr
end Go.Proofs.Ytkoinmddcnnipaa
namespace Go.Proofs.Ytkoinmddcnnipaa
open Go Go.RowKit

theorem ap (l : List Value) (ds : List Deferred) (d : Nat) (v : Value) : Act.put ⟨l.toArray, ds⟩ (some d) v = ⟨(l.set d v).toArray, ds⟩ := by
  simp only [Act.put, List.setIfInBounds_toArray]
def tkOk (md : Region.Mode) (ops : Array Oper) (m : Nat) (listed : Array Bool) (i : Nat) : Bool :=
  Region.noSelect ops && Region.free md ops listed i && (Region.ready md ops listed).contains i && (waits md ops m i || decide (ops.size ≤ m)) && !(i == m) && !listed.getD m false
section
variable {P : Program} {md : Region.Mode} {ops : Array Oper} {Q : Exit → Act → World → Prop} {S : World → Prop} {m : Nat}
theorem tk (i d : Nat) {oi : Oper} (v : Value) {fuel : Nat} {listed : Array Bool} {a : Act} {w : World} (hi : ops[i]? = some oi) (hd : oi.dst = some d) (hk : tkOk md ops m listed i = true)
    (hw : Region.wanted oi (yielded ops a.tmps) = true) (hy : ∀ W, S W → (execOp a.eval oi).run P W = .ok (.value v) W) (hS : S w)
    (h : wpAnyG P md ops Q S m fuel (listed.setIfInBounds i true) (a.put (some d) v) w) (hQ : ∀ c a w, Q (.panic c) (a.put (some d) v) w → Q (.panic c) a w := by exact fun _ _ _ => id) : wpAnyG P md ops Q S m (fuel + 1) listed a w := by
  unfold tkOk at hk
  simp only [Bool.and_eq_true, Bool.not_eq_true'] at hk
  obtain ⟨⟨⟨⟨⟨h1, h2⟩, h3⟩, h4⟩, h5⟩, h6⟩ := hk
  exact wpAnyG_takeD v hi hd h1 h2 h3 h4 h5 h6 hQ (Or.inl ⟨hw, hy⟩) hS h
theorem sk (i d : Nat) {oi : Oper} {fuel : Nat} {listed : Array Bool} {a : Act} {w : World} (hi : ops[i]? = some oi) (hd : oi.dst = some d) (hk : tkOk md ops m listed i = true)
    (hun : Region.wanted oi (yielded ops a.tmps) = false) (hS : S w)
    (h : wpAnyG P md ops Q S m fuel (listed.setIfInBounds i true) (a.put (some d) undef) w) (hQ : ∀ c a w, Q (.panic c) (a.put (some d) undef) w → Q (.panic c) a w := by exact fun _ _ _ => id) : wpAnyG P md ops Q S m (fuel + 1) listed a w := by
  unfold tkOk at hk
  simp only [Bool.and_eq_true, Bool.not_eq_true'] at hk
  obtain ⟨⟨⟨⟨⟨h1, h2⟩, h3⟩, h4⟩, h5⟩, h6⟩ := hk
  exact wpAnyG_skip hi hd h1 h2 h3 h4 h5 h6 hQ hun hS h
end
end Go.Proofs.Ytkoinmddcnnipaa
namespace Go.Proofs.Ytkoinmddcnnipaa
open Go Go.RowKit Go.Deep

def idxI : Option Nat → Int
  | none => -1
  | some j => j
theorem findI_first {ids : Nat → Int} {n k : Nat} {x : Int} (hk : k < n) (he : ids k = x) (h : ∀ j, j < k → ids j ≠ x) : findI ids n x = some k := by
  unfold findI
  rw [List.find?_range_eq_some]
  exact ⟨by simpa using he, List.mem_range.2 hk, fun j hj => by simpa using h j hj⟩
theorem findI_no {ids : Nat → Int} {n : Nat} {x : Int} (h : ∀ j, j < n → ids j ≠ x) : findI ids n x = none := by
  unfold findI
  rw [List.find?_eq_none]
  intro j hj
  simpa using h j (List.mem_range.1 hj)

set_option maxRecDepth 100000 in
set_option maxHeartbeats 2000000 in
theorem l3Find_any (k : KerV) (x : Int) (w : World) (hk : k.at w) :
    Calls Try.prog 18 #[k.val, .int .i64 x] w fun e w' => e = .returned (.int .i64 (idxI (findI (fun i => (k.O i).id) k.on x))) ∧ Below w.heap.size w w' := by
  have hb0 := (Below.refl _ w).alloc (Nat.le_refl _) (.cells #[.slice k.ta k.tn k.tk, .slice k.oa k.on k.ok] 27)
  have A0 := Blk.new w (.cells #[.slice k.ta k.tn k.tk, .slice k.oa k.on k.ok] 27)
  have HT := hid (hk.below hb0)
  have hn := hk.2.1
  unfold maxLen at hn
  unfold KerV.val
  obtain ⟨x0, x1⟩ := A0.two
  clear hk A0
  go_enter Try.func18, Try.ntmps18
  go_wp2
  generalize w.alloc (.cells #[.slice k.ta k.tn k.tk, .slice k.oa k.on k.ok] 27) = W at *
  go_loop [5] (fun i => ∃ q : Nat, q ≤ k.on ∧ i = .int .i64 q ∧ Hid (∀ j, j < q → (k.O j).id ≠ x)) (fun i => k.on - (intOf i).toNat)
  case atStart => exact ⟨0, Nat.zero_le _, rfl, hid (fun j hj => by omega)⟩
  case round =>
    obtain ⟨q, hq, rfl, HA⟩ := hrel
    by_cases hlt : q < k.on
    · obtain ⟨b, off, ea, _, hcc⟩ := HT.out.2.2.2 (by omega)
      have q0 := (hcc q hlt).1.c0
      have i1 : (q : Int) < (k.on : Int) := by omega
      rw [ea] at x1
      clear hcc ea
      by_cases e : (k.O q).id = x
      · have HF := hid (findI_first (ids := fun i => (k.O i).id) hlt e HA.out)
        have e' : ((k.O q).id == x) = true := by simpa using e
        clear e HA
        go_wp2
        go_ret
        exact ⟨ret_int (by rw [HF.out]; rfl), hb0⟩
      · have e' : ((k.O q).id == x) = false := by simpa using e
        have HA2 : Hid (∀ j, j < q + 1 → (k.O j).id ≠ x) := hid (fun j hj => by
          by_cases ej : j = q
          · subst ej; exact e
          · exact HA.out j (by omega))
        clear e HA
        go_wp2
        exact ⟨⟨q + 1, by omega, by go_num, HA2⟩, by simp [intOf]; omega⟩
    · have i1 : ¬ (q : Int) < (k.on : Int) := by omega
      have HF := hid (findI_no (ids := fun i => (k.O i).id) (n := k.on) (x := x) (fun j hj => HA.out j (by omega)))
      clear HA
      go_wp2
      go_ret
      exact ⟨ret_int (by rw [HF.out]; rfl), hb0⟩

set_option maxRecDepth 100000 in
set_option maxHeartbeats 2000000 in
theorem l3Thread_any (k : KerV) (x : Int) (w : World) (hk : k.at w) :
    Calls Try.prog 33 #[k.val, .int .i64 x] w fun e w' => e = .returned (.int .i64 (idxI (findI (fun i => (k.T i).id) k.tn x))) ∧ Below w.heap.size w w' := by
  have hb0 := (Below.refl _ w).alloc (Nat.le_refl _) (.cells #[.slice k.ta k.tn k.tk, .slice k.oa k.on k.ok] 27)
  have A0 := Blk.new w (.cells #[.slice k.ta k.tn k.tk, .slice k.oa k.on k.ok] 27)
  have HT := hid (hk.below hb0)
  have hn := hk.1
  unfold maxLen at hn
  unfold KerV.val
  obtain ⟨x0, x1⟩ := A0.two
  clear hk A0
  go_enter Try.func33, Try.ntmps33
  go_wp2
  generalize w.alloc (.cells #[.slice k.ta k.tn k.tk, .slice k.oa k.on k.ok] 27) = W at *
  go_loop [5] (fun i => ∃ q : Nat, q ≤ k.tn ∧ i = .int .i64 q ∧ Hid (∀ j, j < q → (k.T j).id ≠ x)) (fun i => k.tn - (intOf i).toNat)
  case atStart => exact ⟨0, Nat.zero_le _, rfl, hid (fun j hj => by omega)⟩
  case round =>
    obtain ⟨q, hq, rfl, HA⟩ := hrel
    by_cases hlt : q < k.tn
    · obtain ⟨b, off, ea, _, hcc⟩ := HT.out.2.2.1 (by omega)
      have q0 := (hcc q hlt).1.c0
      have i1 : (q : Int) < (k.tn : Int) := by omega
      rw [ea] at x0
      clear hcc ea
      by_cases e : (k.T q).id = x
      · have HF := hid (findI_first (ids := fun i => (k.T i).id) hlt e HA.out)
        have e' : ((k.T q).id == x) = true := by simpa using e
        clear e HA
        go_wp2
        go_ret
        exact ⟨ret_int (by rw [HF.out]; rfl), hb0⟩
      · have e' : ((k.T q).id == x) = false := by simpa using e
        have HA2 : Hid (∀ j, j < q + 1 → (k.T j).id ≠ x) := hid (fun j hj => by
          by_cases ej : j = q
          · subst ej; exact e
          · exact HA.out j (by omega))
        clear e HA
        go_wp2
        exact ⟨⟨q + 1, by omega, by go_num, HA2⟩, by simp [intOf]; omega⟩
    · have i1 : ¬ (q : Int) < (k.tn : Int) := by omega
      have HF := hid (findI_no (ids := fun i => (k.T i).id) (n := k.tn) (x := x) (fun j hj => HA.out j (by omega)))
      clear HA
      go_wp2
      go_ret
      exact ⟨ret_int (by rw [HF.out]; rfl), hb0⟩
end Go.Proofs.Ytkoinmddcnnipaa
namespace Go.Proofs.Ytkoinmddcnnipaa

def idsOf (O : Nat → ObjV) (i : Nat) : Int := (O i).id
def upsOf (O : Nat → ObjV) (i : Nat) : Int := (O i).up
def boxAt (n : Nat) (O : Nat → ObjV) (x : Int) : Bool := match findI (fun i => (O i).id) n x with
  | some u => (O u).kind == 3
  | none => false
def upsOk (n : Nat) (O : Nat → ObjV) : Bool := (List.range (n - 1)).all (fun i => boxAt n O (O (i + 1)).up)
def kerOk (k : KerV) : Bool := thrsOk k.tn k.T && objsOk k.on k.O && numsOk k.tn k.T k.on k.O && upsOk k.on k.O && reachB (fun i => (k.O i).id) (fun i => (k.O i).up) k.on
def spAt (k : KerV) (i : Nat) : Bool := objOk (k.O i) && (if i = 0 then rootB (k.O 0) else decide ((k.O (i - 1)).id < (k.O i).id) && numAt k.tn k.T (k.O i).id && boxAt k.on k.O (k.O i).up)

theorem spAt_all {k : KerV} (h1 : 1 ≤ k.on) (h2 : k.on ≤ 271) : (objsOk k.on k.O && numsOk k.tn k.T k.on k.O && upsOk k.on k.O) = (List.range k.on).all (spAt k) := by
  rw [Bool.eq_iff_iff]
  simp only [Bool.and_eq_true]
  constructor
  · rintro ⟨⟨ho, hn⟩, hu⟩
    obtain ⟨_, _, ha, hr⟩ := objsOk_out ho
    refine all_yes fun i hi => ?_
    have hai := ha i hi
    simp only [objAt, Bool.and_eq_true] at hai
    simp only [spAt, hai.1, Bool.true_and]
    by_cases e : i = 0
    · rw [if_pos e]; exact hr
    · rw [if_neg e] at hai ⊢
      have e1 : i - 1 + 1 = i := by omega
      have h3 := all_out hn (i - 1) (by omega)
      have h4 := all_out hu (i - 1) (by omega)
      simp only [e1] at h3 h4
      simp only [hai.2, h3, h4, Bool.and_true]
  · intro h
    have ha := all_out h
    have h0 := ha 0 (by omega)
    simp only [spAt, if_true, Bool.and_eq_true] at h0
    refine ⟨⟨?_, ?_⟩, ?_⟩
    · have : (List.range k.on).all (objAt k.O) = true := all_yes fun i hi => by
        have hi' := ha i hi
        simp only [spAt, Bool.and_eq_true] at hi'
        simp only [objAt, hi'.1, Bool.true_and]
        by_cases e : i = 0
        · rw [if_pos e]
          have := h0.2
          simp only [rootB, Bool.and_eq_true, beq_iff_eq] at this
          simp [this.1.1]
        · rw [if_neg e] at hi' ⊢
          simp only [Bool.and_eq_true] at hi'
          exact hi'.2.1.1
      simp only [objsOk, this, h0.2, Bool.and_true, Bool.and_eq_true, decide_eq_true_eq]
      exact ⟨h1, h2⟩
    · refine all_yes fun i hi => ?_
      have hi' := ha (i + 1) (by omega)
      simp only [spAt, Bool.and_eq_true] at hi'
      rw [if_neg (by omega)] at hi'
      simp only [Bool.and_eq_true] at hi'
      exact hi'.2.1.2
    · refine all_yes fun i hi => ?_
      have hi' := ha (i + 1) (by omega)
      simp only [spAt, Bool.and_eq_true] at hi'
      rw [if_neg (by omega)] at hi'
      simp only [Bool.and_eq_true] at hi'
      exact hi'.2.2

theorem kerOk_sp {k : KerV} (ht : thrsOk k.tn k.T = true) (h1 : 1 ≤ k.on) (h2 : k.on ≤ 271) : kerOk k = ((List.range k.on).all (spAt k) && reachB (fun i => (k.O i).id) (fun i => (k.O i).up) k.on) := by
  rw [kerOk, ht, ← spAt_all h1 h2]
  simp [Bool.and_assoc]
theorem kerOk_thr {k : KerV} (ht : thrsOk k.tn k.T = false) : kerOk k = false := by simp [kerOk, ht]
theorem kerOk_few {k : KerV} (h : ¬ (1 ≤ k.on ∧ k.on ≤ 271)) : kerOk k = false := by
  have : objsOk k.on k.O = false := by
    cases e : objsOk k.on k.O with
    | false => rfl
    | true => obtain ⟨a, b, _⟩ := objsOk_out e; exact absurd ⟨a, b⟩ h
  simp [kerOk, this]

theorem thr_rises {n : Nat} {T : Nat → ThrV} (h : thrsOk n T = true) : Rises (fun i => (T i).id) n := by
  obtain ⟨_, _, ha⟩ := thrsOk_out h
  intro i j hij
  induction j with
  | zero => omega
  | succ j ih =>
    intro hj
    have h1 := ha (j + 1) hj
    simp [thrAt] at h1
    by_cases e : i = j
    · subst e; exact h1.2
    · have := ih (by omega) (by omega)
      simp only at this ⊢
      omega
theorem look_find {ids g : Nat → Int} {n : Nat} (h : Rises ids n) (x : Int) : look ids g n x = (findI ids n x).map g := by
  induction n with
  | zero => rfl
  | succ n ih =>
    have ih' := ih (fun i j hij hj => h i j hij (by omega))
    rw [look]
    split
    · rename_i e; rw [← e, findI_eq h (Nat.lt_succ_self n)]; rfl
    · rename_i e
      rw [ih']
      congr 1
      cases e1 : findI ids n x with
      | none =>
        symm
        refine findI_no fun j hj => ?_
        by_cases ej : j = n
        · subst ej; exact e
        · exact findI_none e1 j (by omega)
      | some j =>
        obtain ⟨j1, j2⟩ := findI_some e1
        symm
        rw [← j2]
        exact findI_eq h (by omega)
theorem numAt_some {n : Nat} {T : Nat → ThrV} (h : thrsOk n T = true) {id : Int} {t : Nat} (e : findI (fun i => (T i).id) n (id / 1000) = some t) : numAt n T id = inB (id % 1000) 1 (T t).made := by
  have : madeOf n T (id / 1000) = (T t).made := by
    unfold madeOf
    rw [look_find (thr_rises h), e]
    rfl
  simp [numAt, this, inB]
theorem numAt_none {n : Nat} {T : Nat → ThrV} (h : thrsOk n T = true) {id : Int} (e : findI (fun i => (T i).id) n (id / 1000) = none) : numAt n T id = false := by
  have : madeOf n T (id / 1000) = 0 := by
    unfold madeOf
    rw [look_find (thr_rises h), e]
    rfl
  simp [numAt, this]
  intro _
  omega
theorem sp_pos {k : KerV} {i : Nat} (h : ∀ j, j < i → spAt k j = true) (h0 : 0 < i) (hl : (k.O (i - 1)).id < (k.O i).id) : 1 ≤ (k.O i).id := by
  have : ∀ j, j < i → 1 ≤ (k.O j).id := by
    intro j
    induction j with
    | zero =>
      intro hj
      have := h 0 hj
      simp only [spAt, if_true, Bool.and_eq_true, rootB, beq_iff_eq] at this
      omega
    | succ j ih =>
      intro hj
      have h1 := ih (by omega)
      have := h (j + 1) hj
      simp only [spAt, Bool.and_eq_true] at this
      rw [if_neg (by omega)] at this
      simp only [Bool.and_eq_true, decide_eq_true_eq, Nat.add_sub_cancel] at this
      omega
  have := this (i - 1) (by omega)
  omega
end Go.Proofs.Ytkoinmddcnnipaa
