/- Leq of the program answers the plain function leqB. -/
import Derived.Test.YtimacbpfnkephaaW
import Derived.Test.YtimacbpfnkephaaU
import Derived.Deep.DeepCutAuto
namespace Go.Proofs.Ytimacbpfnkephaa
open Go.RowKit Go.Deep Go.Maps

def leqB (ba : Int) (na : Nat) (fa ga : Nat → Int) (bb : Int) (nb : Nat) (fb gb : Nat → Int) : Bool :=
  labOk ba na fa ga && labOk bb nb fb gb && flowsB ba na fa ga 0 (fun _ => 0) bb nb fb gb

theorem look_isSome {f g : Nat → Int} {n : Nat} {x : Int} (h : (look f g n x).isSome = true) : ∃ i, i < n ∧ f i = x := by
  induction n with
  | zero => simp [look] at h
  | succ n ih =>
    simp only [look] at h
    by_cases e : f n = x
    · exact ⟨n, by omega, e⟩
    · rw [if_neg e] at h
      obtain ⟨i, hi, e⟩ := ih h
      exact ⟨i, by omega, e⟩

/-- what holds of all named categories holds of those of both labels -/
theorem flowsB_named {ba : Int} {na : Nat} {fa ga : Nat → Int} {no : Nat} {ho : Nat → Int} {bb : Int} {nb : Nat} {fb gb : Nat → Int} {n : Nat} {h : Nat → Int}
    (hra : ∀ j, j < na → ∀ i, i < j → fa i < fa j) (hrb : ∀ j, j < nb → ∀ i, i < j → fb i < fb j)
    (hmem : ∀ x, (∃ i, i < n ∧ h i = x) ↔ ((look fa ga na x).isSome || (look fb gb nb x).isSome) = true) (h0 : ba ≤ bb)
    (hall : ∀ i, i < n → letB ba na fa ga no ho bb nb fb gb (h i) = true) : flowsB ba na fa ga no ho bb nb fb gb = true := by
  refine flowsB_mk h0 fun i hi => ?_
  have : ∃ j, j < n ∧ h j = glue na fa fb i := (hmem _).2 (by
    by_cases e : i < na
    · simp [glue, e, look_some hra e]
    · have e2 : i - na < nb := by omega
      simp [glue, e, look_some hrb e2])
  obtain ⟨j, hj, e⟩ := this
  rw [← e]
  exact hall j hj

theorem flowsB_not {ba : Int} {na : Nat} {fa ga : Nat → Int} {no : Nat} {ho : Nat → Int} {bb : Int} {nb : Nat} {fb gb : Nat → Int} {n : Nat} {h : Nat → Int}
    (hmem : ∀ x, (∃ i, i < n ∧ h i = x) ↔ ((look fa ga na x).isSome || (look fb gb nb x).isSome) = true) {k : Nat} (hk : k < n)
    (hno : letB ba na fa ga no ho bb nb fb gb (h k) = false) : flowsB ba na fa ga no ho bb nb fb gb = false := by
  have := (hmem (h k)).1 ⟨k, hk, rfl⟩
  rw [Bool.or_eq_true] at this
  rcases this with e | e
  · obtain ⟨i, hi, e⟩ := look_isSome e
    exact flowsB_at (k := i) (by omega) (by simp only [glue, hi, if_true]; rw [e]; exact hno)
  · obtain ⟨i, hi, e⟩ := look_isSome e
    exact flowsB_at (k := na + i) (by omega) (by
      have e1 : ¬ na + i < na := by omega
      have e2 : na + i - na = i := by omega
      simp only [glue, e1, if_false, e2]; rw [e]; exact hno)

theorem of_lev (base : Int) (c : Nat) (n : Nat) (f g : Nat → Int) (x : Int) (w : World) (hm : MapIs w c n (look f g n)) (hx : (Lit.int .i64 x).wf = true) :
    Calls Try.prog 54 #[.agg #[.int .i64 base, .map (some c)], .int .i64 x] w fun e w' => e = .returned (.int .i64 (levOf base n f g x)) ∧ Below w.heap.size w w' := of_any base c n (look f g n) x w hm hx

/-- block P holds a struct of two cells -/
def Cell2 (W : World) (P : Nat) (x y : Value) : Prop := W.heap[P]? = some (.cells #[x, y] 93)

theorem Cell2.new (W : World) (x y : Value) : Cell2 (W.alloc (.cells #[x, y] 93)) W.heap.size x y := blk_alloc_new _ _
theorem Cell2.new1 (W : World) (o : Obj) (x y : Value) : Cell2 ((W.alloc o).alloc (.cells #[x, y] 93)) (W.heap.size + 1) x y := by
  have := Cell2.new (W.alloc o) x y
  simpa using this
theorem Cell2.lt {W : World} {P : Nat} {x y : Value} (h : Cell2 W P x y) : P < W.heap.size := (Array.getElem?_eq_some_iff.1 h).1
theorem Cell2.alloc {W : World} {P : Nat} {x y : Value} (h : Cell2 W P x y) (o : Obj) : Cell2 (W.alloc o) P x y := (blk_alloc_lt _ _ _ h.lt).trans h
theorem Cell2.drew {W : World} {P : Nat} {x y : Value} (h : Cell2 W P x y) : Cell2 W.drew P x y := h
theorem Cell2.below {W W' : World} {P : Nat} {x y : Value} (h : Cell2 W P x y) (hb : Below W.heap.size W W') : Cell2 W' P x y := (hb.block P h.lt).trans h
theorem Cell2.other {W : World} {P : Nat} {x y : Value} (h : Cell2 W P x y) {a : Addr} (hne : P ≠ a.block) (v : Value) : Cell2 (W.setCell a v) P x y := (blk_setCell_other _ _ _ _ hne).trans h
theorem Cell2.set0 {W : World} {P : Nat} {x y : Value} (h : Cell2 W P x y) (v : Value) : Cell2 (W.setCell ⟨P, 0, none⟩ v) P v y := by
  unfold Cell2 at *
  simp [World.setCell, Array.getElem?_modify, h]
theorem Cell2.set1 {W : World} {P : Nat} {x y : Value} (h : Cell2 W P x y) (v : Value) : Cell2 (W.setCell ⟨P, 1, none⟩ v) P x v := by
  unfold Cell2 at *
  simp [World.setCell, Array.getElem?_modify, h]
theorem Cell2.cells {W : World} {P : Nat} {x y : Value} (h : Cell2 W P x y) : W.cell? ⟨P, 0, none⟩ = some x ∧ W.cell? ⟨P, 1, none⟩ = some y := by
  unfold Cell2 at h
  simp [World.cell?, h]

theorem Cell2.new' {W : World} {P : Nat} {x y : Value} (h : P = W.heap.size) : Cell2 (W.alloc (.cells #[x, y] 93)) P x y := by rw [h]; exact Cell2.new _ _ _
/-- some struct of two cells lies there -/
def Has2 (W : World) (P : Nat) : Prop := ∃ x y, Cell2 W P x y
theorem Has2.new' {W : World} {P : Nat} {x y : Value} (h : P = W.heap.size) : Has2 (W.alloc (.cells #[x, y] 93)) P := ⟨x, y, Cell2.new' h⟩
theorem Has2.alloc {W : World} {P : Nat} (h : Has2 W P) (o : Obj) : Has2 (W.alloc o) P := by obtain ⟨x, y, h⟩ := h; exact ⟨x, y, h.alloc o⟩
theorem Has2.drew {W : World} {P : Nat} (h : Has2 W P) : Has2 W.drew P := h
theorem Has2.below {W W' : World} {P : Nat} (h : Has2 W P) (hb : Below W.heap.size W W') : Has2 W' P := by obtain ⟨x, y, h⟩ := h; exact ⟨x, y, h.below hb⟩
theorem Has2.other {W : World} {P : Nat} (h : Has2 W P) {a : Addr} (hne : P ≠ a.block) (v : Value) : Has2 (W.setCell a v) P := by obtain ⟨x, y, h⟩ := h; exact ⟨x, y, h.other hne v⟩
theorem Cell2.set01 {W : World} {P : Nat} (h : Has2 W P) (u v : Value) : Cell2 ((W.setCell ⟨P, 0, none⟩ u).setCell ⟨P, 1, none⟩ v) P u v := by obtain ⟨x, y, h⟩ := h; exact (h.set0 u).set1 v

theorem lt3 {a b : Nat} (h : a + 3 < b) : a < b ∧ a + 1 < b ∧ b ≠ a ∧ b ≠ a + 1 ∧ b + 1 ≠ a := by omega

end Go.Proofs.Ytimacbpfnkephaa
