/- Leq of the program answers the plain function leqB. -/
import Derived.Test.YtaaeeaknjlammaaGreatDoorW
import Derived.Test.YtaaeeaknjlammaaGreatDoorU
import Derived.Deep.DeepCutAuto
namespace Go.Proofs.YtaaeeaknjlammaaGreatDoor
open Go.RowKit Go.Deep Go.Maps

def leqB (ba : Int) (na : Nat) (fa ga : Nat → Int) (bb : Int) (nb : Nat) (fb gb : Nat → Int) : Bool :=
  labOk ba na fa ga && labOk bb nb fb gb && flowsB ba na fa ga 0 (fun _ => 0) bb nb fb gb

theorem look_isSome {f g : Nat → Int} {n : Nat} {x : Int} (h : (look f g n x).isSome = true) : ∃ i, i < n ∧ f i = x := by
  induction n with
  | zero => simp [look] at h
  | succ n ih =>
    simp only [look] at h
    by_cases e : f n = x
    · exact ⟨n, by omega, e⟩
    · rw [if_neg e] at h
      obtain ⟨i, hi, e⟩ := ih h
      exact ⟨i, by omega, e⟩

/-- what holds of all named categories holds of those of both labels -/
theorem flowsB_named {ba : Int} {na : Nat} {fa ga : Nat → Int} {no : Nat} {ho : Nat → Int} {bb : Int} {nb : Nat} {fb gb : Nat → Int} {n : Nat} {h : Nat → Int}
    (hra : ∀ j, j < na → ∀ i, i < j → fa i < fa j) (hrb : ∀ j, j < nb → ∀ i, i < j → fb i < fb j)
    (hmem : ∀ x, (∃ i, i < n ∧ h i = x) ↔ ((look fa ga na x).isSome || (look fb gb nb x).isSome) = true) (h0 : ba ≤ bb)
    (hall : ∀ i, i < n → letB ba na fa ga no ho bb nb fb gb (h i) = true) : flowsB ba na fa ga no ho bb nb fb gb = true := by
  refine flowsB_mk h0 fun i hi => ?_
  have : ∃ j, j < n ∧ h j = glue na fa fb i := (hmem _).2 (by
    by_cases e : i < na
    · simp [glue, e, look_some hra e]
    · have e2 : i - na < nb := by omega
      simp [glue, e, look_some hrb e2])
  obtain ⟨j, hj, e⟩ := this
  rw [← e]
  exact hall j hj

theorem flowsB_not {ba : Int} {na : Nat} {fa ga : Nat → Int} {no : Nat} {ho : Nat → Int} {bb : Int} {nb : Nat} {fb gb : Nat → Int} {n : Nat} {h : Nat → Int}
    (hmem : ∀ x, (∃ i, i < n ∧ h i = x) ↔ ((look fa ga na x).isSome || (look fb gb nb x).isSome) = true) {k : Nat} (hk : k < n)
    (hno : letB ba na fa ga no ho bb nb fb gb (h k) = false) : flowsB ba na fa ga no ho bb nb fb gb = false := by
  have := (hmem (h k)).1 ⟨k, hk, rfl⟩
  rw [Bool.or_eq_true] at this
  rcases this with e | e
  · obtain ⟨i, hi, e⟩ := look_isSome e
    exact flowsB_at (k := i) (by omega) (by simp only [glue, hi, if_true]; rw [e]; exact hno)
  · obtain ⟨i, hi, e⟩ := look_isSome e
    exact flowsB_at (k := na + i) (by omega) (by
      have e1 : ¬ na + i < na := by omega
      have e2 : na + i - na = i := by omega
      simp only [glue, e1, if_false, e2]; rw [e]; exact hno)

theorem of_lev (base : Int) (c : Nat) (n : Nat) (f g : Nat → Int) (x : Int) (w : World) (hm : MapIs w c n (look f g n)) (hx : (Lit.int .i64 x).wf = true) :
    Calls Tryz.prog 85 #[.agg #[.int .i64 base, .map (some c)], .int .i64 x] w fun e w' => e = .returned (.int .i64 (levOf base n f g x)) ∧ Below w.heap.size w w' := of_any base c n (look f g n) x w hm hx

/-- block P holds a struct of two cells -/
def Cell2 (W : World) (P : Nat) (x y : Value) : Prop := W.heap[P]? = some (.cells #[x, y] 137)

theorem Cell2.new (W : World) (x y : Value) : Cell2 (W.alloc (.cells #[x, y] 137)) W.heap.size x y := blk_alloc_new _ _
theorem Cell2.new1 (W : World) (o : Obj) (x y : Value) : Cell2 ((W.alloc o).alloc (.cells #[x, y] 137)) (W.heap.size + 1) x y := by
  have := Cell2.new (W.alloc o) x y
  simpa using this
theorem Cell2.lt {W : World} {P : Nat} {x y : Value} (h : Cell2 W P x y) : P < W.heap.size := (Array.getElem?_eq_some_iff.1 h).1
theorem Cell2.alloc {W : World} {P : Nat} {x y : Value} (h : Cell2 W P x y) (o : Obj) : Cell2 (W.alloc o) P x y := (blk_alloc_lt _ _ _ h.lt).trans h
theorem Cell2.drew {W : World} {P : Nat} {x y : Value} (h : Cell2 W P x y) : Cell2 W.drew P x y := h
theorem Cell2.below {W W' : World} {P : Nat} {x y : Value} (h : Cell2 W P x y) (hb : Below W.heap.size W W') : Cell2 W' P x y := (hb.block P h.lt).trans h
theorem Cell2.other {W : World} {P : Nat} {x y : Value} (h : Cell2 W P x y) {a : Addr} (hne : P ≠ a.block) (v : Value) : Cell2 (W.setCell a v) P x y := (blk_setCell_other _ _ _ _ hne).trans h
theorem Cell2.set0 {W : World} {P : Nat} {x y : Value} (h : Cell2 W P x y) (v : Value) : Cell2 (W.setCell ⟨P, 0, none⟩ v) P v y := by
  unfold Cell2 at *
  simp [World.setCell, Array.getElem?_modify, h]
theorem Cell2.set1 {W : World} {P : Nat} {x y : Value} (h : Cell2 W P x y) (v : Value) : Cell2 (W.setCell ⟨P, 1, none⟩ v) P x v := by
  unfold Cell2 at *
  simp [World.setCell, Array.getElem?_modify, h]
theorem Cell2.cells {W : World} {P : Nat} {x y : Value} (h : Cell2 W P x y) : W.cell? ⟨P, 0, none⟩ = some x ∧ W.cell? ⟨P, 1, none⟩ = some y := by
  unfold Cell2 at h
  simp [World.cell?, h]

theorem Cell2.new' {W : World} {P : Nat} {x y : Value} (h : P = W.heap.size) : Cell2 (W.alloc (.cells #[x, y] 137)) P x y := by rw [h]; exact Cell2.new _ _ _
/-- some struct of two cells lies there -/
def Has2 (W : World) (P : Nat) : Prop := ∃ x y, Cell2 W P x y
theorem Has2.new' {W : World} {P : Nat} {x y : Value} (h : P = W.heap.size) : Has2 (W.alloc (.cells #[x, y] 137)) P := ⟨x, y, Cell2.new' h⟩
theorem Has2.alloc {W : World} {P : Nat} (h : Has2 W P) (o : Obj) : Has2 (W.alloc o) P := by obtain ⟨x, y, h⟩ := h; exact ⟨x, y, h.alloc o⟩
theorem Has2.drew {W : World} {P : Nat} (h : Has2 W P) : Has2 W.drew P := h
theorem Has2.below {W W' : World} {P : Nat} (h : Has2 W P) (hb : Below W.heap.size W W') : Has2 W' P := by obtain ⟨x, y, h⟩ := h; exact ⟨x, y, h.below hb⟩
theorem Has2.other {W : World} {P : Nat} (h : Has2 W P) {a : Addr} (hne : P ≠ a.block) (v : Value) : Has2 (W.setCell a v) P := by obtain ⟨x, y, h⟩ := h; exact ⟨x, y, h.other hne v⟩
theorem Cell2.set01 {W : World} {P : Nat} (h : Has2 W P) (u v : Value) : Cell2 ((W.setCell ⟨P, 0, none⟩ u).setCell ⟨P, 1, none⟩ v) P u v := by obtain ⟨x, y, h⟩ := h; exact (h.set0 u).set1 v

theorem lt3 {a b : Nat} (h : a + 3 < b) : a < b ∧ a + 1 < b ∧ b ≠ a ∧ b ≠ a + 1 ∧ b + 1 ≠ a := by omega

set_option maxRecDepth 100000 in
set_option maxHeartbeats 4000000 in
theorem implLeq_any (ba : Int) (aa : Option Addr) (na ka : Nat) (fa ga : Nat → Int) (bb : Int) (ab : Option Addr) (nb kb : Nat) (fb gb : Nat → Int) (w : World)
    (hna : na ≤ maxLen) (hnb : nb ≤ maxLen) (hca : CatsAt w aa na fa ga) (hcb : CatsAt w ab nb fb gb) :
    Calls Tryz.prog 62 #[.agg #[.int .i64 ba, .slice aa na ka], .agg #[.int .i64 bb, .slice ab nb kb]] w fun e w' => e = .returned (.bool (leqB ba na fa ga bb nb fb gb)) ∧ Below w.heap.size w w' := by
  have hb0 := ((Below.refl _ w).alloc (Nat.le_refl _) (.cells #[.int .i64 ba, .slice aa na ka] 39)).alloc (by simp) (.cells #[.int .i64 bb, .slice ab nb kb] 39)
  go_enter Tryz.func62, Tryz.ntmps62
  go_wp2_with fail
  refine (implOk_any _ _ _ _ fa ga _ hna (hca.below hb0)).mono ?_
  rintro e w1 ⟨rfl, hb1⟩
  obtain ⟨q1, _⟩ := bcell hb1
  have z1 : w.heap.size + 1 < w1.heap.size := by have := hb1.size; simp at this; omega
  have z1' : w.heap.size < w1.heap.size := by omega
  have B1 : Below w.heap.size w w1 := hb0.trans (hb1.mono (by simp; omega))
  by_cases t1 : labOk ba na fa ga = true
  · go_wp2_with fail
    refine (implOk_any _ _ _ _ fb gb _ hnb (hcb.below B1)).mono ?_
    rintro e w2 ⟨rfl, hb2⟩
    have z2 : w.heap.size + 1 < w2.heap.size := by have := hb2.size; omega
    have z2' : w.heap.size < w2.heap.size := by omega
    have B2 : Below w.heap.size w w2 := B1.trans (hb2.mono (by omega))
    have x1 : w2.cell? ⟨w.heap.size, 0, none⟩ = some (.int .i64 ba) := (hb2.cell (p := ⟨w.heap.size, 0, none⟩) z1').trans ((hb1.cell (p := ⟨w.heap.size, 0, none⟩) (by simp; omega)).trans (by simp))
    have x2 : w2.cell? ⟨w.heap.size, 1, none⟩ = some (.slice aa na ka) := (hb2.cell (p := ⟨w.heap.size, 1, none⟩) z1').trans ((hb1.cell (p := ⟨w.heap.size, 1, none⟩) (by simp; omega)).trans (by simp))
    have x3 : w2.cell? ⟨w.heap.size + 1, 0, none⟩ = some (.int .i64 bb) := (hb2.cell (p := ⟨w.heap.size + 1, 0, none⟩) z1).trans ((hb1.cell (p := ⟨w.heap.size + 1, 0, none⟩) (by simp)).trans (by simp))
    have x4 : w2.cell? ⟨w.heap.size + 1, 1, none⟩ = some (.slice ab nb kb) := (hb2.cell (p := ⟨w.heap.size + 1, 1, none⟩) z1).trans ((hb1.cell (p := ⟨w.heap.size + 1, 1, none⟩) (by simp)).trans (by simp))
    clear q1 hb1 hb2 B1
    by_cases t2 : labOk bb nb fb gb = true
    · by_cases t3 : bb < ba
      · go_wp2
        go_ret
        exact ⟨ret_bool (by simp [leqB, flowsB_base t3]), B2⟩
      · have ma : na ≤ 1048576 := by have := (labOk_out t1).2.1; omega
        have mb : nb ≤ 1048576 := by have := (labOk_out t2).2.1; omega
        have Ca : CatsAt w2.drew aa na fa ga := hca.below B2.drew
        have Cb : CatsAt w2.drew ab nb fb gb := hcb.below B2.drew
        have WA := labOk_wf t1
        have WB := labOk_wf t2
        have HWA : Hid (∀ i, i < na → (Lit.int .i64 (fa i)).wf = true ∧ (Lit.int .i64 (ga i)).wf = true) := WA
        have HWB : Hid (∀ i, i < nb → (Lit.int .i64 (fb i)).wf = true ∧ (Lit.int .i64 (gb i)).wf = true) := WB
        clear WA WB Ca Cb
        have levA : ∀ W, Below w2.heap.size w2 W → Calls Tryz.prog 83 #[.agg #[.int .i64 ba, .slice aa na ka]] W fun e w' => ∃ c, e = .returned (.agg #[.int .i64 ba, .map (some c)]) ∧ W.heap.size ≤ c ∧ MapIs w' c na (look fa ga na) ∧ (∀ b o, b < W.heap.size → w'.cell? ⟨b, o, none⟩ = W.cell? ⟨b, o, none⟩) ∧ (∀ b o, b < W.heap.size → w'.frozen? ⟨b, o, none⟩ = W.frozen? ⟨b, o, none⟩) ∧ (∀ V : World, V.heap.size ≤ W.heap.size → V.heap.size + 3 < w'.heap.size) ∧ Below w2.heap.size w2 w' ∧ Below W.heap.size W w' ∧ (w'.heap.size ≠ w.heap.size ∧ w'.heap.size ≠ w.heap.size + 1 ∧ w'.heap.size + 1 ≠ w.heap.size) ∧ (w2.heap.size < w'.heap.size ∧ w2.heap.size + 1 < w'.heap.size ∧ w'.heap.size ≠ w2.heap.size ∧ w'.heap.size ≠ w2.heap.size + 1 ∧ w'.heap.size + 1 ≠ w2.heap.size) ∧ w'.cell? ⟨w.heap.size, 0, none⟩ = some (.int .i64 ba) ∧ w'.cell? ⟨w.heap.size, 1, none⟩ = some (.slice aa na ka) ∧ w'.cell? ⟨w.heap.size + 1, 0, none⟩ = some (.int .i64 bb) ∧ w'.cell? ⟨w.heap.size + 1, 1, none⟩ = some (.slice ab nb kb) := fun W hW => by
          refine (levelsOf_any ba aa na ka fa ga W ma (hca.below (B2.trans (hW.mono B2.size))) HWA.out).mono ?_
          rintro e w' ⟨c, rfl, hl, hm, hz, hb⟩
          have hW' := hW.trans (hb.mono hW.size)
          obtain ⟨q, p⟩ := bcell hb
          exact ⟨c, rfl, hl, hm, q, p, fun V hV => by omega, hW', hb, (by have := hW'.size; omega), lt3 (by have := hW.size; omega), (hW'.cell (p := ⟨_, _, none⟩) z2').trans x1, (hW'.cell (p := ⟨_, _, none⟩) z2').trans x2, (hW'.cell (p := ⟨_, _, none⟩) z2).trans x3, (hW'.cell (p := ⟨_, _, none⟩) z2).trans x4⟩
        have HlevA : Hid (∀ W, Below w2.heap.size w2 W → Calls Tryz.prog 83 #[.agg #[.int .i64 ba, .slice aa na ka]] W fun e w' => ∃ c, e = .returned (.agg #[.int .i64 ba, .map (some c)]) ∧ W.heap.size ≤ c ∧ MapIs w' c na (look fa ga na) ∧ (∀ b o, b < W.heap.size → w'.cell? ⟨b, o, none⟩ = W.cell? ⟨b, o, none⟩) ∧ (∀ b o, b < W.heap.size → w'.frozen? ⟨b, o, none⟩ = W.frozen? ⟨b, o, none⟩) ∧ (∀ V : World, V.heap.size ≤ W.heap.size → V.heap.size + 3 < w'.heap.size) ∧ Below w2.heap.size w2 w' ∧ Below W.heap.size W w' ∧ (w'.heap.size ≠ w.heap.size ∧ w'.heap.size ≠ w.heap.size + 1 ∧ w'.heap.size + 1 ≠ w.heap.size) ∧ (w2.heap.size < w'.heap.size ∧ w2.heap.size + 1 < w'.heap.size ∧ w'.heap.size ≠ w2.heap.size ∧ w'.heap.size ≠ w2.heap.size + 1 ∧ w'.heap.size + 1 ≠ w2.heap.size) ∧ w'.cell? ⟨w.heap.size, 0, none⟩ = some (.int .i64 ba) ∧ w'.cell? ⟨w.heap.size, 1, none⟩ = some (.slice aa na ka) ∧ w'.cell? ⟨w.heap.size + 1, 0, none⟩ = some (.int .i64 bb) ∧ w'.cell? ⟨w.heap.size + 1, 1, none⟩ = some (.slice ab nb kb)) := levA
        clear levA
        have levB : ∀ W, Below w2.heap.size w2 W → Calls Tryz.prog 83 #[.agg #[.int .i64 bb, .slice ab nb kb]] W fun e w' => ∃ c, e = .returned (.agg #[.int .i64 bb, .map (some c)]) ∧ W.heap.size ≤ c ∧ MapIs w' c nb (look fb gb nb) ∧ (∀ b o, b < W.heap.size → w'.cell? ⟨b, o, none⟩ = W.cell? ⟨b, o, none⟩) ∧ (∀ b o, b < W.heap.size → w'.frozen? ⟨b, o, none⟩ = W.frozen? ⟨b, o, none⟩) ∧ (∀ V : World, V.heap.size ≤ W.heap.size → V.heap.size + 3 < w'.heap.size) ∧ Below w2.heap.size w2 w' ∧ Below W.heap.size W w' ∧ (w'.heap.size ≠ w.heap.size ∧ w'.heap.size ≠ w.heap.size + 1 ∧ w'.heap.size + 1 ≠ w.heap.size) ∧ (w2.heap.size < w'.heap.size ∧ w2.heap.size + 1 < w'.heap.size ∧ w'.heap.size ≠ w2.heap.size ∧ w'.heap.size ≠ w2.heap.size + 1 ∧ w'.heap.size + 1 ≠ w2.heap.size) ∧ w'.cell? ⟨w.heap.size, 0, none⟩ = some (.int .i64 ba) ∧ w'.cell? ⟨w.heap.size, 1, none⟩ = some (.slice aa na ka) ∧ w'.cell? ⟨w.heap.size + 1, 0, none⟩ = some (.int .i64 bb) ∧ w'.cell? ⟨w.heap.size + 1, 1, none⟩ = some (.slice ab nb kb) := fun W hW => by
          refine (levelsOf_any bb ab nb kb fb gb W mb (hcb.below (B2.trans (hW.mono B2.size))) HWB.out).mono ?_
          rintro e w' ⟨c, rfl, hl, hm, hz, hb⟩
          have hW' := hW.trans (hb.mono hW.size)
          obtain ⟨q, p⟩ := bcell hb
          exact ⟨c, rfl, hl, hm, q, p, fun V hV => by omega, hW', hb, (by have := hW'.size; omega), lt3 (by have := hW.size; omega), (hW'.cell (p := ⟨_, _, none⟩) z2').trans x1, (hW'.cell (p := ⟨_, _, none⟩) z2').trans x2, (hW'.cell (p := ⟨_, _, none⟩) z2).trans x3, (hW'.cell (p := ⟨_, _, none⟩) z2).trans x4⟩
        have HlevB : Hid (∀ W, Below w2.heap.size w2 W → Calls Tryz.prog 83 #[.agg #[.int .i64 bb, .slice ab nb kb]] W fun e w' => ∃ c, e = .returned (.agg #[.int .i64 bb, .map (some c)]) ∧ W.heap.size ≤ c ∧ MapIs w' c nb (look fb gb nb) ∧ (∀ b o, b < W.heap.size → w'.cell? ⟨b, o, none⟩ = W.cell? ⟨b, o, none⟩) ∧ (∀ b o, b < W.heap.size → w'.frozen? ⟨b, o, none⟩ = W.frozen? ⟨b, o, none⟩) ∧ (∀ V : World, V.heap.size ≤ W.heap.size → V.heap.size + 3 < w'.heap.size) ∧ Below w2.heap.size w2 w' ∧ Below W.heap.size W w' ∧ (w'.heap.size ≠ w.heap.size ∧ w'.heap.size ≠ w.heap.size + 1 ∧ w'.heap.size + 1 ≠ w.heap.size) ∧ (w2.heap.size < w'.heap.size ∧ w2.heap.size + 1 < w'.heap.size ∧ w'.heap.size ≠ w2.heap.size ∧ w'.heap.size ≠ w2.heap.size + 1 ∧ w'.heap.size + 1 ≠ w2.heap.size) ∧ w'.cell? ⟨w.heap.size, 0, none⟩ = some (.int .i64 ba) ∧ w'.cell? ⟨w.heap.size, 1, none⟩ = some (.slice aa na ka) ∧ w'.cell? ⟨w.heap.size + 1, 0, none⟩ = some (.int .i64 bb) ∧ w'.cell? ⟨w.heap.size + 1, 1, none⟩ = some (.slice ab nb kb)) := levB
        clear levB
        have HE00 : Hid (Below w2.heap.size w2 w2.drew) := (Below.refl _ _).drew
        have HE0 : Hid (∀ o, Below w2.heap.size w2 (w2.alloc o).drew) := fun o => ((Below.refl _ _).alloc (Nat.le_refl _) o).drew
        have HE000 : Hid (∀ o o', Below w2.heap.size w2 ((w2.alloc o).alloc o').drew) := fun o o' => (((Below.refl _ _).alloc (Nat.le_refl _) o).alloc (by simp) o').drew
        have HB2 : Hid (Below w.heap.size w w2) := B2
        clear hca hcb hb0 B2
        have n1 : w2.heap.size ≠ w.heap.size := by omega
        have n2 : w2.heap.size ≠ w.heap.size + 1 := by omega
        have n3 : w2.heap.size + 1 ≠ w.heap.size := by omega
        go_upto_region 3 with fail
        go_cut [5, 6] (fun p q wc => ∃ P Q c d : Nat, p = .pointer (some ⟨P, 0, none⟩) ∧ q = .pointer (some ⟨Q, 0, none⟩) ∧ Cell2 wc P (.int .i64 ba) (.map (some c)) ∧ Cell2 wc Q (.int .i64 bb) (.map (some d)) ∧ MapIs wc c na (look fa ga na) ∧ MapIs wc d nb (look fb gb nb) ∧ Below w.heap.size w wc)
        case first =>
          go_region_held3 (fun w' => w'.cell? ⟨w.heap.size, 0, none⟩ = some (.int .i64 ba) ∧ w'.cell? ⟨w.heap.size, 1, none⟩ = some (.slice aa na ka) ∧ w'.cell? ⟨w.heap.size + 1, 0, none⟩ = some (.int .i64 bb) ∧ w'.cell? ⟨w.heap.size + 1, 1, none⟩ = some (.slice ab nb kb)) (first | go_keep | (simp [*]))
            (first
              | (go_at_call 83; have hb1' := hb1; clear hb1'; refine (HlevB.out _ ?hB).mono ?_; (case hB => first | exact E1 | exact E1.alloc E1.size _ | exact (E1.alloc E1.size _).alloc (E1.alloc E1.size _).size _); rintro e v2 ⟨c2, rfl, hl2, m2, qb, pb, rb, E2, hb2, ⟨s1, s2, s3⟩, ⟨g1, g2, g3, g4, g5⟩, y1, y2, y3, y4⟩; have rb' := rb v1 (by simp; try omega); obtain ⟨f1, f2, f3, f4, f5⟩ := lt3 rb')
              | (go_at_call 83; refine (HlevA.out _ ?hB).mono ?_; (case hB => first | exact HE00.out | exact HE0.out _ | exact HE000.out _ _); rintro e v1 ⟨c1, rfl, hl1, m1, qa, pa, ra, E1, hb1, ⟨r1, r2, r3⟩, ⟨d1, d2, d3, d4, d5⟩, p1, p2, p3, p4⟩))
          all_goals
            have l1 := m1.lt
            have l2 := m2.lt
            try simp at hl1
            try simp at hl2
            clear qa pa qb pb HlevA HlevB
            have E3 : Below w.heap.size w v2 := HB2.out.trans (E2.mono (by omega))
            go_wp2_with fail
            go_meet
            case rel =>
              refine ⟨_, _, c1, c2, rfl, rfl, ?_, ?_, ?_, ?_, ?_⟩
              · repeat (first | (with_reducible refine Cell2.new' ?_; simp; done) | with_reducible refine Cell2.set01 ?_ _ _ | (with_reducible refine Cell2.other ?_ ?_ _; rotate_left; (dsimp only; omega)) | with_reducible refine Cell2.alloc ?_ _)
                all_goals repeat (first | (with_reducible refine Has2.new' ?_; simp; done) | (with_reducible refine Has2.other ?_ ?_ _; rotate_left; (dsimp only; omega)) | with_reducible refine Has2.alloc ?_ _ | with_reducible refine Has2.drew ?_ | with_reducible refine Has2.below ?_ hb2 | with_reducible refine Has2.below ?_ hb1)
              · repeat (first | (with_reducible refine Cell2.new' ?_; simp; done) | with_reducible refine Cell2.set01 ?_ _ _ | (with_reducible refine Cell2.other ?_ ?_ _; rotate_left; (dsimp only; omega)) | with_reducible refine Cell2.alloc ?_ _)
                all_goals repeat (first | (with_reducible refine Has2.new' ?_; simp; done) | (with_reducible refine Has2.other ?_ ?_ _; rotate_left; (dsimp only; omega)) | with_reducible refine Has2.alloc ?_ _ | with_reducible refine Has2.drew ?_ | with_reducible refine Has2.below ?_ hb2 | with_reducible refine Has2.below ?_ hb1)
              · repeat (first | with_reducible exact m1 | (with_reducible refine MapIs.setCell ?_ ?_ _; rotate_left; (dsimp only; omega)) | with_reducible refine MapIs.alloc ?_ _ | with_reducible refine MapIs.below ?_ hb2)
              · repeat (first | with_reducible exact m2 | (with_reducible refine MapIs.setCell ?_ ?_ _; rotate_left; (dsimp only; omega)) | with_reducible refine MapIs.alloc ?_ _)
              · repeat (first | with_reducible exact E3 | (with_reducible refine Below.setCell ?_ ?_ _; rotate_left; (dsimp only; omega)) | (with_reducible refine Below.alloc ?_ ?_ _; rotate_left; (first | omega | (simp; omega))))
        case rest =>
          obtain ⟨P, Q, c, d, rfl, rfl, u1, u2, m1, m2, Bc⟩ := hcut
          obtain ⟨a1, a2⟩ := u1.cells
          obtain ⟨a3, a4⟩ := u2.cells
          have lP := u1.lt
          have lQ := u2.lt
          clear u1 u2 n1 n2 n3 x1 x2 x3 x4 z2 z2' z1 z1' HB2 HE00 HE0 HE000 HlevA HlevB HWA HWB
          go_wp2_with fail
          refine (namedBy_any _ _ _ _ _ _ _ _ _ m1 m2 (by omega)).mono ?_
          rintro e w3 ⟨a, n, cap, h, rfl, hle, hat, hmem, hris, hwf, hb3⟩
          have b1 := (hb3.cell (p := ⟨P, 0, none⟩) lP).trans a1
          have b2 := (hb3.cell (p := ⟨P, 1, none⟩) lP).trans a2
          have b3 := (hb3.cell (p := ⟨Q, 0, none⟩) lQ).trans a3
          have b4 := (hb3.cell (p := ⟨Q, 1, none⟩) lQ).trans a4
          have M1 := m1.below hb3
          have M2 := m2.below hb3
          have lP3 : P < w3.heap.size := Nat.lt_of_lt_of_le lP hb3.size
          have lQ3 : Q < w3.heap.size := Nat.lt_of_lt_of_le lQ hb3.size
          have B3 : Below w.heap.size w w3 := Bc.trans (hb3.mono Bc.size)
          have HM : Hid (∀ x, (∃ i, i < n ∧ h i = x) ↔ ((look fa ga na x).isSome || (look fb gb nb x).isSome) = true) := hmem
          have HWF : Hid (∀ i, i < n → (Lit.int .i64 (h i)).wf = true) := hwf
          clear a1 a2 a3 a4 m1 m2 hmem hwf hris lP lQ hb3 Bc
          go_wp2
          go_loopw [32] (fun i wr => ∃ k : Nat, k ≤ n ∧ i = .int .i64 k ∧ (∀ j, j < k → letB ba na fa ga 0 (fun _ => 0) bb nb fb gb (h j) = true) ∧ Below w3.heap.size w3 wr) (fun i _ => n - (intOf i).toNat)
          case atStart => exact ⟨0, Nat.zero_le _, rfl, fun j hj => by omega, Below.refl _ _⟩
          case round =>
            obtain ⟨k, hk, rfl, hall, hB⟩ := hrel
            have HA : Hid (∀ j, j < k → letB ba na fa ga 0 (fun _ => 0) bb nb fb gb (h j) = true) := hall
            clear hall
            by_cases hlt' : k < n
            · obtain ⟨b, off, rfl, hlt, hcc⟩ := hat (by omega)
              have r5 := (hB.cell (p := ⟨b, off + k, none⟩) hlt).trans (hcc k hlt')
              have r1 := (hB.cell (p := ⟨P, 0, none⟩) lP3).trans b1
              have r2 := (hB.cell (p := ⟨P, 1, none⟩) lP3).trans b2
              have r3 := (hB.cell (p := ⟨Q, 0, none⟩) lQ3).trans b3
              have r4 := (hB.cell (p := ⟨Q, 1, none⟩) lQ3).trans b4
              have lPr : P < wr.heap.size := Nat.lt_of_lt_of_le lP3 hB.size
              have lQr : Q < wr.heap.size := Nat.lt_of_lt_of_le lQ3 hB.size
              have N1 : MapIs wr.drew c na (look fa ga na) := (M1.below hB).below (Below.refl _ _).drew
              have N2 : MapIs wr.drew d nb (look fb gb nb) := (M2.below hB).below (Below.refl _ _).drew
              have wx := HWF.out k hlt'
              have HWX : Hid ((Lit.int .i64 (h k)).wf = true) := wx
              clear hcc hat b1 b2 b3 b4 M1 M2 wx
              go_wp2_with fail
              go_region_held3 (fun w' => w'.cell? ⟨P, 0, none⟩ = some (.int .i64 ba) ∧ w'.cell? ⟨P, 1, none⟩ = some (.map (some c)) ∧ w'.cell? ⟨Q, 0, none⟩ = some (.int .i64 bb) ∧ w'.cell? ⟨Q, 1, none⟩ = some (.map (some d))) (go_keep)
                (first
                  | (go_at_call 85; have hb1' := hb1; clear hb1'; refine (of_lev bb d nb fb gb (h k) _ (N2.below hb1) HWX.out).mono ?_; rintro e v2 ⟨rfl, hb2⟩; have q1 := (hb2.cell (p := ⟨P, 0, none⟩) (Nat.lt_of_lt_of_le lPr hb1.size)).trans p1; have q2 := (hb2.cell (p := ⟨P, 1, none⟩) (Nat.lt_of_lt_of_le lPr hb1.size)).trans p2; have q3 := (hb2.cell (p := ⟨Q, 0, none⟩) (Nat.lt_of_lt_of_le lQr hb1.size)).trans p3; have q4 := (hb2.cell (p := ⟨Q, 1, none⟩) (Nat.lt_of_lt_of_le lQr hb1.size)).trans p4)
                  | (go_at_call 85; refine (of_lev ba c na fa ga (h k) _ N1 HWX.out).mono ?_; rintro e v1 ⟨rfl, hb1⟩; have p1 := (hb1.cell (p := ⟨P, 0, none⟩) lPr).trans r1; have p2 := (hb1.cell (p := ⟨P, 1, none⟩) lPr).trans r2; have p3 := (hb1.cell (p := ⟨Q, 0, none⟩) lQr).trans r3; have p4 := (hb1.cell (p := ⟨Q, 1, none⟩) lQr).trans r4))
              have hBv : Below w3.heap.size w3 v2 := (hB.drew.trans (hb1.mono hB.size)).trans (hb2.mono (Nat.le_trans hB.size hb1.size))
              clear r1 r2 r3 r4 r5 p1 p2 p3 p4 q1 q2 q3 q4 N1 N2 hb1 hb2 HWX
              by_cases t5 : levOf bb nb fb gb (h k) < levOf ba na fa ga (h k)
              · have HT : Hid (letB ba na fa ga 0 (fun _ => 0) bb nb fb gb (h k) = false) := by show _ = _; simp [letB, hasB, t5]
                go_wp2
                go_ret
                refine ⟨ret_bool ?_, B3.trans (hBv.mono B3.size)⟩
                simp [leqB, flowsB_not HM.out hlt' HT.out]
              · have HT : Hid (letB ba na fa ga 0 (fun _ => 0) bb nb fb gb (h k) = true) := by show _ = _; simp [letB, t5]
                go_wp2
                go_roundw
                case rel =>
                  refine ⟨k + 1, by omega, by go_num, fun j hj => ?_, hBv⟩
                  by_cases e : j = k
                  · subst e; exact HT.out
                  · exact HA.out j (by omega)
                case measure => simp [intOf]; omega
            · clear hat M1 M2 b1 b2 b3 b4
              go_wp2
              go_ret
              refine ⟨ret_bool ?_, B3.trans (hB.mono B3.size)⟩
              have := flowsB_named (no := 0) (ho := fun _ => 0) (rising (labOk_out t1).2.2) (rising (labOk_out t2).2.2) HM.out (by omega) (fun i hi => HA.out i (by omega))
              simp [leqB, t1, t2, this]
    · have t2' : labOk bb nb fb gb = false := by simpa using t2
      clear t2
      go_wp2
      go_ret
      exact ⟨ret_bool (by simp [leqB, t2']), B2⟩
  · have t1' : labOk ba na fa ga = false := by simpa using t1
    clear t1
    go_wp2
    go_ret
    exact ⟨ret_bool (by simp [leqB, t1']), B1⟩
end Go.Proofs.YtaaeeaknjlammaaGreatDoor
