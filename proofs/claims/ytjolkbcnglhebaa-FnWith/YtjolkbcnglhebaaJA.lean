/- The plain part of Join and Meet: the label that the model makes by putting one category after another into a rising list is the one that the program makes of its map. -/
import Derived.Test.YtjolkbcnglhebaaWF
namespace Go.Proofs.Ytjolkbcnglhebaa
open Go.RowKit Go.Deep Go.Maps

theorem grown_below {a b c : World} {P : Nat} (h : a.grownBy b (some P)) (k : Below b.heap.size b c) : a.grownBy c (some P) :=
  ⟨k.os.trans h.os, k.tape.trans h.tape, k.output.trans h.output, Nat.le_trans h.size k.size, fun j hj hne => (k.block j (Nat.lt_of_lt_of_le hj h.size)).trans (h.block j hj hne)⟩
theorem cell_far {W : World} {P b o i : Nat} {v x : Value} (hne : b ≠ P) (h : W.cell? ⟨b, o, none⟩ = some x) : (W.setCell ⟨P, i, none⟩ v).cell? ⟨b, o, none⟩ = some x :=
  (World.cell?_of_block (w := W) (blk_setCell_other _ _ _ _ (by dsimp only; exact hne))).trans h
theorem Blk.set0 {W : World} {P t : Nat} {x y : Value} (h : Blk W P (.cells #[x, y] t)) (v : Value) : Blk (W.setCell ⟨P, 0, none⟩ v) P (.cells #[v, y] t) := by
  unfold Blk at *
  simp [World.setCell, Array.getElem?_modify, h]

theorem mem_at {l : List (Int × Int)} {p : Int × Int} : p ∈ l ↔ ∃ i, i < l.length ∧ p = (fstAt l i, sndAt l i) := by
  rw [List.mem_iff_getElem]
  constructor
  · rintro ⟨i, hi, rfl⟩
    refine ⟨i, hi, ?_⟩
    simp [fstAt, sndAt, hi]
  · rintro ⟨i, hi, rfl⟩
    refine ⟨i, hi, ?_⟩
    simp [fstAt, sndAt, hi]

theorem rise_at {l : List (Int × Int)} (h : l.Pairwise (fun a b => a.1 < b.1)) : ∀ j, j < l.length → ∀ i, i < j → fstAt l i < fstAt l j := by
  intro j hj i hi
  have hi' : i < l.length := by omega
  have := List.pairwise_iff_getElem.1 h i j hi' hj hi
  simpa [fstAt, hi', hj] using this

/-- the model's list behind k rounds -/
def foldTo (base : Int) (ids : Nat → Int) (lev : Int → Int) : Nat → List (Int × Int)
  | 0 => []
  | k + 1 => insFin base (foldTo base ids lev k).length (fstAt (foldTo base ids lev k)) (sndAt (foldTo base ids lev k)) (ids k) (lev (ids k))

theorem foldTo_spec (base : Int) (ids : Nat → Int) (lev : Int → Int) : ∀ k, (foldTo base ids lev k).Pairwise (fun a b => a.1 < b.1) ∧
    ∀ p, p ∈ foldTo base ids lev k ↔ (∃ i, i < k ∧ ids i = p.1) ∧ p.2 = lev p.1 ∧ p.2 ≠ base := by
  intro k
  induction k with
  | zero => exact ⟨List.Pairwise.nil, fun p => ⟨fun h => (by cases h), fun ⟨⟨i, hi, _⟩, _⟩ => by omega⟩⟩
  | succ k ih =>
    obtain ⟨h1, h2⟩ := ih
    obtain ⟨i1, i2⟩ := insFin_spec (base := base) (g := sndAt (foldTo base ids lev k)) (cat := ids k) (level := lev (ids k)) (rise_at h1)
    refine ⟨i1, fun p => ?_⟩
    show p ∈ insFin _ _ _ _ _ _ ↔ _
    rw [i2 p]
    obtain ⟨x, v⟩ := p
    dsimp only
    constructor
    · rintro (⟨i, hi, e, hne⟩ | ⟨e, hne⟩)
      · have hm : ((x, v) : Int × Int) ∈ foldTo base ids lev k := mem_at.2 ⟨i, hi, e⟩
        obtain ⟨⟨j, hj, e1⟩, e2, e3⟩ := (h2 _).1 hm
        exact ⟨⟨j, by omega, e1⟩, e2, e3⟩
      · simp only [Prod.mk.injEq] at e
        obtain ⟨rfl, rfl⟩ := e
        exact ⟨⟨k, by omega, rfl⟩, rfl, hne⟩
    · rintro ⟨⟨j, hj, e1⟩, e2, e3⟩
      by_cases e : x = ids k
      · subst e
        subst e2
        exact .inr ⟨rfl, e3⟩
      · left
        have hj' : j < k := by
          by_cases ej : j = k
          · subst ej; exact absurd e1.symm e
          · omega
        obtain ⟨i, hi, ei⟩ := mem_at.1 ((h2 (x, v)).2 ⟨⟨j, hj', e1⟩, e2, e3⟩)
        refine ⟨i, hi, ei, ?_⟩
        simp only [Prod.mk.injEq] at ei
        rw [← ei.1]; exact e

theorem insTo_len1 (base : Int) (f g : Nat → Int) (cat level : Int) (k : Nat) : (insTo base f g cat level k).1.length ≤ k + (insTo base f g cat level k).2.toNat := by
  induction k with
  | zero => simp [insTo]
  | succ k ih =>
    generalize hR : insTo base f g cat level k = r at ih
    obtain ⟨l, d⟩ := r
    rw [insTo_succ hR]
    dsimp only at ih ⊢
    have h2 : (putQ l d cat level (f k)).1.length ≤ k + (putQ l d cat level (f k)).2.toNat := by
      unfold putQ
      cases d with
      | true => simpa using ih
      | false =>
        split
        · simp only [List.length_append, List.length_singleton, Bool.toNat_true]
          simp only [Bool.toNat_false] at ih
          omega
        · exact ih
    split
    · omega
    · rw [List.length_append]; show _ + 1 ≤ _; omega

theorem insFin_len1 (base : Int) (n : Nat) (f g : Nat → Int) (cat level : Int) : (insFin base n f g cat level).length ≤ n + 1 := by
  have := insTo_len1 base f g cat level n
  unfold insFin
  dsimp only
  generalize insTo base f g cat level n = r at this
  obtain ⟨l, d⟩ := r
  cases d with
  | true => simpa using this
  | false =>
    simp only [Bool.toNat_false] at this
    simp only [Bool.false_eq_true, if_false, List.length_append, List.length_singleton]
    omega

theorem foldTo_len (base : Int) (ids : Nat → Int) (lev : Int → Int) (k : Nat) : (foldTo base ids lev k).length ≤ k := by
  induction k with
  | zero => simp [foldTo]
  | succ k ih =>
    have h := insFin_len1 base (foldTo base ids lev k).length (fstAt (foldTo base ids lev k)) (sndAt (foldTo base ids lev k)) (ids k) (lev (ids k))
    show (insFin _ _ _ _ _ _).length ≤ _
    omega

theorem named_iff {na : Nat} {fa ga : Nat → Int} {nb : Nat} {fb gb : Nat → Int}
    (hra : ∀ j, j < na → ∀ i, i < j → fa i < fa j) (hrb : ∀ j, j < nb → ∀ i, i < j → fb i < fb j) (x : Int) :
    (∃ i, i < na + nb ∧ glue na fa fb i = x) ↔ ((look fa ga na x).isSome || (look fb gb nb x).isSome) = true := by
  rw [Bool.or_eq_true]
  constructor
  · rintro ⟨i, hi, rfl⟩
    by_cases e : i < na
    · left; simp [glue, e, look_some hra e]
    · right
      have e2 : i - na < nb := by omega
      simp [glue, e, look_some hrb e2]
  · rintro (e | e)
    · obtain ⟨i, hi, e⟩ := look_isSome e
      exact ⟨i, by omega, by simp [glue, hi, e]⟩
    · obtain ⟨i, hi, e⟩ := look_isSome e
      have e1 : ¬ na + i < na := by omega
      have e2 : na + i - na = i := by omega
      exact ⟨na + i, by omega, by simp only [glue, e1, if_false, e2]; exact e⟩

/-- the level that both labels give to x -/
def pkLev (pk : Int → Int → Int) (ba : Int) (na : Nat) (fa ga : Nat → Int) (bb : Int) (nb : Nat) (fb gb : Nat → Int) (x : Int) : Int := pk (levOf ba na fa ga x) (levOf bb nb fb gb x)

/-- the program's map behind k rounds -/
def mapTo (lev : Int → Int) (h : Nat → Int) : Nat → Int → Option Int
  | 0 => fun _ => none
  | k + 1 => setAt (mapTo lev h k) (h k) (lev (h k))

theorem mapTo_eq (lev : Int → Int) (h : Nat → Int) (k : Nat) (x : Int) : (∀ v, mapTo lev h k x = some v ↔ (∃ i, i < k ∧ h i = x) ∧ v = lev x) ∧ ((mapTo lev h k x).isSome = true ↔ ∃ i, i < k ∧ h i = x) := by
  have h1 : ∀ v, mapTo lev h k x = some v ↔ (∃ i, i < k ∧ h i = x) ∧ v = lev x := by
    induction k with
    | zero => intro v; exact ⟨fun e => (by cases e), fun ⟨⟨i, hi, _⟩, _⟩ => by omega⟩
    | succ k ih =>
      intro v
      show setAt (mapTo lev h k) (h k) (lev (h k)) x = some v ↔ _
      unfold setAt
      by_cases e : h k = x
      · rw [if_pos e]
        subst e
        constructor
        · intro e; exact ⟨⟨k, by omega, rfl⟩, by simpa using e.symm⟩
        · rintro ⟨_, rfl⟩; rfl
      · rw [if_neg e, ih v]
        constructor
        · rintro ⟨⟨i, hi, r⟩, r'⟩; exact ⟨⟨i, by omega, r⟩, r'⟩
        · rintro ⟨⟨i, hi, r⟩, r'⟩
          refine ⟨⟨i, ?_, r⟩, r'⟩
          by_cases ei : i = k
          · subst ei; exact absurd r e
          · omega
  refine ⟨h1, ?_⟩
  rw [Option.isSome_iff_exists]
  constructor
  · rintro ⟨v, hv⟩; exact ((h1 v).1 hv).1
  · intro hx; exact ⟨lev x, (h1 _).2 ⟨hx, rfl⟩⟩

/-- the two lists are one: h are the named categories, h' the keys of the map made of them -/
theorem merge_lists {base : Int} {lev : Int → Int} {na : Nat} {fa ga : Nat → Int} {nb : Nat} {fb gb : Nat → Int} {h h' : Nat → Int} {n n' : Nat}
    (hra : ∀ j, j < na → ∀ i, i < j → fa i < fa j) (hrb : ∀ j, j < nb → ∀ i, i < j → fb i < fb j)
    (hmem : ∀ x, (∃ i, i < n ∧ h i = x) ↔ ((look fa ga na x).isSome || (look fb gb nb x).isSome) = true)
    (hr' : ∀ j, j < n' → ∀ i, i < j → h' i < h' j) (hm' : ∀ x, (∃ i, i < n' ∧ h' i = x) ↔ (mapTo lev h n x).isSome = true) :
    fltTo base (mapTo lev h n) h' n' = foldTo base (glue na fa fb) lev (na + nb) := by
  obtain ⟨i1, i2⟩ := foldTo_spec base (glue na fa fb) lev (na + nb)
  refine eq_of_rising (fltTo_spec hr' n' (Nat.le_refl _)).1 i1 fun p => ?_
  rw [flt_mem hr' hm' p, i2 p, (mapTo_eq lev h n p.1).1 p.2, hmem p.1, ← named_iff hra hrb p.1]
  exact ⟨fun ⟨⟨a, b⟩, c⟩ => ⟨a, b, c⟩, fun ⟨a, b, c⟩ => ⟨⟨a, b⟩, c⟩⟩

theorem levOf_range {base : Int} {n : Nat} {f g : Nat → Int} (ok : labOk base n f g = true) (x : Int) : 0 ≤ levOf base n f g x ∧ levOf base n f g x ≤ 3 := by
  unfold levOf
  cases e : look f g n x with
  | none => exact inB_iff.1 (labOk_out ok).1
  | some v =>
    obtain ⟨i, hi, _, rfl⟩ := (look_eq (rising (labOk_out ok).2.2)).1 e
    exact (catOk_iff.1 ((labOk_out ok).2.2 i hi)).2.1

/-- a choice of one of two -/
def Picks (pk : Int → Int → Int) : Prop := ∀ x y, pk x y = x ∨ pk x y = y
theorem picks_max : Picks max := fun x y => by rcases Int.le_total x y with h | h <;> omega
theorem picks_min : Picks min := fun x y => by rcases Int.le_total x y with h | h <;> omega

section
variable (pk : Int → Int → Int) (ba : Int) (na : Nat) (fa ga : Nat → Int) (bb : Int) (nb : Nat) (fb gb : Nat → Int)
def mgAll : List (Int × Int) := foldTo (pk ba bb) (glue na fa fb) (pkLev pk ba na fa ga bb nb fb gb) (na + nb)
def mgOk : Bool := labOk ba na fa ga && labOk bb nb fb gb && decide ((mgAll pk ba na fa ga bb nb fb gb).length ≤ 12)
def mgBase : Int := if mgOk pk ba na fa ga bb nb fb gb then pk ba bb else 0
def mgList : List (Int × Int) := if mgOk pk ba na fa ga bb nb fb gb then mgAll pk ba na fa ga bb nb fb gb else []
end

theorem pkLev_range {pk : Int → Int → Int} (hp : Picks pk) {ba : Int} {na : Nat} {fa ga : Nat → Int} {bb : Int} {nb : Nat} {fb gb : Nat → Int} (ta : labOk ba na fa ga = true) (tb : labOk bb nb fb gb = true) (x : Int) :
    0 ≤ pkLev pk ba na fa ga bb nb fb gb x ∧ pkLev pk ba na fa ga bb nb fb gb x ≤ 3 := by
  unfold pkLev
  rcases hp (levOf ba na fa ga x) (levOf bb nb fb gb x) with h | h <;> rw [h]
  · exact levOf_range ta x
  · exact levOf_range tb x

theorem glue_range {ba : Int} {na : Nat} {fa ga : Nat → Int} {bb : Int} {nb : Nat} {fb gb : Nat → Int} (ta : labOk ba na fa ga = true) (tb : labOk bb nb fb gb = true) {i : Nat} (hi : i < na + nb) : 1 ≤ glue na fa fb i ∧ glue na fa fb i ≤ 9999 := by
  unfold glue
  by_cases e : i < na
  · rw [if_pos e]; exact (catOk_iff.1 ((labOk_out ta).2.2 i e)).1
  · rw [if_neg e]; exact (catOk_iff.1 ((labOk_out tb).2.2 (i - na) (by omega))).1

theorem mgAll_ok {pk : Int → Int → Int} (hp : Picks pk) {ba : Int} {na : Nat} {fa ga : Nat → Int} {bb : Int} {nb : Nat} {fb gb : Nat → Int} (ta : labOk ba na fa ga = true) (tb : labOk bb nb fb gb = true) :
    labOk (pk ba bb) (mgAll pk ba na fa ga bb nb fb gb).length (fstAt (mgAll pk ba na fa ga bb nb fb gb)) (sndAt (mgAll pk ba na fa ga bb nb fb gb)) = decide ((mgAll pk ba na fa ga bb nb fb gb).length ≤ 12) := by
  obtain ⟨i1, i2⟩ := foldTo_spec (pk ba bb) (glue na fa fb) (pkLev pk ba na fa ga bb nb fb gb) (na + nb)
  refine labOk_list ?_ i1 fun p hpm => ?_
  · rcases hp ba bb with h | h <;> rw [h]
    · exact (labOk_out ta).1
    · exact (labOk_out tb).1
  · obtain ⟨⟨i, hi, e⟩, e2, e3⟩ := (i2 p).1 hpm
    refine ⟨?_, ?_, e3⟩
    · rw [← e]; exact glue_range ta tb hi
    · rw [e2]; exact pkLev_range hp ta tb _

/-- what a call leaves that answers a label and whether it is one -/
def LabPost (lb : Int) (l : List (Int × Int)) (ok : Bool) (w : World) (e : Ending) (w' : World) : Prop :=
  ∃ a k, e = .returned (.tuple #[.agg #[.int .i64 lb, .slice a l.length k], .bool ok]) ∧ OwnList w' w.heap.size (.slice a l.length k) l ∧ Below w.heap.size w w'

section
variable {pk : Int → Int → Int} {ba : Int} {na : Nat} {fa ga : Nat → Int} {bb : Int} {nb : Nat} {fb gb : Nat → Int}
theorem mgPost_no {w w' : World} (h : mgOk pk ba na fa ga bb nb fb gb = false) (hb : Below w.heap.size w w') :
    LabPost (mgBase pk ba na fa ga bb nb fb gb) (mgList pk ba na fa ga bb nb fb gb) (mgOk pk ba na fa ga bb nb fb gb) w (.returned (.tuple #[.agg #[.int .i64 0, .slice none 0 0], .bool false])) w' := by
  have e1 : mgBase pk ba na fa ga bb nb fb gb = 0 := by simp [mgBase, h]
  have e2 : mgList pk ba na fa ga bb nb fb gb = [] := by simp [mgList, h]
  refine ⟨none, 0, ?_, ?_, hb⟩
  · rw [e1, e2, h]; rfl
  · rw [e2]; exact OwnCats.nil _ _ _ _

theorem mgPost_yes {w w' : World} {a : Option Addr} {k : Nat} (h : mgOk pk ba na fa ga bb nb fb gb = true) (hb : Below w.heap.size w w')
    (ho : OwnList w' w.heap.size (.slice a (mgAll pk ba na fa ga bb nb fb gb).length k) (mgAll pk ba na fa ga bb nb fb gb)) :
    LabPost (mgBase pk ba na fa ga bb nb fb gb) (mgList pk ba na fa ga bb nb fb gb) (mgOk pk ba na fa ga bb nb fb gb) w (.returned (.tuple #[.agg #[.int .i64 (pk ba bb), .slice a (mgAll pk ba na fa ga bb nb fb gb).length k], .bool true])) w' := by
  have e1 : mgBase pk ba na fa ga bb nb fb gb = pk ba bb := by simp [mgBase, h]
  have e2 : mgList pk ba na fa ga bb nb fb gb = mgAll pk ba na fa ga bb nb fb gb := by simp [mgList, h]
  refine ⟨a, k, ?_, ?_, hb⟩
  · rw [e1, e2, h]
  · rw [e2]; exact ho

theorem mgList_len : (mgList pk ba na fa ga bb nb fb gb).length ≤ 12 := by
  unfold mgList
  split
  · rename_i h
    simp only [mgOk, Bool.and_eq_true, decide_eq_true_eq] at h
    exact h.2
  · simp
end
end Go.Proofs.Ytjolkbcnglhebaa
