/- label of the program's map of levels: the categories whose level is not the base, rising; none when there are more than twelve. -/
import Derived.Test.YtjolkbcnglhebaaW
import Derived.Test.YtjolkbcnglhebaaT
import Derived.Maps.OwnOps
namespace Go.Proofs.Ytjolkbcnglhebaa
open Go.RowKit Go.Deep Go.Maps

/-- a list of categories by its places -/
def fstAt (l : List (Int × Int)) (i : Nat) : Int := (l.getD i (0, 0)).1
def sndAt (l : List (Int × Int)) (i : Nat) : Int := (l.getD i (0, 0)).2

theorem fstAt_snoc_lt {l : List (Int × Int)} {p : Int × Int} {i : Nat} (h : i < l.length) : fstAt (l ++ [p]) i = fstAt l i := by
  simp [fstAt, List.getElem?_append_left h]
theorem sndAt_snoc_lt {l : List (Int × Int)} {p : Int × Int} {i : Nat} (h : i < l.length) : sndAt (l ++ [p]) i = sndAt l i := by
  simp [sndAt, List.getElem?_append_left h]
theorem fstAt_snoc_eq (l : List (Int × Int)) (p : Int × Int) : fstAt (l ++ [p]) l.length = p.1 := by simp [fstAt]
theorem sndAt_snoc_eq (l : List (Int × Int)) (p : Int × Int) : sndAt (l ++ [p]) l.length = p.2 := by simp [sndAt]

theorem catCells_congr {f g f' g' : Nat → Int} {n : Nat} (hf : ∀ i, i < n → f i = f' i) (hg : ∀ i, i < n → g i = g' i) : catCells f g n = catCells f' g' n := by
  unfold catCells
  apply List.map_congr_left
  intro j hj
  have hj' : j < n * 2 := List.mem_range.1 hj
  have : j / 2 < n := by omega
  unfold pairCell
  rw [hf _ this, hg _ this]

theorem OwnCats.congr {w : World} {B n : Nat} {v : Value} {f g f' g' : Nat → Int} (h : OwnCats w B v n f g) (hf : ∀ i, i < n → f i = f' i) (hg : ∀ i, i < n → g i = g' i) : OwnCats w B v n f' g' := by
  unfold OwnCats at *
  rw [← catCells_congr hf hg]; exact h

/-- the value v holds just the categories of l, in memory of its own -/
def OwnList (w : World) (B : Nat) (v : Value) (l : List (Int × Int)) : Prop := OwnCats w B v l.length (fstAt l) (sndAt l)

theorem OwnList.snoc {w : World} {B : Nat} {v : Value} {l : List (Int × Int)} {x y : Int} (h : OwnCats w B v (l.length + 1) (glue l.length (fstAt l) (fun _ => x)) (glue l.length (sndAt l) (fun _ => y))) : OwnList w B v (l ++ [(x, y)]) := by
  unfold OwnList
  rw [List.length_append]
  refine h.congr (fun i hi => ?_) (fun i hi => ?_)
  · by_cases e : i < l.length
    · simp only [glue, e, if_true]; rw [fstAt_snoc_lt e]
    · obtain rfl : i = l.length := by have hi' : i < l.length + 1 := hi; omega
      rw [fstAt_snoc_eq]; simp [glue]
  · by_cases e : i < l.length
    · simp only [glue, e, if_true]; rw [sndAt_snoc_lt e]
    · obtain rfl : i = l.length := by have hi' : i < l.length + 1 := hi; omega
      rw [sndAt_snoc_eq]; simp [glue]

/-- of the first k keys those whose level is not the base -/
def fltTo (base : Int) (m : Int → Option Int) (h : Nat → Int) : Nat → List (Int × Int)
  | 0 => []
  | k + 1 => if (m (h k)).getD 0 = base then fltTo base m h k else fltTo base m h k ++ [(h k, (m (h k)).getD 0)]

theorem fltTo_len (base : Int) (m : Int → Option Int) (h : Nat → Int) (k : Nat) : (fltTo base m h k).length ≤ k := by
  induction k with
  | zero => simp [fltTo]
  | succ k ih =>
    simp only [fltTo]
    split
    · omega
    · rw [List.length_append]; show _ + 1 ≤ _; omega

end Go.Proofs.Ytjolkbcnglhebaa
