/- Lists of categories that a call makes: what holds of them while the world grows. -/
import Derived.Test.YtcpphobokdkkeaaDoorT
import Derived.Test.YtcpphobokdkkeaaDoorYB
import Derived.Maps.OwnOps
namespace Go.Proofs.YtcpphobokdkkeaaDoor
open Go.RowKit Go.Deep Go.Maps

theorem grown_trans {a b c : World} {P : Nat} {row : Option Nat} (h : a.grownBy b (some P)) (k : b.grownBy c row) (hr : ∀ j, row = some j → a.heap.size ≤ j) : a.grownBy c (some P) :=
  ⟨k.os.trans h.os, k.tape.trans h.tape, k.output.trans h.output, Nat.le_trans h.size k.size, fun j hj hne => (k.block j (Nat.lt_of_lt_of_le hj h.size) (fun e => by have := hr j e.symm; omega)).trans (h.block j hj hne)⟩
theorem grown_set {a b : World} {P : Nat} (h : a.grownBy b (some P)) (i : Nat) (v : Value) : a.grownBy (b.setCell ⟨P, i, none⟩ v) (some P) :=
  ⟨h.os, h.tape, h.output, by rw [nblk_setCell]; exact h.size, fun j hj hne => (blk_setCell_other _ _ _ _ (by dsimp only; intro e; exact hne (by rw [e]))).trans (h.block j hj hne)⟩
theorem grown_refl (a : World) (P : Nat) : a.grownBy a (some P) := ⟨rfl, rfl, rfl, Nat.le_refl _, fun _ _ _ => rfl⟩
theorem Blk.set1 {W : World} {P t : Nat} {x y : Value} (h : Blk W P (.cells #[x, y] t)) (v : Value) : Blk (W.setCell ⟨P, 1, none⟩ v) P (.cells #[x, v] t) := by
  unfold Blk at *
  simp [World.setCell, Array.getElem?_modify, h]
theorem Blk.grown {W W' : World} {P : Nat} {o : Obj} {row : Option Nat} (h : Blk W P o) (hg : W.grownBy W' row) (hne : some P ≠ row) : Blk W' P o := (hg.block P h.lt hne).trans h
theorem Blk.frozen2 {W : World} {P t : Nat} {x y : Value} (h : Blk W P (.cells #[x, y] t)) (i : Nat) : W.frozen? ⟨P, i, none⟩ = false := by
  unfold Blk at h
  simp [World.frozen?, h]
theorem OwnCats.alloc {w : World} {B n : Nat} {v : Value} {f g : Nat → Int} (h : OwnCats w B v n f g) (o : Obj) : OwnCats (w.alloc o) B v n f g := World.ownsRow.alloc h o
theorem one_cat (w : World) (x y : Int) : CatsAt (w.alloc (.cells #[.int .i64 x, .int .i64 y] 68)) (some ⟨w.heap.size, 0, none⟩) 1 (fun _ => x) (fun _ => y) := fun _ => by
  obtain ⟨h1, h2⟩ := Blk.two (Blk.new w (.cells #[.int .i64 x, .int .i64 y] 68))
  refine ⟨w.heap.size, 0, rfl, by simp, fun i hi => ?_⟩
  obtain rfl : i = 0 := by omega
  exact ⟨h1, h2⟩
def fstAt (l : List (Int × Int)) (i : Nat) : Int := (l.getD i (0, 0)).1
def sndAt (l : List (Int × Int)) (i : Nat) : Int := (l.getD i (0, 0)).2
theorem fstAt_snoc_lt {l : List (Int × Int)} {p : Int × Int} {i : Nat} (h : i < l.length) : fstAt (l ++ [p]) i = fstAt l i := by
  simp [fstAt, List.getElem?_append_left h]
theorem sndAt_snoc_lt {l : List (Int × Int)} {p : Int × Int} {i : Nat} (h : i < l.length) : sndAt (l ++ [p]) i = sndAt l i := by
  simp [sndAt, List.getElem?_append_left h]
theorem fstAt_snoc_eq (l : List (Int × Int)) (p : Int × Int) : fstAt (l ++ [p]) l.length = p.1 := by simp [fstAt]
theorem sndAt_snoc_eq (l : List (Int × Int)) (p : Int × Int) : sndAt (l ++ [p]) l.length = p.2 := by simp [sndAt]
theorem catCells_congr {f g f' g' : Nat → Int} {n : Nat} (hf : ∀ i, i < n → f i = f' i) (hg : ∀ i, i < n → g i = g' i) : catCells f g n = catCells f' g' n := by
  unfold catCells
  apply List.map_congr_left
  intro j hj
  have hj' : j < n * 2 := List.mem_range.1 hj
  have : j / 2 < n := by omega
  unfold pairCell
  rw [hf _ this, hg _ this]
theorem OwnCats.congr {w : World} {B n : Nat} {v : Value} {f g f' g' : Nat → Int} (h : OwnCats w B v n f g) (hf : ∀ i, i < n → f i = f' i) (hg : ∀ i, i < n → g i = g' i) : OwnCats w B v n f' g' := by
  unfold OwnCats at *
  rw [← catCells_congr hf hg]; exact h
/-- the value v holds just the categories of l, in memory of its own -/
def OwnList (w : World) (B : Nat) (v : Value) (l : List (Int × Int)) : Prop := OwnCats w B v l.length (fstAt l) (sndAt l)
theorem OwnList.snoc {w : World} {B : Nat} {v : Value} {l : List (Int × Int)} {x y : Int} (h : OwnCats w B v (l.length + 1) (glue l.length (fstAt l) (fun _ => x)) (glue l.length (sndAt l) (fun _ => y))) : OwnList w B v (l ++ [(x, y)]) := by
  unfold OwnList
  rw [List.length_append]
  refine h.congr (fun i hi => ?_) (fun i hi => ?_)
  · by_cases e : i < l.length
    · simp only [glue, e, if_true]; rw [fstAt_snoc_lt e]
    · obtain rfl : i = l.length := by have hi' : i < l.length + 1 := hi; omega
      rw [fstAt_snoc_eq]; simp [glue]
  · by_cases e : i < l.length
    · simp only [glue, e, if_true]; rw [sndAt_snoc_lt e]
    · obtain rfl : i = l.length := by have hi' : i < l.length + 1 := hi; omega
      rw [sndAt_snoc_eq]; simp [glue]
theorem OwnList.below {w w' : World} {B : Nat} {v : Value} {l : List (Int × Int)} (h : OwnList w B v l) (hb : Below w.heap.size w w') : OwnList w' B v l := by
  refine ⟨h.1, ?_⟩
  rcases h.2 with hn | ⟨g, cap, cur, hv, hbg, hg, rest⟩
  · exact .inl hn
  · exact .inr ⟨g, cap, cur, hv, hbg, (hb.block g (Array.getElem?_eq_some_iff.1 hg).1).trans hg, rest⟩
theorem OwnList.set {w : World} {B : Nat} {v : Value} {l : List (Int × Int)} (h : OwnList w B v l) {P : Nat} (hP : P < B) (i : Nat) (x : Value) : OwnList (w.setCell ⟨P, i, none⟩ x) B v l :=
  World.ownsRow.kept h (grown_set (grown_refl w P) i x) (Or.inr (fun e => by have := (World.ownsRow.lt h _ e).1; omega))
theorem OwnList.low {w : World} {B B' : Nat} {v : Value} {l : List (Int × Int)} (h : OwnList w B v l) (hB : B' ≤ B) : OwnList w B' v l := by
  refine ⟨h.1, ?_⟩
  rcases h.2 with hn | ⟨g, cap, cur, hv, hb, rest⟩
  · exact .inl hn
  · exact .inr ⟨g, cap, cur, hv, by omega, rest⟩
end Go.Proofs.YtcpphobokdkkeaaDoor
