/- Lists of categories that a call makes: what holds of them while the world grows. -/
import Derived.Test.YtkoinmddcnnipaaZ1
import Derived.Test.YtkoinmddcnnipaaZ2
import Derived.Test.YtkoinmddcnnipaaZ8
import Derived.Maps.OwnOps
namespace Go.Proofs.Ytkoinmddcnnipaa
open Go.RowKit Go.Deep Go.Maps

theorem grown_trans {a b c : World} {P : Nat} {row : Option Nat} (h : a.grownBy b (some P)) (k : b.grownBy c row) (hr : ∀ j, row = some j → a.heap.size ≤ j) : a.grownBy c (some P) :=
  ⟨k.os.trans h.os, k.tape.trans h.tape, k.output.trans h.output, Nat.le_trans h.size k.size, fun j hj hne => (k.block j (Nat.lt_of_lt_of_le hj h.size) (fun e => by have := hr j e.symm; omega)).trans (h.block j hj hne)⟩
theorem Blk.set1 {W : World} {P t : Nat} {x y : Value} (h : Blk W P (.cells #[x, y] t)) (v : Value) : Blk (W.setCell ⟨P, 1, none⟩ v) P (.cells #[x, v] t) := by
  unfold Blk at *
  simp [World.setCell, Array.getElem?_modify, h]
theorem Blk.frozen2 {W : World} {P t : Nat} {x y : Value} (h : Blk W P (.cells #[x, y] t)) (i : Nat) : W.frozen? ⟨P, i, none⟩ = false := by
  unfold Blk at h
  simp [World.frozen?, h]
theorem OwnCats.alloc {w : World} {B n : Nat} {v : Value} {f g : Nat → Int} (h : OwnCats w B v n f g) (o : Obj) : OwnCats (w.alloc o) B v n f g := World.ownsRow.alloc h o
theorem one_cat (w : World) (x y : Int) : CatsAt (w.alloc (.cells #[.int .i64 x, .int .i64 y] 90)) (some ⟨w.heap.size, 0, none⟩) 1 (fun _ => x) (fun _ => y) := fun _ => by
  obtain ⟨h1, h2⟩ := Blk.two (Blk.new w (.cells #[.int .i64 x, .int .i64 y] 90))
  refine ⟨w.heap.size, 0, rfl, by simp, fun i hi => ?_⟩
  obtain rfl : i = 0 := by omega
  exact ⟨h1, h2⟩
def fstAt (l : List (Int × Int)) (i : Nat) : Int := (l.getD i (0, 0)).1
def sndAt (l : List (Int × Int)) (i : Nat) : Int := (l.getD i (0, 0)).2
theorem fstAt_snoc_lt {l : List (Int × Int)} {p : Int × Int} {i : Nat} (h : i < l.length) : fstAt (l ++ [p]) i = fstAt l i := by
  simp [fstAt, List.getElem?_append_left h]
theorem sndAt_snoc_lt {l : List (Int × Int)} {p : Int × Int} {i : Nat} (h : i < l.length) : sndAt (l ++ [p]) i = sndAt l i := by
  simp [sndAt, List.getElem?_append_left h]
theorem fstAt_snoc_eq (l : List (Int × Int)) (p : Int × Int) : fstAt (l ++ [p]) l.length = p.1 := by simp [fstAt]
theorem sndAt_snoc_eq (l : List (Int × Int)) (p : Int × Int) : sndAt (l ++ [p]) l.length = p.2 := by simp [sndAt]
theorem catCells_congr {f g f' g' : Nat → Int} {n : Nat} (hf : ∀ i, i < n → f i = f' i) (hg : ∀ i, i < n → g i = g' i) : catCells f g n = catCells f' g' n := by
  unfold catCells
  apply List.map_congr_left
  intro j hj
  have hj' : j < n * 2 := List.mem_range.1 hj
  have : j / 2 < n := by omega
  unfold pairCell
  rw [hf _ this, hg _ this]
theorem OwnCats.congr {w : World} {B n : Nat} {v : Value} {f g f' g' : Nat → Int} (h : OwnCats w B v n f g) (hf : ∀ i, i < n → f i = f' i) (hg : ∀ i, i < n → g i = g' i) : OwnCats w B v n f' g' := by
  unfold OwnCats at *
  rw [← catCells_congr hf hg]; exact h
def OwnList (w : World) (B : Nat) (v : Value) (l : List (Int × Int)) : Prop := OwnCats w B v l.length (fstAt l) (sndAt l)
theorem OwnList.snoc {w : World} {B : Nat} {v : Value} {l : List (Int × Int)} {x y : Int} (h : OwnCats w B v (l.length + 1) (glue l.length (fstAt l) (fun _ => x)) (glue l.length (sndAt l) (fun _ => y))) : OwnList w B v (l ++ [(x, y)]) := by
  unfold OwnList
  rw [List.length_append]
  refine h.congr (fun i hi => ?_) (fun i hi => ?_)
  · by_cases e : i < l.length
    · simp only [glue, e, if_true]; rw [fstAt_snoc_lt e]
    · obtain rfl : i = l.length := by have hi' : i < l.length + 1 := hi; omega
      rw [fstAt_snoc_eq]; simp [glue]
  · by_cases e : i < l.length
    · simp only [glue, e, if_true]; rw [sndAt_snoc_lt e]
    · obtain rfl : i = l.length := by have hi' : i < l.length + 1 := hi; omega
      rw [sndAt_snoc_eq]; simp [glue]
theorem OwnList.below {w w' : World} {B : Nat} {v : Value} {l : List (Int × Int)} (h : OwnList w B v l) (hb : Below w.heap.size w w') : OwnList w' B v l := by
  refine ⟨h.1, ?_⟩
  rcases h.2 with hn | ⟨g, cap, cur, hv, hbg, hg, rest⟩
  · exact .inl hn
  · exact .inr ⟨g, cap, cur, hv, hbg, (hb.block g (Array.getElem?_eq_some_iff.1 hg).1).trans hg, rest⟩
theorem OwnList.set {w : World} {B : Nat} {v : Value} {l : List (Int × Int)} (h : OwnList w B v l) {P : Nat} (hP : P < B) (i : Nat) (x : Value) : OwnList (w.setCell ⟨P, i, none⟩ x) B v l :=
  World.ownsRow.kept h (grown_set (grown_refl w P) i x) (Or.inr (fun e => by have := (World.ownsRow.lt h _ e).1; omega))
theorem OwnList.low {w : World} {B B' : Nat} {v : Value} {l : List (Int × Int)} (h : OwnList w B v l) (hB : B' ≤ B) : OwnList w B' v l := by
  refine ⟨h.1, ?_⟩
  rcases h.2 with hn | ⟨g, cap, cur, hv, hb, rest⟩
  · exact .inl hn
  · exact .inr ⟨g, cap, cur, hv, by omega, rest⟩
theorem ownsRow_base_a {w : World} {B B' e size n : Nat} {v : Value} {cs : List Value} (h : w.ownsRow B e size v n cs) (hB : B' ≤ B) : w.ownsRow B' e size v n cs := by
  refine ⟨h.1, ?_⟩
  rcases h.2 with hn | ⟨g, cap, cur, hv, hbg, rest⟩
  · exact .inl hn
  · exact .inr ⟨g, cap, cur, hv, Nat.le_trans hB hbg, rest⟩
theorem grown_below {a b c : World} {P : Nat} (h : a.grownBy b (some P)) (k : Below b.heap.size b c) : a.grownBy c (some P) :=
  ⟨k.os.trans h.os, k.tape.trans h.tape, k.output.trans h.output, Nat.le_trans h.size k.size, fun j hj hne => (k.block j (Nat.lt_of_lt_of_le hj h.size)).trans (h.block j hj hne)⟩
theorem Blk.set0 {W : World} {P t : Nat} {x y : Value} (h : Blk W P (.cells #[x, y] t)) (v : Value) : Blk (W.setCell ⟨P, 0, none⟩ v) P (.cells #[v, y] t) := by
  unfold Blk at *
  simp [World.setCell, Array.getElem?_modify, h]
end Go.Proofs.Ytkoinmddcnnipaa
namespace Go.Proofs.Ytkoinmddcnnipaa
open Go.RowKit Go.Deep Go.Maps
theorem eq_of_rising {l l' : List (Int × Int)} (h : l.Pairwise (fun a b => a.1 < b.1)) (h' : l'.Pairwise (fun a b => a.1 < b.1)) (hm : ∀ p, p ∈ l ↔ p ∈ l') : l = l' := by
  have nd : ∀ {l : List (Int × Int)}, l.Pairwise (fun a b => a.1 < b.1) → l.Nodup := fun h => h.imp (fun {a b} hab e => by rw [e] at hab; omega)
  exact List.Perm.eq_of_pairwise (le := fun a b => a.1 < b.1) (fun a b _ _ h1 h2 => by omega) h h' ((List.perm_ext_iff_of_nodup (nd h) (nd h')).2 hm)
def insTo (base : Int) (f g : Nat → Int) (cat level : Int) : Nat → List (Int × Int) × Bool
  | 0 => ([], level == base)
  | k + 1 =>
    let r := insTo base f g cat level k
    let q := if !r.2 && decide (cat ≤ f k) then (r.1 ++ [(cat, level)], true) else r
    (if f k = cat then q.1 else q.1 ++ [(f k, g k)], q.2)

def insFin (base : Int) (n : Nat) (f g : Nat → Int) (cat level : Int) : List (Int × Int) :=
  let r := insTo base f g cat level n
  if r.2 then r.1 else r.1 ++ [(cat, level)]

structure InsInv (base : Int) (f g : Nat → Int) (cat level : Int) (k : Nat) (l : List (Int × Int)) (d : Bool) : Prop where
  ris : l.Pairwise (fun a b => a.1 < b.1)
  of : ∀ p ∈ l, (∃ i, i < k ∧ p = (f i, g i) ∧ f i ≠ cat) ∨ (p = (cat, level) ∧ level ≠ base ∧ d = true)
  all : ∀ i, i < k → f i ≠ cat → (f i, g i) ∈ l
  yes : d = true → level = base ∨ ((cat, level) ∈ l ∧ ∃ j, j < k ∧ cat ≤ f j)
  no : d = false → level ≠ base ∧ ∀ i, i < k → f i < cat

theorem insTo_inv {base : Int} {f g : Nat → Int} {cat level : Int} {n : Nat} (hr : ∀ j, j < n → ∀ i, i < j → f i < f j) : ∀ k, k ≤ n → InsInv base f g cat level k (insTo base f g cat level k).1 (insTo base f g cat level k).2 := by
  intro k
  induction k with
  | zero =>
    intro _
    refine ⟨List.Pairwise.nil, fun p hp => (by cases hp), fun i hi => by omega, fun h => .inl ?_, fun h => ⟨?_, fun i hi => by omega⟩⟩
    · simpa [insTo] using h
    · simpa [insTo] using h
  | succ k ih =>
    intro hk
    have I := ih (by omega)
    generalize hR : insTo base f g cat level k = r at I
    obtain ⟨l, d⟩ := r
    dsimp only at I
    -- the first step: put the category where it belongs
    have step1 : ∃ q : List (Int × Int) × Bool, (if !d && decide (cat ≤ f k) then (l ++ [(cat, level)], true) else (l, d)) = q ∧
        q.1.Pairwise (fun a b => a.1 < b.1) ∧
        (∀ p ∈ q.1, (∃ i, i < k ∧ p = (f i, g i) ∧ f i ≠ cat) ∨ (p = (cat, level) ∧ level ≠ base ∧ q.2 = true)) ∧
        (∀ i, i < k → f i ≠ cat → (f i, g i) ∈ q.1) ∧
        (q.2 = true → level = base ∨ ((cat, level) ∈ q.1 ∧ cat ≤ f k)) ∧
        (q.2 = false → level ≠ base ∧ (∀ i, i < k → f i < cat) ∧ f k < cat) := by
      refine ⟨_, rfl, ?_⟩
      by_cases hc : d = false ∧ cat ≤ f k
      · obtain ⟨rfl, hc⟩ := hc
        obtain ⟨hlb, hlt⟩ := I.no rfl
        rw [if_pos (by simp [hc])]
        refine ⟨?_, ?_, fun i hi hne => by simp [I.all i hi hne], fun _ => .inr ⟨by simp, hc⟩, fun h => by cases h⟩
        · refine List.pairwise_append.2 ⟨I.ris, by simp, fun a ha b hb => ?_⟩
          simp only [List.mem_singleton] at hb
          subst hb
          rcases I.of a ha with ⟨i, hi, rfl, _⟩ | ⟨_, _, h⟩
          · exact hlt i hi
          · cases h
        · intro p hp
          rcases List.mem_append.1 hp with hp | hp
          · rcases I.of p hp with h | ⟨_, _, h⟩
            · exact .inl h
            · cases h
          · simp only [List.mem_singleton] at hp
            exact .inr ⟨hp, hlb, rfl⟩
      · rw [if_neg (by intro h; apply hc; simpa using h)]
        refine ⟨I.ris, I.of, I.all, fun h => ?_, fun h => ?_⟩
        · rcases I.yes h with h | ⟨h1, j, hj, h2⟩
          · exact .inl h
          · exact .inr ⟨h1, by have := hr k (by omega) j hj; omega⟩
        · dsimp only at h
          obtain ⟨h1, h2⟩ := I.no h
          refine ⟨h1, h2, ?_⟩
          apply Int.lt_of_not_ge
          intro h3
          exact hc ⟨h, h3⟩
    obtain ⟨q, hq, q1, q2, q3, q4, q5⟩ := step1
    have e : insTo base f g cat level (k + 1) = (if f k = cat then q.1 else q.1 ++ [(f k, g k)], q.2) := by
      simp only [insTo, hR, hq]
    rw [e]
    dsimp only
    by_cases hf : f k = cat
    · rw [if_pos hf]
      refine ⟨q1, fun p hp => ?_, fun i hi hne => ?_, fun h => ?_, fun h => ?_⟩
      · rcases q2 p hp with ⟨i, hi, h⟩ | h
        · exact .inl ⟨i, by omega, h⟩
        · exact .inr h
      · by_cases ei : i = k
        · subst ei; exact absurd hf hne
        · exact q3 i (by omega) hne
      · rcases q4 h with h | ⟨h1, h2⟩
        · exact .inl h
        · exact .inr ⟨h1, k, by omega, h2⟩
      · have := (q5 h).2.2
        omega
    · rw [if_neg hf]
      refine ⟨List.pairwise_append.2 ⟨q1, by simp, fun a ha b hb => ?_⟩, fun p hp => ?_, fun i hi hne => ?_, fun h => ?_, fun h => ?_⟩
      · simp only [List.mem_singleton] at hb
        subst hb
        rcases q2 a ha with ⟨i, hi, rfl, _⟩ | ⟨rfl, hlb, h⟩
        · exact hr k (by omega) i hi
        · rcases q4 h with h | ⟨_, h⟩
          · exact absurd h hlb
          · dsimp only; omega
      · rcases List.mem_append.1 hp with hp | hp
        · rcases q2 p hp with ⟨i, hi, h⟩ | h
          · exact .inl ⟨i, by omega, h⟩
          · exact .inr h
        · simp only [List.mem_singleton] at hp
          exact .inl ⟨k, by omega, hp, hf⟩
      · by_cases ei : i = k
        · subst ei; simp
        · simp [q3 i (by omega) hne]
      · rcases q4 h with h | ⟨h1, h2⟩
        · exact .inl h
        · exact .inr ⟨by simp [h1], k, by omega, h2⟩
      · obtain ⟨h1, h2, h3⟩ := q5 h
        refine ⟨h1, fun i hi => ?_⟩
        by_cases ei : i = k
        · subst ei; exact h3
        · exact h2 i (by omega)

theorem insFin_spec {base : Int} {n : Nat} {f g : Nat → Int} {cat level : Int} (hr : ∀ j, j < n → ∀ i, i < j → f i < f j) :
    (insFin base n f g cat level).Pairwise (fun a b => a.1 < b.1) ∧ ∀ p, p ∈ insFin base n f g cat level ↔ (∃ i, i < n ∧ p = (f i, g i) ∧ f i ≠ cat) ∨ (p = (cat, level) ∧ level ≠ base) := by
  have I := insTo_inv (base := base) (g := g) (cat := cat) (level := level) hr n (Nat.le_refl _)
  unfold insFin
  generalize insTo base f g cat level n = r at I
  obtain ⟨l, d⟩ := r
  dsimp only at I ⊢
  cases d with
  | true =>
    rw [if_pos rfl]
    refine ⟨I.ris, fun p => ⟨fun hp => ?_, fun hp => ?_⟩⟩
    · rcases I.of p hp with h | ⟨h1, h2, _⟩
      · exact .inl h
      · exact .inr ⟨h1, h2⟩
    · rcases hp with ⟨i, hi, rfl, hne⟩ | ⟨rfl, hlb⟩
      · exact I.all i hi hne
      · rcases I.yes rfl with h | ⟨h, _⟩
        · exact absurd h hlb
        · exact h
  | false =>
    obtain ⟨hlb, hlt⟩ := I.no rfl
    rw [if_neg (by simp)]
    refine ⟨List.pairwise_append.2 ⟨I.ris, by simp, fun a ha b hb => ?_⟩, fun p => ⟨fun hp => ?_, fun hp => ?_⟩⟩
    · simp only [List.mem_singleton] at hb
      subst hb
      rcases I.of a ha with ⟨i, hi, rfl, _⟩ | ⟨_, _, h⟩
      · exact hlt i hi
      · cases h
    · rcases List.mem_append.1 hp with hp | hp
      · rcases I.of p hp with h | ⟨_, _, h⟩
        · exact .inl h
        · cases h
      · simp only [List.mem_singleton] at hp
        exact .inr ⟨hp, hlb⟩
    · rcases hp with ⟨i, hi, rfl, hne⟩ | ⟨rfl, _⟩
      · simp [I.all i hi hne]
      · simp
theorem insTo_len (base : Int) (f g : Nat → Int) (cat level : Int) (k : Nat) : (insTo base f g cat level k).1.length ≤ 2 * k := by
  induction k with
  | zero => simp [insTo]
  | succ k ih =>
    simp only [insTo]
    split <;> split <;> (try simp only [List.length_append, List.length_singleton]) <;> omega
end Go.Proofs.Ytkoinmddcnnipaa
