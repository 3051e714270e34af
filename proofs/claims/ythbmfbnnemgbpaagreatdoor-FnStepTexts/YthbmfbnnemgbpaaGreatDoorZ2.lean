/- Objects by themselves: objectOk of the program answers the plain function objOk. -/
import Derived.Test.YthbmfbnnemgbpaaGreatDoorZ1
import Derived.Test.YthbmfbnnemgbpaaGreatDoorZ0
import Derived.Maps.Own
import Derived.Maps.OwnSet
namespace Go.Proofs.YthbmfbnnemgbpaaGreatDoor
open Go.RowKit Go.Deep
def itemsB (n : Nat) (f : Nat → ByteArray) : Bool := decide (n ≤ 8) && (List.range n).all (fun i => plainB (f i) 40)
theorem itemsB_len {n : Nat} {f : Nat → ByteArray} (e : 8 < n) : itemsB n f = false := by
 have : decide (n ≤ 8) = false := by simp; omega
 simp [itemsB, this]
theorem itemsB_at {n k : Nat} {f : Nat → ByteArray} (hk : k < n) (e : plainB (f k) 40 = false) : itemsB n f = false := by
 have : (List.range n).all (fun i => plainB (f i) 40) = false := by
  rw [List.all_eq_false]; exact ⟨k, List.mem_range.2 hk, by simp [e]⟩
 simp [itemsB, this]
theorem itemsB_all {n : Nat} {f : Nat → ByteArray} (e : ∀ i, i < n → plainB (f i) 40 = true) : itemsB n f = decide (n ≤ 8) := by
 have : (List.range n).all (fun i => plainB (f i) 40) = true := by
  rw [List.all_eq_true]; intro i hi; exact e i (List.mem_range.1 hi)
 simp [itemsB, this]
def kindB (t : ObjV) : Bool :=
 if t.kind = 1 then t.items.n == 0 && (t.own.n == 0 && zeroB t.b2 t.c2.n)
 else if t.kind = 2 then t.data.toList.isEmpty && (t.own.n == 0 && zeroB t.b2 t.c2.n)
 else if t.kind = 3 then t.data.toList.isEmpty && t.items.n == 0 && (t.own.n == 0 && zeroB t.b2 t.c2.n)
 else if t.kind = 4 then t.data.toList.isEmpty && t.items.n == 0
 else false
def objOk (t : ObjV) : Bool := labOk t.b1 t.c1.n t.c1.f t.c1.g && labOk t.b2 t.c2.n t.c2.f t.c2.g && ownOk t.own.n t.own.h && plainB t.data 40 && itemsB t.items.n t.items.f && kindB t
end Go.Proofs.YthbmfbnnemgbpaaGreatDoor
namespace Go.Proofs.YthbmfbnnemgbpaaGreatDoor
open Go.RowKit Go.Deep
theorem natz (n : Nat) : ((n : Int) == 0) = (n == 0) := by
 by_cases e : n = 0
 ·subst e; rfl
 ·have e1 : (n == 0) = false := by simpa using e
  rw [e1]; simp; omega
end Go.Proofs.YthbmfbnnemgbpaaGreatDoor
namespace Go.Proofs.YthbmfbnnemgbpaaGreatDoor
open Go.RowKit Go.Deep
theorem sLabOk_v (b : Int) (c : CatL) (w : World) (hc : c.at w) :
 Calls Tryz.prog 55 #[.agg #[.int .i64 b, c.val]] w fun e w' => e = .returned (.bool (labOk b c.n c.f c.g)) ∧ Below w.heap.size w w' := specOk_any b c.a c.n c.k c.f c.g w hc.1 hc.2
theorem sOwn_v (c : IntL) (w : World) (hc : c.at w) :
 Calls Tryz.prog 86 #[c.val] w fun e w' => e = .returned (.bool (ownOk c.n c.h)) ∧ Below w.heap.size w w' := l2Owns_any c.a c.n c.k c.h w hc.1 hc.2
set_option maxRecDepth 100000 in
set_option maxHeartbeats 4000000 in
theorem l3Object_any (t : ObjV) (w : World) (ht : t.at w) :
 Calls Tryz.prog 73 #[t.val] w fun e w' => e = .returned (.bool (objOk t)) ∧ Below w.heap.size w w' := by
 have hb0 := (Below.refl _ w).alloc (Nat.le_refl _) (.cells #[.int .i64 t.id, .int .i64 t.kind, .int .i64 t.up, .int .i64 t.b1, t.c1.val, .string t.data, t.items.val, t.own.val, .int .i64 t.b2, t.c2.val] 88)
 have A0 := Blk.new w (.cells #[.int .i64 t.id, .int .i64 t.kind, .int .i64 t.up, .int .i64 t.b1, t.c1.val, .string t.data, t.items.val, t.own.val, .int .i64 t.b2, t.c2.val] 88)
 have T0 := hid (ht.below hb0)
 unfold ObjV.val
 obtain ⟨x0, x1, x2, x3, x4, x5, x6, x7, x8, x9⟩ := A0.ten
 clear ht
 go_enter Tryz.func73, Tryz.ntmps73
 go_wp2_with fail
 refine (sLabOk_v _ t.c1 _ T0.out.1).mono ?_
 rintro e w1 ⟨rfl, hb1⟩
 have A1 := A0.below hb1
 have T1 := hid (T0.out.below hb1)
 have B1 := then_ hb0 hb1
 clear x0 x1 x2 x3 x4 x5 x6 x7 x8 x9 A0 T0 hb0 hb1
 obtain ⟨x0, x1, x2, x3, x4, x5, x6, x7, x8, x9⟩ := A1.ten
 cases t1 : labOk t.b1 t.c1.n t.c1.f t.c1.g with
 | false =>
  go_wp2
  go_ret
  exact ⟨ret_bool (by simp [objOk, t1]), B1⟩
 | true =>
 go_wp2_with fail
 refine (sLabOk_v _ t.c2 _ T1.out.2.2.2.1).mono ?_
 rintro e w2 ⟨rfl, hb2⟩
 have A2 := A1.below hb2
 have T2 := hid (T1.out.below hb2)
 have B2 := then_ B1 hb2
 clear x0 x1 x2 x3 x4 x5 x6 x7 x8 x9 A1 T1 B1 hb2
 obtain ⟨x0, x1, x2, x3, x4, x5, x6, x7, x8, x9⟩ := A2.ten
 cases t2 : labOk t.b2 t.c2.n t.c2.f t.c2.g with
 | false =>
  go_wp2
  go_ret
  exact ⟨ret_bool (by simp [objOk, t2]), B2⟩
 | true =>
 go_wp2_with fail
 refine (sOwn_v t.own _ T2.out.2.2.1).mono ?_
 rintro e w3 ⟨rfl, hb3⟩
 have A3 := A2.below hb3
 have T3 := hid (T2.out.below hb3)
 have B3 := then_ B2 hb3
 clear x0 x1 x2 x3 x4 x5 x6 x7 x8 x9 A2 T2 B2 hb3
 obtain ⟨x0, x1, x2, x3, x4, x5, x6, x7, x8, x9⟩ := A3.ten
 cases t3 : ownOk t.own.n t.own.h with
 | false =>
  go_wp2
  go_ret
  exact ⟨ret_bool (by simp [objOk, t3]), B3⟩
 | true =>
 unfold StrL.val at x6
 have hn5 := T3.out.2.1.1
 unfold maxLen at hn5
 by_cases h8 : 8 < t.items.n
 ·have h8' : (8 : Int) < (t.items.n : Int) := by omega
  go_wp2
  go_ret
  exact ⟨ret_bool (by simp [objOk, itemsB_len h8]), B3⟩
 have h8' : ¬ (8 : Int) < (t.items.n : Int) := by omega
 go_wp2_with fail
 refine (l3Plain_any t.data _ _ T3.out.2.2.2.2).mono ?_
 rintro e w4 ⟨rfl, rfl⟩
 cases t4 : plainB t.data 40 with
 | false =>
  go_wp2
  go_ret
  exact ⟨ret_bool (by simp [objOk, t4]), B3⟩
 | true =>
 have OK : Hid (itemsB t.items.n t.items.f = true → objOk t = kindB t) := hid (fun t5 => by simp [objOk, t1, t2, t3, t4, t5])
 clear t1 t2 t3 t4
 go_wp2
 go_loop [3] (fun i => ∃ k : Nat, k ≤ t.items.n ∧ i = .int .i64 k ∧ Hid (∀ j, j < k → plainB (t.items.f j) 40 = true)) (fun i => t.items.n - (intOf i).toNat)
 case atStart => exact ⟨0, Nat.zero_le _, rfl, hid (fun j hj => by omega)⟩
 case round =>
  obtain ⟨k, hk, rfl, HA⟩ := hrel
  by_cases hlt : k < t.items.n
  ·obtain ⟨b, off, ea, hlt0, hcc⟩ := T3.out.2.1.2.1 (by omega)
   rw [ea] at x6
   have g1 := hcc k hlt
   have z := T3.out.2.1.2.2 k hlt
   have i1 : (k : Int) < (t.items.n : Int) := by omega
   clear hcc ea
   go_wp2_with fail
   refine (l3Plain_any _ _ _ z).mono ?_
   rintro e w5 ⟨rfl, rfl⟩
   clear g1
   by_cases t5 : plainB (t.items.f k) 40 = true
   ·have HA2 : Hid (∀ j, j < k + 1 → plainB (t.items.f j) 40 = true) := hid (fun j hj => by
     by_cases e : j = k
     ·subst e; exact t5
     ·exact HA.out j (by omega))
    go_wp2
    exact ⟨⟨k + 1, by omega, by go_num, HA2⟩, by simp [intOf]; omega⟩
   ·have t' : plainB (t.items.f k) 40 = false := by simpa using t5
    clear t5
    go_wp2
    go_ret
    exact ⟨ret_bool (by simp [objOk, itemsB_at hlt t']), B3⟩
  ·have e : k = t.items.n := by omega
   have OK2 := hid (OK.out (by rw [itemsB_all (by rw [← e]; exact HA.out)]; simp; omega))
   clear e OK HA
   unfold IntL.val at x7
   unfold CatL.val at x9
   have hn6 := T3.out.2.2.1.1
   have hn7 := T3.out.2.2.2.1.1
   unfold maxLen at hn6 hn7
   go_wp2
   all_goals
    go_ret
    refine ⟨ret_bool ?_, by assumption⟩
    rw [OK2.out]
    clear OK2 h8' x0 x1 x2 x3 x4 x5 x6 x7 x8 x9
    first
    | (simp_all [kindB, zeroB, natz]; done)
    | (simp_all [kindB, zeroB]; exact natz _)
end Go.Proofs.YthbmfbnnemgbpaaGreatDoor
namespace Go.Proofs.YthbmfbnnemgbpaaGreatDoor
def findI (ids : Nat → Int) (n : Nat) (x : Int) : Option Nat := (List.range n).find? (fun j => ids j == x)
def par (ids ups : Nat → Int) (n i : Nat) : Option Nat := if i = 0 then none else findI ids n (ups i)
def parIt (ids ups : Nat → Int) (n : Nat) : Nat → Nat → Option Nat
 | 0, i => some i
 | m + 1, i => (par ids ups n i).bind (parIt ids ups n m)
def kidsI (ids ups : Nat → Int) (n i : Nat) : List Nat := (List.range n).filter (fun j => ups j == ids i)
def preI (ids ups : Nat → Int) (n : Nat) : Nat → Nat → List Nat
 | 0, _ => []
 | f + 1, i => i :: (kidsI ids ups n i).flatMap (preI ids ups n f)
def Rises (ids : Nat → Int) (n : Nat) : Prop := ∀ i j, i < j → j < n → ids i < ids j
theorem findI_some {ids : Nat → Int} {n : Nat} {x : Int} {j : Nat} (h : findI ids n x = some j) : j < n ∧ ids j = x := by
 unfold findI at h
 exact ⟨List.mem_range.1 (List.mem_of_find?_eq_some h), by simpa using List.find?_some h⟩
theorem findI_none {ids : Nat → Int} {n : Nat} {x : Int} (h : findI ids n x = none) : ∀ j, j < n → ids j ≠ x := by
 unfold findI at h
 rw [List.find?_eq_none] at h
 intro j hj e
 have := h j (List.mem_range.2 hj)
 simp [e] at this
theorem Rises.inj {ids : Nat → Int} {n : Nat} (h : Rises ids n) {i j : Nat} (hi : i < n) (hj : j < n) (e : ids i = ids j) : i = j := by
 rcases Nat.lt_trichotomy i j with h1 | h1 | h1
 ·have := h i j h1 hj; omega
 ·exact h1
 ·have := h j i h1 hi; omega
theorem findI_eq {ids : Nat → Int} {n : Nat} (h : Rises ids n) {j : Nat} (hj : j < n) : findI ids n (ids j) = some j := by
 cases e : findI ids n (ids j) with
 | none => exact absurd rfl (findI_none e j hj)
 | some k =>
  obtain ⟨h1, h2⟩ := findI_some e
  rw [h.inj h1 hj h2]
section
variable {ids ups : Nat → Int} {n : Nat}
theorem parIt_add (a b i : Nat) : parIt ids ups n (a + b) i = (parIt ids ups n a i).bind (parIt ids ups n b) := by
 induction a generalizing i with
 | zero => simp [parIt]
 | succ a ih =>
  rw [Nat.succ_add]
  simp only [parIt]
  cases par ids ups n i with
  | none => rfl
  | some k => simp only [Option.bind_some]; exact ih k
theorem parIt_one (i : Nat) : parIt ids ups n 1 i = par ids ups n i := by
 simp only [parIt]
 cases par ids ups n i <;> rfl
theorem parIt_succ' (m i : Nat) : parIt ids ups n (m + 1) i = (parIt ids ups n m i).bind (par ids ups n) := by
 rw [parIt_add]
 congr 1
 funext j
 exact parIt_one j
theorem par_lt {i j : Nat} (h : par ids ups n i = some j) : j < n := by
 unfold par at h
 split at h
 ·cases h
 ·exact (findI_some h).1
theorem parIt_lt {m i j : Nat} (hi : i < n) (h : parIt ids ups n m i = some j) : j < n := by
 cases m with
 | zero => simp only [parIt, Option.some.injEq] at h; omega
 | succ m =>
  rw [parIt_succ'] at h
  cases e : parIt ids ups n m i with
  | none => simp [e] at h
  | some k => simp only [e, Option.bind_some] at h; exact par_lt h
def NoCyc (ids ups : Nat → Int) (n i : Nat) : Prop := ∀ p, parIt ids ups n (p + 1) i ≠ some i
theorem noCyc_zero : NoCyc ids ups n 0 := fun p h => by simp [parIt, par] at h
theorem noCyc_kid {i k : Nat} (h : NoCyc ids ups n i) (hk : par ids ups n k = some i) : NoCyc ids ups n k := fun p e => by
 have e1 : parIt ids ups n p i = some k := by
  have := e
  simp only [parIt, hk, Option.bind_some] at this
  exact this
 exact h p (by rw [parIt_succ', e1]; exact hk)
theorem noCyc_down {i k m : Nat} (h : NoCyc ids ups n i) (hk : parIt ids ups n m k = some i) : NoCyc ids ups n k := fun p e => by
 have e2 : parIt ids ups n (p + 1 + m) k = some i := by rw [parIt_add, e]; exact hk
 rw [Nat.add_comm, parIt_add, hk] at e2
 exact h p e2
theorem length_count (n : Nat) (l : List Nat) (h : ∀ x ∈ l, x < n) : l.length = ((List.range n).map (fun j => l.count j)).sum := by
 induction l with
 | nil =>
  have : ∀ L : List Nat, (L.map (fun j => ([] : List Nat).count j)).sum = 0 := by
   intro L; induction L with
   | nil => rfl
   | cons a L ih => rw [List.map_cons, List.sum_cons, ih]; rfl
  rw [this]; rfl
 | cons a l ih =>
  have h1 := ih (fun x hx => h x (List.mem_cons_of_mem _ hx))
  have ha : a < n := h a List.mem_cons_self
  have key : ∀ N, (((List.range N).map (fun j => (a :: l).count j)).sum) = ((List.range N).map (fun j => l.count j)).sum + (if a < N then 1 else 0) := by
   intro N
   induction N with
   | zero => simp
   | succ N ihN =>
    rw [List.range_succ, List.map_append, List.sum_append, List.map_append, List.sum_append, ihN]
    simp only [List.map_cons, List.map_nil, List.sum_cons, List.sum_nil, List.count_cons]
    by_cases e : a = N
    ·subst e; simp; omega
    ·have e1 : (a == N) = false := by simpa using e
     simp only [e1]
     by_cases e2 : a < N
     ·have : a < N + 1 := by omega
      simp [e2, this]; omega
     ·have : ¬ a < N + 1 := by omega
      simp [e2, this]
  rw [key, if_pos ha, List.length_cons, h1]
theorem sum_le_len (n : Nat) (c : Nat → Nat) (h : ∀ j, c j ≤ 1) : ((List.range n).map c).sum ≤ n := by
 induction n with
 | zero => simp
 | succ n ih => rw [List.range_succ, List.map_append, List.sum_append]; have := h n; simp; omega
theorem nodup_len {l : List Nat} (hl : l.Nodup) (h : ∀ x ∈ l, x < n) : l.length ≤ n := by
 rw [length_count n l h]
 exact sum_le_len n _ (fun j => List.nodup_iff_count.1 hl j)
theorem height {i j m : Nat} (hc : NoCyc ids ups n i) (hj : j < n) (h : parIt ids ups n m j = some i) : m < n := by
 have each : ∀ q, q ≤ m → ∃ x, parIt ids ups n q j = some x := fun q hq => by
  have e : m = q + (m - q) := by omega
  rw [e, parIt_add] at h
  cases e1 : parIt ids ups n q j with
  | none => simp [e1] at h
  | some x => exact ⟨x, rfl⟩
 have hl : ((List.range (m + 1)).map (fun q => (parIt ids ups n q j).getD 0)).Nodup := by
  rw [List.Nodup, List.pairwise_map]
  refine List.Pairwise.imp_of_mem ?_ (List.pairwise_lt_range (n := m + 1))
  intro a b ha hb hab e
  have ha' := List.mem_range.1 ha
  have hb' := List.mem_range.1 hb
  obtain ⟨x, hx⟩ := each a (by omega)
  obtain ⟨y, hy⟩ := each b (by omega)
  simp only [hx, hy, Option.getD_some] at e
  subst e
  have e1 : b = a + (b - a - 1 + 1) := by omega
  rw [e1, parIt_add, hx, Option.bind_some] at hy
  have e2 : m = a + (m - a) := by omega
  rw [e2, parIt_add, hx, Option.bind_some] at h
  exact noCyc_down hc h _ hy
 have := nodup_len (n := n) hl (by
  intro x hx
  obtain ⟨q, hq, rfl⟩ := List.mem_map.1 hx
  have hq' := List.mem_range.1 hq
  obtain ⟨y, hy⟩ := each q (by omega)
  rw [hy]
  exact parIt_lt hj hy)
 simp at this
 omega
theorem mem_kids (hr : Rises ids n) (h0 : ∀ j, j < n → ids j ≠ ups 0) {i k : Nat} (hi : i < n) : k ∈ kidsI ids ups n i ↔ k < n ∧ par ids ups n k = some i := by
 unfold kidsI
 rw [List.mem_filter, List.mem_range]
 constructor
 ·rintro ⟨h1, h2⟩
  refine ⟨h1, ?_⟩
  have h2' : ups k = ids i := by simpa using h2
  unfold par
  split
  ·rename_i e; subst e; exact absurd h2'.symm (h0 i hi)
  ·rw [h2']; exact findI_eq hr hi
 ·rintro ⟨h1, h2⟩
  refine ⟨h1, ?_⟩
  unfold par at h2
  split at h2
  ·cases h2
  ·simp [(findI_some h2).2]
theorem mem_pre (hr : Rises ids n) (h0 : ∀ j, j < n → ids j ≠ ups 0) {f i j : Nat} (hi : i < n) : j ∈ preI ids ups n f i ↔ j < n ∧ ∃ m, m < f ∧ parIt ids ups n m j = some i := by
 induction f generalizing i with
 | zero => simp [preI]
 | succ f ih =>
  simp only [preI, List.mem_cons, List.mem_flatMap]
  constructor
  ·rintro (rfl | ⟨k, hk, hj⟩)
   ·exact ⟨hi, 0, by omega, rfl⟩
   ·obtain ⟨k1, k2⟩ := (mem_kids hr h0 hi).1 hk
    obtain ⟨hj', m, hm, e⟩ := (ih k1).1 hj
    exact ⟨hj', m + 1, by omega, by rw [parIt_succ', e]; exact k2⟩
  ·rintro ⟨hj, m, hm, e⟩
   cases m with
   | zero => simp only [parIt, Option.some.injEq] at e; exact .inl e
   | succ m =>
    rw [parIt_succ'] at e
    cases e1 : parIt ids ups n m j with
    | none => simp [e1] at e
    | some k =>
     simp only [e1, Option.bind_some] at e
     have hk := parIt_lt hj e1
     exact .inr ⟨k, (mem_kids hr h0 hi).2 ⟨hk, e⟩, (ih hk).2 ⟨hj, m, by omega, e1⟩⟩
theorem nodup_pre (hr : Rises ids n) (h0 : ∀ j, j < n → ids j ≠ ups 0) {f i : Nat} (hi : i < n) (hc : NoCyc ids ups n i) : (preI ids ups n f i).Nodup := by
 induction f generalizing i with
 | zero => simp [preI]
 | succ f ih =>
  simp only [preI, List.nodup_cons, List.mem_flatMap]
  refine ⟨?_, ?_⟩
  ·rintro ⟨k, hk, hj⟩
   obtain ⟨k1, k2⟩ := (mem_kids hr h0 hi).1 hk
   obtain ⟨_, m, _, e⟩ := (mem_pre hr h0 k1).1 hj
   exact hc m (by rw [parIt_succ', e]; exact k2)
  ·rw [List.Nodup, List.pairwise_flatMap]
   refine ⟨fun k hk => ?_, ?_⟩
   ·obtain ⟨k1, k2⟩ := (mem_kids hr h0 hi).1 hk
    exact ih k1 (noCyc_kid hc k2)
   ·have hn : (kidsI ids ups n i).Nodup := List.Nodup.sublist List.filter_sublist List.nodup_range
    refine List.Pairwise.imp_of_mem ?_ hn
    intro a b ha hb hab x hx y hy exy
    subst exy
    obtain ⟨a1, a2⟩ := (mem_kids hr h0 hi).1 ha
    obtain ⟨b1, b2⟩ := (mem_kids hr h0 hi).1 hb
    obtain ⟨_, p, _, ep⟩ := (mem_pre hr h0 a1).1 hx
    obtain ⟨_, q, _, eq⟩ := (mem_pre hr h0 b1).1 hy
    have far : ∀ {a b p q : Nat}, par ids ups n a = some i → par ids ups n b = some i → parIt ids ups n p x = some a → parIt ids ups n q x = some b → p < q → False := by
     intro a b p q a2 b2 ep eq hpq
     have e1 : q = p + (q - p - 1 + 1) := by omega
     rw [e1, parIt_add, ep, Option.bind_some] at eq
     simp only [parIt, a2, Option.bind_some] at eq
     exact hc (q - p - 1) (by rw [parIt_succ', eq]; exact b2)
    rcases Nat.lt_trichotomy p q with h | h | h
    ·exact far a2 b2 ep eq h
    ·subst h; rw [ep] at eq; exact hab (by simpa using eq)
    ·exact far b2 a2 eq ep h
def reachB (ids ups : Nat → Int) (n : Nat) : Bool := (List.range n).all fun i => (List.range n).any fun m => parIt ids ups n m i == some 0
theorem reachB_iff : reachB ids ups n = true ↔ ∀ i, i < n → ∃ m, m < n ∧ parIt ids ups n m i = some 0 := by
 simp only [reachB, List.all_eq_true, List.any_eq_true, List.mem_range, beq_iff_eq]
theorem noCyc_of_reach {i m : Nat} (h : parIt ids ups n m i = some 0) : NoCyc ids ups n i := noCyc_down noCyc_zero h
end
end Go.Proofs.YthbmfbnnemgbpaaGreatDoor
namespace Go.Proofs.YthbmfbnnemgbpaaGreatDoor
open Go.RowKit Go.Deep
def thrOkV (t : ThrV) : Bool := thrOk t.id t.made t.b1 t.c1.n t.c1.f t.c1.g t.b2 t.c2.n t.c2.f t.c2.g t.own.n t.own.h
def thrAt (T : Nat → ThrV) (i : Nat) : Bool := thrOkV (T i) && (i == 0 || decide ((T (i - 1)).id < (T i).id))
def thrsOk (n : Nat) (T : Nat → ThrV) : Bool := decide (1 ≤ n) && decide (n ≤ 9) && (List.range n).all (thrAt T)
def objAt (O : Nat → ObjV) (i : Nat) : Bool := objOk (O i) && (if i = 0 then decide (0 < (O 0).id) else decide ((O (i - 1)).id < (O i).id))
def rootB (t : ObjV) : Bool := t.id == 1 && t.kind == 3 && t.up == 0
def objsOk (n : Nat) (O : Nat → ObjV) : Bool := decide (1 ≤ n) && decide (n ≤ 271) && (List.range n).all (objAt O) && rootB (O 0)
theorem all_at {n k : Nat} {p : Nat → Bool} (hk : k < n) (e : p k = false) : (List.range n).all p = false := by
 rw [List.all_eq_false]; exact ⟨k, List.mem_range.2 hk, by simp [e]⟩
theorem all_yes {n : Nat} {p : Nat → Bool} (e : ∀ i, i < n → p i = true) : (List.range n).all p = true := by
 rw [List.all_eq_true]; intro i hi; exact e i (List.mem_range.1 hi)
theorem all_out {n : Nat} {p : Nat → Bool} (e : (List.range n).all p = true) : ∀ i, i < n → p i = true := fun i hi => List.all_eq_true.1 e i (List.mem_range.2 hi)
theorem thrOk_id {t : ThrV} (h : thrOkV t = true) : 1 ≤ t.id ∧ t.id ≤ 9 := by
 unfold thrOkV thrOk at h
 simp only [Bool.and_eq_true] at h
 exact inB_iff.1 (by simp_all)
def ThrV.blk (t : ThrV) : Obj := .cells #[.int .i64 t.id, .int .i64 t.b1, t.c1.val, .int .i64 t.b2, t.c2.val, t.own.val, .int .i64 t.made] 79
theorem Blk.c0 {W : World} {P t : Nat} {cs : Array Value} (h : Blk W P (.cells cs t)) (i : Nat) {v : Value} (hv : cs[i]? = some v) : W.cell? ⟨P, i, none⟩ = some v := by
 unfold Blk at h
 simp [World.cell?, h, hv]
end Go.Proofs.YthbmfbnnemgbpaaGreatDoor
namespace Go.Proofs.YthbmfbnnemgbpaaGreatDoor
open Go.RowKit Go.Deep Go.Maps
def look (f g : Nat → Int) : Nat → Int → Option Int
 | 0, _ => none
 | k + 1, x => if f k = x then some (g k) else look f g k x
theorem grown_cell {w w' : World} {b : Nat} (hg : w.grownBy w' (some b)) {k o : Nat} (hk : k < w.heap.size) (hne : k ≠ b) : w'.cell? ⟨k, o, none⟩ = w.cell? ⟨k, o, none⟩ :=
 World.cell?_of_block (w := w) (hg.block k hk (fun e => hne (by simpa using e)))
theorem grown_frozen {w w' : World} {b : Nat} (hg : w.grownBy w' (some b)) {k o : Nat} (hk : k < w.heap.size) (hne : k ≠ b) : w'.frozen? ⟨k, o, none⟩ = w.frozen? ⟨k, o, none⟩ :=
 World.frozen?_of_block (w := w) (hg.block k hk (fun e => hne (by simpa using e)))
end Go.Proofs.YthbmfbnnemgbpaaGreatDoor
namespace Go.Proofs.YthbmfbnnemgbpaaGreatDoor
open Go.RowKit Go.Deep Go.Maps
theorem wf_bounds {x : Int} (h : (Lit.int .i64 x).wf = true) : -9223372036854775808 ≤ x ∧ x ≤ 9223372036854775807 := by
 simp only [Lit.wf, Bool.and_eq_true, decide_eq_true_eq] at h
 have e1 : IntKind.i64.min = -9223372036854775808 := rfl
 have e2 : IntKind.i64.max = 9223372036854775807 := rfl
 omega
def madeOf (n : Nat) (T : Nat → ThrV) (x : Int) : Int := (look (fun i => (T i).id) (fun i => (T i).made) n x).getD 0
def numAt (n : Nat) (T : Nat → ThrV) (id : Int) : Bool := decide (1 ≤ id % 1000) && decide (id % 1000 ≤ madeOf n T (id / 1000))
def numsOk (n : Nat) (T : Nat → ThrV) (m : Nat) (O : Nat → ObjV) : Bool := (List.range (m - 1)).all (fun i => numAt n T (O (i + 1)).id)
theorem thrsOk_out {n : Nat} {T : Nat → ThrV} (h : thrsOk n T = true) : 1 ≤ n ∧ n ≤ 9 ∧ ∀ i, i < n → thrAt T i = true := by
 simp only [thrsOk, Bool.and_eq_true, decide_eq_true_eq] at h
 exact ⟨h.1.1, h.1.2, all_out h.2⟩
theorem thrAt_ok {T : Nat → ThrV} {i : Nat} (h : thrAt T i = true) : thrOkV (T i) = true := by
 simp only [thrAt, Bool.and_eq_true] at h
 exact h.1
theorem thrOk_made {t : ThrV} (h : thrOkV t = true) : 0 ≤ t.made ∧ t.made ≤ 30 := by
 unfold thrOkV thrOk at h
 simp only [Bool.and_eq_true] at h
 exact inB_iff.1 (by simp_all)
theorem objsOk_out {n : Nat} {O : Nat → ObjV} (h : objsOk n O = true) : 1 ≤ n ∧ n ≤ 271 ∧ (∀ i, i < n → objAt O i = true) ∧ rootB (O 0) = true := by
 simp only [objsOk, Bool.and_eq_true, decide_eq_true_eq] at h
 exact ⟨h.1.1.1, h.1.1.2, all_out h.1.2, h.2⟩
theorem objsOk_rises {n : Nat} {O : Nat → ObjV} (h : objsOk n O = true) : Rises (fun i => (O i).id) n := by
 obtain ⟨_, _, ha, _⟩ := objsOk_out h
 intro i j hij
 induction j with
 | zero => omega
 | succ j ih =>
  intro hj
  have h1 := ha (j + 1) hj
  simp [objAt] at h1
  by_cases e : i = j
  ·subst e; exact h1.2
  ·have := ih (by omega) (by omega)
   simp only at this ⊢
   omega
theorem objsOk_root {n : Nat} {O : Nat → ObjV} (h : objsOk n O = true) : (O 0).id = 1 ∧ (O 0).kind = 3 ∧ (O 0).up = 0 := by
 obtain ⟨_, _, _, hr⟩ := objsOk_out h
 simp only [rootB, Bool.and_eq_true, beq_iff_eq] at hr
 exact ⟨hr.1.1, hr.1.2, hr.2⟩
theorem objsOk_pos {n : Nat} {O : Nat → ObjV} (h : objsOk n O = true) : ∀ i, i < n → 1 ≤ (O i).id := by
 intro i hi
 have hr := (objsOk_root h).1
 by_cases e : i = 0
 ·subst e; omega
 ·have := objsOk_rises h 0 i (by omega) hi
  simp only at this
  omega
end Go.Proofs.YthbmfbnnemgbpaaGreatDoor
namespace Go.Proofs.YthbmfbnnemgbpaaGreatDoor
open Go Go.RowKit Go.Deep
def idxI : Option Nat → Int
 | none => -1
 | some j => j
theorem findI_first {ids : Nat → Int} {n k : Nat} {x : Int} (hk : k < n) (he : ids k = x) (h : ∀ j, j < k → ids j ≠ x) : findI ids n x = some k := by
 unfold findI
 rw [List.find?_range_eq_some]
 exact ⟨by simpa using he, List.mem_range.2 hk, fun j hj => by simpa using h j hj⟩
theorem findI_no {ids : Nat → Int} {n : Nat} {x : Int} (h : ∀ j, j < n → ids j ≠ x) : findI ids n x = none := by
 unfold findI
 rw [List.find?_eq_none]
 intro j hj
 simpa using h j (List.mem_range.1 hj)
set_option maxRecDepth 100000 in
set_option maxHeartbeats 2000000 in
theorem l3Find_any (k : KerV) (x : Int) (w : World) (hk : k.at w) :
 Calls Tryz.prog 74 #[k.val, .int .i64 x] w fun e w' => e = .returned (.int .i64 (idxI (findI (fun i => (k.O i).id) k.on x))) ∧ Below w.heap.size w w' := by
 have hb0 := (Below.refl _ w).alloc (Nat.le_refl _) (.cells #[.slice k.ta k.tn k.tk, .slice k.oa k.on k.ok] 42)
 have A0 := Blk.new w (.cells #[.slice k.ta k.tn k.tk, .slice k.oa k.on k.ok] 42)
 have HT := hid (hk.below hb0)
 have hn := hk.2.1
 unfold maxLen at hn
 unfold KerV.val
 obtain ⟨x0, x1⟩ := A0.two
 clear hk A0
 go_enter Tryz.func74, Tryz.ntmps74
 go_wp2
 generalize w.alloc (.cells #[.slice k.ta k.tn k.tk, .slice k.oa k.on k.ok] 42) = W at *
 go_loop [5] (fun i => ∃ q : Nat, q ≤ k.on ∧ i = .int .i64 q ∧ Hid (∀ j, j < q → (k.O j).id ≠ x)) (fun i => k.on - (intOf i).toNat)
 case atStart => exact ⟨0, Nat.zero_le _, rfl, hid (fun j hj => by omega)⟩
 case round =>
  obtain ⟨q, hq, rfl, HA⟩ := hrel
  by_cases hlt : q < k.on
  ·obtain ⟨b, off, ea, _, hcc⟩ := HT.out.2.2.2 (by omega)
   have q0 := (hcc q hlt).1.c0
   have i1 : (q : Int) < (k.on : Int) := by omega
   rw [ea] at x1
   clear hcc ea
   by_cases e : (k.O q).id = x
   ·have HF := hid (findI_first (ids := fun i => (k.O i).id) hlt e HA.out)
    have e' : ((k.O q).id == x) = true := by simpa using e
    clear e HA
    go_wp2
    go_ret
    exact ⟨ret_int (by rw [HF.out]; rfl), hb0⟩
   ·have e' : ((k.O q).id == x) = false := by simpa using e
    have HA2 : Hid (∀ j, j < q + 1 → (k.O j).id ≠ x) := hid (fun j hj => by
     by_cases ej : j = q
     ·subst ej; exact e
     ·exact HA.out j (by omega))
    clear e HA
    go_wp2
    exact ⟨⟨q + 1, by omega, by go_num, HA2⟩, by simp [intOf]; omega⟩
  ·have i1 : ¬ (q : Int) < (k.on : Int) := by omega
   have HF := hid (findI_no (ids := fun i => (k.O i).id) (n := k.on) (x := x) (fun j hj => HA.out j (by omega)))
   clear HA
   go_wp2
   go_ret
   exact ⟨ret_int (by rw [HF.out]; rfl), hb0⟩
set_option maxRecDepth 100000 in
set_option maxHeartbeats 2000000 in
theorem l3Thread_any (k : KerV) (x : Int) (w : World) (hk : k.at w) :
 Calls Tryz.prog 38 #[k.val, .int .i64 x] w fun e w' => e = .returned (.int .i64 (idxI (findI (fun i => (k.T i).id) k.tn x))) ∧ Below w.heap.size w w' := by
 have hb0 := (Below.refl _ w).alloc (Nat.le_refl _) (.cells #[.slice k.ta k.tn k.tk, .slice k.oa k.on k.ok] 42)
 have A0 := Blk.new w (.cells #[.slice k.ta k.tn k.tk, .slice k.oa k.on k.ok] 42)
 have HT := hid (hk.below hb0)
 have hn := hk.1
 unfold maxLen at hn
 unfold KerV.val
 obtain ⟨x0, x1⟩ := A0.two
 clear hk A0
 go_enter Tryz.func38, Tryz.ntmps38
 go_wp2
 generalize w.alloc (.cells #[.slice k.ta k.tn k.tk, .slice k.oa k.on k.ok] 42) = W at *
 go_loop [5] (fun i => ∃ q : Nat, q ≤ k.tn ∧ i = .int .i64 q ∧ Hid (∀ j, j < q → (k.T j).id ≠ x)) (fun i => k.tn - (intOf i).toNat)
 case atStart => exact ⟨0, Nat.zero_le _, rfl, hid (fun j hj => by omega)⟩
 case round =>
  obtain ⟨q, hq, rfl, HA⟩ := hrel
  by_cases hlt : q < k.tn
  ·obtain ⟨b, off, ea, _, hcc⟩ := HT.out.2.2.1 (by omega)
   have q0 := (hcc q hlt).1.c0
   have i1 : (q : Int) < (k.tn : Int) := by omega
   rw [ea] at x0
   clear hcc ea
   by_cases e : (k.T q).id = x
   ·have HF := hid (findI_first (ids := fun i => (k.T i).id) hlt e HA.out)
    have e' : ((k.T q).id == x) = true := by simpa using e
    clear e HA
    go_wp2
    go_ret
    exact ⟨ret_int (by rw [HF.out]; rfl), hb0⟩
   ·have e' : ((k.T q).id == x) = false := by simpa using e
    have HA2 : Hid (∀ j, j < q + 1 → (k.T j).id ≠ x) := hid (fun j hj => by
     by_cases ej : j = q
     ·subst ej; exact e
     ·exact HA.out j (by omega))
    clear e HA
    go_wp2
    exact ⟨⟨q + 1, by omega, by go_num, HA2⟩, by simp [intOf]; omega⟩
  ·have i1 : ¬ (q : Int) < (k.tn : Int) := by omega
   have HF := hid (findI_no (ids := fun i => (k.T i).id) (n := k.tn) (x := x) (fun j hj => HA.out j (by omega)))
   clear HA
   go_wp2
   go_ret
   exact ⟨ret_int (by rw [HF.out]; rfl), hb0⟩
end Go.Proofs.YthbmfbnnemgbpaaGreatDoor
namespace Go.Proofs.YthbmfbnnemgbpaaGreatDoor
def boxAt (n : Nat) (O : Nat → ObjV) (x : Int) : Bool := match findI (fun i => (O i).id) n x with
 | some u => (O u).kind == 3
 | none => false
def upsOk (n : Nat) (O : Nat → ObjV) : Bool := (List.range (n - 1)).all (fun i => boxAt n O (O (i + 1)).up)
def kerOk (k : KerV) : Bool := thrsOk k.tn k.T && objsOk k.on k.O && numsOk k.tn k.T k.on k.O && upsOk k.on k.O && reachB (fun i => (k.O i).id) (fun i => (k.O i).up) k.on
def spAt (k : KerV) (i : Nat) : Bool := objOk (k.O i) && (if i = 0 then rootB (k.O 0) else decide ((k.O (i - 1)).id < (k.O i).id) && numAt k.tn k.T (k.O i).id && boxAt k.on k.O (k.O i).up)
theorem spAt_all {k : KerV} (h1 : 1 ≤ k.on) (h2 : k.on ≤ 271) : (objsOk k.on k.O && numsOk k.tn k.T k.on k.O && upsOk k.on k.O) = (List.range k.on).all (spAt k) := by
 rw [Bool.eq_iff_iff]
 simp only [Bool.and_eq_true]
 constructor
 ·rintro ⟨⟨ho, hn⟩, hu⟩
  obtain ⟨_, _, ha, hr⟩ := objsOk_out ho
  refine all_yes fun i hi => ?_
  have hai := ha i hi
  simp only [objAt, Bool.and_eq_true] at hai
  simp only [spAt, hai.1, Bool.true_and]
  by_cases e : i = 0
  ·rw [if_pos e]; exact hr
  ·rw [if_neg e] at hai ⊢
   have e1 : i - 1 + 1 = i := by omega
   have h3 := all_out hn (i - 1) (by omega)
   have h4 := all_out hu (i - 1) (by omega)
   simp only [e1] at h3 h4
   simp only [hai.2, h3, h4, Bool.and_true]
 ·intro h
  have ha := all_out h
  have h0 := ha 0 (by omega)
  simp only [spAt, if_true, Bool.and_eq_true] at h0
  refine ⟨⟨?_, ?_⟩, ?_⟩
  ·have : (List.range k.on).all (objAt k.O) = true := all_yes fun i hi => by
    have hi' := ha i hi
    simp only [spAt, Bool.and_eq_true] at hi'
    simp only [objAt, hi'.1, Bool.true_and]
    by_cases e : i = 0
    ·rw [if_pos e]
     have := h0.2
     simp only [rootB, Bool.and_eq_true, beq_iff_eq] at this
     simp [this.1.1]
    ·rw [if_neg e] at hi' ⊢
     simp only [Bool.and_eq_true] at hi'
     exact hi'.2.1.1
   simp only [objsOk, this, h0.2, Bool.and_true, Bool.and_eq_true, decide_eq_true_eq]
   exact ⟨h1, h2⟩
  ·refine all_yes fun i hi => ?_
   have hi' := ha (i + 1) (by omega)
   simp only [spAt, Bool.and_eq_true] at hi'
   rw [if_neg (by omega)] at hi'
   simp only [Bool.and_eq_true] at hi'
   exact hi'.2.1.2
  ·refine all_yes fun i hi => ?_
   have hi' := ha (i + 1) (by omega)
   simp only [spAt, Bool.and_eq_true] at hi'
   rw [if_neg (by omega)] at hi'
   simp only [Bool.and_eq_true] at hi'
   exact hi'.2.2
theorem kerOk_sp {k : KerV} (ht : thrsOk k.tn k.T = true) (h1 : 1 ≤ k.on) (h2 : k.on ≤ 271) : kerOk k = ((List.range k.on).all (spAt k) && reachB (fun i => (k.O i).id) (fun i => (k.O i).up) k.on) := by
 rw [kerOk, ht, ← spAt_all h1 h2]
 simp [Bool.and_assoc]
theorem kerOk_thr {k : KerV} (ht : thrsOk k.tn k.T = false) : kerOk k = false := by simp [kerOk, ht]
theorem kerOk_few {k : KerV} (h : ¬ (1 ≤ k.on ∧ k.on ≤ 271)) : kerOk k = false := by
 have : objsOk k.on k.O = false := by
  cases e : objsOk k.on k.O with
  | false => rfl
  | true => obtain ⟨a, b, _⟩ := objsOk_out e; exact absurd ⟨a, b⟩ h
 simp [kerOk, this]
theorem thr_rises {n : Nat} {T : Nat → ThrV} (h : thrsOk n T = true) : Rises (fun i => (T i).id) n := by
 obtain ⟨_, _, ha⟩ := thrsOk_out h
 intro i j hij
 induction j with
 | zero => omega
 | succ j ih =>
  intro hj
  have h1 := ha (j + 1) hj
  simp [thrAt] at h1
  by_cases e : i = j
  ·subst e; exact h1.2
  ·have := ih (by omega) (by omega)
   simp only at this ⊢
   omega
theorem look_find {ids g : Nat → Int} {n : Nat} (h : Rises ids n) (x : Int) : look ids g n x = (findI ids n x).map g := by
 induction n with
 | zero => rfl
 | succ n ih =>
  have ih' := ih (fun i j hij hj => h i j hij (by omega))
  rw [look]
  split
  ·rename_i e; rw [← e, findI_eq h (Nat.lt_succ_self n)]; rfl
  ·rename_i e
   rw [ih']
   congr 1
   cases e1 : findI ids n x with
   | none =>
    symm
    refine findI_no fun j hj => ?_
    by_cases ej : j = n
    ·subst ej; exact e
    ·exact findI_none e1 j (by omega)
   | some j =>
    obtain ⟨j1, j2⟩ := findI_some e1
    symm
    rw [← j2]
    exact findI_eq h (by omega)
theorem numAt_some {n : Nat} {T : Nat → ThrV} (h : thrsOk n T = true) {id : Int} {t : Nat} (e : findI (fun i => (T i).id) n (id / 1000) = some t) : numAt n T id = inB (id % 1000) 1 (T t).made := by
 have : madeOf n T (id / 1000) = (T t).made := by
  unfold madeOf
  rw [look_find (thr_rises h), e]
  rfl
 simp [numAt, this, inB]
theorem numAt_none {n : Nat} {T : Nat → ThrV} (h : thrsOk n T = true) {id : Int} (e : findI (fun i => (T i).id) n (id / 1000) = none) : numAt n T id = false := by
 have : madeOf n T (id / 1000) = 0 := by
  unfold madeOf
  rw [look_find (thr_rises h), e]
  rfl
 simp [numAt, this]
 intro _
 omega
theorem sp_pos {k : KerV} {i : Nat} (h : ∀ j, j < i → spAt k j = true) (h0 : 0 < i) (hl : (k.O (i - 1)).id < (k.O i).id) : 1 ≤ (k.O i).id := by
 have : ∀ j, j < i → 1 ≤ (k.O j).id := by
  intro j
  induction j with
  | zero =>
   intro hj
   have := h 0 hj
   simp only [spAt, if_true, Bool.and_eq_true, rootB, beq_iff_eq] at this
   omega
  | succ j ih =>
   intro hj
   have h1 := ih (by omega)
   have := h (j + 1) hj
   simp only [spAt, Bool.and_eq_true] at this
   rw [if_neg (by omega)] at this
   simp only [Bool.and_eq_true, decide_eq_true_eq, Nat.add_sub_cancel] at this
   omega
 have := this (i - 1) (by omega)
 omega
end Go.Proofs.YthbmfbnnemgbpaaGreatDoor
