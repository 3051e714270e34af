/- Trees by numbers, plainly: who lies in whom, what is met on the way down, and that what is met once is met once. -/
import Derived.Test.YtjceaajnemgheaaGreatDoorZ2
import Derived.Test.YtjceaajnemgheaaGreatDoorZ7
namespace Go.Proofs.YtjceaajnemgheaaGreatDoor
def findI (ids : Nat → Int) (n : Nat) (x : Int) : Option Nat := (List.range n).find? (fun j => ids j == x)
def par (ids ups : Nat → Int) (n i : Nat) : Option Nat := if i = 0 then none else findI ids n (ups i)
def parIt (ids ups : Nat → Int) (n : Nat) : Nat → Nat → Option Nat
  | 0, i => some i
  | m + 1, i => (par ids ups n i).bind (parIt ids ups n m)
def kidsI (ids ups : Nat → Int) (n i : Nat) : List Nat := (List.range n).filter (fun j => ups j == ids i)
def preI (ids ups : Nat → Int) (n : Nat) : Nat → Nat → List Nat
  | 0, _ => []
  | f + 1, i => i :: (kidsI ids ups n i).flatMap (preI ids ups n f)
def Rises (ids : Nat → Int) (n : Nat) : Prop := ∀ i j, i < j → j < n → ids i < ids j

theorem findI_some {ids : Nat → Int} {n : Nat} {x : Int} {j : Nat} (h : findI ids n x = some j) : j < n ∧ ids j = x := by
  unfold findI at h
  exact ⟨List.mem_range.1 (List.mem_of_find?_eq_some h), by simpa using List.find?_some h⟩
theorem findI_none {ids : Nat → Int} {n : Nat} {x : Int} (h : findI ids n x = none) : ∀ j, j < n → ids j ≠ x := by
  unfold findI at h
  rw [List.find?_eq_none] at h
  intro j hj e
  have := h j (List.mem_range.2 hj)
  simp [e] at this
theorem Rises.inj {ids : Nat → Int} {n : Nat} (h : Rises ids n) {i j : Nat} (hi : i < n) (hj : j < n) (e : ids i = ids j) : i = j := by
  rcases Nat.lt_trichotomy i j with h1 | h1 | h1
  · have := h i j h1 hj; omega
  · exact h1
  · have := h j i h1 hi; omega
theorem findI_eq {ids : Nat → Int} {n : Nat} (h : Rises ids n) {j : Nat} (hj : j < n) : findI ids n (ids j) = some j := by
  cases e : findI ids n (ids j) with
  | none => exact absurd rfl (findI_none e j hj)
  | some k =>
    obtain ⟨h1, h2⟩ := findI_some e
    rw [h.inj h1 hj h2]

section
variable {ids ups : Nat → Int} {n : Nat}

theorem parIt_add (a b i : Nat) : parIt ids ups n (a + b) i = (parIt ids ups n a i).bind (parIt ids ups n b) := by
  induction a generalizing i with
  | zero => simp [parIt]
  | succ a ih =>
    rw [Nat.succ_add]
    simp only [parIt]
    cases par ids ups n i with
    | none => rfl
    | some k => simp only [Option.bind_some]; exact ih k
theorem parIt_one (i : Nat) : parIt ids ups n 1 i = par ids ups n i := by
  simp only [parIt]
  cases par ids ups n i <;> rfl
theorem parIt_succ' (m i : Nat) : parIt ids ups n (m + 1) i = (parIt ids ups n m i).bind (par ids ups n) := by
  rw [parIt_add]
  congr 1
  funext j
  exact parIt_one j
theorem par_lt {i j : Nat} (h : par ids ups n i = some j) : j < n := by
  unfold par at h
  split at h
  · cases h
  · exact (findI_some h).1
theorem parIt_lt {m i j : Nat} (hi : i < n) (h : parIt ids ups n m i = some j) : j < n := by
  cases m with
  | zero => simp only [parIt, Option.some.injEq] at h; omega
  | succ m =>
    rw [parIt_succ'] at h
    cases e : parIt ids ups n m i with
    | none => simp [e] at h
    | some k => simp only [e, Option.bind_some] at h; exact par_lt h
def NoCyc (ids ups : Nat → Int) (n i : Nat) : Prop := ∀ p, parIt ids ups n (p + 1) i ≠ some i

theorem noCyc_zero : NoCyc ids ups n 0 := fun p h => by simp [parIt, par] at h
theorem noCyc_kid {i k : Nat} (h : NoCyc ids ups n i) (hk : par ids ups n k = some i) : NoCyc ids ups n k := fun p e => by
  have e1 : parIt ids ups n p i = some k := by
    have := e
    simp only [parIt, hk, Option.bind_some] at this
    exact this
  exact h p (by rw [parIt_succ', e1]; exact hk)
theorem noCyc_down {i k m : Nat} (h : NoCyc ids ups n i) (hk : parIt ids ups n m k = some i) : NoCyc ids ups n k := fun p e => by
  have e2 : parIt ids ups n (p + 1 + m) k = some i := by rw [parIt_add, e]; exact hk
  rw [Nat.add_comm, parIt_add, hk] at e2
  exact h p e2
theorem length_count (n : Nat) (l : List Nat) (h : ∀ x ∈ l, x < n) : l.length = ((List.range n).map (fun j => l.count j)).sum := by
  induction l with
  | nil =>
    have : ∀ L : List Nat, (L.map (fun j => ([] : List Nat).count j)).sum = 0 := by
      intro L; induction L with
      | nil => rfl
      | cons a L ih => rw [List.map_cons, List.sum_cons, ih]; rfl
    rw [this]; rfl
  | cons a l ih =>
    have h1 := ih (fun x hx => h x (List.mem_cons_of_mem _ hx))
    have ha : a < n := h a List.mem_cons_self
    have key : ∀ N, (((List.range N).map (fun j => (a :: l).count j)).sum) = ((List.range N).map (fun j => l.count j)).sum + (if a < N then 1 else 0) := by
      intro N
      induction N with
      | zero => simp
      | succ N ihN =>
        rw [List.range_succ, List.map_append, List.sum_append, List.map_append, List.sum_append, ihN]
        simp only [List.map_cons, List.map_nil, List.sum_cons, List.sum_nil, List.count_cons]
        by_cases e : a = N
        · subst e; simp; omega
        · have e1 : (a == N) = false := by simpa using e
          simp only [e1]
          by_cases e2 : a < N
          · have : a < N + 1 := by omega
            simp [e2, this]; omega
          · have : ¬ a < N + 1 := by omega
            simp [e2, this]
    rw [key, if_pos ha, List.length_cons, h1]
theorem sum_le_len (n : Nat) (c : Nat → Nat) (h : ∀ j, c j ≤ 1) : ((List.range n).map c).sum ≤ n := by
  induction n with
  | zero => simp
  | succ n ih => rw [List.range_succ, List.map_append, List.sum_append]; have := h n; simp; omega
theorem sum_full (n : Nat) (c : Nat → Nat) (h : ∀ j, c j ≤ 1) (e : ((List.range n).map c).sum = n) : ∀ j, j < n → c j = 1 := by
  induction n with
  | zero => intro j hj; omega
  | succ n ih =>
    rw [List.range_succ, List.map_append, List.sum_append] at e
    simp at e
    have h1 := sum_le_len n c h
    have h2 := h n
    intro j hj
    by_cases e1 : j = n
    · subst e1; omega
    · exact ih (by omega) j (by omega)
theorem sum_all (n : Nat) (c : Nat → Nat) (h : ∀ j, j < n → c j = 1) : ((List.range n).map c).sum = n := by
  induction n with
  | zero => simp
  | succ n ih => rw [List.range_succ, List.map_append, List.sum_append, ih (fun j hj => h j (by omega))]; simp [h n (by omega)]
theorem nodup_len {l : List Nat} (hl : l.Nodup) (h : ∀ x ∈ l, x < n) : l.length ≤ n := by
  rw [length_count n l h]
  exact sum_le_len n _ (fun j => List.nodup_iff_count.1 hl j)
theorem nodup_full {l : List Nat} (hl : l.Nodup) (h : ∀ x ∈ l, x < n) : l.length = n ↔ ∀ j, j < n → j ∈ l := by
  constructor
  · intro e j hj
    rw [length_count n l h] at e
    have := sum_full n _ (fun j => List.nodup_iff_count.1 hl j) e j hj
    exact List.count_pos_iff.1 (by omega)
  · intro e
    rw [length_count n l h]
    refine sum_all n _ (fun j hj => ?_)
    have h1 := List.nodup_iff_count.1 hl j
    have h2 := List.count_pos_iff.2 (e j hj)
    omega
theorem height {i j m : Nat} (hc : NoCyc ids ups n i) (hj : j < n) (h : parIt ids ups n m j = some i) : m < n := by
  have each : ∀ q, q ≤ m → ∃ x, parIt ids ups n q j = some x := fun q hq => by
    have e : m = q + (m - q) := by omega
    rw [e, parIt_add] at h
    cases e1 : parIt ids ups n q j with
    | none => simp [e1] at h
    | some x => exact ⟨x, rfl⟩
  have hl : ((List.range (m + 1)).map (fun q => (parIt ids ups n q j).getD 0)).Nodup := by
    rw [List.Nodup, List.pairwise_map]
    refine List.Pairwise.imp_of_mem ?_ (List.pairwise_lt_range (n := m + 1))
    intro a b ha hb hab e
    have ha' := List.mem_range.1 ha
    have hb' := List.mem_range.1 hb
    obtain ⟨x, hx⟩ := each a (by omega)
    obtain ⟨y, hy⟩ := each b (by omega)
    simp only [hx, hy, Option.getD_some] at e
    subst e
    have e1 : b = a + (b - a - 1 + 1) := by omega
    rw [e1, parIt_add, hx, Option.bind_some] at hy
    have e2 : m = a + (m - a) := by omega
    rw [e2, parIt_add, hx, Option.bind_some] at h
    exact noCyc_down hc h _ hy
  have := nodup_len (n := n) hl (by
    intro x hx
    obtain ⟨q, hq, rfl⟩ := List.mem_map.1 hx
    have hq' := List.mem_range.1 hq
    obtain ⟨y, hy⟩ := each q (by omega)
    rw [hy]
    exact parIt_lt hj hy)
  simp at this
  omega

theorem mem_kids (hr : Rises ids n) (h0 : ∀ j, j < n → ids j ≠ ups 0) {i k : Nat} (hi : i < n) : k ∈ kidsI ids ups n i ↔ k < n ∧ par ids ups n k = some i := by
  unfold kidsI
  rw [List.mem_filter, List.mem_range]
  constructor
  · rintro ⟨h1, h2⟩
    refine ⟨h1, ?_⟩
    have h2' : ups k = ids i := by simpa using h2
    unfold par
    split
    · rename_i e; subst e; exact absurd h2'.symm (h0 i hi)
    · rw [h2']; exact findI_eq hr hi
  · rintro ⟨h1, h2⟩
    refine ⟨h1, ?_⟩
    unfold par at h2
    split at h2
    · cases h2
    · simp [(findI_some h2).2]

theorem mem_pre (hr : Rises ids n) (h0 : ∀ j, j < n → ids j ≠ ups 0) {f i j : Nat} (hi : i < n) : j ∈ preI ids ups n f i ↔ j < n ∧ ∃ m, m < f ∧ parIt ids ups n m j = some i := by
  induction f generalizing i with
  | zero => simp [preI]
  | succ f ih =>
    simp only [preI, List.mem_cons, List.mem_flatMap]
    constructor
    · rintro (rfl | ⟨k, hk, hj⟩)
      · exact ⟨hi, 0, by omega, rfl⟩
      · obtain ⟨k1, k2⟩ := (mem_kids hr h0 hi).1 hk
        obtain ⟨hj', m, hm, e⟩ := (ih k1).1 hj
        exact ⟨hj', m + 1, by omega, by rw [parIt_succ', e]; exact k2⟩
    · rintro ⟨hj, m, hm, e⟩
      cases m with
      | zero => simp only [parIt, Option.some.injEq] at e; exact .inl e
      | succ m =>
        rw [parIt_succ'] at e
        cases e1 : parIt ids ups n m j with
        | none => simp [e1] at e
        | some k =>
          simp only [e1, Option.bind_some] at e
          have hk := parIt_lt hj e1
          exact .inr ⟨k, (mem_kids hr h0 hi).2 ⟨hk, e⟩, (ih hk).2 ⟨hj, m, by omega, e1⟩⟩

theorem nodup_pre (hr : Rises ids n) (h0 : ∀ j, j < n → ids j ≠ ups 0) {f i : Nat} (hi : i < n) (hc : NoCyc ids ups n i) : (preI ids ups n f i).Nodup := by
  induction f generalizing i with
  | zero => simp [preI]
  | succ f ih =>
    simp only [preI, List.nodup_cons, List.mem_flatMap]
    refine ⟨?_, ?_⟩
    · rintro ⟨k, hk, hj⟩
      obtain ⟨k1, k2⟩ := (mem_kids hr h0 hi).1 hk
      obtain ⟨_, m, _, e⟩ := (mem_pre hr h0 k1).1 hj
      exact hc m (by rw [parIt_succ', e]; exact k2)
    · rw [List.Nodup, List.pairwise_flatMap]
      refine ⟨fun k hk => ?_, ?_⟩
      · obtain ⟨k1, k2⟩ := (mem_kids hr h0 hi).1 hk
        exact ih k1 (noCyc_kid hc k2)
      · have hn : (kidsI ids ups n i).Nodup := List.Nodup.sublist List.filter_sublist List.nodup_range
        refine List.Pairwise.imp_of_mem ?_ hn
        intro a b ha hb hab x hx y hy exy
        subst exy
        obtain ⟨a1, a2⟩ := (mem_kids hr h0 hi).1 ha
        obtain ⟨b1, b2⟩ := (mem_kids hr h0 hi).1 hb
        obtain ⟨_, p, _, ep⟩ := (mem_pre hr h0 a1).1 hx
        obtain ⟨_, q, _, eq⟩ := (mem_pre hr h0 b1).1 hy
        have far : ∀ {a b p q : Nat}, par ids ups n a = some i → par ids ups n b = some i → parIt ids ups n p x = some a → parIt ids ups n q x = some b → p < q → False := by
          intro a b p q a2 b2 ep eq hpq
          have e1 : q = p + (q - p - 1 + 1) := by omega
          rw [e1, parIt_add, ep, Option.bind_some] at eq
          simp only [parIt, a2, Option.bind_some] at eq
          exact hc (q - p - 1) (by rw [parIt_succ', eq]; exact b2)
        rcases Nat.lt_trichotomy p q with h | h | h
        · exact far a2 b2 ep eq h
        · subst h; rw [ep] at eq; exact hab (by simpa using eq)
        · exact far b2 a2 eq ep h
def reachB (ids ups : Nat → Int) (n : Nat) : Bool := (List.range n).all fun i => (List.range n).any fun m => parIt ids ups n m i == some 0

theorem reachB_iff : reachB ids ups n = true ↔ ∀ i, i < n → ∃ m, m < n ∧ parIt ids ups n m i = some 0 := by
  simp only [reachB, List.all_eq_true, List.any_eq_true, List.mem_range, beq_iff_eq]

theorem pre_full (hr : Rises ids n) (h0 : ∀ j, j < n → ids j ≠ ups 0) (hn : 0 < n) : ((preI ids ups n n 0).length = n) ↔ reachB ids ups n = true := by
  rw [nodup_full (nodup_pre hr h0 hn noCyc_zero) (fun x hx => ((mem_pre hr h0 hn).1 hx).1), reachB_iff]
  constructor
  · intro h i hi; exact ((mem_pre hr h0 hn).1 (h i hi)).2
  · intro h i hi; exact (mem_pre hr h0 hn).2 ⟨hi, h i hi⟩
theorem noCyc_of_reach {i m : Nat} (h : parIt ids ups n m i = some 0) : NoCyc ids ups n i := noCyc_down noCyc_zero h
end
end Go.Proofs.YtjceaajnemgheaaGreatDoor
namespace Go.Proofs.YtjceaajnemgheaaGreatDoor
open Go.RowKit Go.Deep

def thrOkV (t : ThrV) : Bool := thrOk t.id t.made t.b1 t.c1.n t.c1.f t.c1.g t.b2 t.c2.n t.c2.f t.c2.g t.own.n t.own.h
theorem implThr_v (t : ThrV) (w : World) (ht : t.at w) :
    Calls Tryz.prog 70 #[t.val] w fun e w' => e = .returned (.bool (thrOkV t)) ∧ Below w.heap.size w w' := implThr_any _ _ _ _ _ _ _ _ _ _ _ _ _ _ _ _ _ _ w ht.1.1 ht.2.1.1 ht.2.2.1 ht.1.2 ht.2.1.2 ht.2.2.2
def thrAt (T : Nat → ThrV) (i : Nat) : Bool := thrOkV (T i) && (i == 0 || decide ((T (i - 1)).id < (T i).id))
def thrsOk (n : Nat) (T : Nat → ThrV) : Bool := decide (1 ≤ n) && decide (n ≤ 9) && (List.range n).all (thrAt T)
def objAt (O : Nat → ObjV) (i : Nat) : Bool := objOk (O i) && (if i = 0 then decide (0 < (O 0).id) else decide ((O (i - 1)).id < (O i).id))
def rootB (t : ObjV) : Bool := t.id == 1 && t.kind == 3 && t.up == 0
def objsOk (n : Nat) (O : Nat → ObjV) : Bool := decide (1 ≤ n) && decide (n ≤ 271) && (List.range n).all (objAt O) && rootB (O 0)

theorem all_at {n k : Nat} {p : Nat → Bool} (hk : k < n) (e : p k = false) : (List.range n).all p = false := by
  rw [List.all_eq_false]; exact ⟨k, List.mem_range.2 hk, by simp [e]⟩
theorem all_yes {n : Nat} {p : Nat → Bool} (e : ∀ i, i < n → p i = true) : (List.range n).all p = true := by
  rw [List.all_eq_true]; intro i hi; exact e i (List.mem_range.1 hi)
theorem all_out {n : Nat} {p : Nat → Bool} (e : (List.range n).all p = true) : ∀ i, i < n → p i = true := fun i hi => List.all_eq_true.1 e i (List.mem_range.2 hi)

theorem thrOk_id {t : ThrV} (h : thrOkV t = true) : 1 ≤ t.id ∧ t.id ≤ 9 := by
  unfold thrOkV thrOk at h
  simp only [Bool.and_eq_true] at h
  exact inB_iff.1 (by simp_all)
theorem thrAt_no {T : Nat → ThrV} {k : Nat} (h : thrOkV (T k) = true) (e : (T k).id ≤ lastOf (fun i => (T i).id) k) : thrAt T k = false := by
  have h1 := thrOk_id h
  by_cases e0 : k = 0
  · subst e0; simp [lastOf] at e; omega
  · simp [lastOf, e0] at e
    have : decide ((T (k - 1)).id < (T k).id) = false := by simp; omega
    simp [thrAt, e0, this]
theorem thrAt_yes {T : Nat → ThrV} {k : Nat} (h : thrOkV (T k) = true) (e : ¬ (T k).id ≤ lastOf (fun i => (T i).id) k) : thrAt T k = true := by
  by_cases e0 : k = 0
  · subst e0; simp [thrAt, h]
  · simp [lastOf, e0] at e
    simp [thrAt, h, e]
theorem objAt_no {O : Nat → ObjV} {k : Nat} (e : (O k).id ≤ lastOf (fun i => (O i).id) k) : objAt O k = false := by
  by_cases e0 : k = 0
  · subst e0; simp [lastOf] at e; simp [objAt]; intro _; omega
  · simp [lastOf, e0] at e
    have : decide ((O (k - 1)).id < (O k).id) = false := by simp; omega
    simp [objAt, e0, this]
theorem objAt_yes {O : Nat → ObjV} {k : Nat} (h : objOk (O k) = true) (e : ¬ (O k).id ≤ lastOf (fun i => (O i).id) k) : objAt O k = true := by
  by_cases e0 : k = 0
  · subst e0; simp [lastOf] at e; simp [objAt, h, e]
  · simp [lastOf, e0] at e
    simp [objAt, h, e, e0]

def ThrV.blk (t : ThrV) : Obj := .cells #[.int .i64 t.id, .int .i64 t.b1, t.c1.val, .int .i64 t.b2, t.c2.val, t.own.val, .int .i64 t.made] 41
theorem Blk.c0 {W : World} {P t : Nat} {cs : Array Value} (h : Blk W P (.cells cs t)) (i : Nat) {v : Value} (hv : cs[i]? = some v) : W.cell? ⟨P, i, none⟩ = some v := by
  unfold Blk at h
  simp [World.cell?, h, hv]

set_option maxRecDepth 100000 in
set_option maxHeartbeats 4000000 in
theorem threadsOk_any (a : Option Addr) (n cap : Nat) (T : Nat → ThrV) (w : World) (hn : n ≤ maxLen) (hT : ThrsAt w a n T) :
    Calls Tryz.prog 56 #[.slice a n cap] w fun e w' => e = .returned (.bool (thrsOk n T)) ∧ Below w.heap.size w w' := by
  unfold maxLen at hn
  have HT := hid hT
  clear hT
  by_cases h1 : n < 1
  · have h1' : (n : Int) < 1 := by omega
    go_enter Tryz.func56, Tryz.ntmps56
    go_wp2
    go_ret
    have : n = 0 := by omega
    exact ⟨ret_bool (by simp [thrsOk, this]), Below.refl _ _⟩
  have h1' : ¬ (n : Int) < 1 := by omega
  by_cases h9 : 9 < n
  · have h9' : (9 : Int) < (n : Int) := by omega
    go_enter Tryz.func56, Tryz.ntmps56
    go_wp2
    go_ret
    have : decide (n ≤ 9) = false := by simp; omega
    exact ⟨ret_bool (by simp [thrsOk, this]), Below.refl _ _⟩
  have h9' : ¬ (9 : Int) < (n : Int) := by omega
  go_enter Tryz.func56, Tryz.ntmps56
  go_wp2
  go_loopw [3, 16] (fun l i wr => ∃ k : Nat, k ≤ n ∧ i = .int .i64 k ∧ l = .int .i64 (lastOf (fun i => (T i).id) k) ∧ Hid (∀ j, j < k → thrAt T j = true) ∧ Below w.heap.size w wr) (fun _ i _ => n - (intOf i).toNat)
  case atStart => exact ⟨0, Nat.zero_le _, rfl, rfl, hid (fun j hj => by omega), Below.refl _ _⟩
  case round =>
    obtain ⟨k, hk, rfl, rfl, HA, hB⟩ := hrel
    by_cases hlt : k < n
    · obtain ⟨b, off, rfl, hlt0, hcc⟩ := HT.out.below hB (by omega)
      obtain ⟨⟨q0, q1, q2, q3, q4, q5, q6⟩, ht⟩ := hcc k hlt
      have i1 : (k : Int) < (n : Int) := by omega
      have b1 : Below wr.heap.size wr (wr.alloc (T k).blk) := (Below.refl _ wr).alloc (Nat.le_refl _) _
      have SZ := hid (implThr_v (T k) _ (ht.below b1))
      have A0 := Blk.new wr (T k).blk
      have B0 := then_ hB b1
      simp only [CatL.val, IntL.val, ThrV.blk, ThrV.val] at q2 q4 q5 SZ A0 b1 B0
      clear hcc ht
      go_wp2_with fail
      refine SZ.out.mono ?_
      rintro e w2 ⟨rfl, hb2⟩
      have A2 := A0.below hb2
      have x0 := A2.c0 0 rfl
      have B2 := then_ B0 hb2
      clear q0 q1 q2 q3 q4 q5 q6 SZ hb2 A0 B0 b1 hlt0
      cases t1 : thrOkV (T k) with
      | false =>
        go_wp2
        go_ret
        exact ⟨ret_bool (by rw [thrsOk, all_at hlt (by simp [thrAt, t1])]; simp), B2⟩
      | true =>
        by_cases t2 : (T k).id ≤ lastOf (fun i => (T i).id) k
        · go_wp2
          go_ret
          exact ⟨ret_bool (by rw [thrsOk, all_at hlt (thrAt_no t1 t2)]; simp), B2⟩
        · have HA2 : Hid (∀ j, j < k + 1 → thrAt T j = true) := hid (fun j hj => by
            by_cases e : j = k
            · subst e; exact thrAt_yes t1 t2
            · exact HA.out j (by omega))
          go_wp2
          exact ⟨⟨k + 1, by omega, by go_num, by rw [lastOf_succ], HA2, B2⟩, by simp [intOf]; omega⟩
    · go_wp2
      go_ret
      have e : k = n := by omega
      subst e
      refine ⟨ret_bool ?_, hB⟩
      rw [thrsOk, all_yes HA.out]; simp; omega

set_option maxRecDepth 100000 in
set_option maxHeartbeats 4000000 in
theorem objectsOk_any (a : Option Addr) (n cap : Nat) (O : Nat → ObjV) (w : World) (hn : n ≤ maxLen) (hT : ObjsAt w a n O) :
    Calls Tryz.prog 57 #[.slice a n cap] w fun e w' => e = .returned (.bool (objsOk n O)) ∧ Below w.heap.size w w' := by
  unfold maxLen at hn
  have HT := hid hT
  clear hT
  by_cases h1 : n < 1
  · have h1' : (n : Int) < 1 := by omega
    go_enter Tryz.func57, Tryz.ntmps57
    go_wp2
    go_ret
    have : n = 0 := by omega
    exact ⟨ret_bool (by simp [objsOk, this]), Below.refl _ _⟩
  have h1' : ¬ (n : Int) < 1 := by omega
  by_cases h9 : 271 < n
  · have h9' : (271 : Int) < (n : Int) := by omega
    go_enter Tryz.func57, Tryz.ntmps57
    go_wp2
    go_ret
    have : decide (n ≤ 271) = false := by simp; omega
    exact ⟨ret_bool (by simp [objsOk, this]), Below.refl _ _⟩
  have h9' : ¬ (271 : Int) < (n : Int) := by omega
  go_enter Tryz.func57, Tryz.ntmps57
  go_wp2
  go_loopw [3, 17] (fun l i wr => ∃ k : Nat, k ≤ n ∧ i = .int .i64 k ∧ l = .int .i64 (lastOf (fun i => (O i).id) k) ∧ Hid (∀ j, j < k → objAt O j = true) ∧ Below w.heap.size w wr) (fun _ i _ => n - (intOf i).toNat)
  case atStart => exact ⟨0, Nat.zero_le _, rfl, rfl, hid (fun j hj => by omega), Below.refl _ _⟩
  case round =>
    obtain ⟨k, hk, rfl, rfl, HA, hB⟩ := hrel
    by_cases hlt : k < n
    · obtain ⟨b, off, rfl, hlt0, hcc⟩ := HT.out.below hB (by omega)
      obtain ⟨⟨q0, q1, q2, q3, q4, q5, q6, q7, q8, q9⟩, ht⟩ := hcc k hlt
      have i1 : (k : Int) < (n : Int) := by omega
      have b1 : Below wr.heap.size wr (wr.alloc (.cells #[.int .i64 (O k).id, .int .i64 (O k).kind, .int .i64 (O k).up, .int .i64 (O k).b1, (O k).c1.val, .string (O k).data, (O k).items.val, (O k).own.val, .int .i64 (O k).b2, (O k).c2.val] 45)) := (Below.refl _ wr).alloc (Nat.le_refl _) _
      have SZ := hid (objectOk_any (O k) _ (ht.below b1))
      have A0 := Blk.new wr (.cells #[.int .i64 (O k).id, .int .i64 (O k).kind, .int .i64 (O k).up, .int .i64 (O k).b1, (O k).c1.val, .string (O k).data, (O k).items.val, (O k).own.val, .int .i64 (O k).b2, (O k).c2.val] 45)
      have B0 := then_ hB b1
      simp only [CatL.val, IntL.val, StrL.val, ObjV.val] at q4 q6 q7 q9 SZ A0 b1 B0
      clear hcc ht
      go_wp2_with fail
      refine SZ.out.mono ?_
      rintro e w2 ⟨rfl, hb2⟩
      have A2 := A0.below hb2
      have x0 := A2.c0 0 rfl
      have B2 := then_ B0 hb2
      clear q0 q1 q2 q3 q4 q5 q6 q7 q8 q9 SZ hb2 A0 B0 b1 hlt0
      cases t1 : objOk (O k) with
      | false =>
        go_wp2
        go_ret
        exact ⟨ret_bool (by rw [objsOk, all_at hlt (by simp [objAt, t1])]; simp), B2⟩
      | true =>
        by_cases t2 : (O k).id ≤ lastOf (fun i => (O i).id) k
        · go_wp2
          go_ret
          exact ⟨ret_bool (by rw [objsOk, all_at hlt (objAt_no t2)]; simp), B2⟩
        · have HA2 : Hid (∀ j, j < k + 1 → objAt O j = true) := hid (fun j hj => by
            by_cases e : j = k
            · subst e; exact objAt_yes t1 t2
            · exact HA.out j (by omega))
          go_wp2
          exact ⟨⟨k + 1, by omega, by go_num, by rw [lastOf_succ], HA2, B2⟩, by simp [intOf]; omega⟩
    · have e : k = n := by omega
      subst e
      obtain ⟨b, off, rfl, hlt0, hcc⟩ := HT.out.below hB (by omega)
      obtain ⟨⟨q0, q1, q2, q3, q4, q5, q6, q7, q8, q9⟩, ht⟩ := hcc 0 (by omega)
      simp only [Nat.zero_mul, Nat.add_zero] at q0 q1 q2 q3 q4 q5 q6 q7 q8 q9
      have i0 : (0 : Int) < (k : Int) := by omega
      have OK : Hid (objsOk k O = rootB (O 0)) := hid (by
        have d1 : decide (1 ≤ k) = true := by simp; omega
        have d2 : decide (k ≤ 271) = true := by simp; omega
        rw [objsOk, all_yes HA.out, d1, d2]; rfl)
      simp only [CatL.val, IntL.val, StrL.val] at q4 q6 q7 q9
      clear hcc ht HA
      go_wp2
      all_goals
        go_ret
        refine ⟨ret_bool ?_, hB.alloc hB.size _⟩
        rw [OK.out]
        clear q0 q1 q2 q3 q4 q5 q6 q7 q8 q9
        simp_all [rootB]
end Go.Proofs.YtjceaajnemgheaaGreatDoor
