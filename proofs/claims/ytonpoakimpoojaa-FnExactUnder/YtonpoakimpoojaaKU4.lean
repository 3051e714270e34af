/- What lies below, plainly: the model's way by levels meets what the program's way down meets. -/
import Derived.Test.YtonpoakimpoojaaGB
import Derived.Test.YtonpoakimpoojaaKU3
namespace Go.Proofs.Ytonpoakimpoojaa


theorem putL_len (L : List Int) (x : Int) : (putL L x).length ≤ L.length + 1 := by
  unfold putL
  split
  · omega
  · simp; omega

theorem putL_pos (L : List Int) (x : Int) : 0 < (putL L x).length := by
  unfold putL
  split
  · rename_i h
    have := (List.getElem?_eq_some_iff.1 h).1
    omega
  · simp; omega

theorem putL_mem {L : List Int} {x y : Int} (h : y ∈ putL L x) : y ∈ L ∨ y = x := by
  unfold putL at h
  split at h
  · exact .inl h
  · rw [List.mem_append, List.mem_append, List.mem_singleton] at h
    rcases h with (h | h) | h
    · exact .inl (List.mem_of_mem_take h)
    · exact .inr h
    · exact .inl (List.mem_of_mem_drop h)

theorem putL_rise {L : List Int} {x : Int} (h : L.Pairwise (· < ·)) : (putL L x).Pairwise (· < ·) := by
  unfold putL
  split
  · exact h
  · rename_i hx
    have hlo : ∀ y ∈ L.take (putAt L x), y < x := by
      intro y hy
      obtain ⟨j, hj, rfl⟩ := List.getElem_of_mem hy
      have hj' : j < putAt L x := by simp at hj; omega
      have := List.not_of_lt_findIdx hj'
      simp at this
      simpa using this
    have hhi : ∀ y ∈ L.drop (putAt L x), x < y := by
      intro y hy
      obtain ⟨j, hj, rfl⟩ := List.getElem_of_mem hy
      rw [List.getElem_drop]
      have hlen : putAt L x < L.length := by simp at hj; omega
      have h0 : ¬ L[putAt L x] < x := by
        have := List.findIdx_getElem (xs := L) (p := fun y => !decide (y < x)) (w := hlen)
        unfold putAt
        simpa using this
      have h1 : L[putAt L x] ≠ x := fun e => hx (by rw [List.getElem?_eq_getElem hlen, e])
      by_cases ej : j = 0
      · subst ej
        simp
        omega
      · have := List.pairwise_iff_getElem.1 h (putAt L x) (putAt L x + j) hlen (by simp at hj; omega) (by omega)
        omega
    rw [List.append_assoc, List.pairwise_append]
    refine ⟨h.sublist (List.take_sublist _ _), ?_, ?_⟩
    · rw [List.singleton_append, List.pairwise_cons]
      exact ⟨hhi, h.sublist (List.drop_sublist _ _)⟩
    · intro y hy z hz
      have h1 := hlo y hy
      rw [List.singleton_append, List.mem_cons] at hz
      rcases hz with rfl | hz
      · exact h1
      · have := hhi z hz; omega
theorem putL_in {L : List Int} {x y : Int} : y ∈ putL L x ↔ y ∈ L ∨ y = x := by
  refine ⟨putL_mem, fun h => ?_⟩
  unfold putL
  split
  · rename_i e
    rcases h with h | rfl
    · exact h
    · exact List.mem_of_getElem? e
  · rcases h with h | rfl
    · rw [← List.take_append_drop (putAt L x) L] at h
      rcases List.mem_append.1 h with h | h
      · exact List.mem_append_left _ (List.mem_append_left _ h)
      · exact List.mem_append_right _ h
    · simp
theorem rise_ext : ∀ {l m : List Int}, l.Pairwise (· < ·) → m.Pairwise (· < ·) → (∀ x, x ∈ l ↔ x ∈ m) → l = m
  | [], [], _, _, _ => rfl
  | [], b :: m, _, _, h => by have := (h b).2 List.mem_cons_self; cases this
  | a :: l, [], _, _, h => by have := (h a).1 List.mem_cons_self; cases this
  | a :: l, b :: m, h1, h2, h => by
    obtain ⟨a1, a2⟩ := List.pairwise_cons.1 h1
    obtain ⟨b1, b2⟩ := List.pairwise_cons.1 h2
    have e : a = b := by
      rcases List.mem_cons.1 ((h a).1 List.mem_cons_self) with e | e
      · exact e
      · rcases List.mem_cons.1 ((h b).2 List.mem_cons_self) with e' | e'
        · exact e'.symm
        · have := a1 b e'; have := b1 a e; omega
    subst e
    rw [rise_ext a2 b2 fun x => ?_]
    constructor
    · intro hx
      rcases List.mem_cons.1 ((h x).1 (List.mem_cons_of_mem _ hx)) with e | e
      · subst e; have := a1 x hx; omega
      · exact e
    · intro hx
      rcases List.mem_cons.1 ((h x).2 (List.mem_cons_of_mem _ hx)) with e | e
      · subst e; have := b1 x hx; omega
      · exact e
theorem sortL_mem {l : List Int} {x : Int} : x ∈ sortL l ↔ x ∈ l := (List.mergeSort_perm l _).mem_iff
theorem sortL_rise {l : List Int} (h : l.Nodup) : (sortL l).Pairwise (· < ·) := by
  have h1 : (sortL l).Pairwise (fun a b => a ≤ b) := by
    have := List.pairwise_mergeSort (le := fun (x y : Int) => decide (x ≤ y)) (fun a b c h1 h2 => by simp at *; omega) (fun a b => by simp; omega) l
    exact this.imp (fun h => by simpa using h)
  have h2 : (sortL l).Nodup := (List.mergeSort_perm l _).nodup_iff.2 h
  exact (h1.and h2).imp (fun {a b} ⟨h3, h4⟩ => by omega)
/-- one by one into a rising list -/
def putAll (L : List Int) : List Int := L.foldl putL []
theorem putAll_rise (L : List Int) : (putAll L).Pairwise (· < ·) := by
  unfold putAll
  have : ∀ (M : List Int), M.Pairwise (· < ·) → (L.foldl putL M).Pairwise (· < ·) := by
    induction L with
    | nil => intro M h; exact h
    | cons a L ih => intro M h; exact ih _ (putL_rise h)
  exact this [] List.Pairwise.nil
theorem putAll_mem (L : List Int) (x : Int) : x ∈ putAll L ↔ x ∈ L := by
  unfold putAll
  have : ∀ (M : List Int), x ∈ L.foldl putL M ↔ x ∈ M ∨ x ∈ L := by
    induction L with
    | nil => intro M; simp
    | cons a L ih => intro M; rw [List.foldl_cons, ih, putL_in, List.mem_cons]; exact or_assoc
  rw [this []]
  simp
theorem putAll_len (L : List Int) : (putAll L).length ≤ L.length := by
  unfold putAll
  have : ∀ (M : List Int), (L.foldl putL M).length ≤ M.length + L.length := by
    induction L with
    | nil => intro M; simp
    | cons a L ih => intro M; rw [List.foldl_cons]; have := ih (putL M a); have := putL_len M a; simp only [List.length_cons]; omega
  simpa using this []

section
variable {ids ups : Nat → Int} {n u : Nat}
/-- on the way by levels: t are looked at -/
structure Bfs (ids ups : Nat → Int) (n u t : Nat) (Q : List Nat) : Prop where
  nodup : Q.Nodup
  head : Q[0]? = some u
  mem : ∀ j ∈ Q, j < n ∧ ∃ m, parIt ids ups n m j = some u
  closed : ∀ s a, s < t → Q[s]? = some a → ∀ c ∈ kidsI ids ups n a, c ∈ Q
  origin : ∀ s c, 0 < s → Q[s]? = some c → ∃ r a, r < t ∧ Q[r]? = some a ∧ par ids ups n c = some a
theorem Bfs.start (hu : u < n) : Bfs ids ups n u 0 [u] := by
  refine ⟨by simp, rfl, fun j hj => ?_, fun s a hs => by omega, fun s c hs e => ?_⟩
  · simp at hj; subst hj; exact ⟨hu, 0, rfl⟩
  · cases s with
    | zero => omega
    | succ s => simp at e
theorem Bfs.step (hr : Rises ids n) (h0 : ∀ j, j < n → ids j ≠ ups 0) (hc : NoCyc ids ups n u) {t a : Nat} {Q : List Nat} (h : Bfs ids ups n u t Q) (ht : Q[t]? = some a) : Bfs ids ups n u (t + 1) (Q ++ kidsI ids ups n a) := by
  have hta : t < Q.length := (List.getElem?_eq_some_iff.1 ht).1
  obtain ⟨han, ma, hma⟩ := h.mem a (List.mem_of_getElem? ht)
  have kid : ∀ c, c ∈ kidsI ids ups n a → c < n ∧ par ids ups n c = some a := fun c hc => (mem_kids hr h0 han).1 hc
  have old : ∀ {s x}, Q[s]? = some x → (Q ++ kidsI ids ups n a)[s]? = some x := fun {s x} e => by
    rw [List.getElem?_append_left (List.getElem?_eq_some_iff.1 e).1]; exact e
  refine ⟨?_, old h.head, fun j hj => ?_, fun s b hs e c hcb => ?_, fun s c hs e => ?_⟩
  · rw [List.nodup_append]
    refine ⟨h.nodup, List.Nodup.sublist List.filter_sublist List.nodup_range, fun x hx y hy exy => ?_⟩
    subst exy
    obtain ⟨_, px⟩ := kid x hy
    obtain ⟨s, hs, es⟩ := List.getElem_of_mem hx
    by_cases s0 : s = 0
    · subst s0
      have : x = u := by have := h.head; rw [List.getElem?_eq_getElem hs, es] at this; simpa using this
      subst this
      exact hc ma (by simp only [parIt, px, Option.bind_some]; exact hma)
    · obtain ⟨r, b, hrt, hb, pb⟩ := h.origin s x (by omega) (by rw [List.getElem?_eq_getElem hs, es])
      rw [px] at pb
      have eab : a = b := by simpa using pb
      subst eab
      have hrl := (List.getElem?_eq_some_iff.1 hb).1
      have e1 := (List.getElem?_eq_some_iff.1 hb).2
      have e2 := (List.getElem?_eq_some_iff.1 ht).2
      have := (List.getElem_inj (h₀ := hrl) (h₁ := hta) h.nodup).1 (e1.trans e2.symm)
      omega
  · rcases List.mem_append.1 hj with hj | hj
    · exact h.mem j hj
    · obtain ⟨h1, h2⟩ := kid j hj
      exact ⟨h1, ma + 1, by simp only [parIt, h2, Option.bind_some]; exact hma⟩
  · by_cases est : s = t
    · subst est
      rw [old ht] at e
      have : a = b := by simpa using e
      subst this
      exact List.mem_append_right _ hcb
    · have hsl : s < Q.length := by omega
      rw [List.getElem?_append_left hsl] at e
      exact List.mem_append_left _ (h.closed s b (by omega) e c hcb)
  · by_cases hsl : s < Q.length
    · rw [List.getElem?_append_left hsl] at e
      obtain ⟨r, b, h1, h2, h3⟩ := h.origin s c hs e
      exact ⟨r, b, by omega, old h2, h3⟩
    · rw [List.getElem?_append_right (by omega)] at e
      exact ⟨t, a, by omega, old ht, (kid c (List.mem_of_getElem? e)).2⟩
theorem Bfs.len {t : Nat} {Q : List Nat} (h : Bfs ids ups n u t Q) : Q.length ≤ n := nodup_len h.nodup (fun x hx => (h.mem x hx).1)
theorem Bfs.all (hr : Rises ids n) (h0 : ∀ j, j < n → ids j ≠ ups 0) {Q : List Nat} (h : Bfs ids ups n u Q.length Q) (j : Nat) : j ∈ Q ↔ j < n ∧ ∃ m, parIt ids ups n m j = some u := by
  refine ⟨h.mem j, ?_⟩
  rintro ⟨hj, m, e⟩
  induction m generalizing j with
  | zero =>
    simp only [parIt, Option.some.injEq] at e
    subst e
    exact List.mem_of_getElem? h.head
  | succ m ih =>
    simp only [parIt] at e
    cases ep : par ids ups n j with
    | none => simp [ep] at e
    | some p =>
      simp only [ep, Option.bind_some] at e
      have hp := ih p (par_lt ep) e
      obtain ⟨s, hs, es⟩ := List.getElem_of_mem hp
      exact h.closed s p hs (by rw [List.getElem?_eq_getElem hs, es]) j ((mem_kids hr h0 (par_lt ep)).2 ⟨hj, ep⟩)
/-- both ways find the same -/
theorem bfs_pre (hr : Rises ids n) (h0 : ∀ j, j < n → ids j ≠ ups 0) (hu : u < n) (hc : NoCyc ids ups n u) {Q : List Nat} (h : Bfs ids ups n u Q.length Q) : putAll (Q.map ids) = sortL ((preI ids ups n n u).map ids) := by
  have inj : ∀ {l : List Nat}, l.Nodup → (∀ x ∈ l, x < n) → (l.map ids).Nodup := fun {l} hl hx => by
    rw [List.Nodup, List.pairwise_map]
    refine List.Pairwise.imp_of_mem ?_ hl
    intro a b ha hb hab e
    exact hab (hr.inj (hx a ha) (hx b hb) e)
  refine rise_ext (putAll_rise _) (sortL_rise (inj (nodup_pre hr h0 hu hc) (fun x hx => ((mem_pre hr h0 hu).1 hx).1))) fun x => ?_
  rw [putAll_mem, sortL_mem, List.mem_map, List.mem_map]
  constructor
  · rintro ⟨j, hj, rfl⟩
    obtain ⟨h1, m, h2⟩ := h.mem j hj
    exact ⟨j, (mem_pre hr h0 hu).2 ⟨h1, m, height hc h1 h2, h2⟩, rfl⟩
  · rintro ⟨j, hj, rfl⟩
    obtain ⟨h1, m, _, h2⟩ := (mem_pre hr h0 hu).1 hj
    exact ⟨j, (h.all hr h0 j).2 ⟨h1, m, h2⟩, rfl⟩
end
end Go.Proofs.Ytonpoakimpoojaa
