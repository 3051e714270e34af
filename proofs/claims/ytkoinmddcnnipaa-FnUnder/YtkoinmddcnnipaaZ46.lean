/- Done leaves a right kernel right. -/
import Derived.Test.YtkoinmddcnnipaaZ45
import Derived.Test.YtkoinmddcnnipaaND1
import Derived.Test.YtkoinmddcnnipaaZ10
namespace Go.Proofs.Ytkoinmddcnnipaa
open Go Go.RowKit Go.Deep Go.Maps

theorem lab_same {b : Int} {c d : CatL} (h : c.same d) (hl : labOk b c.n c.f c.g = true) : labOk b d.n d.f d.g = true := by
  obtain ⟨h1, h2, h3⟩ := h
  rw [h1, h2, h3]
  exact hl
theorem thr_rise {n : Nat} {T : Nat → ThrV} (h : thrsOk n T = true) : Rises (fun i => (T i).id) n := rises_of fun i i0 hi => by
  have := (thrsOk_out h).2.2 i hi
  unfold thrAt at this
  simp only [Bool.and_eq_true, Bool.or_eq_true, decide_eq_true_eq, beq_iff_eq] at this
  rcases this.2 with e | e
  · omega
  · exact e
theorem newCat_in {X : ThrV} (h : ThrF X) : 1001 ≤ newCat X ∧ newCat X ≤ 9999 := by
  have := h.id
  have := h.made
  unfold newCat
  omega
theorem set_id {lt : List ThrV} {t : Nat} (ht : t < lt.length) : lt.set t lt[t] = lt := set_same ht
theorem put_own {X : ThrV} (h : ThrF X) (hn : ¬ X.own.n = 10) {L : List Int} (e : L = putL ((List.range X.own.n).map X.own.h) (newCat X)) : ownOk L.length (nthI L) = true := by
  obtain ⟨h1, h2, h3⟩ := ownOk_list.1 h.own
  subst e
  refine ownOk_of ?_ (putL_rise h2) (fun x hx => ?_)
  · have := putL_len ((List.range X.own.n).map X.own.h) (newCat X)
    simp at this
    omega
  · rcases putL_mem hx with hx | hx
    · exact h3 x hx
    · have := newCat_in h; omega
theorem leftL_in {h : Nat → Int} {c : Int} {n : Nat} {x : Int} (hx : x ∈ leftL h c n) : x ∈ (List.range n).map h := (List.mem_filter.1 hx).1
theorem left_own {n : Nat} {h : Nat → Int} {c : Int} (ho : ownOk n h = true) : ownOk (leftL h c n).length (nthI (leftL h c n)) = true := by
  obtain ⟨h1, h2, h3⟩ := ownOk_list.1 ho
  refine ownOk_of ?_ (h2.filter _) (fun x hx => h3 x (leftL_in hx))
  have := leftL_len h c n
  omega
theorem putTo_in {L : List Int} {h : Nat → Int} : ∀ {q : Nat} {x : Int}, x ∈ putTo L h q → x ∈ L ∨ ∃ i, i < q ∧ x = h i
  | 0, x, hx => .inl hx
  | q + 1, x, hx => by
    rcases putL_mem hx with hx | hx
    · rcases putTo_in hx with hx | ⟨i, hi, e⟩
      · exact .inl hx
      · exact .inr ⟨i, by omega, e⟩
    · exact .inr ⟨q, by omega, hx⟩
theorem putTo_rise {L : List Int} {h : Nat → Int} (hL : L.Pairwise (· < ·)) : ∀ q, (putTo L h q).Pairwise (· < ·)
  | 0 => hL
  | q + 1 => putL_rise (putTo_rise hL q)
theorem plain_empty : plainB ⟨#[]⟩ 40 = true := by decide
theorem newObj_ok {X : ThrV} {s : StepV} (sf : StepF s) {d1 d2 : CatL} {ow : IntL} (hk : s.kind = 2 ∨ s.kind = 3 ∨ s.kind = 4 ∨ s.kind = 5) (e1 : s.c1.same d1) (e2 : if s.kind = 5 then s.c2.same d2 else d2 = zeroC) (e3 : if 0 < s.cat then ow.n = 1 ∧ ow.h 0 = s.cat else ow = zeroI) : ObjF (newObj X s d1 d2 ow) := by
  have hw : ownOk ow.n ow.h = true := by
    by_cases h : 0 < s.cat
    · rw [if_pos h] at e3
      have hc := sf.cat
      have e : (s.cat == 0) = false := by simp only [beq_eq_false_iff_ne, ne_eq]; omega
      unfold catB at hc
      rw [e] at hc
      simp only [Bool.false_eq_true, if_false, Bool.and_eq_true, inB_iff] at hc
      rw [e3.1]
      simp [ownOk, ownAt, e3.2, inB]
      omega
    · rw [if_neg h] at e3
      rw [e3]
      rfl
  have h2 : labOk (newObj X s d1 d2 ow).b2 d2.n d2.f d2.g = true := by
    unfold newObj
    by_cases h : s.kind = 5
    · rw [if_pos h] at e2
      simp only [if_pos h]
      exact lab_same e2 sf.l2
    · rw [if_neg h] at e2
      simp only [if_neg h]
      rw [e2]
      rfl
  refine ⟨lab_same e1 sf.l1, h2, hw, plain_empty, rfl, ?_⟩
  have ce := cat_of sf
  have noCat : s.kind ≠ 5 → ow = zeroI := fun h => by
    have := ce.1 (by omega)
    rw [if_neg (by omega)] at e3
    exact e3
  unfold newObj kindB
  rcases hk with h | h | h | h
  · have e4 := noCat (by omega)
    rw [if_neg (by omega)] at e2
    subst e2
    subst e4
    simp [h, zeroB, zeroC, zeroI]
  · have e4 := noCat (by omega)
    rw [if_neg (by omega)] at e2
    subst e2
    subst e4
    simp [h, zeroB, zeroC, zeroI]
  · have e4 := noCat (by omega)
    rw [if_neg (by omega)] at e2
    subst e2
    subst e4
    simp [h, zeroB, zeroC, zeroI]
  · simp [h]
theorem okL_make {lt : List ThrV} {lo : List ObjV} (ok : okL lt lo = true) {t : Nat} (ht : t < lt.length) {s : StepV} (so : s.ok = true) (hk : s.kind = 2 ∨ s.kind = 3 ∨ s.kind = 4 ∨ s.kind = 5) {c : Int} {tx : ByteArray} {lt' : List ThrV} {lo' : List ObjV} (p : MakeP lt[t] s lt lo t c tx lt' lo') : okL lt' lo' = true := by
  rcases p with ⟨_, _, _, rfl, rfl⟩ | ⟨_, _, _, _, rfl, rfl⟩ | ⟨_, mb, m30, _, rfl, d1, d2, ow, e1, e2, e3, rfl⟩
  · exact ok
  · exact ok
  · have X := okL_thr ok _ (List.getElem_mem ht)
    have m1 := X.made
    have i1 := X.id
    have ok1 := okL_setT ok ht (x := ⟨lt[t].id, lt[t].b1, lt[t].c1, lt[t].b2, lt[t].c2, lt[t].own, lt[t].made + 1⟩) ⟨X.id, X.l1, X.l2, X.own, by dsimp only; omega⟩ rfl (by dsimp only; omega)
    unfold madeB at mb
    cases hu : atL lo s.id with
    | none => rw [hu] at mb; cases mb
    | some u =>
      rw [hu] at mb
      simp only [Bool.and_eq_true, decide_eq_true_eq] at mb
      have kk := kerOk_iff.1 ok
      have k1 := kerOk_iff.1 ok1
      have nc : newCat lt[t] = 1000 * lt[t].id + lt[t].made + 1 := rfl
      refine okL_ins ok1 (newObj_ok (stepF so) hk e1 e2 e3) ?_ hu mb.1.1.1.1 (fun j hj => ?_) (by show 1 < newCat lt[t]; omega)
      · have et : atOwnT (lt.set t (⟨lt[t].id, lt[t].b1, lt[t].c1, lt[t].b2, lt[t].c2, lt[t].own, lt[t].made + 1⟩ : ThrV)) t = ⟨lt[t].id, lt[t].b1, lt[t].c1, lt[t].b2, lt[t].c2, lt[t].own, lt[t].made + 1⟩ := by
          have := set_at (l := lt) (t := t) (j := t) (x := (⟨lt[t].id, lt[t].b1, lt[t].c1, lt[t].b2, lt[t].c2, lt[t].own, lt[t].made + 1⟩ : ThrV)) (z := ThrV.z) ht
          rw [if_pos rfl] at this
          exact this
        refine numAt_of k1.thr (t := t) (by simpa [kOf] using ht) ?_ ?_ ?_
        · show (atOwnT _ t).id = newCat lt[t] / 1000
          rw [et]
          show lt[t].id = newCat lt[t] / 1000
          omega
        · show 1 ≤ newCat lt[t] % 1000
          omega
        · show newCat lt[t] % 1000 ≤ (atOwnT _ t).made
          rw [et]
          show newCat lt[t] % 1000 ≤ lt[t].made + 1
          omega
      · intro e
        have e' : (atOwnOb lo j).id = newCat lt[t] := e
        by_cases h0 : j = 0
        · subst h0
          have := (okL_root ok).2.1
          omega
        · obtain ⟨t', h1, h2, h3, h4⟩ := numAt_parts kk.thr (kk.num j (by omega) hj)
          have g1 : (atOwnT lt t').id = (atOwnOb lo j).id / 1000 := h2
          have g2 : (atOwnOb lo j).id % 1000 ≤ (atOwnT lt t').made := h4
          have g3 : (atOwnT lt t).id = lt[t].id := by rw [atOwnT_get ht]
          have e3 : t' = t := (thr_rise kk.thr).inj h1 ht (by show (atOwnT lt t').id = (atOwnT lt t).id; rw [g1, g3, e']; omega)
          subst e3
          rw [atOwnT_get ht, e'] at g2
          omega
theorem objKeep {o : ObjV} (f : ObjF o) {d : ByteArray} (h1 : o.kind = 1) (hd : plainB d 40 = true) : ObjF ⟨o.id, o.kind, o.up, o.b1, o.c1, d, o.items, o.own, o.b2, o.c2⟩ := by
  refine ⟨f.l1, f.l2, f.own, hd, f.items, ?_⟩
  have := f.kind
  unfold kindB at this ⊢
  simp only [h1, if_true] at this ⊢
  exact this
theorem objItems {o : ObjV} (f : ObjF o) {d : StrL} (h1 : o.kind = 2) (hd : itemsB d.n d.f = true) : ObjF ⟨o.id, o.kind, o.up, o.b1, o.c1, o.data, d, o.own, o.b2, o.c2⟩ := by
  refine ⟨f.l1, f.l2, f.own, f.data, hd, ?_⟩
  have := f.kind
  unfold kindB at this ⊢
  simp only [h1] at this ⊢
  exact this
theorem items_iff {n : Nat} {f : Nat → ByteArray} : itemsB n f = true ↔ n ≤ 8 ∧ ∀ i, i < n → plainB (f i) 40 = true := by
  unfold itemsB
  simp only [Bool.and_eq_true, decide_eq_true_eq, List.all_eq_true, List.mem_range]
theorem okL_act {lt : List ThrV} {lo : List ObjV} (ok : okL lt lo = true) {t : Nat} (ht : t < lt.length) {s : StepV} (so : s.ok = true) {c : Int} {tx : ByteArray} {lt' : List ThrV} {lo' : List ObjV} (p : ActP lt[t] s lt lo t c tx lt' lo') : okL lt' lo' = true := by
  have X := okL_thr ok _ (List.getElem_mem ht)
  have sf := stepF so
  cases p with
  | k1 h x e1 e2 p =>
    subst e1 e2
    rcases p with ⟨_, _, rfl, _⟩ | ⟨_, hn, _, a, cc, rfl⟩
    · rw [set_id ht]; exact ok
    · have := X.made
      exact okL_setT ok ht ⟨X.id, X.l1, X.l2, put_own X (fun e => hn (.inr e)) rfl, by dsimp only; omega⟩ rfl (by dsimp only; omega)
  | k12 h x e1 e2 e3 p =>
    subst e1 e2
    rcases p with ⟨_, _, rfl⟩ | ⟨_, _, d, sd, rfl⟩
    · rw [set_id ht]; exact ok
    · exact okL_setT ok ht ⟨X.id, lab_same sd sf.l1, X.l2, X.own, X.made⟩ rfl (Int.le_refl _)
  | k14 h x e1 e2 e3 p =>
    subst e1 e2
    rcases p with ⟨_, _, rfl⟩ | ⟨_, _, a, cc, rfl⟩
    · rw [set_id ht]; exact ok
    · exact okL_setT ok ht ⟨X.id, X.l1, X.l2, left_own X.own, X.made⟩ rfl (Int.le_refl _)
  | make h p => exact okL_make ok ht so h p
  | drop h e1 e3 p =>
    subst e1
    rcases p with ⟨_, _, rfl⟩ | ⟨_, _, u, hu, u0, rfl⟩
    · exact ok
    · exact okL_cut ok hu u0
  | k6 h p =>
    rcases p with ⟨_, _, _, rfl, rfl⟩ | ⟨u, hu, ⟨_, _, _, rfl, rfl⟩ | ⟨_, _, _, rfl, rfl⟩⟩
    · exact ok
    · exact ok
    · obtain ⟨_, ul, i1, k1, _⟩ := useAt_some hu
      rw [atOwnOb_get ul]
      exact okL_setO ok ul (objKeep (okL_obj ok _ (List.getElem_mem ul)) k1 sf.data) rfl rfl rfl
  | k7 h p =>
    rcases p with ⟨_, _, _, rfl, rfl⟩ | ⟨u, hu, _, _, rfl, rfl⟩
    · exact ok
    · exact ok
  | k8 h p =>
    rcases p with ⟨_, _, _, rfl, rfl⟩ | ⟨u, hu, ⟨_, _, _, rfl, rfl⟩ | ⟨v, hv, ⟨_, _, _, rfl, rfl⟩ | ⟨kv, _, _, _, rfl, rfl⟩⟩⟩
    · exact ok
    · exact ok
    · exact ok
    · obtain ⟨_, ul, _⟩ := useAt_some hu
      obtain ⟨vl, _⟩ := atL_some hv
      rw [atOwnOb_get vl] at kv
      rw [atOwnOb_get vl, atOwnOb_get ul]
      exact okL_setO ok vl (objKeep (okL_obj ok _ (List.getElem_mem vl)) kv (okL_obj ok _ (List.getElem_mem ul)).data) rfl rfl rfl
  | k9 h p =>
    rcases p with ⟨_, _, _, rfl, rfl⟩ | ⟨u, hu, ⟨_, _, _, rfl, rfl⟩ | ⟨_, _, _, _, rfl, rfl⟩ | ⟨_, n8, _, _, rfl, a, c', rfl⟩⟩
    · exact ok
    · exact ok
    · exact ok
    · obtain ⟨_, ul, i1, k1, _⟩ := useAt_some hu
      rw [atOwnOb_get ul] at n8 ⊢
      have f := okL_obj ok _ (List.getElem_mem ul)
      have it := items_iff.1 f.items
      refine okL_setO ok ul (objItems f k1 (items_iff.2 ⟨by dsimp only; omega, fun i hi => ?_⟩)) rfl rfl rfl
      dsimp only
      unfold moreF
      split
      · rename_i h1; exact it.2 i h1
      · exact sf.data
  | k10 h p =>
    rcases p with ⟨_, _, _, rfl, rfl⟩ | ⟨u, hu, ⟨_, _, _, rfl, rfl⟩ | ⟨_, _, _, _, rfl, rfl⟩ | ⟨_, n0, _, _, rfl, a, c', rfl⟩⟩
    · exact ok
    · exact ok
    · exact ok
    · obtain ⟨_, ul, i1, k1, _⟩ := useAt_some hu
      rw [atOwnOb_get ul] at n0 ⊢
      have f := okL_obj ok _ (List.getElem_mem ul)
      have it := items_iff.1 f.items
      refine okL_setO ok ul (objItems f k1 (items_iff.2 ⟨by dsimp only; omega, fun i hi => ?_⟩)) rfl rfl rfl
      dsimp only at hi ⊢
      exact it.2 (i + 1) (by omega)
  | k13 h p =>
    rcases p with ⟨_, _, _, rfl, rfl⟩ | ⟨u, hu, ⟨_, _, _, rfl, rfl⟩ | ⟨_, _, _, _, rfl, rfl⟩ | ⟨_, nb, _, _, a, c', rfl, rfl⟩⟩
    · exact ok
    · exact ok
    · exact ok
    · obtain ⟨_, ul, i1, k1, _⟩ := useAt_some hu
      rw [atOwnOb_get ul] at nb ⊢
      have f := okL_obj ok _ (List.getElem_mem ul)
      obtain ⟨_, x2, x3⟩ := ownOk_list.1 X.own
      obtain ⟨_, _, f3⟩ := ownOk_list.1 f.own
      refine okL_setT ok ht ⟨X.id, X.l1, X.l2, ownOk_of (by omega) (putTo_rise x2 _) (fun x hx => ?_), X.made⟩ rfl (Int.le_refl _)
      rcases putTo_in hx with hx | ⟨i, hi, rfl⟩
      · exact x3 x hx
      · exact f3 _ (List.mem_map.2 ⟨i, List.mem_range.2 hi, rfl⟩)
  | k15 h p =>
    rcases p with ⟨_, _, _, rfl, rfl⟩ | ⟨u, hu, _, _, rfl, rfl⟩
    · exact ok
    · exact ok
theorem okL_done {lt : List ThrV} {lo : List ObjV} (ok : okL lt lo = true) {s : StepV} {c : Int} {tx : ByteArray} {lt' : List ThrV} {lo' : List ObjV} (p : DoneP lt lo s c tx lt' lo') : okL lt' lo' = true := by
  cases p with
  | form h hc ht e1 e2 => subst e1 e2; exact ok
  | thread h hn hc ht e1 e2 => subst e1 e2; exact ok
  | act h t ht hn p => exact okL_act ok ht h p
end Go.Proofs.Ytkoinmddcnnipaa
namespace Go.Proofs.Ytkoinmddcnnipaa
open Go Go.RowKit Go.Deep Go.Maps Go.BigFrame Go.Shelf

def newT (i : Nat) : ThrV := ⟨i, 1, zeroC, 2, zeroC, zeroI, 0⟩
def newTs (j : Nat) : List ThrV := (List.range j).map (fun i => newT (i + 1))
def newO : ObjV := ⟨1, 3, 0, 1, zeroC, ⟨#[]⟩, ⟨none, 0, 0, fun _ => ⟨#[]⟩⟩, zeroI, 0, zeroC⟩
theorem newTs_len (j : Nat) : (newTs j).length = j := by simp [newTs]
theorem newTs_succ (j : Nat) : newTs (j + 1) = newTs j ++ [newT (j + 1)] := by simp [newTs, List.range_succ]
theorem newO_own (w : World) (B : Nat) (hb : B ≤ w.heap.size) : OwnOb (w.alloc (.cells #[.int .i64 1, .int .i64 3, .int .i64 0, .int .i64 1, .slice none 0 0, .string (ByteArray.mk #[]), .slice none 0 0, .slice none 0 0, .int .i64 0, .slice none 0 0] 38)) B (.slice (some ⟨w.heap.size, 0, none⟩) 1 1) [newO] := by
  refine ⟨rfl, .inr ⟨w.heap.size, 1, #[.int .i64 1, .int .i64 3, .int .i64 0, .int .i64 1, .slice none 0 0, .string (ByteArray.mk #[]), .slice none 0 0, .slice none 0 0, .int .i64 0, .slice none 0 0], rfl, hb, heap_alloc_new w _, Nat.le_refl _, by unfold maxLen; omega, rfl, ?_⟩⟩
  rfl
theorem newTs_at {m i : Nat} (hi : i < m) : atOwnT (newTs m) i = newT (i + 1) := by
  rw [atOwnT_get (by rw [newTs_len]; exact hi)]
  simp [newTs]
theorem newO_ok : ObjF newO := ⟨rfl, rfl, rfl, plain_empty, rfl, by simp [kindB, newO, zeroB, zeroC, zeroI]⟩
theorem okL_new {m : Nat} (h1 : 1 ≤ m) (h9 : m ≤ 9) : okL (newTs m) [newO] = true := by
  refine kerOk_iff.2 ⟨?_, Nat.le_refl _, rfl, fun i hi => ?_, fun i j hij hj => ?_, fun i i0 hi => ?_, fun i i0 hi => ?_, fun i hi => ?_⟩
  · show thrsOk (newTs m).length (atOwnT (newTs m)) = true
    rw [newTs_len]
    refine thrsOk_of h1 h9 (fun i hi => ?_) (fun i j hij hj => ?_)
    · rw [newTs_at hi]
      exact thrF_iff.2 ⟨by simp [newT]; omega, rfl, rfl, rfl, by simp [newT]⟩
    · show (atOwnT (newTs m) i).id < (atOwnT (newTs m) j).id
      rw [newTs_at (by omega), newTs_at hj]
      simp [newT]
      omega
  · have hi' : i < 1 := hi
    obtain rfl : i = 0 := by omega
    exact objF_iff.2 newO_ok
  · have hj' : j < 1 := hj
    omega
  · have hi' : i < 1 := hi
    omega
  · have hi' : i < 1 := hi
    omega
  · have hi' : i < 1 := hi
    obtain rfl : i = 0 := by omega
    exact Up2.root

theorem new_results (tmps : Array Value) (W : World) (P : Nat) (x y : Value) (h : Blk W P (.cells #[x, y] 27)) (h2 : tmps[2]? = some (.pointer (some ⟨P, 0, none⟩))) (h3 : tmps[3]? = some (.bool true)) :
    (results Try.f39 tmps).run Try.prog W = .ok (.tuple #[.agg #[x, y], .bool true]) W := by
  obtain ⟨z0, z1⟩ := h.two
  simp [results, Try.results39, go_sem, h2, h3, z0, z1]
set_option maxRecDepth 100000 in
set_option maxHeartbeats 8000000 in
theorem kernelNew_any (m : Nat) (w : World) (h1 : 1 ≤ m) (h9 : m ≤ 9) :
    Calls Try.prog 39 #[.int .i64 m] w fun e w' => ∃ (ta oa : Option Addr) (ca co : Nat), e = .returned (.tuple #[.agg #[.slice ta (newTs m).length ca, .slice oa 1 co], .bool true]) ∧ KSt w' w.heap.size (.slice ta (newTs m).length ca) (.slice oa [newO].length co) (newTs m) [newO] ∧ Below w.heap.size w w' := by
  have I1 : inB (m : Int) 1 9 = true := by simp [inB]; omega
  have C1 := hid (l1In_any (m : Int) 1 9 (w.alloc (.cells #[.slice none 0 0, .slice none 0 0] 27)))
  rw [I1] at C1
  have R0 : Hid (Blk (((w.alloc (.cells #[.slice none 0 0, .slice none 0 0] 27)).alloc (.cells #[.int .i64 1, .int .i64 3, .int .i64 0, .int .i64 1, .slice none 0 0, .string (ByteArray.mk #[]), .slice none 0 0, .slice none 0 0, .int .i64 0, .slice none 0 0] 38)).alloc (.cells #[.slice none 0 0, .slice (some ⟨w.heap.size + 1, 0, none⟩) 1 1] 27)) w.heap.size (.cells #[.slice none 0 0, .slice none 0 0] 27)) := hid (((Blk.new w _).alloc _).alloc _)
  have K0 : Hid (Blk (((w.alloc (.cells #[.slice none 0 0, .slice none 0 0] 27)).alloc (.cells #[.int .i64 1, .int .i64 3, .int .i64 0, .int .i64 1, .slice none 0 0, .string (ByteArray.mk #[]), .slice none 0 0, .slice none 0 0, .int .i64 0, .slice none 0 0] 38)).alloc (.cells #[.slice none 0 0, .slice (some ⟨w.heap.size + 1, 0, none⟩) 1 1] 27)) (w.heap.size + 1 + 1) (.cells #[.slice none 0 0, .slice (some ⟨w.heap.size + 1, 0, none⟩) 1 1] 27)) := hid (by have := Blk.new ((w.alloc (.cells #[.slice none 0 0, .slice none 0 0] 27)).alloc (.cells #[.int .i64 1, .int .i64 3, .int .i64 0, .int .i64 1, .slice none 0 0, .string (ByteArray.mk #[]), .slice none 0 0, .slice none 0 0, .int .i64 0, .slice none 0 0] 38)) (.cells #[.slice none 0 0, .slice (some ⟨w.heap.size + 1, 0, none⟩) 1 1] 27); simpa using this)
  have O0 : Hid (OwnOb (((w.alloc (.cells #[.slice none 0 0, .slice none 0 0] 27)).alloc (.cells #[.int .i64 1, .int .i64 3, .int .i64 0, .int .i64 1, .slice none 0 0, .string (ByteArray.mk #[]), .slice none 0 0, .slice none 0 0, .int .i64 0, .slice none 0 0] 38)).alloc (.cells #[.slice none 0 0, .slice (some ⟨w.heap.size + 1, 0, none⟩) 1 1] 27)) w.heap.size (.slice (some ⟨w.heap.size + 1, 0, none⟩) 1 1) [newO]) := hid (by
    have h := newO_own (w.alloc (.cells #[.slice none 0 0, .slice none 0 0] 27)) w.heap.size (by simp)
    have e : (w.alloc (.cells #[.slice none 0 0, .slice none 0 0] 27)).heap.size = w.heap.size + 1 := by simp
    rw [e] at h
    exact World.ownsRow.alloc h _)
  have B0 : Hid (Below w.heap.size w (((w.alloc (.cells #[.slice none 0 0, .slice none 0 0] 27)).alloc (.cells #[.int .i64 1, .int .i64 3, .int .i64 0, .int .i64 1, .slice none 0 0, .string (ByteArray.mk #[]), .slice none 0 0, .slice none 0 0, .int .i64 0, .slice none 0 0] 38)).alloc (.cells #[.slice none 0 0, .slice (some ⟨w.heap.size + 1, 0, none⟩) 1 1] 27))) := hid ((((Below.refl _ w).alloc (Nat.le_refl _) _).alloc (by simp) _).alloc (by simp; omega) _)
  have z0 : w.heap.size + 3 ≤ (((w.alloc (.cells #[.slice none 0 0, .slice none 0 0] 27)).alloc (.cells #[.int .i64 1, .int .i64 3, .int .i64 0, .int .i64 1, .slice none 0 0, .string (ByteArray.mk #[]), .slice none 0 0, .slice none 0 0, .int .i64 0, .slice none 0 0] 38)).alloc (.cells #[.slice none 0 0, .slice (some ⟨w.heap.size + 1, 0, none⟩) 1 1] 27)).heap.size := by simp
  go_enter Try.func39, Try.ntmps39
  go_wp2_with fail
  refine C1.out.mono ?_
  rintro e w1 ⟨rfl, rfl⟩
  go_wp2
  generalize (((w.alloc (.cells #[.slice none 0 0, .slice none 0 0] 27)).alloc (.cells #[.int .i64 1, .int .i64 3, .int .i64 0, .int .i64 1, .slice none 0 0, .string (ByteArray.mk #[]), .slice none 0 0, .slice none 0 0, .int .i64 0, .slice none 0 0] 38)).alloc (.cells #[.slice none 0 0, .slice (some ⟨w.heap.size + 1, 0, none⟩) 1 1] 27)) = V at *
  go_loopw [5] (fun i wr => ∃ (j : Nat) (ta : Option Addr) (ca : Nat), j ≤ m ∧ i = .int .i64 ((j : Int) + 1) ∧ Blk wr w.heap.size (.cells #[.slice none 0 0, .slice none 0 0] 27) ∧ Blk wr (w.heap.size + 1 + 1) (.cells #[.slice ta j ca, .slice (some ⟨w.heap.size + 1, 0, none⟩) 1 1] 27) ∧ OwnOb wr w.heap.size (.slice (some ⟨w.heap.size + 1, 0, none⟩) 1 1) [newO] ∧ OwnT wr (w.heap.size + 3) (.slice ta j ca) (newTs j) ∧ Below w.heap.size w wr ∧ w.heap.size + 3 ≤ wr.heap.size) (fun i _ => m + 1 - (intOf i).toNat)
  case atStart => exact ⟨0, none, 0, Nat.zero_le _, rfl, R0.out, K0.out, O0.out, OwnT.nil _ _, B0.out, z0⟩
  case round =>
    obtain ⟨j, ta, ca, hj, rfl, r, k, o, ot, be, zz⟩ := hrel
    clear R0 K0 O0 B0 z0 C1
    have RR := hid r
    have KK := hid k
    have OO := hid o
    have TT := hid ot
    have BB := hid be
    clear r k o ot be
    obtain ⟨k0, k1⟩ := KK.out.two
    have kf := KK.out.warm
    have wj : IntKind.i64.wrap ((j : Int) + 1 + 1) = (j : Int) + 1 + 1 := by rw [IntKind.wrap_i64]; omega
    by_cases hlt : j < m
    · have i1 : (j : Int) + 1 ≤ (m : Int) := by omega
      have HLT := hid hlt
      have QL : Hid (LiesC (wr.alloc (.cells #[.int .i64 ((j : Int) + 1), .int .i64 1, .slice none 0 0, .int .i64 2, .slice none 0 0, .slice none 0 0, .int .i64 0] 62)) (some ⟨wr.heap.size, 0, none⟩) 1 (cells7 [newT (j + 1)])) := hid (OwnT.one wr (newT (j + 1)))
      have QO := hid (World.ownsRow.alloc TT.out (.cells #[.int .i64 ((j : Int) + 1), .int .i64 1, .slice none 0 0, .int .i64 2, .slice none 0 0, .slice none 0 0, .int .i64 0] 62))
      have lj := newTs_len j
      have KA := hid (KK.out.alloc (.cells #[.int .i64 ((j : Int) + 1), .int .i64 1, .slice none 0 0, .int .i64 2, .slice none 0 0, .slice none 0 0, .int .i64 0] 62))
      have RA := hid (RR.out.alloc (.cells #[.int .i64 ((j : Int) + 1), .int .i64 1, .slice none 0 0, .int .i64 2, .slice none 0 0, .slice none 0 0, .int .i64 0] 62))
      have OA := hid (World.ownsRow.alloc OO.out (.cells #[.int .i64 ((j : Int) + 1), .int .i64 1, .slice none 0 0, .int .i64 2, .slice none 0 0, .slice none 0 0, .int .i64 0] 62))
      have BA := hid (BB.out.alloc BB.out.size (.cells #[.int .i64 ((j : Int) + 1), .int .i64 1, .slice none 0 0, .int .i64 2, .slice none 0 0, .slice none 0 0, .int .i64 0] 62))
      have za : w.heap.size + 3 ≤ (wr.alloc (.cells #[.int .i64 ((j : Int) + 1), .int .i64 1, .slice none 0 0, .int .i64 2, .slice none 0 0, .slice none 0 0, .int .i64 0] 62)).heap.size := by simp; omega
      clear lj
      go_wp2_with (at_builtin; refine wpList_appendOwnT _ rfl _ _ rfl (w.heap.size + 3) (.slice ta j ca) (newTs j) rfl QO.out _ _ (newT (j + 1)) rfl QL.out (by rw [newTs_len]; omega) za ?_; intro a7 c7 w7 o7 g7; rw [newTs_len] at o7 ⊢; rw [← newTs_succ] at o7; have O7 := hid o7; have G7 := hid g7; clear o7 g7; have nb : ∀ p, p < w.heap.size + 3 → some p ≠ Value.ownBlock (.slice ta j ca) := (fun p hp e => by have := (World.ownsRow.lt QO.out p e.symm).1; omega); have K7 := hid (KA.out.grown G7.out (nb _ (by omega))); have R7 := hid (RA.out.grown G7.out (nb _ (by omega))); have OW7 := hid (World.ownsRow.kept OA.out G7.out (Or.inr (nb (w.heap.size + 1) (by omega)))); have B7 := hid (BA.out.trans (below_grown G7.out (by have := BB.out.size; omega) (fun p e => by have := (World.ownsRow.lt QO.out p e).1; omega))); have z7 : w.heap.size + 3 ≤ w7.heap.size := Nat.le_trans za G7.out.size; have k7f := K7.out.warm; obtain ⟨k70, k71⟩ := K7.out.two; clear nb)
      go_roundw
      case rel =>
        refine ⟨j + 1, a7, c7, by have := HLT.out; omega, by go_num, R7.out.other (by omega) _, K7.out.setAt (i := 0) _, OwnOb.set OW7.out K7.out (by decide) _, OwnT.set O7.out K7.out (by decide) _, B7.out.setCell (by dsimp only; omega) _, by rw [nblk_setCell]; exact z7⟩
      case measure => have := HLT.out; simp [intOf]; omega
    · obtain rfl : j = m := by omega
      have i1 : ¬ (j : Int) + 1 ≤ (j : Int) := by omega
      obtain ⟨r0, r1⟩ := RR.out.two
      have rf := RR.out.warm
      have lj := newTs_len j
      have RZ := hid ((RR.out.setAt (i := 0) (.slice ta j ca)).setAt (i := 1) (.slice (some ⟨w.heap.size + 1, 0, none⟩) 1 1))
      go_wp2
      refine bodyPost_ret (new_results _ _ w.heap.size _ _ RZ.out rfl rfl) rfl ⟨ta, some ⟨w.heap.size + 1, 0, none⟩, ca, 1, rfl, ?_, ?_⟩
      · have k1 : KSt wr w.heap.size (.slice ta j ca) (.slice (some ⟨w.heap.size + 1, 0, none⟩) 1 1) (newTs j) [newO] := ⟨OwnT.base TT.out (by omega), OO.out, fun x hx => by
          obtain ⟨i, _, rfl⟩ := List.mem_map.1 hx
          exact ⟨zeroC_new, zeroC_new, zeroI_new⟩, fun x hx => by
          obtain rfl := List.mem_singleton.1 hx
          exact ⟨zeroC_new, zeroS_new, zeroI_new, zeroC_new⟩, fun x hx => by
          obtain ⟨i, _, rfl⟩ := List.mem_map.1 hx
          exact ⟨Nat.le_refl _, Nat.zero_le _⟩, fun x hx => by
          obtain rfl := List.mem_singleton.1 hx
          exact ⟨Nat.le_refl _, Nat.zero_le _⟩⟩
        exact (k1.set RR.out (.inl rfl) _).set (RR.out.setAt (i := 0) _) (.inl rfl) _
      · exact (BB.out.setCell (Nat.le_refl _) _).setCell (Nat.le_refl _) _
end Go.Proofs.Ytkoinmddcnnipaa
namespace Go.Proofs.Ytkoinmddcnnipaa
open Go.RowKit Go.Deep Go.Maps
def InI (x : Int) : Prop := -9223372036854775808 ≤ x ∧ x < 9223372036854775808
theorem InI.w64 (x : Int) : InI (wrap64 x) := by unfold wrap64 InI; omega
theorem InI.of {x : Int} (h1 : -9223372036854775808 ≤ x) (h2 : x < 9223372036854775808) : InI x := ⟨h1, h2⟩

set_option maxRecDepth 100000 in
set_option maxHeartbeats 2000000 in
theorem near_big (w0 : World) (rb : Nat) (a : Option Addr) (n cap : Nat) (lo hi : Nat) (w : World) (hl : lo ≤ hi) (hh : hi ≤ 1099511627776) (h : Rd w0 w rb a n cap) :
    Calls Try.prog 58 #[.pointer (some ⟨rb, 0, none⟩), .int .i64 lo, .int .i64 hi] w fun e w' => ∃ x : Int, e = .returned (.int .i64 x) ∧ InI x ∧ Rd w0 w' rb a n cap ∧ w.grownBy w' (some rb) := by
  have HR : Hid (Rd w0 w rb a n cap) := h
  clear h
  have w1 : IntKind.i64.wrap ((hi : Int) - lo) = (hi : Int) - lo := by rw [IntKind.wrap_i64]; omega
  have w2 : IntKind.i64.wrap ((hi : Int) - lo + 1) = (hi : Int) - lo + 1 := by rw [IntKind.wrap_i64]; omega
  have nl : ¬ (hi : Int) < (lo : Int) := by omega
  go_enter Try.func58, Try.ntmps58
  go_wp2_with fail
  refine (rdBelow_any w0 rb a n cap 8 _ (by omega) HR.out).mono ?_
  rintro e u1 ⟨x, rfl, _, x8, R1, g1⟩
  have HR1 : Hid (Rd w0 u1 rb a n cap) := R1
  clear R1
  by_cases t0 : x = 0
  · subst t0
    go_wp2
    go_ret
    exact ⟨_, rfl, .of (by omega) (by omega), HR1.out, g1⟩
  · by_cases t1 : x = 1
    · subst t1
      go_wp2
      go_ret
      exact ⟨_, rfl, .of (by omega) (by omega), HR1.out, g1⟩
    · have t0' : ((x : Int) == 0) = false := by simpa using t0
      have t1' : ((x : Int) == 1) = false := by simp; omega
      go_wp2_with fail
      refine (word_any w0 rb a n cap _ HR1.out).mono ?_
      rintro e u2 ⟨y, rfl, R2, g2⟩
      have HR2 : Hid (Rd w0 u2 rb a n cap) := R2
      clear R2
      have m1 : IntKind.u64.wrap ((hi : Int) - lo + 1) = (hi : Int) - lo + 1 := by rw [IntKind.wrap_u64]; omega
      have m0 : ¬ ((hi : Int) - lo + 1) = 0 := by omega
      go_wp2
      go_ret
      exact ⟨_, rfl, .w64 _, HR2.out, grown_pair g1 g2⟩

set_option maxRecDepth 100000 in
set_option maxHeartbeats 2000000 in
theorem off_big (w0 : World) (rb : Nat) (a : Option Addr) (n cap : Nat) (lo hi : Nat) (w : World) (hl : lo ≤ hi) (hh : hi ≤ 1099511627776) (h : Rd w0 w rb a n cap) :
    Calls Try.prog 43 #[.pointer (some ⟨rb, 0, none⟩), .int .i64 lo, .int .i64 hi] w fun e w' => ∃ x : Int, e = .returned (.int .i64 x) ∧ InI x ∧ Rd w0 w' rb a n cap ∧ w.grownBy w' (some rb) := by
  have HR : Hid (Rd w0 w rb a n cap) := h
  clear h
  have w1 : IntKind.i64.wrap ((lo : Int) - 1) = (lo : Int) - 1 := by rw [IntKind.wrap_i64]; omega
  have w2 : IntKind.i64.wrap ((hi : Int) + 1) = (hi : Int) + 1 := by rw [IntKind.wrap_i64]; omega
  go_enter Try.func43, Try.ntmps43
  go_wp2_with fail
  refine (once_any w0 rb a n cap 24 _ (by omega) HR.out).mono ?_
  rintro e u1 ⟨t, rfl, R1, g1⟩
  have HR1 : Hid (Rd w0 u1 rb a n cap) := R1
  clear R1
  cases t with
  | true =>
    go_wp2_with fail
    have lr := HR1.out.lt
    refine (rdBelow_any w0 rb a n cap 4 _ (by omega) (HR1.out.below ((Below.refl _ _).alloc (Nat.le_refl _) _))).mono ?_
    rintro e u2 ⟨x, rfl, _, x4, R2, g2⟩
    have x4' := x4 (by omega)
    have HR2 : Hid (Rd w0 u2 rb a n cap) := R2
    have gN : w.grownBy u2 (some rb) := grown_pair (grown_trans g1 (World.grownBy_alloc u1 _ none) (fun j e => by cases e)) g2
    have Bk : Blk u2 u1.heap.size (.cells #[.int .i64 ((lo : Int) - 1), .int .i64 ((hi : Int) + 1), .int .i64 (-9223372036854775808), .int .i64 9223372036854775807] 2) := (Blk.new u1 _).grown g2 (by simp; omega)
    unfold Blk at Bk
    have c0 : u2.cell? ⟨u1.heap.size, 0, none⟩ = some (.int .i64 ((lo : Int) - 1)) := by simp [World.cell?, Bk]
    have c1 : u2.cell? ⟨u1.heap.size, 1, none⟩ = some (.int .i64 ((hi : Int) + 1)) := by simp [World.cell?, Bk]
    have c2 : u2.cell? ⟨u1.heap.size, 2, none⟩ = some (.int .i64 (-9223372036854775808)) := by simp [World.cell?, Bk]
    have c3 : u2.cell? ⟨u1.heap.size, 3, none⟩ = some (.int .i64 9223372036854775807) := by simp [World.cell?, Bk]
    clear R2 x4 Bk g2
    have hx : x = 0 ∨ x = 1 ∨ x = 2 ∨ x = 3 := by omega
    rcases hx with rfl | rfl | rfl | rfl
    all_goals
      clear x4'
      go_wp2
      go_ret
      exact ⟨_, rfl, .of (by omega) (by omega), HR2.out, gN⟩
  | false =>
    go_wp2_with fail
    refine (near_big w0 rb a n cap lo hi _ hl hh HR1.out).mono ?_
    rintro e u2 ⟨x, rfl, ix, R2, g2⟩
    have HR2 : Hid (Rd w0 u2 rb a n cap) := R2
    clear R2
    go_wp2
    go_ret
    exact ⟨_, rfl, ix, HR2.out, grown_pair g1 g2⟩
end Go.Proofs.Ytkoinmddcnnipaa
