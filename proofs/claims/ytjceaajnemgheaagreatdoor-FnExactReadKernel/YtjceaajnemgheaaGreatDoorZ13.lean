/- What lies below an object: below answers the sorted numbers. -/
import Derived.Test.YtjceaajnemgheaaGreatDoorZ12
import Derived.Sort.OwnSortedInts
import Derived.Test.YtjceaajnemgheaaGreatDoorZ9
namespace Go.Proofs.YtjceaajnemgheaaGreatDoor
open Go Go.RowKit Go.Deep Go.Maps Go.Sort Go.Shelf

def sortL (l : List Int) : List Int := l.mergeSort (fun x y => decide (x ≤ y))
theorem sortL_len (l : List Int) : (sortL l).length = l.length := by simp [sortL]

theorem sort_own (B : Nat) (v : Value) (l : List Int) (w : World) (h : OwnI w B v l) (hl : l.length ≤ 100000) :
    Calls Tryz.prog 85 #[v] w fun e w' => e = .returned (.tuple #[]) ∧ OwnI w' B v (sortL l) ∧ w.grownBy w' v.ownBlock := by
  rcases h.2 with ⟨rfl, hn⟩ | ⟨g, cap, cur, rfl, hB, hb, h1, h2, h3, h4⟩
  · have e0 : l = [] := List.eq_nil_of_length_eq_zero hn
    subst e0
    refine (AnyM.slices_Sort_int_none Tryz.sortA none 0 w).mono ?_
    rintro e w' ⟨rfl, rfl⟩
    have e0 : sortL [] = [] := by simp [sortL]
    rw [e0]
    exact ⟨rfl, h, ⟨rfl, rfl, rfl, Nat.le_refl _, fun _ _ _ => rfl⟩⟩
  · have hlt : g < w.heap.size := (Array.getElem?_eq_some_iff.1 hb).1
    refine (AnyM.slices_Sort_int Tryz.sortA g 0 cap l w (holds_of_blockI hb (by simpa using h4)) hlt (by omega)).mono ?_
    rintro e w' ⟨rfl, n, os, rfl⟩
    refine ⟨rfl, ?_, grownBy_sortedI _⟩
    have := ownsRow_sortedI (n := n) (os := os) (ts := sortL l) (sortL_len l) hB hb h1 h2 h3
    unfold OwnI
    rw [sortL_len]
    exact this

theorem Walk.sorted {w0 w w' : World} {c : Nat} {v : Value} {l l' : List Int} (h : Walk w0 c w v l) (ho : OwnI w' (w0.heap.size + 1 + 1 + 1) v l') (hg : w.grownBy w' v.ownBlock) : Walk w0 c w' v l' := by
  have hne : ∀ k, k < w0.heap.size + 1 + 1 + 1 → some k ≠ v.ownBlock := fun k hk e => by have := (World.ownsRow.lt h.o k e.symm).1; omega
  exact ⟨h.b.trans (below_grown hg h.b.size (fun j hj => by have := (World.ownsRow.lt h.o j hj).1; omega)), h.q.grown hg (hne _ (by omega)), h.p.grown hg (hne _ (by omega)), h.r.grown hg (hne _ (by omega)), ho⟩
theorem OwnI.low {w : World} {B B' : Nat} {v : Value} {l : List Int} (h : OwnI w B v l) (hB : B' ≤ B) : OwnI w B' v l := by
  refine ⟨h.1, ?_⟩
  rcases h.2 with hn | ⟨g, cap, cur, hv, hb, rest⟩
  · exact .inl hn
  · exact .inr ⟨g, cap, cur, hv, by omega, rest⟩

set_option maxRecDepth 100000 in
set_option maxHeartbeats 4000000 in
theorem below_none (c n : Nat) (m : Int → Option Nat) (x : Int) (w : World) (hM : MapP w c n m) (hx : (Lit.int .i64 x).wf = true) (hm : m x = none) :
    Calls Tryz.prog 73 #[.map (some c), .int .i64 x] w fun e w' => e = .returned (.slice none 0 0) ∧ Below w.heap.size w w' := by
  have b1 : Below w.heap.size w (w.alloc (.cells #[.map (some c)] 99)) := (Below.refl _ w).alloc (Nat.le_refl _) _
  have LK := (hM.below b1).look hx
  rw [hm] at LK
  simp only [Option.map_none] at LK
  clear hM
  go_enter Tryz.func73, Tryz.ntmps73
  go_wp2
  go_ret
  exact ⟨rfl, b1⟩

set_option maxRecDepth 100000 in
set_option maxHeartbeats 4000000 in
theorem below_any (w : World) (B c n : Nat) (ids ups : Nat → Int) (ob off : Nat) (nb : Nat → Nat) (kv : Nat → Value) (hN : Nodes w B c n ids ob off nb kv (kidsTo ids ups n)) (hr : Rises ids n) (h0 : ∀ j, j < n → ids j ≠ ups 0)
    (hw : ∀ i, i < n → (Lit.int .i64 (ids i)).wf = true) (hn : n ≤ 271) (i : Nat) (hi : i < n) (hc : NoCyc ids ups n i) :
    Calls Tryz.prog 73 #[.map (some c), .int .i64 (ids i)] w fun e w' => ∃ v, e = .returned v ∧ OwnI w' w.heap.size v (sortL ((preI ids ups n n i).map ids)) ∧ Below w.heap.size w w' := by
  have hst := fun (W : World) (a : Addr) (x y : Array Value) (m : Mode) => run_store Tryz.prog W a (.func (.func 84) x y) m rfl
  have b1 : Below w.heap.size w (w.alloc (.cells #[.map (some c)] 99)) := (Below.refl _ w).alloc (Nat.le_refl _) _
  have LK := (hN.map.below b1).look (hw i hi)
  rw [findI_eq hr hi] at LK
  simp only [Option.map_some] at LK
  have hlen : (preI ids ups n n i).length ≤ n := nodup_len (nodup_pre hr h0 hi hc) (fun x hx => ((mem_pre hr h0 hi).1 hx).1)
  have W0 : Walk w c (((w.alloc (.cells #[.map (some c)] 99)).alloc (.cells #[.slice none 0 0] 35)).alloc (.cells #[walkFn w.heap.size] 111)) (.slice none 0 0) [] := by
    refine ⟨?_, ?_, ?_, ?_, OwnI.nil _ _⟩
    · exact (b1.alloc b1.size _).alloc (b1.alloc b1.size _).size _
    · exact ((Blk.new w _).alloc _).alloc _
    · have := (Blk.new (w.alloc (.cells #[.map (some c)] 99)) (.cells #[.slice none 0 0] 35)).alloc (.cells #[walkFn w.heap.size] 111)
      simpa using this
    · have := Blk.new ((w.alloc (.cells #[.map (some c)] 99)).alloc (.cells #[.slice none 0 0] 35)) (.cells #[walkFn w.heap.size] 111)
      simpa using this
  have C1 := hid (walk_any w B c n ids ups ob off nb kv hN hr h0 hw hn n i [] (.slice none 0 0) _ hi (fun j m hj e => height hc hj e) (by simp; omega) W0)
  unfold walkFn at C1
  simp only [List.nil_append] at C1
  clear W0 hN h0 hw hr
  go_enter Tryz.func73, Tryz.ntmps73
  go_wp2_with fail
  refine C1.out.mono ?_
  rintro e w2 ⟨v2, rfl, h2⟩
  have H2 := hid h2
  have x1 : _ = some v2 := h2.p.c0 0 rfl
  have C2 := hid (sort_own _ v2 _ w2 h2.o (by rw [List.length_map]; omega))
  clear h2 C1 LK
  go_wp2_with fail
  refine C2.out.mono ?_
  rintro e w3 ⟨rfl, o3, g3⟩
  have H3 := hid (H2.out.sorted o3 g3)
  have x3 : _ = some v2 := H3.out.p.c0 0 rfl
  clear o3 g3 x1 C2 H2
  go_wp2
  go_ret
  exact ⟨v2, rfl, H3.out.o.low (by omega), H3.out.b⟩
end Go.Proofs.YtjceaajnemgheaaGreatDoor
namespace Go.Proofs.YtjceaajnemgheaaGreatDoor

def idsOf (O : Nat → ObjV) (i : Nat) : Int := (O i).id
def upsOf (O : Nat → ObjV) (i : Nat) : Int := (O i).up
def boxAt (n : Nat) (O : Nat → ObjV) (x : Int) : Bool := match findI (fun i => (O i).id) n x with
  | some u => (O u).kind == 3
  | none => false
def upsOk (n : Nat) (O : Nat → ObjV) : Bool := (List.range (n - 1)).all (fun i => boxAt n O (O (i + 1)).up)
def kerOk (k : KerV) : Bool := thrsOk k.tn k.T && objsOk k.on k.O && numsOk k.tn k.T k.on k.O && upsOk k.on k.O && reachB (fun i => (k.O i).id) (fun i => (k.O i).up) k.on
def spAt (k : KerV) (i : Nat) : Bool := objOk (k.O i) && (if i = 0 then rootB (k.O 0) else decide ((k.O (i - 1)).id < (k.O i).id) && numAt k.tn k.T (k.O i).id && boxAt k.on k.O (k.O i).up)

theorem spAt_all {k : KerV} (h1 : 1 ≤ k.on) (h2 : k.on ≤ 271) : (objsOk k.on k.O && numsOk k.tn k.T k.on k.O && upsOk k.on k.O) = (List.range k.on).all (spAt k) := by
  rw [Bool.eq_iff_iff]
  simp only [Bool.and_eq_true]
  constructor
  · rintro ⟨⟨ho, hn⟩, hu⟩
    obtain ⟨_, _, ha, hr⟩ := objsOk_out ho
    refine all_yes fun i hi => ?_
    have hai := ha i hi
    simp only [objAt, Bool.and_eq_true] at hai
    simp only [spAt, hai.1, Bool.true_and]
    by_cases e : i = 0
    · rw [if_pos e]; exact hr
    · rw [if_neg e] at hai ⊢
      have e1 : i - 1 + 1 = i := by omega
      have h3 := all_out hn (i - 1) (by omega)
      have h4 := all_out hu (i - 1) (by omega)
      simp only [e1] at h3 h4
      simp only [hai.2, h3, h4, Bool.and_true]
  · intro h
    have ha := all_out h
    have h0 := ha 0 (by omega)
    simp only [spAt, if_true, Bool.and_eq_true] at h0
    refine ⟨⟨?_, ?_⟩, ?_⟩
    · have : (List.range k.on).all (objAt k.O) = true := all_yes fun i hi => by
        have hi' := ha i hi
        simp only [spAt, Bool.and_eq_true] at hi'
        simp only [objAt, hi'.1, Bool.true_and]
        by_cases e : i = 0
        · rw [if_pos e]
          have := h0.2
          simp only [rootB, Bool.and_eq_true, beq_iff_eq] at this
          simp [this.1.1]
        · rw [if_neg e] at hi' ⊢
          simp only [Bool.and_eq_true] at hi'
          exact hi'.2.1.1
      simp only [objsOk, this, h0.2, Bool.and_true, Bool.and_eq_true, decide_eq_true_eq]
      exact ⟨h1, h2⟩
    · refine all_yes fun i hi => ?_
      have hi' := ha (i + 1) (by omega)
      simp only [spAt, Bool.and_eq_true] at hi'
      rw [if_neg (by omega)] at hi'
      simp only [Bool.and_eq_true] at hi'
      exact hi'.2.1.2
    · refine all_yes fun i hi => ?_
      have hi' := ha (i + 1) (by omega)
      simp only [spAt, Bool.and_eq_true] at hi'
      rw [if_neg (by omega)] at hi'
      simp only [Bool.and_eq_true] at hi'
      exact hi'.2.2

theorem kerOk_sp {k : KerV} (ht : thrsOk k.tn k.T = true) (h1 : 1 ≤ k.on) (h2 : k.on ≤ 271) : kerOk k = ((List.range k.on).all (spAt k) && reachB (fun i => (k.O i).id) (fun i => (k.O i).up) k.on) := by
  rw [kerOk, ht, ← spAt_all h1 h2]
  simp [Bool.and_assoc]
theorem kerOk_thr {k : KerV} (ht : thrsOk k.tn k.T = false) : kerOk k = false := by simp [kerOk, ht]
theorem kerOk_few {k : KerV} (h : ¬ (1 ≤ k.on ∧ k.on ≤ 271)) : kerOk k = false := by
  have : objsOk k.on k.O = false := by
    cases e : objsOk k.on k.O with
    | false => rfl
    | true => obtain ⟨a, b, _⟩ := objsOk_out e; exact absurd ⟨a, b⟩ h
  simp [kerOk, this]

theorem thr_rises {n : Nat} {T : Nat → ThrV} (h : thrsOk n T = true) : Rises (fun i => (T i).id) n := by
  obtain ⟨_, _, ha⟩ := thrsOk_out h
  intro i j hij
  induction j with
  | zero => omega
  | succ j ih =>
    intro hj
    have h1 := ha (j + 1) hj
    simp [thrAt] at h1
    by_cases e : i = j
    · subst e; exact h1.2
    · have := ih (by omega) (by omega)
      simp only at this ⊢
      omega
theorem look_find {ids g : Nat → Int} {n : Nat} (h : Rises ids n) (x : Int) : look ids g n x = (findI ids n x).map g := by
  induction n with
  | zero => rfl
  | succ n ih =>
    have ih' := ih (fun i j hij hj => h i j hij (by omega))
    rw [look]
    split
    · rename_i e; rw [← e, findI_eq h (Nat.lt_succ_self n)]; rfl
    · rename_i e
      rw [ih']
      congr 1
      cases e1 : findI ids n x with
      | none =>
        symm
        refine findI_no fun j hj => ?_
        by_cases ej : j = n
        · subst ej; exact e
        · exact findI_none e1 j (by omega)
      | some j =>
        obtain ⟨j1, j2⟩ := findI_some e1
        symm
        rw [← j2]
        exact findI_eq h (by omega)
theorem numAt_some {n : Nat} {T : Nat → ThrV} (h : thrsOk n T = true) {id : Int} {t : Nat} (e : findI (fun i => (T i).id) n (id / 1000) = some t) : numAt n T id = inB (id % 1000) 1 (T t).made := by
  have : madeOf n T (id / 1000) = (T t).made := by
    unfold madeOf
    rw [look_find (thr_rises h), e]
    rfl
  simp [numAt, this, inB]
theorem numAt_none {n : Nat} {T : Nat → ThrV} (h : thrsOk n T = true) {id : Int} (e : findI (fun i => (T i).id) n (id / 1000) = none) : numAt n T id = false := by
  have : madeOf n T (id / 1000) = 0 := by
    unfold madeOf
    rw [look_find (thr_rises h), e]
    rfl
  simp [numAt, this]
  intro _
  omega
theorem sp_pos {k : KerV} {i : Nat} (h : ∀ j, j < i → spAt k j = true) (h0 : 0 < i) (hl : (k.O (i - 1)).id < (k.O i).id) : 1 ≤ (k.O i).id := by
  have : ∀ j, j < i → 1 ≤ (k.O j).id := by
    intro j
    induction j with
    | zero =>
      intro hj
      have := h 0 hj
      simp only [spAt, if_true, Bool.and_eq_true, rootB, beq_iff_eq] at this
      omega
    | succ j ih =>
      intro hj
      have h1 := ih (by omega)
      have := h (j + 1) hj
      simp only [spAt, Bool.and_eq_true] at this
      rw [if_neg (by omega)] at this
      simp only [Bool.and_eq_true, decide_eq_true_eq, Nat.add_sub_cancel] at this
      omega
  have := this (i - 1) (by omega)
  omega
end Go.Proofs.YtjceaajnemgheaaGreatDoor
namespace Go.Proofs.YtjceaajnemgheaaGreatDoor
open Go Go.RowKit Go.Deep Go.Maps

theorem reach_len' {n : Nat} {O : Nat → ObjV} (h : objsOk n O = true) : ((((sortL ((preI (fun i => (O i).id) (fun i => (O i).up) n n 0).map (fun i => (O i).id))).length : Nat) : Int) == (n : Int)) = reachB (fun i => (O i).id) (fun i => (O i).up) n := by
  rw [sortL_len, List.length_map]
  obtain ⟨h1, _⟩ := objsOk_out h
  have hp := pre_full (objsOk_rises h) (ups := fun i => (O i).up) (fun j hj => by have := objsOk_pos h j hj; have := (objsOk_root h).2.2; omega) (by omega)
  rw [Bool.eq_iff_iff, ← hp]
  simp only [beq_iff_eq]
  omega

theorem reach_len {n : Nat} {O : Nat → ObjV} (h : objsOk n O = true) : ∃ L : Nat, (sortL ((preI (fun i => (O i).id) (fun i => (O i).up) n n 0).map (fun i => (O i).id))).length = L ∧ L ≤ 271 ∧ ((L : Int) == (n : Int)) = reachB (fun i => (O i).id) (fun i => (O i).up) n := by
  refine ⟨_, rfl, ?_, reach_len' h⟩
  rw [sortL_len, List.length_map]
  obtain ⟨h1, h2, _⟩ := objsOk_out h
  have := nodup_len (nodup_pre (objsOk_rises h) (ups := fun i => (O i).up) (fun j hj => by have := objsOk_pos h j hj; have := (objsOk_root h).2.2; omega) (f := n) (i := 0) (by omega) noCyc_zero) (fun x hx => ((mem_pre (objsOk_rises h) (ups := fun i => (O i).up) (fun j hj => by have := objsOk_pos h j hj; have := (objsOk_root h).2.2; omega) (by omega)).1 hx).1)
  omega

set_option maxRecDepth 100000 in
set_option maxHeartbeats 4000000 in
theorem boxesOk_any (a : Option Addr) (n cap : Nat) (O : Nat → ObjV) (w : World) (hcap : n ≤ cap) (hO : ObjsAt w a n O) (h2 : objsOk n O = true) (hw : ∀ i, i < n → (Lit.int .i64 (O i).id).wf = true ∧ (Lit.int .i64 (O i).up).wf = true) :
    Calls Tryz.prog 59 #[.slice a n cap] w fun e w' => e = .returned (.bool (upsOk n O && reachB (fun i => (O i).id) (fun i => (O i).up) n)) ∧ Below w.heap.size w w' := by
  obtain ⟨on1, on2, _, _⟩ := objsOk_out h2
  have HO := hid hO
  obtain ⟨ob, off, rfl, _, _⟩ := hO (by omega)
  have HW := hid hw
  have H2 := hid h2
  obtain ⟨L, eL, hL, rL⟩ := reach_len h2
  have EL := hid eL
  have RL := hid rL
  clear eL rL
  clear hO h2 hw
  have C1 := hid (nodesOf_any ob off n cap O w on2 HO.out (objsOk_rises H2.out) HW.out)
  go_enter Tryz.func59, Tryz.ntmps59
  go_wp2_with fail
  refine C1.out.mono ?_
  rintro e w1 ⟨c, nb, kv, rfl, hN, b1⟩
  have HN := hid hN
  clear hN C1
  have END : Hid (∀ wr : World, Below w1.heap.size w1 wr → Calls Tryz.prog 73 #[.map (some c), .int .i64 1] wr fun e w' => ∃ a2 k2, e = .returned (.slice a2 L k2) ∧ Below wr.heap.size wr w') := hid (fun wr hb => by
    have := below_any wr w.heap.size c n (fun i => (O i).id) (fun i => (O i).up) ob off nb kv (HN.out.below hb) (objsOk_rises H2.out) (fun j hj => by have := objsOk_pos H2.out j hj; have := (objsOk_root H2.out).2.2; omega) (fun i hi => (HW.out i hi).1) on2 0 (by omega) noCyc_zero
    rw [(objsOk_root H2.out).1] at this
    refine this.mono ?_
    rintro e w' ⟨v, rfl, o, b⟩
    obtain ⟨a2, k2, rfl⟩ := ownsRow_shape o
    rw [EL.out]
    exact ⟨a2, k2, rfl, b⟩)
  have c1 : (n : Int) ≤ (cap : Int) := by omega
  have c2 : (1 : Int) ≤ (n : Int) := by omega
  by_cases hok : cap = 1
  · obtain rfl : n = 1 := by omega
    subst hok
    go_wp2
    go_loopw [12] (fun i wr => i = .int .i64 0 ∧ Below w1.heap.size w1 wr) (fun i _ => 0)
    case atStart => exact ⟨rfl, Below.refl _ _⟩
    case round =>
      obtain ⟨rfl, hB⟩ := hrel
      go_wp2_with fail
      refine (END.out wr hB).mono ?_
      rintro e w2 ⟨a2, k2, rfl, b2⟩
      go_wp2
      go_ret
      refine ⟨ret_bool ?_, then_ b1 (then_ hB b2)⟩
      rw [← RL.out]
      simp [upsOk]
  · go_wp2
    go_loopw [12] (fun i wr => ∃ q : Nat, q ≤ n - 1 ∧ i = .int .i64 q ∧ Hid (∀ p, p < q → boxAt n O (O (p + 1)).up = true) ∧ Below w1.heap.size w1 wr) (fun i _ => n - 1 - (intOf i).toNat)
    case atStart => exact ⟨0, Nat.zero_le _, rfl, hid (fun p hp => by omega), Below.refl _ _⟩
    case round =>
      obtain ⟨q, hq, rfl, HA, hB⟩ := hrel
      by_cases hlt2 : q < n - 1
      · obtain ⟨_, _, ea, hlt0, hcc⟩ := (HO.out.below b1).below hB (by omega)
        cases ea
        obtain ⟨⟨q0, q1, q2, q3, q4, q5, q6, q7, q8, q9⟩, ht⟩ := hcc (q + 1) (by omega)
        have ei : off + (q + 1) * 10 = off + 10 + q * 10 := by omega
        rw [ei] at q0 q1 q2 q3 q4 q5 q6 q7 q8 q9
        have i2 : (q : Int) < ((n - 1 : Nat) : Int) := by omega
        simp only [CatL.val, IntL.val, StrL.val] at q4 q6 q7 q9
        have bC : Below wr.heap.size wr (wr.alloc (.cells #[.int .i64 (O (q + 1)).id, .int .i64 (O (q + 1)).kind, .int .i64 (O (q + 1)).up, .int .i64 (O (q + 1)).b1, .slice (O (q + 1)).c1.a (O (q + 1)).c1.n (O (q + 1)).c1.k, .string (O (q + 1)).data, .slice (O (q + 1)).items.a (O (q + 1)).items.n (O (q + 1)).items.k, .slice (O (q + 1)).own.a (O (q + 1)).own.n (O (q + 1)).own.k, .int .i64 (O (q + 1)).b2, .slice (O (q + 1)).c2.a (O (q + 1)).c2.n (O (q + 1)).c2.k] 45)) := (Below.refl _ wr).alloc (Nat.le_refl _) _
        have BC := then_ hB bC
        have N1 := hid (HN.out.below BC)
        have LK := N1.out.map.look (x := (O (q + 1)).up) (HW.out (q + 1) (by omega)).2
        cases hf : findI (fun i => (O i).id) n (O (q + 1)).up with
        | none =>
          have BO : Hid (boxAt n O (O (q + 1)).up = false) := hid (by simp [boxAt, hf])
          rw [hf] at LK
          simp only [Option.map_none] at LK
          clear hcc ht ei hf
          go_wp2
          go_ret
          exact ⟨ret_bool (by rw [upsOk, all_at hlt2 BO.out]; rfl), then_ b1 BC⟩
        | some u =>
          obtain ⟨hu, _⟩ := findI_some hf
          have BO : Hid (boxAt n O (O (q + 1)).up = ((O u).kind == 3)) := hid (by simp [boxAt, hf])
          rw [hf] at LK
          simp only [Option.map_some] at LK
          have k1 := (hcc u hu).1.c1
          have k2 := (bC.cell (p := ⟨ob, off + u * 10 + 1, none⟩) hlt0).trans k1
          have n1 : _ = some (Value.pointer (some ⟨ob, off + u * 10, none⟩)) := (N1.out.blk u hu).c0 0 rfl
          clear hcc ht ei hf k1
          cases c3 : ((O u).kind == 3) with
          | false =>
            rw [c3] at BO
            have c3' : ¬ (O u).kind = 3 := by simpa using c3
            go_wp2
            go_ret
            exact ⟨ret_bool (by rw [upsOk, all_at hlt2 BO.out]; rfl), then_ b1 BC⟩
          | true =>
            rw [c3] at BO
            have c3' : (O u).kind = 3 := by simpa using c3
            rw [c3'] at k2
            clear c3
            go_wp2
            refine ⟨⟨q + 1, by omega, by go_num, hid (fun p hp => ?_), BC⟩, by simp [intOf]; omega⟩
            by_cases e : p = q
            · subst e; exact BO.out
            · exact HA.out p (by omega)
      · have e : q = n - 1 := by omega
        subst e
        go_wp2_with fail
        refine (END.out wr hB).mono ?_
        rintro e w2 ⟨a2, k2, rfl, b2⟩
        go_wp2
        go_ret
        refine ⟨ret_bool ?_, then_ b1 (then_ hB b2)⟩
        rw [upsOk, all_yes HA.out, Bool.true_and, ← RL.out]
end Go.Proofs.YtjceaajnemgheaaGreatDoor
namespace Go.Proofs.YtjceaajnemgheaaGreatDoor
open Go Go.RowKit Go.Deep Go.Maps

set_option maxRecDepth 100000 in
set_option maxHeartbeats 4000000 in
theorem implKer_any (k : KerV) (w : World) (hk : k.at w) (hcap : k.on ≤ k.ok) (hw : ∀ i, i < k.on → (Lit.int .i64 (k.O i).id).wf = true ∧ (Lit.int .i64 (k.O i).up).wf = true) :
    Calls Tryz.prog 34 #[k.val] w fun e w' => e = .returned (.bool (kerOk k)) ∧ Below w.heap.size w w' := by
  have hb0 := (Below.refl _ w).alloc (Nat.le_refl _) (.cells #[.slice k.ta k.tn k.tk, .slice k.oa k.on k.ok] 25)
  have A0 := Blk.new w (.cells #[.slice k.ta k.tn k.tk, .slice k.oa k.on k.ok] 25)
  have T0 := hid (hk.below hb0)
  have HW := hid hw
  have HC := hid hcap
  unfold KerV.val
  obtain ⟨x0, x1⟩ := A0.two
  clear hk hw hcap
  go_enter Tryz.func34, Tryz.ntmps34
  go_wp2_with fail
  refine (threadsOk_any _ _ _ k.T _ T0.out.1 T0.out.2.2.1).mono ?_
  rintro e w1 ⟨rfl, hb1⟩
  have A1 := A0.below hb1
  have T1 := hid (T0.out.below hb1)
  have B1 := then_ hb0 hb1
  clear x0 x1 A0 T0 hb0 hb1
  obtain ⟨x0, x1⟩ := A1.two
  cases t1 : thrsOk k.tn k.T with
  | false =>
    go_wp2
    go_ret
    exact ⟨ret_bool (kerOk_thr t1).symm, B1⟩
  | true =>
  go_wp2_with fail
  refine (objectsOk_any _ _ _ k.O _ T1.out.2.1 T1.out.2.2.2).mono ?_
  rintro e w2 ⟨rfl, hb2⟩
  have A2 := A1.below hb2
  have T2 := hid (T1.out.below hb2)
  have B2 := then_ B1 hb2
  clear x0 x1 A1 T1 B1 hb2
  obtain ⟨x0, x1⟩ := A2.two
  cases t2 : objsOk k.on k.O with
  | false =>
    go_wp2
    go_ret
    exact ⟨ret_bool (by simp [kerOk, t2]), B2⟩
  | true =>
  have C3 := hid (numbersOk_any k w2 T2.out HC.out t1 t2 (fun i hi => (HW.out i hi).1))
  unfold KerV.val at C3
  go_wp2_with fail
  refine C3.out.mono ?_
  rintro e w3 ⟨rfl, hb3⟩
  have A3 := A2.below hb3
  have T3 := hid (T2.out.below hb3)
  have B3 := then_ B2 hb3
  clear x0 x1 A2 T2 B2 hb3 C3
  obtain ⟨x0, x1⟩ := A3.two
  cases t3 : numsOk k.tn k.T k.on k.O with
  | false =>
    go_wp2
    go_ret
    exact ⟨ret_bool (by simp [kerOk, t3]), B3⟩
  | true =>
  have C4 := hid (boxesOk_any k.oa k.on k.ok k.O w3 HC.out T3.out.2.2.2 t2 HW.out)
  have OK : Hid (kerOk k = (upsOk k.on k.O && reachB (fun i => (k.O i).id) (fun i => (k.O i).up) k.on)) := hid (by simp [kerOk, t1, t2, t3])
  clear t1 t2 t3
  go_wp2_with fail
  refine C4.out.mono ?_
  rintro e w4 ⟨rfl, hb4⟩
  have B4 := then_ B3 hb4
  rw [← OK.out]
  clear x0 x1 A3 T3 B3 hb4 C4
  go_wp2
  go_ret
  exact ⟨rfl, B4⟩
end Go.Proofs.YtjceaajnemgheaaGreatDoor
