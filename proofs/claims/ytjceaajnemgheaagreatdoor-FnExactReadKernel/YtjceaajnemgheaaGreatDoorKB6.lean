/- The program's nodes: a map from numbers to pointers; each node has a pointer to its object and a list of its kids. -/
import Derived.Test.YtjceaajnemgheaaGreatDoorZ9
import Derived.Test.YtjceaajnemgheaaGreatDoorZ7
import Derived.Test.YtjceaajnemgheaaGreatDoorZ3
import Derived.Deep.RegionLaw
namespace Go.Proofs.YtjceaajnemgheaaGreatDoor
open Go Go.RowKit Go.Deep Go.Maps
def ptrElem (v : Value) : Option (DataW Unit × List MemPlace) :=
  match v with
  | .pointer none => some (.lit (.int .i64 (-1)), [])
  | .pointer (some ⟨b, 0, none⟩) => some (.lit (.int .i64 (b : Int)), [])
  | _ => none
theorem ptrElem_inv {v : Value} {c : Int} {ps : List MemPlace} (h : ptrElem v = some (.lit (.int .i64 c), ps)) : v = .pointer (if c = -1 then none else some ⟨c.toNat, 0, none⟩) := by
  unfold ptrElem at h
  split at h
  · simp only [Option.some.injEq, Prod.mk.injEq, DataW.lit.injEq, Lit.int.injEq] at h
    rw [if_pos h.1.2.symm]
  · simp only [Option.some.injEq, Prod.mk.injEq, DataW.lit.injEq, Lit.int.injEq] at h
    obtain ⟨⟨_, e⟩, _⟩ := h
    rw [if_neg (by omega), ← e]
    simp
  · cases h
def MapP (w : World) (b n : Nat) (m : Int → Option Nat) : Prop :=
  ∃ D : DataW Unit, w.ownsMap Tryz.prog 2 ptrElem b n D ∧ IsMap D ∧
    ∀ x, Maps.has D (.int .i64 x) = (m x).isSome ∧ ∀ v, m x = some v → D.atKey (.int .i64 x) (.lit (.int .i64 (-1))) = .lit (.int .i64 (v : Int))
theorem MapP.made (w : World) : MapP (w.alloc (.map #[] 0)) w.heap.size 0 (fun _ => none) :=
  ⟨.map [], World.ownsMap_made _ _ _ _, isMap_empty, fun x => ⟨rfl, fun v h => by cases h⟩⟩
theorem MapP.of_block {w w' : World} {b n : Nat} {m : Int → Option Nat} (h : MapP w b n m) (e : w'.heap[b]? = w.heap[b]?) : MapP w' b n m := by
  obtain ⟨D, ⟨es, clock, hb, F, hs, hD⟩, r⟩ := h
  exact ⟨D, ⟨es, clock, e.trans hb, F, hs, hD⟩, r⟩
theorem MapP.lt {w : World} {b n : Nat} {m : Int → Option Nat} (h : MapP w b n m) : b < w.heap.size := by
  obtain ⟨D, h1, _⟩ := h
  exact h1.lt
theorem MapP.below {w w' : World} {b n : Nat} {m : Int → Option Nat} (h : MapP w b n m) (hb : Below w.heap.size w w') : MapP w' b n m := h.of_block (hb.block b h.lt)
theorem MapP.isMap {w : World} {b n : Nat} {m : Int → Option Nat} (h : MapP w b n m) : ∃ es clock, w.heap[b]? = some (.map es clock) := by
  obtain ⟨D, ⟨es, clock, hb, _⟩, _⟩ := h
  exact ⟨es, clock, hb⟩
def setP (m : Int → Option Nat) (k : Int) (v : Nat) (x : Int) : Option Nat := if k = x then some v else m x
theorem MapP.put {D : DataW Unit} {m : Int → Option Nat} {k : Int} {v : Nat} (h2 : IsMap D)
    (h3 : ∀ x, Maps.has D (.int .i64 x) = (m x).isSome ∧ ∀ v, m x = some v → D.atKey (.int .i64 x) (.lit (.int .i64 (-1))) = .lit (.int .i64 (v : Int))) :
    IsMap (D.put (.int .i64 k) (.lit (.int .i64 (v : Int)))) ∧
    ∀ x, Maps.has (D.put (.int .i64 k) (.lit (.int .i64 (v : Int)))) (.int .i64 x) = (setP m k v x).isSome ∧ ∀ u, setP m k v x = some u → (D.put (.int .i64 k) (.lit (.int .i64 (v : Int)))).atKey (.int .i64 x) (.lit (.int .i64 (-1))) = .lit (.int .i64 (u : Int)) := by
  refine ⟨h2.put _ _, fun x => ?_⟩
  by_cases e : k = x
  · subst e
    refine ⟨?_, fun u hu => ?_⟩
    · rw [has_put_same h2 (by trivial)]; simp [setP]
    · simp [setP] at hu
      subst hu
      exact atKey_put_same h2 (by trivial) _ _
  · have hne : (Lit.int .i64 x) ≠ (Lit.int .i64 k) := by simp; exact fun h => e h.symm
    refine ⟨?_, fun u hu => ?_⟩
    · rw [has_put_other hne]; simp [setP, e]; exact (h3 x).1
    · simp [setP, e] at hu
      rw [atKey_put_other hne]
      exact (h3 x).2 u hu
theorem zero70 (w : World) : (zeroValue 101).run Tryz.prog w = .ok (.pointer none) w := by kernel_rfl
theorem MapP.look {w : World} {b n : Nat} {m : Int → Option Nat} {x : Int} (h : MapP w b n m) (hx : (Lit.int .i64 x).wf = true) :
    (Instr.lookup 99 (.map (some b)) (.int .i64 x) false).run Tryz.prog w = .ok (.pointer ((m x).map fun p => ⟨p, 0, none⟩)) w := by
  obtain ⟨D, hown, hD, hall⟩ := h
  obtain ⟨v, ps, hrun, hv⟩ := hown.lookup keyed2 Tryz.underlying99 (zero70 w) (zd := .lit (.int .i64 (-1))) (zp := []) rfl (keyOf_int_mk Tryz.underlying2 hx)
  obtain ⟨h1, h2⟩ := hall x
  rw [hrun]
  cases hm : m x with
  | none =>
    have : Maps.has D (.int .i64 x) = false := by rw [h1, hm]; rfl
    rw [atKey_of_not_has this] at hv
    rw [ptrElem_inv hv]
    rfl
  | some p =>
    rw [h2 p hm] at hv
    rw [ptrElem_inv hv, if_neg (by omega)]
    simp
theorem step_putP {ops : Array Oper} {o : Oper} {a : Act} {w : World} {K : Act → World → Prop} {Q : Exit → Act → World → Prop} {E : Prop} (hgd : o.guard = none) (m x v : Operand) (hop : o.op = Op.mapUpdate 99 m x v)
    {b n : Nat} {f : Int → Option Nat} (hm : a.eval m = .map (some b)) (hmap : MapP w b n f) (hn : n < maxLen) (kx : Int) (p : Nat) (hx : a.eval x = .int .i64 kx) (hv : a.eval v = .pointer (some ⟨p, 0, none⟩)) (wk : (Lit.int .i64 kx).wf = true)
    (hK : ∀ w', MapP w' b (n + 1) (setP f kx p) → w.grownBy w' (some b) → K (a.put o.dst undef) w') :
    if Region.wanted o (yielded ops a.tmps) = true then Oper.wp Tryz.prog o a w K Q else E := by
  have hw : Region.wanted o (yielded ops a.tmps) = true := by simp [Region.wanted, hgd]
  rw [if_pos hw]
  obtain ⟨D, hown, hD, hall⟩ := hmap
  obtain ⟨w', hrun, r1, r2⟩ := hown.update keyed2 Tryz.underlying99 hn (keyOf_int_mk Tryz.underlying2 wk) (val := .pointer (some ⟨p, 0, none⟩)) (d := .lit (.int .i64 (p : Int))) (ps := []) rfl
  have hp := MapP.put (k := kx) (v := p) hD hall
  unfold Oper.wp
  simp [execOp, hop, hm, hx, hv, hrun, Result.andThen]
  exact hK w' ⟨_, r1, hp.1, hp.2⟩ r2

theorem Rises.less {ids : Nat → Int} {n m : Nat} (h : Rises ids n) (hm : m ≤ n) : Rises ids m := fun i j hij hj => h i j hij (by omega)
theorem findI_succ {ids : Nat → Int} {k : Nat} (h : Rises ids (k + 1)) (x : Int) : findI ids (k + 1) x = if ids k = x then some k else findI ids k x := by
  split
  · rename_i e; subst e; exact findI_eq h (Nat.lt_succ_self k)
  · rename_i e
    cases e1 : findI ids k x with
    | none =>
      cases e2 : findI ids (k + 1) x with
      | none => rfl
      | some j =>
        obtain ⟨j1, j2⟩ := findI_some e2
        by_cases ej : j = k
        · subst ej; exact absurd j2 e
        · exact absurd j2 (findI_none e1 j (by omega))
    | some j =>
      obtain ⟨j1, j2⟩ := findI_some e1
      rw [← j2]
      exact findI_eq h (by omega)
structure Nodes (w : World) (B c n : Nat) (ids : Nat → Int) (ob off : Nat) (nb : Nat → Nat) (kv : Nat → Value) (K : Nat → List Int) : Prop where
  map : MapP w c n (fun x => (findI ids n x).map nb)
  blk : ∀ i, i < n → Blk w (nb i) (.cells #[.pointer (some ⟨ob, off + i * 10, none⟩), kv i] 104)
  inj : ∀ i j, i < n → j < n → nb i = nb j → i = j
  own : ∀ i, i < n → OwnI w B (kv i) (K i)
  apart : ∀ i j, i < n → j < n → i ≠ j → (kv i).ownBlock = none ∨ (kv i).ownBlock ≠ (kv j).ownBlock
  low : ∀ i, i < n → B ≤ nb i
  lowc : B ≤ c

theorem own_block {w : World} {B : Nat} {v : Value} {l : List Int} (h : OwnI w B v l) {g : Nat} (e : v.ownBlock = some g) : ∃ cur, w.heap[g]? = some (.cells cur 2) := by
  rcases h.2 with ⟨rfl, _⟩ | ⟨g', cap, cur, rfl, _, hb, _⟩
  · cases e
  · simp only [Value.ownBlock, Option.some.injEq] at e
    subst e
    exact ⟨cur, hb⟩
theorem own_ne {w : World} {B : Nat} {v : Value} {l : List Int} (h : OwnI w B v l) {g : Nat} {cs : Array Value} {t : Nat} (hg : Blk w g (.cells cs t)) (ht : t ≠ 2) : some g ≠ v.ownBlock := fun e => by
  obtain ⟨cur, hb⟩ := own_block h e.symm
  unfold Blk at hg
  rw [hg] at hb
  simp only [Option.some.injEq, Obj.cells.injEq] at hb
  exact ht hb.2.1
theorem own_nmap {w : World} {B : Nat} {v : Value} {l : List Int} (h : OwnI w B v l) {g n : Nat} {m : Int → Option Nat} (hg : MapP w g n m) : some g ≠ v.ownBlock := fun e => by
  obtain ⟨cur, hb⟩ := own_block h e.symm
  obtain ⟨es, clock, hm⟩ := hg.isMap
  rw [hm] at hb
  cases hb
theorem Nodes.below {w w' : World} {B c n : Nat} {ids : Nat → Int} {ob off : Nat} {nb : Nat → Nat} {kv : Nat → Value} {K : Nat → List Int} (h : Nodes w B c n ids ob off nb kv K) (hb : Below w.heap.size w w') : Nodes w' B c n ids ob off nb kv K :=
  ⟨h.map.below hb, fun i hi => (h.blk i hi).below hb, h.inj, fun i hi => World.ownsRow.kept (h.own i hi) (row := none) ⟨hb.os, hb.tape, hb.output, hb.size, fun k hk _ => hb.block k hk⟩ (by
    cases e : (kv i).ownBlock with
    | none => exact .inl rfl
    | some g => exact .inr (by simp)), h.apart, h.low, h.lowc⟩
theorem Nodes.step {W W' : World} {B c n : Nat} {ids : Nat → Int} {ob off : Nat} {nb : Nat → Nat} {kv : Nat → Value} {K : Nat → List Int} (H : Nodes W B c n ids ob off nb kv K) {u : Nat} (hu : u < n) {v' : Value} {x : Int}
    (ho : OwnI W' B v' (K u ++ [x])) (hgr : W.grownBy W' (kv u).ownBlock) (hv : v'.ownBlock = (kv u).ownBlock ∨ v'.ownBlock = some W.heap.size) :
    Nodes (W'.setCell ⟨nb u, 1, none⟩ v') B c n ids ob off nb (fun j => if j = u then v' else kv j) (fun j => if j = u then K u ++ [x] else K j) := by
  have bk : ∀ i, i < n → Blk W' (nb i) (.cells #[.pointer (some ⟨ob, off + i * 10, none⟩), kv i] 104) := fun i hi => (hgr.block (nb i) (H.blk i hi).lt (own_ne (H.own u hu) (H.blk i hi) (by omega))).trans (H.blk i hi)
  have mk : MapP W' c n (fun x => (findI ids n x).map nb) := H.map.of_block (hgr.block c H.map.lt (own_nmap (H.own u hu) H.map))
  have cne : c ≠ nb u := fun e => by
    obtain ⟨es, clock, hm⟩ := H.map.isMap
    have := H.blk u hu
    unfold Blk at this
    rw [← e, hm] at this
    cases this
  have gs : W'.grownBy (W'.setCell ⟨nb u, 1, none⟩ v') (some (nb u)) := ⟨rfl, rfl, rfl, by rw [nblk_setCell]; exact Nat.le_refl _, fun j hj hne => blk_setCell_other _ _ _ _ (by dsimp only; intro e; exact hne (by rw [e]))⟩
  have set : ∀ {v : Value} {X : List Int}, OwnI W' B v X → OwnI (W'.setCell ⟨nb u, 1, none⟩ v') B v X := fun {v X} hX =>
    World.ownsRow.kept hX gs (.inr (fun e => own_ne hX (bk u hu) (by omega) e.symm))
  refine ⟨mk.of_block (blk_setCell_other _ _ _ _ cne), fun i hi => ?_, H.inj, fun i hi => ?_, fun i j hi hj hne => ?_, H.low, H.lowc⟩
  · by_cases e : i = u
    · subst e
      rw [if_pos rfl]
      have := (bk i hi).setAt (i := 1) v'
      simpa using this
    · rw [if_neg e]
      exact (bk i hi).other (fun e' => e (H.inj i u hi hu e'.symm)) v'
  · by_cases e : i = u
    · subst e
      rw [if_pos rfl, if_pos rfl]
      exact set ho
    · rw [if_neg e, if_neg e]
      exact set (World.ownsRow.kept (H.own i hi) hgr (H.apart i u hi hu e))
  · have lt : ∀ j, j < n → (kv j).ownBlock = none ∨ (kv j).ownBlock ≠ some W.heap.size := fun j hj => .inr fun e => by have := (World.ownsRow.lt (H.own j hj) _ e).2; omega
    by_cases e : i = u
    · subst e
      rw [if_pos rfl, if_neg (fun e => hne e.symm)]
      rcases hv with hv | hv
      · rw [hv]; exact H.apart _ _ hi hj hne
      · rw [hv]
        exact .inr (fun e => by have := (World.ownsRow.lt (H.own j hj) _ e.symm).2; omega)
    · rw [if_neg e]
      by_cases e' : j = u
      · subst e'
        rw [if_pos rfl]
        rcases hv with hv | hv
        · rw [hv]; exact H.apart _ _ hi hj hne
        · rw [hv]; exact lt i hi
      · rw [if_neg e']; exact H.apart _ _ hi hj hne
end Go.Proofs.YtjceaajnemgheaaGreatDoor
