/- What an observer sees of a kernel, plainly: numbers of objects, and whether all lies in what is seen. -/
import Derived.Test.YtaaeeaknjlammaaGreatDoorX
import Derived.Test.YtaaeeaknjlammaaGreatDoorKC3
import Derived.Test.YtaaeeaknjlammaaGreatDoorGA
namespace Go.Proofs.YtaaeeaknjlammaaGreatDoor
open Go Go.RowKit Go.Deep

/-- the observer's label lets the object be seen -/
def seenO (t : ObjV) (b : Int) (c : CatL) : Bool := flowsB t.b1 t.c1.n t.c1.f t.c1.g 0 (fun _ => 0) b c.n c.f c.g
def labOkV (b : Int) (c : CatL) : Bool := labOk b c.n c.f c.g
/-- the numbers of those that are seen, of the first q -/
def seenTo (O : Nat → ObjV) (b : Int) (c : CatL) (q : Nat) : List Int := ((List.range q).filter (fun j => seenO (O j) b c)).map (fun i => (O i).id)
theorem seenTo_yes {O : Nat → ObjV} {b : Int} {c : CatL} {q : Nat} (h : seenO (O q) b c = true) : seenTo O b c (q + 1) = seenTo O b c q ++ [(O q).id] := by
  simp [seenTo, List.range_succ, h]
theorem seenTo_no {O : Nat → ObjV} {b : Int} {c : CatL} {q : Nat} (h : seenO (O q) b c = false) : seenTo O b c (q + 1) = seenTo O b c q := by
  simp [seenTo, List.range_succ, h]
theorem seenTo_len (O : Nat → ObjV) (b : Int) (c : CatL) (q : Nat) : (seenTo O b c q).length ≤ q := by
  unfold seenTo
  rw [List.length_map]
  exact Nat.le_trans (List.length_filter_le _ _) (by simp)
def seenL (k : KerV) (b : Int) (c : CatL) : List Int := if kerOk k = true ∧ labOkV b c = true then seenTo k.O b c k.on else []
theorem seenL_no1 {k : KerV} {b : Int} {c : CatL} (h : kerOk k = false) : seenL k b c = [] := by simp [seenL, h]
theorem seenL_no2 {k : KerV} {b : Int} {c : CatL} (h : labOkV b c = false) : seenL k b c = [] := by simp [seenL, h]
theorem seenL_yes {k : KerV} {b : Int} {c : CatL} (h : kerOk k = true) (h' : labOkV b c = true) : seenL k b c = seenTo k.O b c k.on := by simp [seenL, h, h']
theorem kerOk_objs {k : KerV} (h : kerOk k = true) : objsOk k.on k.O = true := by
  simp only [kerOk, Bool.and_eq_true] at h
  exact h.1.1.1.2
theorem seenL_len (k : KerV) (b : Int) (c : CatL) : (seenL k b c).length ≤ 271 := by
  unfold seenL
  split
  · rename_i h
    have := (objsOk_out (kerOk_objs h.1)).2.1
    have := seenTo_len k.O b c k.on
    omega
  · simp
/-- a right object's label is right -/
theorem objsOk_lab {n : Nat} {O : Nat → ObjV} (h : objsOk n O = true) {i : Nat} (hi : i < n) : labOk (O i).b1 (O i).c1.n (O i).c1.f (O i).c1.g = true := by
  have := (objsOk_out h).2.2.1 i hi
  simp only [objAt, objOk, Bool.and_eq_true] at this
  exact this.1.1.1.1.1.1
theorem leq_seen {n : Nat} {O : Nat → ObjV} {b : Int} {c : CatL} (h : objsOk n O = true) {i : Nat} (hi : i < n) (hl : labOkV b c = true) :
    leqB (O i).b1 (O i).c1.n (O i).c1.f (O i).c1.g b c.n c.f c.g = seenO (O i) b c := by
  have h1 := objsOk_lab h hi
  unfold labOkV at hl
  simp [leqB, h1, hl, seenO]
/-- where the box of an object stands -/
def boxI (k : KerV) (i : Nat) : Nat := (findI (fun j => (k.O j).id) k.on (k.O i).up).getD 0
def tidyAt (k : KerV) (b : Int) (c : CatL) (i : Nat) : Bool := !seenO (k.O i) b c || seenO (k.O (boxI k i)) b c
def tidyB (k : KerV) (b : Int) (c : CatL) : Bool := kerOk k && labOkV b c && (List.range (k.on - 1)).all (fun i => tidyAt k b c (i + 1))
theorem tidyB_no1 {k : KerV} {b : Int} {c : CatL} (h : kerOk k = false) : tidyB k b c = false := by simp [tidyB, h]
theorem tidyB_no2 {k : KerV} {b : Int} {c : CatL} (h : labOkV b c = false) : tidyB k b c = false := by simp [tidyB, h]
theorem tidyB_at {k : KerV} {b : Int} {c : CatL} {i : Nat} (hi : i + 1 < k.on) (h : tidyAt k b c (i + 1) = false) : tidyB k b c = false := by
  have : (List.range (k.on - 1)).all (fun i => tidyAt k b c (i + 1)) = false := all_at (k := i) (by omega) h
  simp [tidyB, this]
theorem tidyB_mk {k : KerV} {b : Int} {c : CatL} (h : kerOk k = true) (h' : labOkV b c = true) (ha : ∀ i, i + 1 < k.on → tidyAt k b c (i + 1) = true) : tidyB k b c = true := by
  have : (List.range (k.on - 1)).all (fun i => tidyAt k b c (i + 1)) = true := all_yes fun i hi => ha i (by omega)
  simp [tidyB, h, h', this]
theorem ups_box {k : KerV} (h : kerOk k = true) {c : Nat} (hc : c < k.on) (h0 : c ≠ 0) : ∃ u, findI (fun i => (k.O i).id) k.on (k.O c).up = some u := by
  have hp : upsOk k.on k.O = true := by
    simp only [kerOk, Bool.and_eq_true] at h
    exact h.1.2
  have hu := all_out hp (c - 1) (by omega)
  have e : c - 1 + 1 = c := by omega
  simp only [e] at hu
  unfold boxAt at hu
  split at hu
  · rename_i u hu'; exact ⟨u, hu'⟩
  · cases hu
/-- what stands in the list of those that are seen -/
theorem seen_at {k : KerV} {b : Int} {c : CatL} (h : kerOk k = true) {r : Nat} (hr : r < (seenTo k.O b c k.on).length) :
    ∃ j, j < k.on ∧ seenO (k.O j) b c = true ∧ nthI (seenTo k.O b c k.on) r = (k.O j).id ∧ findI (fun i => (k.O i).id) k.on (nthI (seenTo k.O b c k.on) r) = some j := by
  have hm : nthI (seenTo k.O b c k.on) r ∈ seenTo k.O b c k.on := by
    unfold nthI
    rw [List.getD_eq_getElem?_getD, List.getElem?_eq_getElem hr]
    exact List.getElem_mem hr
  unfold seenTo at hm
  obtain ⟨j, hj, e⟩ := List.mem_map.1 hm
  obtain ⟨hj1, hj2⟩ := List.mem_filter.1 hj
  have hj3 := List.mem_range.1 hj1
  have er : nthI (seenTo k.O b c k.on) r = (k.O j).id := e.symm
  refine ⟨j, hj3, hj2, er, ?_⟩
  rw [er]
  refine findI_first (ids := fun i => (k.O i).id) hj3 rfl fun i hi e => ?_
  have h1 := objsOk_rises (kerOk_objs h) i j hi hj3
  have h2 : (k.O i).id = (k.O j).id := e
  simp only at h1
  omega
/-- every object that is seen stands in the list -/
theorem seen_there {k : KerV} {b : Int} {c : CatL} {j : Nat} (hj : j < k.on) (hs : seenO (k.O j) b c = true) : ∃ r, r < (seenTo k.O b c k.on).length ∧ nthI (seenTo k.O b c k.on) r = (k.O j).id := by
  have hm : (k.O j).id ∈ seenTo k.O b c k.on := List.mem_map.2 ⟨j, List.mem_filter.2 ⟨List.mem_range.2 hj, hs⟩, rfl⟩
  obtain ⟨r, hr, e⟩ := List.mem_iff_getElem.1 hm
  exact ⟨r, hr, by unfold nthI; rw [List.getD_eq_getElem?_getD, List.getElem?_eq_getElem hr]; exact e⟩
theorem has_box {k : KerV} {b : Int} {c : CatL} (h : kerOk k = true) {j : Nat} (hj : j < k.on) (h0 : j ≠ 0) :
    (k.O j).up ≠ 0 ∧ boxI k j < k.on ∧ (k.O (boxI k j)).id = (k.O j).up ∧ hasB (seenTo k.O b c k.on).length (nthI (seenTo k.O b c k.on)) (k.O j).up = seenO (k.O (boxI k j)) b c := by
  obtain ⟨u, hu⟩ := ups_box h hj h0
  have eb : boxI k j = u := by simp [boxI, hu]
  obtain ⟨u1, u2⟩ := findI_some hu
  have u2' : (k.O u).id = (k.O j).up := u2
  have up := objsOk_pos (kerOk_objs h) u u1
  rw [eb]
  refine ⟨by omega, u1, u2', ?_⟩
  cases hs : seenO (k.O u) b c with
  | true =>
    obtain ⟨r, hr, e⟩ := seen_there u1 hs
    exact hasB_yes hr (by rw [e]; exact u2')
  | false =>
    refine hasB_no fun r hr e => ?_
    obtain ⟨i, hi, his, e1, e2⟩ := seen_at h hr
    rw [e] at e2
    rw [hu] at e2
    cases e2
    rw [hs] at his
    cases his
theorem box_same {k : KerV} {c : Nat} {u : Nat} (h : findI (fun i => (k.O i).id) k.on (k.O c).up = some u) : boxI k c = u := by simp [boxI, h]
theorem tidyAt_root {k : KerV} {b : Int} {c : CatL} {i : Nat} (h : seenO (k.O i) b c = false) : tidyAt k b c i = true := by simp [tidyAt, h]
theorem tidyAt_seen {k : KerV} {b : Int} {c : CatL} {i : Nat} (h : seenO (k.O i) b c = true) : tidyAt k b c i = seenO (k.O (boxI k i)) b c := by simp [tidyAt, h]
end Go.Proofs.YtaaeeaknjlammaaGreatDoor
