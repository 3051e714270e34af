/- KidsOf of the program and of the model answer the plain function kidsL. -/
import Derived.Test.YtimacbpfnkephaaKB10
import Derived.Test.YtimacbpfnkephaaKB13
import Derived.Test.YtimacbpfnkephaaKC3
namespace Go.Proofs.Ytimacbpfnkephaa
open Go Go.RowKit Go.Deep Go.Maps

/-- the numbers of all that lie in x, of the first q -/
def inX (O : Nat → ObjV) (x : Int) (q : Nat) : List Int := ((List.range q).filter (fun j => (O j).up == x)).map (fun i => (O i).id)
theorem inX_yes {O : Nat → ObjV} {x : Int} {q : Nat} (h : (O q).up = x) : inX O x (q + 1) = inX O x q ++ [(O q).id] := by
  simp [inX, List.range_succ, h]
theorem inX_no {O : Nat → ObjV} {x : Int} {q : Nat} (h : (O q).up ≠ x) : inX O x (q + 1) = inX O x q := by
  simp [inX, List.range_succ, h]
theorem inX_len (O : Nat → ObjV) (x : Int) (q : Nat) : (inX O x q).length ≤ q := by
  unfold inX
  rw [List.length_map]
  exact Nat.le_trans (List.length_filter_le _ _) (by simp)
theorem inX_kids {O : Nat → ObjV} {n u : Nat} : inX O (O u).id n = kidsTo (fun i => (O i).id) (fun i => (O i).up) n u := rfl

theorem Blk.belowG {w w' : World} {P : Nat} {o : Obj} (h : Blk w P o) (hg : w.grownBy w' none) : Blk w' P o := (hg.block P h.lt (by simp)).trans h

/-- the kids of x -/
def kidsL (k : KerV) (x : Int) : List Int := if kerOk k = true then (match findI (fun i => (k.O i).id) k.on x with
  | some u => kidsTo (fun i => (k.O i).id) (fun i => (k.O i).up) k.on u
  | none => []) else []
theorem kerOk_parts {k : KerV} (h : kerOk k = true) : thrsOk k.tn k.T = true ∧ objsOk k.on k.O = true ∧ numsOk k.tn k.T k.on k.O = true ∧ upsOk k.on k.O = true ∧ reachB (fun i => (k.O i).id) (fun i => (k.O i).up) k.on = true := by
  simp only [kerOk, Bool.and_eq_true] at h
  exact ⟨h.1.1.1.1, h.1.1.1.2, h.1.1.2, h.1.2, h.2⟩
theorem ups_found {k : KerV} (h : kerOk k = true) {c : Nat} (hc : c < k.on) (h0 : c ≠ 0) : ∃ u, findI (fun i => (k.O i).id) k.on (k.O c).up = some u := by
  have hu := all_out (kerOk_parts h).2.2.2.1 (c - 1) (by omega)
  have e : c - 1 + 1 = c := by omega
  simp only [e] at hu
  unfold boxAt at hu
  split at hu
  · rename_i u hu'; exact ⟨u, hu'⟩
  · cases hu
theorem kidsL_no {k : KerV} {x : Int} (h : kerOk k = false) : kidsL k x = [] := by simp [kidsL, h]
theorem kidsL_zero {k : KerV} (h : kerOk k = true) : kidsL k 0 = [] := by
  have ho := (kerOk_parts h).2.1
  have : findI (fun i => (k.O i).id) k.on 0 = none := findI_no fun j hj => by have := objsOk_pos ho j hj; omega
  simp [kidsL, h, this]
theorem kidsL_yes {k : KerV} {x : Int} (h : kerOk k = true) (hx : x ≠ 0) : kidsL k x = inX k.O x k.on := by
  have ho := (kerOk_parts h).2.1
  unfold kidsL
  rw [if_pos h]
  cases e : findI (fun i => (k.O i).id) k.on x with
  | some u =>
    obtain ⟨_, rfl⟩ := findI_some e
    rfl
  | none =>
    symm
    show inX k.O x k.on = []
    unfold inX
    rw [List.filter_eq_nil_iff.2, List.map_nil]
    intro j hj
    have hj' := List.mem_range.1 hj
    simp only [beq_iff_eq]
    intro ej
    by_cases j0 : j = 0
    · subst j0; rw [(objsOk_root ho).2.2] at ej; exact hx ej.symm
    · obtain ⟨u, hu⟩ := ups_found h hj' j0
      obtain ⟨u1, u2⟩ := findI_some hu
      exact findI_none e u u1 (by rw [u2]; exact ej)

end Go.Proofs.Ytimacbpfnkephaa
