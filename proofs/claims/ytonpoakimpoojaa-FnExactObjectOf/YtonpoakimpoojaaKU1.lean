/- KidsOf of the program and of the model answer the plain function kidsL. -/
import Derived.Test.YtonpoakimpoojaaKB10
import Derived.Test.YtonpoakimpoojaaKB13
import Derived.Test.YtonpoakimpoojaaKC3
namespace Go.Proofs.Ytonpoakimpoojaa
open Go Go.RowKit Go.Deep Go.Maps

/-- the numbers of all that lie in x, of the first q -/
def inX (O : Nat → ObjV) (x : Int) (q : Nat) : List Int := ((List.range q).filter (fun j => (O j).up == x)).map (fun i => (O i).id)
theorem inX_yes {O : Nat → ObjV} {x : Int} {q : Nat} (h : (O q).up = x) : inX O x (q + 1) = inX O x q ++ [(O q).id] := by
  simp [inX, List.range_succ, h]
theorem inX_no {O : Nat → ObjV} {x : Int} {q : Nat} (h : (O q).up ≠ x) : inX O x (q + 1) = inX O x q := by
  simp [inX, List.range_succ, h]
theorem inX_len (O : Nat → ObjV) (x : Int) (q : Nat) : (inX O x q).length ≤ q := by
  unfold inX
  rw [List.length_map]
  exact Nat.le_trans (List.length_filter_le _ _) (by simp)
theorem inX_kids {O : Nat → ObjV} {n u : Nat} : inX O (O u).id n = kidsTo (fun i => (O i).id) (fun i => (O i).up) n u := rfl

theorem Blk.belowG {w w' : World} {P : Nat} {o : Obj} (h : Blk w P o) (hg : w.grownBy w' none) : Blk w' P o := (hg.block P h.lt (by simp)).trans h

set_option maxRecDepth 100000 in
set_option maxHeartbeats 4000000 in
theorem l3Kids_any (k : KerV) (x : Int) (w : World) (hk : k.at w) (hn : k.on ≤ 271) :
    Calls Try.prog 60 #[k.val, .int .i64 x] w fun e w' => ∃ v, e = .returned v ∧ OwnI w' w.heap.size v (inX k.O x k.on) ∧ Below w.heap.size w w' := by
  have hb0 := (Below.refl _ w).alloc (Nat.le_refl _) (.cells #[.slice k.ta k.tn k.tk, .slice k.oa k.on k.ok] 31)
  have A0 := Blk.new w (.cells #[.slice k.ta k.tn k.tk, .slice k.oa k.on k.ok] 31)
  have bm := hb0.alloc hb0.size (.cells #[] 2)
  have A1 := A0.alloc (.cells #[] 2)
  have O1 := OwnI.made (w.alloc (.cells #[.slice k.ta k.tn k.tk, .slice k.oa k.on k.ok] 31)) (w.heap.size + 1) (by simp)
  have HT := hid hk
  unfold KerV.val
  clear hk
  go_enter Try.func60, Try.ntmps60
  go_wp2
  generalize hW : ((w.alloc (.cells #[.slice k.ta k.tn k.tk, .slice k.oa k.on k.ok] 31)).alloc (.cells #[] 2)) = W at *
  have O2 : OwnI W (w.heap.size + 1) (.slice (some ⟨w.heap.size + 1, 0, none⟩) 0 0) [] := by simpa using O1
  clear hW hb0 A0 O1
  go_loopw [5, 6] (fun v i wr => ∃ q : Nat, q ≤ k.on ∧ i = .int .i64 q ∧ Hid (OwnI wr (w.heap.size + 1) v (inX k.O x q)) ∧ Blk wr w.heap.size (.cells #[.slice k.ta k.tn k.tk, .slice k.oa k.on k.ok] 31) ∧ Below w.heap.size w wr) (fun _ i _ => k.on - (intOf i).toNat)
  case atStart => exact ⟨0, Nat.zero_le _, rfl, hid O2, A1, bm⟩
  case round =>
    clear O2 A1 bm
    obtain ⟨q, hq, rfl, HO, A, hB⟩ := hrel
    obtain ⟨x0, x1⟩ := A.two
    by_cases hlt : q < k.on
    · obtain ⟨b, off, ea, hlt0, hcc⟩ := HT.out.2.2.2.below hB (by omega)
      have q0 := (hcc q hlt).1.c0
      have q2 := (hcc q hlt).1.c2
      rw [ea] at x1
      have i1 : (q : Int) < (k.on : Int) := by omega
      clear hcc ea
      by_cases e : (k.O q).up = x
      · have e' : ((k.O q).up == x) = true := by simpa using e
        have EQ := hid (inX_yes e)
        have hl := inX_len k.O x q
        have B1 : Below w.heap.size w (wr.alloc (.cells #[.int .i64 (k.O q).id] 2)) := hB.alloc hB.size _
        have AA := A.alloc (.cells #[.int .i64 (k.O q).id] 2)
        have OA := hid (OwnI.alloc HO.out (.cells #[.int .i64 (k.O q).id] 2))
        have L1 := hid (NumL.one (w := wr) (k.O q).id)
        have s1 : w.heap.size + 1 ≤ (wr.alloc (.cells #[.int .i64 (k.O q).id] 2)).heap.size := by have := A.lt; simp; omega
        have FIN : Hid (∀ w3 : World, (wr.alloc (.cells #[.int .i64 (k.O q).id] 2)).grownBy w3 u5.ownBlock → Blk w3 w.heap.size (.cells #[.slice k.ta k.tn k.tk, .slice k.oa k.on k.ok] 31) ∧ Below w.heap.size w w3) := hid (fun w3 g3 => ⟨AA.grown g3 (fun e => by have := (World.ownsRow.lt OA.out _ e.symm).1; omega), B1.trans (below_grown g3 B1.size (fun j hj => by have := (World.ownsRow.lt OA.out j hj).1; omega))⟩)
        clear e HO
        go_wp2_with (refine wpList_append_ints _ rfl _ _ rfl (w.heap.size + 1) u5 (inX k.O x q) rfl OA.out _ 1 1 [(k.O q).id] rfl rfl L1.out (by omega) s1 ?_; intro a3 c3 w3 o3 g3 v3)
        rw [← EQ.out] at o3
        obtain ⟨f1, f2⟩ := FIN.out w3 g3
        exact ⟨⟨q + 1, by omega, by go_num, hid (by first | exact o3 | simpa [EQ.out] using o3), f1, f2⟩, by simp [intOf]; omega⟩
      · have e' : ((k.O q).up == x) = false := by simpa using e
        have EQ := hid (inX_no e)
        clear e
        go_wp2
        exact ⟨⟨q + 1, by omega, by go_num, hid (by rw [EQ.out]; exact HO.out), A, hB⟩, by simp [intOf]; omega⟩
    · have i1 : ¬ (q : Int) < (k.on : Int) := by omega
      have e : q = k.on := by omega
      have HO2 : Hid (OwnI wr (w.heap.size + 1) u5 (inX k.O x k.on)) := hid (by rw [← e]; exact HO.out)
      clear HO e
      go_wp2
      go_ret
      exact ⟨u5, rfl, HO2.out.low (by omega), hB⟩

/-- the kids of x -/
def kidsL (k : KerV) (x : Int) : List Int := if kerOk k = true then (match findI (fun i => (k.O i).id) k.on x with
  | some u => kidsTo (fun i => (k.O i).id) (fun i => (k.O i).up) k.on u
  | none => []) else []
theorem kerOk_parts {k : KerV} (h : kerOk k = true) : thrsOk k.tn k.T = true ∧ objsOk k.on k.O = true ∧ numsOk k.tn k.T k.on k.O = true ∧ upsOk k.on k.O = true ∧ reachB (fun i => (k.O i).id) (fun i => (k.O i).up) k.on = true := by
  simp only [kerOk, Bool.and_eq_true] at h
  exact ⟨h.1.1.1.1, h.1.1.1.2, h.1.1.2, h.1.2, h.2⟩
theorem ups_found {k : KerV} (h : kerOk k = true) {c : Nat} (hc : c < k.on) (h0 : c ≠ 0) : ∃ u, findI (fun i => (k.O i).id) k.on (k.O c).up = some u := by
  have hu := all_out (kerOk_parts h).2.2.2.1 (c - 1) (by omega)
  have e : c - 1 + 1 = c := by omega
  simp only [e] at hu
  unfold boxAt at hu
  split at hu
  · rename_i u hu'; exact ⟨u, hu'⟩
  · cases hu
theorem kidsL_no {k : KerV} {x : Int} (h : kerOk k = false) : kidsL k x = [] := by simp [kidsL, h]
theorem kidsL_zero {k : KerV} (h : kerOk k = true) : kidsL k 0 = [] := by
  have ho := (kerOk_parts h).2.1
  have : findI (fun i => (k.O i).id) k.on 0 = none := findI_no fun j hj => by have := objsOk_pos ho j hj; omega
  simp [kidsL, h, this]
theorem kidsL_yes {k : KerV} {x : Int} (h : kerOk k = true) (hx : x ≠ 0) : kidsL k x = inX k.O x k.on := by
  have ho := (kerOk_parts h).2.1
  unfold kidsL
  rw [if_pos h]
  cases e : findI (fun i => (k.O i).id) k.on x with
  | some u =>
    obtain ⟨_, rfl⟩ := findI_some e
    rfl
  | none =>
    symm
    show inX k.O x k.on = []
    unfold inX
    rw [List.filter_eq_nil_iff.2, List.map_nil]
    intro j hj
    have hj' := List.mem_range.1 hj
    simp only [beq_iff_eq]
    intro ej
    by_cases j0 : j = 0
    · subst j0; rw [(objsOk_root ho).2.2] at ej; exact hx ej.symm
    · obtain ⟨u, hu⟩ := ups_found h hj' j0
      obtain ⟨u1, u2⟩ := findI_some hu
      exact findI_none e u u1 (by rw [u2]; exact ej)

set_option maxRecDepth 100000 in
set_option maxHeartbeats 4000000 in
theorem specKids_any (k : KerV) (x : Int) (w : World) (hk : k.at w) (hw : ∀ i, i < k.on → (Lit.int .i64 (k.O i).id).wf = true) :
    Calls Try.prog 24 #[k.val, .int .i64 x] w fun e w' => ∃ v, e = .returned v ∧ OwnI w' w.heap.size v (kidsL k x) ∧ Below w.heap.size w w' := by
  have hb0 : Below w.heap.size w (w.alloc (.cells #[.slice k.ta k.tn k.tk, .slice k.oa k.on k.ok] 31)) := (Below.refl _ w).alloc (Nat.le_refl _) _
  have A0 := Blk.new w (.cells #[.slice k.ta k.tn k.tk, .slice k.oa k.on k.ok] 31)
  have HK := hid hk
  have C1 := hid (specKer_any k _ (hk.below hb0) hw)
  unfold KerV.val at C1
  unfold KerV.val
  obtain ⟨x0, x1⟩ := A0.two
  clear hk hw
  go_enter Try.func24, Try.ntmps24
  go_wp2_with fail
  refine C1.out.mono ?_
  rintro e w1 ⟨rfl, hb1⟩
  have A1 := A0.below hb1
  have B1 := then_ hb0 hb1
  clear x0 x1 C1 A0 hb0 hb1
  obtain ⟨x0, x1⟩ := A1.two
  cases t : kerOk k with
  | false =>
    have O1 := hid (OwnI.made w1 w.heap.size B1.size)
    go_wp2
    go_ret
    exact ⟨_, rfl, by rw [kidsL_no t]; exact O1.out, B1.alloc B1.size _⟩
  | true =>
    by_cases h0 : x = 0
    · subst h0
      have O1 := hid (OwnI.made w1 w.heap.size B1.size)
      go_wp2
      go_ret
      exact ⟨_, rfl, by rw [kidsL_zero t]; exact O1.out, B1.alloc B1.size _⟩
    · have h0' : (x == 0) = false := by simpa using h0
      have C2 := hid (l3Kids_any k x w1 (HK.out.below B1) (objsOk_out (kerOk_parts t).2.1).2.1)
      rw [← kidsL_yes t h0] at C2
      unfold KerV.val at C2
      clear h0 t
      go_wp2_with fail
      refine C2.out.mono ?_
      rintro e w2 ⟨v, rfl, o2, hb2⟩
      have O2 := hid (o2.low B1.size)
      have B2 := then_ B1 hb2
      clear o2 hb2 C2 x0 x1
      go_wp2
      go_ret
      exact ⟨v, rfl, O2.out, B2⟩

set_option maxRecDepth 100000 in
set_option maxHeartbeats 4000000 in
theorem implKids_any (k : KerV) (x : Int) (w : World) (hk : k.at w) (hcap : k.on ≤ k.ok) (hw : ∀ i, i < k.on → (Lit.int .i64 (k.O i).id).wf = true ∧ (Lit.int .i64 (k.O i).up).wf = true) (hx : (Lit.int .i64 x).wf = true) :
    Calls Try.prog 25 #[k.val, .int .i64 x] w fun e w' => ∃ v, e = .returned v ∧ OwnI w' w.heap.size v (kidsL k x) ∧ Below w.heap.size w w' := by
  have hb0 : Below w.heap.size w (w.alloc (.cells #[.slice k.ta k.tn k.tk, .slice k.oa k.on k.ok] 31)) := (Below.refl _ w).alloc (Nat.le_refl _) _
  have A0 := Blk.new w (.cells #[.slice k.ta k.tn k.tk, .slice k.oa k.on k.ok] 31)
  have HK := hid hk
  have C1 := hid (implKer_any k _ (hk.below hb0) hcap hw)
  have HW := hid hw
  have HX := hid hx
  unfold KerV.val at C1
  unfold KerV.val
  obtain ⟨x0, x1⟩ := A0.two
  clear hk hw hx
  go_enter Try.func25, Try.ntmps25
  go_wp2_with fail
  refine C1.out.mono ?_
  rintro e w1 ⟨rfl, hb1⟩
  have A1 := A0.below hb1
  have B1 := then_ hb0 hb1
  clear x0 x1 C1 A0 hb0 hb1
  obtain ⟨x0, x1⟩ := A1.two
  cases t : kerOk k with
  | false =>
    go_wp2
    go_ret
    exact ⟨_, rfl, by rw [kidsL_no t]; exact OwnI.nil _ _, B1⟩
  | true =>
    have ho := (kerOk_parts t).2.1
    obtain ⟨on1, on2, _, _⟩ := objsOk_out ho
    obtain ⟨ob, off, eoa, _, _⟩ := HK.out.2.2.2 (by omega)
    have KL : Hid (kidsL k x = (match findI (fun i => (k.O i).id) k.on x with
      | some u => kidsTo (fun i => (k.O i).id) (fun i => (k.O i).up) k.on u
      | none => [])) := hid (by rw [kidsL, if_pos t])
    have C2 := hid (nodesOf_any ob off k.on k.ok k.O w1 on2 (by rw [← eoa]; exact (HK.out.below B1).2.2.2) (objsOk_rises ho) HW.out)
    rw [eoa] at x1
    have EOA := hid eoa
    clear eoa t ho
    go_wp2_with fail
    refine C2.out.mono ?_
    rintro e w2 ⟨c, nb, kv, rfl, hN, hb2⟩
    have HN := hid hN
    have B2 := then_ B1 hb2
    have LK := hN.map.look HX.out
    clear hN C2 hb2 x0 x1
    cases hf : findI (fun i => (k.O i).id) k.on x with
    | none =>
      rw [hf] at LK KL
      simp only [Option.map_none] at LK
      clear hf
      go_wp2
      go_ret
      exact ⟨_, rfl, by rw [KL.out]; exact OwnI.nil _ _, B2⟩
    | some u =>
      obtain ⟨hu, _⟩ := findI_some hf
      rw [hf] at LK KL
      simp only [Option.map_some] at LK
      have y1 : _ = some (kv u) := (HN.out.blk u hu).c0 1 rfl
      have OO : Hid (OwnI w2 w.heap.size (kv u) (kidsL k x)) := hid (by rw [KL.out]; exact (HN.out.own u hu).low B1.size)
      clear hf
      go_wp2
      go_ret
      exact ⟨_, rfl, OO.out, B2⟩
end Go.Proofs.Ytonpoakimpoojaa
