/- KidsOf of the program and of the model answer the plain function kidsL. -/
import Derived.Test.YtkoinmddcnnipaaKB10
import Derived.Test.YtkoinmddcnnipaaZ26
import Derived.Test.YtkoinmddcnnipaaZ12
import Derived.Test.YtkoinmddcnnipaaZ8
import Derived.Test.YtkoinmddcnnipaaZ23
namespace Go.Proofs.Ytkoinmddcnnipaa
open Go Go.RowKit Go.Deep Go.Maps
def inX (O : Nat → ObjV) (x : Int) (q : Nat) : List Int := ((List.range q).filter (fun j => (O j).up == x)).map (fun i => (O i).id)
theorem inX_yes {O : Nat → ObjV} {x : Int} {q : Nat} (h : (O q).up = x) : inX O x (q + 1) = inX O x q ++ [(O q).id] := by
  simp [inX, List.range_succ, h]
theorem inX_no {O : Nat → ObjV} {x : Int} {q : Nat} (h : (O q).up ≠ x) : inX O x (q + 1) = inX O x q := by
  simp [inX, List.range_succ, h]
theorem inX_len (O : Nat → ObjV) (x : Int) (q : Nat) : (inX O x q).length ≤ q := by
  unfold inX
  rw [List.length_map]
  exact Nat.le_trans (List.length_filter_le _ _) (by simp)
theorem inX_kids {O : Nat → ObjV} {n u : Nat} : inX O (O u).id n = kidsTo (fun i => (O i).id) (fun i => (O i).up) n u := rfl

theorem Blk.belowG {w w' : World} {P : Nat} {o : Obj} (h : Blk w P o) (hg : w.grownBy w' none) : Blk w' P o := (hg.block P h.lt (by simp)).trans h

set_option maxRecDepth 100000 in
set_option maxHeartbeats 4000000 in
theorem l3Kids_any (k : KerV) (x : Int) (w : World) (hk : k.at w) (hn : k.on ≤ 271) :
    Calls Try.prog 20 #[k.val, .int .i64 x] w fun e w' => ∃ v, e = .returned v ∧ OwnI w' w.heap.size v (inX k.O x k.on) ∧ Below w.heap.size w w' := by
  have hb0 := (Below.refl _ w).alloc (Nat.le_refl _) (.cells #[.slice k.ta k.tn k.tk, .slice k.oa k.on k.ok] 27)
  have A0 := Blk.new w (.cells #[.slice k.ta k.tn k.tk, .slice k.oa k.on k.ok] 27)
  have bm := hb0.alloc hb0.size (.cells #[] 2)
  have A1 := A0.alloc (.cells #[] 2)
  have O1 := OwnI.made (w.alloc (.cells #[.slice k.ta k.tn k.tk, .slice k.oa k.on k.ok] 27)) (w.heap.size + 1) (by simp)
  have HT := hid hk
  unfold KerV.val
  clear hk
  go_enter Try.func20, Try.ntmps20
  go_wp2
  generalize hW : ((w.alloc (.cells #[.slice k.ta k.tn k.tk, .slice k.oa k.on k.ok] 27)).alloc (.cells #[] 2)) = W at *
  have O2 : OwnI W (w.heap.size + 1) (.slice (some ⟨w.heap.size + 1, 0, none⟩) 0 0) [] := by simpa using O1
  clear hW hb0 A0 O1
  go_loopw [5, 6] (fun v i wr => ∃ q : Nat, q ≤ k.on ∧ i = .int .i64 q ∧ Hid (OwnI wr (w.heap.size + 1) v (inX k.O x q)) ∧ Blk wr w.heap.size (.cells #[.slice k.ta k.tn k.tk, .slice k.oa k.on k.ok] 27) ∧ Below w.heap.size w wr) (fun _ i _ => k.on - (intOf i).toNat)
  case atStart => exact ⟨0, Nat.zero_le _, rfl, hid O2, A1, bm⟩
  case round =>
    clear O2 A1 bm
    obtain ⟨q, hq, rfl, HO, A, hB⟩ := hrel
    obtain ⟨x0, x1⟩ := A.two
    by_cases hlt : q < k.on
    · obtain ⟨b, off, ea, hlt0, hcc⟩ := HT.out.2.2.2.below hB (by omega)
      have q0 := (hcc q hlt).1.c0
      have q2 := (hcc q hlt).1.c2
      rw [ea] at x1
      have i1 : (q : Int) < (k.on : Int) := by omega
      clear hcc ea
      by_cases e : (k.O q).up = x
      · have e' : ((k.O q).up == x) = true := by simpa using e
        have EQ := hid (inX_yes e)
        have hl := inX_len k.O x q
        have B1 : Below w.heap.size w (wr.alloc (.cells #[.int .i64 (k.O q).id] 2)) := hB.alloc hB.size _
        have AA := A.alloc (.cells #[.int .i64 (k.O q).id] 2)
        have OA := hid (OwnI.alloc HO.out (.cells #[.int .i64 (k.O q).id] 2))
        have L1 := hid (NumL.one (w := wr) (k.O q).id)
        have s1 : w.heap.size + 1 ≤ (wr.alloc (.cells #[.int .i64 (k.O q).id] 2)).heap.size := by have := A.lt; simp; omega
        have FIN : Hid (∀ w3 : World, (wr.alloc (.cells #[.int .i64 (k.O q).id] 2)).grownBy w3 u5.ownBlock → Blk w3 w.heap.size (.cells #[.slice k.ta k.tn k.tk, .slice k.oa k.on k.ok] 27) ∧ Below w.heap.size w w3) := hid (fun w3 g3 => ⟨AA.grown g3 (fun e => by have := (World.ownsRow.lt OA.out _ e.symm).1; omega), B1.trans (below_grown g3 B1.size (fun j hj => by have := (World.ownsRow.lt OA.out j hj).1; omega))⟩)
        clear e HO
        go_wp2_with (refine wpList_append_ints _ rfl _ _ rfl (w.heap.size + 1) u5 (inX k.O x q) rfl OA.out _ 1 1 [(k.O q).id] rfl rfl L1.out (by omega) s1 ?_; intro a3 c3 w3 o3 g3 v3)
        rw [← EQ.out] at o3
        obtain ⟨f1, f2⟩ := FIN.out w3 g3
        exact ⟨⟨q + 1, by omega, by go_num, hid (by first | exact o3 | simpa [EQ.out] using o3), f1, f2⟩, by simp [intOf]; omega⟩
      · have e' : ((k.O q).up == x) = false := by simpa using e
        have EQ := hid (inX_no e)
        clear e
        go_wp2
        exact ⟨⟨q + 1, by omega, by go_num, hid (by rw [EQ.out]; exact HO.out), A, hB⟩, by simp [intOf]; omega⟩
    · have i1 : ¬ (q : Int) < (k.on : Int) := by omega
      have e : q = k.on := by omega
      have HO2 : Hid (OwnI wr (w.heap.size + 1) u5 (inX k.O x k.on)) := hid (by rw [← e]; exact HO.out)
      clear HO e
      go_wp2
      go_ret
      exact ⟨u5, rfl, HO2.out.low (by omega), hB⟩
def kidsL (k : KerV) (x : Int) : List Int := if kerOk k = true then (match findI (fun i => (k.O i).id) k.on x with
  | some u => kidsTo (fun i => (k.O i).id) (fun i => (k.O i).up) k.on u
  | none => []) else []
theorem kerOk_parts {k : KerV} (h : kerOk k = true) : thrsOk k.tn k.T = true ∧ objsOk k.on k.O = true ∧ numsOk k.tn k.T k.on k.O = true ∧ upsOk k.on k.O = true ∧ reachB (fun i => (k.O i).id) (fun i => (k.O i).up) k.on = true := by
  simp only [kerOk, Bool.and_eq_true] at h
  exact ⟨h.1.1.1.1, h.1.1.1.2, h.1.1.2, h.1.2, h.2⟩
theorem ups_found {k : KerV} (h : kerOk k = true) {c : Nat} (hc : c < k.on) (h0 : c ≠ 0) : ∃ u, findI (fun i => (k.O i).id) k.on (k.O c).up = some u := by
  have hu := all_out (kerOk_parts h).2.2.2.1 (c - 1) (by omega)
  have e : c - 1 + 1 = c := by omega
  simp only [e] at hu
  unfold boxAt at hu
  split at hu
  · rename_i u hu'; exact ⟨u, hu'⟩
  · cases hu
theorem kidsL_no {k : KerV} {x : Int} (h : kerOk k = false) : kidsL k x = [] := by simp [kidsL, h]
theorem kidsL_zero {k : KerV} (h : kerOk k = true) : kidsL k 0 = [] := by
  have ho := (kerOk_parts h).2.1
  have : findI (fun i => (k.O i).id) k.on 0 = none := findI_no fun j hj => by have := objsOk_pos ho j hj; omega
  simp [kidsL, h, this]
theorem kidsL_yes {k : KerV} {x : Int} (h : kerOk k = true) (hx : x ≠ 0) : kidsL k x = inX k.O x k.on := by
  have ho := (kerOk_parts h).2.1
  unfold kidsL
  rw [if_pos h]
  cases e : findI (fun i => (k.O i).id) k.on x with
  | some u =>
    obtain ⟨_, rfl⟩ := findI_some e
    rfl
  | none =>
    symm
    show inX k.O x k.on = []
    unfold inX
    rw [List.filter_eq_nil_iff.2, List.map_nil]
    intro j hj
    have hj' := List.mem_range.1 hj
    simp only [beq_iff_eq]
    intro ej
    by_cases j0 : j = 0
    · subst j0; rw [(objsOk_root ho).2.2] at ej; exact hx ej.symm
    · obtain ⟨u, hu⟩ := ups_found h hj' j0
      obtain ⟨u1, u2⟩ := findI_some hu
      exact findI_none e u u1 (by rw [u2]; exact ej)

set_option maxRecDepth 100000 in
set_option maxHeartbeats 4000000 in
theorem specKids_any (k : KerV) (x : Int) (w : World) (hk : k.at w) (hw : ∀ i, i < k.on → (Lit.int .i64 (k.O i).id).wf = true) :
    Calls Try.prog 10 #[k.val, .int .i64 x] w fun e w' => ∃ v, e = .returned v ∧ OwnI w' w.heap.size v (kidsL k x) ∧ Below w.heap.size w w' := by
  have hb0 : Below w.heap.size w (w.alloc (.cells #[.slice k.ta k.tn k.tk, .slice k.oa k.on k.ok] 27)) := (Below.refl _ w).alloc (Nat.le_refl _) _
  have A0 := Blk.new w (.cells #[.slice k.ta k.tn k.tk, .slice k.oa k.on k.ok] 27)
  have HK := hid hk
  have C1 := hid (specKer_any k _ (hk.below hb0) hw)
  unfold KerV.val at C1
  unfold KerV.val
  obtain ⟨x0, x1⟩ := A0.two
  clear hk hw
  go_enter Try.func10, Try.ntmps10
  go_wp2_with fail
  refine C1.out.mono ?_
  rintro e w1 ⟨rfl, hb1⟩
  have A1 := A0.below hb1
  have B1 := then_ hb0 hb1
  clear x0 x1 C1 A0 hb0 hb1
  obtain ⟨x0, x1⟩ := A1.two
  cases t : kerOk k with
  | false =>
    have O1 := hid (OwnI.made w1 w.heap.size B1.size)
    go_wp2
    go_ret
    exact ⟨_, rfl, by rw [kidsL_no t]; exact O1.out, B1.alloc B1.size _⟩
  | true =>
    by_cases h0 : x = 0
    · subst h0
      have O1 := hid (OwnI.made w1 w.heap.size B1.size)
      go_wp2
      go_ret
      exact ⟨_, rfl, by rw [kidsL_zero t]; exact O1.out, B1.alloc B1.size _⟩
    · have h0' : (x == 0) = false := by simpa using h0
      have C2 := hid (l3Kids_any k x w1 (HK.out.below B1) (objsOk_out (kerOk_parts t).2.1).2.1)
      rw [← kidsL_yes t h0] at C2
      unfold KerV.val at C2
      clear h0 t
      go_wp2_with fail
      refine C2.out.mono ?_
      rintro e w2 ⟨v, rfl, o2, hb2⟩
      have O2 := hid (o2.low B1.size)
      have B2 := then_ B1 hb2
      clear o2 hb2 C2 x0 x1
      go_wp2
      go_ret
      exact ⟨v, rfl, O2.out, B2⟩

set_option maxRecDepth 100000 in
set_option maxHeartbeats 4000000 in
theorem implKids_any (k : KerV) (x : Int) (w : World) (hk : k.at w) (hcap : k.on ≤ k.ok) (hw : ∀ i, i < k.on → (Lit.int .i64 (k.O i).id).wf = true ∧ (Lit.int .i64 (k.O i).up).wf = true) (hx : (Lit.int .i64 x).wf = true) :
    Calls Try.prog 7 #[k.val, .int .i64 x] w fun e w' => ∃ v, e = .returned v ∧ OwnI w' w.heap.size v (kidsL k x) ∧ Below w.heap.size w w' := by
  have hb0 : Below w.heap.size w (w.alloc (.cells #[.slice k.ta k.tn k.tk, .slice k.oa k.on k.ok] 27)) := (Below.refl _ w).alloc (Nat.le_refl _) _
  have A0 := Blk.new w (.cells #[.slice k.ta k.tn k.tk, .slice k.oa k.on k.ok] 27)
  have HK := hid hk
  have C1 := hid (implKer_any k _ (hk.below hb0) hcap hw)
  have HW := hid hw
  have HX := hid hx
  unfold KerV.val at C1
  unfold KerV.val
  obtain ⟨x0, x1⟩ := A0.two
  clear hk hw hx
  go_enter Try.func7, Try.ntmps7
  go_wp2_with fail
  refine C1.out.mono ?_
  rintro e w1 ⟨rfl, hb1⟩
  have A1 := A0.below hb1
  have B1 := then_ hb0 hb1
  clear x0 x1 C1 A0 hb0 hb1
  obtain ⟨x0, x1⟩ := A1.two
  cases t : kerOk k with
  | false =>
    go_wp2
    go_ret
    exact ⟨_, rfl, by rw [kidsL_no t]; exact OwnI.nil _ _, B1⟩
  | true =>
    have ho := (kerOk_parts t).2.1
    obtain ⟨on1, on2, _, _⟩ := objsOk_out ho
    obtain ⟨ob, off, eoa, _, _⟩ := HK.out.2.2.2 (by omega)
    have KL : Hid (kidsL k x = (match findI (fun i => (k.O i).id) k.on x with
      | some u => kidsTo (fun i => (k.O i).id) (fun i => (k.O i).up) k.on u
      | none => [])) := hid (by rw [kidsL, if_pos t])
    have C2 := hid (nodesOf_any ob off k.on k.ok k.O w1 on2 (by rw [← eoa]; exact (HK.out.below B1).2.2.2) (objsOk_rises ho) HW.out)
    rw [eoa] at x1
    have EOA := hid eoa
    clear eoa t ho
    go_wp2_with fail
    refine C2.out.mono ?_
    rintro e w2 ⟨c, nb, kv, rfl, hN, hb2⟩
    have HN := hid hN
    have B2 := then_ B1 hb2
    have LK := hN.map.look HX.out
    clear hN C2 hb2 x0 x1
    cases hf : findI (fun i => (k.O i).id) k.on x with
    | none =>
      rw [hf] at LK KL
      simp only [Option.map_none] at LK
      clear hf
      go_wp2
      go_ret
      exact ⟨_, rfl, by rw [KL.out]; exact OwnI.nil _ _, B2⟩
    | some u =>
      obtain ⟨hu, _⟩ := findI_some hf
      rw [hf] at LK KL
      simp only [Option.map_some] at LK
      have y1 : _ = some (kv u) := (HN.out.blk u hu).c0 1 rfl
      have OO : Hid (OwnI w2 w.heap.size (kv u) (kidsL k x)) := hid (by rw [KL.out]; exact (HN.out.own u hu).low B1.size)
      clear hf
      go_wp2
      go_ret
      exact ⟨_, rfl, OO.out, B2⟩
end Go.Proofs.Ytkoinmddcnnipaa
namespace Go.Proofs.Ytkoinmddcnnipaa
open Go Go.RowKit Go.Deep Go.Maps

theorem RowI.of_own' {w : World} {B k : Nat} {a : Option Addr} {l : List Int} (h : OwnI w B (.slice a l.length k) l) : ∃ b, RowI w a b l.length ∧ B ≤ b := by
  obtain ⟨b, h1, h2⟩ := RowI.of_own h
  by_cases e : 0 < l.length
  · exact ⟨b, h1, h2 e⟩
  · exact ⟨B, fun h => absurd h e, Nat.le_refl _⟩
theorem kidsL_len (k : KerV) (x : Int) : (kidsL k x).length ≤ 271 := by
  unfold kidsL
  split
  · rename_i h
    obtain ⟨_, h2, _⟩ := objsOk_out (kerOk_parts h).2.1
    split
    · rename_i u _
      have := kidsTo_len (fun i => (k.O i).id) (fun i => (k.O i).up) k.on u
      omega
    · simp
  · simp
theorem kidsL_same {k l : KerV} {x : Int} (h : k.same l) : kidsL l x = kidsL k x := by
  have e0 := kerOk_same h
  obtain ⟨_, _, h3, h4⟩ := h
  have i1 : ∀ i, i < k.on → (l.O i).id = (k.O i).id := fun i hi => (h4 i hi).1
  have u1 : ∀ i, i < k.on → (l.O i).up = (k.O i).up := fun i hi => (h4 i hi).2.2.1
  unfold kidsL
  rw [e0, h3, findI_congr i1]
  cases e : findI (fun i => (k.O i).id) k.on x with
  | none => rfl
  | some u =>
    obtain ⟨hu, _⟩ := findI_some e
    have : kidsTo (fun i => (l.O i).id) (fun i => (l.O i).up) k.on u = kidsTo (fun i => (k.O i).id) (fun i => (k.O i).up) k.on u := by
      rw [kidsTo_map, kidsTo_map, kidsI_congr i1 u1 hu]
      apply List.map_congr_left
      intro j hj
      exact i1 j (List.mem_range.1 (List.mem_filter.1 hj).1)
    simp only [this]
end Go.Proofs.Ytkoinmddcnnipaa
namespace Go.Proofs.Ytkoinmddcnnipaa


theorem putL_len (L : List Int) (x : Int) : (putL L x).length ≤ L.length + 1 := by
  unfold putL
  split
  · omega
  · simp; omega

theorem putL_pos (L : List Int) (x : Int) : 0 < (putL L x).length := by
  unfold putL
  split
  · rename_i h
    have := (List.getElem?_eq_some_iff.1 h).1
    omega
  · simp; omega

theorem putL_mem {L : List Int} {x y : Int} (h : y ∈ putL L x) : y ∈ L ∨ y = x := by
  unfold putL at h
  split at h
  · exact .inl h
  · rw [List.mem_append, List.mem_append, List.mem_singleton] at h
    rcases h with (h | h) | h
    · exact .inl (List.mem_of_mem_take h)
    · exact .inr h
    · exact .inl (List.mem_of_mem_drop h)

theorem putL_rise {L : List Int} {x : Int} (h : L.Pairwise (· < ·)) : (putL L x).Pairwise (· < ·) := by
  unfold putL
  split
  · exact h
  · rename_i hx
    have hlo : ∀ y ∈ L.take (putAt L x), y < x := by
      intro y hy
      obtain ⟨j, hj, rfl⟩ := List.getElem_of_mem hy
      have hj' : j < putAt L x := by simp at hj; omega
      have := List.not_of_lt_findIdx hj'
      simp at this
      simpa using this
    have hhi : ∀ y ∈ L.drop (putAt L x), x < y := by
      intro y hy
      obtain ⟨j, hj, rfl⟩ := List.getElem_of_mem hy
      rw [List.getElem_drop]
      have hlen : putAt L x < L.length := by simp at hj; omega
      have h0 : ¬ L[putAt L x] < x := by
        have := List.findIdx_getElem (xs := L) (p := fun y => !decide (y < x)) (w := hlen)
        unfold putAt
        simpa using this
      have h1 : L[putAt L x] ≠ x := fun e => hx (by rw [List.getElem?_eq_getElem hlen, e])
      by_cases ej : j = 0
      · subst ej
        simp
        omega
      · have := List.pairwise_iff_getElem.1 h (putAt L x) (putAt L x + j) hlen (by simp at hj; omega) (by omega)
        omega
    rw [List.append_assoc, List.pairwise_append]
    refine ⟨h.sublist (List.take_sublist _ _), ?_, ?_⟩
    · rw [List.singleton_append, List.pairwise_cons]
      exact ⟨hhi, h.sublist (List.drop_sublist _ _)⟩
    · intro y hy z hz
      have h1 := hlo y hy
      rw [List.singleton_append, List.mem_cons] at hz
      rcases hz with rfl | hz
      · exact h1
      · have := hhi z hz; omega
theorem putL_in {L : List Int} {x y : Int} : y ∈ putL L x ↔ y ∈ L ∨ y = x := by
  refine ⟨putL_mem, fun h => ?_⟩
  unfold putL
  split
  · rename_i e
    rcases h with h | rfl
    · exact h
    · exact List.mem_of_getElem? e
  · rcases h with h | rfl
    · rw [← List.take_append_drop (putAt L x) L] at h
      rcases List.mem_append.1 h with h | h
      · exact List.mem_append_left _ (List.mem_append_left _ h)
      · exact List.mem_append_right _ h
    · simp
theorem rise_ext : ∀ {l m : List Int}, l.Pairwise (· < ·) → m.Pairwise (· < ·) → (∀ x, x ∈ l ↔ x ∈ m) → l = m
  | [], [], _, _, _ => rfl
  | [], b :: m, _, _, h => by have := (h b).2 List.mem_cons_self; cases this
  | a :: l, [], _, _, h => by have := (h a).1 List.mem_cons_self; cases this
  | a :: l, b :: m, h1, h2, h => by
    obtain ⟨a1, a2⟩ := List.pairwise_cons.1 h1
    obtain ⟨b1, b2⟩ := List.pairwise_cons.1 h2
    have e : a = b := by
      rcases List.mem_cons.1 ((h a).1 List.mem_cons_self) with e | e
      · exact e
      · rcases List.mem_cons.1 ((h b).2 List.mem_cons_self) with e' | e'
        · exact e'.symm
        · have := a1 b e'; have := b1 a e; omega
    subst e
    rw [rise_ext a2 b2 fun x => ?_]
    constructor
    · intro hx
      rcases List.mem_cons.1 ((h x).1 (List.mem_cons_of_mem _ hx)) with e | e
      · subst e; have := a1 x hx; omega
      · exact e
    · intro hx
      rcases List.mem_cons.1 ((h x).2 (List.mem_cons_of_mem _ hx)) with e | e
      · subst e; have := b1 x hx; omega
      · exact e
theorem sortL_mem {l : List Int} {x : Int} : x ∈ sortL l ↔ x ∈ l := (List.mergeSort_perm l _).mem_iff
theorem sortL_rise {l : List Int} (h : l.Nodup) : (sortL l).Pairwise (· < ·) := by
  have h1 : (sortL l).Pairwise (fun a b => a ≤ b) := by
    have := List.pairwise_mergeSort (le := fun (x y : Int) => decide (x ≤ y)) (fun a b c h1 h2 => by simp at *; omega) (fun a b => by simp; omega) l
    exact this.imp (fun h => by simpa using h)
  have h2 : (sortL l).Nodup := (List.mergeSort_perm l _).nodup_iff.2 h
  exact (h1.and h2).imp (fun {a b} ⟨h3, h4⟩ => by omega)
def putAll (L : List Int) : List Int := L.foldl putL []
theorem putAll_rise (L : List Int) : (putAll L).Pairwise (· < ·) := by
  unfold putAll
  have : ∀ (M : List Int), M.Pairwise (· < ·) → (L.foldl putL M).Pairwise (· < ·) := by
    induction L with
    | nil => intro M h; exact h
    | cons a L ih => intro M h; exact ih _ (putL_rise h)
  exact this [] List.Pairwise.nil
theorem putAll_mem (L : List Int) (x : Int) : x ∈ putAll L ↔ x ∈ L := by
  unfold putAll
  have : ∀ (M : List Int), x ∈ L.foldl putL M ↔ x ∈ M ∨ x ∈ L := by
    induction L with
    | nil => intro M; simp
    | cons a L ih => intro M; rw [List.foldl_cons, ih, putL_in, List.mem_cons]; exact or_assoc
  rw [this []]
  simp
theorem putAll_len (L : List Int) : (putAll L).length ≤ L.length := by
  unfold putAll
  have : ∀ (M : List Int), (L.foldl putL M).length ≤ M.length + L.length := by
    induction L with
    | nil => intro M; simp
    | cons a L ih => intro M; rw [List.foldl_cons]; have := ih (putL M a); have := putL_len M a; simp only [List.length_cons]; omega
  simpa using this []

section
variable {ids ups : Nat → Int} {n u : Nat}
structure Bfs (ids ups : Nat → Int) (n u t : Nat) (Q : List Nat) : Prop where
  nodup : Q.Nodup
  head : Q[0]? = some u
  mem : ∀ j ∈ Q, j < n ∧ ∃ m, parIt ids ups n m j = some u
  closed : ∀ s a, s < t → Q[s]? = some a → ∀ c ∈ kidsI ids ups n a, c ∈ Q
  origin : ∀ s c, 0 < s → Q[s]? = some c → ∃ r a, r < t ∧ Q[r]? = some a ∧ par ids ups n c = some a
theorem Bfs.start (hu : u < n) : Bfs ids ups n u 0 [u] := by
  refine ⟨by simp, rfl, fun j hj => ?_, fun s a hs => by omega, fun s c hs e => ?_⟩
  · simp at hj; subst hj; exact ⟨hu, 0, rfl⟩
  · cases s with
    | zero => omega
    | succ s => simp at e
theorem Bfs.step (hr : Rises ids n) (h0 : ∀ j, j < n → ids j ≠ ups 0) (hc : NoCyc ids ups n u) {t a : Nat} {Q : List Nat} (h : Bfs ids ups n u t Q) (ht : Q[t]? = some a) : Bfs ids ups n u (t + 1) (Q ++ kidsI ids ups n a) := by
  have hta : t < Q.length := (List.getElem?_eq_some_iff.1 ht).1
  obtain ⟨han, ma, hma⟩ := h.mem a (List.mem_of_getElem? ht)
  have kid : ∀ c, c ∈ kidsI ids ups n a → c < n ∧ par ids ups n c = some a := fun c hc => (mem_kids hr h0 han).1 hc
  have old : ∀ {s x}, Q[s]? = some x → (Q ++ kidsI ids ups n a)[s]? = some x := fun {s x} e => by
    rw [List.getElem?_append_left (List.getElem?_eq_some_iff.1 e).1]; exact e
  refine ⟨?_, old h.head, fun j hj => ?_, fun s b hs e c hcb => ?_, fun s c hs e => ?_⟩
  · rw [List.nodup_append]
    refine ⟨h.nodup, List.Nodup.sublist List.filter_sublist List.nodup_range, fun x hx y hy exy => ?_⟩
    subst exy
    obtain ⟨_, px⟩ := kid x hy
    obtain ⟨s, hs, es⟩ := List.getElem_of_mem hx
    by_cases s0 : s = 0
    · subst s0
      have : x = u := by have := h.head; rw [List.getElem?_eq_getElem hs, es] at this; simpa using this
      subst this
      exact hc ma (by simp only [parIt, px, Option.bind_some]; exact hma)
    · obtain ⟨r, b, hrt, hb, pb⟩ := h.origin s x (by omega) (by rw [List.getElem?_eq_getElem hs, es])
      rw [px] at pb
      have eab : a = b := by simpa using pb
      subst eab
      have hrl := (List.getElem?_eq_some_iff.1 hb).1
      have e1 := (List.getElem?_eq_some_iff.1 hb).2
      have e2 := (List.getElem?_eq_some_iff.1 ht).2
      have := (List.getElem_inj (h₀ := hrl) (h₁ := hta) h.nodup).1 (e1.trans e2.symm)
      omega
  · rcases List.mem_append.1 hj with hj | hj
    · exact h.mem j hj
    · obtain ⟨h1, h2⟩ := kid j hj
      exact ⟨h1, ma + 1, by simp only [parIt, h2, Option.bind_some]; exact hma⟩
  · by_cases est : s = t
    · subst est
      rw [old ht] at e
      have : a = b := by simpa using e
      subst this
      exact List.mem_append_right _ hcb
    · have hsl : s < Q.length := by omega
      rw [List.getElem?_append_left hsl] at e
      exact List.mem_append_left _ (h.closed s b (by omega) e c hcb)
  · by_cases hsl : s < Q.length
    · rw [List.getElem?_append_left hsl] at e
      obtain ⟨r, b, h1, h2, h3⟩ := h.origin s c hs e
      exact ⟨r, b, by omega, old h2, h3⟩
    · rw [List.getElem?_append_right (by omega)] at e
      exact ⟨t, a, by omega, old ht, (kid c (List.mem_of_getElem? e)).2⟩
theorem Bfs.len {t : Nat} {Q : List Nat} (h : Bfs ids ups n u t Q) : Q.length ≤ n := nodup_len h.nodup (fun x hx => (h.mem x hx).1)
theorem Bfs.all (hr : Rises ids n) (h0 : ∀ j, j < n → ids j ≠ ups 0) {Q : List Nat} (h : Bfs ids ups n u Q.length Q) (j : Nat) : j ∈ Q ↔ j < n ∧ ∃ m, parIt ids ups n m j = some u := by
  refine ⟨h.mem j, ?_⟩
  rintro ⟨hj, m, e⟩
  induction m generalizing j with
  | zero =>
    simp only [parIt, Option.some.injEq] at e
    subst e
    exact List.mem_of_getElem? h.head
  | succ m ih =>
    simp only [parIt] at e
    cases ep : par ids ups n j with
    | none => simp [ep] at e
    | some p =>
      simp only [ep, Option.bind_some] at e
      have hp := ih p (par_lt ep) e
      obtain ⟨s, hs, es⟩ := List.getElem_of_mem hp
      exact h.closed s p hs (by rw [List.getElem?_eq_getElem hs, es]) j ((mem_kids hr h0 (par_lt ep)).2 ⟨hj, ep⟩)
theorem bfs_pre (hr : Rises ids n) (h0 : ∀ j, j < n → ids j ≠ ups 0) (hu : u < n) (hc : NoCyc ids ups n u) {Q : List Nat} (h : Bfs ids ups n u Q.length Q) : putAll (Q.map ids) = sortL ((preI ids ups n n u).map ids) := by
  have inj : ∀ {l : List Nat}, l.Nodup → (∀ x ∈ l, x < n) → (l.map ids).Nodup := fun {l} hl hx => by
    rw [List.Nodup, List.pairwise_map]
    refine List.Pairwise.imp_of_mem ?_ hl
    intro a b ha hb hab e
    exact hab (hr.inj (hx a ha) (hx b hb) e)
  refine rise_ext (putAll_rise _) (sortL_rise (inj (nodup_pre hr h0 hu hc) (fun x hx => ((mem_pre hr h0 hu).1 hx).1))) fun x => ?_
  rw [putAll_mem, sortL_mem, List.mem_map, List.mem_map]
  constructor
  · rintro ⟨j, hj, rfl⟩
    obtain ⟨h1, m, h2⟩ := h.mem j hj
    exact ⟨j, (mem_pre hr h0 hu).2 ⟨h1, m, height hc h1 h2, h2⟩, rfl⟩
  · rintro ⟨j, hj, rfl⟩
    obtain ⟨h1, m, _, h2⟩ := (mem_pre hr h0 hu).1 hj
    exact ⟨j, (h.all hr h0 j).2 ⟨h1, m, h2⟩, rfl⟩
end
end Go.Proofs.Ytkoinmddcnnipaa
