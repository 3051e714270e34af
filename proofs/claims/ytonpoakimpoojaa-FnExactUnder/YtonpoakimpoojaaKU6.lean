/- Under of the program and of the model answer the plain function underL. -/
import Derived.Test.YtonpoakimpoojaaKU5
namespace Go.Proofs.Ytonpoakimpoojaa
open Go Go.RowKit Go.Deep Go.Maps

/-- x and all below it, rising -/
def underL (k : KerV) (x : Int) : List Int := if kerOk k = true then (match findI (fun i => (k.O i).id) k.on x with
  | some u => sortL ((preI (fun i => (k.O i).id) (fun i => (k.O i).up) k.on k.on u).map (fun i => (k.O i).id))
  | none => []) else []
theorem underL_no {k : KerV} {x : Int} (h : kerOk k = false) : underL k x = [] := by simp [underL, h]
theorem ker_h0 {k : KerV} (h : kerOk k = true) : ∀ j, j < k.on → (fun i => (k.O i).id) j ≠ (fun i => (k.O i).up) 0 := fun j hj => by
  have ho := (kerOk_parts h).2.1
  have := objsOk_pos ho j hj
  have := (objsOk_root ho).2.2
  dsimp only
  omega
theorem ker_noCyc {k : KerV} (h : kerOk k = true) {u : Nat} (hu : u < k.on) : NoCyc (fun i => (k.O i).id) (fun i => (k.O i).up) k.on u := by
  obtain ⟨m, _, e⟩ := reachB_iff.1 (kerOk_parts h).2.2.2.2 u hu
  exact noCyc_of_reach e
theorem underL_len (k : KerV) (x : Int) : (underL k x).length ≤ 271 := by
  unfold underL
  split
  · rename_i h
    obtain ⟨_, h2, _⟩ := objsOk_out (kerOk_parts h).2.1
    split
    · rename_i u hu
      obtain ⟨hu, _⟩ := findI_some hu
      rw [sortL_len, List.length_map]
      have := nodup_len (nodup_pre (objsOk_rises (kerOk_parts h).2.1) (ker_h0 h) (f := k.on) hu (ker_noCyc h hu)) (fun x hx => ((mem_pre (objsOk_rises (kerOk_parts h).2.1) (ker_h0 h) hu).1 hx).1)
      omega
    · simp
  · simp
theorem preI_congr {ids ids' ups ups' : Nat → Int} {n : Nat} (h : ∀ i, i < n → ids' i = ids i) (hu : ∀ i, i < n → ups' i = ups i) (f : Nat) {i : Nat} (hi : i < n) : preI ids' ups' n f i = preI ids ups n f i := by
  induction f generalizing i with
  | zero => rfl
  | succ f ih =>
    simp only [preI]
    rw [kidsI_congr h hu hi]
    congr 1
    rw [List.flatMap_def, List.flatMap_def]
    congr 1
    apply List.map_congr_left
    intro j hj
    exact ih (List.mem_range.1 (List.mem_filter.1 hj).1)
theorem mem_pre_lt {ids ups : Nat → Int} {n f i j : Nat} (hi : i < n) (h : j ∈ preI ids ups n f i) : j < n := by
  induction f generalizing i with
  | zero => simp [preI] at h
  | succ f ih =>
    simp only [preI, List.mem_cons, List.mem_flatMap] at h
    rcases h with rfl | ⟨c, hc, hj⟩
    · exact hi
    · exact ih (List.mem_range.1 (List.mem_filter.1 hc).1) hj
theorem underL_same {k l : KerV} {x : Int} (h : k.same l) : underL l x = underL k x := by
  have e0 := kerOk_same h
  obtain ⟨_, _, h3, h4⟩ := h
  have i1 : ∀ i, i < k.on → (l.O i).id = (k.O i).id := fun i hi => (h4 i hi).1
  have u1 : ∀ i, i < k.on → (l.O i).up = (k.O i).up := fun i hi => (h4 i hi).2.2.1
  unfold underL
  rw [e0, h3, findI_congr i1]
  cases e : findI (fun i => (k.O i).id) k.on x with
  | none => rfl
  | some u =>
    obtain ⟨hu, _⟩ := findI_some e
    have : (preI (fun i => (l.O i).id) (fun i => (l.O i).up) k.on k.on u).map (fun i => (l.O i).id) = (preI (fun i => (k.O i).id) (fun i => (k.O i).up) k.on k.on u).map (fun i => (k.O i).id) := by
      rw [preI_congr i1 u1 k.on hu]
      apply List.map_congr_left
      intro j hj
      exact i1 j (mem_pre_lt hu hj)
    simp only [this]

set_option maxRecDepth 100000 in
set_option maxHeartbeats 4000000 in
theorem specUnder_any (k : KerV) (x : Int) (w : World) (hk : k.at w) (hw : ∀ i, i < k.on → (Lit.int .i64 (k.O i).id).wf = true) :
    Calls Try.prog 29 #[k.val, .int .i64 x] w fun e w' => ∃ v, e = .returned v ∧ OwnI w' w.heap.size v (underL k x) ∧ Below w.heap.size w w' := by
  have hb0 : Below w.heap.size w (w.alloc (.cells #[.slice k.ta k.tn k.tk, .slice k.oa k.on k.ok] 31)) := (Below.refl _ w).alloc (Nat.le_refl _) _
  have A0 := Blk.new w (.cells #[.slice k.ta k.tn k.tk, .slice k.oa k.on k.ok] 31)
  have HK := hid hk
  have C1 := hid (specKer_any k _ (hk.below hb0) hw)
  unfold KerV.val at C1
  unfold KerV.val
  obtain ⟨x0, x1⟩ := A0.two
  clear hk hw
  go_enter Try.func29, Try.ntmps29
  go_wp2_with fail
  refine C1.out.mono ?_
  rintro e w1 ⟨rfl, hb1⟩
  have A1 := A0.below hb1
  have B1 := then_ hb0 hb1
  clear x0 x1 C1 A0 hb0 hb1
  obtain ⟨x0, x1⟩ := A1.two
  cases t : kerOk k with
  | false =>
    have O1 := hid (OwnI.made w1 w.heap.size B1.size)
    go_wp2
    go_ret
    exact ⟨_, rfl, by rw [underL_no t]; exact O1.out, B1.alloc B1.size _⟩
  | true =>
    have UL : Hid (underL k x = (match findI (fun i => (k.O i).id) k.on x with
      | some u => sortL ((preI (fun i => (k.O i).id) (fun i => (k.O i).up) k.on k.on u).map (fun i => (k.O i).id))
      | none => [])) := hid (by rw [underL, if_pos t])
    have C2 := hid (l3Find_any k x w1 (HK.out.below B1))
    unfold KerV.val at C2
    have T := hid t
    clear t
    go_wp2_with fail
    refine C2.out.mono ?_
    rintro e w2 ⟨rfl, hb2⟩
    have A2 := A1.below hb2
    have B2 := then_ B1 hb2
    clear x0 x1 C2 A1 B1 hb2
    obtain ⟨x0, x1⟩ := A2.two
    cases hf : findI (fun i => (k.O i).id) k.on x with
    | none =>
      rw [hf] at UL
      have O1 := hid (OwnI.made w2 w.heap.size B2.size)
      have e3 : idxI none = -1 := rfl
      rw [e3]
      clear hf e3
      go_wp2
      go_ret
      exact ⟨_, rfl, by rw [UL.out]; exact O1.out, B2.alloc B2.size _⟩
    | some u =>
      obtain ⟨hu, rfl⟩ := findI_some hf
      rw [hf] at UL
      have e3 : idxI (some u) = (u : Int) := rfl
      rw [e3]
      have u0 : ¬ (u : Int) < 0 := by omega
      have C3 := hid (l3Under_any k u w2 (HK.out.below B2) (kerOk_parts T.out).2.1 hu (ker_noCyc T.out hu))
      unfold KerV.val at C3
      clear hf e3
      go_wp2_with fail
      refine C3.out.mono ?_
      rintro e w3 ⟨v, rfl, o3, hb3⟩
      have O3 : Hid (OwnI w3 w.heap.size v (underL k (k.O u).id)) := hid (by rw [UL.out]; exact o3.low B2.size)
      have B3 := then_ B2 hb3
      clear o3 hb3 C3 x0 x1
      go_wp2
      go_ret
      exact ⟨v, rfl, O3.out, B3⟩

set_option maxRecDepth 100000 in
set_option maxHeartbeats 4000000 in
theorem implUnder_any (k : KerV) (x : Int) (w : World) (hk : k.at w) (hcap : k.on ≤ k.ok) (hw : ∀ i, i < k.on → (Lit.int .i64 (k.O i).id).wf = true ∧ (Lit.int .i64 (k.O i).up).wf = true) (hx : (Lit.int .i64 x).wf = true) :
    Calls Try.prog 30 #[k.val, .int .i64 x] w fun e w' => ∃ v, e = .returned v ∧ OwnI w' w.heap.size v (underL k x) ∧ Below w.heap.size w w' := by
  have hb0 : Below w.heap.size w (w.alloc (.cells #[.slice k.ta k.tn k.tk, .slice k.oa k.on k.ok] 31)) := (Below.refl _ w).alloc (Nat.le_refl _) _
  have A0 := Blk.new w (.cells #[.slice k.ta k.tn k.tk, .slice k.oa k.on k.ok] 31)
  have HK := hid hk
  have C1 := hid (implKer_any k _ (hk.below hb0) hcap hw)
  have HW := hid hw
  have HX := hid hx
  unfold KerV.val at C1
  unfold KerV.val
  obtain ⟨x0, x1⟩ := A0.two
  clear hk hw hx
  go_enter Try.func30, Try.ntmps30
  go_wp2_with fail
  refine C1.out.mono ?_
  rintro e w1 ⟨rfl, hb1⟩
  have A1 := A0.below hb1
  have B1 := then_ hb0 hb1
  clear x0 x1 C1 A0 hb0 hb1
  obtain ⟨x0, x1⟩ := A1.two
  cases t : kerOk k with
  | false =>
    go_wp2
    go_ret
    exact ⟨_, rfl, by rw [underL_no t]; exact OwnI.nil _ _, B1⟩
  | true =>
    have ho := (kerOk_parts t).2.1
    obtain ⟨on1, on2, _, _⟩ := objsOk_out ho
    obtain ⟨ob, off, eoa, _, _⟩ := HK.out.2.2.2 (by omega)
    have UL : Hid (underL k x = (match findI (fun i => (k.O i).id) k.on x with
      | some u => sortL ((preI (fun i => (k.O i).id) (fun i => (k.O i).up) k.on k.on u).map (fun i => (k.O i).id))
      | none => [])) := hid (by rw [underL, if_pos t])
    have C2 := hid (nodesOf_any ob off k.on k.ok k.O w1 on2 (by rw [← eoa]; exact (HK.out.below B1).2.2.2) (objsOk_rises ho) HW.out)
    rw [eoa] at x1
    have T := hid t
    clear eoa t ho
    go_wp2_with fail
    refine C2.out.mono ?_
    rintro e w2 ⟨c, nb, kv, rfl, hN, hb2⟩
    have HN := hid hN
    have B2 := then_ B1 hb2
    clear hN C2 hb2 x0 x1
    cases hf : findI (fun i => (k.O i).id) k.on x with
    | none =>
      rw [hf] at UL
      have C3 := hid (below_none c k.on _ x w2 HN.out.map HX.out (by rw [hf]; rfl))
      clear hf
      go_wp2_with fail
      refine C3.out.mono ?_
      rintro e w3 ⟨rfl, hb3⟩
      have B3 := then_ B2 hb3
      clear hb3 C3
      go_wp2
      go_ret
      exact ⟨_, rfl, by rw [UL.out]; exact OwnI.nil _ _, B3⟩
    | some u =>
      obtain ⟨hu, rfl⟩ := findI_some hf
      rw [hf] at UL
      have C3 := hid (below_any w2 w1.heap.size c k.on (fun i => (k.O i).id) (fun i => (k.O i).up) ob off nb kv HN.out (objsOk_rises (kerOk_parts T.out).2.1) (ker_h0 T.out) (fun i hi => (HW.out i hi).1) on2 u hu (ker_noCyc T.out hu))
      clear hf
      go_wp2_with fail
      refine C3.out.mono ?_
      rintro e w3 ⟨v, rfl, o3, hb3⟩
      have O3 : Hid (OwnI w3 w.heap.size v (underL k (k.O u).id)) := hid (by rw [UL.out]; exact o3.low B2.size)
      have B3 := then_ B2 hb3
      clear o3 hb3 C3
      go_wp2
      go_ret
      exact ⟨v, rfl, O3.out, B3⟩
end Go.Proofs.Ytonpoakimpoojaa
