/- l2Put of the model: a rising list with one more. -/
import Derived.Test.YtonpoakimpoojaaGA
namespace Go.Proofs.Ytonpoakimpoojaa
open Go.RowKit Go.Deep Go.Maps

/-- the place of the first that is not below x -/
def putAt (L : List Int) (x : Int) : Nat := L.findIdx (fun y => !decide (y < x))
def putL (L : List Int) (x : Int) : List Int := if L[putAt L x]? = some x then L else L.take (putAt L x) ++ [x] ++ L.drop (putAt L x)

theorem putAt_eq {L : List Int} {x : Int} {k : Nat} (hk : k ≤ L.length) (h1 : ∀ j, j < k → nthI L j < x) (h2 : k = L.length ∨ ¬ nthI L k < x) : putAt L x = k := by
  unfold putAt
  by_cases e : k < L.length
  · rw [List.findIdx_eq e]
    have h3 : ¬ nthI L k < x := by
      rcases h2 with h2 | h2
      · omega
      · exact h2
    refine ⟨?_, fun j hj => ?_⟩
    · simp [nthI, e] at h3; simpa using h3
    · have := h1 j hj
      have hj' : j < L.length := by omega
      simp [nthI, hj'] at this
      simpa using this
  · have ek : k = L.length := by omega
    subst ek
    rw [List.findIdx_eq_length]
    intro y hy
    obtain ⟨j, hj, rfl⟩ := List.getElem_of_mem hy
    have := h1 j hj
    simp [nthI, hj] at this
    simpa using this

set_option maxRecDepth 100000 in
set_option maxHeartbeats 2000000 in
theorem l2Put_any (A : Addr) (cap : Nat) (L : List Int) (x : Int) (w : World) (hn : L.length ≤ 1048576) (hcap : L.length ≤ cap) (hcm : cap ≤ maxLen) (hc : NumL w (some A) L) :
    Calls Try.prog 82 #[.slice (some A) L.length cap, .int .i64 x] w fun e w' => ∃ va vc, e = .returned (.slice va (putL L x).length vc) ∧ OwnI w' w.heap.size (.slice va (putL L x).length vc) (putL L x) ∧ Below w.heap.size w w' := by
  have hi := hc.ints
  unfold maxLen at hcm
  go_enter Try.func82, Try.ntmps82
  go_wp2
  go_loop [5] (fun i => ∃ k : Nat, k ≤ L.length ∧ i = .int .i64 k ∧ (∀ j, j < k → nthI L j < x)) (fun i => L.length - (intOf i).toNat)
  case atStart => exact ⟨0, Nat.zero_le _, rfl, fun j hj => by omega⟩
  case round =>
    obtain ⟨k, hk, rfl, hall⟩ := hrel
    have HA : Hid (∀ j, j < k → nthI L j < x) := hall
    clear hall
    have HC : Hid (NumL w (some A) L) := hc
    by_cases hlt' : k < L.length
    · obtain ⟨b, off, eA, hlt, hcc⟩ := hi (by omega)
      obtain rfl : A = ⟨b, off, none⟩ := by simpa using eA
      have g1 := hcc k hlt'
      have hki : (k : Int) < (L.length : Int) := by omega
      clear hcc hc hi
      by_cases t : nthI L k < x
      · go_wp2
        go_round
        case rel =>
          refine ⟨k + 1, by omega, by go_num, fun j hj => ?_⟩
          by_cases e : j = k
          · subst e; exact t
          · exact HA.out j (by omega)
        case measure => simp [intOf]; omega
      · have ek : putAt L x = k := putAt_eq (by omega) HA.out (.inr t)
        obtain ⟨T, hT⟩ : ∃ T, T = L.take k := ⟨_, rfl⟩
        obtain ⟨D, hD⟩ : ∃ D, D = L.drop k := ⟨_, rfl⟩
        have lT : Hid (T.length = k) := by show _ = _; rw [hT, List.length_take]; omega
        have lD : Hid (D.length = L.length - k) := by show _ = _; rw [hD, List.length_drop]
        obtain ⟨R2, hR2⟩ : ∃ R2, R2 = T ++ [x] := ⟨_, rfl⟩
        obtain ⟨R3, hR3⟩ : ∃ R3, R3 = R2 ++ D := ⟨_, rfl⟩
        have lR3 : Hid (R3.length = L.length + 1) := by show _ = _; rw [hR3, hR2]; simp [lT.out, lD.out]; omega
        have lR2 : Hid (R2.length = k + 1) := by show _ = _; rw [hR2]; simp [lT.out]
        have HT : Hid (T = L.take k) := hT
        have HD : Hid (D = L.drop k) := hD
        have HR2 : Hid (R2 = T ++ [x]) := hR2
        have HR3 : Hid (R3 = R2 ++ D) := hR3
        have HK : Hid (putAt L x = k) := ek
        have ID : NumL w (some ⟨b, off + k, none⟩) D := by rw [hD]; exact HC.out.drop k
        clear hT hD hR2 hR3 ek
        have E0 : Below w.heap.size w (w.alloc (.cells #[] 2)) := (Below.refl _ w).alloc (Nat.le_refl _) _
        have O0 := OwnI.made w w.heap.size (Nat.le_refl _)
        have s0 : (w.alloc (.cells #[] 2)).heap.size = w.heap.size + 1 := by simp
        have ki : (k : Int) ≤ (L.length : Int) := by omega
        have kc : (k : Int) ≤ (cap : Int) := by omega
        cases t2 : (nthI L k == x) with
        | true =>
          have HX : Hid (L[k]? = some x) := by show _ = _; have := beq_iff_eq.1 t2; simp [nthI, hlt'] at this; simp [hlt', this]
          go_wp2_with (at_builtin; refine wpList_append_intsR _ rfl _ _ rfl w.heap.size _ [] rfl O0 _ _ _ L rfl rfl (HC.out.below E0) L (by simp) (by omega) (by simp) ?_; intro a' c' w' hown' hgrow' hat')
          go_ret
          have e : putL L x = L := by unfold putL; rw [HK.out, HX.out]; simp
          rw [e]
          exact ⟨_, _, rfl, hown', E0.grown hgrow' (by simp) (fun j e => by cases e; exact Nat.le_refl _)⟩
        | false =>
          have HX : Hid (¬ L[k]? = some x) := by show ¬ _; have := beq_eq_false_iff_ne.1 t2; simp [nthI, hlt'] at this; simp [hlt', this]
          go_wp2_with (first
            | (at_builtin; have hq := hown2; clear hq; refine wpList_append_intsR _ rfl _ _ rfl w.heap.size (.slice a2 R2.length c2) R2 rfl hown2 _ _ _ D rfl lD.out (ID.below E2) R3 HR3.out (by rw [lR3.out]; omega) E2.size ?_; intro a3 c3 w3 hown3 hgrow3 hat3)
            | (at_builtin; have hq := hown1; clear hq; refine wpList_append_intsR _ rfl _ _ rfl w.heap.size (.slice a1 T.length c1) T rfl (hown1.alloc _) _ _ _ [x] rfl rfl (NumL.one x) R2 HR2.out (by rw [lR2.out]; omega) (Nat.le_trans E1.size (by simp)) ?_; intro a2 c2 w2 hown2 hgrow2 hat2; have E2 : Below w.heap.size w w2 := (E1.alloc E1.size _).grown hgrow2 (Nat.le_trans E1.size (by simp)) (fun j e => (World.ownsRow.lt hown1 j e).1))
            | (at_builtin; refine wpList_append_intsR _ rfl _ _ rfl w.heap.size (.slice (some ⟨w.heap.size, 0, none⟩) 0 0) [] rfl O0 _ _ _ T rfl lT.out ((HT.out ▸ HC.out.take k).below E0) T (by simp) (by rw [lT.out]; omega) (by simp) ?_; intro a1 c1 w1 hown1 hgrow1 hat1; have E1 : Below w.heap.size w w1 := E0.grown hgrow1 (by simp) (fun j e => by cases e; exact Nat.le_refl _)))
          go_ret
          have e : putL L x = R3 := by
            unfold putL
            rw [HK.out, if_neg HX.out, HR3.out, HR2.out, HT.out, HD.out]
          rw [e]
          exact ⟨_, _, rfl, hown3, E2.grown hgrow3 E2.size (fun j e => (World.ownsRow.lt hown2 j e).1)⟩
    · have hkL : k = L.length := by omega
      have ek : putAt L x = k := putAt_eq (by omega) HA.out (.inl hkL)
      have HK : Hid (putAt L x = k) := ek
      have HKL : Hid (k = L.length) := hkL
      obtain ⟨R2, hR2⟩ : ∃ R2, R2 = L ++ [x] := ⟨_, rfl⟩
      have HR2 : Hid (R2 = L ++ [x]) := hR2
      have lR2 : Hid (R2.length = L.length + 1) := by show _ = _; rw [hR2]; simp
      have nk : ¬ (k : Int) < (L.length : Int) := by omega
      clear hR2 ek hkL hc hi
      have E0 : Below w.heap.size w (w.alloc (.cells #[] 2)) := (Below.refl _ w).alloc (Nat.le_refl _) _
      have O0 := OwnI.made w w.heap.size (Nat.le_refl _)
      have kc : (k : Int) ≤ (cap : Int) := by omega
      have fin : Hid (putL L x = R2) := by
        show _ = _
        unfold putL
        rw [HK.out, if_neg (by rw [List.getElem?_eq_none (by have := HKL.out; omega)]; simp), HR2.out, HKL.out]
        simp
      go_wp2_with (first
          | (at_builtin; have hq := hown2; clear hq; refine wpList_append_intsR _ rfl _ _ rfl w.heap.size (.slice a2 R2.length c2) R2 rfl hown2 _ _ _ [] rfl (by have := HKL.out; simp; omega) (NumL.none _ _) R2 (by simp) (by rw [lR2.out]; omega) E2.size ?_; intro a3 c3 w3 hown3 hgrow3 hat3)
          | (at_builtin; have hq := hown1; clear hq; refine wpList_append_intsR _ rfl _ _ rfl w.heap.size (.slice a1 L.length c1) L rfl (hown1.alloc _) _ _ _ [x] rfl rfl (NumL.one x) R2 HR2.out (by rw [lR2.out]; omega) (Nat.le_trans E1.size (by simp)) ?_; intro a2 c2 w2 hown2 hgrow2 hat2; have E2 : Below w.heap.size w w2 := (E1.alloc E1.size _).grown hgrow2 (Nat.le_trans E1.size (by simp)) (fun j e => (World.ownsRow.lt hown1 j e).1))
          | (at_builtin; refine wpList_append_intsR _ rfl _ _ rfl w.heap.size (.slice (some ⟨w.heap.size, 0, none⟩) 0 0) [] rfl O0 _ _ _ L rfl HKL.out.symm (HC.out.below E0) L (by simp) (by omega) (by simp) ?_; intro a1 c1 w1 hown1 hgrow1 hat1; have E1 : Below w.heap.size w w1 := E0.grown hgrow1 (by simp) (fun j e => by cases e; exact Nat.le_refl _)))
      all_goals
        go_ret
        rw [fin.out]
        exact ⟨_, _, rfl, hown3, E2.grown hgrow3 E2.size (fun j e => (World.ownsRow.lt hown2 j e).1)⟩
end Go.Proofs.Ytonpoakimpoojaa
