/- l2Put of the model: a rising list with one more. -/
import Derived.Test.YthbmfbnnemgbpaaGreatDoorZ6
import Derived.Test.YthbmfbnnemgbpaaGreatDoorNC6
import Derived.Test.YthbmfbnnemgbpaaGreatDoorProg
import Derived.Shelf.SortM.Plain
import Derived.Shelf.SortM.SortNone
import Derived.Ground.SlgmProg
import Derived.Sort.OwnSortedInts
import Derived.Test.YthbmfbnnemgbpaaGreatDoorZ2
import Derived.Test.YthbmfbnnemgbpaaGreatDoorKB10
import Derived.Test.YthbmfbnnemgbpaaGreatDoorZ13
namespace Go.Proofs.YthbmfbnnemgbpaaGreatDoor
open Go.RowKit Go.Deep Go.Maps
def putAt (L : List Int) (x : Int) : Nat := L.findIdx (fun y => !decide (y < x))
def putL (L : List Int) (x : Int) : List Int := if L[putAt L x]? = some x then L else L.take (putAt L x) ++ [x] ++ L.drop (putAt L x)
theorem putAt_eq {L : List Int} {x : Int} {k : Nat} (hk : k ≤ L.length) (h1 : ∀ j, j < k → nthI L j < x) (h2 : k = L.length ∨ ¬ nthI L k < x) : putAt L x = k := by
 unfold putAt
 by_cases e : k < L.length
 ·rw [List.findIdx_eq e]
  have h3 : ¬ nthI L k < x := by
   rcases h2 with h2 | h2
   ·omega
   ·exact h2
  refine ⟨?_, fun j hj => ?_⟩
  ·simp [nthI, e] at h3; simpa using h3
  ·have := h1 j hj
   have hj' : j < L.length := by omega
   simp [nthI, hj'] at this
   simpa using this
 ·have ek : k = L.length := by omega
  subst ek
  rw [List.findIdx_eq_length]
  intro y hy
  obtain ⟨j, hj, rfl⟩ := List.getElem_of_mem hy
  have := h1 j hj
  simp [nthI, hj] at this
  simpa using this
set_option maxRecDepth 100000 in
set_option maxHeartbeats 2000000 in
theorem l2Put_any (A : Addr) (cap : Nat) (L : List Int) (x : Int) (w : World) (hn : L.length ≤ 1048576) (hcap : L.length ≤ cap) (hcm : cap ≤ maxLen) (hc : NumL w (some A) L) :
 Calls Tryz.prog 89 #[.slice (some A) L.length cap, .int .i64 x] w fun e w' => ∃ va vc, e = .returned (.slice va (putL L x).length vc) ∧ OwnI w' w.heap.size (.slice va (putL L x).length vc) (putL L x) ∧ Below w.heap.size w w' := by
 have hi := hc.ints
 unfold maxLen at hcm
 go_enter Tryz.func89, Tryz.ntmps89
 go_wp2
 go_loop [5] (fun i => ∃ k : Nat, k ≤ L.length ∧ i = .int .i64 k ∧ (∀ j, j < k → nthI L j < x)) (fun i => L.length - (intOf i).toNat)
 case atStart => exact ⟨0, Nat.zero_le _, rfl, fun j hj => by omega⟩
 case round =>
  obtain ⟨k, hk, rfl, hall⟩ := hrel
  have HA : Hid (∀ j, j < k → nthI L j < x) := hall
  clear hall
  have HC : Hid (NumL w (some A) L) := hc
  by_cases hlt' : k < L.length
  ·obtain ⟨b, off, eA, hlt, hcc⟩ := hi (by omega)
   obtain rfl : A = ⟨b, off, none⟩ := by simpa using eA
   have g1 := hcc k hlt'
   have hki : (k : Int) < (L.length : Int) := by omega
   clear hcc hc hi
   by_cases t : nthI L k < x
   ·go_wp2
    go_round
    case rel =>
     refine ⟨k + 1, by omega, by go_num, fun j hj => ?_⟩
     by_cases e : j = k
     ·subst e; exact t
     ·exact HA.out j (by omega)
    case measure => simp [intOf]; omega
   ·have ek : putAt L x = k := putAt_eq (by omega) HA.out (.inr t)
    obtain ⟨T, hT⟩ : ∃ T, T = L.take k := ⟨_, rfl⟩
    obtain ⟨D, hD⟩ : ∃ D, D = L.drop k := ⟨_, rfl⟩
    have lT : Hid (T.length = k) := by show _ = _; rw [hT, List.length_take]; omega
    have lD : Hid (D.length = L.length - k) := by show _ = _; rw [hD, List.length_drop]
    obtain ⟨R2, hR2⟩ : ∃ R2, R2 = T ++ [x] := ⟨_, rfl⟩
    obtain ⟨R3, hR3⟩ : ∃ R3, R3 = R2 ++ D := ⟨_, rfl⟩
    have lR3 : Hid (R3.length = L.length + 1) := by show _ = _; rw [hR3, hR2]; simp [lT.out, lD.out]; omega
    have lR2 : Hid (R2.length = k + 1) := by show _ = _; rw [hR2]; simp [lT.out]
    have HT : Hid (T = L.take k) := hT
    have HD : Hid (D = L.drop k) := hD
    have HR2 : Hid (R2 = T ++ [x]) := hR2
    have HR3 : Hid (R3 = R2 ++ D) := hR3
    have HK : Hid (putAt L x = k) := ek
    have ID : NumL w (some ⟨b, off + k, none⟩) D := by rw [hD]; exact HC.out.drop k
    clear hT hD hR2 hR3 ek
    have E0 : Below w.heap.size w (w.alloc (.cells #[] 2)) := (Below.refl _ w).alloc (Nat.le_refl _) _
    have O0 := OwnI.made w w.heap.size (Nat.le_refl _)
    have s0 : (w.alloc (.cells #[] 2)).heap.size = w.heap.size + 1 := by simp
    have ki : (k : Int) ≤ (L.length : Int) := by omega
    have kc : (k : Int) ≤ (cap : Int) := by omega
    cases t2 : (nthI L k == x) with
    | true =>
     have HX : Hid (L[k]? = some x) := by show _ = _; have := beq_iff_eq.1 t2; simp [nthI, hlt'] at this; simp [hlt', this]
     go_wp2_with (at_builtin; refine wpList_append_intsR _ rfl _ _ rfl w.heap.size _ [] rfl O0 _ _ _ L rfl rfl (HC.out.below E0) L (by simp) (by omega) (by simp) ?_; intro a' c' w' hown' hgrow' hat')
     go_ret
     have e : putL L x = L := by unfold putL; rw [HK.out, HX.out]; simp
     rw [e]
     exact ⟨_, _, rfl, hown', E0.grown hgrow' (by simp) (fun j e => by cases e; exact Nat.le_refl _)⟩
    | false =>
     have HX : Hid (¬ L[k]? = some x) := by show ¬ _; have := beq_eq_false_iff_ne.1 t2; simp [nthI, hlt'] at this; simp [hlt', this]
     go_wp2_with (first
      | (at_builtin; have hq := hown2; clear hq; refine wpList_append_intsR _ rfl _ _ rfl w.heap.size (.slice a2 R2.length c2) R2 rfl hown2 _ _ _ D rfl lD.out (ID.below E2) R3 HR3.out (by rw [lR3.out]; omega) E2.size ?_; intro a3 c3 w3 hown3 hgrow3 hat3)
      | (at_builtin; have hq := hown1; clear hq; refine wpList_append_intsR _ rfl _ _ rfl w.heap.size (.slice a1 T.length c1) T rfl (hown1.alloc _) _ _ _ [x] rfl rfl (NumL.one x) R2 HR2.out (by rw [lR2.out]; omega) (Nat.le_trans E1.size (by simp)) ?_; intro a2 c2 w2 hown2 hgrow2 hat2; have E2 : Below w.heap.size w w2 := (E1.alloc E1.size _).grown hgrow2 (Nat.le_trans E1.size (by simp)) (fun j e => (World.ownsRow.lt hown1 j e).1))
      | (at_builtin; refine wpList_append_intsR _ rfl _ _ rfl w.heap.size (.slice (some ⟨w.heap.size, 0, none⟩) 0 0) [] rfl O0 _ _ _ T rfl lT.out ((HT.out ▸ HC.out.take k).below E0) T (by simp) (by rw [lT.out]; omega) (by simp) ?_; intro a1 c1 w1 hown1 hgrow1 hat1; have E1 : Below w.heap.size w w1 := E0.grown hgrow1 (by simp) (fun j e => by cases e; exact Nat.le_refl _)))
     go_ret
     have e : putL L x = R3 := by
      unfold putL
      rw [HK.out, if_neg HX.out, HR3.out, HR2.out, HT.out, HD.out]
     rw [e]
     exact ⟨_, _, rfl, hown3, E2.grown hgrow3 E2.size (fun j e => (World.ownsRow.lt hown2 j e).1)⟩
  ·have hkL : k = L.length := by omega
   have ek : putAt L x = k := putAt_eq (by omega) HA.out (.inl hkL)
   have HK : Hid (putAt L x = k) := ek
   have HKL : Hid (k = L.length) := hkL
   obtain ⟨R2, hR2⟩ : ∃ R2, R2 = L ++ [x] := ⟨_, rfl⟩
   have HR2 : Hid (R2 = L ++ [x]) := hR2
   have lR2 : Hid (R2.length = L.length + 1) := by show _ = _; rw [hR2]; simp
   have nk : ¬ (k : Int) < (L.length : Int) := by omega
   clear hR2 ek hkL hc hi
   have E0 : Below w.heap.size w (w.alloc (.cells #[] 2)) := (Below.refl _ w).alloc (Nat.le_refl _) _
   have O0 := OwnI.made w w.heap.size (Nat.le_refl _)
   have kc : (k : Int) ≤ (cap : Int) := by omega
   have fin : Hid (putL L x = R2) := by
    show _ = _
    unfold putL
    rw [HK.out, if_neg (by rw [List.getElem?_eq_none (by have := HKL.out; omega)]; simp), HR2.out, HKL.out]
    simp
   go_wp2_with (first
    | (at_builtin; have hq := hown2; clear hq; refine wpList_append_intsR _ rfl _ _ rfl w.heap.size (.slice a2 R2.length c2) R2 rfl hown2 _ _ _ [] rfl (by have := HKL.out; simp; omega) (NumL.none _ _) R2 (by simp) (by rw [lR2.out]; omega) E2.size ?_; intro a3 c3 w3 hown3 hgrow3 hat3)
    | (at_builtin; have hq := hown1; clear hq; refine wpList_append_intsR _ rfl _ _ rfl w.heap.size (.slice a1 L.length c1) L rfl (hown1.alloc _) _ _ _ [x] rfl rfl (NumL.one x) R2 HR2.out (by rw [lR2.out]; omega) (Nat.le_trans E1.size (by simp)) ?_; intro a2 c2 w2 hown2 hgrow2 hat2; have E2 : Below w.heap.size w w2 := (E1.alloc E1.size _).grown hgrow2 (Nat.le_trans E1.size (by simp)) (fun j e => (World.ownsRow.lt hown1 j e).1))
    | (at_builtin; refine wpList_append_intsR _ rfl _ _ rfl w.heap.size (.slice (some ⟨w.heap.size, 0, none⟩) 0 0) [] rfl O0 _ _ _ L rfl HKL.out.symm (HC.out.below E0) L (by simp) (by omega) (by simp) ?_; intro a1 c1 w1 hown1 hgrow1 hat1; have E1 : Below w.heap.size w w1 := E0.grown hgrow1 (by simp) (fun j e => by cases e; exact Nat.le_refl _)))
   all_goals
    go_ret
    rw [fin.out]
    exact ⟨_, _, rfl, hown3, E2.grown hgrow3 E2.size (fun j e => (World.ownsRow.lt hown2 j e).1)⟩
end Go.Proofs.YthbmfbnnemgbpaaGreatDoor
namespace Go.Proofs.YthbmfbnnemgbpaaGreatDoor
open Go Go.RowKit Go.Deep Go.Maps Go.BigFrame Go.Shelf
set_option maxRecDepth 100000 in
set_option maxHeartbeats 4000000 in
theorem l2Put_none (cap : Nat) (x : Int) (w : World) :
 Calls Tryz.prog 89 #[.slice none 0 cap, .int .i64 x] w fun e w' => ∃ va vc, e = .returned (.slice va 1 vc) ∧ OwnI w' w.heap.size (.slice va 1 vc) [x] ∧ Below w.heap.size w w' := by
 have E0 : Below w.heap.size w (w.alloc (.cells #[] 2)) := (Below.refl _ w).alloc (Nat.le_refl _) _
 have O0 := OwnI.made w w.heap.size (Nat.le_refl _)
 go_enter Tryz.func89, Tryz.ntmps89
 go_wp2
 go_loopw [5] (fun i wr => i = .int .i64 0 ∧ wr = w) (fun i _ => (intOf i).toNat)
 case atStart => exact ⟨rfl, rfl⟩
 case round =>
  obtain ⟨rfl, rfl⟩ := hrel
  go_wp2_with (first
   | (at_builtin; have hq := hown2; clear hq; refine wpList_append_intsR _ rfl _ _ rfl wr.heap.size (.slice a2 1 c2) [x] rfl hown2 _ _ _ [] rfl rfl (NumL.none _ _) [x] rfl (by simp) E2.size ?_; intro a3 c3 w3 hown3 hgrow3 hat3)
   | (at_builtin; have hq := hown1; clear hq; refine wpList_append_intsR _ rfl _ _ rfl wr.heap.size (.slice a1 0 c1) [] rfl (hown1.alloc _) _ _ _ [x] rfl rfl (NumL.one x) [x] rfl (by simp) (Nat.le_trans E1.size (by simp)) ?_; intro a2 c2 w2 hown2 hgrow2 hat2; have E2 : Below wr.heap.size wr w2 := (E1.alloc E1.size _).grown hgrow2 (Nat.le_trans E1.size (by simp)) (fun j e => (World.ownsRow.lt hown1 j e).1))
   | (at_builtin; refine wpList_append_intsR _ rfl _ _ rfl wr.heap.size (.slice (some ⟨wr.heap.size, 0, none⟩) 0 0) [] rfl O0 _ _ _ [] rfl rfl (NumL.none _ _) [] rfl (by simp) (by simp) ?_; intro a1 c1 w1 hown1 hgrow1 hat1; have E1 : Below wr.heap.size wr w1 := E0.grown hgrow1 (by simp) (fun j e => by cases e; exact Nat.le_refl _)))
  go_ret
  exact ⟨_, _, rfl, hown3, E2.grown hgrow3 E2.size (fun j e => (World.ownsRow.lt hown2 j e).1)⟩
theorem l2Put_all (c : IntL) (x : Int) (w : World) (hc : c.at w) (hn : c.n ≤ 1048576) (hcap : c.n ≤ c.k ∧ c.k ≤ maxLen) :
 Calls Tryz.prog 89 #[.slice c.a c.n c.k, .int .i64 x] w fun e w' => ∃ va vc, e = .returned (.slice va (putL ((List.range c.n).map c.h) x).length vc) ∧ OwnI w' w.heap.size (.slice va (putL ((List.range c.n).map c.h) x).length vc) (putL ((List.range c.n).map c.h) x) ∧ Below w.heap.size w w' := by
 have el : ((List.range c.n).map c.h).length = c.n := by simp
 cases ha : c.a with
 | some A =>
  have hi := hc.2.intL
  rw [ha] at hi
  have h := l2Put_any A c.k ((List.range c.n).map c.h) x w (by rw [el]; exact hn) (by rw [el]; exact hcap.1) hcap.2 hi
  rw [el] at h
  exact h
 | none =>
  have h0 : c.n = 0 := by
   by_cases e : 0 < c.n
   ·obtain ⟨b, off, e', _⟩ := hc.2 e
    rw [ha] at e'
    cases e'
   ·omega
  rw [h0]
  exact l2Put_none c.k x w
end Go.Proofs.YthbmfbnnemgbpaaGreatDoor
namespace Go.Proofs.YthbmfbnnemgbpaaGreatDoor
open Go.Shelf
end Go.Proofs.YthbmfbnnemgbpaaGreatDoor
namespace Go.Proofs.YthbmfbnnemgbpaaGreatDoor
open Go Go.RowKit Go.Deep Go.Maps Go.Sort Go.Shelf
def sortL (l : List Int) : List Int := l.mergeSort (fun x y => decide (x ≤ y))
theorem sortL_len (l : List Int) : (sortL l).length = l.length := by simp [sortL]
theorem OwnI.low {w : World} {B B' : Nat} {v : Value} {l : List Int} (h : OwnI w B v l) (hB : B' ≤ B) : OwnI w B' v l := by
 refine ⟨h.1, ?_⟩
 rcases h.2 with hn | ⟨g, cap, cur, hv, hb, rest⟩
 ·exact .inl hn
 ·exact .inr ⟨g, cap, cur, hv, by omega, rest⟩
end Go.Proofs.YthbmfbnnemgbpaaGreatDoor
namespace Go.Proofs.YthbmfbnnemgbpaaGreatDoor
open Go Go.RowKit Go.Deep Go.Maps
end Go.Proofs.YthbmfbnnemgbpaaGreatDoor
namespace Go.Proofs.YthbmfbnnemgbpaaGreatDoor
open Go Go.RowKit Go.Deep Go.Maps
end Go.Proofs.YthbmfbnnemgbpaaGreatDoor
namespace Go.Proofs.YthbmfbnnemgbpaaGreatDoor
open Go Go.RowKit Go.Deep Go.Maps
def inX (O : Nat → ObjV) (x : Int) (q : Nat) : List Int := ((List.range q).filter (fun j => (O j).up == x)).map (fun i => (O i).id)
theorem inX_yes {O : Nat → ObjV} {x : Int} {q : Nat} (h : (O q).up = x) : inX O x (q + 1) = inX O x q ++ [(O q).id] := by
 simp [inX, List.range_succ, h]
theorem inX_no {O : Nat → ObjV} {x : Int} {q : Nat} (h : (O q).up ≠ x) : inX O x (q + 1) = inX O x q := by
 simp [inX, List.range_succ, h]
theorem inX_len (O : Nat → ObjV) (x : Int) (q : Nat) : (inX O x q).length ≤ q := by
 unfold inX
 rw [List.length_map]
 exact Nat.le_trans (List.length_filter_le _ _) (by simp)
theorem inX_kids {O : Nat → ObjV} {n u : Nat} : inX O (O u).id n = kidsTo (fun i => (O i).id) (fun i => (O i).up) n u := rfl
set_option maxRecDepth 100000 in
set_option maxHeartbeats 4000000 in
theorem l3Kids_any (k : KerV) (x : Int) (w : World) (hk : k.at w) (hn : k.on ≤ 271) :
 Calls Tryz.prog 98 #[k.val, .int .i64 x] w fun e w' => ∃ v, e = .returned v ∧ OwnI w' w.heap.size v (inX k.O x k.on) ∧ Below w.heap.size w w' := by
 have hb0 := (Below.refl _ w).alloc (Nat.le_refl _) (.cells #[.slice k.ta k.tn k.tk, .slice k.oa k.on k.ok] 42)
 have A0 := Blk.new w (.cells #[.slice k.ta k.tn k.tk, .slice k.oa k.on k.ok] 42)
 have bm := hb0.alloc hb0.size (.cells #[] 2)
 have A1 := A0.alloc (.cells #[] 2)
 have O1 := OwnI.made (w.alloc (.cells #[.slice k.ta k.tn k.tk, .slice k.oa k.on k.ok] 42)) (w.heap.size + 1) (by simp)
 have HT := hid hk
 unfold KerV.val
 clear hk
 go_enter Tryz.func98, Tryz.ntmps98
 go_wp2
 generalize hW : ((w.alloc (.cells #[.slice k.ta k.tn k.tk, .slice k.oa k.on k.ok] 42)).alloc (.cells #[] 2)) = W at *
 have O2 : OwnI W (w.heap.size + 1) (.slice (some ⟨w.heap.size + 1, 0, none⟩) 0 0) [] := by simpa using O1
 clear hW hb0 A0 O1
 go_loopw [5, 6] (fun v i wr => ∃ q : Nat, q ≤ k.on ∧ i = .int .i64 q ∧ Hid (OwnI wr (w.heap.size + 1) v (inX k.O x q)) ∧ Blk wr w.heap.size (.cells #[.slice k.ta k.tn k.tk, .slice k.oa k.on k.ok] 42) ∧ Below w.heap.size w wr) (fun _ i _ => k.on - (intOf i).toNat)
 case atStart => exact ⟨0, Nat.zero_le _, rfl, hid O2, A1, bm⟩
 case round =>
  clear O2 A1 bm
  obtain ⟨q, hq, rfl, HO, A, hB⟩ := hrel
  obtain ⟨x0, x1⟩ := A.two
  by_cases hlt : q < k.on
  ·obtain ⟨b, off, ea, hlt0, hcc⟩ := HT.out.2.2.2.below hB (by omega)
   have q0 := (hcc q hlt).1.c0
   have q2 := (hcc q hlt).1.c2
   rw [ea] at x1
   have i1 : (q : Int) < (k.on : Int) := by omega
   clear hcc ea
   by_cases e : (k.O q).up = x
   ·have e' : ((k.O q).up == x) = true := by simpa using e
    have EQ := hid (inX_yes e)
    have hl := inX_len k.O x q
    have B1 : Below w.heap.size w (wr.alloc (.cells #[.int .i64 (k.O q).id] 2)) := hB.alloc hB.size _
    have AA := A.alloc (.cells #[.int .i64 (k.O q).id] 2)
    have OA := hid (OwnI.alloc HO.out (.cells #[.int .i64 (k.O q).id] 2))
    have L1 := hid (NumL.one (w := wr) (k.O q).id)
    have s1 : w.heap.size + 1 ≤ (wr.alloc (.cells #[.int .i64 (k.O q).id] 2)).heap.size := by have := A.lt; simp; omega
    have FIN : Hid (∀ w3 : World, (wr.alloc (.cells #[.int .i64 (k.O q).id] 2)).grownBy w3 u5.ownBlock → Blk w3 w.heap.size (.cells #[.slice k.ta k.tn k.tk, .slice k.oa k.on k.ok] 42) ∧ Below w.heap.size w w3) := hid (fun w3 g3 => ⟨AA.grown g3 (fun e => by have := (World.ownsRow.lt OA.out _ e.symm).1; omega), B1.trans (below_grown g3 B1.size (fun j hj => by have := (World.ownsRow.lt OA.out j hj).1; omega))⟩)
    clear e HO
    go_wp2_with (refine wpList_append_ints _ rfl _ _ rfl (w.heap.size + 1) u5 (inX k.O x q) rfl OA.out _ 1 1 [(k.O q).id] rfl rfl L1.out (by omega) s1 ?_; intro a3 c3 w3 o3 g3 v3)
    rw [← EQ.out] at o3
    obtain ⟨f1, f2⟩ := FIN.out w3 g3
    exact ⟨⟨q + 1, by omega, by go_num, hid (by first | exact o3 | simpa [EQ.out] using o3), f1, f2⟩, by simp [intOf]; omega⟩
   ·have e' : ((k.O q).up == x) = false := by simpa using e
    have EQ := hid (inX_no e)
    clear e
    go_wp2
    exact ⟨⟨q + 1, by omega, by go_num, hid (by rw [EQ.out]; exact HO.out), A, hB⟩, by simp [intOf]; omega⟩
  ·have i1 : ¬ (q : Int) < (k.on : Int) := by omega
   have e : q = k.on := by omega
   have HO2 : Hid (OwnI wr (w.heap.size + 1) u5 (inX k.O x k.on)) := hid (by rw [← e]; exact HO.out)
   clear HO e
   go_wp2
   go_ret
   exact ⟨u5, rfl, HO2.out.low (by omega), hB⟩
theorem kerOk_parts {k : KerV} (h : kerOk k = true) : thrsOk k.tn k.T = true ∧ objsOk k.on k.O = true ∧ numsOk k.tn k.T k.on k.O = true ∧ upsOk k.on k.O = true ∧ reachB (fun i => (k.O i).id) (fun i => (k.O i).up) k.on = true := by
 simp only [kerOk, Bool.and_eq_true] at h
 exact ⟨h.1.1.1.1, h.1.1.1.2, h.1.1.2, h.1.2, h.2⟩
end Go.Proofs.YthbmfbnnemgbpaaGreatDoor
namespace Go.Proofs.YthbmfbnnemgbpaaGreatDoor
open Go Go.RowKit Go.Deep Go.Maps
end Go.Proofs.YthbmfbnnemgbpaaGreatDoor
namespace Go.Proofs.YthbmfbnnemgbpaaGreatDoor
theorem putL_len (L : List Int) (x : Int) : (putL L x).length ≤ L.length + 1 := by
 unfold putL
 split
 ·omega
 ·simp; omega
theorem putL_pos (L : List Int) (x : Int) : 0 < (putL L x).length := by
 unfold putL
 split
 ·rename_i h
  have := (List.getElem?_eq_some_iff.1 h).1
  omega
 ·simp; omega
theorem putL_mem {L : List Int} {x y : Int} (h : y ∈ putL L x) : y ∈ L ∨ y = x := by
 unfold putL at h
 split at h
 ·exact .inl h
 ·rw [List.mem_append, List.mem_append, List.mem_singleton] at h
  rcases h with (h | h) | h
  ·exact .inl (List.mem_of_mem_take h)
  ·exact .inr h
  ·exact .inl (List.mem_of_mem_drop h)
theorem putL_rise {L : List Int} {x : Int} (h : L.Pairwise (· < ·)) : (putL L x).Pairwise (· < ·) := by
 unfold putL
 split
 ·exact h
 ·rename_i hx
  have hlo : ∀ y ∈ L.take (putAt L x), y < x := by
   intro y hy
   obtain ⟨j, hj, rfl⟩ := List.getElem_of_mem hy
   have hj' : j < putAt L x := by simp at hj; omega
   have := List.not_of_lt_findIdx hj'
   simp at this
   simpa using this
  have hhi : ∀ y ∈ L.drop (putAt L x), x < y := by
   intro y hy
   obtain ⟨j, hj, rfl⟩ := List.getElem_of_mem hy
   rw [List.getElem_drop]
   have hlen : putAt L x < L.length := by simp at hj; omega
   have h0 : ¬ L[putAt L x] < x := by
    have := List.findIdx_getElem (xs := L) (p := fun y => !decide (y < x)) (w := hlen)
    unfold putAt
    simpa using this
   have h1 : L[putAt L x] ≠ x := fun e => hx (by rw [List.getElem?_eq_getElem hlen, e])
   by_cases ej : j = 0
   ·subst ej
    simp
    omega
   ·have := List.pairwise_iff_getElem.1 h (putAt L x) (putAt L x + j) hlen (by simp at hj; omega) (by omega)
    omega
  rw [List.append_assoc, List.pairwise_append]
  refine ⟨h.sublist (List.take_sublist _ _), ?_, ?_⟩
  ·rw [List.singleton_append, List.pairwise_cons]
   exact ⟨hhi, h.sublist (List.drop_sublist _ _)⟩
  ·intro y hy z hz
   have h1 := hlo y hy
   rw [List.singleton_append, List.mem_cons] at hz
   rcases hz with rfl | hz
   ·exact h1
   ·have := hhi z hz; omega
theorem putL_in {L : List Int} {x y : Int} : y ∈ putL L x ↔ y ∈ L ∨ y = x := by
 refine ⟨putL_mem, fun h => ?_⟩
 unfold putL
 split
 ·rename_i e
  rcases h with h | rfl
  ·exact h
  ·exact List.mem_of_getElem? e
 ·rcases h with h | rfl
  ·rw [← List.take_append_drop (putAt L x) L] at h
   rcases List.mem_append.1 h with h | h
   ·exact List.mem_append_left _ (List.mem_append_left _ h)
   ·exact List.mem_append_right _ h
  ·simp
theorem rise_ext : ∀ {l m : List Int}, l.Pairwise (· < ·) → m.Pairwise (· < ·) → (∀ x, x ∈ l ↔ x ∈ m) → l = m
 | [], [], _, _, _ => rfl
 | [], b :: m, _, _, h => by have := (h b).2 List.mem_cons_self; cases this
 | a :: l, [], _, _, h => by have := (h a).1 List.mem_cons_self; cases this
 | a :: l, b :: m, h1, h2, h => by
  obtain ⟨a1, a2⟩ := List.pairwise_cons.1 h1
  obtain ⟨b1, b2⟩ := List.pairwise_cons.1 h2
  have e : a = b := by
   rcases List.mem_cons.1 ((h a).1 List.mem_cons_self) with e | e
   ·exact e
   ·rcases List.mem_cons.1 ((h b).2 List.mem_cons_self) with e' | e'
    ·exact e'.symm
    ·have := a1 b e'; have := b1 a e; omega
  subst e
  rw [rise_ext a2 b2 fun x => ?_]
  constructor
  ·intro hx
   rcases List.mem_cons.1 ((h x).1 (List.mem_cons_of_mem _ hx)) with e | e
   ·subst e; have := a1 x hx; omega
   ·exact e
  ·intro hx
   rcases List.mem_cons.1 ((h x).2 (List.mem_cons_of_mem _ hx)) with e | e
   ·subst e; have := b1 x hx; omega
   ·exact e
theorem sortL_mem {l : List Int} {x : Int} : x ∈ sortL l ↔ x ∈ l := (List.mergeSort_perm l _).mem_iff
theorem sortL_rise {l : List Int} (h : l.Nodup) : (sortL l).Pairwise (· < ·) := by
 have h1 : (sortL l).Pairwise (fun a b => a ≤ b) := by
  have := List.pairwise_mergeSort (le := fun (x y : Int) => decide (x ≤ y)) (fun a b c h1 h2 => by simp at *; omega) (fun a b => by simp; omega) l
  exact this.imp (fun h => by simpa using h)
 have h2 : (sortL l).Nodup := (List.mergeSort_perm l _).nodup_iff.2 h
 exact (h1.and h2).imp (fun {a b} ⟨h3, h4⟩ => by omega)
def putAll (L : List Int) : List Int := L.foldl putL []
theorem putAll_rise (L : List Int) : (putAll L).Pairwise (· < ·) := by
 unfold putAll
 have : ∀ (M : List Int), M.Pairwise (· < ·) → (L.foldl putL M).Pairwise (· < ·) := by
  induction L with
  | nil => intro M h; exact h
  | cons a L ih => intro M h; exact ih _ (putL_rise h)
 exact this [] List.Pairwise.nil
theorem putAll_mem (L : List Int) (x : Int) : x ∈ putAll L ↔ x ∈ L := by
 unfold putAll
 have : ∀ (M : List Int), x ∈ L.foldl putL M ↔ x ∈ M ∨ x ∈ L := by
  induction L with
  | nil => intro M; simp
  | cons a L ih => intro M; rw [List.foldl_cons, ih, putL_in, List.mem_cons]; exact or_assoc
 rw [this []]
 simp
theorem putAll_len (L : List Int) : (putAll L).length ≤ L.length := by
 unfold putAll
 have : ∀ (M : List Int), (L.foldl putL M).length ≤ M.length + L.length := by
  induction L with
  | nil => intro M; simp
  | cons a L ih => intro M; rw [List.foldl_cons]; have := ih (putL M a); have := putL_len M a; simp only [List.length_cons]; omega
 simpa using this []
section
variable {ids ups : Nat → Int} {n u : Nat}
structure Bfs (ids ups : Nat → Int) (n u t : Nat) (Q : List Nat) : Prop where
 nodup : Q.Nodup
 head : Q[0]? = some u
 mem : ∀ j ∈ Q, j < n ∧ ∃ m, parIt ids ups n m j = some u
 closed : ∀ s a, s < t → Q[s]? = some a → ∀ c ∈ kidsI ids ups n a, c ∈ Q
 origin : ∀ s c, 0 < s → Q[s]? = some c → ∃ r a, r < t ∧ Q[r]? = some a ∧ par ids ups n c = some a
theorem Bfs.start (hu : u < n) : Bfs ids ups n u 0 [u] := by
 refine ⟨by simp, rfl, fun j hj => ?_, fun s a hs => by omega, fun s c hs e => ?_⟩
 ·simp at hj; subst hj; exact ⟨hu, 0, rfl⟩
 ·cases s with
  | zero => omega
  | succ s => simp at e
theorem Bfs.step (hr : Rises ids n) (h0 : ∀ j, j < n → ids j ≠ ups 0) (hc : NoCyc ids ups n u) {t a : Nat} {Q : List Nat} (h : Bfs ids ups n u t Q) (ht : Q[t]? = some a) : Bfs ids ups n u (t + 1) (Q ++ kidsI ids ups n a) := by
 have hta : t < Q.length := (List.getElem?_eq_some_iff.1 ht).1
 obtain ⟨han, ma, hma⟩ := h.mem a (List.mem_of_getElem? ht)
 have kid : ∀ c, c ∈ kidsI ids ups n a → c < n ∧ par ids ups n c = some a := fun c hc => (mem_kids hr h0 han).1 hc
 have old : ∀ {s x}, Q[s]? = some x → (Q ++ kidsI ids ups n a)[s]? = some x := fun {s x} e => by
  rw [List.getElem?_append_left (List.getElem?_eq_some_iff.1 e).1]; exact e
 refine ⟨?_, old h.head, fun j hj => ?_, fun s b hs e c hcb => ?_, fun s c hs e => ?_⟩
 ·rw [List.nodup_append]
  refine ⟨h.nodup, List.Nodup.sublist List.filter_sublist List.nodup_range, fun x hx y hy exy => ?_⟩
  subst exy
  obtain ⟨_, px⟩ := kid x hy
  obtain ⟨s, hs, es⟩ := List.getElem_of_mem hx
  by_cases s0 : s = 0
  ·subst s0
   have : x = u := by have := h.head; rw [List.getElem?_eq_getElem hs, es] at this; simpa using this
   subst this
   exact hc ma (by simp only [parIt, px, Option.bind_some]; exact hma)
  ·obtain ⟨r, b, hrt, hb, pb⟩ := h.origin s x (by omega) (by rw [List.getElem?_eq_getElem hs, es])
   rw [px] at pb
   have eab : a = b := by simpa using pb
   subst eab
   have hrl := (List.getElem?_eq_some_iff.1 hb).1
   have e1 := (List.getElem?_eq_some_iff.1 hb).2
   have e2 := (List.getElem?_eq_some_iff.1 ht).2
   have := (List.getElem_inj (h₀ := hrl) (h₁ := hta) h.nodup).1 (e1.trans e2.symm)
   omega
 ·rcases List.mem_append.1 hj with hj | hj
  ·exact h.mem j hj
  ·obtain ⟨h1, h2⟩ := kid j hj
   exact ⟨h1, ma + 1, by simp only [parIt, h2, Option.bind_some]; exact hma⟩
 ·by_cases est : s = t
  ·subst est
   rw [old ht] at e
   have : a = b := by simpa using e
   subst this
   exact List.mem_append_right _ hcb
  ·have hsl : s < Q.length := by omega
   rw [List.getElem?_append_left hsl] at e
   exact List.mem_append_left _ (h.closed s b (by omega) e c hcb)
 ·by_cases hsl : s < Q.length
  ·rw [List.getElem?_append_left hsl] at e
   obtain ⟨r, b, h1, h2, h3⟩ := h.origin s c hs e
   exact ⟨r, b, by omega, old h2, h3⟩
  ·rw [List.getElem?_append_right (by omega)] at e
   exact ⟨t, a, by omega, old ht, (kid c (List.mem_of_getElem? e)).2⟩
theorem Bfs.len {t : Nat} {Q : List Nat} (h : Bfs ids ups n u t Q) : Q.length ≤ n := nodup_len h.nodup (fun x hx => (h.mem x hx).1)
theorem Bfs.all (hr : Rises ids n) (h0 : ∀ j, j < n → ids j ≠ ups 0) {Q : List Nat} (h : Bfs ids ups n u Q.length Q) (j : Nat) : j ∈ Q ↔ j < n ∧ ∃ m, parIt ids ups n m j = some u := by
 refine ⟨h.mem j, ?_⟩
 rintro ⟨hj, m, e⟩
 induction m generalizing j with
 | zero =>
  simp only [parIt, Option.some.injEq] at e
  subst e
  exact List.mem_of_getElem? h.head
 | succ m ih =>
  simp only [parIt] at e
  cases ep : par ids ups n j with
  | none => simp [ep] at e
  | some p =>
   simp only [ep, Option.bind_some] at e
   have hp := ih p (par_lt ep) e
   obtain ⟨s, hs, es⟩ := List.getElem_of_mem hp
   exact h.closed s p hs (by rw [List.getElem?_eq_getElem hs, es]) j ((mem_kids hr h0 (par_lt ep)).2 ⟨hj, ep⟩)
theorem bfs_pre (hr : Rises ids n) (h0 : ∀ j, j < n → ids j ≠ ups 0) (hu : u < n) (hc : NoCyc ids ups n u) {Q : List Nat} (h : Bfs ids ups n u Q.length Q) : putAll (Q.map ids) = sortL ((preI ids ups n n u).map ids) := by
 have inj : ∀ {l : List Nat}, l.Nodup → (∀ x ∈ l, x < n) → (l.map ids).Nodup := fun {l} hl hx => by
  rw [List.Nodup, List.pairwise_map]
  refine List.Pairwise.imp_of_mem ?_ hl
  intro a b ha hb hab e
  exact hab (hr.inj (hx a ha) (hx b hb) e)
 refine rise_ext (putAll_rise _) (sortL_rise (inj (nodup_pre hr h0 hu hc) (fun x hx => ((mem_pre hr h0 hu).1 hx).1))) fun x => ?_
 rw [putAll_mem, sortL_mem, List.mem_map, List.mem_map]
 constructor
 ·rintro ⟨j, hj, rfl⟩
  obtain ⟨h1, m, h2⟩ := h.mem j hj
  exact ⟨j, (mem_pre hr h0 hu).2 ⟨h1, m, height hc h1 h2, h2⟩, rfl⟩
 ·rintro ⟨j, hj, rfl⟩
  obtain ⟨h1, m, _, h2⟩ := (mem_pre hr h0 hu).1 hj
  exact ⟨j, (h.all hr h0 j).2 ⟨h1, m, h2⟩, rfl⟩
end
end Go.Proofs.YthbmfbnnemgbpaaGreatDoor
