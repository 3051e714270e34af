/- FnUnder's walk. -/
import Derived.Test.YtkoinmddcnnipaaZ11
import Derived.Test.YtkoinmddcnnipaaZ48
import Derived.Test.YtkoinmddcnnipaaZ31
import Derived.Test.YtkoinmddcnnipaaZ45
namespace Go.Proofs.Ytkoinmddcnnipaa
open Go Go.RowKit Go.Deep Go.Maps Go.BigFrame Go.Shelf

theorem wf_in {x : Int} (h : InI x) : (Lit.int .i64 x).wf = true := by
 have e1 : IntKind.i64.min = -9223372036854775808 := by decide
 have e2 : IntKind.i64.max = 9223372036854775807 := by decide
 simp [Lit.wf, e1, e2]
 unfold InI at h
 omega
theorem sumU_le (k : KerV) : ∀ L : List Int, sumU k L ≤ L.length * 271
 | [] => Nat.le_refl _
 | c :: L => by
  have h := sumU_le k L
  have h2 := underL_len k c
  simp only [sumU, List.map_cons, List.sum_cons, List.length_cons] at h ⊢
  omega
theorem sumU_snoc (k : KerV) (L : List Int) (c : Int) : sumU k (L ++ [c]) = sumU k L + (underL k c).length := by simp [sumU]
set_option maxRecDepth 100000 in
set_option maxHeartbeats 2000000 in
theorem lawHas_any (a : Option Addr) (n cap : Nat) (h : Nat → Int) (x : Int) (w : World) (hn : n ≤ maxLen) (hc : IntsAt w a n h) :
  Calls Try.prog 12 #[.slice a n cap, .int .i64 x] w fun e w' => e = .returned (.bool (hasB n h x)) ∧ w' = w := by
 unfold maxLen at hn
 go_enter Try.func12, Try.ntmps12
 go_wp2
 go_loop [5] (fun i => ∃ k : Nat, k ≤ n ∧ i = .int .i64 k ∧ (∀ j, j < k → h j ≠ x)) (fun i => n - (intOf i).toNat)
 case atStart => exact ⟨0, Nat.zero_le _, rfl, fun j hj => by omega⟩
 case round =>
  obtain ⟨k, hk, rfl, hall⟩ := hrel
  have HA : Hid (∀ j, j < k → h j ≠ x) := hall
  clear hall
  by_cases hlt' : k < n
  ·obtain ⟨b, off, rfl, hlt, hcc⟩ := hc (by omega)
   have g1 := hcc k hlt'
   clear hcc hc
   by_cases t : (h k == x) = true
   ·go_wp2
    go_ret
    exact ⟨ret_bool (hasB_yes hlt' (by simpa using t)).symm, rfl⟩
   ·have t' : (h k == x) = false := by simpa using t
    clear t
    go_wp2
    go_round
    case rel =>
     refine ⟨k + 1, by omega, by go_num, fun j hj => ?_⟩
     by_cases e : j = k
     ·subst e; simpa using t'
     ·exact HA.out j (by omega)
    case measure => simp [intOf]; omega
  ·clear hc
   go_wp2
   go_ret
   have e : k = n := by omega
   subst e
   exact ⟨ret_bool (hasB_no HA.out).symm, rfl⟩

set_option maxRecDepth 100000 in
set_option maxHeartbeats 2000000 in
theorem sameInts_any (L : List Int) (a b : Option Addr) (c d : Nat) (w : World) (hl : L.length ≤ 1048576) (ha : IntL.at w ⟨a, L.length, c, nthI L⟩) (hb : IntL.at w ⟨b, L.length, d, nthI L⟩) :
  Calls Try.prog 8 #[.slice a L.length c, .slice b L.length d] w fun e w' => e = .returned (.bool true) ∧ Below w.heap.size w w' := by
 have HA := hid ha.2
 have HB := hid hb.2
 simp only at HA HB
 clear ha hb
 go_enter Try.func8, Try.ntmps8
 go_wp2
 go_loopw [5] (fun i wr => ∃ j : Nat, j ≤ L.length ∧ i = .int .i64 j ∧ Below w.heap.size w wr) (fun i _ => L.length - (intOf i).toNat)
 case atStart => exact ⟨0, Nat.zero_le _, rfl, Below.refl _ _⟩
 case round =>
  obtain ⟨j, hj, rfl, be⟩ := hrel
  have BB := hid be
  clear be
  by_cases hlt : j < L.length
  ·have i2 : (j : Int) < (L.length : Int) := by omega
   have i3 : (0 : Int) ≤ (j : Int) := by omega
   obtain ⟨p, off, rfl, _, hc⟩ := HA.out.below BB.out (by omega)
   obtain ⟨p', off', rfl, _, hc'⟩ := HB.out.below BB.out (by omega)
   have c0 := hc j hlt
   have c1 := hc' j hlt
   have HLT := hid hlt
   have n0 : (nthI L j != nthI L j) = false := by simp
   clear hc hc'
   go_wp2_with fail
   go_quiet (fail)
   go_wp2
   go_roundw
   case rel => exact ⟨j + 1, by have := HLT.out; omega, by go_num, BB.out.trans ((below_drewN (Below.refl _ wr) _).mono BB.out.size)⟩
   case measure => have := HLT.out; simp [intOf]; omega
  ·obtain rfl : j = L.length := by omega
   have i2 : ¬ (L.length : Int) < (L.length : Int) := by omega
   go_wp2
   go_ret
   exact ⟨rfl, BB.out⟩

set_option maxRecDepth 100000 in
set_option maxHeartbeats 16000000 in
theorem under_walk (a : Option Addr) (n cap : Nat) (w : World) (hb : 1048576 < n ∨ BytesAt w a n) :
  Calls Try.prog 3 #[.slice a n cap] w fun e w' => e = .returned (.bool true) ∧ Below w.heap.size w w' := by
 have HB := hid hb
 clear hb
 go_enter Try.func3, Try.ntmps3
 go_wp2_with fail
 refine (big_any a n cap w).mono ?_
 rintro e w0 ⟨rfl, rfl⟩
 by_cases hbig : 1048576 < n
 ·have e1 : decide (1048576 < n) = true := decide_eq_true hbig
  rw [e1]
  go_wp2
  go_ret
  exact ⟨rfl, Below.refl _ _⟩
 have e1 : decide (1048576 < n) = false := decide_eq_false hbig
 rw [e1]
 clear e1
 go_wp2_with fail
 refine (drawUnder_any a n cap w0 (by omega) (HB.out.resolve_left hbig)).mono ?_
 rintro e w1 ⟨lt, lo, g, ca, q, co, x, rfl, ks, kd, hx, b1⟩
 have KF := hid kd.F
 have HX := hid hx
 have KS := hid (ks.below ((Below.refl _ w1).alloc (Nat.le_refl _) (.cells #[.slice (some ⟨g, 0, none⟩) lt.length ca, .slice (some ⟨q, 0, none⟩) lo.length co] 27)))
 have LB : Hid (Below w0.heap.size w0 (w1.alloc (.cells #[.slice (some ⟨g, 0, none⟩) lt.length ca, .slice (some ⟨q, 0, none⟩) lo.length co] 27))) := hid (b1.alloc b1.size _)
 have CB := hid (Blk.new w1 (.cells #[.slice (some ⟨g, 0, none⟩) lt.length ca, .slice (some ⟨q, 0, none⟩) lo.length co] 27))
 clear ks kd hx b1 HB hbig
 have D0 := hid (Below.refl (w1.alloc (.cells #[.slice (some ⟨g, 0, none⟩) lt.length ca, .slice (some ⟨q, 0, none⟩) lo.length co] 27)).heap.size (w1.alloc (.cells #[.slice (some ⟨g, 0, none⟩) lt.length ca, .slice (some ⟨q, 0, none⟩) lo.length co] 27)))
 obtain ⟨k0, k1⟩ := CB.out.two
 go_wp2_with fail
 generalize w1.alloc (.cells #[.slice (some ⟨g, 0, none⟩) lt.length ca, .slice (some ⟨q, 0, none⟩) lo.length co] 27) = W2 at *
 generalize w1.heap.size = C at *
 have BC : Hid (∀ W, Below W2.heap.size W2 W → Blk W C (.cells #[.slice (some ⟨g, 0, none⟩) lt.length ca, .slice (some ⟨q, 0, none⟩) lo.length co] 27)) := hid (fun W hW => CB.out.below hW)
 obtain ⟨k, ek⟩ : ∃ k, k = (kOf (some ⟨g, 0, none⟩) ca (some ⟨q, 0, none⟩) co lt lo) := ⟨_, rfl⟩
 have EK := hid ek
 have kon : k.on = lo.length := by rw [ek]; rfl
 clear ek CB
 have WF : Hid (∀ i, i < ((kOf (some ⟨g, 0, none⟩) ca (some ⟨q, 0, none⟩) co lt lo)).on → (Lit.int .i64 (((kOf (some ⟨g, 0, none⟩) ca (some ⟨q, 0, none⟩) co lt lo)).O i).id).wf = true ∧ (Lit.int .i64 (((kOf (some ⟨g, 0, none⟩) ca (some ⟨q, 0, none⟩) co lt lo)).O i).up).wf = true) := hid (fun i hi => by
  have hi' : i < lo.length := hi
  have f := KF.out.o _ (List.getElem_mem hi')
  have e : ((kOf (some ⟨g, 0, none⟩) ca (some ⟨q, 0, none⟩) co lt lo)).O i = lo[i] := atOwnOb_get hi'
  rw [e]
  exact ⟨wf_small f.2.1, wf_in f.2.2⟩)
 have CAP : Hid (lo.length ≤ co) := hid (own_cap KS.out.o).1
 have SMA : Hid (((kOf (some ⟨g, 0, none⟩) ca (some ⟨q, 0, none⟩) co lt lo)).small) := hid ⟨⟨by show lt.length ≤ 1048576; have := KF.out.tn.2; omega, fun i hi => by
  have hi' : i < lt.length := hi
  have e : ((kOf (some ⟨g, 0, none⟩) ca (some ⟨q, 0, none⟩) co lt lo)).T i = lt[i] := atOwnT_get hi'
  rw [e]
  exact KF.out.t _ (List.getElem_mem hi')⟩, by show lo.length ≤ 1048576; have := KF.out.on.2; omega, fun i hi => by
  have hi' : i < lo.length := hi
  have e : ((kOf (some ⟨g, 0, none⟩) ca (some ⟨q, 0, none⟩) co lt lo)).O i = lo[i] := atOwnOb_get hi'
  rw [e]
  exact (KF.out.o _ (List.getElem_mem hi')).1⟩
 have IU : Hid (∀ (x : Int), 0 ≤ x ∧ x ≤ 1000000 → ∀ W, Below W2.heap.size W2 W → Calls Try.prog 6 #[.agg #[.slice (some ⟨g, 0, none⟩) lt.length ca, .slice (some ⟨q, 0, none⟩) lo.length co], .int .i64 x] W fun e w' => ∃ v, e = .returned v ∧ (∃ (a : Option Addr) (c : Nat), v = .slice a (underL k x).length c ∧ OwnI w' W.heap.size (.slice a (underL k x).length c) (underL k x) ∧ Below W.heap.size W w')) := hid (fun x hx W hW => by
  rw [EK.out]
  refine (implUnder_any (kOf (some ⟨g, 0, none⟩) ca (some ⟨q, 0, none⟩) co lt lo) x W ((KS.out.below hW).at (by have := KF.out.tn.2; omega) (by have := KF.out.on.2; omega) KF.out.data) CAP.out WF.out (wf_small hx)).mono ?_
  rintro e w' ⟨v, e1, o, hb⟩
  obtain ⟨a, c, rfl⟩ := OwnI.form o
  exact ⟨_, e1, a, c, rfl, o, hb⟩)
 have SU : Hid (∀ (x : Int), 0 ≤ x ∧ x ≤ 1000000 → ∀ W, Below W2.heap.size W2 W → Calls Try.prog 9 #[.agg #[.slice (some ⟨g, 0, none⟩) lt.length ca, .slice (some ⟨q, 0, none⟩) lo.length co], .int .i64 x] W fun e w' => ∃ v, e = .returned v ∧ (∃ (a : Option Addr) (c : Nat), v = .slice a (underL k x).length c ∧ OwnI w' W.heap.size (.slice a (underL k x).length c) (underL k x) ∧ Below W.heap.size W w')) := hid (fun x hx W hW => by
  rw [EK.out]
  refine (specUnder_any (kOf (some ⟨g, 0, none⟩) ca (some ⟨q, 0, none⟩) co lt lo) x W ((KS.out.below hW).at (by have := KF.out.tn.2; omega) (by have := KF.out.on.2; omega) KF.out.data) (fun i hi => (WF.out i hi).1)).mono ?_
  rintro e w' ⟨v, e1, o, hb⟩
  obtain ⟨a, c, rfl⟩ := OwnI.form o
  exact ⟨_, e1, a, c, rfl, o, hb⟩)
 have IK : Hid (∀ (x : Int), 0 ≤ x ∧ x ≤ 1000000 → ∀ W, Below W2.heap.size W2 W → Calls Try.prog 7 #[.agg #[.slice (some ⟨g, 0, none⟩) lt.length ca, .slice (some ⟨q, 0, none⟩) lo.length co], .int .i64 x] W fun e w' => ∃ v, e = .returned v ∧ (∃ (a : Option Addr) (c : Nat), v = .slice a (kidsL k x).length c ∧ OwnI w' W.heap.size (.slice a (kidsL k x).length c) (kidsL k x) ∧ Below W.heap.size W w')) := hid (fun x hx W hW => by
  rw [EK.out]
  refine (implKids_any (kOf (some ⟨g, 0, none⟩) ca (some ⟨q, 0, none⟩) co lt lo) x W ((KS.out.below hW).at (by have := KF.out.tn.2; omega) (by have := KF.out.on.2; omega) KF.out.data) CAP.out WF.out (wf_small hx)).mono ?_
  rintro e w' ⟨v, e1, o, hb⟩
  obtain ⟨a, c, rfl⟩ := OwnI.form o
  exact ⟨_, e1, a, c, rfl, o, hb⟩)
 have SK : Hid (∀ (x : Int), 0 ≤ x ∧ x ≤ 1000000 → ∀ W, Below W2.heap.size W2 W → Calls Try.prog 10 #[.agg #[.slice (some ⟨g, 0, none⟩) lt.length ca, .slice (some ⟨q, 0, none⟩) lo.length co], .int .i64 x] W fun e w' => ∃ v, e = .returned v ∧ (∃ (a : Option Addr) (c : Nat), v = .slice a (kidsL k x).length c ∧ OwnI w' W.heap.size (.slice a (kidsL k x).length c) (kidsL k x) ∧ Below W.heap.size W w')) := hid (fun x hx W hW => by
  rw [EK.out]
  refine (specKids_any (kOf (some ⟨g, 0, none⟩) ca (some ⟨q, 0, none⟩) co lt lo) x W ((KS.out.below hW).at (by have := KF.out.tn.2; omega) (by have := KF.out.on.2; omega) KF.out.data) (fun i hi => (WF.out i hi).1)).mono ?_
  rintro e w' ⟨v, e1, o, hb⟩
  obtain ⟨a, c, rfl⟩ := OwnI.form o
  exact ⟨_, e1, a, c, rfl, o, hb⟩)
 have IOC : Hid (∀ (x : Int), 0 ≤ x ∧ x ≤ 1000000 → ∀ W, Below W2.heap.size W2 W → Calls Try.prog 11 #[.agg #[.slice (some ⟨g, 0, none⟩) lt.length ca, .slice (some ⟨q, 0, none⟩) lo.length co], .int .i64 x] W fun e w' => ObjAns k x W w' e) := hid (fun x hx W hW => by
  rw [EK.out]
  exact implObjectOf_any (kOf (some ⟨g, 0, none⟩) ca (some ⟨q, 0, none⟩) co lt lo) x W ((KS.out.below hW).at (by have := KF.out.tn.2; omega) (by have := KF.out.on.2; omega) KF.out.data) SMA.out CAP.out WF.out (wf_small hx))
 obtain ⟨UL, eUL⟩ : ∃ l, l = underL k x := ⟨_, rfl⟩
 obtain ⟨KL, eKL⟩ : ∃ l, l = kidsL k x := ⟨_, rfl⟩
 have EUL := hid eUL
 have EKL := hid eKL
 have ul := underL_len k x
 have kl := kidsL_len k x
 rw [← eUL] at ul
 rw [← eKL] at kl
 clear eUL eKL
 refine (IU.out x HX.out _ D0.out).mono ?_
 rintro e w3 ⟨v, rfl, ua, uc, rfl, ou, hb3⟩
 rw [← EUL.out] at ou ⊢
 have D3 := hid (then_ D0.out hb3)
 have OU := hid ou
 clear ou hb3 k0 k1 D0
 obtain ⟨k0, k1⟩ := (BC.out _ D3.out).two
 go_wp2_with fail
 refine (IK.out x HX.out _ D3.out).mono ?_
 rintro e w4 ⟨v, rfl, ka, kc, rfl, ok4, hb4⟩
 rw [← EKL.out] at ok4 ⊢
 have D4 := hid (then_ D3.out hb4)
 have UA_ := hid ((OU.out.newL (by omega)).1.below hb4)
 have KN_ := hid (ok4.newL (by omega)).2
 have KA_ := hid (ok4.newL (by omega)).1
 clear ok4 hb4 k0 k1 OU D3
 have BC2 : Hid (∀ W, Below w4.heap.size w4 W → Below W2.heap.size W2 W) := hid (fun W hW => then_ D4.out hW)
 obtain ⟨k0, k1⟩ := (BC.out _ D4.out).two
 have LB4 := hid (then_ LB.out D4.out)
 have UA : Hid (∀ W, Below w4.heap.size w4 W → IntL.at W ⟨ua, UL.length, uc, nthI UL⟩) := hid (fun W hW => UA_.out.below hW)
 have KAA : Hid (∀ W, Below w4.heap.size w4 W → IntL.at W ⟨ka, KL.length, kc, nthI KL⟩) := hid (fun W hW => KA_.out.below hW)
 go_wp2_with fail
 have BC4 : Hid (∀ W, Below w4.heap.size w4 W → Blk W C (.cells #[.slice (some ⟨g, 0, none⟩) lt.length ca, .slice (some ⟨q, 0, none⟩) lo.length co] 27)) := hid (fun W hW => BC.out W (BC2.out W hW))
 clear BC
 have BC := BC4
 clear BC4
 have IU4 : Hid (∀ (x : Int), 0 ≤ x ∧ x ≤ 1000000 → ∀ W, Below w4.heap.size w4 W → Calls Try.prog 6 #[.agg #[.slice (some ⟨g, 0, none⟩) lt.length ca, .slice (some ⟨q, 0, none⟩) lo.length co], .int .i64 x] W fun e w' => ∃ v, e = .returned v ∧ (∃ (a : Option Addr) (c : Nat), v = .slice a (underL k x).length c ∧ OwnI w' W.heap.size (.slice a (underL k x).length c) (underL k x) ∧ Below W.heap.size W w')) := hid (fun x hx W hW => IU.out x hx W (BC2.out W hW))
 clear IU
 have IU := IU4
 clear IU4
 have SU4 : Hid (∀ (x : Int), 0 ≤ x ∧ x ≤ 1000000 → ∀ W, Below w4.heap.size w4 W → Calls Try.prog 9 #[.agg #[.slice (some ⟨g, 0, none⟩) lt.length ca, .slice (some ⟨q, 0, none⟩) lo.length co], .int .i64 x] W fun e w' => ∃ v, e = .returned v ∧ (∃ (a : Option Addr) (c : Nat), v = .slice a (underL k x).length c ∧ OwnI w' W.heap.size (.slice a (underL k x).length c) (underL k x) ∧ Below W.heap.size W w')) := hid (fun x hx W hW => SU.out x hx W (BC2.out W hW))
 clear SU
 have SU := SU4
 clear SU4
 have SK4 : Hid (∀ (x : Int), 0 ≤ x ∧ x ≤ 1000000 → ∀ W, Below w4.heap.size w4 W → Calls Try.prog 10 #[.agg #[.slice (some ⟨g, 0, none⟩) lt.length ca, .slice (some ⟨q, 0, none⟩) lo.length co], .int .i64 x] W fun e w' => ∃ v, e = .returned v ∧ (∃ (a : Option Addr) (c : Nat), v = .slice a (kidsL k x).length c ∧ OwnI w' W.heap.size (.slice a (kidsL k x).length c) (kidsL k x) ∧ Below W.heap.size W w')) := hid (fun x hx W hW => SK.out x hx W (BC2.out W hW))
 clear SK
 have SK := SK4
 clear SK4
 have D44 := hid (Below.refl w4.heap.size w4)
 clear IK D4
 by_cases hu0 : UL.length = 0
 ·have n0 : ((UL.length : Int) == 0) = true := by rw [hu0]; rfl
  have n1 : decide ((UL.length : Int) = 0) = true := decide_eq_true (by rw [hu0]; rfl)
  clear hu0
  refine (SU.out x HX.out _ D44.out).mono ?_
  rintro e w5a ⟨v, rfl, sa, sc, rfl, os, hb⟩
  rw [← EUL.out] at os ⊢
  have Dw5a := hid (then_ D44.out hb)
  have Sw5 : Hid (Calls Try.prog 8 #[.slice ua UL.length uc, .slice sa UL.length sc] w5a fun e w' => e = .returned (.bool true) ∧ Below w5a.heap.size w5a w') := hid (sameInts_any UL ua sa uc sc w5a (by omega) (UA.out _ Dw5a.out) (os.newL (by omega)).1)
  clear os hb
  go_wp2_with fail
  refine Sw5.out.mono ?_
  rintro e w5 ⟨rfl, hb⟩
  have Dw5 := hid (then_ Dw5a.out hb)
  clear hb Sw5 Dw5a
  clear k0 k1
  obtain ⟨k0, k1⟩ := (BC.out _ Dw5.out).two
  go_wp2_with fail
  refine (SK.out x HX.out _ Dw5.out).mono ?_
  rintro e w6a ⟨v, rfl, sa, sc, rfl, os, hb⟩
  rw [← EKL.out] at os ⊢
  have Dw6a := hid (then_ Dw5.out hb)
  have Sw6 : Hid (Calls Try.prog 8 #[.slice ka KL.length kc, .slice sa KL.length sc] w6a fun e w' => e = .returned (.bool true) ∧ Below w6a.heap.size w6a w') := hid (sameInts_any KL ka sa kc sc w6a (by omega) (KAA.out _ Dw6a.out) (os.newL (by omega)).1)
  clear os hb
  go_wp2_with fail
  refine Sw6.out.mono ?_
  rintro e w6 ⟨rfl, hb⟩
  have Dw6 := hid (then_ Dw6a.out hb)
  clear hb Sw6 Dw6a
  clear k0 k1
  obtain ⟨k0, k1⟩ := (BC.out _ Dw6.out).two
  go_wp2_with fail
  refine (SU.out x HX.out _ Dw6.out).mono ?_
  rintro e w7a ⟨v, rfl, sa, sc, rfl, os, hb⟩
  rw [← EUL.out] at os ⊢
  have Dw7a := hid (then_ Dw6.out hb)
  have Sw7 : Hid (Calls Try.prog 8 #[.slice ua UL.length uc, .slice sa UL.length sc] w7a fun e w' => e = .returned (.bool true) ∧ Below w7a.heap.size w7a w') := hid (sameInts_any UL ua sa uc sc w7a (by omega) (UA.out _ Dw7a.out) (os.newL (by omega)).1)
  clear os hb
  go_wp2_with fail
  refine Sw7.out.mono ?_
  rintro e w7 ⟨rfl, hb⟩
  have Dw7 := hid (then_ Dw7a.out hb)
  clear hb Sw7 Dw7a
  clear k0 k1
  obtain ⟨k0, k1⟩ := (BC.out _ Dw7.out).two
  go_wp2_with fail
  refine (SK.out x HX.out _ Dw7.out).mono ?_
  rintro e w8a ⟨v, rfl, sa, sc, rfl, os, hb⟩
  rw [← EKL.out] at os ⊢
  have Dw8a := hid (then_ Dw7.out hb)
  have Sw8 : Hid (Calls Try.prog 8 #[.slice ka KL.length kc, .slice sa KL.length sc] w8a fun e w' => e = .returned (.bool true) ∧ Below w8a.heap.size w8a w') := hid (sameInts_any KL ka sa kc sc w8a (by omega) (KAA.out _ Dw8a.out) (os.newL (by omega)).1)
  clear os hb
  go_wp2_with fail
  refine Sw8.out.mono ?_
  rintro e w8 ⟨rfl, hb⟩
  have Dw8 := hid (then_ Dw8a.out hb)
  clear hb Sw8 Dw8a
  clear k0 k1
  obtain ⟨k0, k1⟩ := (BC.out _ Dw8.out).two
  go_wp2_with fail
  go_ret
  exact ⟨rfl, then_ LB4.out Dw8.out⟩
 have n0 : ((UL.length : Int) == 0) = false := by simp only [beq_eq_false_iff_ne, ne_eq]; omega
 have n1 : decide ((UL.length : Int) = 0) = false := decide_eq_false (by omega)
 obtain ⟨okk, u, hu, ex⟩ := under_some (k := k) (x := x) (by rw [← EUL.out]; intro e; rw [e] at hu0; exact hu0 rfl)
 have OKK := hid okk
 have HU := hid hu
 have EXX := hid ex
 have u1 : u < k.on := hu
 clear okk hu ex hu0
 refine (SU.out x HX.out _ D44.out).mono ?_
 rintro e w5a ⟨v, rfl, sa, sc, rfl, os, hb⟩
 rw [← EUL.out] at os ⊢
 have Dw5a := hid (then_ D44.out hb)
 have Sw5 : Hid (Calls Try.prog 8 #[.slice ua UL.length uc, .slice sa UL.length sc] w5a fun e w' => e = .returned (.bool true) ∧ Below w5a.heap.size w5a w') := hid (sameInts_any UL ua sa uc sc w5a (by omega) (UA.out _ Dw5a.out) (os.newL (by omega)).1)
 clear os hb
 go_wp2_with fail
 refine Sw5.out.mono ?_
 rintro e w5 ⟨rfl, hb⟩
 have Dw5 := hid (then_ Dw5a.out hb)
 clear hb Sw5 Dw5a
 clear k0 k1
 obtain ⟨k0, k1⟩ := (BC.out _ Dw5.out).two
 go_wp2_with fail
 refine (SK.out x HX.out _ Dw5.out).mono ?_
 rintro e w6a ⟨v, rfl, sa, sc, rfl, os, hb⟩
 rw [← EKL.out] at os ⊢
 have Dw6a := hid (then_ Dw5.out hb)
 have Sw6 : Hid (Calls Try.prog 8 #[.slice ka KL.length kc, .slice sa KL.length sc] w6a fun e w' => e = .returned (.bool true) ∧ Below w6a.heap.size w6a w') := hid (sameInts_any KL ka sa kc sc w6a (by omega) (KAA.out _ Dw6a.out) (os.newL (by omega)).1)
 clear os hb
 go_wp2_with fail
 refine Sw6.out.mono ?_
 rintro e w6 ⟨rfl, hb⟩
 have Dw6 := hid (then_ Dw6a.out hb)
 clear hb Sw6 Dw6a
 clear k0 k1
 obtain ⟨k0, k1⟩ := (BC.out _ Dw6.out).two
 go_wp2_with fail
 clear SU SK n0 n1 k0 k1
 have D66 := hid Dw6.out
 go_loopw [7, 8] (fun v i wr => ∃ j : Nat, j ≤ KL.length ∧ i = .int .i64 j ∧ v = .int .i64 ((1 + sumU k (KL.take j) : Nat) : Int) ∧ Below w4.heap.size w4 wr) (fun _ i _ => KL.length - (intOf i).toNat)
 case atStart => exact ⟨0, Nat.zero_le _, rfl, rfl, D66.out⟩
 case round =>
  obtain ⟨j, hj, rfl, rfl, be⟩ := hrel
  have BB := hid be
  clear be D66 Dw5 Dw6 D44
  have DR := hid (below_drew BB.out)
  have EU_ : Hid (∀ args w, (callFunc 6 args).run Try.prog w = .ok (.enter 6 args) w) := hid (enters_of Try.func6 (by kernel_rfl) rfl)
  by_cases hlt : j < KL.length
  ·have i2 : (j : Int) < (KL.length : Int) := by omega
   have i3 : (0 : Int) ≤ (j : Int) := by omega
   have HLT := hid hlt
   obtain ⟨y, ey⟩ : ∃ y, y = nthI KL j := ⟨_, rfl⟩
   have ym : y ∈ KL := by rw [ey]; unfold nthI; rw [List.getD_eq_getElem?_getD, List.getElem?_eq_getElem hlt]; exact List.getElem_mem hlt
   have yk : y ∈ kidsL k x := by rw [← EKL.out]; exact ym
   have yk2 : y ∈ kidsL k (k.O u).id := by rw [← EXX.out]; exact yk
   obtain ⟨jj, ho, hup, jl, ej, _⟩ := kid_obj OKK.out HU.out yk2
   have YB : Hid (0 ≤ y ∧ y ≤ 1000000) := hid (by
    have jl' : jj < lo.length := by rw [kon] at jl; exact jl
    have e : k.O jj = lo[jj] := by rw [EK.out]; exact atOwnOb_get jl'
    rw [ej, e]
    exact (KF.out.o _ (List.getElem_mem jl')).2.1)
   have EO : Hid (∀ args w, (callFunc 11 args).run Try.prog w = .ok (.enter 11 args) w) := hid (enters_of Try.func11 (by kernel_rfl) rfl)
   have IOB : Hid (∀ W, Below w4.heap.size w4 W → Calls Try.prog 11 #[.agg #[.slice (some ⟨g, 0, none⟩) lt.length ca, .slice (some ⟨q, 0, none⟩) lo.length co], .int .i64 y] W fun e w' => ∃ v, e = .returned v ∧ (∃ o : ObjV, v = .tuple #[.agg #[.int .i64 o.id, .int .i64 o.kind, .int .i64 o.up, .int .i64 o.b1, .slice o.c1.a o.c1.n o.c1.k, .string o.data, .slice o.items.a o.items.n o.items.k, .slice o.own.a o.own.n o.own.k, .int .i64 o.b2, .slice o.c2.a o.c2.n o.c2.k], .bool true] ∧ o.up = x ∧ Below W.heap.size W w')) := hid (fun W hW => (IOC.out y YB.out W (BC2.out W hW)).mono fun e w' ⟨gg, e1, sm, _, _, hb⟩ => ⟨_, e1, gg, by rw [ho]; rfl, by
    have e2 : theO k y = k.O jj := by unfold theO; rw [ho]
    rw [e2] at sm
    rw [sm.2.2.1, hup, EXX.out], hb⟩)
   obtain ⟨BL, eBL⟩ : ∃ l, l = underL k y := ⟨_, rfl⟩
   have EBL := hid eBL
   have BLL : Hid (BL.length ≤ 271) := hid (by rw [eBL]; exact underL_len k y)
   have INU : Hid (∀ z ∈ BL, z ∈ UL) := hid (fun z hz => by
    rw [EUL.out, EXX.out]
    rw [eBL] at hz
    exact kid_below OKK.out HU.out yk2 hz)
   have SUM : Hid (sumU k (KL.take j) ≤ 271 * 271) := hid (Nat.le_trans (sumU_le k (KL.take j)) (Nat.mul_le_mul_right _ (by simp; omega)))
   have SUC : Hid (1 + sumU k (KL.take (j + 1)) = 1 + sumU k (KL.take j) + BL.length) := hid (by
    have e3 : KL.take (j + 1) = KL.take j ++ [y] := by rw [ey, List.take_succ_eq_append_getElem hlt]; unfold nthI; rw [List.getD_eq_getElem?_getD, List.getElem?_eq_getElem hlt]; rfl
    rw [e3, sumU_snoc, ← eBL]
    omega)
   obtain ⟨kb, hkb⟩ : ∃ kb, ka = some ⟨kb, 0, none⟩ := by
    obtain ⟨b', _, _, e, _⟩ := KN_.out (by show 0 < KL.length; omega)
    exact ⟨b', e⟩
   have EKA := hid hkb
   have KC : Hid (∀ W, Below w4.heap.size w4 W → W.cell? ⟨kb, j, none⟩ = some (.int .i64 y)) := hid (fun W hW => by
    obtain ⟨b', off, e, _, hc⟩ := (KAA.out W hW).2 (by show 0 < KL.length; omega)
    rw [show (⟨ka, KL.length, kc, nthI KL⟩ : IntL).a = ka from rfl, EKA.out] at e
    cases e
    have := hc j hlt
    rw [Nat.zero_add] at this
    rw [this, ey])
   clear yk yk2 ho hup jl ej eBL hkb ey hlt ym
   go_wp2_with fail
   refine wp_region_G 12 (fun W => Below w4.heap.size w4 W) (by kernel_rfl) ?_
   refine tk 0 64 (.agg #[.slice (some ⟨g, 0, none⟩) lt.length ca, .slice (some ⟨q, 0, none⟩) lo.length co]) rfl rfl (by kernel_rfl) rfl (fun W h => by obtain ⟨z0, z1⟩ := (BC.out W h).two; go_simp) DR.out ?_
   simp only [ap, List.set]
   refine tk 1 65 (.slice ka KL.length kc) rfl rfl (by kernel_rfl) rfl (fun W h => by go_simp) DR.out ?_
   simp only [ap, List.set]
   refine tk 2 66 (.int .i64 j) rfl rfl (by kernel_rfl) rfl (fun W h => by go_simp) DR.out ?_
   simp only [ap, List.set]
   refine tk 3 67 (.pointer (some ⟨kb, j, none⟩)) rfl rfl (by kernel_rfl) rfl (fun W h => by rw [EKA.out]; go_simp) DR.out ?_
   simp only [ap, List.set]
   refine tk 4 68 (.int .i64 y) rfl rfl (by kernel_rfl) rfl (fun W h => by have z := KC.out W h; go_simp) DR.out ?_
   simp only [ap, List.set]
   generalize wr.drew = WD at *
   refine wpAnyG_two (i := 5) (j := 9) (by kernel_rfl) rfl rfl ?_ ?_
   ·intro K hK
    refine step_call2g (by rfl) 11 _ _ _ (by rfl) EO.out _ _ (by rfl) (by rfl) (some 69) (by rfl) _ (IOB.out _ DR.out) ?_
    rintro v w5 ⟨o, rfl, eup, hb5⟩
    have D5 := hid (then_ DR.out hb5)
    have EU := hid eup
    refine hK.out _ _ (fun _ => D5.out) ?_
    clear hK K hb5 eup
    simp only [ap, List.set]
    refine tk 6 63 (.tuple #[.agg #[.int .i64 o.id, .int .i64 o.kind, .int .i64 o.up, .int .i64 o.b1, .slice o.c1.a o.c1.n o.c1.k, .string o.data, .slice o.items.a o.items.n o.items.k, .slice o.own.a o.own.n o.own.k, .int .i64 o.b2, .slice o.c2.a o.c2.n o.c2.k], .bool true]) rfl rfl (by kernel_rfl) rfl (fun W h => by go_simp) D5.out ?_
    simp only [ap, List.set]
    refine tk 7 70 (.agg #[.int .i64 o.id, .int .i64 o.kind, .int .i64 o.up, .int .i64 o.b1, .slice o.c1.a o.c1.n o.c1.k, .string o.data, .slice o.items.a o.items.n o.items.k, .slice o.own.a o.own.n o.own.k, .int .i64 o.b2, .slice o.c2.a o.c2.n o.c2.k]) rfl rfl (by kernel_rfl) rfl (fun W h => by go_simp) D5.out ?_
    simp only [ap, List.set]
    refine tk 8 71 (.bool true) rfl rfl (by kernel_rfl) rfl (fun W h => by go_simp) D5.out ?_
    simp only [ap, List.set]
    refine wpAnyG_one (i := 9) (by kernel_rfl) rfl ?_
    intro K hK
    go_simp
    refine hK.out _ _ (fun _ => D5.out.alloc D5.out.size (.cells #[.int .i64 0, .int .i64 0, .int .i64 0, .int .i64 0, .slice none 0 0, .string (ByteArray.mk #[]), .slice none 0 0, .slice none 0 0, .int .i64 0, .slice none 0 0] 38)) ?_
    clear hK K
    try simp only [ap, List.set]
    refine wpAnyG_one (i := 10) (by kernel_rfl) rfl ?_
    intro K hK
    go_simp
    refine hK.out _ _ (fun _ => D5.out.alloc D5.out.size (.cells #[.int .i64 o.id, .int .i64 o.kind, .int .i64 o.up, .int .i64 o.b1, .slice o.c1.a o.c1.n o.c1.k, .string o.data, .slice o.items.a o.items.n o.items.k, .slice o.own.a o.own.n o.own.k, .int .i64 o.b2, .slice o.c2.a o.c2.n o.c2.k] 38)) ?_
    clear hK K
    try simp only [ap, List.set]
    have D6 := hid (D5.out.alloc D5.out.size (.cells #[.int .i64 o.id, .int .i64 o.kind, .int .i64 o.up, .int .i64 o.b1, .slice o.c1.a o.c1.n o.c1.k, .string o.data, .slice o.items.a o.items.n o.items.k, .slice o.own.a o.own.n o.own.k, .int .i64 o.b2, .slice o.c2.a o.c2.n o.c2.k] 38))
    have OB := hid (Blk.new w5 (.cells #[.int .i64 o.id, .int .i64 o.kind, .int .i64 o.up, .int .i64 o.b1, .slice o.c1.a o.c1.n o.c1.k, .string o.data, .slice o.items.a o.items.n o.items.k, .slice o.own.a o.own.n o.own.k, .int .i64 o.b2, .slice o.c2.a o.c2.n o.c2.k] 38))
    have OBW := hid D5.out.size
    refine tk 11 10 (.bool true) rfl rfl (by kernel_rfl) rfl (fun W h => by go_simp) D6.out ?_
    simp only [ap, List.set]
    refine wpAnyG_done (by kernel_rfl) ?_ _
    clear D5
    generalize w5.alloc (.cells #[.int .i64 o.id, .int .i64 o.kind, .int .i64 o.up, .int .i64 o.b1, .slice o.c1.a o.c1.n o.c1.k, .string o.data, .slice o.items.a o.items.n o.items.k, .slice o.own.a o.own.n o.own.k, .int .i64 o.b2, .slice o.c2.a o.c2.n o.c2.k] 38) = W6 at *
    generalize w5.heap.size = Q at *
    clear DR
    have DR2 := hid (below_drew D6.out)
    have OB2 : Hid (Blk W6.drew Q (.cells #[.int .i64 o.id, .int .i64 o.kind, .int .i64 o.up, .int .i64 o.b1, .slice o.c1.a o.c1.n o.c1.k, .string o.data, .slice o.items.a o.items.n o.items.k, .slice o.own.a o.own.n o.own.k, .int .i64 o.b2, .slice o.c2.a o.c2.n o.c2.k] 38)) := hid (OB.out.below (below_drew (Below.refl _ W6)))
    go_wp2_with fail
    refine wp_region_G 7 (fun W => Below w4.heap.size w4 W) (by kernel_rfl) ?_
    refine tk 0 72 (.agg #[.slice (some ⟨g, 0, none⟩) lt.length ca, .slice (some ⟨q, 0, none⟩) lo.length co]) rfl rfl (by kernel_rfl) rfl (fun W h => by obtain ⟨z0, z1⟩ := (BC.out W h).two; go_simp) DR2.out ?_
    simp only [ap, List.set]
    refine tk 1 73 (.slice ka KL.length kc) rfl rfl (by kernel_rfl) rfl (fun W h => by go_simp) DR2.out ?_
    simp only [ap, List.set]
    refine tk 2 74 (.int .i64 j) rfl rfl (by kernel_rfl) rfl (fun W h => by go_simp) DR2.out ?_
    simp only [ap, List.set]
    refine tk 3 75 (.pointer (some ⟨kb, j, none⟩)) rfl rfl (by kernel_rfl) rfl (fun W h => by rw [EKA.out]; go_simp) DR2.out ?_
    simp only [ap, List.set]
    refine tk 4 76 (.int .i64 y) rfl rfl (by kernel_rfl) rfl (fun W h => by have z := KC.out W h; go_simp) DR2.out ?_
    simp only [ap, List.set]
    generalize W6.drew = WD2 at *
    refine wpAnyG_one (i := 5) (by kernel_rfl) rfl ?_
    intro K hK
    refine step_call2g (by rfl) 6 _ _ _ (by rfl) EU_.out _ _ (by rfl) (by rfl) (some 77) (by rfl) _ (IU.out y YB.out _ DR2.out) ?_
    rintro v w7 ⟨ba, bc, rfl, ow7, hb7⟩
    rw [← EBL.out] at ow7 ⊢
    have D7 := hid (then_ DR2.out hb7)
    have OW7 := hid ow7
    have OB7 := hid (OB2.out.below hb7)
    refine hK.out _ _ (fun _ => D7.out) ?_
    clear hK K hb7 ow7
    simp only [ap, List.set]
    refine tk 6 11 (.slice ba BL.length bc) rfl rfl (by kernel_rfl) rfl (fun W h => by go_simp) D7.out ?_
    simp only [ap, List.set]
    refine wpAnyG_done (by kernel_rfl) ?_ _
    obtain ⟨o0, o1, o2, o3, o4, o5, o6, o7, o8, o9⟩ := OB7.out.ten
    have up0 : (o.up != x) = false := by rw [EU.out]; simp
    have BA := hid (fun W (hW : Below w7.heap.size w7 W) => (OW7.out.newL (by have := BLL.out; omega)).1.below hW)
    clear OB OB2 OB7 D6 DR2 OBW
    have bl : BL.length ≤ 271 := BLL.out
    have sb : sumU k (KL.take j) ≤ 73441 := SUM.out
    go_wp2
    clear o0 o1 o2 o3 o4 o5 o6 o7 o8 o9 up0
    go_loopw [12] (fun i wr => ∃ m : Nat, m ≤ BL.length ∧ i = .int .i64 m ∧ Below w7.heap.size w7 wr) (fun i _ => BL.length - (intOf i).toNat)
    case atStart => exact ⟨0, Nat.zero_le _, rfl, Below.refl _ _⟩
    case round =>
     obtain ⟨m, hm, rfl, be⟩ := hrel
     have B8 := hid be
     clear be
     by_cases hml : m < BL.length
     ·have m2 : (m : Int) < (BL.length : Int) := by omega
      have m3 : (0 : Int) ≤ (m : Int) := by omega
      have HML := hid hml
      have cm : ∃ b off, ba = some ⟨b, off, none⟩ ∧ wr.cell? ⟨b, off + m, none⟩ = some (.int .i64 (nthI BL m)) := by
       obtain ⟨b, off, e, _, hc⟩ := (BA.out _ B8.out).2 (by show 0 < BL.length; omega)
       exact ⟨b, off, e, hc m hml⟩
      obtain ⟨b, off, rfl, cm1⟩ := cm
      have HH : Hid (Calls Try.prog 12 #[.slice ua UL.length uc, .int .i64 (nthI BL m)] wr fun e w' => e = .returned (.bool true) ∧ w' = wr) := hid (by
       have h := lawHas_any ua UL.length uc (nthI UL) (nthI BL m) wr (UA.out _ (then_ (D7.out) B8.out)).1 (UA.out _ (then_ (D7.out) B8.out)).2
       have e : hasB UL.length (nthI UL) (nthI BL m) = true := hasB_mem.2 (INU.out _ (by
        unfold nthI
        rw [List.getD_eq_getElem?_getD, List.getElem?_eq_getElem HML.out]
        exact List.getElem_mem HML.out))
       rw [e] at h
       exact h)
      go_wp2_with fail
      refine HH.out.mono ?_
      rintro e w8 ⟨rfl, e8⟩
      obtain rfl : wr = w8 := e8.symm
      go_wp2
      go_roundw
      case rel => exact ⟨m + 1, by have := HML.out; omega, by go_num, B8.out⟩
      case measure => have := HML.out; simp [intOf]; omega
     ·obtain rfl : m = BL.length := by omega
      have m2 : ¬ (BL.length : Int) < (BL.length : Int) := by omega
      have w9_ : IntKind.i64.wrap (1 + ((sumU k (KL.take j) : Nat) : Int) + (BL.length : Int)) = 1 + ((sumU k (KL.take j) : Nat) : Int) + (BL.length : Int) := by rw [IntKind.wrap_i64]; omega
      go_wp2
      go_roundw
      case rel => exact ⟨j + 1, by have := HLT.out; omega, by go_num, by rw [SUC.out]; go_num, then_ D7.out B8.out⟩
      case measure => have := HLT.out; simp [intOf]; omega
   ·intro K hK
    go_simp
    refine hK.out _ _ (fun _ => DR.out.alloc DR.out.size (.cells #[.int .i64 0, .int .i64 0, .int .i64 0, .int .i64 0, .slice none 0 0, .string (ByteArray.mk #[]), .slice none 0 0, .slice none 0 0, .int .i64 0, .slice none 0 0] 38)) ?_
    clear hK K
    try simp only [ap, List.set]
    have DA := hid (DR.out.alloc DR.out.size (.cells #[.int .i64 0, .int .i64 0, .int .i64 0, .int .i64 0, .slice none 0 0, .string (ByteArray.mk #[]), .slice none 0 0, .slice none 0 0, .int .i64 0, .slice none 0 0] 38))
    have OA := hid (Blk.new WD (.cells #[.int .i64 0, .int .i64 0, .int .i64 0, .int .i64 0, .slice none 0 0, .string (ByteArray.mk #[]), .slice none 0 0, .slice none 0 0, .int .i64 0, .slice none 0 0] 38))
    have OBW := hid DR.out.size
    refine wpAnyG_one (i := 5) (by kernel_rfl) rfl ?_
    intro K hK
    refine step_call2g (by rfl) 11 _ _ _ (by rfl) EO.out _ _ (by rfl) (by rfl) (some 69) (by rfl) _ (IOB.out _ DA.out) ?_
    rintro v w5 ⟨o, rfl, eup, hb5⟩
    have D5 := hid (then_ DA.out hb5)
    have EU := hid eup
    have O5 := hid (OA.out.below hb5)
    refine hK.out _ _ (fun _ => D5.out) ?_
    clear hK K hb5 eup DA OA
    simp only [ap, List.set]
    refine tk 6 63 (.tuple #[.agg #[.int .i64 o.id, .int .i64 o.kind, .int .i64 o.up, .int .i64 o.b1, .slice o.c1.a o.c1.n o.c1.k, .string o.data, .slice o.items.a o.items.n o.items.k, .slice o.own.a o.own.n o.own.k, .int .i64 o.b2, .slice o.c2.a o.c2.n o.c2.k], .bool true]) rfl rfl (by kernel_rfl) rfl (fun W h => by go_simp) D5.out ?_
    simp only [ap, List.set]
    refine tk 7 70 (.agg #[.int .i64 o.id, .int .i64 o.kind, .int .i64 o.up, .int .i64 o.b1, .slice o.c1.a o.c1.n o.c1.k, .string o.data, .slice o.items.a o.items.n o.items.k, .slice o.own.a o.own.n o.own.k, .int .i64 o.b2, .slice o.c2.a o.c2.n o.c2.k]) rfl rfl (by kernel_rfl) rfl (fun W h => by go_simp) D5.out ?_
    simp only [ap, List.set]
    refine tk 8 71 (.bool true) rfl rfl (by kernel_rfl) rfl (fun W h => by go_simp) D5.out ?_
    simp only [ap, List.set]
    have D6 : Hid (Below w4.heap.size w4 ((((((((((w5.setCell ⟨WD.heap.size, 0, none⟩ (.int .i64 o.id)).setCell ⟨WD.heap.size, 1, none⟩ (.int .i64 o.kind)).setCell ⟨WD.heap.size, 2, none⟩ (.int .i64 o.up)).setCell ⟨WD.heap.size, 3, none⟩ (.int .i64 o.b1)).setCell ⟨WD.heap.size, 4, none⟩ (.slice o.c1.a o.c1.n o.c1.k)).setCell ⟨WD.heap.size, 5, none⟩ (.string o.data)).setCell ⟨WD.heap.size, 6, none⟩ (.slice o.items.a o.items.n o.items.k)).setCell ⟨WD.heap.size, 7, none⟩ (.slice o.own.a o.own.n o.own.k)).setCell ⟨WD.heap.size, 8, none⟩ (.int .i64 o.b2)).setCell ⟨WD.heap.size, 9, none⟩ (.slice o.c2.a o.c2.n o.c2.k))) := hid (set10 D5.out OBW.out (.int .i64 o.id) (.int .i64 o.kind) (.int .i64 o.up) (.int .i64 o.b1) (.slice o.c1.a o.c1.n o.c1.k) (.string o.data) (.slice o.items.a o.items.n o.items.k) (.slice o.own.a o.own.n o.own.k) (.int .i64 o.b2) (.slice o.c2.a o.c2.n o.c2.k))
    have OB : Hid (Blk ((((((((((w5.setCell ⟨WD.heap.size, 0, none⟩ (.int .i64 o.id)).setCell ⟨WD.heap.size, 1, none⟩ (.int .i64 o.kind)).setCell ⟨WD.heap.size, 2, none⟩ (.int .i64 o.up)).setCell ⟨WD.heap.size, 3, none⟩ (.int .i64 o.b1)).setCell ⟨WD.heap.size, 4, none⟩ (.slice o.c1.a o.c1.n o.c1.k)).setCell ⟨WD.heap.size, 5, none⟩ (.string o.data)).setCell ⟨WD.heap.size, 6, none⟩ (.slice o.items.a o.items.n o.items.k)).setCell ⟨WD.heap.size, 7, none⟩ (.slice o.own.a o.own.n o.own.k)).setCell ⟨WD.heap.size, 8, none⟩ (.int .i64 o.b2)).setCell ⟨WD.heap.size, 9, none⟩ (.slice o.c2.a o.c2.n o.c2.k)) WD.heap.size (.cells #[.int .i64 o.id, .int .i64 o.kind, .int .i64 o.up, .int .i64 o.b1, .slice o.c1.a o.c1.n o.c1.k, .string o.data, .slice o.items.a o.items.n o.items.k, .slice o.own.a o.own.n o.own.k, .int .i64 o.b2, .slice o.c2.a o.c2.n o.c2.k] 38)) := hid (blk_set10 O5.out (.int .i64 o.id) (.int .i64 o.kind) (.int .i64 o.up) (.int .i64 o.b1) (.slice o.c1.a o.c1.n o.c1.k) (.string o.data) (.slice o.items.a o.items.n o.items.k) (.slice o.own.a o.own.n o.own.k) (.int .i64 o.b2) (.slice o.c2.a o.c2.n o.c2.k))
    obtain ⟨o0, o1, o2, o3, o4, o5, o6, o7, o8, o9⟩ := O5.out.ten
    have of := O5.out.warm
    refine wpAnyG_one (i := 10) (by kernel_rfl) rfl ?_
    intro K hK
    go_simp
    refine hK.out _ _ (fun _ => D6.out) ?_
    clear hK K
    try simp only [ap, List.set]
    clear o0 o1 o2 o3 o4 o5 o6 o7 o8 o9 of O5 D5
    refine tk 11 10 (.bool true) rfl rfl (by kernel_rfl) rfl (fun W h => by go_simp) D6.out ?_
    simp only [ap, List.set]
    refine wpAnyG_done (by kernel_rfl) ?_ _
    generalize ((((((((((w5.setCell ⟨WD.heap.size, 0, none⟩ (.int .i64 o.id)).setCell ⟨WD.heap.size, 1, none⟩ (.int .i64 o.kind)).setCell ⟨WD.heap.size, 2, none⟩ (.int .i64 o.up)).setCell ⟨WD.heap.size, 3, none⟩ (.int .i64 o.b1)).setCell ⟨WD.heap.size, 4, none⟩ (.slice o.c1.a o.c1.n o.c1.k)).setCell ⟨WD.heap.size, 5, none⟩ (.string o.data)).setCell ⟨WD.heap.size, 6, none⟩ (.slice o.items.a o.items.n o.items.k)).setCell ⟨WD.heap.size, 7, none⟩ (.slice o.own.a o.own.n o.own.k)).setCell ⟨WD.heap.size, 8, none⟩ (.int .i64 o.b2)).setCell ⟨WD.heap.size, 9, none⟩ (.slice o.c2.a o.c2.n o.c2.k)) = W6 at *
    generalize WD.heap.size = Q at *
    clear DR
    have DR2 := hid (below_drew D6.out)
    have OB2 : Hid (Blk W6.drew Q (.cells #[.int .i64 o.id, .int .i64 o.kind, .int .i64 o.up, .int .i64 o.b1, .slice o.c1.a o.c1.n o.c1.k, .string o.data, .slice o.items.a o.items.n o.items.k, .slice o.own.a o.own.n o.own.k, .int .i64 o.b2, .slice o.c2.a o.c2.n o.c2.k] 38)) := hid (OB.out.below (below_drew (Below.refl _ W6)))
    go_wp2_with fail
    refine wp_region_G 7 (fun W => Below w4.heap.size w4 W) (by kernel_rfl) ?_
    refine tk 0 72 (.agg #[.slice (some ⟨g, 0, none⟩) lt.length ca, .slice (some ⟨q, 0, none⟩) lo.length co]) rfl rfl (by kernel_rfl) rfl (fun W h => by obtain ⟨z0, z1⟩ := (BC.out W h).two; go_simp) DR2.out ?_
    simp only [ap, List.set]
    refine tk 1 73 (.slice ka KL.length kc) rfl rfl (by kernel_rfl) rfl (fun W h => by go_simp) DR2.out ?_
    simp only [ap, List.set]
    refine tk 2 74 (.int .i64 j) rfl rfl (by kernel_rfl) rfl (fun W h => by go_simp) DR2.out ?_
    simp only [ap, List.set]
    refine tk 3 75 (.pointer (some ⟨kb, j, none⟩)) rfl rfl (by kernel_rfl) rfl (fun W h => by rw [EKA.out]; go_simp) DR2.out ?_
    simp only [ap, List.set]
    refine tk 4 76 (.int .i64 y) rfl rfl (by kernel_rfl) rfl (fun W h => by have z := KC.out W h; go_simp) DR2.out ?_
    simp only [ap, List.set]
    generalize W6.drew = WD2 at *
    refine wpAnyG_one (i := 5) (by kernel_rfl) rfl ?_
    intro K hK
    refine step_call2g (by rfl) 6 _ _ _ (by rfl) EU_.out _ _ (by rfl) (by rfl) (some 77) (by rfl) _ (IU.out y YB.out _ DR2.out) ?_
    rintro v w7 ⟨ba, bc, rfl, ow7, hb7⟩
    rw [← EBL.out] at ow7 ⊢
    have D7 := hid (then_ DR2.out hb7)
    have OW7 := hid ow7
    have OB7 := hid (OB2.out.below hb7)
    refine hK.out _ _ (fun _ => D7.out) ?_
    clear hK K hb7 ow7
    simp only [ap, List.set]
    refine tk 6 11 (.slice ba BL.length bc) rfl rfl (by kernel_rfl) rfl (fun W h => by go_simp) D7.out ?_
    simp only [ap, List.set]
    refine wpAnyG_done (by kernel_rfl) ?_ _
    obtain ⟨o0, o1, o2, o3, o4, o5, o6, o7, o8, o9⟩ := OB7.out.ten
    have up0 : (o.up != x) = false := by rw [EU.out]; simp
    have BA := hid (fun W (hW : Below w7.heap.size w7 W) => (OW7.out.newL (by have := BLL.out; omega)).1.below hW)
    clear OB OB2 OB7 D6 DR2 OBW
    have bl : BL.length ≤ 271 := BLL.out
    have sb : sumU k (KL.take j) ≤ 73441 := SUM.out
    go_wp2
    clear o0 o1 o2 o3 o4 o5 o6 o7 o8 o9 up0
    go_loopw [12] (fun i wr => ∃ m : Nat, m ≤ BL.length ∧ i = .int .i64 m ∧ Below w7.heap.size w7 wr) (fun i _ => BL.length - (intOf i).toNat)
    case atStart => exact ⟨0, Nat.zero_le _, rfl, Below.refl _ _⟩
    case round =>
     obtain ⟨m, hm, rfl, be⟩ := hrel
     have B8 := hid be
     clear be
     by_cases hml : m < BL.length
     ·have m2 : (m : Int) < (BL.length : Int) := by omega
      have m3 : (0 : Int) ≤ (m : Int) := by omega
      have HML := hid hml
      have cm : ∃ b off, ba = some ⟨b, off, none⟩ ∧ wr.cell? ⟨b, off + m, none⟩ = some (.int .i64 (nthI BL m)) := by
       obtain ⟨b, off, e, _, hc⟩ := (BA.out _ B8.out).2 (by show 0 < BL.length; omega)
       exact ⟨b, off, e, hc m hml⟩
      obtain ⟨b, off, rfl, cm1⟩ := cm
      have HH : Hid (Calls Try.prog 12 #[.slice ua UL.length uc, .int .i64 (nthI BL m)] wr fun e w' => e = .returned (.bool true) ∧ w' = wr) := hid (by
       have h := lawHas_any ua UL.length uc (nthI UL) (nthI BL m) wr (UA.out _ (then_ (D7.out) B8.out)).1 (UA.out _ (then_ (D7.out) B8.out)).2
       have e : hasB UL.length (nthI UL) (nthI BL m) = true := hasB_mem.2 (INU.out _ (by
        unfold nthI
        rw [List.getD_eq_getElem?_getD, List.getElem?_eq_getElem HML.out]
        exact List.getElem_mem HML.out))
       rw [e] at h
       exact h)
      go_wp2_with fail
      refine HH.out.mono ?_
      rintro e w8 ⟨rfl, e8⟩
      obtain rfl : wr = w8 := e8.symm
      go_wp2
      go_roundw
      case rel => exact ⟨m + 1, by have := HML.out; omega, by go_num, B8.out⟩
      case measure => have := HML.out; simp [intOf]; omega
     ·obtain rfl : m = BL.length := by omega
      have m2 : ¬ (BL.length : Int) < (BL.length : Int) := by omega
      have w9_ : IntKind.i64.wrap (1 + ((sumU k (KL.take j) : Nat) : Int) + (BL.length : Int)) = 1 + ((sumU k (KL.take j) : Nat) : Int) + (BL.length : Int) := by rw [IntKind.wrap_i64]; omega
      go_wp2
      go_roundw
      case rel => exact ⟨j + 1, by have := HLT.out; omega, by go_num, by rw [SUC.out]; go_num, then_ D7.out B8.out⟩
      case measure => have := HLT.out; simp [intOf]; omega
  ·obtain rfl : j = KL.length := by omega
   have i2 : ¬ (KL.length : Int) < (KL.length : Int) := by omega
   have em : ((1 + sumU k (KL.take KL.length) : Nat) : Int) = (UL.length : Int) := by
    have h := under_sum OKK.out HU.out
    rw [← EXX.out, ← EUL.out, ← EKL.out] at h
    rw [List.take_length, h]
   rw [em]
   clear em
   have EH_ : Hid (∀ args w, (callFunc 12 args).run Try.prog w = .ok (.enter 12 args) w) := hid (enters_of Try.func12 (by kernel_rfl) rfl)
   have RT : Hid ((underL k 1).length = lo.length) := hid (by rw [root_under OKK.out, kon])
   have HX_ : Hid (∀ W, Below w4.heap.size w4 W → Calls Try.prog 12 #[.slice ua UL.length uc, .int .i64 x] W fun e w' => ∃ v, e = .returned v ∧ (v = .bool true ∧ Below W.heap.size W w')) := hid (fun W hW => by
    have h := lawHas_any ua UL.length uc (nthI UL) x W (UA.out _ hW).1 (UA.out _ hW).2
    have e : hasB UL.length (nthI UL) x = true := hasB_mem.2 (by rw [EUL.out, EXX.out]; exact self_under OKK.out HU.out)
    rw [e] at h
    exact h.mono fun e w' ⟨e1, e2⟩ => ⟨_, e1, rfl, by rw [e2]; exact Below.refl _ _⟩)
   go_wp2_with fail
   refine wp_region_G 19 (fun W => Below w4.heap.size w4 W) (by kernel_rfl) ?_
   refine tk 0 103 (.int .i64 (UL.length : Int)) rfl rfl (by kernel_rfl) rfl (fun W h => by go_simp) DR.out ?_
   simp only [ap, List.set]
   refine tk 1 104 (.slice ua UL.length uc) rfl rfl (by kernel_rfl) rfl (fun W h => by go_simp) DR.out ?_
   simp only [ap, List.set]
   refine tk 2 105 (.int .i64 (UL.length : Int)) rfl rfl (by kernel_rfl) rfl (fun W h => by go_simp) DR.out ?_
   simp only [ap, List.set]
   refine tk 3 106 (.bool true) rfl rfl (by kernel_rfl) rfl (fun W h => by go_simp) DR.out ?_
   simp only [ap, List.set]
   refine tk 4 107 (.bool true) rfl rfl (by kernel_rfl) rfl (fun W h => by go_simp) DR.out ?_
   simp only [ap, List.set]
   refine tk 5 108 (.slice ua UL.length uc) rfl rfl (by kernel_rfl) rfl (fun W h => by go_simp) DR.out ?_
   simp only [ap, List.set]
   refine tk 6 109 (.int .i64 x) rfl rfl (by kernel_rfl) rfl (fun W h => by go_simp) DR.out ?_
   simp only [ap, List.set]
   generalize wr.drew = WD at *
   refine wpAnyG_one (i := 7) (by kernel_rfl) rfl ?_
   intro K hK
   refine step_call2g (by rfl) 12 _ _ _ (by rfl) EH_.out _ _ (by rfl) (by rfl) (some 110) (by rfl) _ (HX_.out _ DR.out) ?_
   rintro v w5 ⟨rfl, hb5⟩
   have D5 := hid (then_ DR.out hb5)
   refine hK.out _ _ (fun _ => D5.out) ?_
   clear hK K hb5
   simp only [ap, List.set]
   refine tk 8 111 (.bool true) rfl rfl (by kernel_rfl) rfl (fun W h => by go_simp) D5.out ?_
   simp only [ap, List.set]
   refine tk 9 112 (.bool true) rfl rfl (by kernel_rfl) rfl (fun W h => by go_simp) D5.out ?_
   simp only [ap, List.set]
   refine tk 10 113 (.agg #[.slice (some ⟨g, 0, none⟩) lt.length ca, .slice (some ⟨q, 0, none⟩) lo.length co]) rfl rfl (by kernel_rfl) rfl (fun W h => by obtain ⟨z0, z1⟩ := (BC.out W h).two; go_simp) D5.out ?_
   simp only [ap, List.set]
   refine tk 13 116 (.pointer (some ⟨C, 1, none⟩)) rfl rfl (by kernel_rfl) rfl (fun W h => by go_simp) D5.out ?_
   simp only [ap, List.set]
   refine tk 14 117 (.slice (some ⟨q, 0, none⟩) lo.length co) rfl rfl (by kernel_rfl) rfl (fun W h => by obtain ⟨z0, z1⟩ := (BC.out W h).two; go_simp) D5.out ?_
   simp only [ap, List.set]
   refine tk 15 118 (.int .i64 (lo.length : Int)) rfl rfl (by kernel_rfl) rfl (fun W h => by go_simp) D5.out ?_
   simp only [ap, List.set]
   refine wpAnyG_one (i := 11) (by kernel_rfl) rfl ?_
   intro K hK
   refine step_call2g (by rfl) 6 _ _ _ (by rfl) EU_.out _ _ (by rfl) (by rfl) (some 114) (by rfl) _ (IU.out 1 (by omega) _ D5.out) ?_
   rintro v w6 ⟨ra, rc, rfl, ow6, hb6⟩
   have D6 := hid (then_ D5.out hb6)
   rw [RT.out]
   refine hK.out _ _ (fun _ => D6.out) ?_
   clear hK K hb6 ow6
   simp only [ap, List.set]
   refine tk 12 115 (.int .i64 (lo.length : Int)) rfl rfl (by kernel_rfl) rfl (fun W h => by go_simp) D6.out ?_
   simp only [ap, List.set]
   refine tk 16 119 (.bool true) rfl rfl (by kernel_rfl) rfl (fun W h => by go_simp) D6.out ?_
   simp only [ap, List.set]
   refine tk 17 120 (.bool true) rfl rfl (by kernel_rfl) rfl (fun W h => by go_simp) D6.out ?_
   simp only [ap, List.set]
   refine tk 18 2 (.bool true) rfl rfl (by kernel_rfl) rfl (fun W h => by go_simp) D6.out ?_
   simp only [ap, List.set]
   refine wpAnyG_done (by kernel_rfl) ?_ _
   go_wp2
   go_ret
   exact ⟨rfl, then_ LB4.out D6.out⟩
end Go.Proofs.Ytkoinmddcnnipaa
