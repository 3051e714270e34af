/- The model's l1Flows answers the plain function flowsB. -/
import Derived.Test.YtkoinmddcnnipaaZ1
import Derived.Test.YtkoinmddcnnipaaZ0
namespace Go.Proofs.Ytkoinmddcnnipaa
open Go.RowKit Go.Deep Go.Maps

def hasB (n : Nat) (h : Nat → Int) (x : Int) : Bool := (List.range n).any (fun i => h i == x)
theorem hasB_yes {n k : Nat} {h : Nat → Int} {x : Int} (hk : k < n) (e : h k = x) : hasB n h x = true := by
  unfold hasB; rw [List.any_eq_true]; exact ⟨k, List.mem_range.2 hk, by simpa using e⟩
theorem hasB_no {n : Nat} {h : Nat → Int} {x : Int} (e : ∀ i, i < n → h i ≠ x) : hasB n h x = false := by
  unfold hasB; rw [List.any_eq_false]; intro i hi; simpa using e i (List.mem_range.1 hi)

set_option maxHeartbeats 1000000 in
theorem l1Has_any (a : Option Addr) (n cap : Nat) (h : Nat → Int) (x : Int) (w : World) (hn : n ≤ maxLen) (hc : IntsAt w a n h) :
    Calls Try.prog 96 #[.slice a n cap, .int .i64 x] w fun e w' => e = .returned (.bool (hasB n h x)) ∧ w' = w := by
  unfold maxLen at hn
  go_enter Try.func96, Try.ntmps96
  go_wp2
  go_loop [5] (fun i => ∃ k : Nat, k ≤ n ∧ i = .int .i64 k ∧ (∀ j, j < k → h j ≠ x)) (fun i => n - (intOf i).toNat)
  case atStart => exact ⟨0, Nat.zero_le _, rfl, fun j hj => by omega⟩
  case round =>
    obtain ⟨k, hk, rfl, hall⟩ := hrel
    have HA : Hid (∀ j, j < k → h j ≠ x) := hall
    clear hall
    by_cases hlt' : k < n
    · obtain ⟨b, off, rfl, hlt, hcc⟩ := hc (by omega)
      have g1 := hcc k hlt'
      clear hcc hc
      by_cases t : (h k == x) = true
      · go_wp2
        go_ret
        exact ⟨ret_bool (hasB_yes hlt' (by simpa using t)).symm, rfl⟩
      · have t' : (h k == x) = false := by simpa using t
        clear t
        go_wp2
        go_round
        case rel =>
          refine ⟨k + 1, by omega, by go_num, fun j hj => ?_⟩
          by_cases e : j = k
          · subst e; simpa using t'
          · exact HA.out j (by omega)
        case measure => simp [intOf]; omega
    · clear hc
      go_wp2
      go_ret
      have e : k = n := by omega
      subst e
      exact ⟨ret_bool (hasB_no HA.out).symm, rfl⟩
def letB (ba : Int) (na : Nat) (fa ga : Nat → Int) (no : Nat) (ho : Nat → Int) (bb : Int) (nb : Nat) (fb gb : Nat → Int) (x : Int) : Bool :=
  hasB no ho x || !decide (levOf bb nb fb gb x < levOf ba na fa ga x)
def flowsB (ba : Int) (na : Nat) (fa ga : Nat → Int) (no : Nat) (ho : Nat → Int) (bb : Int) (nb : Nat) (fb gb : Nat → Int) : Bool :=
  decide (ba ≤ bb) && (List.range (na + nb)).all (fun i => letB ba na fa ga no ho bb nb fb gb (glue na fa fb i))

theorem flowsB_base {ba : Int} {na : Nat} {fa ga : Nat → Int} {no : Nat} {ho : Nat → Int} {bb : Int} {nb : Nat} {fb gb : Nat → Int} (h : bb < ba) : flowsB ba na fa ga no ho bb nb fb gb = false := by
  have : decide (ba ≤ bb) = false := by simp; omega
  simp [flowsB, this]
theorem flowsB_at {ba : Int} {na : Nat} {fa ga : Nat → Int} {no : Nat} {ho : Nat → Int} {bb : Int} {nb : Nat} {fb gb : Nat → Int} {k : Nat} (hk : k < na + nb) (h : letB ba na fa ga no ho bb nb fb gb (glue na fa fb k) = false) : flowsB ba na fa ga no ho bb nb fb gb = false := by
  have : (List.range (na + nb)).all (fun i => letB ba na fa ga no ho bb nb fb gb (glue na fa fb i)) = false := by
    rw [List.all_eq_false]; exact ⟨k, List.mem_range.2 hk, by simp [h]⟩
  simp [flowsB, this]
theorem flowsB_mk {ba : Int} {na : Nat} {fa ga : Nat → Int} {no : Nat} {ho : Nat → Int} {bb : Int} {nb : Nat} {fb gb : Nat → Int} (h0 : ba ≤ bb) (h : ∀ i, i < na + nb → letB ba na fa ga no ho bb nb fb gb (glue na fa fb i) = true) : flowsB ba na fa ga no ho bb nb fb gb = true := by
  have : (List.range (na + nb)).all (fun i => letB ba na fa ga no ho bb nb fb gb (glue na fa fb i)) = true := by
    rw [List.all_eq_true]; intro i hi; exact h i (List.mem_range.1 hi)
  simp [flowsB, this, h0]

set_option maxRecDepth 100000 in
set_option maxHeartbeats 1000000 in
theorem l1Flows_any (ba : Int) (aa : Option Addr) (na ka : Nat) (fa ga : Nat → Int) (ao : Option Addr) (no ko : Nat) (ho : Nat → Int) (bb : Int) (ab : Option Addr) (nb kb : Nat) (fb gb : Nat → Int) (w : World)
    (hna : na ≤ 1048576) (hnb : nb ≤ 1048576) (hno : no ≤ maxLen) (hca : CatsAt w aa na fa ga) (hcb : CatsAt w ab nb fb gb) (hco : IntsAt w ao no ho)
    (hra : ∀ j, j < na → ∀ i, i < j → fa i < fa j) (hrb : ∀ j, j < nb → ∀ i, i < j → fb i < fb j) :
    Calls Try.prog 94 #[.agg #[.int .i64 ba, .slice aa na ka], .slice ao no ko, .agg #[.int .i64 bb, .slice ab nb kb]] w fun e w' => e = .returned (.bool (flowsB ba na fa ga no ho bb nb fb gb)) ∧ Below w.heap.size w w' := by
  have hb0 := ((Below.refl _ w).alloc (Nat.le_refl _) (.cells #[.int .i64 ba, .slice aa na ka] 35)).alloc (by simp) (.cells #[.int .i64 bb, .slice ab nb kb] 35)
  by_cases h0 : bb < ba
  · go_enter Try.func94, Try.ntmps94
    go_wp2
    go_ret
    exact ⟨ret_bool (flowsB_base h0).symm, hb0⟩
  · go_enter Try.func94, Try.ntmps94
    go_wp2_with fail
    have own0 : OwnCats ((((w.alloc (.cells #[.int .i64 ba, .slice aa na ka] 35)).alloc (.cells #[.int .i64 bb, .slice ab nb kb] 35)).alloc (.cells #[] 90)).drew) (w.heap.size + 1 + 1) (.slice (some ⟨w.heap.size + 1 + 1, 0, none⟩) 0 0) 0 (fun _ => 0) (fun _ => 0) := by
      have := World.ownsRow_made (base := w.heap.size + 1 + 1) (e := 90) (size := 2) ((w.alloc (.cells #[.int .i64 ba, .slice aa na ka] 35)).alloc (.cells #[.int .i64 bb, .slice ab nb kb] 35)) #[] 0 (by simp) (Nat.zero_le _) rfl
      simp at this
      exact this
    have B0 := (hb0.alloc (by simp; omega) (.cells #[] 90)).drew
    have C0a := hca.below B0
    obtain ⟨D0, hD0⟩ : ∃ D0, D0 = (((w.alloc (.cells #[.int .i64 ba, .slice aa na ka] 35)).alloc (.cells #[.int .i64 bb, .slice ab nb kb] 35)).alloc (.cells #[] 90)).drew := ⟨_, rfl⟩
    have d1 : D0.cell? ⟨w.heap.size, 0, none⟩ = some (.int .i64 ba) := by rw [hD0]; go_simp
    have d2 : D0.cell? ⟨w.heap.size, 1, none⟩ = some (.slice aa na ka) := by rw [hD0]; go_simp
    have d3 : D0.cell? ⟨w.heap.size + 1, 0, none⟩ = some (.int .i64 bb) := by rw [hD0]; go_simp
    have d4 : D0.cell? ⟨w.heap.size + 1, 1, none⟩ = some (.slice ab nb kb) := by rw [hD0]; go_simp
    have dz : w.heap.size + 1 + 1 ≤ D0.heap.size := by rw [hD0]; simp
    have HD : Hid (D0 = (((w.alloc (.cells #[.int .i64 ba, .slice aa na ka] 35)).alloc (.cells #[.int .i64 bb, .slice ab nb kb] 35)).alloc (.cells #[] 90)).drew) := hD0
    have GG : ∀ w1, ((((w.alloc (.cells #[.int .i64 ba, .slice aa na ka] 35)).alloc (.cells #[.int .i64 bb, .slice ab nb kb] 35)).alloc (.cells #[] 90)).drew).grownBy w1 (Value.slice (some ⟨w.heap.size + 1 + 1, 0, none⟩) 0 0).ownBlock → Below (w.heap.size + 1 + 1) D0 w1 := fun w1 hg => by
      rw [← HD.out] at hg
      exact (Below.refl _ _).grown hg dz (fun k e => by cases e; exact Nat.le_refl _)
    have B0' : Below w.heap.size w D0 := by rw [hD0]; exact B0
    clear hD0
    go_region_held3 (fun w' => w'.cell? ⟨w.heap.size, 0, none⟩ = some (.int .i64 ba) ∧ w'.cell? ⟨w.heap.size, 1, none⟩ = some (.slice aa na ka) ∧ w'.cell? ⟨w.heap.size + 1, 0, none⟩ = some (.int .i64 bb) ∧ w'.cell? ⟨w.heap.size + 1, 1, none⟩ = some (.slice ab nb kb)) (go_keep)
      (first
        | (refine step_append_cats0 _ (by rfl) _ _ (by rfl) (w.heap.size + 1 + 1) _ (fun _ => 0) (fun _ => 0) (by rfl) own0 aa na ka fa ga (by rfl) C0a (by omega) (by simp) ?_; intro a1 c1 w1 hown1 hgrow1 hat1; have G1 := GG w1 hgrow1; have p1 := (G1.cell (p := ⟨w.heap.size, 0, none⟩) (by dsimp only; omega)).trans d1; have p2 := (G1.cell (p := ⟨w.heap.size, 1, none⟩) (by dsimp only; omega)).trans d2; have p3 := (G1.cell (p := ⟨w.heap.size + 1, 0, none⟩) (by dsimp only; omega)).trans d3; have p4 := (G1.cell (p := ⟨w.heap.size + 1, 1, none⟩) (by dsimp only; omega)).trans d4; have s1 : w.heap.size + 1 + 1 ≤ w1.heap.size := Nat.le_trans dz G1.size; have B1 : Below w.heap.size w w1 := B0'.trans (G1.mono (by omega)); have C1b := hcb.below B1)
        | (refine step_append_cats _ (by rfl) _ _ (by rfl) (w.heap.size + 1 + 1) _ na fa ga (by rfl) hown1 ab nb kb fb gb (by rfl) C1b (by omega) s1 ?_; intro a2 c2 w2 hown2 hgrow2 hat2; have G2 : Below (w.heap.size + 1 + 1) w1 w2 := (Below.refl _ _).grown hgrow2 s1 (fun k e => (World.ownsRow.lt hown1 k e).1); have q1 := (G2.cell (p := ⟨w.heap.size, 0, none⟩) (by dsimp only; omega)).trans p1; have q2 := (G2.cell (p := ⟨w.heap.size, 1, none⟩) (by dsimp only; omega)).trans p2; have q3 := (G2.cell (p := ⟨w.heap.size + 1, 0, none⟩) (by dsimp only; omega)).trans p3; have q4 := (G2.cell (p := ⟨w.heap.size + 1, 1, none⟩) (by dsimp only; omega)).trans p4; have s2 : w.heap.size + 1 + 1 ≤ w2.heap.size := Nat.le_trans s1 G2.size; have B2 : Below w.heap.size w w2 := B1.trans (G2.mono (by omega))))
    have C2 := OwnCats.cats hown2
    have C2a := hca.below B2
    have C2b := hcb.below B2
    have C2o := hco.below B2
    clear p1 p2 p3 p4 d1 d2 d3 d4 hca hcb hco B0 C0a own0 hb0 hown1 hgrow1 hat1 hgrow2 hat2 hown2 G1 G2 GG HD s1 C1b B1 dz B0'
    go_wp2
    go_loopw [8] (fun i wr => ∃ k : Nat, k ≤ na + nb ∧ i = .int .i64 k ∧ (∀ j, j < k → letB ba na fa ga no ho bb nb fb gb (glue na fa fb j) = true) ∧ Below w2.heap.size w2 wr) (fun i _ => na + nb - (intOf i).toNat)
    case atStart => exact ⟨0, Nat.zero_le _, rfl, fun j hj => by omega, Below.refl _ _⟩
    case round =>
      obtain ⟨k, hk, rfl, hall, hB⟩ := hrel
      have HA : Hid (∀ j, j < k → letB ba na fa ga no ho bb nb fb gb (glue na fa fb j) = true) := hall
      clear hall
      have Bw : Below w.heap.size w wr := B2.trans (hB.mono (by omega))
      by_cases hlt' : k < na + nb
      · obtain ⟨b, off, rfl, hlt, hcc⟩ := C2 (by omega)
        have r5 := (hB.cell (p := ⟨b, off + k * 2, none⟩) hlt).trans (hcc k hlt').1
        have r1 := (hB.cell (p := ⟨w.heap.size, 0, none⟩) (by dsimp only; omega)).trans q1
        have r2 := (hB.cell (p := ⟨w.heap.size, 1, none⟩) (by dsimp only; omega)).trans q2
        have r3 := (hB.cell (p := ⟨w.heap.size + 1, 0, none⟩) (by dsimp only; omega)).trans q3
        have r4 := (hB.cell (p := ⟨w.heap.size + 1, 1, none⟩) (by dsimp only; omega)).trans q4
        have i0 : (0 : Int) ≤ (k : Int) := by omega
        have i1 : (k : Int) < ((na + nb : Nat) : Int) := by omega
        have i1' : (k : Int) < (na : Int) + (nb : Int) := by omega
        have y1 : w.heap.size < wr.heap.size := by have := hB.size; omega
        have y2 : w.heap.size + 1 < wr.heap.size := by have := hB.size; omega
        have y3 : b < wr.heap.size := by have := hB.size; omega
        have Ca : CatsAt wr.drew aa na fa ga := (C2a.below hB).below (Below.refl _ _).drew
        have Cb : CatsAt wr.drew ab nb fb gb := (C2b.below hB).below (Below.refl _ _).drew
        have Co : IntsAt wr ao no ho := C2o.below hB
        obtain ⟨x, hx⟩ : ∃ x, x = glue na fa fb k := ⟨_, rfl⟩
        rw [← hx] at r5
        have HX : Hid (x = glue na fa fb k) := hx
        clear hx hcc C2 C2a C2b C2o q1 q2 q3 q4
        by_cases t : hasB no ho x = true
        · clear Ca Cb
          have t' : letB ba na fa ga no ho bb nb fb gb x = true := by simp [letB, t]
          have HT : Hid (letB ba na fa ga no ho bb nb fb gb x = true) := t'
          clear t'
          go_wp2_with fail
          have CoN : ∀ m, IntsAt (wr.drewN m) ao no ho := fun m => Co.below (below_drewN (Below.refl _ _) m)
          go_quiet ((go_at_call 96; exact Calls.quiet_of_same (l1Has_any _ _ _ ho _ _ hno (CoN _))))
          clear CoN
          go_wp2
          go_roundw
          case rel =>
            refine ⟨k + 1, by omega, by go_num, fun j hj => ?_, below_drewN hB _⟩
            by_cases e : j = k
            · subst e; rw [← HX.out]; exact HT.out
            · exact HA.out j (by omega)
          case measure => simp [intOf]; omega
        · have t0 : hasB no ho x = false := by simpa using t
          clear t
          have Co' : IntsAt wr.drew ao no ho := Co.below (Below.refl _ _).drew
          have HRA : Hid (∀ j, j < na → ∀ i, i < j → fa i < fa j) := hra
          have HRB : Hid (∀ j, j < nb → ∀ i, i < j → fb i < fb j) := hrb
          have ma : na ≤ maxLen := by unfold maxLen; omega
          have mb : nb ≤ maxLen := by unfold maxLen; omega
          clear Co hra hrb
          go_wp2_with fail
          go_region_held3 (fun w' => w'.cell? ⟨w.heap.size, 0, none⟩ = some (.int .i64 ba) ∧ w'.cell? ⟨w.heap.size, 1, none⟩ = some (.slice aa na ka) ∧ w'.cell? ⟨w.heap.size + 1, 0, none⟩ = some (.int .i64 bb) ∧ w'.cell? ⟨w.heap.size + 1, 1, none⟩ = some (.slice ab nb kb) ∧ w'.cell? ⟨b, off + k * 2, none⟩ = some (.int .i64 x)) (go_keep)
            (first
              | (go_at_call 96; refine (l1Has_any _ _ _ ho _ _ hno Co').mono ?_; rintro e w' ⟨rfl, rfl⟩)
              | (go_at_call 102; refine (l1Level_any bb ab nb kb fb gb x _ mb (Cb.below hb1) HRB.out).mono ?_; rintro e v2 ⟨rfl, hb2⟩; have u1 := (hb2.cell (p := ⟨w.heap.size, 0, none⟩) (Nat.lt_of_lt_of_le y1 hb1.size)).trans p1; have u2 := (hb2.cell (p := ⟨w.heap.size, 1, none⟩) (Nat.lt_of_lt_of_le y1 hb1.size)).trans p2; have u3 := (hb2.cell (p := ⟨w.heap.size + 1, 0, none⟩) (Nat.lt_of_lt_of_le y2 hb1.size)).trans p3; have u4 := (hb2.cell (p := ⟨w.heap.size + 1, 1, none⟩) (Nat.lt_of_lt_of_le y2 hb1.size)).trans p4; have u5 := (hb2.cell (p := ⟨b, off + k * 2, none⟩) (Nat.lt_of_lt_of_le y3 hb1.size)).trans p5)
              | (go_at_call 102; refine (l1Level_any ba aa na ka fa ga x _ ma Ca HRA.out).mono ?_; rintro e v1 ⟨rfl, hb1⟩; have p1 := (hb1.cell (p := ⟨w.heap.size, 0, none⟩) y1).trans r1; have p2 := (hb1.cell (p := ⟨w.heap.size, 1, none⟩) y1).trans r2; have p3 := (hb1.cell (p := ⟨w.heap.size + 1, 0, none⟩) y2).trans r3; have p4 := (hb1.cell (p := ⟨w.heap.size + 1, 1, none⟩) y2).trans r4; have p5 := (hb1.cell (p := ⟨b, off + k * 2, none⟩) y3).trans r5))
          have hBv : Below w2.heap.size w2 v2 := (hB.drew.trans (hb1.mono hB.size)).trans (hb2.mono (Nat.le_trans hB.size hb1.size))
          clear r1 r2 r3 r4 r5 p1 p2 p3 p4 p5 u1 u2 u3 u4 u5 Ca Cb Co' hb1 hb2 HRA HRB
          by_cases t1 : levOf bb nb fb gb x < levOf ba na fa ga x
          · have HT : Hid (letB ba na fa ga no ho bb nb fb gb x = false) := by show _ = _; simp [letB, t0, t1]
            go_wp2
            go_ret
            refine ⟨ret_bool (flowsB_at hlt' ?_).symm, B2.trans (hBv.mono (by omega))⟩
            rw [← HX.out]; exact HT.out
          · have HT : Hid (letB ba na fa ga no ho bb nb fb gb x = true) := by show _ = _; simp [letB, t0, t1]
            go_wp2
            go_roundw
            case rel =>
              refine ⟨k + 1, by omega, by go_num, fun j hj => ?_, hBv⟩
              by_cases e : j = k
              · subst e; rw [← HX.out]; exact HT.out
              · exact HA.out j (by omega)
            case measure => simp [intOf]; omega
      · go_wp2
        go_ret
        have e : k = na + nb := by omega
        exact ⟨ret_bool (flowsB_mk h0 (fun i hi => HA.out i (by omega))).symm, Bw⟩
end Go.Proofs.Ytkoinmddcnnipaa
namespace Go.Proofs.Ytkoinmddcnnipaa
open Go.RowKit Go.Deep
def Blk (W : World) (P : Nat) (o : Obj) : Prop := W.heap[P]? = some o
theorem Blk.new (W : World) (o : Obj) : Blk (W.alloc o) W.heap.size o := blk_alloc_new _ _
theorem Blk.lt {W : World} {P : Nat} {o : Obj} (h : Blk W P o) : P < W.heap.size := (Array.getElem?_eq_some_iff.1 h).1
theorem Blk.alloc {W : World} {P : Nat} {o : Obj} (h : Blk W P o) (o' : Obj) : Blk (W.alloc o') P o := (blk_alloc_lt _ _ _ h.lt).trans h
theorem Blk.below {W W' : World} {P : Nat} {o : Obj} (h : Blk W P o) (hb : Below W.heap.size W W') : Blk W' P o := (hb.block P h.lt).trans h
theorem Blk.two {W : World} {P t : Nat} {x y : Value} (h : Blk W P (.cells #[x, y] t)) : W.cell? ⟨P, 0, none⟩ = some x ∧ W.cell? ⟨P, 1, none⟩ = some y := by
  unfold Blk at h
  simp [World.cell?, h]
end Go.Proofs.Ytkoinmddcnnipaa
namespace Go.Proofs.Ytkoinmddcnnipaa
open Go.RowKit Go.Deep

def thrOk (id made b1 : Int) (n1 : Nat) (f1 g1 : Nat → Int) (b2 : Int) (n2 : Nat) (f2 g2 : Nat → Int) (n3 : Nat) (h : Nat → Int) : Bool :=
  inB id 1 9 && labOk b1 n1 f1 g1 && labOk b2 n2 f2 g2 && ownOk n3 h && inB made 0 30
theorem thrOk_all {id made b1 : Int} {n1 : Nat} {f1 g1 : Nat → Int} {b2 : Int} {n2 : Nat} {f2 g2 : Nat → Int} {n3 : Nat} {h : Nat → Int} (t0 : inB id 1 9 = true) (t1 : labOk b1 n1 f1 g1 = true) (t2 : labOk b2 n2 f2 g2 = true) (t3 : ownOk n3 h = true) :
    thrOk id made b1 n1 f1 g1 b2 n2 f2 g2 n3 h = inB made 0 30 := by simp [thrOk, t0, t1, t2, t3]

set_option maxHeartbeats 1000000 in
theorem specThr_any (id made b1 : Int) (a1 : Option Addr) (n1 k1 : Nat) (f1 g1 : Nat → Int) (b2 : Int) (a2 : Option Addr) (n2 k2 : Nat) (f2 g2 : Nat → Int) (a3 : Option Addr) (n3 k3 : Nat) (h : Nat → Int) (w : World)
    (hn1 : n1 ≤ maxLen) (hn2 : n2 ≤ maxLen) (hn3 : n3 ≤ maxLen) (hc1 : CatsAt w a1 n1 f1 g1) (hc2 : CatsAt w a2 n2 f2 g2) (hc3 : IntsAt w a3 n3 h) :
    Calls Try.prog 31 #[.agg #[.int .i64 id, .int .i64 b1, .slice a1 n1 k1, .int .i64 b2, .slice a2 n2 k2, .slice a3 n3 k3, .int .i64 made]] w fun e w' => e = .returned (.bool (thrOk id made b1 n1 f1 g1 b2 n2 f2 g2 n3 h)) ∧ Below w.heap.size w w' := by
  have hb0 := (Below.refl _ w).alloc (Nat.le_refl _) (.cells #[.int .i64 id, .int .i64 b1, .slice a1 n1 k1, .int .i64 b2, .slice a2 n2 k2, .slice a3 n3 k3, .int .i64 made] 62)
  have C1 := hc1.below hb0
  have C2 := hc2.below hb0
  have C3 := hc3.below hb0
  clear hc1 hc2 hc3
  by_cases t0 : inB id 1 9 = true
  · skip
    go_enter Try.func31, Try.ntmps31
    go_wp2_with (go_at_call 34; refine (l1In_any _ _ _ _).mono ?_; rintro e w' ⟨rfl, rfl⟩)
    refine (specOk_any _ _ _ _ f1 g1 _ hn1 C1).mono ?_
    rintro e w1 ⟨rfl, hb1⟩
    obtain ⟨q1, _⟩ := bcell hb1
    have z1 : w.heap.size < w1.heap.size := by have := hb1.size; simp at this; omega
    have B1 : Below w.heap.size w w1 := hb0.trans (hb1.mono (by simp))
    by_cases t1 : labOk b1 n1 f1 g1 = true
    · go_wp2_with fail
      refine (specOk_any _ _ _ _ f2 g2 _ hn2 (C2.below hb1)).mono ?_
      rintro e w2 ⟨rfl, hb2⟩
      obtain ⟨q2, _⟩ := bcell hb2
      have z2 : w.heap.size < w2.heap.size := by have := hb2.size; omega
      have B2 : Below w.heap.size w w2 := B1.trans (hb2.mono (by omega))
      by_cases t2 : labOk b2 n2 f2 g2 = true
      · go_wp2_with fail
        refine (l2Owns_any _ _ _ h _ hn3 ((C3.below hb1).below hb2)).mono ?_
        rintro e w3 ⟨rfl, hb3⟩
        obtain ⟨q3, _⟩ := bcell hb3
        have z3 : w.heap.size < w3.heap.size := by have := hb3.size; omega
        have B3 : Below w.heap.size w w3 := B2.trans (hb3.mono (by omega))
        by_cases t3 : ownOk n3 h = true
        · go_wp2_with (go_at_call 34; refine (l1In_any _ _ _ _).mono ?_; rintro e w' ⟨rfl, rfl⟩)
          go_ret
          exact ⟨ret_bool (by simp [thrOk, t0, t1, t2, t3]), B3⟩
        · have t3' : ownOk n3 h = false := by simpa using t3
          clear t3
          go_wp2
          go_ret
          exact ⟨ret_bool (by simp [thrOk, t3']), B3⟩
      · have t2' : labOk b2 n2 f2 g2 = false := by simpa using t2
        clear t2
        go_wp2
        go_ret
        exact ⟨ret_bool (by simp [thrOk, t2']), B2⟩
    · have t1' : labOk b1 n1 f1 g1 = false := by simpa using t1
      clear t1
      go_wp2
      go_ret
      exact ⟨ret_bool (by simp [thrOk, t1']), B1⟩
  · have t0' : inB id 1 9 = false := by simpa using t0
    clear t0
    go_enter Try.func31, Try.ntmps31
    go_wp2_with (go_at_call 34; refine (l1In_any _ _ _ _).mono ?_; rintro e w' ⟨rfl, rfl⟩)
    go_ret
    exact ⟨ret_bool (by simp [thrOk, t0']), hb0⟩

set_option maxHeartbeats 1000000 in
theorem implThr_any (id made b1 : Int) (a1 : Option Addr) (n1 k1 : Nat) (f1 g1 : Nat → Int) (b2 : Int) (a2 : Option Addr) (n2 k2 : Nat) (f2 g2 : Nat → Int) (a3 : Option Addr) (n3 k3 : Nat) (h : Nat → Int) (w : World)
    (hn1 : n1 ≤ maxLen) (hn2 : n2 ≤ maxLen) (hn3 : n3 ≤ maxLen) (hc1 : CatsAt w a1 n1 f1 g1) (hc2 : CatsAt w a2 n2 f2 g2) (hc3 : IntsAt w a3 n3 h) :
    Calls Try.prog 45 #[.agg #[.int .i64 id, .int .i64 b1, .slice a1 n1 k1, .int .i64 b2, .slice a2 n2 k2, .slice a3 n3 k3, .int .i64 made]] w fun e w' => e = .returned (.bool (thrOk id made b1 n1 f1 g1 b2 n2 f2 g2 n3 h)) ∧ Below w.heap.size w w' := by
  have hb0 := (Below.refl _ w).alloc (Nat.le_refl _) (.cells #[.int .i64 id, .int .i64 b1, .slice a1 n1 k1, .int .i64 b2, .slice a2 n2 k2, .slice a3 n3 k3, .int .i64 made] 62)
  have C1 := hc1.below hb0
  have C2 := hc2.below hb0
  have C3 := hc3.below hb0
  clear hc1 hc2 hc3
  by_cases t0 : inB id 1 9 = true
  · obtain ⟨s1, s2⟩ := inB_iff.1 t0
    go_enter Try.func45, Try.ntmps45
    go_wp2_with fail
    refine (implOk_any _ _ _ _ f1 g1 _ hn1 C1).mono ?_
    rintro e w1 ⟨rfl, hb1⟩
    obtain ⟨q1, _⟩ := bcell hb1
    have z1 : w.heap.size < w1.heap.size := by have := hb1.size; simp at this; omega
    have B1 : Below w.heap.size w w1 := hb0.trans (hb1.mono (by simp))
    by_cases t1 : labOk b1 n1 f1 g1 = true
    · go_wp2_with fail
      refine (implOk_any _ _ _ _ f2 g2 _ hn2 (C2.below hb1)).mono ?_
      rintro e w2 ⟨rfl, hb2⟩
      obtain ⟨q2, _⟩ := bcell hb2
      have z2 : w.heap.size < w2.heap.size := by have := hb2.size; omega
      have B2 : Below w.heap.size w w2 := B1.trans (hb2.mono (by omega))
      by_cases t2 : labOk b2 n2 f2 g2 = true
      · go_wp2_with fail
        refine (ownsOk_any _ _ _ h _ hn3 ((C3.below hb1).below hb2)).mono ?_
        rintro e w3 ⟨rfl, rfl⟩
        have B3 := B2
        by_cases t3 : ownOk n3 h = true
        · go_wp2
          all_goals
            go_ret
            refine ⟨ret_bool ?_, B3⟩
            rw [thrOk_all t0 t1 t2 t3]
            first | exact (inB_yes (by assumption)).symm | exact (inB_no (by assumption)).symm
        · have t3' : ownOk n3 h = false := by simpa using t3
          clear t3
          go_wp2
          go_ret
          exact ⟨ret_bool (by simp [thrOk, t3']), B3⟩
      · have t2' : labOk b2 n2 f2 g2 = false := by simpa using t2
        clear t2
        go_wp2
        go_ret
        exact ⟨ret_bool (by simp [thrOk, t2']), B2⟩
    · have t1' : labOk b1 n1 f1 g1 = false := by simpa using t1
      clear t1
      go_wp2
      go_ret
      exact ⟨ret_bool (by simp [thrOk, t1']), B1⟩
  · have t0' : inB id 1 9 = false := by simpa using t0
    clear t0
    go_enter Try.func45, Try.ntmps45
    by_cases s1 : 1 ≤ id
    · have s2 : ¬ id ≤ 9 := fun s2 => by simp [inB, s1, s2] at t0'
      go_wp2
      go_ret
      exact ⟨ret_bool (by simp [thrOk, t0']), hb0⟩
    · go_wp2
      go_ret
      exact ⟨ret_bool (by simp [thrOk, t0']), hb0⟩
end Go.Proofs.Ytkoinmddcnnipaa
namespace Go.Proofs.Ytkoinmddcnnipaa
open Go.RowKit Go.Deep

theorem szOf_cases (n : Nat) (left : Int) (h0 : 0 ≤ left) (h1 : left ≤ 1048576) : (szOf n left = -1) ∨ (0 ≤ szOf n left ∧ szOf n left ≤ left ∧ n ≤ 1048576) := by
  unfold szOf; split
  · exact .inl rfl
  · right; omega

end Go.Proofs.Ytkoinmddcnnipaa
namespace Go.Proofs.Ytkoinmddcnnipaa
open Go.RowKit Go.Deep

theorem hid {p : Prop} (h : p) : Hid p := h
theorem then_ {w a b : World} (h : Below w.heap.size w a) (k : Below a.heap.size a b) : Below w.heap.size w b := h.trans (k.mono h.size)
structure CatL where
  a : Option Addr
  n : Nat
  k : Nat
  f : Nat → Int
  g : Nat → Int
structure IntL where
  a : Option Addr
  n : Nat
  k : Nat
  h : Nat → Int
def CatL.at (w : World) (c : CatL) : Prop := c.n ≤ maxLen ∧ CatsAt w c.a c.n c.f c.g
def IntL.at (w : World) (c : IntL) : Prop := c.n ≤ maxLen ∧ IntsAt w c.a c.n c.h
def CatL.val (c : CatL) : Value := .slice c.a c.n c.k
def IntL.val (c : IntL) : Value := .slice c.a c.n c.k
structure ThrV where
  id : Int
  b1 : Int
  c1 : CatL
  b2 : Int
  c2 : CatL
  own : IntL
  made : Int
def ThrV.val (t : ThrV) : Value := .agg #[.int .i64 t.id, .int .i64 t.b1, t.c1.val, .int .i64 t.b2, t.c2.val, t.own.val, .int .i64 t.made]
def ThrV.at (w : World) (t : ThrV) : Prop := t.c1.at w ∧ t.c2.at w ∧ t.own.at w
theorem CatL.at.below {w w' : World} {c : CatL} (h : c.at w) (hb : Below w.heap.size w w') : c.at w' := ⟨h.1, h.2.below hb⟩
theorem IntL.at.below {w w' : World} {c : IntL} (h : c.at w) (hb : Below w.heap.size w w') : c.at w' := ⟨h.1, h.2.below hb⟩
theorem ThrV.at.below {w w' : World} {t : ThrV} (h : t.at w) (hb : Below w.heap.size w w') : t.at w' := ⟨h.1.below hb, h.2.1.below hb, h.2.2.below hb⟩
structure Cells7 (w : World) (b o : Nat) (t : ThrV) : Prop where
  c0 : w.cell? ⟨b, o, none⟩ = some (.int .i64 t.id)
  c1 : w.cell? ⟨b, o + 1, none⟩ = some (.int .i64 t.b1)
  c2 : w.cell? ⟨b, o + 2, none⟩ = some t.c1.val
  c3 : w.cell? ⟨b, o + 3, none⟩ = some (.int .i64 t.b2)
  c4 : w.cell? ⟨b, o + 4, none⟩ = some t.c2.val
  c5 : w.cell? ⟨b, o + 5, none⟩ = some t.own.val
  c6 : w.cell? ⟨b, o + 6, none⟩ = some (.int .i64 t.made)
theorem Cells7.below {w w' : World} {b o : Nat} {t : ThrV} (h : Cells7 w b o t) (hl : b < w.heap.size) (hb : Below w.heap.size w w') : Cells7 w' b o t :=
  ⟨(hb.cell (p := ⟨b, o, none⟩) hl).trans h.c0, (hb.cell (p := ⟨b, o + 1, none⟩) hl).trans h.c1, (hb.cell (p := ⟨b, o + 2, none⟩) hl).trans h.c2, (hb.cell (p := ⟨b, o + 3, none⟩) hl).trans h.c3, (hb.cell (p := ⟨b, o + 4, none⟩) hl).trans h.c4, (hb.cell (p := ⟨b, o + 5, none⟩) hl).trans h.c5, (hb.cell (p := ⟨b, o + 6, none⟩) hl).trans h.c6⟩
def ThrsAt (w : World) (a : Option Addr) (n : Nat) (T : Nat → ThrV) : Prop :=
  0 < n → ∃ b off, a = some ⟨b, off, none⟩ ∧ b < w.heap.size ∧ ∀ i, i < n → Cells7 w b (off + i * 7) (T i) ∧ (T i).at w
theorem ThrsAt.below {w w' : World} {a : Option Addr} {n : Nat} {T : Nat → ThrV} (h : ThrsAt w a n T) (hb : Below w.heap.size w w') : ThrsAt w' a n T := fun hn => by
  obtain ⟨b, off, e, hlt, hc⟩ := h hn
  exact ⟨b, off, e, Nat.lt_of_lt_of_le hlt hb.size, fun i hi => ⟨(hc i hi).1.below hlt hb, (hc i hi).2.below hb⟩⟩
def ThrV.small (t : ThrV) : Prop := t.c1.n ≤ 1048576 ∧ t.c2.n ≤ 1048576 ∧ t.own.n ≤ 1048576

end Go.Proofs.Ytkoinmddcnnipaa
