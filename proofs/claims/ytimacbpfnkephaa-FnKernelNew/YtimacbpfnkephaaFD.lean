/- Flows of the program answers the plain function: both labels right, the owned categories so, and flowsB. -/
import Derived.Test.YtimacbpfnkephaaFB
import Derived.Test.YtimacbpfnkephaaZA
import Derived.RangeFuncFrom
namespace Go.Proofs.Ytimacbpfnkephaa
open Go.RowKit Go.Deep Go.Maps Go.Shelf
attribute [local go_sem] Oper.semAt_some

set_option maxHeartbeats 1000000 in
theorem index_any (a : Option Addr) (n cap : Nat) (h : Nat → Int) (x : Int) (w : World) (hn : n ≤ maxLen) (hc : IntsAt w a n h) :
    Calls Try.prog 55 #[.slice a n cap, .int .i64 x] w fun e w' => ∃ r : Int, e = .returned (.int .i64 r) ∧ (decide (0 ≤ r) = hasB n h x) ∧ w' = w := by
  unfold maxLen at hn
  go_enter Try.func55, Try.ntmps55
  go_wp2
  go_loop [8] (fun i => ∃ k : Nat, k ≤ n ∧ i = .int .i64 k ∧ (∀ j, j < k → h j ≠ x)) (fun i => n - (intOf i).toNat)
  case atStart => exact ⟨0, Nat.zero_le _, rfl, fun j hj => by omega⟩
  case round =>
    obtain ⟨k, hk, rfl, hall⟩ := hrel
    have HA : Hid (∀ j, j < k → h j ≠ x) := hall
    clear hall
    by_cases hlt' : k < n
    · obtain ⟨b, off, rfl, hlt, hcc⟩ := hc (by omega)
      have g1 := hcc k hlt'
      clear hcc hc
      by_cases t : (x == h k) = true
      · go_wp2
        go_ret
        exact ⟨_, rfl, by rw [hasB_yes hlt' (by simpa using (beq_iff_eq.1 t).symm)]; simp, rfl⟩
      · have t' : (x == h k) = false := by simpa using t
        clear t
        go_wp2
        go_round
        case rel =>
          refine ⟨k + 1, by omega, by go_num, fun j hj => ?_⟩
          by_cases e : j = k
          · subst e; intro q; rw [q] at t'; simp at t'
          · exact HA.out j (by omega)
        case measure => simp [intOf]; omega
    · clear hc
      go_wp2
      go_ret
      have e : k = n := by omega
      subst e
      exact ⟨_, rfl, by rw [hasB_no HA.out]; simp, rfl⟩

theorem contains_any (a : Option Addr) (n cap : Nat) (h : Nat → Int) (x : Int) (w : World) (hn : n ≤ maxLen) (hc : IntsAt w a n h) :
    Calls Try.prog 43 #[.slice a n cap, .int .i64 x] w fun e w' => e = .returned (.bool (hasB n h x)) ∧ w' = w := by
  go_enter Try.func43, Try.ntmps43
  go_wp2_with (go_at_call 55; refine (index_any _ _ _ h _ _ hn hc).mono ?_; rintro e w' ⟨r, rfl, hr, rfl⟩)
  all_goals
    go_ret
    refine ⟨ret_bool ?_, rfl⟩
    rw [← hr]
    first | done | (simp; done) | (simp; omega)

theorem catsAbove_any (ba : Int) (aa : Option Addr) (na ka : Nat) (bb : Int) (ab : Option Addr) (nb kb : Nat) (w : World) :
    Calls Try.prog 42 #[.agg #[.int .i64 ba, .slice aa na ka], .agg #[.int .i64 bb, .slice ab nb kb]] w fun e w' => e = .returned (.func (.func 51) #[] #[.pointer (some ⟨w.heap.size, 0, none⟩), .pointer (some ⟨w.heap.size + 1, 0, none⟩)]) ∧
      w' = (w.alloc (.cells #[.int .i64 ba, .slice aa na ka] 33)).alloc (.cells #[.int .i64 bb, .slice ab nb kb] 33) := by
  go_enter Try.func42, Try.ntmps42
  go_wp2
  go_ret
  exact ⟨rfl, rfl⟩

/-- what Flows answers -/
def flowAll (ba : Int) (na : Nat) (fa ga : Nat → Int) (no : Nat) (ho : Nat → Int) (bb : Int) (nb : Nat) (fb gb : Nat → Int) : Bool :=
  labOk ba na fa ga && labOk bb nb fb gb && ownOk no ho && flowsB ba na fa ga no ho bb nb fb gb

theorem named_of_above {ba : Int} {na : Nat} {fa ga : Nat → Int} {bb : Int} {nb : Nat} {fb gb : Nat → Int} {x : Int} (h0 : ba ≤ bb) (h : levOf bb nb fb gb x < levOf ba na fa ga x) :
    ((look fa ga na x).isSome || (look fb gb nb x).isSome) = true := by
  cases h1 : look fa ga na x with
  | some v => simp
  | none =>
    cases h2 : look fb gb nb x with
    | some v => simp
    | none => simp [levOf, h1, h2] at h; omega

/-- all that stand above are owned: it flows -/
theorem flows_of_owned {ba : Int} {na : Nat} {fa ga : Nat → Int} {no : Nat} {ho : Nat → Int} {bb : Int} {nb : Nat} {fb gb : Nat → Int} (h0 : ba ≤ bb)
    (h : ∀ x, aboveB ba na fa ga bb nb fb gb x = true → hasB no ho x = true) : flowsB ba na fa ga no ho bb nb fb gb = true := by
  refine flowsB_mk h0 fun i hi => ?_
  unfold letB
  by_cases e : levOf bb nb fb gb (glue na fa fb i) < levOf ba na fa ga (glue na fa fb i)
  · rw [h _ (by unfold aboveB; rw [named_of_above h0 e]; simpa using e)]; rfl
  · simp [e]

/-- one that stands above is not owned: it does not flow -/
theorem flows_not_owned {ba : Int} {na : Nat} {fa ga : Nat → Int} {no : Nat} {ho : Nat → Int} {bb : Int} {nb : Nat} {fb gb : Nat → Int} {x : Int}
    (h : aboveB ba na fa ga bb nb fb gb x = true) (ho' : hasB no ho x = false) : flowsB ba na fa ga no ho bb nb fb gb = false := by
  unfold aboveB at h
  rw [Bool.and_eq_true, Bool.or_eq_true] at h
  have hl : letB ba na fa ga no ho bb nb fb gb x = false := by unfold letB; rw [ho', h.2]; rfl
  rcases h.1 with e | e
  · obtain ⟨i, hi, e⟩ := look_isSome e
    exact flowsB_at (k := i) (by omega) (by simp only [glue, hi, if_true]; rw [e]; exact hl)
  · obtain ⟨i, hi, e⟩ := look_isSome e
    exact flowsB_at (k := na + i) (by omega) (by
      have e1 : ¬ na + i < na := by omega
      have e2 : na + i - na = i := by omega
      simp only [glue, e1, if_false, e2]; rw [e]; exact hl)

set_option maxRecDepth 100000 in
set_option maxHeartbeats 4000000 in
theorem implFlows_any (ba : Int) (aa : Option Addr) (na ka : Nat) (fa ga : Nat → Int) (ao : Option Addr) (no ko : Nat) (ho : Nat → Int) (bb : Int) (ab : Option Addr) (nb kb : Nat) (fb gb : Nat → Int) (w : World)
    (hna : na ≤ maxLen) (hnb : nb ≤ maxLen) (hno : no ≤ maxLen) (hca : CatsAt w aa na fa ga) (hcb : CatsAt w ab nb fb gb) (hco : IntsAt w ao no ho) :
    Calls Try.prog 34 #[.agg #[.int .i64 ba, .slice aa na ka], .slice ao no ko, .agg #[.int .i64 bb, .slice ab nb kb]] w fun e w' => e = .returned (.bool (flowAll ba na fa ga no ho bb nb fb gb)) ∧ Below w.heap.size w w' := by
  have hb0 := ((((Below.refl _ w).alloc (Nat.le_refl _) (.cells #[.int .i64 ba, .slice aa na ka] 33)).alloc (by simp) (.cells #[.slice ao no ko] 35)).alloc (by simp; omega) (.cells #[.int .i64 bb, .slice ab nb kb] 33)).alloc (by simp; omega) (.cells #[.bool false] 4)
  obtain ⟨W0, hW0⟩ : ∃ W0, W0 = ((((w.alloc (.cells #[.int .i64 ba, .slice aa na ka] 33)).alloc (.cells #[.slice ao no ko] 35)).alloc (.cells #[.int .i64 bb, .slice ab nb kb] 33)).alloc (.cells #[.bool false] 4)) := ⟨_, rfl⟩
  have y1 : W0.cell? ⟨w.heap.size, 0, none⟩ = some (.int .i64 ba) := by rw [hW0]; go_simp
  have y2 : W0.cell? ⟨w.heap.size, 1, none⟩ = some (.slice aa na ka) := by rw [hW0]; go_simp
  have y3 : W0.cell? ⟨w.heap.size + 1, 0, none⟩ = some (.slice ao no ko) := by rw [hW0]; go_simp
  have y4 : W0.cell? ⟨w.heap.size + 1 + 1, 0, none⟩ = some (.int .i64 bb) := by rw [hW0]; go_simp
  have y5 : W0.cell? ⟨w.heap.size + 1 + 1, 1, none⟩ = some (.slice ab nb kb) := by rw [hW0]; go_simp
  have y6 : W0.cell? ⟨w.heap.size + 1 + 1 + 1, 0, none⟩ = some (.bool false) := by rw [hW0]; go_simp
  have y7 : W0.frozen? ⟨w.heap.size + 1 + 1 + 1, 0, none⟩ = false := by rw [hW0]; go_simp
  have ys : W0.heap.size = w.heap.size + 4 := by rw [hW0]; simp
  rw [← hW0] at hb0
  have HW0 : Hid (W0 = ((((w.alloc (.cells #[.int .i64 ba, .slice aa na ka] 33)).alloc (.cells #[.slice ao no ko] 35)).alloc (.cells #[.int .i64 bb, .slice ab nb kb] 33)).alloc (.cells #[.bool false] 4))) := hW0
  clear hW0
  have fin : Hid (∀ W1, Below w.heap.size w W1 → W1.cell? ⟨w.heap.size + 1 + 1 + 1, 0, none⟩ = some (.bool false) → flowAll ba na fa ga no ho bb nb fb gb = false →
      ∀ tm : Array Value, tm[6]? = some (.pointer (some ⟨w.heap.size + 1 + 1 + 1, 0, none⟩)) → bodyPost Try.prog Try.f34 (fun e w' => e = .returned (.bool (flowAll ba na fa ga no ho bb nb fb gb)) ∧ Below w.heap.size w w') .ret { tmps := tm, defers := [] } (W1.setCell ⟨w.heap.size + 1 + 1 + 1, 0, none⟩ (.bool false))) := fun W1 hB hc hf tm ht => by
    have hc5 := World.cell?_setCell_same' W1 ⟨w.heap.size + 1 + 1 + 1, 0, none⟩ (.bool false) (by rw [hc]; rfl)
    refine bodyPost_ret (v := .bool false) ?_ rfl ⟨by rw [hf], hB.setCell (p := ⟨w.heap.size + 1 + 1 + 1, 0, none⟩) (by dsimp only; omega) _⟩
    simp [results, Try.results34, go_sem, ht, hc5]
  by_cases good : labOk ba na fa ga = true ∧ labOk bb nb fb gb = true ∧ ownOk no ho = true ∧ ba ≤ bb
  · obtain ⟨t1, t2, t3, t4⟩ := good
    refine (callsIn_wide (n := 4)).1 ?_
    refine callsIn_of_wp_marks Try.func34 rfl trivial ?_ rfl
    simp only [Try.ntmps34, List.size_toArray, List.length_cons, List.length_nil, Nat.reduceAdd, Nat.reduceSub, Array.replicate_succ, Array.replicate_zero, List.push_toArray, List.append_toArray, List.nil_append, List.cons_append]
    gi_wp2_with fail
    rw [← HW0.out]
    refine ⟨trivial, ?_⟩
    refine (callsIn_wide.2 (implOk_any _ _ _ _ fa ga _ hna (hca.below hb0))).mono ?_
    rintro e w1 ⟨rfl, hb1⟩
    have z1 : w.heap.size + 1 + 1 + 1 < w1.heap.size := by have := hb1.size; omega
    have B1 : Below w.heap.size w w1 := hb0.trans (hb1.mono (by omega))
    have x1 := (hb1.cell (p := ⟨w.heap.size, 0, none⟩) (by dsimp only; omega)).trans y1
    have x2 := (hb1.cell (p := ⟨w.heap.size, 1, none⟩) (by dsimp only; omega)).trans y2
    have x3 := (hb1.cell (p := ⟨w.heap.size + 1, 0, none⟩) (by dsimp only; omega)).trans y3
    have x4 := (hb1.cell (p := ⟨w.heap.size + 1 + 1, 0, none⟩) (by dsimp only; omega)).trans y4
    have x5 := (hb1.cell (p := ⟨w.heap.size + 1 + 1, 1, none⟩) (by dsimp only; omega)).trans y5
    have x6 := (hb1.cell (p := ⟨w.heap.size + 1 + 1 + 1, 0, none⟩) (by dsimp only; omega)).trans y6
    have x7 := (hb1.frozen (p := ⟨w.heap.size + 1 + 1 + 1, 0, none⟩) (by dsimp only; omega)).trans y7
    clear y1 y2 y3 y4 y5 y6 y7 hb1
    gi_wp2_with fail
    refine ⟨trivial, ?_⟩
    refine (callsIn_wide.2 (implOk_any _ _ _ _ fb gb _ hnb (hcb.below B1))).mono ?_
    rintro e w2 ⟨rfl, hb2⟩
    have z2 : w.heap.size + 1 + 1 + 1 < w2.heap.size := by have := hb2.size; omega
    have B2 : Below w.heap.size w w2 := B1.trans (hb2.mono (by omega))
    have u1 := (hb2.cell (p := ⟨w.heap.size, 0, none⟩) (by dsimp only; omega)).trans x1
    have u2 := (hb2.cell (p := ⟨w.heap.size, 1, none⟩) (by dsimp only; omega)).trans x2
    have u3 := (hb2.cell (p := ⟨w.heap.size + 1, 0, none⟩) (by dsimp only; omega)).trans x3
    have u4 := (hb2.cell (p := ⟨w.heap.size + 1 + 1, 0, none⟩) (by dsimp only; omega)).trans x4
    have u5 := (hb2.cell (p := ⟨w.heap.size + 1 + 1, 1, none⟩) (by dsimp only; omega)).trans x5
    have u6 := (hb2.cell (p := ⟨w.heap.size + 1 + 1 + 1, 0, none⟩) (by dsimp only; omega)).trans x6
    have u7 := (hb2.frozen (p := ⟨w.heap.size + 1 + 1 + 1, 0, none⟩) (by dsimp only; omega)).trans x7
    clear x1 x2 x3 x4 x5 x6 x7 hb2
    gi_wp2_with fail
    refine ⟨trivial, ?_⟩
    refine (callsIn_wide.2 (ownsOk_any _ _ _ ho _ hno (hco.below B2))).mono ?_
    rintro e w3 ⟨rfl, rfl⟩
    gi_wp2_with fail
    refine ⟨trivial, ?_⟩
    refine (callsIn_wide.2 (catsAbove_any _ _ _ _ _ _ _ _ _)).mono ?_
    rintro e w4 ⟨rfl, h4⟩
    have c1 : w4.cell? ⟨w3.heap.size, 0, none⟩ = some (.int .i64 ba) := by rw [h4]; go_simp
    have c2 : w4.cell? ⟨w3.heap.size, 1, none⟩ = some (.slice aa na ka) := by rw [h4]; go_simp
    have c3 : w4.cell? ⟨w3.heap.size + 1, 0, none⟩ = some (.int .i64 bb) := by rw [h4]; go_simp
    have c4 : w4.cell? ⟨w3.heap.size + 1, 1, none⟩ = some (.slice ab nb kb) := by rw [h4]; go_simp
    have z4 : w4.heap.size = w3.heap.size + 2 := by rw [h4]; simp
    have hb4 : Below w3.heap.size w3 w4 := by rw [h4]; exact ((Below.refl _ _).alloc (Nat.le_refl _) _).alloc (by simp) _
    clear h4
    have B4 : Below w.heap.size w w4 := B2.trans (hb4.mono (by omega))
    have x1 := (hb4.cell (p := ⟨w.heap.size, 0, none⟩) (by dsimp only; omega)).trans u1
    have x2 := (hb4.cell (p := ⟨w.heap.size, 1, none⟩) (by dsimp only; omega)).trans u2
    have x3 := (hb4.cell (p := ⟨w.heap.size + 1, 0, none⟩) (by dsimp only; omega)).trans u3
    have x4 := (hb4.cell (p := ⟨w.heap.size + 1 + 1, 0, none⟩) (by dsimp only; omega)).trans u4
    have x5 := (hb4.cell (p := ⟨w.heap.size + 1 + 1, 1, none⟩) (by dsimp only; omega)).trans u5
    have x6 := (hb4.cell (p := ⟨w.heap.size + 1 + 1 + 1, 0, none⟩) (by dsimp only; omega)).trans u6
    have x7 := (hb4.frozen (p := ⟨w.heap.size + 1 + 1 + 1, 0, none⟩) (by dsimp only; omega)).trans u7
    clear u1 u2 u3 u4 u5 u6 u7 hb4
    gi_wp2_with fail
    have hLt : TwoLabs w4 w3.heap.size (w3.heap.size + 1) ba aa na ka fa ga bb ab nb kb fb gb := ⟨by omega, by omega, c1, c2, c3, c4, hca.below B4, hcb.below B4⟩
    have ma : na ≤ 1048576 := by have := (labOk_out t1).2.1; omega
    have mb : nb ≤ 1048576 := by have := (labOk_out t2).2.1; omega
    have hseq : SeqStopsK Fence.wide 3 Try.prog 51 #[.pointer (some ⟨w3.heap.size, 0, none⟩), .pointer (some ⟨w3.heap.size + 1, 0, none⟩)] (fun x : Int => #[Value.int .i64 x]) KeepsAll
        (fun xs => ∀ x, x ∈ xs ↔ aboveB ba na fa ga bb nb fb gb x = true) (fun pre => ∀ x, x ∈ pre → aboveB ba na fa ga bb nb fb gb x = true) (na + nb) w4 := fun l J Jx W hW hJ hJx hY h0 =>
      callsIn_wide.2 (catsAbove1_in l w3.heap.size (w3.heap.size + 1) ba aa na ka fa ga bb ab nb kb fb gb J Jx W ma mb (labOk_wf t1) (labOk_wf t2) (hLt.below hW) hJ hY h0)
    clear c1 c2 c3 c4 hLt x1 x2 x4 x5
    refine wpIn_rangeFunc_ownF rfl (by omega) (gf := 51) (lb := #[.pointer (some ⟨w3.heap.size, 0, none⟩), .pointer (some ⟨w3.heap.size + 1, 0, none⟩)]) rfl trivial (enters_of Try.func51 (by kernel_rfl) rfl)
      hseq KeepsAll.trans (KeepsAll.book (w := w4)) (Below.refl _ _) (fun _ => rfl)
      (fun pre W => ((∀ y, y ∈ pre → hasB no ho y = true) ∧ W.cell? ⟨w.heap.size + 1, 0, none⟩ = some (.slice ao no ko) ∧ W.cell? ⟨w.heap.size + 1 + 1 + 1, 0, none⟩ = some (.bool false) ∧ W.frozen? ⟨w.heap.size + 1 + 1 + 1, 0, none⟩ = false) ∧ Below w.heap.size w W)
      (fun c pre W => (c = .ret ∧ (∃ y, y ∈ pre ∧ hasB no ho y = false) ∧ W.cell? ⟨w.heap.size + 1 + 1 + 1, 0, none⟩ = some (.bool false)) ∧ Below w.heap.size w W)
      (OwnFrom.and (Own.from (fun s A B row hs hg hr => ⟨hs.1, cell_kept hs.2.1 hg hr, cell_kept hs.2.2.1 hg hr, (frozen_kept hs.2.2.1 hg hr).trans hs.2.2.2⟩) _) (ownFrom_below (Nat.le_refl _) (by omega)))
      (fun c => OwnFrom.and (Own.from (fun s A B row hs hg hr => ⟨hs.1, hs.2.1, cell_kept hs.2.2 hg hr⟩) _) (ownFrom_below (Nat.le_refl _) (by omega)))
      ⟨⟨by simp, x3, x6, x7⟩, B4⟩
      (fun x => { tmps := #[.agg #[.int .i64 ba, .slice aa na ka], .slice ao no ko, .agg #[.int .i64 bb, .slice ab nb kb], .pointer (some ⟨w.heap.size, 0, none⟩), .pointer (some ⟨w.heap.size + 1, 0, none⟩), .pointer (some ⟨w.heap.size + 1 + 1, 0, none⟩), .pointer (some ⟨w.heap.size + 1 + 1 + 1, 0, none⟩), .int .i64 x, .agg #[.int .i64 ba, .slice aa na ka], .bool true, .bool false, .bool false, .agg #[.int .i64 bb, .slice ab nb kb], .bool true, .bool false, .bool false, .bool false, .slice ao no ko, .bool true, .bool false, .bool false, .bool false, .pointer (some ⟨w.heap.size, 0, none⟩), .int .i64 ba, .pointer (some ⟨w.heap.size + 1 + 1, 0, none⟩), .int .i64 bb, .bool (decide (bb < ba)), .bool (decide (bb < ba)), .agg #[.int .i64 ba, .slice aa na ka], .agg #[.int .i64 bb, .slice ab nb kb], .func (.func 51) #[] #[.pointer (some ⟨w3.heap.size, 0, none⟩), .pointer (some ⟨w3.heap.size + 1, 0, none⟩)], .int .i64 x, undef, undef, undef, undef], defers := [] }) ?assign ?body ?done ?stop
    case assign =>
      intro l x W K hK
      gi_wp2
      exact hK
    case body =>
      rintro l pre x W ⟨⟨hp, hcw, hcr, hfr⟩, hB⟩ _
      have HP : Hid (∀ y, y ∈ pre → hasB no ho y = true) := hp
      clear hp
      have hcon := contains_any ao no ko ho x W hno (hco.below hB)
      gi_wp2_with fail
      refine ⟨trivial, ?_⟩
      refine (CallsIn.inRound l (callsIn_wide.2 hcon)).mono ?_
      clear hcon
      rintro e W1 ⟨rfl, rfl⟩
      cases hx : hasB no ho x with
      | true =>
        have HX : Hid (hasB no ho x = true) := hx
        clear hx
        gi_wp2
        exact ⟨KeepsOthers.refl _, KeepsAll.refl _, ⟨fun y hy => (List.mem_append.1 hy).elim (HP.out y) (fun e => by simp at e; subst e; exact HX.out), hcw, hcr, hfr⟩, hB⟩
      | false =>
        have HX : Hid (hasB no ho x = false) := hx
        clear hx
        gi_wp2
        exact ⟨KeepsOthers.setCell _ _ _, ⟨rfl, ⟨x, List.mem_append.2 (.inr (by simp)), HX.out⟩, World.cell?_setCell_same' _ _ _ (by rw [hcr]; rfl)⟩, hB.setCell (p := ⟨w.heap.size + 1 + 1 + 1, 0, none⟩) (by dsimp only; omega) _⟩
    case done =>
      rintro D ys W hD hS ⟨⟨hne, _, hcr, hfr⟩, hB⟩ hK
      have hflow : flowAll ba na fa ga no ho bb nb fb gb = true := by
        have := flows_of_owned (no := no) (ho := ho) t4 (fun x hx => hne x ((hS x).2 hx))
        simp [flowAll, t1, t2, t3, this]
      have HF : Hid (flowAll ba na fa ga no ho bb nb fb gb = true) := hflow
      clear hflow hS hne
      gi_wp2
      have hK' := (KeepsOthers.setCell W ⟨w.heap.size + 1 + 1 + 1, 0, none⟩ (.bool true)).same D _ hK rfl
      refine ⟨by simp, .inl ⟨_, _, rfl, run_takeDeferred hK', ?_⟩⟩
      have hc5 := cell_kept (World.cell?_setCell_same' W ⟨w.heap.size + 1 + 1 + 1, 0, none⟩ (.bool true) (by rw [hcr]; rfl)) (grownBy_putObj' _ D (.deferred none)) (fun r e => by cases e; exact ⟨_, hK', rfl⟩)
      refine ⟨.bool true, ?_, by rw [HF.out], (hB.setCell (p := ⟨w.heap.size + 1 + 1 + 1, 0, none⟩) (by dsimp only; omega) _).trans (belowK_b (w := w) (Nat.le_refl _) _ D _ _ (by omega) hK' rfl rfl)⟩
      simp [results, Try.results34, go_sem, hc5]
    case stop =>
      rintro D c pre W hD hpre ⟨⟨rfl, ⟨y, hy, hno'⟩, hcr⟩, hB⟩ hK
      have HF : Hid (flowAll ba na fa ga no ho bb nb fb gb = false) := by show _ = _; simp [flowAll, flows_not_owned (hpre y hy) hno']
      clear hpre
      gi_wp2
      refine ⟨by simp, .inl ⟨_, _, rfl, run_takeDeferred hK, ?_⟩⟩
      have hc5 := cell_kept hcr (grownBy_putObj' _ D (.deferred none)) (fun r e => by cases e; exact ⟨_, hK, rfl⟩)
      refine ⟨.bool false, ?_, by rw [HF.out], hB.trans (belowK_b (w := w) (Nat.le_refl _) W D _ _ (by omega) hK rfl rfl)⟩
      simp [results, Try.results34, go_sem, hc5]
  · go_enter Try.func34, Try.ntmps34
    go_wp2_with fail
    rw [← HW0.out]
    refine (implOk_any _ _ _ _ fa ga _ hna (hca.below hb0)).mono ?_
    rintro e w1 ⟨rfl, hb1⟩
    have z1 : w.heap.size + 1 + 1 + 1 < w1.heap.size := by have := hb1.size; omega
    have B1 : Below w.heap.size w w1 := hb0.trans (hb1.mono (by omega))
    have x1 := (hb1.cell (p := ⟨w.heap.size, 0, none⟩) (by dsimp only; omega)).trans y1
    have x2 := (hb1.cell (p := ⟨w.heap.size, 1, none⟩) (by dsimp only; omega)).trans y2
    have x3 := (hb1.cell (p := ⟨w.heap.size + 1, 0, none⟩) (by dsimp only; omega)).trans y3
    have x4 := (hb1.cell (p := ⟨w.heap.size + 1 + 1, 0, none⟩) (by dsimp only; omega)).trans y4
    have x5 := (hb1.cell (p := ⟨w.heap.size + 1 + 1, 1, none⟩) (by dsimp only; omega)).trans y5
    have x6 := (hb1.cell (p := ⟨w.heap.size + 1 + 1 + 1, 0, none⟩) (by dsimp only; omega)).trans y6
    have x7 := (hb1.frozen (p := ⟨w.heap.size + 1 + 1 + 1, 0, none⟩) (by dsimp only; omega)).trans y7
    clear y1 y2 y3 y4 y5 y6 y7 hb1
    by_cases t1 : labOk ba na fa ga = true
    · go_wp2_with fail
      refine (implOk_any _ _ _ _ fb gb _ hnb (hcb.below B1)).mono ?_
      rintro e w2 ⟨rfl, hb2⟩
      have z2 : w.heap.size + 1 + 1 + 1 < w2.heap.size := by have := hb2.size; omega
      have B2 : Below w.heap.size w w2 := B1.trans (hb2.mono (by omega))
      have u1 := (hb2.cell (p := ⟨w.heap.size, 0, none⟩) (by dsimp only; omega)).trans x1
      have u2 := (hb2.cell (p := ⟨w.heap.size, 1, none⟩) (by dsimp only; omega)).trans x2
      have u3 := (hb2.cell (p := ⟨w.heap.size + 1, 0, none⟩) (by dsimp only; omega)).trans x3
      have u4 := (hb2.cell (p := ⟨w.heap.size + 1 + 1, 0, none⟩) (by dsimp only; omega)).trans x4
      have u5 := (hb2.cell (p := ⟨w.heap.size + 1 + 1, 1, none⟩) (by dsimp only; omega)).trans x5
      have u6 := (hb2.cell (p := ⟨w.heap.size + 1 + 1 + 1, 0, none⟩) (by dsimp only; omega)).trans x6
      have u7 := (hb2.frozen (p := ⟨w.heap.size + 1 + 1 + 1, 0, none⟩) (by dsimp only; omega)).trans x7
      clear x1 x2 x3 x4 x5 x6 x7 hb2
      by_cases t2 : labOk bb nb fb gb = true
      · go_wp2_with fail
        refine (ownsOk_any _ _ _ ho _ hno (hco.below B2)).mono ?_
        rintro e w3 ⟨rfl, rfl⟩
        by_cases t3 : ownOk no ho = true
        · have t4 : bb < ba := by
            by_cases q : ba ≤ bb
            · exact absurd ⟨t1, t2, t3, q⟩ good
            · omega
          have HT : Hid (flowAll ba na fa ga no ho bb nb fb gb = false) := by show _ = _; simp [flowAll, flowsB_base t4]
          clear good
          go_wp2
          exact fin.out _ B2 u6 HT.out _ rfl
        · have t3' : ownOk no ho = false := by simpa using t3
          clear t3 good
          have HT : Hid (flowAll ba na fa ga no ho bb nb fb gb = false) := by show _ = _; simp [flowAll, t3']
          go_wp2
          exact fin.out _ B2 u6 HT.out _ rfl
      · have t2' : labOk bb nb fb gb = false := by simpa using t2
        clear t2 good
        have HT : Hid (flowAll ba na fa ga no ho bb nb fb gb = false) := by show _ = _; simp [flowAll, t2']
        go_wp2
        exact fin.out w2 B2 u6 HT.out _ rfl
    · have t1' : labOk ba na fa ga = false := by simpa using t1
      clear t1 good
      have HT : Hid (flowAll ba na fa ga no ho bb nb fb gb = false) := by show _ = _; simp [flowAll, t1']
      go_wp2
      exact fin.out w1 B1 x6 HT.out _ rfl
end Go.Proofs.Ytimacbpfnkephaa
