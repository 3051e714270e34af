/- PortFor of the program. -/
import Derived.Test.YthlejmofhcgkdaaROPR
namespace Go.Proofs.Ythlejmofhcgkdaa
open Go.RowKit Go.Deep Go.Maps Go.Shelf
attribute [local go_sem] Oper.semAt_some

theorem net_any (t : Int) (b : Nat) (w : World) (hb : b < 33) (h0 : 0 ≤ t) (h1 : t ≤ 4294967295) : Calls Try.prog 22 #[.int .i64 t, .int .i64 (b : Int)] w fun e w' => e = .returned (.int .i64 (netU t b)) ∧ w' = w := by
  have e : (b : Int) = 32 - ((32 - b : Nat) : Int) := by omega
  rw [e]
  exact netOf_any t (32 - b) w (by omega) h0 h1
theorem cmp_lt {x y : Int} : cmpI x y < 0 ↔ x < y := by unfold cmpI; repeat' split <;> omega
theorem cmp_eq {x y : Int} : (cmpI x y == 0) = decide (x = y) := by
  unfold cmpI
  repeat' split
  all_goals first | (rw [decide_eq_false (by omega)]; rfl) | (rw [decide_eq_true (by omega)]; rfl)
theorem wpList_store_new {ops : Array Oper} {rest : List Oper} {o : Oper} {a : Act} {Q : Exit → Act → World → Prop} (w : World) (hgd : o.guard = none) (hd : o.dst = none) (p x : Operand)
    (ho : o.op = .store 44 p x) (b0 : Nat) (A C : Array Value) (hp : a.eval p = .pointer (some ⟨b0, 0, none⟩)) (hx : a.eval x = .agg A) (hrow : w.heap[b0]? = some (.cells C 44 (0, 0))) (hc : C.size = 33) (hs : A.size = 33) (h1 : A.all (·.oneCell') = true)
    (h : ∀ W4, W4.heap[b0]? = some (.cells A 44 (0, 0)) → Below b0 w W4 → wpList Try.prog ops Q rest a W4) : wpList Try.prog ops Q (o :: rest) a w :=
  wpList_store_tab w hgd hd p x ho b0 A C hp hx hrow hc hs h1 (h _ (setRow_heap w b0 C A 44 (0, 0) hrow) (below_row (Below.refl _ _) (Nat.le_refl _)))
theorem downs_mem (m : Nat) (hm : m ≤ 33) (y : Fin 33) : y ∈ downs m ↔ 33 - m ≤ y.val := by
  induction m with
  | zero => simp [downs]
  | succ m ih =>
    have hy := y.isLt
    rw [downs, List.mem_append, ih (by omega), List.mem_singleton]
    constructor
    · rintro (q | q)
      · omega
      · rw [q]; show 33 - (m + 1) ≤ 32 - m; omega
    · intro q
      by_cases e : y.val = 32 - m
      · exact .inr (Fin.ext e)
      · exact .inl (by omega)
/-- the search among the routes of one length -/
theorem look_any (n : Nat) (f g h : Nat → Int) (t : Int) (b B : Nat) (v : Value) (w : World) (hn : n ≤ 20) (ho : rtsOk n f g h = true) (hv : OwnR w B v (bitL f g h b n)) :
    ∃ a c, v = .slice a (bitL f g h b n).length c ∧ ((∃ s, s < (bitL f g h b n).length ∧ (∃ i, i < n ∧ hasR f g t i ∧ g i = (b : Int) ∧ h i = (r3 (bitL f g h b n) s).2.2) ∧ (∃ bb off, a = some ⟨bb, off, none⟩ ∧ bb < w.heap.size ∧ w.cell? ⟨bb, off + s * 3 + 2, none⟩ = some (.int .i64 (r3 (bitL f g h b n) s).2.2)) ∧
        ∀ W, Below w.heap.size w W → Calls Try.prog 21 #[v, .int .i64 (netU t b), .func (.func 23) #[] #[]] W fun e w' => e = .returned (.tuple #[.int .i64 s, .bool true]) ∧ Below W.heap.size W w')
      ∨ (¬ foundAt n f g t b ∧ ∀ W, Below w.heap.size w W → Calls Try.prog 21 #[v, .int .i64 (netU t b), .func (.func 23) #[] #[]] W fun e w' => (∃ s : Nat, e = .returned (.tuple #[.int .i64 s, .bool false])) ∧ Below W.heap.size W w')) := by
  obtain ⟨a, c, rfl, H⟩ := ownAt3 hv
  obtain ⟨s, hs, lo, hi⟩ := find_at (bitL_sorted ho b n (Nat.le_refl _)) (netU t b)
  have hl : (bitL f g h b n).length ≤ 20 := Nat.le_trans (bitL_len f g h b n) hn
  have S := fun W (hW : Below w.heap.size w W) => search27_any a (bitL f g h b n).length c _ _ _ (netU t b) s W hl (H.below hW) hs (fun j hj => cmp_lt.2 (lo j hj)) (fun j h1 h2 q => hi j h1 h2 (cmp_lt.1 q))
  refine ⟨a, c, rfl, ?_⟩
  rcases search_says ho lo hi with ⟨q1, q2, q3⟩ | ⟨q1, q2⟩
  · refine .inl ⟨s, q1, q3, ?_, fun W hW => (S W hW).mono fun e w' ⟨he, hb⟩ => ⟨?_, hb⟩⟩
    · obtain ⟨bb, off, e, hlt, hc⟩ := H (by omega)
      exact ⟨bb, off, e, hlt, (hc s q1).2.2⟩
    · rw [he, cmp_eq, decide_eq_true q1, decide_eq_true q2]; rfl
  · refine .inr ⟨q2, fun W hW => (S W hW).mono fun e w' ⟨he, hb⟩ => ⟨⟨s, ?_⟩, hb⟩⟩
    rw [he, cmp_eq]
    by_cases c1 : s < (bitL f g h b n).length
    · rw [decide_eq_false (fun e => q1 ⟨c1, e⟩), Bool.and_false]
    · rw [decide_eq_false c1, Bool.false_and]

set_option maxRecDepth 100000 in
set_option maxHeartbeats 4000000 in
theorem implPort_yes (a : Option Addr) (n cap : Nat) (f g h : Nat → Int) (t : Int) (w : World) (hn : n ≤ maxLen) (H : RtsAt w a n f g h) (ho : rtsOk n f g h = true) (t0 : 0 ≤ t) (t1 : t ≤ 4294967295) :
    Calls Try.prog 7 #[.slice a n cap, .int .i64 t] w fun e w' => e = .returned (.int .i64 (best f g h t n).2) ∧ Below w.heap.size w w' := by
  have hb0 := ((Below.refl _ w).alloc (Nat.le_refl _) (.cells #[.int .i64 t] 2)).alloc (by simp) (.cells #[.int .i64 0] 2)
  obtain ⟨W0, hW0⟩ : ∃ W0, W0 = (w.alloc (.cells #[.int .i64 t] 2)).alloc (.cells #[.int .i64 0] 2) := ⟨_, rfl⟩
  have y1 : W0.cell? ⟨w.heap.size, 0, none⟩ = some (.int .i64 t) := by rw [hW0]; go_simp
  have y2 : W0.cell? ⟨w.heap.size + 1, 0, none⟩ = some (.int .i64 0) := by rw [hW0]; go_simp
  have y3 : W0.frozen? ⟨w.heap.size + 1, 0, none⟩ = false := by rw [hW0]; go_simp
  have ys : W0.heap.size = w.heap.size + 2 := by rw [hW0]; simp
  rw [← hW0] at hb0
  have HW0 := hid hW0
  clear hW0
  have n20 := rts_n ho
  have P9 := hid (implRoutes_any a n cap f g h W0 hn (H.below hb0))
  rw [ho] at P9
  have P25 : Hid (∀ W, Below w.heap.size w W → Calls Try.prog 19 #[.slice a n cap] W fun e w' => ∃ (A : Array Value) (V : Nat → Value), e = .returned (.agg A) ∧ A.size = 33 ∧ (∀ j, j < 33 → A[j]? = some (V j)) ∧ (∀ b, b < 33 → OwnR w' W.heap.size (V b) (bitL f g h b n)) ∧ Below W.heap.size W w') := fun W hW => table_any a n cap f g h W n20 (H.below hW) (fun k hk => by obtain ⟨⟨q0, q1, _⟩, _⟩ := rOk_is (rts_at ho hk); exact ⟨q0, q1⟩)
  have HO := hid ho
  clear H ho
  refine (callsIn_wide (n := 4)).1 ?_
  refine callsIn_of_wp_marks Try.func7 rfl trivial ?_ rfl
  simp only [Try.ntmps7, List.size_toArray, List.length_cons, List.length_nil, Nat.reduceAdd, Nat.reduceSub, Array.replicate_succ, Array.replicate_zero, List.push_toArray, List.append_toArray, List.nil_append, List.cons_append]
  refine wpIn_wide.2 ?_
  go_wp2_with fail
  rw [← HW0.out]
  refine P9.out.mono ?_
  rintro e w1 ⟨rfl, hb1⟩
  have x1 := (hb1.cell (p := ⟨w.heap.size, 0, none⟩) (by dsimp only; omega)).trans y1
  have x2 := (hb1.cell (p := ⟨w.heap.size + 1, 0, none⟩) (by dsimp only; omega)).trans y2
  have x3 := (hb1.frozen (p := ⟨w.heap.size + 1, 0, none⟩) (by dsimp only; omega)).trans y3
  have z1 : w.heap.size + 2 ≤ w1.heap.size := by have := hb1.size; omega
  have B1 : Below w.heap.size w w1 := hb0.trans (hb1.mono (by omega))
  clear y1 y2 y3 hb1 hb0 P9
  go_wp2_with fail
  refine (isAddress_yes _ t0 t1).mono ?_
  rintro e w2 ⟨rfl, hw2⟩
  subst w2
  go_wp2_with fail
  refine (P25.out _ B1).mono ?_
  rintro e w3 ⟨A, V, rfl, hA, hAV, hOw, hb3⟩
  have u1 := (hb3.cell (p := ⟨w.heap.size, 0, none⟩) (by dsimp only; omega)).trans x1
  have u2 := (hb3.cell (p := ⟨w.heap.size + 1, 0, none⟩) (by dsimp only; omega)).trans x2
  have u3 := (hb3.frozen (p := ⟨w.heap.size + 1, 0, none⟩) (by dsimp only; omega)).trans x3
  have z3 : w.heap.size + 2 ≤ w3.heap.size := by have := hb3.size; omega
  have B3 : Below w.heap.size w w3 := then_ B1 hb3
  clear x1 x2 x3 P25
  have ONE : Hid (A.all (·.oneCell') = true) := by
    refine Array.all_eq_true_iff_forall_mem.2 fun v hv => ?_
    obtain ⟨j, hj, rfl⟩ := Array.mem_iff_getElem.1 hv
    have := hAV j (by omega)
    rw [Array.getElem?_eq_getElem hj] at this
    rw [Option.some.inj this]
    exact own_one (hOw j (by omega))
  have HA := hid hA
  have HAV := hid hAV
  have HOW := hid hOw
  clear hA hAV hOw
  have B3a : Hid (∀ o, Below w3.heap.size w3 (w3.alloc o)) := fun o => (Below.refl _ w3).alloc (Nat.le_refl _) o
  go_wp2_with (first | (refine wpList_store_new _ rfl rfl _ _ rfl w3.heap.size A (Array.replicate 33 (.slice none 0 0)) rfl rfl (heap_alloc_new _ _) Array.size_replicate HA.out ONE.out ?_; intro W4 hr4 hb4; have B4' := hid ((B3a.out _).trans hb4); clear hb4))
  refine (backward_any _ _ _ _).mono ?_
  rintro e w5 ⟨rfl, hw5⟩
  have hr4l : w3.heap.size < W4.heap.size := (Array.getElem?_eq_some_iff.1 hr4).1
  have B5' : Below W4.heap.size W4 w5 := by rw [hw5]; exact (Below.refl _ _).alloc (Nat.le_refl _) _
  have c5 : w5.cell? ⟨W4.heap.size, 0, none⟩ = some (.slice (some ⟨w3.heap.size, 0, none⟩) 33 33) := by rw [hw5]; go_simp
  have z5 : w5.heap.size = W4.heap.size + 1 := by rw [hw5]; simp
  clear hw5
  have B45 : Below w3.heap.size w3 w5 := B4'.out.trans (B5'.mono (by omega))
  have tab : Hid (∀ j, j < 33 → w5.cell? ⟨w3.heap.size, j, none⟩ = some (V j)) := fun j hj => by
    have e : W4.cell? ⟨w3.heap.size, j, none⟩ = some (V j) := by
      have := HAV.out j hj
      simp [World.cell?, hr4, this]
    exact (B5'.cell (p := ⟨w3.heap.size, j, none⟩) hr4l).trans e
  have own5 : Hid (∀ b, b < 33 → OwnR w5 w1.heap.size (V b) (bitL f g h b n)) := fun b hb => World.ownsRow.kept (HOW.out b hb) (grown_of_below B45) (by
    rcases hv : (V b).ownBlock with _ | x
    · exact .inl rfl
    · exact .inr (by simp))
  have x1 := (B45.cell (p := ⟨w.heap.size, 0, none⟩) (by dsimp only; omega)).trans u1
  have x2 := (B45.cell (p := ⟨w.heap.size + 1, 0, none⟩) (by dsimp only; omega)).trans u2
  have x3 := (B45.frozen (p := ⟨w.heap.size + 1, 0, none⟩) (by dsimp only; omega)).trans u3
  have B5 : Below w.heap.size w w5 := then_ B3 B45
  have z5w : w.heap.size + 1 < w5.heap.size := by have := B45.size; omega
  clear u1 u2 u3 HOW HAV ONE HA hr4 B4' B5' B3a
  have hseq : SeqStopsK Fence.wide 3 Try.prog 35 #[.pointer (some ⟨W4.heap.size, 0, none⟩)] (fun x : Fin 33 => #[Value.int .i64 ((x.val : Nat) : Int), V x.val]) KeepsAll
      (fun xs => xs = downs 33) (fun pre => ∃ m, m ≤ 33 ∧ pre = downs m) 33 w5 := fun l J Jx W hW hJ hJx hY h0 =>
    callsIn_wide.2 (backward1_in l W4.heap.size w3.heap.size V J Jx W ((hW.cell (p := ⟨W4.heap.size, 0, none⟩) (by dsimp only; omega)).trans c5) (fun j hj => (hW.cell (p := ⟨w3.heap.size, j, none⟩) (by dsimp only; omega)).trans (tab.out j hj)) hY h0)
  clear c5 tab
  go_wp2_with fail
  refine (wpIn_wide (n := 4)).1 ?_
  gi_wp2_with fail
  refine wpIn_rangeFunc_ownF rfl (by omega) (gf := 35) (lb := #[.pointer (some ⟨W4.heap.size, 0, none⟩)]) rfl trivial (enters_of Try.func35 (by kernel_rfl) rfl)
    hseq KeepsAll.trans (KeepsAll.book (w := w5)) (Below.refl _ _) (fun _ => rfl)
    (fun pre W => (∀ y, y ∈ pre → ¬ foundAt n f g t y.val) ∧ Below w5.heap.size w5 W)
    (fun c pre W => (c = .ret ∧ (∃ pre' y i, pre = pre' ++ [y] ∧ (∀ y', y' ∈ pre' → ¬ foundAt n f g t y'.val) ∧ i < n ∧ hasR f g t i ∧ g i = ((y.val : Nat) : Int) ∧ W.cell? ⟨w.heap.size + 1, 0, none⟩ = some (.int .i64 (h i)))) ∧ Below w.heap.size w W)
    (OwnFrom.and (Own.from (fun s A B row hs hg hr => hs) _) (ownFrom_below (Nat.le_refl _) (Nat.le_refl _)))
    (fun c => OwnFrom.and (Own.from (fun s A B row hs hg hr => by
      obtain ⟨e1, pre', y, i, e2, q1, q2, q3, q4, q5⟩ := hs
      exact ⟨e1, pre', y, i, e2, q1, q2, q3, q4, cell_kept q5 hg hr⟩) _) (ownFrom_below (Nat.le_refl _) (by omega)))
    ⟨by simp, Below.refl _ _⟩
    (fun x => { tmps := #[.slice a n cap, .int .i64 t, undef, .pointer (some ⟨w.heap.size, 0, none⟩), .pointer (some ⟨w.heap.size + 1, 0, none⟩), .pointer (some ⟨w3.heap.size, 0, none⟩), .int .i64 ((x.val : Nat) : Int), V x.val, undef, undef, .slice a n cap, .bool true, .bool false, .bool false, .int .i64 t, .bool true, .bool false, .bool false, .slice a n cap, .agg A, .slice (some ⟨w3.heap.size, 0, none⟩) 33 33, .func (.func 35) #[] #[.pointer (some ⟨W4.heap.size, 0, none⟩)], .int .i64 ((x.val : Nat) : Int), V x.val, undef, undef, undef, undef, undef, undef, undef, undef, undef, undef, undef, undef, undef, undef], defers := [] }) ?assign ?body ?done ?stop
  case assign =>
    intro l x W K hK
    gi_wp2
    exact hK
  case body =>
    rintro l pre x W ⟨hp, hB⟩ _
    have HP := hid hp
    clear hp
    have c1 := (hB.cell (p := ⟨w.heap.size, 0, none⟩) (by dsimp only; omega)).trans x1
    have c2 := (hB.cell (p := ⟨w.heap.size + 1, 0, none⟩) (by dsimp only; omega)).trans x2
    have c3 := (hB.frozen (p := ⟨w.heap.size + 1, 0, none⟩) (by dsimp only; omega)).trans x3
    have N := hid (fun W => net_any t x.val W x.isLt t0 t1)
    obtain ⟨a', c', hv, hcase⟩ := look_any n f g h t x.val _ _ w5 n20 HO.out (own5.out x.val x.isLt)
    rw [hv] at hcase
    simp only [hv]
    generalize (bitL f g h x.val n) = X at *
    generalize netU t x.val = u at *
    have wl : w.heap.size < W.heap.size := by have := hB.size; omega
    have wl1 : w.heap.size + 1 < W.heap.size := by have := hB.size; omega
    rcases hcase with ⟨s, hs, ⟨i, q1, q2, q3, q4⟩, ⟨bb, off, rfl, hlt, hc⟩, hcall⟩ | ⟨hno, hcall⟩
    · have hs' : (s : Int) < (X.length : Int) := by omega
      have C27 := hid (hcall W hB)
      have HQ := hid (⟨pre, x, i, rfl, HP.out, q1, q2, q3⟩ : ∃ pre' y i', pre ++ [x] = pre' ++ [y] ∧ (∀ y', y' ∈ pre' → ¬ foundAt n f g t y'.val) ∧ i' < n ∧ hasR f g t i' ∧ g i' = ((y.val : Nat) : Int))
      have q4' := hid q4
      clear hcall hv
      gi_wp2_with fail
      refine ⟨trivial, ?_⟩
      refine (CallsIn.inRound l (callsIn_wide.2 (N.out _))).mono ?_
      rintro e W1 ⟨rfl, hW1⟩
      subst W1
      gi_wp2_with fail
      refine ⟨trivial, ?_⟩
      refine (CallsIn.inRound l (callsIn_wide.2 C27.out)).mono ?_
      rintro e W2 ⟨rfl, h2⟩
      have d0 : W2.cell? ⟨bb, off + s * 3 + 2, none⟩ = some (.int .i64 (r3 X s).2.2) := ((then_ hB h2).cell (p := ⟨bb, off + s * 3 + 2, none⟩) hlt).trans hc
      have d2 := (h2.cell (p := ⟨w.heap.size + 1, 0, none⟩) wl1).trans c2
      have d3 := (h2.frozen (p := ⟨w.heap.size + 1, 0, none⟩) wl1).trans c3
      clear C27 c1 c2 c3 N
      gi_wp2
      exact ⟨KeepsOthers.trans (KeepsOthers.of_grownBy (grown_of_below h2) (fun j o e => by cases e)) (KeepsOthers.setCell _ _ _), ⟨rfl, pre, x, i, rfl, HP.out, q1, q2, q3, by rw [q4]; exact World.cell?_setCell_same' _ _ _ (by rw [d2]; rfl)⟩, (then_ B5 (then_ hB h2)).setCell (p := ⟨w.heap.size + 1, 0, none⟩) (by dsimp only; omega) _⟩
    · have C27 := hid (hcall W hB)
      have HN := hid hno
      clear hcall hno hv
      gi_wp2_with fail
      refine ⟨trivial, ?_⟩
      refine (CallsIn.inRound l (callsIn_wide.2 (N.out _))).mono ?_
      rintro e W1 ⟨rfl, hW1⟩
      subst W1
      gi_wp2_with fail
      refine ⟨trivial, ?_⟩
      refine (CallsIn.inRound l (callsIn_wide.2 C27.out)).mono ?_
      rintro e W2 ⟨⟨s, rfl⟩, h2⟩
      clear C27 c1 c2 c3 N
      gi_wp2
      exact ⟨KeepsOthers.of_grownBy (grown_of_below h2) (fun j o e => by cases e), KeepsAll.of_below h2, fun y hy => (List.mem_append.1 hy).elim (HP.out y) (fun e => by simp at e; subst e; exact HN.out), then_ hB h2⟩
  case done =>
    rintro D ys W hD rfl ⟨hne, hB⟩ hK
    have HF : Hid ((best f g h t n).2 = 0) := port_none HO.out (fun b hb => hne ⟨b, hb⟩ ((downs_mem 33 (Nat.le_refl _) ⟨b, hb⟩).2 (by simp)))
    have BW := then_ B5 hB
    have c2 := (hB.cell (p := ⟨w.heap.size + 1, 0, none⟩) (by dsimp only; omega)).trans x2
    have c3 := (hB.frozen (p := ⟨w.heap.size + 1, 0, none⟩) (by dsimp only; omega)).trans x3
    clear hne
    go_wp2
    have hK' := (KeepsOthers.setCell W ⟨w.heap.size + 1, 0, none⟩ (.int .i64 0)).same D _ hK rfl
    refine ⟨by simp, .inl ⟨_, _, rfl, run_takeDeferred hK', ?_⟩⟩
    have hc5 := cell_kept (World.cell?_setCell_same' W ⟨w.heap.size + 1, 0, none⟩ (.int .i64 0) (by rw [c2]; rfl)) (grownBy_putObj' _ D (.deferred none)) (fun r e => by cases e; exact ⟨_, hK', rfl⟩)
    refine ⟨.int .i64 0, ?_, by rw [HF.out], (BW.setCell (p := ⟨w.heap.size + 1, 0, none⟩) (by dsimp only; omega) _).trans (belowK_b (w := w) (Nat.le_refl _) _ D _ _ (by omega) hK' rfl rfl)⟩
    simp [results, Try.results7, go_sem, hc5]
  case stop =>
    rintro D c pre W hD ⟨m, hm, hpre⟩ ⟨⟨rfl, ⟨pre', y, i, e1, hp', q1, q2, q3, hcr⟩⟩, hB⟩ hK
    have HF : Hid ((best f g h t n).2 = h i) := by
      refine port_at HO.out q1 q2 q3 fun b' h1 h2 => ?_
      rw [e1] at hpre
      cases m with
      | zero => simp [downs] at hpre
      | succ m =>
        rw [downs] at hpre
        obtain ⟨e3, e4⟩ := List.append_inj' hpre rfl
        have e5 : y = ⟨32 - m, by omega⟩ := by simpa using e4
        have e6 : y.val = 32 - m := by rw [e5]
        exact hp' ⟨b', h2⟩ (by rw [e3]; exact (downs_mem m (by omega) ⟨b', h2⟩).2 (by show 33 - m ≤ b'; omega))
    clear hpre hp'
    gi_wp2
    refine ⟨by simp, .inl ⟨_, _, rfl, run_takeDeferred hK, ?_⟩⟩
    have hc5 := cell_kept hcr (grownBy_putObj' _ D (.deferred none)) (fun r e => by cases e; exact ⟨_, hK, rfl⟩)
    refine ⟨.int .i64 (h i), ?_, by rw [HF.out], hB.trans (belowK_b (w := w) (Nat.le_refl _) W D _ _ (by omega) hK rfl rfl)⟩
    simp [results, Try.results7, go_sem, hc5]
end Go.Proofs.Ythlejmofhcgkdaa
