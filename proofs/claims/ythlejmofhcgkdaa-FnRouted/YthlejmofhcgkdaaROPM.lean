/- The table of routes by their bits. -/
import Derived.Test.YthlejmofhcgkdaaROPC
import Derived.Deep.RegionLaw
namespace Go.Proofs.Ythlejmofhcgkdaa
open Go Go.RowKit Go.Deep Go.BigFrame Go.Maps

theorem rcells_get3 (l : List R3) (j : Nat) : (rcells l)[j]? = (l[j / 3]?).bind fun r => (rc r)[j % 3]? := by
  induction l generalizing j with
  | nil => simp [rcells]
  | cons a l ih =>
    have e : rcells (a :: l) = rc a ++ rcells l := by rw [rcells, List.flatMap_cons]; rfl
    rw [e]
    by_cases h : j < 3
    · rw [List.getElem?_append_left (by simpa [rc] using h), show j / 3 = 0 by omega, show j % 3 = j by omega]
      rfl
    · rw [List.getElem?_append_right (by simp [rc]; omega)]
      show (rcells l)[j - 3]? = _
      rw [ih, show j / 3 = (j - 3) / 3 + 1 by omega, show j % 3 = (j - 3) % 3 by omega]
      rfl
def r3 (X : List R3) (i : Nat) : R3 := X[i]?.getD (0, 0, 0)
/-- a slice of routes that is owned, or none -/
theorem ownAt3 {w : World} {B : Nat} {v : Value} {X : List R3} (h : OwnR w B v X) : ∃ a c, v = .slice a X.length c ∧ RtsAt w a X.length (fun i => (r3 X i).1) (fun i => (r3 X i).2.1) (fun i => (r3 X i).2.2) := by
  rcases h.2 with ⟨hv, hl⟩ | ⟨g, cap, cur, hv, hbg, rest⟩
  · have hl' : X.length = 0 := hl
    exact ⟨none, 0, by rw [hv, hl'], fun hn => by omega⟩
  · refine ⟨some ⟨g, 0, none⟩, cap, hv, fun hn => ?_⟩
    rw [hv] at h
    have hl := (World.ownsRow.lt h g rfl).2
    refine ⟨g, 0, rfl, hl, fun i hi => ?_⟩
    have hc : ∀ j, j < X.length * 3 → w.cell? ⟨g, j, none⟩ = (rcells X)[j]? := fun j hj => World.ownsRow.cellAt h j hj
    have e : X[i]? = some (r3 X i) := by rw [r3, List.getElem?_eq_getElem hi]; rfl
    rw [hc _ (by omega), hc _ (by omega), hc _ (by omega), rcells_get3, rcells_get3, rcells_get3, show (0 + i * 3) / 3 = i by omega, show (0 + i * 3 + 1) / 3 = i by omega, show (0 + i * 3 + 2) / 3 = i by omega, show (0 + i * 3) % 3 = 0 by omega, show (0 + i * 3 + 1) % 3 = 1 by omega, show (0 + i * 3 + 2) % 3 = 2 by omega, e]
    exact ⟨rfl, rfl, rfl⟩

/-- the routes with so many bits, of the first k -/
def bitL (f g h : Nat → Int) (b : Nat) : Nat → List R3
  | 0 => []
  | k + 1 => if g k = b then bitL f g h b k ++ [(f k, g k, h k)] else bitL f g h b k
theorem bitL_len (f g h : Nat → Int) (b k : Nat) : (bitL f g h b k).length ≤ k := by
  induction k with
  | zero => exact Nat.le_refl _
  | succ k ih =>
    rw [bitL]
    split
    · rw [List.length_append, List.length_cons, List.length_nil]; omega
    · omega
/-- the table as it is when k routes are laid -/
structure TabIs (W : World) (T : Nat) (V : Nat → Value) (f g h : Nat → Int) (k : Nat) : Prop where
  row : W.rowIs T 44 33 V
  own : ∀ b, b < 33 → OwnR W (T + 1) (V b) (bitL f g h b k)
  apart : ∀ b b', b < 33 → b' < 33 → b ≠ b' → (V b).ownBlock = none ∨ (V b).ownBlock ≠ (V b').ownBlock
theorem TabIs.alloc {W : World} {T k : Nat} {V : Nat → Value} {f g h : Nat → Int} (H : TabIs W T V f g h k) (o : Obj) : TabIs (W.alloc o) T V f g h k :=
  ⟨H.row.alloc o, fun b hb => (H.own b hb).alloc o, H.apart⟩
theorem TabIs.step {W W' : World} {T k β : Nat} {V : Nat → Value} {f g h : Nat → Int} {v' : Value} (H : TabIs W T V f g h k) (hβ : β < 33) (hg : g k = β)
    (ho : OwnR W' (T + 1) v' (bitL f g h β k ++ [(f k, g k, h k)])) (hgr : W.grownBy W' (V β).ownBlock) (hv : v'.ownBlock = (V β).ownBlock ∨ v'.ownBlock = some W.heap.size) :
    TabIs (W'.setCell ⟨T, β, none⟩ v') T (fun j => if j = β then v' else V j) f g h (k + 1) := by
  have tne : ∀ b, b < 33 → some T ≠ (V b).ownBlock := fun b hb e => by have := (World.ownsRow.lt (H.own b hb) T e.symm).1; omega
  have hrow : W'.rowIs T 44 33 V := H.row.of_block (hgr.block T H.row.lt (tne β hβ))
  have set : ∀ {v : Value} {X : List R3}, OwnR W' (T + 1) v X → OwnR (W'.setCell ⟨T, β, none⟩ v') (T + 1) v X := fun {v X} hX => by
    refine World.ownsRow.kept hX (row := some T) ⟨rfl, rfl, rfl, by rw [nblk_setCell]; exact Nat.le_refl _, fun j hj hne => blk_setCell_other _ _ _ _ (by dsimp only; intro e; exact hne (by rw [e]))⟩ (.inr (fun e => by have := (World.ownsRow.lt hX T e).1; omega))
  refine ⟨hrow.set β v', fun b hb => ?_, fun b b' hb hb' hne => ?_⟩
  · by_cases e : b = β
    · subst e
      rw [if_pos rfl, bitL, if_pos hg]
      exact set ho
    · rw [if_neg e, bitL, if_neg (by rw [hg]; omega)]
      exact set (World.ownsRow.kept (H.own b hb) hgr (H.apart b β hb hβ e))
  · have lt : ∀ j, j < 33 → (V j).ownBlock = none ∨ (V j).ownBlock ≠ some W.heap.size := fun j hj => .inr fun e => by have := (World.ownsRow.lt (H.own j hj) _ e).2; omega
    by_cases e : b = β
    · subst e
      rw [if_pos rfl, if_neg (fun e => hne e.symm)]
      rcases hv with hv | hv
      · rw [hv]; exact H.apart _ _ hb hb' hne
      · rw [hv]
        exact .inr (fun e => by have := (World.ownsRow.lt (H.own b' hb') _ e.symm).2; omega)
    · rw [if_neg e]
      by_cases e' : b' = β
      · subst e'
        rw [if_pos rfl]
        rcases hv with hv | hv
        · rw [hv]; exact H.apart _ _ hb hb' hne
        · rw [hv]; exact lt b hb
      · rw [if_neg e']; exact H.apart _ _ hb hb' hne

theorem step_append_rt {ops : Array Oper} {o : Oper} {a : Act} {w : World} {K : Act → World → Prop} {Q : Exit → Act → World → Prop} {E : Prop} (hgd : o.guard = none) (s x : Operand)
    (ho : o.op = .call { callee := .builtin .append, args := #[s, x], argTypes := #[24, 24] })
    (B : Nat) (v : Value) (l : List R3) (hs : a.eval s = v) (hown : OwnR w B v l) (ad : Option Addr) (c : Nat) (r : R3) (hx : a.eval x = .slice ad 1 c) (hc : LiesC w ad 1 (rc r))
    (hm : l.length ≤ 1000) (hB : B ≤ w.heap.size)
    (h : ∀ a' c' w', OwnR w' B (.slice a' (l ++ [r]).length c') (l ++ [r]) → w.grownBy w' v.ownBlock → ((Value.slice a' (l ++ [r]).length c').ownBlock = v.ownBlock ∨ (Value.slice a' (l ++ [r]).length c').ownBlock = some w.heap.size) → K (a.put o.dst (.slice a' (l ++ [r]).length c')) w') :
    if Region.wanted o (yielded ops a.tmps) = true then Oper.wp Try.prog o a w K Q else E := by
  have hw : Region.wanted o (yielded ops a.tmps) = true := by simp [Region.wanted, hgd]
  rw [if_pos hw]
  refine wp_append_gen Try.underlying24 Try.info29 rfl (by omega) w s x ho B v l.length _ hs hown ad 1 c (rc r) hx (by simp [rc]) hc (fun u hu => by simp [rc] at hu; rcases hu with rfl | rfl | rfl <;> rfl) (by omega) (by omega) hB fun a' c' w' h2 h3 h4 => ?_
  have e1 : rcells l ++ rc r = rcells (l ++ [r]) := by simp [rcells]
  have e2 : l.length + 1 = (l ++ [r]).length := by simp
  rw [e1] at h2
  rw [e2] at h2 h4 ⊢
  exact h a' c' w' h2 h3 h4

theorem wpList_load_tab {ops : Array Oper} {rest : List Oper} {o : Oper} {a : Act} {Q : Exit → Act → World → Prop} (w : World) (hgd : o.guard = none) (p : Operand)
    (ho : o.op = .load 44 p) (b0 : Nat) (A : Array Value) (hp : a.eval p = .pointer (some ⟨b0, 0, none⟩)) (hrow : w.heap[b0]? = some (.cells A 44 (0, 0))) (hs : A.size = 33)
    (h : wpList Try.prog ops Q rest (a.put o.dst (.agg A)) w) : wpList Try.prog ops Q (o :: rest) a w := by
  refine wpList_plain hgd fun _ hK => ?_
  have hl := run_loadVar_row (P := Try.prog) w b0 44 44 A (0, 0) _ hrow Try.underlying44 rfl (by rw [hs]; kernel_rfl)
  unfold Oper.wp execOp
  simp only [ho, hp, Instr.loadAt, Instr.sureAddr, Sem.run_bind, Sem.run_pure, Result.andThen_ok, hl]
  exact hK _ _ h
theorem wpList_store_tab {ops : Array Oper} {rest : List Oper} {o : Oper} {a : Act} {Q : Exit → Act → World → Prop} (w : World) (hgd : o.guard = none) (hd : o.dst = none) (p x : Operand)
    (ho : o.op = .store 44 p x) (b0 : Nat) (A C : Array Value) (hp : a.eval p = .pointer (some ⟨b0, 0, none⟩)) (hx : a.eval x = .agg A) (hrow : w.heap[b0]? = some (.cells C 44 (0, 0))) (hc : C.size = 33) (hs : A.size = 33) (h1 : A.all (·.oneCell') = true)
    (h : wpList Try.prog ops Q rest a (w.setRow b0 A)) : wpList Try.prog ops Q (o :: rest) a w := by
  refine wpList_plain hgd fun _ hK => ?_
  have hl := run_storeVar_row (P := Try.prog) w b0 44 44 C A hrow (by rw [hs]; kernel_rfl) (by rw [hc, hs]) h1
  unfold Oper.wp execOp
  simp only [ho, hp, hx, Instr.storeAt, Instr.sureAddr, Sem.run_bind, Sem.run_pure, Result.andThen_ok, hl]
  refine hK _ _ ?_
  rw [hd]
  exact h
theorem below_row {w w' : World} {b B : Nat} {A : Array Value} (h : Below B w w') (hb : B ≤ b) : Below B w (w'.setRow b A) :=
  ⟨h.os, h.tape, h.output, by simpa using h.size, fun k hk => (setRow_other w' b k _ (by omega)).trans (h.block k hk)⟩
theorem own_one {W : World} {B : Nat} {v : Value} {X : List R3} (h : OwnR W B v X) : v.oneCell' = true := by
  obtain ⟨a, c, e, _⟩ := ownAt3 h
  rw [e]; rfl
theorem OwnR.low {w : World} {B B' : Nat} {v : Value} {l : List R3} (h : OwnR w B v l) (hB : B' ≤ B) : OwnR w B' v l := by
  refine ⟨h.1, ?_⟩
  rcases h.2 with hn | ⟨g, cap, cur, hv, hb, rest⟩
  · exact .inl hn
  · exact .inr ⟨g, cap, cur, hv, by omega, rest⟩

theorem zero33 (w : World) : (w.alloc (.cells (Array.replicate 33 (.slice none 0 0)) 44)).rowIs w.heap.size 44 33 (fun _ => .slice none 0 0) :=
  ⟨_, heap_alloc_new _ _, Array.size_replicate, fun i hi => by rw [Array.getElem?_replicate, if_pos hi]⟩

set_option maxRecDepth 100000 in
set_option maxHeartbeats 2000000 in
theorem table_any (a : Option Addr) (n cap : Nat) (f g h : Nat → Int) (w : World) (hn : n ≤ 20) (H : RtsAt w a n f g h) (hg : ∀ k, k < n → 0 ≤ g k ∧ g k ≤ 32) :
    Calls Try.prog 19 #[.slice a n cap] w fun e w' => ∃ (A : Array Value) (V : Nat → Value), e = .returned (.agg A) ∧ A.size = 33 ∧ (∀ j, j < 33 → A[j]? = some (V j)) ∧ (∀ b, b < 33 → OwnR w' w.heap.size (V b) (bitL f g h b n)) ∧ Below w.heap.size w w' := by
  have R0 : Hid ((w.alloc (.cells (Array.replicate 33 (.slice none 0 0)) 44)).rowIs w.heap.size 44 33 (fun _ => .slice none 0 0)) := zero33 w
  have T0 : Hid (TabIs ((w.alloc (.cells (Array.replicate 33 (.slice none 0 0)) 44)).alloc (.cells (Array.replicate 33 (.slice none 0 0)) 44)) (w.heap.size + 1) (fun _ => .slice none 0 0) f g h 0) := by
    have t := zero33 (w.alloc (.cells (Array.replicate 33 (.slice none 0 0)) 44))
    rw [World.size_alloc] at t
    exact ⟨t, fun b hb => World.ownsRow_nil _ _ _ _, fun _ _ _ _ _ => .inl rfl⟩
  have HG := hid hg
  have HH := hid H
  clear hg H
  go_enter Try.func19, Try.ntmps19
  go_wp2
  go_loopw [8] (fun i wr => ∃ (k : Nat) (V : Nat → Value), k ≤ n ∧ i = .int .i64 k ∧ TabIs wr (w.heap.size + 1) V f g h k ∧ wr.rowIs w.heap.size 44 33 (fun _ => .slice none 0 0) ∧ Below w.heap.size w wr) (fun i _ => n - (intOf i).toNat)
  case atStart => exact ⟨0, _, Nat.zero_le _, rfl, T0.out, R0.out.alloc _, ((Below.refl _ _).alloc (Nat.le_refl _) _).alloc (by simp) _⟩
  case round =>
    obtain ⟨k, V, hk, rfl, hT, hR, hB⟩ := hrel
    clear T0 R0
    have HT := hid hT
    have HR := hid hR
    have tlt := hT.row.lt
    clear hT hR
    by_cases hlt' : k < n
    · obtain ⟨b, off, rfl, hlt, hc⟩ := HH.out (by omega)
      obtain ⟨c1, c2, c3⟩ := hc k hlt'
      have g1 : wr.cell? ⟨b, off + k * 3, none⟩ = some (.int .i64 (f k)) := (hB.cell (p := ⟨b, _, none⟩) hlt).trans c1
      have g2 : wr.cell? ⟨b, off + k * 3 + 1, none⟩ = some (.int .i64 (g k)) := (hB.cell (p := ⟨b, _, none⟩) hlt).trans c2
      have g3 : wr.cell? ⟨b, off + k * 3 + 2, none⟩ = some (.int .i64 (h k)) := (hB.cell (p := ⟨b, _, none⟩) hlt).trans c3
      clear c1 c2 c3 hc HH
      obtain ⟨y0, y1⟩ := HG.out k hlt'
      obtain ⟨β, hβ⟩ : ∃ β : Nat, g k = (β : Int) := ⟨(g k).toNat, by omega⟩
      have HGK := hid hβ
      rw [hβ] at g2
      have b33 : β < 33 := by omega
      have b33' : (β : Int) < 33 := by omega
      clear hβ y0 y1
      have W1B : Below w.heap.size w (wr.alloc (.cells #[.int .i64 (f k), .int .i64 β, .int .i64 (h k)] 29)) := hB.alloc hB.size _
      have T1 := hid (HT.out.alloc (.cells #[.int .i64 (f k), .int .i64 β, .int .i64 (h k)] 29))
      have R1 := hid (HR.out.alloc (.cells #[.int .i64 (f k), .int .i64 β, .int .i64 (h k)] 29))
      have x1 : (wr.alloc (.cells #[.int .i64 (f k), .int .i64 β, .int .i64 (h k)] 29)).cell? ⟨wr.heap.size, 0, none⟩ = some (.int .i64 (f k)) := by simp
      have x2 : (wr.alloc (.cells #[.int .i64 (f k), .int .i64 β, .int .i64 (h k)] 29)).cell? ⟨wr.heap.size, 1, none⟩ = some (.int .i64 β) := by simp
      have x3 : (wr.alloc (.cells #[.int .i64 (f k), .int .i64 β, .int .i64 (h k)] 29)).cell? ⟨wr.heap.size, 2, none⟩ = some (.int .i64 (h k)) := by simp
      have x4 : wr.heap.size < (wr.alloc (.cells #[.int .i64 (f k), .int .i64 β, .int .i64 (h k)] 29)).heap.size := by rw [World.size_alloc]; omega
      have PNE : Hid (some wr.heap.size ≠ (V β).ownBlock) := fun e => by have := (World.ownsRow.lt (HT.out.own β b33) _ e.symm).2; omega
      go_wp2
      generalize wr.alloc (.cells #[.int .i64 (f k), .int .i64 β, .int .i64 (h k)] 29) = W1 at *
      generalize wr.heap.size = P at *
      have tlt1 : w.heap.size + 1 < W1.heap.size := T1.out.row.lt
      have tc := T1.out.row.cell (i := β) b33
      have px : ¬ P = W1.heap.size := by omega
      have tx : ¬ w.heap.size + 1 = W1.heap.size := by omega
      have HTA := hid (T1.out.alloc (.cells #[.int .i64 (f k), .int .i64 β, .int .i64 (h k)] 29))
      have HO := hid (HTA.out.own β b33)
      have HL := hid (one_rt (w := W1) (f k, (β : Int), h k))
      have lm : (bitL f g h β k).length ≤ 1000 := by have := bitL_len f g h β k; omega
      have s1 : w.heap.size + 1 + 1 ≤ ((W1.alloc (.cells #[.int .i64 (f k), .int .i64 β, .int .i64 (h k)] 29)).drew).heap.size := by show _ ≤ (W1.alloc _).heap.size; rw [World.size_alloc]; omega
      have TLT := hid (show w.heap.size + 1 < (W1.alloc (.cells #[.int .i64 (f k), .int .i64 β, .int .i64 (h k)] 29)).heap.size by rw [World.size_alloc]; omega)
      have TNE : Hid (some (w.heap.size + 1) ≠ (V β).ownBlock) := fun e => by have := (World.ownsRow.lt HO.out _ e.symm).1; omega
      have PLT := hid (show P < (W1.alloc (.cells #[.int .i64 (f k), .int .i64 β, .int .i64 (h k)] 29)).heap.size by rw [World.size_alloc]; omega)
      have CP : Hid ((W1.alloc (.cells #[.int .i64 (f k), .int .i64 β, .int .i64 (h k)] 29)).cell? ⟨P, 1, none⟩ = some (.int .i64 β)) := (((Below.refl _ W1).alloc (Nat.le_refl _) _).cell (p := ⟨P, 1, none⟩) x4).trans x2
      have FIN : Hid (∀ v' w3, OwnR w3 (w.heap.size + 1 + 1) v' (bitL f g h β k ++ [(f k, (β : Int), h k)]) → (W1.alloc (.cells #[.int .i64 (f k), .int .i64 β, .int .i64 (h k)] 29)).grownBy w3 (V β).ownBlock → (v'.ownBlock = (V β).ownBlock ∨ v'.ownBlock = some (W1.alloc (.cells #[.int .i64 (f k), .int .i64 β, .int .i64 (h k)] 29)).heap.size) →
          ∃ V', TabIs (w3.setCell ⟨w.heap.size + 1, β, none⟩ v') (w.heap.size + 1) V' f g h (k + 1) ∧ (w3.setCell ⟨w.heap.size + 1, β, none⟩ v').rowIs w.heap.size 44 33 (fun _ => .slice none 0 0) ∧ Below w.heap.size w (w3.setCell ⟨w.heap.size + 1, β, none⟩ v')) := fun v' w3 o3 g3 v3 => by
        have HK := HGK.out
        refine ⟨_, HTA.out.step b33 HK (by rw [HK]; exact o3) g3 v3, ?_, ?_⟩
        · have ra := R1.out.alloc (.cells #[.int .i64 (f k), .int .i64 β, .int .i64 (h k)] 29)
          have r3 := ra.of_block (g3.block w.heap.size ra.lt (fun e => by have := (World.ownsRow.lt HO.out _ e.symm).1; omega))
          exact r3.setOther (by simp only; omega) _
        · have b1 := W1B.alloc W1B.size (.cells #[.int .i64 (f k), .int .i64 β, .int .i64 (h k)] 29)
          exact (b1.trans (below_grown g3 b1.size (fun j hj => by have := (World.ownsRow.lt HO.out j hj).1; omega))).setCell (by simp only; omega) _
      clear g1 g2 g3 HT HR hB tlt
      go_region_law ((refine step_append_rt (by rfl) _ _ (by rfl) (w.heap.size + 1 + 1) (V β) (bitL f g h β k) (by rfl) HO.out _ 1 (f k, (β : Int), h k) (by rfl) HL.out lm s1 ?_; intro a3 c3 w3 O3 hg3 hv3; have R3 := hid (HTA.out.row.of_block (hg3.block (w.heap.size + 1) TLT.out TNE.out)); have c9 := R3.out.cell (i := β) b33; have f9 := R3.out.frozen β; have p9 := (World.cell?_of_block (hg3.block P PLT.out PNE.out) : w3.cell? ⟨P, 1, none⟩ = _).trans CP.out))
      all_goals (
        obtain ⟨V', t9, r9, b9⟩ := FIN.out _ _ O3 ⟨hg3.os, hg3.tape, hg3.output, hg3.size, hg3.block⟩ hv3
        simp only [List.length_append, List.length_cons, List.length_nil, Nat.zero_add] at t9 r9 b9
        clear O3 hg3 hv3 R3 c9 f9 p9
        go_wp2
        exact ⟨⟨k + 1, V', by omega, rfl, t9, r9, b9⟩, by simp [intOf]; omega⟩)
    · have ek : k = n := by omega
      subst ek
      obtain ⟨A, a1, a2, a3⟩ := HT.out.row
      obtain ⟨C, b1, b2, b3⟩ := HR.out
      have O1 := hid HT.out.own
      have H1 := hid a1
      have H2 := hid a2
      have H3 := hid b1
      have H4 := hid b2
      have HA := hid a3
      have ONE : Hid (A.all (·.oneCell') = true) := by
        refine Array.all_eq_true_iff_forall_mem.2 fun v hv => ?_
        obtain ⟨j, hj, rfl⟩ := Array.mem_iff_getElem.1 hv
        have := a3 j (by omega)
        rw [Array.getElem?_eq_getElem hj] at this
        rw [Option.some.inj this]
        exact own_one (HT.out.own j (by omega))
      clear HT HR a1 a2 a3 b1 b2 b3
      go_wp2_with (first | (refine wpList_load_tab _ rfl _ rfl (w.heap.size + 1) A rfl H1.out H2.out ?_) | (refine wpList_store_tab _ rfl rfl _ _ rfl w.heap.size A C rfl rfl H3.out H4.out H2.out ONE.out ?_))
      have hl := run_loadVar_row (P := Try.prog) (wr.setRow w.heap.size A) w.heap.size 44 44 A (0, 0) _ (setRow_heap wr w.heap.size C A 44 (0, 0) H3.out) Try.underlying44 rfl (by rw [H2.out]; kernel_rfl)
      refine bodyPost_ret (v := .agg A) ?_ rfl ⟨A, V, rfl, H2.out, HA.out, fun b hb => ?_, below_row hB (Nat.le_refl _)⟩
      · simp [results, Try.results19, Act.put, asAddr, hl]
      · have hx := O1.out b hb
        refine OwnR.low (World.ownsRow.kept hx (row := some w.heap.size) ⟨rfl, rfl, rfl, by simp, fun j hj hne => setRow_other wr w.heap.size j _ (fun e => hne (by rw [e]))⟩ (.inr (fun e => by have := (World.ownsRow.lt hx _ e).1; omega))) (by omega)
end Go.Proofs.Ythlejmofhcgkdaa
