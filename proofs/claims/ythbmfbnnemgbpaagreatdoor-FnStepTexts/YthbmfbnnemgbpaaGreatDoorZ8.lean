/- StepOk plainly; l4None of the model. -/
import Derived.Test.YthbmfbnnemgbpaaGreatDoorZ1
import Derived.Orders
namespace Go.Proofs.YthbmfbnnemgbpaaGreatDoor
open Go Go.RowKit Go.Deep
theorem l4None_any (base : Int) (a : Option Addr) (n cap : Nat) (w : World) (hn : n ≤ maxLen) :
 Calls Tryz.prog 54 #[.agg #[.int .i64 base, .slice a n cap]] w fun e w' => e = .returned (.bool (zeroB base n)) ∧ Below w.heap.size w w' := by
 unfold maxLen at hn
 have hb0 := (Below.refl _ w).alloc (Nat.le_refl _) (.cells #[.int .i64 base, .slice a n cap] 26)
 cases t : (base == 0) with
 | true =>
  go_enter Tryz.func54, Tryz.ntmps54
  go_wp2
  go_ret
  refine ⟨ret_bool ?_, hb0⟩
  unfold zeroB
  rw [t, Bool.true_and]
  by_cases e : n = 0
  ·subst e; rfl
  ·have e1 : (n == 0) = false := by simpa using e
   rw [e1]
   simp
   omega
 | false =>
  go_enter Tryz.func54, Tryz.ntmps54
  go_wp2
  go_ret
  exact ⟨ret_bool (by simp [zeroB, t]), hb0⟩
def noText (d : ByteArray) : Bool := d.toList.isEmpty
def stepC (ok ui ut uc ud ul ue : Bool) (th kind id to' cat : Int) (d : ByteArray) (lo zl co zc : Bool) : Bool :=
 ok && inB th 1 9 && lo && (ul || zl) && co && (ue || zc) && plainB d 40 && (ud || noText d) && numB id ui && numB to' ut && catB kind cat uc
def stepOk (th kind id to' cat : Int) (d : ByteArray) (bl : Int) (nl : Nat) (fl gl : Nat → Int) (bc : Int) (nc : Nat) (fc gc : Nat → Int) : Bool :=
 stepC (uOk kind) (uId kind) (uTo kind) (uCat kind) (uData kind) (uLabel kind) (uClear kind) th kind id to' cat d (labOk bl nl fl gl) (zeroB bl nl) (labOk bc nc fc gc) (zeroB bc nc)
end Go.Proofs.YthbmfbnnemgbpaaGreatDoor
namespace Go.Proofs.YthbmfbnnemgbpaaGreatDoor
open Go.RowKit Go.Deep
theorem numberOk_any (n : Int) (used : Bool) (w : World) :
 Calls Tryz.prog 28 #[.int .i64 n, .bool used] w fun e w' => e = .returned (.bool (numB n used)) ∧ w' = w := by
 cases used with
 | false =>
  go_enter Tryz.func28, Tryz.ntmps28
  go_wp2
  go_ret
  exact ⟨ret_bool (by simp [numB]), rfl⟩
 | true =>
  go_enter Tryz.func28, Tryz.ntmps28
  go_wp2
  ·go_ret
   exact ⟨ret_bool (by simp only [numB, if_true]; exact (inB_yes ‹_›).symm), rfl⟩
  ·go_ret
   exact ⟨ret_bool (by simp only [numB, if_true]; exact (inB_no ‹_›).symm), rfl⟩
set_option maxRecDepth 100000 in
set_option maxHeartbeats 4000000 in
theorem usesOf_any (kind : Int) (w : World) :
 Calls Tryz.prog 24 #[.int .i64 kind] w fun e w' => e = .returned (.tuple #[.agg #[.bool (uId kind), .bool (uTo kind), .bool (uCat kind), .bool (uData kind), .bool (uLabel kind), .bool (uClear kind)], .bool (uOk kind)]) ∧ Below w.heap.size w w' := by
 by_cases h1 : kind = 1
 ·subst h1
  go_enter Tryz.func24, Tryz.ntmps24
  go_wp2
  refine bodyPost_ret (v := .tuple #[.agg #[.bool false, .bool false, .bool false, .bool false, .bool false, .bool false], .bool true]) (by simp [results, Tryz.results24, go_sem]) rfl ⟨by rfl, (Below.refl _ w).alloc (Nat.le_refl _) _⟩
 by_cases h2 : kind = 2
 ·subst h2
  go_enter Tryz.func24, Tryz.ntmps24
  go_wp2
  refine bodyPost_ret (v := .tuple #[.agg #[.bool true, .bool false, .bool false, .bool false, .bool true, .bool false], .bool true]) (by simp [results, Tryz.results24, go_sem]) rfl ⟨by rfl, (Below.refl _ w).alloc (Nat.le_refl _) _⟩
 by_cases h3 : kind = 3
 ·subst h3
  go_enter Tryz.func24, Tryz.ntmps24
  go_wp2
  refine bodyPost_ret (v := .tuple #[.agg #[.bool true, .bool false, .bool false, .bool false, .bool true, .bool false], .bool true]) (by simp [results, Tryz.results24, go_sem]) rfl ⟨by rfl, (Below.refl _ w).alloc (Nat.le_refl _) _⟩
 by_cases h4 : kind = 4
 ·subst h4
  go_enter Tryz.func24, Tryz.ntmps24
  go_wp2
  refine bodyPost_ret (v := .tuple #[.agg #[.bool true, .bool false, .bool false, .bool false, .bool true, .bool false], .bool true]) (by simp [results, Tryz.results24, go_sem]) rfl ⟨by rfl, (Below.refl _ w).alloc (Nat.le_refl _) _⟩
 by_cases h5 : kind = 5
 ·subst h5
  go_enter Tryz.func24, Tryz.ntmps24
  go_wp2
  refine bodyPost_ret (v := .tuple #[.agg #[.bool true, .bool false, .bool true, .bool false, .bool true, .bool true], .bool true]) (by simp [results, Tryz.results24, go_sem]) rfl ⟨by rfl, (Below.refl _ w).alloc (Nat.le_refl _) _⟩
 by_cases h6 : kind = 6
 ·subst h6
  go_enter Tryz.func24, Tryz.ntmps24
  go_wp2
  refine bodyPost_ret (v := .tuple #[.agg #[.bool true, .bool false, .bool false, .bool true, .bool false, .bool false], .bool true]) (by simp [results, Tryz.results24, go_sem]) rfl ⟨by rfl, (Below.refl _ w).alloc (Nat.le_refl _) _⟩
 by_cases h7 : kind = 7
 ·subst h7
  go_enter Tryz.func24, Tryz.ntmps24
  go_wp2
  refine bodyPost_ret (v := .tuple #[.agg #[.bool true, .bool false, .bool false, .bool false, .bool false, .bool false], .bool true]) (by simp [results, Tryz.results24, go_sem]) rfl ⟨by rfl, (Below.refl _ w).alloc (Nat.le_refl _) _⟩
 by_cases h8 : kind = 8
 ·subst h8
  go_enter Tryz.func24, Tryz.ntmps24
  go_wp2
  refine bodyPost_ret (v := .tuple #[.agg #[.bool true, .bool true, .bool false, .bool false, .bool false, .bool false], .bool true]) (by simp [results, Tryz.results24, go_sem]) rfl ⟨by rfl, (Below.refl _ w).alloc (Nat.le_refl _) _⟩
 by_cases h9 : kind = 9
 ·subst h9
  go_enter Tryz.func24, Tryz.ntmps24
  go_wp2
  refine bodyPost_ret (v := .tuple #[.agg #[.bool true, .bool false, .bool false, .bool true, .bool false, .bool false], .bool true]) (by simp [results, Tryz.results24, go_sem]) rfl ⟨by rfl, (Below.refl _ w).alloc (Nat.le_refl _) _⟩
 by_cases h10 : kind = 10
 ·subst h10
  go_enter Tryz.func24, Tryz.ntmps24
  go_wp2
  refine bodyPost_ret (v := .tuple #[.agg #[.bool true, .bool false, .bool false, .bool false, .bool false, .bool false], .bool true]) (by simp [results, Tryz.results24, go_sem]) rfl ⟨by rfl, (Below.refl _ w).alloc (Nat.le_refl _) _⟩
 by_cases h11 : kind = 11
 ·subst h11
  go_enter Tryz.func24, Tryz.ntmps24
  go_wp2
  refine bodyPost_ret (v := .tuple #[.agg #[.bool true, .bool false, .bool false, .bool false, .bool false, .bool false], .bool true]) (by simp [results, Tryz.results24, go_sem]) rfl ⟨by rfl, (Below.refl _ w).alloc (Nat.le_refl _) _⟩
 by_cases h12 : kind = 12
 ·subst h12
  go_enter Tryz.func24, Tryz.ntmps24
  go_wp2
  refine bodyPost_ret (v := .tuple #[.agg #[.bool false, .bool false, .bool false, .bool false, .bool true, .bool false], .bool true]) (by simp [results, Tryz.results24, go_sem]) rfl ⟨by rfl, (Below.refl _ w).alloc (Nat.le_refl _) _⟩
 by_cases h13 : kind = 13
 ·subst h13
  go_enter Tryz.func24, Tryz.ntmps24
  go_wp2
  refine bodyPost_ret (v := .tuple #[.agg #[.bool true, .bool false, .bool false, .bool false, .bool false, .bool false], .bool true]) (by simp [results, Tryz.results24, go_sem]) rfl ⟨by rfl, (Below.refl _ w).alloc (Nat.le_refl _) _⟩
 by_cases h14 : kind = 14
 ·subst h14
  go_enter Tryz.func24, Tryz.ntmps24
  go_wp2
  refine bodyPost_ret (v := .tuple #[.agg #[.bool false, .bool false, .bool true, .bool false, .bool false, .bool false], .bool true]) (by simp [results, Tryz.results24, go_sem]) rfl ⟨by rfl, (Below.refl _ w).alloc (Nat.le_refl _) _⟩
 by_cases h15 : kind = 15
 ·subst h15
  go_enter Tryz.func24, Tryz.ntmps24
  go_wp2
  refine bodyPost_ret (v := .tuple #[.agg #[.bool true, .bool false, .bool false, .bool false, .bool false, .bool false], .bool true]) (by simp [results, Tryz.results24, go_sem]) rfl ⟨by rfl, (Below.refl _ w).alloc (Nat.le_refl _) _⟩
 have g1 : (kind == 1) = false := by simpa using h1
 have g2 : (kind == 2) = false := by simpa using h2
 have g3 : (kind == 3) = false := by simpa using h3
 have g4 : (kind == 4) = false := by simpa using h4
 have g5 : (kind == 5) = false := by simpa using h5
 have g6 : (kind == 6) = false := by simpa using h6
 have g7 : (kind == 7) = false := by simpa using h7
 have g8 : (kind == 8) = false := by simpa using h8
 have g9 : (kind == 9) = false := by simpa using h9
 have g10 : (kind == 10) = false := by simpa using h10
 have g11 : (kind == 11) = false := by simpa using h11
 have g12 : (kind == 12) = false := by simpa using h12
 have g13 : (kind == 13) = false := by simpa using h13
 have g14 : (kind == 14) = false := by simpa using h14
 have g15 : (kind == 15) = false := by simpa using h15
 clear h1 h2 h3 h4 h5 h6 h7 h8 h9 h10 h11 h12 h13 h14 h15
 go_enter Tryz.func24, Tryz.ntmps24
 go_wp2
 refine bodyPost_ret (v := .tuple #[.agg #[.bool false, .bool false, .bool false, .bool false, .bool false, .bool false], .bool false]) (by simp [results, Tryz.results24, go_sem]) rfl ⟨by simp [uId, uTo, uCat, uData, uLabel, uClear, uOk, g1, g2, g3, g4, g5, g6, g7, g8, g9, g10, g11, g12, g13, g14, g15], (Below.refl _ w).alloc (Nat.le_refl _) _⟩
theorem Blk.six {W : World} {P t : Nat} {x0 x1 x2 x3 x4 x5 : Value} (h : Blk W P (.cells #[x0, x1, x2, x3, x4, x5] t)) : W.cell? ⟨P, 0, none⟩ = some x0 ∧ W.cell? ⟨P, 1, none⟩ = some x1 ∧ W.cell? ⟨P, 2, none⟩ = some x2 ∧ W.cell? ⟨P, 3, none⟩ = some x3 ∧ W.cell? ⟨P, 4, none⟩ = some x4 ∧ W.cell? ⟨P, 5, none⟩ = some x5 := by
 unfold Blk at h
 simp [World.cell?, h]
set_option maxRecDepth 100000 in
set_option maxHeartbeats 1000000 in
theorem catOk_any (th kind id to' cat : Int) (d : ByteArray) (bl : Int) (al : Option Addr) (nl kl : Nat)  (bc : Int) (ac : Option Addr) (nc kc : Nat)  (used : Bool) (w : World) :
 Calls Tryz.prog 29 #[.agg #[.int .i64 th, .int .i64 kind, .int .i64 id, .int .i64 to', .int .i64 cat, .string d, .int .i64 bl, .slice al nl kl, .int .i64 bc, .slice ac nc kc], .bool used] w fun e w' => e = .returned (.bool (catB kind cat used)) ∧ Below w.heap.size w w' := by
 have hb0 := (Below.refl _ w).alloc (Nat.le_refl _) (.cells #[.int .i64 th, .int .i64 kind, .int .i64 id, .int .i64 to', .int .i64 cat, .string d, .int .i64 bl, .slice al nl kl, .int .i64 bc, .slice ac nc kc] 28)
 cases t : (cat == 0) with
 | true =>
  go_enter Tryz.func29, Tryz.ntmps29
  go_wp2
  go_ret
  exact ⟨ret_bool (by simp [catB, t]), hb0⟩
 | false =>
  cases used with
  | true =>
   go_enter Tryz.func29, Tryz.ntmps29
   go_wp2_with (go_at_call 58; refine (isCat_any _ _).mono ?_; rintro e w' ⟨rfl, rfl⟩)
   go_ret
   exact ⟨ret_bool (by simp [catB, t]), hb0⟩
  | false =>
   go_enter Tryz.func29, Tryz.ntmps29
   go_wp2
   go_ret
   exact ⟨ret_bool (by simp [catB, t]), hb0⟩
end Go.Proofs.YthbmfbnnemgbpaaGreatDoor
namespace Go.Proofs.YthbmfbnnemgbpaaGreatDoor
open Go Go.RowKit Go.Deep
section
variable {P : Program} {ops : Array Oper} {Q : Exit → Act → World → Prop} {a : Act} {w : World}
def Seq (P : Program) (ops : Array Oper) (Q : Exit → Act → World → Prop) (i : Nat) (a : Act) (w : World) : Prop := wpOps P ops Q (List.range' i (ops.size - i)) a w
theorem Seq.region {id : Nat} (h : Seq P ops Q 0 a w) : (Code.region id ops false).wp P Q a w := by
 refine wp_region ?_
 unfold Seq at h
 rw [Nat.sub_zero, ← List.range_eq_range'] at h
 exact h
theorem range_step {i n : Nat} (h : i < n) : List.range' i (n - i) = i :: List.range' (i + 1) (n - (i + 1)) := by
 obtain ⟨k, hk⟩ : ∃ k, n - i = k + 1 := ⟨n - i - 1, by omega⟩
 have : n - (i + 1) = k := by omega
 rw [hk, this, List.range'_succ]
theorem Seq.step {i : Nat} {o : Oper} (ho : ops[i]? = some o) (h : ∀ K' : Act → World → Prop, Hid (∀ a w, Seq P ops Q (i + 1) a w → K' a w) → if Region.wanted o (yielded ops a.tmps) = true then Oper.wp P o a w K' Q else K' (a.put o.dst undef) w) : Seq P ops Q i a w := by
 have hlt : i < ops.size := (Array.getElem?_eq_some_iff.1 ho).1
 unfold Seq
 rw [range_step hlt]
 unfold wpOps
 rw [ho]
 dsimp only
 have := h (wpOps P ops Q (List.range' (i + 1) (ops.size - (i + 1)))) (fun a w h => h)
 split
 ·rename_i hw
  rw [if_pos hw] at this
  exact .inl this
 ·rename_i hw
  rw [if_neg hw] at this
  exact this
theorem Seq.take {i d : Nat} {o : Oper} (v : Value) (ho : ops[i]? = some o) (hd : o.dst = some d) (hw : Region.wanted o (yielded ops a.tmps) = true) (hv : (execOp a.eval o).run P w = .ok (.value v) w)
 (h : Seq P ops Q (i + 1) (a.put (some d) v) w) : Seq P ops Q i a w :=
 Seq.step ho fun K' hK => by
  rw [if_pos hw]
  unfold Oper.wp
  rw [hv]
  simp only [Oper.upon]
  rw [hd]
  exact hK.out _ _ h
theorem Seq.done {i : Nat} (hi : ops.size ≤ i) (h : Q .normal a w) : Seq P ops Q i a w := by
 unfold Seq
 have : ops.size - i = 0 := by omega
 rw [this]
 exact h
def Value.isUndef : Value → Bool
 | .tuple xs => xs.size == 0
 | _ => false
def idle (ops : Array Oper) (tmps : Array Value) (k : Nat) : Bool := match ops[k]? with
 | some o => !(Region.wanted o (yielded ops tmps)) && match o.dst with
  | some d => match tmps[d]? with
   | some v => Value.isUndef v
   | none => false
  | none => true
 | none => false
theorem put_undef {d : Nat} (h : (match a.tmps[d]? with | some v => Value.isUndef v | none => false) = true) : a.put (some d) undef = a := by
 cases hv : a.tmps[d]? with
 | none => rw [hv] at h; simp at h
 | some v =>
  rw [hv] at h
  dsimp only at h
  have hu : v = undef := by
   cases v with
   | tuple xs =>
    have hs : xs.size = 0 := by simpa [Value.isUndef] using h
    have : xs = #[] := Array.eq_empty_of_size_eq_zero hs
    rw [this]; rfl
   | _ => simp [Value.isUndef] at h
  obtain ⟨hlt, he⟩ := Array.getElem?_eq_some_iff.1 hv
  cases a with
  | mk tmps defers =>
   simp only [Act.put]
   congr
   apply Array.ext
   ·simp
   ·intro i h1 h2
    by_cases e : d = i
    ·subst e
     rw [Array.getElem_setIfInBounds_self]
     rw [← hu]
     exact he.symm
    ·rw [Array.getElem_setIfInBounds_ne _ e]
theorem Seq.pass {j : Nat} (m : Nat) : ∀ {i : Nat}, i + m = j → (List.range' i m).all (idle ops a.tmps) = true → Seq P ops Q j a w → Seq P ops Q i a w := by
 induction m with
 | zero => intro i hi _ h; have e : i = j := by omega
           rw [e]; exact h
 | succ m ih =>
  intro i hi hall h
  rw [List.range'_succ, List.all_cons, Bool.and_eq_true] at hall
  obtain ⟨h1, h2⟩ := hall
  have hrest := ih (i := i + 1) (by omega) h2 h
  unfold idle at h1
  cases ho : ops[i]? with
  | none => rw [ho] at h1; simp at h1
  | some o =>
   rw [ho] at h1
   dsimp only at h1
   rw [Bool.and_eq_true] at h1
   have hw : Region.wanted o (yielded ops a.tmps) = false := by simpa using h1.1
   refine Seq.step ho fun K' hK => ?_
   rw [if_neg (by rw [hw]; simp)]
   cases hd : o.dst with
   | none => exact hK.out _ _ hrest
   | some d =>
    have h3 := h1.2
    rw [hd] at h3
    dsimp only at h3
    rw [put_undef h3]
    exact hK.out _ _ hrest
end
end Go.Proofs.YthbmfbnnemgbpaaGreatDoor
namespace Go.Proofs.YthbmfbnnemgbpaaGreatDoor
open Go Go.RowKit Go.Deep
section
variable {P : Program} {ops : Array Oper} {Q : Exit → Act → World → Prop} {w : World}
def carried (ev : Operand → Value) : Op → Option Value
 | .move x => some (ev x)
 | .assign x => some (ev x)
 | .pick c x y => match ev c with
  | .bool true => some (ev x)
  | .bool false => some (ev y)
  | _ => none
 | _ => none
theorem run_carried {a : Act} {o : Oper} {v : Value} (h : carried a.eval o.op = some v) : (execOp a.eval o).run P w = .ok (.value v) w := by
 cases o with
 | mk dst op type pos after guard =>
  cases op with
  | move x => cases h; rfl
  | assign x => cases h; rfl
  | pick c x y =>
   simp only [carried] at h
   generalize hc : a.eval c = vc at h
   cases vc with
   | bool b =>
    cases b with
    | true => cases h; simp only [execOp]; rw [hc]; rfl
    | false => cases h; simp only [execOp]; rw [hc]; rfl
   | _ => simp at h
  | _ => simp [carried] at h
def carry1 (ops : Array Oper) (a : Act) (i : Nat) : Option Act := match ops[i]? with
 | none => none
 | some o => match Region.wanted o (yielded ops a.tmps) with
  | true => match carried a.eval o.op with
   | some v => some (a.put o.dst v)
   | none => none
  | false => match idle ops a.tmps i with
   | true => some a
   | false => none
def carry (ops : Array Oper) : Nat → Nat → Act → Option Act
 | 0, _, a => some a
 | m + 1, i, a => match carry1 ops a i with
  | some a' => carry ops m (i + 1) a'
  | none => none
theorem Seq.carry1 {i : Nat} {a a' : Act} (h : carry1 ops a i = some a') (hr : Seq P ops Q (i + 1) a' w) : Seq P ops Q i a w := by
 unfold YthbmfbnnemgbpaaGreatDoor.carry1 at h
 cases ho : ops[i]? with
 | none => rw [ho] at h; simp at h
 | some o =>
  rw [ho] at h
  dsimp only at h
  cases hw : Region.wanted o (yielded ops a.tmps) with
  | true =>
   rw [hw] at h
   dsimp only at h
   cases hc : carried a.eval o.op with
   | none => rw [hc] at h; simp at h
   | some v =>
    rw [hc] at h
    dsimp only at h
    cases h
    refine Seq.step ho fun K' hK => ?_
    rw [if_pos hw]
    unfold Oper.wp
    rw [run_carried hc]
    simp only [Oper.upon]
    exact hK.out _ _ hr
  | false =>
   rw [hw] at h
   dsimp only at h
   cases hi : idle ops a.tmps i with
   | false => rw [hi] at h; simp at h
   | true =>
    rw [hi] at h
    dsimp only at h
    cases h
    exact Seq.pass 1 (i := i) (j := i + 1) rfl (by simp [hi]) hr
theorem Seq.carry (m : Nat) : ∀ {i j : Nat} {a a' : Act}, i + m = j → carry ops m i a = some a' → Seq P ops Q j a' w → Seq P ops Q i a w := by
 induction m with
 | zero => intro i j a a' hj h hr; cases h; have e : i = j := by omega
           rw [e]; exact hr
 | succ m ih =>
  intro i j a a' hj h hr
  unfold YthbmfbnnemgbpaaGreatDoor.carry at h
  cases hc : YthbmfbnnemgbpaaGreatDoor.carry1 ops a i with
  | none => rw [hc] at h; simp at h
  | some a1 =>
   rw [hc] at h
   dsimp only at h
   exact Seq.carry1 hc (ih (i := i + 1) (by omega) h hr)
theorem carry1_defers {i : Nat} {a a' : Act} (h : carry1 ops a i = some a') : a'.defers = a.defers := by
 unfold YthbmfbnnemgbpaaGreatDoor.carry1 at h
 cases ho : ops[i]? with
 | none => rw [ho] at h; simp at h
 | some o =>
  rw [ho] at h
  dsimp only at h
  cases hw : Region.wanted o (yielded ops a.tmps) with
  | true =>
   rw [hw] at h
   dsimp only at h
   cases hc : carried a.eval o.op with
   | none => rw [hc] at h; simp at h
   | some v =>
    rw [hc] at h
    dsimp only at h
    cases h
    unfold Act.put
    cases o.dst <;> rfl
  | false =>
   rw [hw] at h
   dsimp only at h
   cases hi : idle ops a.tmps i with
   | false => rw [hi] at h; simp at h
   | true =>
    rw [hi] at h
    dsimp only at h
    cases h
    rfl
theorem carry_defers (m : Nat) : ∀ {i : Nat} {a a' : Act}, carry ops m i a = some a' → a'.defers = a.defers := by
 induction m with
 | zero => intro i a a' h; cases h; rfl
 | succ m ih =>
  intro i a a' h
  unfold YthbmfbnnemgbpaaGreatDoor.carry at h
  cases hc : YthbmfbnnemgbpaaGreatDoor.carry1 ops a i with
  | none => rw [hc] at h; simp at h
  | some a1 =>
   rw [hc] at h
   dsimp only at h
   exact (ih h).trans (carry1_defers hc)
def falseAt (t : Nat) : Option Act → Bool
 | some a => match a.tmps[t]? with
  | some (.bool b) => !b
  | _ => false
 | none => false
theorem Seq.falls (t m : Nat) {i : Nat} {a : Act} (hm : i + m = ops.size) (h : falseAt t (YthbmfbnnemgbpaaGreatDoor.carry ops m i a) = true)
 (hr : ∀ T : Array Value, T[t]? = some (.bool false) → Q .normal ⟨T, a.defers⟩ w) : Seq P ops Q i a w := by
 cases hc : YthbmfbnnemgbpaaGreatDoor.carry ops m i a with
 | none => rw [hc] at h; simp [falseAt] at h
 | some a' =>
  rw [hc] at h
  have hd := carry_defers m hc
  refine Seq.carry m hm hc (Seq.done (Nat.le_refl _) ?_)
  have hT : a'.tmps[t]? = some (.bool false) := by
   unfold falseAt at h
   dsimp only at h
   split at h
   ·rename_i b hb
    cases b with
    | true => simp at h
    | false => exact hb
   ·simp at h
  have := hr a'.tmps hT
  rw [← hd] at this
  exact this
theorem ret_falls {T : Array Value} {D : List Deferred} {t : Nat} {x : Bool} (hT : T[t]? = some (.bool false)) (hx : x = false) : Ending.returned (({ tmps := T, defers := D } : Act).tmps.getD t undef) = Ending.returned (.bool x) := by
 subst hx
 simp [Array.getD_eq_getD_getElem?, hT]
end
end Go.Proofs.YthbmfbnnemgbpaaGreatDoor
