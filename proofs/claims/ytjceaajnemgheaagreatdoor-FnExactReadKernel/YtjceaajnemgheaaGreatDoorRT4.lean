/- The reader of the program: what is needed for objects. -/
import Derived.Test.YtjceaajnemgheaaGreatDoorRT3
import Derived.Test.YtjceaajnemgheaaGreatDoorRS5
namespace Go.Proofs.YtjceaajnemgheaaGreatDoor
open Go Go.RowKit Go.Deep Go.Maps

theorem step_call1p {ops : Array Oper} {o : Oper} {a : Act} {w : World} {K : Act → World → Prop} {Q : Exit → Act → World → Prop} {E : Prop} (hw : Region.wanted o (yielded ops a.tmps) = true) (f : Nat) (x : Operand) (ats : Array TypeId)
    (ho : o.op = .call { callee := .value (.func f), args := #[x], argTypes := ats }) (eg : ∀ args w, (callFunc f args).run Tryz.prog w = .ok (.enter f args) w) (v0 : Value) (hv : a.eval x = v0)
    (d : Option Nat) (hd : o.dst = d) (R : Value → World → Prop) (T : List PanicEntry → World → Prop) (hc : Calls Tryz.prog f #[v0] w fun e w' => (∃ v, e = .returned v ∧ R v w') ∨ (∃ c, e = .panicked c ∧ T c w')) (h : ∀ v w', R v w' → K (a.put d v) w') (hp : ∀ c w', T c w' → Q (.panic c) a w') :
    if Region.wanted o (yielded ops a.tmps) = true then Oper.wp Tryz.prog o a w K Q else E := by
  rw [if_pos hw]
  have e : (execOp a.eval o).run Tryz.prog w = .ok (.enter f #[v0]) w := by
    unfold execOp
    simp only [ho, resolve, invoke, Sem.run_bind, List.map_toArray, List.map_cons, List.map_nil, hv]
    simp [go_sem, eg, Act.eval]
  unfold Oper.wp
  rw [e, Oper.upon_enter]
  refine hc.mono fun e w' hh => ?_
  rcases hh with ⟨v, rfl, hr⟩ | ⟨c, rfl, ht⟩
  · rw [hd]; exact h v w' hr
  · exact hp c w' ht
theorem owns_ne {w : World} {B1 B2 t1 t2 s1 s2 n1 n2 : Nat} {v1 v2 : Value} {c1 c2 : List Value} (h1 : w.ownsRow B1 t1 s1 v1 n1 c1) (h2 : w.ownsRow B2 t2 s2 v2 n2 c2) (ht : t1 ≠ t2) : v1.ownBlock = none ∨ v1.ownBlock ≠ v2.ownBlock := by
  rcases h1.2 with ⟨rfl, _⟩ | ⟨g, cap, cur, rfl, _, hg, _⟩
  · exact .inl rfl
  · refine .inr (fun e => ?_)
    rcases h2.2 with ⟨rfl, _⟩ | ⟨g', cap', cur', rfl, _, hg', _⟩
    · cases e
    · have : g = g' := Option.some.inj e
      subst this
      rw [hg'] at hg
      simp only [Option.some.injEq, Obj.cells.injEq, and_true] at hg
      exact ht hg.2.symm
theorem grown_hi {a b c : World} {row : Option Nat} {P : Nat} (h : a.grownBy b row) (k : b.grownBy c (some P)) (hP : a.heap.size ≤ P) : a.grownBy c row :=
  ⟨k.os.trans h.os, k.tape.trans h.tape, k.output.trans h.output, Nat.le_trans h.size k.size, fun j hj hne => (k.block j (Nat.lt_of_lt_of_le hj h.size) (fun e => by have := Option.some.inj e; omega)).trans (h.block j hj hne)⟩
theorem OwnS.past {w w' : World} {B P : Nat} {v : Value} {l : List (List UInt8)} (h : OwnS w B v l) (hg : w.grownBy w' (some P)) (hP : P < B) : OwnS w' B v l := by
  refine ⟨h.1, ?_⟩
  rcases h.2 with hn | ⟨g, cap, cur, hv, hbg, hgg, rest⟩
  · exact .inl hn
  · exact .inr ⟨g, cap, cur, hv, hbg, (hg.block g (Array.getElem?_eq_some_iff.1 hgg).1 (fun e => by have := Option.some.inj e; omega)).trans hgg, rest⟩
structure OSt (u : TypeId) (pv : Value) (W wr : World) (rb ob : Nat) (x0 x1 x2 b1 b2 : Int) (v1 v2 vn iv : Value) (l1 l2 : List (Int × Int)) (ows : List Int) (dat : List UInt8) (is : List (List UInt8)) (Q : List UInt8) : Prop where
  z : Blk wr W.heap.size (.cells #[.int .i64 0, .int .i64 0, .int .i64 0, .int .i64 0, .slice none 0 0, .string (ByteArray.mk #[]), .slice none 0 0, .slice none 0 0, .int .i64 0, .slice none 0 0] 45)
  b : Blk wr ob (.cells #[.int .i64 x0, .int .i64 x1, .int .i64 x2, .int .i64 b1, v1, .string (bytesOf dat), iv, vn, .int .i64 b2, v2] 45)
  o : W.heap.size < ob
  l1 : OwnList wr W.heap.size v1 l1
  l2 : OwnList wr W.heap.size v2 l2
  n : OwnN wr W.heap.size vn ows
  s : OwnS wr W.heap.size iv is
  r : Rdr wr rb Q
  e : Err u pv wr
  g : W.grownBy wr (some rb)
section
variable {u : TypeId} {pv : Value} {W wr w' : World} {rb ob : Nat} {x0 x1 x2 b1 b2 : Int} {v1 v2 vn iv : Value} {l1 l2 : List (Int × Int)} {ows : List Int} {dat : List UInt8} {is : List (List UInt8)} {Q Q' : List UInt8}
theorem OSt.read (h : OSt u pv W wr rb ob x0 x1 x2 b1 b2 v1 v2 vn iv l1 l2 ows dat is Q) (hg : wr.grownBy w' (some rb)) (hR : Rdr w' rb Q') (hr : rb < W.heap.size) (h0 : rb ≠ 0) : OSt u pv W w' rb ob x0 x1 x2 b1 b2 v1 v2 vn iv l1 l2 ows dat is Q' :=
  ⟨h.z.grown hg (fun e => by have := Option.some.inj e; omega), h.b.grown hg (fun e => by have := Option.some.inj e; have := h.o; omega), h.o, OwnList.past h.l1 hg hr, OwnList.past h.l2 hg hr, OwnN.past h.n hg hr, OwnS.past h.s hg hr, hR, h.e.grown hg h0, grown_same h.g hg⟩
theorem OSt.below (h : OSt u pv W wr rb ob x0 x1 x2 b1 b2 v1 v2 vn iv l1 l2 ows dat is Q) (hb : Below wr.heap.size wr w') : OSt u pv W w' rb ob x0 x1 x2 b1 b2 v1 v2 vn iv l1 l2 ows dat is Q :=
  ⟨h.z.below hb, h.b.below hb, h.o, OwnList.below h.l1 hb, OwnList.below h.l2 hb, h.n.below hb, h.s.below hb, h.r.below hb, h.e.below hb, grown_same h.g (belowOnly hb _)⟩
theorem OSt.item {p : List UInt8} {iv' : Value} (h : OSt u pv W wr rb ob x0 x1 x2 b1 b2 v1 v2 vn iv l1 l2 ows dat is Q) (hg : wr.grownBy w' iv.ownBlock) (hO : OwnS w' W.heap.size iv' (is ++ [p])) (hr : rb < W.heap.size) (hW : 0 < W.heap.size) :
    Blk w' ob (.cells #[.int .i64 x0, .int .i64 x1, .int .i64 x2, .int .i64 b1, v1, .string (bytesOf dat), iv, vn, .int .i64 b2, v2] 45) ∧ OSt u pv W (w'.setCell ⟨ob, 6, none⟩ iv') rb ob x0 x1 x2 b1 b2 v1 v2 vn iv' l1 l2 ows dat (is ++ [p]) Q := by
  have low := own_low h.s
  have ib : iv.ownBlock ≠ some rb := fun e => by have := low rb e; omega
  have kb := kept9 h.s hg h.b (by decide)
  have kz := kept9 h.s hg h.z (by decide)
  have kr := kept9 h.s hg h.r (by decide)
  have B1 : Blk w' ob (.cells #[.int .i64 x0, .int .i64 x1, .int .i64 x2, .int .i64 b1, v1, .string (bytesOf dat), iv, vn, .int .i64 b2, v2] 45) := kb.trans h.b
  have G1 : W.grownBy w' (some rb) := ⟨hg.os.trans h.g.os, hg.tape.trans h.g.tape, hg.output.trans h.g.output, Nat.le_trans h.g.size hg.size, fun j hj hne => (hg.block j (Nat.lt_of_lt_of_le hj h.g.size) (fun e => by have := low j (by first | exact e | exact e.symm); omega)).trans (h.g.block j hj hne)⟩
  have a1 : OwnList w' W.heap.size v1 l1 := World.ownsRow.kept h.l1 hg (owns_ne h.l1 h.s (by decide))
  have a2 : OwnList w' W.heap.size v2 l2 := World.ownsRow.kept h.l2 hg (owns_ne h.l2 h.s (by decide))
  have a3 : OwnN w' W.heap.size vn ows := World.ownsRow.kept h.n hg (owns_ne h.n h.s (by decide))
  have oo := h.o
  have ap : ∀ {B ty sz n : Nat} {v : Value} {cs : List Value}, w'.ownsRow B ty sz v n cs → ty ≠ 45 → ¬ v.ownBlock = some ob := fun {B ty sz n v cs} ho ht e => by
    rcases ho.2 with ⟨rfl, _⟩ | ⟨g, cap, cur, rfl, _, hg', _⟩
    · cases e
    · have : g = ob := Option.some.inj e
      subst this
      unfold Blk at B1
      rw [hg'] at B1
      simp only [Option.some.injEq, Obj.cells.injEq, and_true] at B1
      exact ht B1.2
  have lset : ∀ {v : Value} {l : List (Int × Int)}, OwnList w' W.heap.size v l → OwnList (w'.setCell ⟨ob, 6, none⟩ iv') W.heap.size v l := fun {v l} ho => by
    refine ⟨ho.1, ?_⟩
    have hne := ap ho (by decide)
    rcases ho.2 with hn | ⟨g, cap, cur, hv, hbg, hgg, rest⟩
    · exact .inl hn
    · exact .inr ⟨g, cap, cur, hv, hbg, (Below.heap_setCell _ _ _ _ (fun e => hne (by rw [hv]; show some g = some ob; rw [e]))).trans hgg, rest⟩
  refine ⟨B1, ⟨Blk.other (kz.trans h.z) (by omega) _, B1.setAt (i := 6) iv', h.o, lset a1, lset a2, a3.other (ap a3 (by decide)) _, hO.other (ap hO (by decide)) _, Blk.other (kr.trans h.r) (by omega) _, ⟨?_, ?_⟩, grown_new G1 (by omega) _ _⟩⟩
  · have e0 : w'.heap[0]? = wr.heap[0]? := hg.block 0 h.e.2 (fun e => by have := low 0 (by first | exact e | exact e.symm); omega)
    have e1 : (w'.setCell ⟨ob, 6, none⟩ iv').heap[0]? = w'.heap[0]? := Below.heap_setCell _ _ _ _ (by show 0 ≠ ob; omega)
    rw [← h.e.1]
    unfold World.cell?
    rw [e1, e0]
  · have := h.e.2
    have := hg.size
    simp only [nblk_setCell]
    omega
end
theorem strI_fuel : ∀ (n m : Nat) (is : List (List UInt8)) (R : List UInt8), R.length < n → R.length < m → strI n is R = strI m is R
  | 0, _, _, _, h, _ => by omega
  | _, 0, _, _, _, h => by omega
  | n + 1, m + 1, is, R, h1, h2 => by
    rw [strI, strI]
    cases ht : takesL itmW R with
    | none => rfl
    | some Q =>
      have := takes_len ht
      have := @cut10_len Q
      simp only
      rw [strI_fuel n m _ _ (by omega) (by omega)]
def sI (is : List (List UInt8)) (R : List UInt8) : Option (List (List UInt8) × List UInt8) := strI (R.length + 1) is R
theorem sI_end {is : List (List UInt8)} {R : List UInt8} (h : takesL itmW R = none) : sI is R = some (is, R) := by unfold sI; rw [strI, h]
theorem sI_open {is : List (List UInt8)} {R Q : List UInt8} (h : takesL itmW R = some Q) (hf : (cutL 10 Q).2.2 = false) : sI is R = none := by unfold sI; rw [strI, h]; simp [hf]
theorem sI_more {is : List (List UInt8)} {R Q : List UInt8} (h : takesL itmW R = some Q) (hf : (cutL 10 Q).2.2 = true) : sI is R = sI (is ++ [(cutL 10 Q).1]) (cutL 10 Q).2.1 := by
  have e : sI is R = strI R.length (is ++ [(cutL 10 Q).1]) (cutL 10 Q).2.1 := by
    unfold sI
    rw [strI, h]
    simp only
    rw [if_pos hf]
  rw [e]
  have := takes_len h
  have := @cut10_len Q
  exact strI_fuel _ _ _ _ (by omega) (Nat.lt_succ_self _)
theorem objS_out {ws : List (List UInt8)} {d : OD} (h : objS ws = some d) : ∃ a b c e f r, ws = a :: b :: c :: e :: f :: r ∧ okD a = true ∧ okD b = true ∧ okD c = true ∧ (readL e).2.2 = true ∧ (readL f).2.2 = true ∧ r.all okD = true := by
  unfold objS at h
  split at h
  · rename_i hh
    obtain ⟨n, h0, h1, h2, h3, h4, h5⟩ := hh
    match ws, n with
    | w0 :: w1 :: w2 :: w3 :: w4 :: r, _ => exact ⟨w0, w1, w2, w3, w4, r, rfl, h0, h1, h2, h3, h4, h5⟩
  · cases h
theorem objS_in {a b c e f : List UInt8} {r : List (List UInt8)} (h0 : okD a = true) (h1 : okD b = true) (h2 : okD c = true) (h3 : (readL e).2.2 = true) (h4 : (readL f).2.2 = true) (h5 : r.all okD = true) : objS (a :: b :: c :: e :: f :: r) = some ⟨numM a, numM b, numM c, (readL e).1, (readL e).2.1, (readL f).1, (readL f).2.1, r.map numM, [], []⟩ := by
  unfold objS
  rw [if_pos ⟨by simp, h0, h1, h2, h3, h4, h5⟩]
  rfl
theorem objS_none {ws : List (List UInt8)} (h : ∀ a b c e f r, ws = a :: b :: c :: e :: f :: r → okD a = true → okD b = true → okD c = true → (readL e).2.2 = true → (readL f).2.2 = true → r.all okD = true → False) : objS ws = none := by
  cases hs : objS ws with
  | none => rfl
  | some d =>
    obtain ⟨a, b, c, e, f, r, h0, h1, h2, h3, h4, h5, h6⟩ := objS_out hs
    exact absurd (h a b c e f r h0 h1 h2 h3 h4 h5 h6) (fun x => x)
theorem strOb_q {R Q : List UInt8} (h : takesL objW R = some Q) (hf : (cutL 10 Q).2.2 = true) : strOb R = match objS (wordsL (cutL 10 Q).1) with
    | none => none
    | some o => match strDa (cutL 10 Q).2.1 with
      | none => none
      | some d => match sI [] d.2 with
        | none => none
        | some i => some ({ o with data := d.1, items := i.1 }, i.2) := by
  unfold strOb
  rw [h]
  simp only
  rw [if_pos hf]
  rfl
theorem strOb_no1 {R : List UInt8} (h : takesL objW R = none) : strOb R = none := by unfold strOb; rw [h]
theorem strOb_no2 {R Q : List UInt8} (h : takesL objW R = some Q) (hf : (cutL 10 Q).2.2 = false) : strOb R = none := by unfold strOb; rw [h]; simp [hf]
theorem results32 (tmps : Array Value) (W : World) (P : Nat) (x0 x1 x2 x3 x4 x5 x6 x7 x8 x9 : Value) (h : Blk W P (.cells #[x0, x1, x2, x3, x4, x5, x6, x7, x8, x9] 45)) (h2 : tmps[2]? = some (.pointer (some ⟨P, 0, none⟩))) :
    (results Tryz.f32 tmps).run Tryz.prog W = .ok (.agg #[x0, x1, x2, x3, x4, x5, x6, x7, x8, x9]) W := by
  obtain ⟨z0, z1, z2, z3, z4, z5, z6, z7, z8, z9⟩ := h.ten
  simp [results, Tryz.results32, go_sem, h2, z0, z1, z2, z3, z4, z5, z6, z7, z8, z9]
end Go.Proofs.YtjceaajnemgheaaGreatDoor
