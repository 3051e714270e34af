/- Copies that the program makes: threads. -/
import Derived.Test.YtjceaajnemgheaaGreatDoorZ11
import Derived.Shelf.Abstract
import Derived.Test.YtjceaajnemgheaaGreatDoorZ2
import Derived.Test.YtjceaajnemgheaaGreatDoorZ8
import Derived.Test.YtjceaajnemgheaaGreatDoorProg
import Derived.Shelf.SortM.Plain
import Derived.Shelf.SortM.SortNone
import Derived.Ground.SlgmProg
namespace Go.Proofs.YtjceaajnemgheaaGreatDoor
open Go Go.RowKit Go.Deep Go.Maps Go.BigFrame Go.Shelf

theorem step_call {ops : Array Oper} {o : Oper} {a : Act} {w : World} {K : Act → World → Prop} {Q : Exit → Act → World → Prop} {E : Prop} (hgd : o.guard = none) (f : Nat) (x : Operand) (ats : Array TypeId)
    (ho : o.op = .call { callee := .value (.func f), args := #[x], argTypes := ats }) (eg : ∀ args w, (callFunc f args).run Tryz.prog w = .ok (.enter f args) w) (v0 : Value) (hv : a.eval x = v0)
    (R : Value → World → Prop) (hc : Calls Tryz.prog f #[v0] w fun e w' => ∃ v, e = .returned v ∧ R v w') (h : ∀ v w', R v w' → K (a.put o.dst v) w') :
    if Region.wanted o (yielded ops a.tmps) = true then Oper.wp Tryz.prog o a w K Q else E := by
  have hw : Region.wanted o (yielded ops a.tmps) = true := by simp [Region.wanted, hgd]
  rw [if_pos hw]
  have e : (execOp a.eval o).run Tryz.prog w = .ok (.enter f #[v0]) w := by
    unfold execOp
    simp only [ho, resolve, invoke, Sem.run_bind, List.map_toArray, List.map_cons, List.map_nil, hv]
    simp [go_sem, eg, Act.eval]
  unfold Oper.wp
  rw [e, Oper.upon_enter]
  exact hc.mono fun e w' ⟨v, he, hr⟩ => by subst he; exact h v w' hr
def ThrV.new (B : Nat) (w : World) (t : ThrV) : Prop := t.c1.new B w ∧ t.c2.new B w ∧ t.own.new B w
def ThrV.apart (t : ThrV) : Prop := ∀ b b', t.c1.a = some ⟨b, 0, none⟩ → 0 < t.c1.n → t.c2.a = some ⟨b', 0, none⟩ → 0 < t.c2.n → b ≠ b'
theorem Blk.seven {W : World} {P t : Nat} {x0 x1 x2 x3 x4 x5 x6 : Value} (h : Blk W P (.cells #[x0, x1, x2, x3, x4, x5, x6] t)) : W.cell? ⟨P, 0, none⟩ = some x0 ∧ W.cell? ⟨P, 1, none⟩ = some x1 ∧ W.cell? ⟨P, 2, none⟩ = some x2 ∧ W.cell? ⟨P, 3, none⟩ = some x3 ∧ W.cell? ⟨P, 4, none⟩ = some x4 ∧ W.cell? ⟨P, 5, none⟩ = some x5 ∧ W.cell? ⟨P, 6, none⟩ = some x6 := by
  unfold Blk at h
  simp [World.cell?, h]

theorem Blk.all7 {W : World} {P t : Nat} {z0 z1 z2 z3 z4 z5 z6 : Value} (h : Blk W P (.cells #[z0, z1, z2, z3, z4, z5, z6] t)) (x0 x1 x2 x3 x4 x5 x6 : Value) :
    Blk (((((((W.setCell ⟨P, 0, none⟩ x0).setCell ⟨P, 1, none⟩ x1).setCell ⟨P, 2, none⟩ x2).setCell ⟨P, 3, none⟩ x3).setCell ⟨P, 4, none⟩ x4).setCell ⟨P, 5, none⟩ x5).setCell ⟨P, 6, none⟩ x6) P (.cells #[x0, x1, x2, x3, x4, x5, x6] t) := by
  have h0 : Blk (W.setCell ⟨P, 0, none⟩ x0) P (.cells #[x0, z1, z2, z3, z4, z5, z6] t) := h.setAt (i := 0) x0
  have h1 : Blk ((W.setCell ⟨P, 0, none⟩ x0).setCell ⟨P, 1, none⟩ x1) P (.cells #[x0, x1, z2, z3, z4, z5, z6] t) := h0.setAt (i := 1) x1
  have h2 : Blk (((W.setCell ⟨P, 0, none⟩ x0).setCell ⟨P, 1, none⟩ x1).setCell ⟨P, 2, none⟩ x2) P (.cells #[x0, x1, x2, z3, z4, z5, z6] t) := h1.setAt (i := 2) x2
  have h3 : Blk ((((W.setCell ⟨P, 0, none⟩ x0).setCell ⟨P, 1, none⟩ x1).setCell ⟨P, 2, none⟩ x2).setCell ⟨P, 3, none⟩ x3) P (.cells #[x0, x1, x2, x3, z4, z5, z6] t) := h2.setAt (i := 3) x3
  have h4 : Blk (((((W.setCell ⟨P, 0, none⟩ x0).setCell ⟨P, 1, none⟩ x1).setCell ⟨P, 2, none⟩ x2).setCell ⟨P, 3, none⟩ x3).setCell ⟨P, 4, none⟩ x4) P (.cells #[x0, x1, x2, x3, x4, z5, z6] t) := h3.setAt (i := 4) x4
  have h5 : Blk ((((((W.setCell ⟨P, 0, none⟩ x0).setCell ⟨P, 1, none⟩ x1).setCell ⟨P, 2, none⟩ x2).setCell ⟨P, 3, none⟩ x3).setCell ⟨P, 4, none⟩ x4).setCell ⟨P, 5, none⟩ x5) P (.cells #[x0, x1, x2, x3, x4, x5, z6] t) := h4.setAt (i := 5) x5
  exact h5.setAt (i := 6) x6

end Go.Proofs.YtjceaajnemgheaaGreatDoor
namespace Go.Proofs.YtjceaajnemgheaaGreatDoor
open Go Go.RowKit Go.Deep

def idxI : Option Nat → Int
  | none => -1
  | some j => j
theorem findI_first {ids : Nat → Int} {n k : Nat} {x : Int} (hk : k < n) (he : ids k = x) (h : ∀ j, j < k → ids j ≠ x) : findI ids n x = some k := by
  unfold findI
  rw [List.find?_range_eq_some]
  exact ⟨by simpa using he, List.mem_range.2 hk, fun j hj => by simpa using h j hj⟩
theorem findI_no {ids : Nat → Int} {n : Nat} {x : Int} (h : ∀ j, j < n → ids j ≠ x) : findI ids n x = none := by
  unfold findI
  rw [List.find?_eq_none]
  intro j hj
  simpa using h j (List.mem_range.1 hj)

set_option maxRecDepth 100000 in
set_option maxHeartbeats 2000000 in
theorem l3Find_any (k : KerV) (x : Int) (w : World) (hk : k.at w) :
    Calls Tryz.prog 48 #[k.val, .int .i64 x] w fun e w' => e = .returned (.int .i64 (idxI (findI (fun i => (k.O i).id) k.on x))) ∧ Below w.heap.size w w' := by
  have hb0 := (Below.refl _ w).alloc (Nat.le_refl _) (.cells #[.slice k.ta k.tn k.tk, .slice k.oa k.on k.ok] 25)
  have A0 := Blk.new w (.cells #[.slice k.ta k.tn k.tk, .slice k.oa k.on k.ok] 25)
  have HT := hid (hk.below hb0)
  have hn := hk.2.1
  unfold maxLen at hn
  unfold KerV.val
  obtain ⟨x0, x1⟩ := A0.two
  clear hk A0
  go_enter Tryz.func48, Tryz.ntmps48
  go_wp2
  generalize w.alloc (.cells #[.slice k.ta k.tn k.tk, .slice k.oa k.on k.ok] 25) = W at *
  go_loop [5] (fun i => ∃ q : Nat, q ≤ k.on ∧ i = .int .i64 q ∧ Hid (∀ j, j < q → (k.O j).id ≠ x)) (fun i => k.on - (intOf i).toNat)
  case atStart => exact ⟨0, Nat.zero_le _, rfl, hid (fun j hj => by omega)⟩
  case round =>
    obtain ⟨q, hq, rfl, HA⟩ := hrel
    by_cases hlt : q < k.on
    · obtain ⟨b, off, ea, _, hcc⟩ := HT.out.2.2.2 (by omega)
      have q0 := (hcc q hlt).1.c0
      have i1 : (q : Int) < (k.on : Int) := by omega
      rw [ea] at x1
      clear hcc ea
      by_cases e : (k.O q).id = x
      · have HF := hid (findI_first (ids := fun i => (k.O i).id) hlt e HA.out)
        have e' : ((k.O q).id == x) = true := by simpa using e
        clear e HA
        go_wp2
        go_ret
        exact ⟨ret_int (by rw [HF.out]; rfl), hb0⟩
      · have e' : ((k.O q).id == x) = false := by simpa using e
        have HA2 : Hid (∀ j, j < q + 1 → (k.O j).id ≠ x) := hid (fun j hj => by
          by_cases ej : j = q
          · subst ej; exact e
          · exact HA.out j (by omega))
        clear e HA
        go_wp2
        exact ⟨⟨q + 1, by omega, by go_num, HA2⟩, by simp [intOf]; omega⟩
    · have i1 : ¬ (q : Int) < (k.on : Int) := by omega
      have HF := hid (findI_no (ids := fun i => (k.O i).id) (n := k.on) (x := x) (fun j hj => HA.out j (by omega)))
      clear HA
      go_wp2
      go_ret
      exact ⟨ret_int (by rw [HF.out]; rfl), hb0⟩

set_option maxRecDepth 100000 in
set_option maxHeartbeats 2000000 in
theorem l3Thread_any (k : KerV) (x : Int) (w : World) (hk : k.at w) :
    Calls Tryz.prog 47 #[k.val, .int .i64 x] w fun e w' => e = .returned (.int .i64 (idxI (findI (fun i => (k.T i).id) k.tn x))) ∧ Below w.heap.size w w' := by
  have hb0 := (Below.refl _ w).alloc (Nat.le_refl _) (.cells #[.slice k.ta k.tn k.tk, .slice k.oa k.on k.ok] 25)
  have A0 := Blk.new w (.cells #[.slice k.ta k.tn k.tk, .slice k.oa k.on k.ok] 25)
  have HT := hid (hk.below hb0)
  have hn := hk.1
  unfold maxLen at hn
  unfold KerV.val
  obtain ⟨x0, x1⟩ := A0.two
  clear hk A0
  go_enter Tryz.func47, Tryz.ntmps47
  go_wp2
  generalize w.alloc (.cells #[.slice k.ta k.tn k.tk, .slice k.oa k.on k.ok] 25) = W at *
  go_loop [5] (fun i => ∃ q : Nat, q ≤ k.tn ∧ i = .int .i64 q ∧ Hid (∀ j, j < q → (k.T j).id ≠ x)) (fun i => k.tn - (intOf i).toNat)
  case atStart => exact ⟨0, Nat.zero_le _, rfl, hid (fun j hj => by omega)⟩
  case round =>
    obtain ⟨q, hq, rfl, HA⟩ := hrel
    by_cases hlt : q < k.tn
    · obtain ⟨b, off, ea, _, hcc⟩ := HT.out.2.2.1 (by omega)
      have q0 := (hcc q hlt).1.c0
      have i1 : (q : Int) < (k.tn : Int) := by omega
      rw [ea] at x0
      clear hcc ea
      by_cases e : (k.T q).id = x
      · have HF := hid (findI_first (ids := fun i => (k.T i).id) hlt e HA.out)
        have e' : ((k.T q).id == x) = true := by simpa using e
        clear e HA
        go_wp2
        go_ret
        exact ⟨ret_int (by rw [HF.out]; rfl), hb0⟩
      · have e' : ((k.T q).id == x) = false := by simpa using e
        have HA2 : Hid (∀ j, j < q + 1 → (k.T j).id ≠ x) := hid (fun j hj => by
          by_cases ej : j = q
          · subst ej; exact e
          · exact HA.out j (by omega))
        clear e HA
        go_wp2
        exact ⟨⟨q + 1, by omega, by go_num, HA2⟩, by simp [intOf]; omega⟩
    · have i1 : ¬ (q : Int) < (k.tn : Int) := by omega
      have HF := hid (findI_no (ids := fun i => (k.T i).id) (n := k.tn) (x := x) (fun j hj => HA.out j (by omega)))
      clear HA
      go_wp2
      go_ret
      exact ⟨ret_int (by rw [HF.out]; rfl), hb0⟩
end Go.Proofs.YtjceaajnemgheaaGreatDoor
namespace Go.Proofs.YtjceaajnemgheaaGreatDoor
open Go Go.RowKit Go.Deep Go.Maps

def walkFn (N : Nat) : Value := .func (.func 84) #[] #[.pointer (some ⟨N + 1, 0, none⟩), .pointer (some ⟨N, 0, none⟩), .pointer (some ⟨N + 1 + 1, 0, none⟩)]
structure Walk (w0 : World) (c : Nat) (w : World) (v : Value) (l : List Int) : Prop where
  b : Below w0.heap.size w0 w
  q : Blk w w0.heap.size (.cells #[.map (some c)] 99)
  p : Blk w (w0.heap.size + 1) (.cells #[v] 35)
  r : Blk w (w0.heap.size + 1 + 1) (.cells #[walkFn w0.heap.size] 111)
  o : OwnI w (w0.heap.size + 1 + 1 + 1) v l

theorem Blk.grown {w w' : World} {P : Nat} {o : Obj} {row : Option Nat} (h : Blk w P o) (hg : w.grownBy w' row) (hne : some P ≠ row) : Blk w' P o := (hg.block P h.lt hne).trans h
theorem Walk.push {w0 w w' : World} {c : Nat} {v v' : Value} {l : List Int} {x : Int} (h : Walk w0 c w v l) (ho : OwnI w' (w0.heap.size + 1 + 1 + 1) v' (l ++ [x])) (hg : (w.alloc (.cells #[.int .i64 x] 2)).grownBy w' v.ownBlock) :
    Walk w0 c (w'.setCell ⟨w0.heap.size + 1, 0, none⟩ v') v' (l ++ [x]) := by
  have b1 : Below w.heap.size w (w.alloc (.cells #[.int .i64 x] 2)) := (Below.refl _ w).alloc (Nat.le_refl _) _
  have hne : ∀ k, k < w0.heap.size + 1 + 1 + 1 → some k ≠ v.ownBlock := fun k hk e => by have := (World.ownsRow.lt h.o k e.symm).1; omega
  have p1 := (h.p.below b1).grown hg (hne _ (by omega))
  have q1 := (h.q.below b1).grown hg (hne _ (by omega))
  have r1 := (h.r.below b1).grown hg (hne _ (by omega))
  refine ⟨?_, q1.other (by omega) _, ?_, r1.other (by omega) _, ?_⟩
  · exact ((h.b.trans (b1.mono h.b.size)).trans (below_grown hg (by have := h.q.lt; simp; omega) (fun j hj => by have := (World.ownsRow.lt h.o j hj).1; omega))).setCell (by dsimp only; omega) _
  · simpa using p1.setAt (i := 0) v'
  · exact World.ownsRow.kept ho (row := some (w0.heap.size + 1)) ⟨rfl, rfl, rfl, by rw [nblk_setCell]; exact Nat.le_refl _, fun j hj hne => blk_setCell_other _ _ _ _ (by dsimp only; intro e; exact hne (by rw [e]))⟩ (.inr (fun e => by have := (World.ownsRow.lt ho _ e).1; omega))

theorem kidsTo_map (ids ups : Nat → Int) (n i : Nat) : kidsTo ids ups n i = (kidsI ids ups n i).map ids := rfl
theorem flat_len (l : List Nat) (f : Nat → List Nat) (j : Nat) (hj : j < l.length) : ((l.take j).flatMap f).length + (f l[j]).length ≤ (l.flatMap f).length := by
  have e : l = l.take j ++ (l[j] :: l.drop (j + 1)) := by simp
  have : l.flatMap f = (l.take j).flatMap f ++ (f l[j] ++ (l.drop (j + 1)).flatMap f) := by
    conv => lhs; rw [e]
    rw [List.flatMap_append, List.flatMap_cons]
  rw [this, List.length_append, List.length_append]
  omega

set_option maxRecDepth 100000 in
set_option maxHeartbeats 4000000 in
theorem walk_any (w0 : World) (B c n : Nat) (ids ups : Nat → Int) (ob off : Nat) (nb : Nat → Nat) (kv : Nat → Value) (hN : Nodes w0 B c n ids ob off nb kv (kidsTo ids ups n)) (hr : Rises ids n) (h0 : ∀ j, j < n → ids j ≠ ups 0)
    (hw : ∀ i, i < n → (Lit.int .i64 (ids i)).wf = true) (hn : n ≤ 271) (f : Nat) :
    ∀ (i : Nat) (l : List Int) (v : Value) (w : World), i < n → (∀ j m, j < n → parIt ids ups n m j = some i → m < f) → l.length + (preI ids ups n f i).length ≤ 271 → Walk w0 c w v l →
      Calls Tryz.prog 84 #[.int .i64 (ids i), .pointer (some ⟨w0.heap.size + 1, 0, none⟩), .pointer (some ⟨w0.heap.size, 0, none⟩), .pointer (some ⟨w0.heap.size + 1 + 1, 0, none⟩)] w fun e w' =>
        ∃ v', e = .returned (.tuple #[]) ∧ Walk w0 c w' v' (l ++ (preI ids ups n f i).map ids) := by
  have HN := hid hN
  have HR := hid hr
  have H0 := hid h0
  have HW := hid hw
  clear hN hr h0 hw
  induction f with
  | zero => intro i l v w hi hh; exact absurd (hh i 0 hi rfl) (by omega)
  | succ f ih =>
    intro i l v w hi hh hl hk
    have IH := hid ih
    have HH := hid hh
    have HK := hid hk
    have hlen : l.length + 1 ≤ 271 := by simp [preI] at hl; omega
    have HL := hid hl
    clear ih hh hk hl
    have x1 : _ = some v := HK.out.p.c0 0 rfl
    have L1 := hid (NumL.one (w := w) (ids i))
    have b1 : Below w.heap.size w (w.alloc (.cells #[.int .i64 (ids i)] 2)) := (Below.refl _ w).alloc (Nat.le_refl _) _
    have O1 : Hid (OwnI (w.alloc (.cells #[.int .i64 (ids i)] 2)) (w0.heap.size + 1 + 1 + 1) v l) := hid (OwnI.alloc HK.out.o _)
    have hs := HK.out.r.lt
    have s1 : w0.heap.size + 1 + 1 + 1 ≤ (w.alloc (.cells #[.int .i64 (ids i)] 2)).heap.size := by simp; omega
    have P1 : Hid (∀ w' : World, (w.alloc (.cells #[.int .i64 (ids i)] 2)).grownBy w' v.ownBlock → Blk w' (w0.heap.size + 1) (.cells #[v] 35)) := hid (fun w' hg => (HK.out.p.below b1).grown hg (fun e => by have := (World.ownsRow.lt HK.out.o _ e.symm).1; omega))
    clear b1
    obtain ⟨ka, kc, hkv⟩ := ownsRow_shape (HN.out.own i hi)
    have KV := hid hkv
    clear hkv
    have D3 : Hid (∀ (a3 : Option Addr) (c3 : Nat) (w3 : World), OwnI w3 (w0.heap.size + 1 + 1 + 1) (.slice a3 (l ++ [ids i]).length c3) (l ++ [ids i]) → (w.alloc (.cells #[.int .i64 (ids i)] 2)).grownBy w3 v.ownBlock →
        Walk w0 c (w3.setCell ⟨w0.heap.size + 1, 0, none⟩ (.slice a3 (l.length + 1) c3)) (.slice a3 (l.length + 1) c3) (l ++ [ids i])) := hid (fun a3 c3 w3 o3 g3 => HK.out.push (by simpa using o3) g3)
    have E3 : Hid (∀ (W : World) (v' : Value) (l' : List Int), Walk w0 c W v' l' → W.cell? ⟨w0.heap.size, 0, none⟩ = some (.map (some c)) ∧ (Instr.lookup 99 (.map (some c)) (.int .i64 (ids i)) false).run Tryz.prog W = .ok (.pointer (some ⟨nb i, 0, none⟩)) W ∧ W.cell? ⟨nb i, 1, none⟩ = some (.slice ka (kidsTo ids ups n i).length kc)) := hid (fun W v' l' hk => by
      have N2 := HN.out.below hk.b
      have LK := N2.map.look (HW.out i hi)
      rw [findI_eq HR.out hi] at LK
      exact ⟨hk.q.c0 0 rfl, LK, by rw [← KV.out]; exact (N2.blk i hi).c0 1 rfl⟩)
    have hm : (kidsTo ids ups n i).length ≤ 271 := by have := kidsTo_len ids ups n i; omega
    go_enter Tryz.func84, Tryz.ntmps84
    go_wp2_with (refine wpList_append_ints _ rfl _ _ rfl (w0.heap.size + 1 + 1 + 1) v l rfl O1.out _ 1 1 [ids i] rfl rfl L1.out (by omega) s1 ?_; intro a3 c3 w3 o3 g3 v3; have p3 := P1.out w3 g3; have z1 : _ = some v := p3.c0 0 rfl; have z2 := p3.warm 0; have K2 := hid (D3.out a3 c3 w3 o3 g3); obtain ⟨y0, LK, y1⟩ := E3.out _ _ _ K2.out; clear o3 g3 v3 p3)
    clear z1 z2 y0 LK y1 x1 L1 O1 P1 D3 E3 HK s1
    generalize w3.setCell ⟨w0.heap.size + 1, 0, none⟩ (.slice a3 (l.length + 1) c3) = W at *
    generalize Value.slice a3 (l.length + 1) c3 = v2 at *
    clear hs
    have hml : (kidsTo ids ups n i).length = (kidsI ids ups n i).length := by rw [kidsTo_map, List.length_map]
    have HML := hid hml
    clear hml
    go_loopw [18] (fun t wr => ∃ (j : Nat) (v' : Value), j ≤ (kidsTo ids ups n i).length ∧ t = .int .i64 j ∧ Hid (Walk w0 c wr v' (l ++ [ids i] ++ (((kidsI ids ups n i).take j).flatMap (preI ids ups n f)).map ids))) (fun t _ => (kidsTo ids ups n i).length - (intOf t).toNat)
    case atStart => exact ⟨0, v2, Nat.zero_le _, rfl, hid (by simpa using K2.out)⟩
    case round =>
      obtain ⟨j, v', hj, rfl, HWk⟩ := hrel
      clear K2
      by_cases hlt : j < (kidsTo ids ups n i).length
      · have i1 : (j : Int) < ((kidsTo ids ups n i).length : Int) := by omega
        have i0 : (0 : Int) ≤ (j : Int) := by omega
        have hj2 : j < (kidsI ids ups n i).length := by have := HML.out; omega
        have ow := (HN.out.below HWk.out.b).own i hi
        rw [KV.out] at ow
        obtain ⟨b, o, rfl, _, hcc⟩ := OwnI.lies ow (by omega)
        have g1 : wr.cell? ⟨b, o + j, none⟩ = some (.int .i64 (ids (kidsI ids ups n i)[j])) := hcc j _ (by simp [kidsTo_map, hj2])
        have r1 : wr.cell? ⟨w0.heap.size + 1 + 1, 0, none⟩ = some (walkFn w0.heap.size) := HWk.out.r.c0 0 rfl
        unfold walkFn at r1
        obtain ⟨k1, k2⟩ := (mem_kids HR.out H0.out hi).1 (List.getElem_mem hj2)
        have CK := hid (IH.out (kidsI ids ups n i)[j] _ v' wr k1 (fun a m ha e => by
            have := HH.out a (m + 1) ha (by rw [parIt_succ', e]; exact k2)
            omega) (by
            have h1 := HL.out
            have h2 := flat_len (kidsI ids ups n i) (preI ids ups n f) j hj2
            simp only [preI, List.length_cons] at h1
            simp only [List.length_append, List.length_map, List.length_cons, List.length_nil]
            omega) HWk.out)
        have EX : Hid (l ++ [ids i] ++ (((kidsI ids ups n i).take j).flatMap (preI ids ups n f)).map ids ++ (preI ids ups n f (kidsI ids ups n i)[j]).map ids = l ++ [ids i] ++ (((kidsI ids ups n i).take (j + 1)).flatMap (preI ids ups n f)).map ids) := hid (by
          rw [List.take_succ_eq_append_getElem hj2, List.flatMap_append, List.map_append]
          simp)
        generalize ids (kidsI ids ups n i)[j] = y at *
        clear hcc ow k1 k2
        go_wp2_with (go_at_call 84; refine CK.out.mono ?_; rintro e w4 ⟨v4, rfl, h4⟩; have H4 := hid h4; clear h4)
        have H5 := H4.out
        rw [EX.out] at H5
        exact ⟨⟨j + 1, v4, by omega, by go_num, hid H5⟩, by simp [intOf]; omega⟩
      · have e : j = (kidsI ids ups n i).length := by have := HML.out; omega
        have i1 : ¬ (j : Int) < ((kidsTo ids ups n i).length : Int) := by omega
        have H5 := HWk.out
        rw [e, List.take_length] at H5
        have H6 : Hid (Walk w0 c wr v' (l ++ (preI ids ups n (f + 1) i).map ids)) := hid (by simpa [preI] using H5)
        clear H5 e HWk
        go_wp2
        exact bodyPost_end (v := .tuple #[]) (by simp [results, Tryz.results84, go_sem]) rfl ⟨rfl, _, H6.out⟩
end Go.Proofs.YtjceaajnemgheaaGreatDoor
namespace Go.Proofs.YtjceaajnemgheaaGreatDoor
open Go.Shelf
def Tryz.sortA_ren : Go.Shelf.Ren := ⟨fun | 5 => 85 | 8 => 91 | 7 => 90 | 19 => 105 | 20 => 106 | 10 => 96 | 11 => 97 | 12 => 98 | 13 => 99 | 14 => 100 | 15 => 101 | 16 => 102 | 17 => 103 | 18 => 104 | 30 => 109 | 31 => 110 | 32 => 111 | 33 => 112 | 34 => 113 | 35 => 114 | 40 => 115 | n => n, fun | 23 => 35 | 25 => 2 | 3 => 3 | 32 => 119 | 22 => 35 | 0 => 0 | 44 => 132 | 46 => 134 | 4 => 4 | 36 => 124 | 35 => 123 | 41 => 129 | 5 => 5 | 9 => 9 | 53 => 137 | 57 => 141 | 63 => 143 | 64 => 144 | n => n, fun | n => n⟩
theorem Tryz.sortA : Go.Proofs.SlLaysM.n5 Tryz.prog Tryz.sortA_ren := {
  mixed := by kernel_rfl
  f5 := ⟨Tryz.f85.name, by decide, Tryz.func85.trans (congrArg some (by kernel_rfl))⟩
  f7 := ⟨Tryz.f90.name, by decide, Tryz.func90.trans (congrArg some (by kernel_rfl))⟩
  f8 := Tryz.func91.trans (congrArg some (by kernel_rfl))
  f10 := ⟨Tryz.f96.name, by decide, Tryz.func96.trans (congrArg some (by kernel_rfl))⟩
  f11 := ⟨Tryz.f97.name, by decide, Tryz.func97.trans (congrArg some (by kernel_rfl))⟩
  f12 := ⟨Tryz.f98.name, by decide, Tryz.func98.trans (congrArg some (by kernel_rfl))⟩
  f13 := ⟨Tryz.f99.name, by decide, Tryz.func99.trans (congrArg some (by kernel_rfl))⟩
  f14 := ⟨Tryz.f100.name, by decide, Tryz.func100.trans (congrArg some (by kernel_rfl))⟩
  f15 := ⟨Tryz.f101.name, by decide, Tryz.func101.trans (congrArg some (by kernel_rfl))⟩
  f16 := ⟨Tryz.f102.name, by decide, Tryz.func102.trans (congrArg some (by kernel_rfl))⟩
  f17 := ⟨Tryz.f103.name, by decide, Tryz.func103.trans (congrArg some (by kernel_rfl))⟩
  f18 := ⟨Tryz.f104.name, by decide, Tryz.func104.trans (congrArg some (by kernel_rfl))⟩
  f19 := Tryz.func105.trans (congrArg some (by kernel_rfl))
  f20 := Tryz.func106.trans (congrArg some (by kernel_rfl))
  f30 := ⟨Tryz.f109.name, by decide, Tryz.func109.trans (congrArg some (by kernel_rfl))⟩
  f31 := Tryz.func110.trans (congrArg some (by kernel_rfl))
  f32 := Tryz.func111.trans (congrArg some (by kernel_rfl))
  f33 := ⟨Tryz.f112.name, by decide, Tryz.func112.trans (congrArg some (by kernel_rfl))⟩
  f34 := ⟨Tryz.f113.name, by decide, Tryz.func113.trans (congrArg some (by kernel_rfl))⟩
  f35 := ⟨Tryz.f114.name, by decide, Tryz.func114.trans (congrArg some (by kernel_rfl))⟩
  f40 := ⟨Tryz.f115.name, by decide, Tryz.func115.trans (congrArg some (by kernel_rfl))⟩
  t0 := Tryz.underlying0
  a0 := Tryz.isAgg0
  z0 := Tryz.sizeOf0
  v0 := Tryz.zeroValue0
  t3 := Tryz.underlying3
  a3 := Tryz.isAgg3
  z3 := Tryz.sizeOf3
  v3 := Tryz.zeroValue3
  t4 := Tryz.underlying4
  a4 := Tryz.isAgg4
  z4 := Tryz.sizeOf4
  v4 := Tryz.zeroValue4
  t5 := Tryz.underlying5
  a5 := Tryz.isAgg5
  z5 := Tryz.sizeOf5
  v5 := Tryz.zeroValue5
  t9 := Tryz.underlying9
  a9 := Tryz.isAgg9
  z9 := Tryz.sizeOf9
  v9 := Tryz.zeroValue9
  t22 := Tryz.underlying35
  a22 := Tryz.isAgg35
  z22 := Tryz.sizeOf35
  v22 := Tryz.zeroValue35
  t23 := Tryz.underlying35
  a23 := Tryz.isAgg35
  z23 := Tryz.sizeOf35
  v23 := Tryz.zeroValue35
  t25 := Tryz.underlying2
  a25 := Tryz.isAgg2
  z25 := Tryz.sizeOf2
  v25 := Tryz.zeroValue2
  t32 := Tryz.underlying119
  a32 := Tryz.isAgg119
  z32 := Tryz.sizeOf119
  v32 := Tryz.zeroValue119
  t35 := Tryz.underlying123
  a35 := Tryz.isAgg123
  z35 := Tryz.sizeOf123
  v35 := Tryz.zeroValue123
  t36 := Tryz.underlying124
  a36 := Tryz.isAgg124
  z36 := Tryz.sizeOf124
  v36 := Tryz.zeroValue124
  t41 := Tryz.underlying129
  a41 := Tryz.isAgg129
  z41 := Tryz.sizeOf129
  v41 := Tryz.zeroValue129
  t44 := Tryz.underlying132
  a44 := Tryz.isAgg132
  z44 := Tryz.sizeOf132
  v44 := Tryz.zeroValue132
  t46 := Tryz.underlying134
  a46 := Tryz.isAgg134
  z46 := Tryz.sizeOf134
  v46 := Tryz.zeroValue134
  t53 := Tryz.underlying137
  a53 := Tryz.isAgg137
  z53 := Tryz.sizeOf137
  v53 := Tryz.zeroValue137
  t57 := Tryz.underlying141
  a57 := Tryz.isAgg141
  z57 := Tryz.sizeOf141
  v57 := Tryz.zeroValue141
  t63 := Tryz.underlying143
  a63 := Tryz.isAgg143
  z63 := Tryz.sizeOf143
  v63 := Tryz.zeroValue143
  t64 := Tryz.underlying144
  a64 := Tryz.isAgg144
  z64 := Tryz.sizeOf144
  v64 := Tryz.zeroValue144 }
end Go.Proofs.YtjceaajnemgheaaGreatDoor
