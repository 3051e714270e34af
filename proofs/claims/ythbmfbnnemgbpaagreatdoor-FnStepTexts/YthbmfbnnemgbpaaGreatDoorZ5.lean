/- Slices of categories that a call makes: what append leaves. -/
import Derived.Test.YthbmfbnnemgbpaaGreatDoorZ1
import Derived.Deep.AppendLies
import Derived.Laws.OwnMore
import Derived.WideShapes
import Derived.Deep.RegionHeld3
import Derived.Deep.QuietTactic
import Derived.BigQuiet
import Derived.Test.YthbmfbnnemgbpaaGreatDoorZ4
import Derived.Laws.IdiomStrings
namespace Go.Proofs.YthbmfbnnemgbpaaGreatDoor
open Go.RowKit Go.Deep Go.Maps
open Go.WideShapes (add_plain)
def catCells (f g : Nat → Int) (n : Nat) : List Value := (List.range (n * 2)).map (pairCell f g)
theorem catCells_length (f g : Nat → Int) (n : Nat) : (catCells f g n).length = n * 2 := by simp [catCells]
theorem catCells_get (f g : Nat → Int) (n j : Nat) (h : j < n * 2) : (catCells f g n)[j]? = some (pairCell f g j) := by simp [catCells, h]
theorem catCells_one (f g : Nat → Int) (n : Nat) : ∀ u ∈ catCells f g n, u.oneCell' = true := by
 intro u hu
 obtain ⟨j, _, rfl⟩ := List.mem_map.1 hu
 unfold pairCell; split <;> rfl
def glue (n : Nat) (f f' : Nat → Int) (i : Nat) : Int := if i < n then f i else f' (i - n)
theorem catCells_append (f g f' g' : Nat → Int) (n m : Nat) : catCells f g n ++ catCells f' g' m = catCells (glue n f f') (glue n g g') (n + m) := by
 apply List.ext_getElem?
 intro j
 by_cases h1 : j < n * 2
 ·rw [List.getElem?_append_left (by rw [catCells_length]; exact h1), catCells_get _ _ _ _ h1, catCells_get _ _ _ _ (by omega)]
  have : j / 2 < n := by omega
  simp [pairCell, glue, this]
 ·rw [List.getElem?_append_right (by rw [catCells_length]; omega), catCells_length]
  by_cases h2 : j < (n + m) * 2
  ·rw [catCells_get _ _ _ _ (by omega), catCells_get _ _ _ _ h2]
   have a1 : ¬ j / 2 < n := by omega
   have a2 : (j - n * 2) / 2 = j / 2 - n := by omega
   have a3 : (j - n * 2) % 2 = j % 2 := by omega
   simp [pairCell, glue, a1, a2, a3]
  ·rw [List.getElem?_eq_none (by rw [catCells_length]; omega), List.getElem?_eq_none (by rw [catCells_length]; omega)]
def OwnCats (w : World) (B : Nat) (v : Value) (n : Nat) (f g : Nat → Int) : Prop := w.ownsRow B 63 2 v n (catCells f g n)
theorem OwnCats.nil (w : World) (B : Nat) (f g : Nat → Int) : OwnCats w B (.slice none 0 0) 0 f g := World.ownsRow_nil _ _ _ _
theorem OwnCats.cats {w : World} {B n c : Nat} {a : Option Addr} {f g : Nat → Int} (h : OwnCats w B (.slice a n c) n f g) : CatsAt w a n f g := fun hn => by
 obtain ⟨gb, cap, hv, _, hlt⟩ := World.ownsRow.form h hn
 simp only [Value.slice.injEq] at hv
 obtain ⟨rfl, _, _⟩ := hv
 have hc := World.ownsRow.cells h (g := gb) rfl
 refine ⟨gb, 0, rfl, hlt, fun i hi => ⟨?_, ?_⟩⟩
 ·have t := hc (i * 2) _ (catCells_get f g n (i * 2) (by omega))
  rw [add_plain] at t
  rw [t]
  have e1 : i * 2 % 2 = 0 := by omega
  have e2 : i * 2 / 2 = i := by omega
  simp only [pairCell, e1, e2, if_true]
 ·have t := hc (i * 2 + 1) _ (catCells_get f g n (i * 2 + 1) (by omega))
  rw [add_plain, ← Nat.add_assoc] at t
  rw [t]
  have e1 : ¬ (i * 2 + 1) % 2 = 0 := by omega
  have e2 : (i * 2 + 1) / 2 = i := by omega
  simp only [pairCell, e2, if_neg e1]
theorem OwnCats.shape {w : World} {B n : Nat} {v : Value} {f g : Nat → Int} (h : OwnCats w B v n f g) : ∃ a c, v = .slice a n c := by
 rcases h.2 with ⟨rfl, rfl⟩ | ⟨gb, cap, cur, rfl, _⟩
 ·exact ⟨_, _, rfl⟩
 ·exact ⟨_, _, rfl⟩
theorem news_of_cats {w : World} {b off m : Nat} {f g : Nat → Int} (h : ∀ i, i < m → w.cell? ⟨b, off + i * 2, none⟩ = some (.int .i64 (f i)) ∧ w.cell? ⟨b, off + i * 2 + 1, none⟩ = some (.int .i64 (g i))) :
 ∀ j u, (catCells f g m)[j]? = some u → w.cell? ((⟨b, off, none⟩ : Addr).add j) = some u := by
 intro j u hu
 have hj : j < m * 2 := by
  apply Nat.lt_of_not_le; intro hle
  rw [List.getElem?_eq_none (by rw [catCells_length]; exact hle)] at hu; cases hu
 rw [catCells_get _ _ _ _ hj] at hu
 cases hu
 obtain ⟨h1, h2⟩ := h (j / 2) (by omega)
 rw [add_plain]
 rcases Nat.mod_two_eq_zero_or_one j with e | e
 ·have e2 : off + j / 2 * 2 = off + j := by omega
  rw [e2] at h1
  rw [h1]; simp [pairCell, e]
 ·have e2 : off + j / 2 * 2 + 1 = off + j := by omega
  rw [e2] at h2
  rw [h2]; simp [pairCell, e]
theorem run_append_cats_some (w : World) (ty B : Nat) (v : Value) (n : Nat) (f g : Nat → Int) (hown : OwnCats w B v n f g) (a : Addr) (m c : Nat) (f' g' : Nat → Int)
 (hnews : ∀ j u, (catCells f' g' m)[j]? = some u → w.cell? (a.add j) = some u) (hm : n + m ≤ 4194304) (hB : B ≤ w.heap.size) :
 ∃ a' c' w', (Builtin.append_ #[24, 24] ty #[v, .slice (some a) m c]).run Tryz.prog w = .ok (.slice a' (n + m) c') w' ∧ OwnCats w' B (.slice a' (n + m) c') (n + m) (glue n f f') (glue n g g') ∧ w.grownBy w' v.ownBlock ∧
  ((Value.slice a' (n + m) c').ownBlock = v.ownBlock ∨ (Value.slice a' (n + m) c').ownBlock = some w.heap.size) := by
 obtain ⟨i0, hi, hz0, hz1, hz2⟩ := info_parts Tryz.info63
 obtain ⟨v', w', hr, h2, h3, _, h5⟩ := run_append_own_at (P := Tryz.prog) w B 24 ty 63 i0 _ 2 16 Tryz.underlying24 hi hz0 hz1 hz2 rfl (by omega) v n (catCells f g n) hown a m c (catCells f' g' m) (catCells_length _ _ _) hnews (catCells_one _ _ _) (by unfold maxLen; omega) (by omega) hB
 rw [catCells_append] at h2
 obtain ⟨a', c', rfl⟩ := OwnCats.shape h2
 exact ⟨a', c', w', hr, h2, h3, h5⟩
theorem run_append_cats (w : World) (ty B : Nat) (v : Value) (n : Nat) (f g : Nat → Int) (hown : OwnCats w B v n f g) (ad : Option Addr) (m c : Nat) (f' g' : Nat → Int) (hc : CatsAt w ad m f' g')
 (hm : n + m ≤ 4194304) (hB : B ≤ w.heap.size) :
 ∃ a' c' w', (Builtin.append_ #[24, 24] ty #[v, .slice ad m c]).run Tryz.prog w = .ok (.slice a' (n + m) c') w' ∧ OwnCats w' B (.slice a' (n + m) c') (n + m) (glue n f f') (glue n g g') ∧ w.grownBy w' v.ownBlock ∧
  ((Value.slice a' (n + m) c').ownBlock = v.ownBlock ∨ (Value.slice a' (n + m) c').ownBlock = some w.heap.size) := by
 by_cases h0 : 0 < m
 ·obtain ⟨b, off, rfl, _, hcc⟩ := hc h0
  exact run_append_cats_some w ty B v n f g hown _ m c f' g' (news_of_cats hcc) hm hB
 ·obtain rfl : m = 0 := by omega
  cases ad with
  | some a => exact run_append_cats_some w ty B v n f g hown a 0 c f' g' (fun j u hu => by simp [catCells] at hu) hm hB
  | none =>
   obtain ⟨i0, hi, hz0, hz1, hz2⟩ := info_parts Tryz.info63
   have e := catCells_append f g f' g' n 0
   have e0 : catCells f' g' 0 = [] := rfl
   rw [e0, List.append_nil] at e
   have hown' := hown
   unfold OwnCats at hown' ⊢
   rw [e] at hown'
   obtain ⟨a', c', rfl⟩ := OwnCats.shape hown
   refine ⟨a', c', w, ?_, hown', ⟨rfl, rfl, rfl, Nat.le_refl _, fun _ _ _ => rfl⟩, .inl rfl⟩
   obtain ⟨_, hx⟩ := hown
   rcases hx with ⟨hv, rfl⟩ | ⟨gb, cap, cur, hv, _, _, hnc, _⟩
   ·simp only [Value.slice.injEq] at hv
    obtain ⟨rfl, _, rfl⟩ := hv
    simp [Builtin.append_, run_underlying Tryz.underlying24, sizeOf, typeInfo, hi, Builtin.lenOf, Builtin.firstCells]
   ·simp only [Value.slice.injEq] at hv
    obtain ⟨rfl, _, rfl⟩ := hv
    simp [Builtin.append_, run_underlying Tryz.underlying24, sizeOf, typeInfo, hi, Builtin.lenOf, Builtin.firstCells, hnc, storeCells]
theorem wp_append_cats {o : Oper} {a : Act} {K : Act → World → Prop} {Q : Exit → Act → World → Prop} (w : World) (s x : Operand)
 (ho : o.op = .call { callee := .builtin .append, args := #[s, x], argTypes := #[24, 24] })
 (B : Nat) (v : Value) (n : Nat) (f g : Nat → Int) (hs : a.eval s = v) (hown : OwnCats w B v n f g) (ad : Option Addr) (m c : Nat) (f' g' : Nat → Int) (hx : a.eval x = .slice ad m c) (hc : CatsAt w ad m f' g')
 (hm : n + m ≤ 4194304) (hB : B ≤ w.heap.size)
 (h : ∀ a' c' w', OwnCats w' B (.slice a' (n + m) c') (n + m) (glue n f f') (glue n g g') → w.grownBy w' v.ownBlock → ((Value.slice a' (n + m) c').ownBlock = v.ownBlock ∨ (Value.slice a' (n + m) c').ownBlock = some w.heap.size) → K (a.put o.dst (.slice a' (n + m) c')) w') : o.wp Tryz.prog a w K Q := by
 obtain ⟨a', c', w', hr, h2, h3, h4⟩ := run_append_cats w o.type B v n f g hown ad m c f' g' hc hm hB
 unfold Oper.wp execOp
 simp only [ho, resolve, invoke, builtin, Sem.run_bind, Sem.run_pure, Result.andThen_ok, List.map_toArray, List.map_cons, List.map_nil, hs, hx, hr]
 exact h a' c' w' h2 h3 h4
theorem wpList_append_cats {ops : Array Oper} {rest : List Oper} {o : Oper} {a : Act} {Q : Exit → Act → World → Prop} (w : World) (hgd : o.guard = none) (s x : Operand)
 (ho : o.op = .call { callee := .builtin .append, args := #[s, x], argTypes := #[24, 24] })
 (B : Nat) (v : Value) (n : Nat) (f g : Nat → Int) (hs : a.eval s = v) (hown : OwnCats w B v n f g) (ad : Option Addr) (m c : Nat) (f' g' : Nat → Int) (hx : a.eval x = .slice ad m c) (hc : CatsAt w ad m f' g')
 (hm : n + m ≤ 4194304) (hB : B ≤ w.heap.size)
 (h : ∀ a' c' w', OwnCats w' B (.slice a' (n + m) c') (n + m) (glue n f f') (glue n g g') → w.grownBy w' v.ownBlock → ((Value.slice a' (n + m) c').ownBlock = v.ownBlock ∨ (Value.slice a' (n + m) c').ownBlock = some w.heap.size) → wpList Tryz.prog ops Q rest (a.put o.dst (.slice a' (n + m) c')) w') : wpList Tryz.prog ops Q (o :: rest) a w :=
 wpList_plain hgd fun _ hK => wp_append_cats w s x ho B v n f g hs hown ad m c f' g' hx hc hm hB fun a' c' w' h2 h3 h4 => hK _ _ (h a' c' w' h2 h3 h4)
theorem step_append_cats {ops : Array Oper} {o : Oper} {a : Act} {K : Act → World → Prop} {Q : Exit → Act → World → Prop} {E : Prop} (w : World) (hgd : o.guard = none) (s x : Operand)
 (ho : o.op = .call { callee := .builtin .append, args := #[s, x], argTypes := #[24, 24] })
 (B : Nat) (v : Value) (n : Nat) (f g : Nat → Int) (hs : a.eval s = v) (hown : OwnCats w B v n f g) (ad : Option Addr) (m c : Nat) (f' g' : Nat → Int) (hx : a.eval x = .slice ad m c) (hc : CatsAt w ad m f' g')
 (hm : n + m ≤ 4194304) (hB : B ≤ w.heap.size)
 (h : ∀ a' c' w', OwnCats w' B (.slice a' (n + m) c') (n + m) (glue n f f') (glue n g g') → w.grownBy w' v.ownBlock → ((Value.slice a' (n + m) c').ownBlock = v.ownBlock ∨ (Value.slice a' (n + m) c').ownBlock = some w.heap.size) → K (a.put o.dst (.slice a' (n + m) c')) w') :
 if Region.wanted o (yielded ops a.tmps) = true then Oper.wp Tryz.prog o a w K Q else E := by
 have hw : Region.wanted o (yielded ops a.tmps) = true := by simp [Region.wanted, hgd]
 rw [if_pos hw]
 exact wp_append_cats w s x ho B v n f g hs hown ad m c f' g' hx hc hm hB h
theorem glue_zero (f f' : Nat → Int) : glue 0 f f' = f' := by funext i; simp [glue]
theorem step_append_cats0 {ops : Array Oper} {o : Oper} {a : Act} {K : Act → World → Prop} {Q : Exit → Act → World → Prop} {E : Prop} (w : World) (hgd : o.guard = none) (s x : Operand)
 (ho : o.op = .call { callee := .builtin .append, args := #[s, x], argTypes := #[24, 24] })
 (B : Nat) (v : Value) (f g : Nat → Int) (hs : a.eval s = v) (hown : OwnCats w B v 0 f g) (ad : Option Addr) (m c : Nat) (f' g' : Nat → Int) (hx : a.eval x = .slice ad m c) (hc : CatsAt w ad m f' g')
 (hm : m ≤ 4194304) (hB : B ≤ w.heap.size)
 (h : ∀ a' c' w', OwnCats w' B (.slice a' m c') m f' g' → w.grownBy w' v.ownBlock → ((Value.slice a' m c').ownBlock = v.ownBlock ∨ (Value.slice a' m c').ownBlock = some w.heap.size) → K (a.put o.dst (.slice a' m c')) w') :
 if Region.wanted o (yielded ops a.tmps) = true then Oper.wp Tryz.prog o a w K Q else E := by
 refine step_append_cats w hgd s x ho B v 0 f g hs hown ad m c f' g' hx hc (by omega) hB ?_
 rw [glue_zero, glue_zero, Nat.zero_add]
 exact h
end Go.Proofs.YthbmfbnnemgbpaaGreatDoor
namespace Go.Proofs.YthbmfbnnemgbpaaGreatDoor
open Go.RowKit Go.Deep
def CatL.same (c d : CatL) : Prop := d.n = c.n ∧ d.f = c.f ∧ d.g = c.g
def IntL.same (c d : IntL) : Prop := d.n = c.n ∧ d.h = c.h
def ThrV.same (t u : ThrV) : Prop := u.id = t.id ∧ u.b1 = t.b1 ∧ t.c1.same u.c1 ∧ u.b2 = t.b2 ∧ t.c2.same u.c2 ∧ t.own.same u.own ∧ u.made = t.made
def CatL.row (w : World) (c : CatL) : Prop := ∃ b, c.a = some ⟨b, 0, none⟩ ∧ w.rowIs b 63 (c.n * 2) (pairCell c.f c.g)
def IntL.row (w : World) (c : IntL) : Prop := ∃ b, c.a = some ⟨b, 0, none⟩ ∧ w.rowIs b 2 c.n (fun i => .int .i64 (c.h i))
def ThrV.row (w : World) (t : ThrV) : Prop := t.c1.row w ∧ t.c2.row w ∧ t.own.row w
theorem rowUp {w w' : World} {b ty N : Nat} {G : Nat → Value} (h : w.rowIs b ty N G) (hb : Below w.heap.size w w') : w'.rowIs b ty N G := h.of_block (hb.block b h.lt)
theorem row_ne {w : World} {b b' t t' N N' : Nat} {G G' : Nat → Value} (h : w.rowIs b t N G) (h' : w.rowIs b' t' N' G') (ht : t ≠ t') : b ≠ b' := fun e => by
 subst e
 obtain ⟨c, e1, _⟩ := h
 obtain ⟨c', e2, _⟩ := h'
 rw [e1] at e2
 simp only [Option.some.injEq, Obj.cells.injEq] at e2
 exact ht e2.2.1
theorem CatL.row.below {w w' : World} {c : CatL} (h : c.row w) (hb : Below w.heap.size w w') : c.row w' := by
 obtain ⟨b, e, hr⟩ := h
 exact ⟨b, e, rowUp hr hb⟩
theorem IntL.row.below {w w' : World} {c : IntL} (h : c.row w) (hb : Below w.heap.size w w') : c.row w' := by
 obtain ⟨b, e, hr⟩ := h
 exact ⟨b, e, rowUp hr hb⟩
theorem ThrV.row.below {w w' : World} {t : ThrV} (h : t.row w) (hb : Below w.heap.size w w') : t.row w' := ⟨CatL.row.below h.1 hb, CatL.row.below h.2.1 hb, IntL.row.below h.2.2 hb⟩
theorem ThrV.row.put {w : World} {t : ThrV} {P ty N : Nat} {G : Nat → Value} (h : t.row w) (hP : w.rowIs P ty N G) (h1 : ty ≠ 63) (h2 : ty ≠ 2) (i : Nat) (v : Value) : t.row (w.setCell ⟨P, i, none⟩ v) := by
 obtain ⟨⟨b1, e1, r1⟩, ⟨b2, e2, r2⟩, ⟨b3, e3, r3⟩⟩ := h
 exact ⟨⟨b1, e1, r1.setOther (row_ne r1 hP h1.symm) v⟩, ⟨b2, e2, r2.setOther (row_ne r2 hP h1.symm) v⟩, ⟨b3, e3, r3.setOther (row_ne r3 hP h2.symm) v⟩⟩
theorem ThrV.row.at {w : World} {t : ThrV} (h : t.row w) (hs : t.small) : t.at w := by
 obtain ⟨⟨b1, e1, r1⟩, ⟨b2, e2, r2⟩, ⟨b3, e3, r3⟩⟩ := h
 refine ⟨⟨by unfold maxLen; have := hs.1; omega, ?_⟩, ⟨by unfold maxLen; have := hs.2.1; omega, ?_⟩, ⟨by unfold maxLen; have := hs.2.2; omega, ?_⟩⟩
 ·rw [e1]; exact CatsAt.row r1
 ·rw [e2]; exact CatsAt.row r2
 ·rw [e3]; exact IntsAt.row r3
structure G7 (G : Nat → Value) (o : Nat) (t : ThrV) : Prop where
 g0 : G o = .int .i64 t.id
 g1 : G (o + 1) = .int .i64 t.b1
 g2 : G (o + 2) = t.c1.val
 g3 : G (o + 3) = .int .i64 t.b2
 g4 : G (o + 4) = t.c2.val
 g5 : G (o + 5) = t.own.val
 g6 : G (o + 6) = .int .i64 t.made
theorem G7.cells {w : World} {b ty N : Nat} {G : Nat → Value} {o : Nat} {t : ThrV} (hr : w.rowIs b ty N G) (h : G7 G o t) (ho : o + 7 ≤ N) : Cells7 w b o t :=
 ⟨(hr.cell (by omega)).trans (congrArg some h.g0), (hr.cell (by omega)).trans (congrArg some h.g1), (hr.cell (by omega)).trans (congrArg some h.g2), (hr.cell (by omega)).trans (congrArg some h.g3), (hr.cell (by omega)).trans (congrArg some h.g4), (hr.cell (by omega)).trans (congrArg some h.g5), (hr.cell (by omega)).trans (congrArg some h.g6)⟩
theorem Tryz.info79 : (Tryz.prog.info? 79).map (fun i => (i.zero, i.size, i.bytes)) = some (some (.agg #[.int .i64 0, .int .i64 0, .slice none 0 0, .int .i64 0, .slice none 0 0, .slice none 0 0, .int .i64 0]), 7, 104) := by kernel_rfl
end Go.Proofs.YthbmfbnnemgbpaaGreatDoor
namespace Go.Proofs.YthbmfbnnemgbpaaGreatDoor
open Go.RowKit Go.Deep
theorem Tryz.info9 : (Tryz.prog.info? 9).map (fun i => (i.zero, i.size, i.bytes)) = some (some (.string ⟨#[]⟩), 1, 16) := by kernel_rfl
def StrL.row (w : World) (c : StrL) : Prop := ∃ b, c.a = some ⟨b, 0, none⟩ ∧ w.rowIs b 9 c.n (fun i => .string (c.f i))
theorem Blk.setAt {W : World} {P t i : Nat} {cs : Array Value} (h : Blk W P (.cells cs t)) (v : Value) : Blk (W.setCell ⟨P, i, none⟩ v) P (.cells (cs.setIfInBounds i v) t) := by
 unfold Blk at *
 simp [World.setCell, Array.getElem?_modify, h]
theorem Blk.warm {W : World} {P t : Nat} {cs : Array Value} (h : Blk W P (.cells cs t)) (i : Nat) : W.frozen? ⟨P, i, none⟩ = false := by
 unfold Blk at h
 simp [World.frozen?, h]
theorem Blk.other {W : World} {P Q i : Nat} {o : Obj} (h : Blk W P o) (hne : Q ≠ P) (v : Value) : Blk (W.setCell ⟨Q, i, none⟩ v) P o := by
 unfold Blk at *
 simp [World.setCell, Array.getElem?_modify, h, hne]
theorem Blk.all10 {W : World} {P t : Nat} {z0 z1 z2 z3 z4 z5 z6 z7 z8 z9 : Value} (h : Blk W P (.cells #[z0, z1, z2, z3, z4, z5, z6, z7, z8, z9] t)) (x0 x1 x2 x3 x4 x5 x6 x7 x8 x9 : Value) :
 Blk ((((((((((W.setCell ⟨P, 0, none⟩ x0).setCell ⟨P, 1, none⟩ x1).setCell ⟨P, 2, none⟩ x2).setCell ⟨P, 3, none⟩ x3).setCell ⟨P, 4, none⟩ x4).setCell ⟨P, 5, none⟩ x5).setCell ⟨P, 6, none⟩ x6).setCell ⟨P, 7, none⟩ x7).setCell ⟨P, 8, none⟩ x8).setCell ⟨P, 9, none⟩ x9) P (.cells #[x0, x1, x2, x3, x4, x5, x6, x7, x8, x9] t) := by
 have h0 : Blk _ P (.cells #[x0, z1, z2, z3, z4, z5, z6, z7, z8, z9] t) := h.setAt (i := 0) x0
 have h1 : Blk _ P (.cells #[x0, x1, z2, z3, z4, z5, z6, z7, z8, z9] t) := h0.setAt (i := 1) x1
 have h2 : Blk _ P (.cells #[x0, x1, x2, z3, z4, z5, z6, z7, z8, z9] t) := h1.setAt (i := 2) x2
 have h3 : Blk _ P (.cells #[x0, x1, x2, x3, z4, z5, z6, z7, z8, z9] t) := h2.setAt (i := 3) x3
 have h4 : Blk _ P (.cells #[x0, x1, x2, x3, x4, z5, z6, z7, z8, z9] t) := h3.setAt (i := 4) x4
 have h5 : Blk _ P (.cells #[x0, x1, x2, x3, x4, x5, z6, z7, z8, z9] t) := h4.setAt (i := 5) x5
 have h6 : Blk _ P (.cells #[x0, x1, x2, x3, x4, x5, x6, z7, z8, z9] t) := h5.setAt (i := 6) x6
 have h7 : Blk _ P (.cells #[x0, x1, x2, x3, x4, x5, x6, x7, z8, z9] t) := h6.setAt (i := 7) x7
 have h8 : Blk _ P (.cells #[x0, x1, x2, x3, x4, x5, x6, x7, x8, z9] t) := h7.setAt (i := 8) x8
 exact h8.setAt (i := 9) x9
end Go.Proofs.YthbmfbnnemgbpaaGreatDoor
namespace Go.Proofs.YthbmfbnnemgbpaaGreatDoor
open Go.RowKit Go.Deep
end Go.Proofs.YthbmfbnnemgbpaaGreatDoor
namespace Go.Proofs.YthbmfbnnemgbpaaGreatDoor
open Go.RowKit Go.Deep
def StrL.same (c d : StrL) : Prop := d.n = c.n ∧ d.f = c.f
def ObjV.same (t u : ObjV) : Prop := u.id = t.id ∧ u.kind = t.kind ∧ u.up = t.up ∧ u.b1 = t.b1 ∧ t.c1.same u.c1 ∧ u.data = t.data ∧ t.items.same u.items ∧ t.own.same u.own ∧ u.b2 = t.b2 ∧ t.c2.same u.c2
def ObjV.row (w : World) (t : ObjV) : Prop := t.c1.row w ∧ t.items.row w ∧ t.own.row w ∧ t.c2.row w
theorem StrL.row.below {w w' : World} {c : StrL} (h : c.row w) (hb : Below w.heap.size w w') : c.row w' := by
 obtain ⟨b, e, hr⟩ := h
 exact ⟨b, e, rowUp hr hb⟩
theorem ObjV.row.below {w w' : World} {t : ObjV} (h : t.row w) (hb : Below w.heap.size w w') : t.row w' := ⟨CatL.row.below h.1 hb, StrL.row.below h.2.1 hb, IntL.row.below h.2.2.1 hb, CatL.row.below h.2.2.2 hb⟩
theorem ObjV.row.put {w : World} {t : ObjV} {P ty N : Nat} {G : Nat → Value} (h : t.row w) (hP : w.rowIs P ty N G) (h1 : ty ≠ 63) (h2 : ty ≠ 2) (h3 : ty ≠ 9) (i : Nat) (v : Value) : t.row (w.setCell ⟨P, i, none⟩ v) := by
 obtain ⟨⟨b1, e1, r1⟩, ⟨b2, e2, r2⟩, ⟨b3, e3, r3⟩, ⟨b4, e4, r4⟩⟩ := h
 exact ⟨⟨b1, e1, r1.setOther (row_ne r1 hP h1.symm) v⟩, ⟨b2, e2, r2.setOther (row_ne r2 hP h3.symm) v⟩, ⟨b3, e3, r3.setOther (row_ne r3 hP h2.symm) v⟩, ⟨b4, e4, r4.setOther (row_ne r4 hP h1.symm) v⟩⟩
structure G10 (G : Nat → Value) (o : Nat) (u : ObjV) : Prop where
 g0 : G (o) = .int .i64 u.id
 g1 : G (o + 1) = .int .i64 u.kind
 g2 : G (o + 2) = .int .i64 u.up
 g3 : G (o + 3) = .int .i64 u.b1
 g4 : G (o + 4) = u.c1.val
 g5 : G (o + 5) = .string u.data
 g6 : G (o + 6) = u.items.val
 g7 : G (o + 7) = u.own.val
 g8 : G (o + 8) = .int .i64 u.b2
 g9 : G (o + 9) = u.c2.val
theorem Tryz.info88 : (Tryz.prog.info? 88).map (fun i => (i.zero, i.size, i.bytes)) = some (some (.agg #[.int .i64 0, .int .i64 0, .int .i64 0, .int .i64 0, .slice none 0 0, .string ⟨#[]⟩, .slice none 0 0, .slice none 0 0, .int .i64 0, .slice none 0 0]), 10, 152) := by kernel_rfl
end Go.Proofs.YthbmfbnnemgbpaaGreatDoor
namespace Go.Proofs.YthbmfbnnemgbpaaGreatDoor
open Go.RowKit Go.Deep
def ThrRow (w : World) (a : Option Addr) (n : Nat) (T : Nat → ThrV) : Prop := ∃ b G, a = some ⟨b, 0, none⟩ ∧ w.rowIs b 79 (n * 7) G ∧ ∀ j, j < n → G7 G (j * 7) (T j) ∧ (T j).row w
def ObjRow (w : World) (a : Option Addr) (n : Nat) (T : Nat → ObjV) : Prop := ∃ b G, a = some ⟨b, 0, none⟩ ∧ w.rowIs b 88 (n * 10) G ∧ ∀ j, j < n → G10 G (j * 10) (T j) ∧ (T j).row w
theorem ThrRow.below {w w' : World} {a : Option Addr} {n : Nat} {T : Nat → ThrV} (h : ThrRow w a n T) (hb : Below w.heap.size w w') : ThrRow w' a n T := by
 obtain ⟨b, G, e, hr, hj⟩ := h
 exact ⟨b, G, e, rowUp hr hb, fun j h => ⟨(hj j h).1, ThrV.row.below (hj j h).2 hb⟩⟩
theorem ObjRow.below {w w' : World} {a : Option Addr} {n : Nat} {T : Nat → ObjV} (h : ObjRow w a n T) (hb : Below w.heap.size w w') : ObjRow w' a n T := by
 obtain ⟨b, G, e, hr, hj⟩ := h
 exact ⟨b, G, e, rowUp hr hb, fun j h => ⟨(hj j h).1, ObjV.row.below (hj j h).2 hb⟩⟩
theorem ThrRow.put {w : World} {a : Option Addr} {n : Nat} {T : Nat → ThrV} {P ty N : Nat} {G : Nat → Value} (h : ThrRow w a n T) (hP : w.rowIs P ty N G) (h1 : ty ≠ 63) (h2 : ty ≠ 2) (h4 : ty ≠ 79) (i : Nat) (v : Value) : ThrRow (w.setCell ⟨P, i, none⟩ v) a n T := by
 obtain ⟨b, G', e, hr, hj⟩ := h
 exact ⟨b, G', e, hr.setOther (row_ne hr hP h4.symm) v, fun j h => ⟨(hj j h).1, ThrV.row.put (hj j h).2 hP h1 h2 i v⟩⟩
theorem ObjRow.put {w : World} {a : Option Addr} {n : Nat} {T : Nat → ObjV} {P ty N : Nat} {G : Nat → Value} (h : ObjRow w a n T) (hP : w.rowIs P ty N G) (h1 : ty ≠ 63) (h2 : ty ≠ 2) (h3 : ty ≠ 9) (h4 : ty ≠ 88) (i : Nat) (v : Value) : ObjRow (w.setCell ⟨P, i, none⟩ v) a n T := by
 obtain ⟨b, G', e, hr, hj⟩ := h
 exact ⟨b, G', e, hr.setOther (row_ne hr hP h4.symm) v, fun j h => ⟨(hj j h).1, ObjV.row.put (hj j h).2 hP h1 h2 h3 i v⟩⟩
theorem Blk.row {W : World} {P t : Nat} {cs : Array Value} (h : Blk W P (.cells cs t)) : W.rowIs P t cs.size (fun i => cs[i]?.getD undef) := ⟨cs, h, rfl, fun i hi => by simp [hi]⟩
def KerV.same (k l : KerV) : Prop := l.tn = k.tn ∧ (∀ j, j < k.tn → (k.T j).same (l.T j)) ∧ l.on = k.on ∧ (∀ j, j < k.on → (k.O j).same (l.O j))
def KerV.row (w : World) (k : KerV) : Prop := ThrRow w k.ta k.tn k.T ∧ ObjRow w k.oa k.on k.O
end Go.Proofs.YthbmfbnnemgbpaaGreatDoor
namespace Go.Proofs.YthbmfbnnemgbpaaGreatDoor
open Go.RowKit Go.Deep
theorem StrL.row.at {w : World} {c : StrL} (h : c.row w) (hs : c.small) : c.at w := by
 obtain ⟨b, e, hr⟩ := h
 refine ⟨by unfold maxLen; have := hs.1; omega, fun _ => ⟨b, 0, e, hr.lt, fun i hi => ?_⟩, fun i hi => by unfold maxLen; have := hs.2 i hi; omega⟩
 rw [Nat.zero_add]
 exact hr.cell hi
theorem ObjV.row.at {w : World} {t : ObjV} (h : t.row w) (hs : t.small) : t.at w := by
 obtain ⟨⟨b1, e1, r1⟩, r2, ⟨b3, e3, r3⟩, ⟨b4, e4, r4⟩⟩ := h
 obtain ⟨s1, s2, s3, s4, s5⟩ := hs
 refine ⟨⟨by unfold maxLen; omega, ?_⟩, StrL.row.at r2 s3, ⟨by unfold maxLen; omega, ?_⟩, ⟨by unfold maxLen; omega, ?_⟩, by unfold maxLen; omega⟩
 ·rw [e1]; exact CatsAt.row r1
 ·rw [e3]; exact IntsAt.row r3
 ·rw [e4]; exact CatsAt.row r4
theorem ThrV.same.small {t u : ThrV} (h : t.same u) (hs : t.small) : u.small := by
 obtain ⟨_, _, ⟨e1, _⟩, _, ⟨e2, _⟩, ⟨e3, _⟩, _⟩ := h
 unfold ThrV.small at *
 rw [e1, e2, e3]
 exact hs
theorem ObjV.same.small {t u : ObjV} (h : t.same u) (hs : t.small) : u.small := by
 obtain ⟨_, _, _, _, ⟨e1, _⟩, e2, ⟨e3, e4⟩, ⟨e5, _⟩, _, ⟨e6, _⟩⟩ := h
 unfold ObjV.small StrL.small at *
 rw [e1, e2, e3, e4, e5, e6]
 exact hs
theorem KerV.same.small {k l : KerV} (h : k.same l) (hs : k.small) : l.small := by
 obtain ⟨e1, h1, e2, h2⟩ := h
 obtain ⟨⟨n1, s1⟩, ⟨n2, s2⟩⟩ := hs
 unfold KerV.small
 rw [e1, e2]
 exact ⟨⟨n1, fun i hi => ThrV.same.small (h1 i hi) (s1 i hi)⟩, ⟨n2, fun i hi => ObjV.same.small (h2 i hi) (s2 i hi)⟩⟩
theorem G10.cells {w : World} {b ty N : Nat} {G : Nat → Value} {o : Nat} {t : ObjV} (hr : w.rowIs b ty N G) (h : G10 G o t) (ho : o + 10 ≤ N) : Cells10 w b o t :=
 ⟨(hr.cell (by omega)).trans (congrArg some h.g0), (hr.cell (by omega)).trans (congrArg some h.g1), (hr.cell (by omega)).trans (congrArg some h.g2), (hr.cell (by omega)).trans (congrArg some h.g3), (hr.cell (by omega)).trans (congrArg some h.g4), (hr.cell (by omega)).trans (congrArg some h.g5), (hr.cell (by omega)).trans (congrArg some h.g6), (hr.cell (by omega)).trans (congrArg some h.g7), (hr.cell (by omega)).trans (congrArg some h.g8), (hr.cell (by omega)).trans (congrArg some h.g9)⟩
theorem ThrRow.at {w : World} {a : Option Addr} {n : Nat} {T : Nat → ThrV} (h : ThrRow w a n T) (hs : ∀ i, i < n → (T i).small) : ThrsAt w a n T := fun _ => by
 obtain ⟨b, G, e, hr, hj⟩ := h
 refine ⟨b, 0, e, hr.lt, fun i hi => ⟨?_, ThrV.row.at (hj i hi).2 (hs i hi)⟩⟩
 rw [Nat.zero_add]
 exact G7.cells hr (hj i hi).1 (by omega)
theorem ObjRow.at {w : World} {a : Option Addr} {n : Nat} {T : Nat → ObjV} (h : ObjRow w a n T) (hs : ∀ i, i < n → (T i).small) : ObjsAt w a n T := fun _ => by
 obtain ⟨b, G, e, hr, hj⟩ := h
 refine ⟨b, 0, e, hr.lt, fun i hi => ⟨?_, ObjV.row.at (hj i hi).2 (hs i hi)⟩⟩
 rw [Nat.zero_add]
 exact G10.cells hr (hj i hi).1 (by omega)
theorem KerV.row.at {w : World} {k : KerV} (h : k.row w) (hs : k.small) : k.at w :=
 ⟨by unfold maxLen; have := hs.1.1; omega, by unfold maxLen; have := hs.2.1; omega, ThrRow.at h.1 hs.1.2, ObjRow.at h.2 hs.2.2⟩
end Go.Proofs.YthbmfbnnemgbpaaGreatDoor
namespace Go.Proofs.YthbmfbnnemgbpaaGreatDoor
open Go.RowKit Go.Deep
end Go.Proofs.YthbmfbnnemgbpaaGreatDoor
namespace Go.Proofs.YthbmfbnnemgbpaaGreatDoor
open Go.RowKit Go.Deep
def ObjV.blk (t : ObjV) : Obj := .cells #[.int .i64 t.id, .int .i64 t.kind, .int .i64 t.up, .int .i64 t.b1, t.c1.val, .string t.data, t.items.val, t.own.val, .int .i64 t.b2, t.c2.val] 88
end Go.Proofs.YthbmfbnnemgbpaaGreatDoor
namespace Go.Proofs.YthbmfbnnemgbpaaGreatDoor
open Go.RowKit Go.Deep
end Go.Proofs.YthbmfbnnemgbpaaGreatDoor
namespace Go.Proofs.YthbmfbnnemgbpaaGreatDoor
open Go.RowKit Go.Deep
end Go.Proofs.YthbmfbnnemgbpaaGreatDoor
namespace Go.Proofs.YthbmfbnnemgbpaaGreatDoor
open Go Go.RowKit Go.Deep
structure Mk (lo hi : Nat) (w w' : World) : Prop where
 os : w'.os = w.os
 tape : w'.tape = w.tape
 output : w'.output = w.output
 size : w.heap.size ≤ w'.heap.size
 block : ∀ k, k < w.heap.size → (k < lo ∨ hi ≤ k) → w'.heap[k]? = w.heap[k]?
 rows : ∀ b ty m F, w.rowIs b ty m F → ∃ F', w'.rowIs b ty m F'
theorem Mk.refl (lo hi : Nat) (w : World) : Mk lo hi w w := ⟨rfl, rfl, rfl, Nat.le_refl _, fun _ _ _ => rfl, fun _ _ _ F h => ⟨F, h⟩⟩
theorem Mk.trans {lo hi : Nat} {a b c : World} (h : Mk lo hi a b) (k : Mk lo hi b c) : Mk lo hi a c :=
 ⟨k.os.trans h.os, k.tape.trans h.tape, k.output.trans h.output, Nat.le_trans h.size k.size, fun j hj hn => (k.block j (Nat.lt_of_lt_of_le hj h.size) hn).trans (h.block j hj hn), fun b ty m F hF => by
   obtain ⟨F', h'⟩ := h.rows b ty m F hF
   exact k.rows b ty m F' h'⟩
theorem Mk.set {lo hi : Nat} {w wr : World} (h : Mk lo hi w wr) {b : Nat} (h1 : lo ≤ b) (h2 : b < hi) (i : Nat) (v : Value) : Mk lo hi w (wr.setCell ⟨b, i, none⟩ v) :=
 ⟨h.os, h.tape, h.output, by rw [nblk_setCell]; exact h.size, fun k hk hn => (blk_setCell_other _ _ _ _ (by dsimp only; omega)).trans (h.block k hk hn), fun b' ty m F hF => by
   obtain ⟨F', h'⟩ := h.rows b' ty m F hF
   by_cases e : b' = b
   ·subst e; exact ⟨_, h'.set i v⟩
   ·exact ⟨F', h'.setOther (a := ⟨b, i, none⟩) e v⟩⟩
end Go.Proofs.YthbmfbnnemgbpaaGreatDoor
namespace Go.Proofs.YthbmfbnnemgbpaaGreatDoor
open Go Go.RowKit Go.Deep
end Go.Proofs.YthbmfbnnemgbpaaGreatDoor
namespace Go.Proofs.YthbmfbnnemgbpaaGreatDoor
open Go Go.RowKit Go.Deep
end Go.Proofs.YthbmfbnnemgbpaaGreatDoor
