/- Slices that a call makes and adds to, of whatever elements: what append leaves; and lists of whole numbers by it. -/
import Derived.Test.YthbmfbnnemgbpaaGreatDoorZ5
import Derived.Maps.AppendAt
import Derived.Test.YthbmfbnnemgbpaaGreatDoorZ2
import Derived.Deep.RegionLaw
import Derived.Test.YthbmfbnnemgbpaaGreatDoorZ1
import Derived.Maps.OwnOps
import Derived.Test.YthbmfbnnemgbpaaGreatDoorZ4
namespace Go.Proofs.YthbmfbnnemgbpaaGreatDoor
open Go Go.RowKit Go.Deep Go.Maps
open Go.WideShapes (add_plain)
def LiesC (w : World) (ad : Option Addr) (n : Nat) (cs : List Value) : Prop :=
 0 < n → ∃ b off, ad = some ⟨b, off, none⟩ ∧ b < w.heap.size ∧ ∀ j u, cs[j]? = some u → w.cell? ⟨b, off + j, none⟩ = some u
theorem LiesC.below {w w' : World} {ad : Option Addr} {n : Nat} {cs : List Value} (h : LiesC w ad n cs) (hb : Below w.heap.size w w') : LiesC w' ad n cs := fun hn => by
 obtain ⟨b, off, e, hlt, hc⟩ := h hn
 exact ⟨b, off, e, Nat.lt_of_lt_of_le hlt hb.size, fun j u hu => (hb.cell (p := ⟨b, off + j, none⟩) hlt).trans (hc j u hu)⟩
theorem LiesC.own {w : World} {B e size n c : Nat} {a : Option Addr} {cs : List Value} (h : w.ownsRow B e size (.slice a n c) n cs) : LiesC w a n cs := fun hn => by
 obtain ⟨gb, cap, hv, _, hlt⟩ := World.ownsRow.form h hn
 simp only [Value.slice.injEq] at hv
 obtain ⟨rfl, _, _⟩ := hv
 have hc := World.ownsRow.cells h (g := gb) rfl
 refine ⟨gb, 0, rfl, hlt, fun j u hu => ?_⟩
 have t := hc j u hu
 rw [add_plain] at t
 exact t
theorem ownsRow_shape {w : World} {B e size n : Nat} {v : Value} {cs : List Value} (h : w.ownsRow B e size v n cs) : ∃ a c, v = .slice a n c := by
 rcases h.2 with ⟨rfl, rfl⟩ | ⟨gb, cap, cur, rfl, _⟩
 ·exact ⟨_, _, rfl⟩
 ·exact ⟨_, _, rfl⟩
section
variable {t e size bytes : Nat} {z : Value} (hT : Tryz.prog.underlying t = some (.slice e)) (hI : (Tryz.prog.info? e).map (fun i => (i.zero, i.size, i.bytes)) = some (some z, size, bytes)) (hzs : z.cells.size = size) (hsz : 0 < size)
include hT hI hzs hsz
theorem run_append_gen (w : World) (ty B : Nat) (v : Value) (n : Nat) (cs : List Value) (hown : w.ownsRow B e size v n cs) (ad : Option Addr) (m c : Nat) (cs' : List Value) (hl : cs'.length = m * size) (hc : LiesC w ad m cs') (h1 : ∀ u ∈ cs', u.oneCell' = true)
 (hm : n + m ≤ 4194304) (hby : (n + m) * bytes ≤ 140737488355328) (hB : B ≤ w.heap.size) :
 ∃ a' c' w', (Builtin.append_ #[t, t] ty #[v, .slice ad m c]).run Tryz.prog w = .ok (.slice a' (n + m) c') w' ∧ w'.ownsRow B e size (.slice a' (n + m) c') (n + m) (cs ++ cs') ∧ w.grownBy w' v.ownBlock ∧
  ((Value.slice a' (n + m) c').ownBlock = v.ownBlock ∨ (Value.slice a' (n + m) c').ownBlock = some w.heap.size) := by
 obtain ⟨i0, hi, hz0, hz1, hz2⟩ := info_parts hI
 have some' : ∀ a : Addr, (∀ j u, cs'[j]? = some u → w.cell? (a.add j) = some u) → ∃ a' c' w', (Builtin.append_ #[t, t] ty #[v, .slice (some a) m c]).run Tryz.prog w = .ok (.slice a' (n + m) c') w' ∧ w'.ownsRow B e size (.slice a' (n + m) c') (n + m) (cs ++ cs') ∧ w.grownBy w' v.ownBlock ∧
  ((Value.slice a' (n + m) c').ownBlock = v.ownBlock ∨ (Value.slice a' (n + m) c').ownBlock = some w.heap.size) := fun a hnews => by
  obtain ⟨v', w', hr, h2, h3, _, h5⟩ := run_append_own_at (P := Tryz.prog) w B t ty e i0 _ size bytes hT hi hz0 hz1 hz2 hzs hsz v n cs hown a m c cs' hl hnews h1 (by unfold maxLen; omega) hby hB
  obtain ⟨a', c', rfl⟩ := ownsRow_shape h2
  exact ⟨a', c', w', hr, h2, h3, h5⟩
 by_cases h0 : 0 < m
 ·obtain ⟨b, off, rfl, _, hcc⟩ := hc h0
  exact some' _ (fun j u hu => by rw [add_plain]; exact hcc j u hu)
 ·obtain rfl : m = 0 := by omega
  have e0 : cs' = [] := List.eq_nil_of_length_eq_zero (by omega)
  subst e0
  cases ad with
  | some a => exact some' a (fun j u hu => by simp at hu)
  | none =>
   obtain ⟨a', c', rfl⟩ := ownsRow_shape hown
   rw [List.append_nil]
   refine ⟨a', c', w, ?_, hown, ⟨rfl, rfl, rfl, Nat.le_refl _, fun _ _ _ => rfl⟩, .inl rfl⟩
   obtain ⟨_, hx⟩ := hown
   rcases hx with ⟨hv, rfl⟩ | ⟨gb, cap, cur, hv, _, _, hnc, _⟩
   ·simp only [Value.slice.injEq] at hv
    obtain ⟨rfl, _, rfl⟩ := hv
    simp [Builtin.append_, run_underlying hT, sizeOf, typeInfo, hi, Builtin.lenOf, Builtin.firstCells]
   ·simp only [Value.slice.injEq] at hv
    obtain ⟨rfl, _, rfl⟩ := hv
    simp [Builtin.append_, run_underlying hT, sizeOf, typeInfo, hi, Builtin.lenOf, Builtin.firstCells, hnc, storeCells]
theorem wp_append_gen {o : Oper} {a : Act} {K : Act → World → Prop} {Q : Exit → Act → World → Prop} (w : World) (s x : Operand)
 (ho : o.op = .call { callee := .builtin .append, args := #[s, x], argTypes := #[t, t] })
 (B : Nat) (v : Value) (n : Nat) (cs : List Value) (hs : a.eval s = v) (hown : w.ownsRow B e size v n cs) (ad : Option Addr) (m c : Nat) (cs' : List Value) (hx : a.eval x = .slice ad m c) (hl : cs'.length = m * size) (hc : LiesC w ad m cs') (h1 : ∀ u ∈ cs', u.oneCell' = true)
 (hm : n + m ≤ 4194304) (hby : (n + m) * bytes ≤ 140737488355328) (hB : B ≤ w.heap.size)
 (h : ∀ a' c' w', w'.ownsRow B e size (.slice a' (n + m) c') (n + m) (cs ++ cs') → w.grownBy w' v.ownBlock → ((Value.slice a' (n + m) c').ownBlock = v.ownBlock ∨ (Value.slice a' (n + m) c').ownBlock = some w.heap.size) → K (a.put o.dst (.slice a' (n + m) c')) w') : o.wp Tryz.prog a w K Q := by
 obtain ⟨a', c', w', hr, h2, h3, h4⟩ := run_append_gen hT hI hzs hsz w o.type B v n cs hown ad m c cs' hl hc h1 hm hby hB
 unfold Oper.wp execOp
 simp only [ho, resolve, invoke, builtin, Sem.run_bind, Sem.run_pure, Result.andThen_ok, List.map_toArray, List.map_cons, List.map_nil, hs, hx, hr]
 exact h a' c' w' h2 h3 h4
end
def OwnI (w : World) (B : Nat) (v : Value) (l : List Int) : Prop := w.ownsRow B 2 1 v l.length (l.map (Value.int .i64))
def NumL (w : World) (ad : Option Addr) (l : List Int) : Prop := LiesC w ad l.length (l.map (Value.int .i64))
theorem NumL.below {w w' : World} {ad : Option Addr} {l : List Int} (h : NumL w ad l) (hb : Below w.heap.size w w') : NumL w' ad l := LiesC.below h hb
theorem OwnI.lies {w : World} {B c : Nat} {a : Option Addr} {l : List Int} (h : OwnI w B (.slice a l.length c) l) : NumL w a l := LiesC.own h
theorem OwnI.nil (w : World) (B : Nat) : OwnI w B (.slice none 0 0) [] := World.ownsRow_nil _ _ _ _
theorem OwnI.made (w : World) (B : Nat) (hb : B ≤ w.heap.size) : OwnI (w.alloc (.cells #[] 2)) B (.slice (some ⟨w.heap.size, 0, none⟩) 0 0) [] := World.ownsRow_made w #[] 0 hb (Nat.zero_le _) rfl
theorem OwnI.alloc {w : World} {B : Nat} {v : Value} {l : List Int} (h : OwnI w B v l) (o : Obj) : OwnI (w.alloc o) B v l := World.ownsRow.alloc h o
def nthI (l : List Int) (i : Nat) : Int := l.getD i 0
theorem NumL.ints {w : World} {ad : Option Addr} {l : List Int} (h : NumL w ad l) : IntsAt w ad l.length (nthI l) := fun hn => by
 obtain ⟨b, off, e, hlt, hc⟩ := h hn
 exact ⟨b, off, e, hlt, fun i hi => hc i _ (by simp [nthI, hi])⟩
theorem IntsAt.intL {w : World} {ad : Option Addr} {n : Nat} {h : Nat → Int} (hc : IntsAt w ad n h) : NumL w ad ((List.range n).map h) := fun hn => by
 have hn' : 0 < n := by simpa using hn
 obtain ⟨b, off, e, hlt, hcc⟩ := hc hn'
 refine ⟨b, off, e, hlt, fun j u hu => ?_⟩
 by_cases hj : j < n
 ·simp [hj] at hu
  rw [← hu]
  exact hcc j hj
 ·simp [hj] at hu
theorem wpList_append_ints {ops : Array Oper} {rest : List Oper} {o : Oper} {a : Act} {Q : Exit → Act → World → Prop} (w : World) (hgd : o.guard = none) (s x : Operand)
 (ho : o.op = .call { callee := .builtin .append, args := #[s, x], argTypes := #[46, 46] })
 (B : Nat) (v : Value) (l : List Int) (hs : a.eval s = v) (hown : OwnI w B v l) (ad : Option Addr) (m c : Nat) (l' : List Int) (hx : a.eval x = .slice ad m c) (hm' : l'.length = m) (hc : NumL w ad l')
 (hm : l.length + m ≤ 4194304) (hB : B ≤ w.heap.size)
 (h : ∀ a' c' w', OwnI w' B (.slice a' (l ++ l').length c') (l ++ l') → w.grownBy w' v.ownBlock → ((Value.slice a' (l ++ l').length c').ownBlock = v.ownBlock ∨ (Value.slice a' (l ++ l').length c').ownBlock = some w.heap.size) → wpList Tryz.prog ops Q rest (a.put o.dst (.slice a' (l ++ l').length c')) w') : wpList Tryz.prog ops Q (o :: rest) a w := by
 subst hm'
 refine wpList_plain hgd fun _ hK => wp_append_gen Tryz.underlying46 Tryz.info2 rfl (by omega) w s x ho B v l.length _ hs hown ad l'.length c _ hx (by simp) hc (fun u hu => by obtain ⟨y, _, rfl⟩ := List.mem_map.1 hu; rfl) hm (by omega) hB fun a' c' w' h2 h3 h4 => hK _ _ ?_
 rw [← List.map_append, ← List.length_append] at h2
 rw [← List.length_append] at h4 ⊢
 exact h a' c' w' h2 h3 h4
theorem wpList_append_intsR {ops : Array Oper} {rest : List Oper} {o : Oper} {a : Act} {Q : Exit → Act → World → Prop} (w : World) (hgd : o.guard = none) (s x : Operand)
 (ho : o.op = .call { callee := .builtin .append, args := #[s, x], argTypes := #[46, 46] })
 (B : Nat) (v : Value) (l : List Int) (hs : a.eval s = v) (hown : OwnI w B v l) (ad : Option Addr) (m c : Nat) (l' : List Int) (hx : a.eval x = .slice ad m c) (hm' : l'.length = m) (hc : NumL w ad l') (R : List Int) (hR : R = l ++ l')
 (hm : R.length ≤ 4194304) (hB : B ≤ w.heap.size)
 (h : ∀ a' c' w', OwnI w' B (.slice a' R.length c') R → w.grownBy w' v.ownBlock → ((Value.slice a' R.length c').ownBlock = v.ownBlock ∨ (Value.slice a' R.length c').ownBlock = some w.heap.size) → wpList Tryz.prog ops Q rest (a.put o.dst (.slice a' R.length c')) w') : wpList Tryz.prog ops Q (o :: rest) a w := by
 subst hR
 exact wpList_append_ints w hgd s x ho B v l hs hown ad m c l' hx hm' hc (by rw [List.length_append] at hm; omega) hB h
theorem NumL.take {w : World} {b off : Nat} {l : List Int} (h : NumL w (some ⟨b, off, none⟩) l) (k : Nat) : NumL w (some ⟨b, off, none⟩) (l.take k) := fun hn => by
 have hl : 0 < l.length := by simp at hn; omega
 obtain ⟨b', off', e, hlt, hc⟩ := h hl
 cases e
 refine ⟨b, off, rfl, hlt, fun j u hu => hc j u ?_⟩
 rw [List.map_take, List.getElem?_take] at hu
 split at hu
 ·exact hu
 ·cases hu
theorem NumL.drop {w : World} {b off : Nat} {l : List Int} (h : NumL w (some ⟨b, off, none⟩) l) (k : Nat) : NumL w (some ⟨b, off + k, none⟩) (l.drop k) := fun hn => by
 have hl : 0 < l.length := by simp at hn; omega
 obtain ⟨b', off', e, hlt, hc⟩ := h hl
 cases e
 refine ⟨b, off + k, rfl, hlt, fun j u hu => ?_⟩
 rw [List.map_drop, List.getElem?_drop] at hu
 have := hc (k + j) u hu
 rw [Nat.add_assoc]
 exact this
theorem NumL.one {w : World} (x : Int) : NumL (w.alloc (.cells #[.int .i64 x] 2)) (some ⟨w.heap.size, 0, none⟩) [x] := fun _ =>
 ⟨w.heap.size, 0, rfl, by simp, fun j u hu => by
   cases j with
   | zero => simp at hu; subst hu; simp
   | succ j => simp at hu⟩
theorem NumL.none (w : World) (ad : Option Addr) : NumL w ad [] := fun h => by simp at h
end Go.Proofs.YthbmfbnnemgbpaaGreatDoor
namespace Go.Proofs.YthbmfbnnemgbpaaGreatDoor
open Go Go.RowKit Go.Deep Go.Maps
theorem own_block {w : World} {B : Nat} {v : Value} {l : List Int} (h : OwnI w B v l) {g : Nat} (e : v.ownBlock = some g) : ∃ cur, w.heap[g]? = some (.cells cur 2) := by
 rcases h.2 with ⟨rfl, _⟩ | ⟨g', cap, cur, rfl, _, hb, _⟩
 ·cases e
 ·simp only [Value.ownBlock, Option.some.injEq] at e
  subst e
  exact ⟨cur, hb⟩
end Go.Proofs.YthbmfbnnemgbpaaGreatDoor
namespace Go.Proofs.YthbmfbnnemgbpaaGreatDoor
open Go Go.RowKit Go.Deep Go.Maps
def kidsTo (ids ups : Nat → Int) (q i : Nat) : List Int := ((List.range q).filter (fun j => ups j == ids i)).map ids
theorem kidsTo_len (ids ups : Nat → Int) (q i : Nat) : (kidsTo ids ups q i).length ≤ q := by
 unfold kidsTo
 rw [List.length_map]
 exact Nat.le_trans (List.length_filter_le _ _) (by simp)
theorem below_drew {w w' : World} (h : Below w.heap.size w w') : Below w.heap.size w w'.drew := below_drewN h 1
theorem below_grown {B : Nat} {w w' : World} {row : Option Nat} (h : w.grownBy w' row) (hB : B ≤ w.heap.size) (hr : ∀ j, row = some j → B ≤ j) : Below B w w' :=
 ⟨h.os, h.tape, h.output, h.size, fun k hk => h.block k (by omega) (fun e => by have := hr k e.symm; omega)⟩
end Go.Proofs.YthbmfbnnemgbpaaGreatDoor
namespace Go.Proofs.YthbmfbnnemgbpaaGreatDoor
open Go Go.RowKit Go.Deep Go.Maps
theorem grown_set {a b : World} {P : Nat} (h : a.grownBy b (some P)) (i : Nat) (v : Value) : a.grownBy (b.setCell ⟨P, i, none⟩ v) (some P) :=
 ⟨h.os, h.tape, h.output, by rw [nblk_setCell]; exact h.size, fun j hj hne => (blk_setCell_other _ _ _ _ (by dsimp only; intro e; exact hne (by rw [e]))).trans (h.block j hj hne)⟩
theorem grown_refl (a : World) (P : Nat) : a.grownBy a (some P) := ⟨rfl, rfl, rfl, Nat.le_refl _, fun _ _ _ => rfl⟩
def RowI (w : World) (a : Option Addr) (b n : Nat) : Prop := 0 < n → a = some ⟨b, 0, none⟩ ∧ ∃ m F, n ≤ m ∧ w.rowIs b 2 m F
theorem RowI.below {w w' : World} {a : Option Addr} {b n : Nat} (h : RowI w a b n) (hb : Below w.heap.size w w') : RowI w' a b n := fun h0 => by
 obtain ⟨e, m, F, hm, hr⟩ := h h0
 exact ⟨e, m, F, hm, hr.of_block (hb.block b hr.lt)⟩
theorem RowI.grown {w w' : World} {a : Option Addr} {b n : Nat} {row : Option Nat} (h : RowI w a b n) (hg : w.grownBy w' row) (hne : some b ≠ row) : RowI w' a b n := fun h0 => by
 obtain ⟨e, m, F, hm, hr⟩ := h h0
 exact ⟨e, m, F, hm, hr.of_block (hg.block b hr.lt hne)⟩
theorem RowI.lt {w : World} {a : Option Addr} {b n : Nat} (h : RowI w a b n) (h0 : 0 < n) : b < w.heap.size := by
 obtain ⟨_, m, F, _, hr⟩ := h h0
 exact hr.lt
theorem IntsAt.grown {w w' : World} {a : Option Addr} {b n : Nat} {h : Nat → Int} {row : Option Nat} (hc : IntsAt w a n h) (hr : RowI w a b n) (hg : w.grownBy w' row) (hne : 0 < n → some b ≠ row) : IntsAt w' a n h := fun h0 => by
 obtain ⟨b', off, e, hlt, hcc⟩ := hc h0
 obtain ⟨e2, m, F, hm, hrow⟩ := hr h0
 have e3 := e.symm.trans e2
 simp only [Option.some.injEq, Addr.mk.injEq] at e3
 obtain ⟨rfl, _, _⟩ := e3
 refine ⟨b', off, e, Nat.lt_of_lt_of_le hlt hg.size, fun i hi => ?_⟩
 have hb := hg.block b' hlt (hne h0)
 exact (by simp only [World.cell?]; rw [hb] : w'.cell? ⟨b', off + i, none⟩ = w.cell? ⟨b', off + i, none⟩).trans (hcc i hi)
theorem OwnI.of_block {w w' : World} {B : Nat} {v : Value} {l : List Int} (h : OwnI w B v l) (hb : ∀ g, v.ownBlock = some g → w'.heap[g]? = w.heap[g]?) : OwnI w' B v l := by
 refine ⟨h.1, ?_⟩
 rcases h.2 with hn | ⟨g, cap, cur, rfl, h1, h2, rest⟩
 ·exact .inl hn
 ·exact .inr ⟨g, cap, cur, rfl, h1, (hb g rfl).trans h2, rest⟩
theorem OwnI.below {w w' : World} {B : Nat} {v : Value} {l : List Int} (h : OwnI w B v l) (hb : Below w.heap.size w w') : OwnI w' B v l := h.of_block fun g hg => hb.block g (World.ownsRow.lt h g hg).2
theorem OwnI.mk {lo hi : Nat} {w w' : World} {B : Nat} {v : Value} {l : List Int} (h : OwnI w B v l) (hm : Mk lo hi w w') (hb : ∀ g, v.ownBlock = some g → g < lo ∨ hi ≤ g) : OwnI w' B v l := h.of_block fun g hg => hm.block g (World.ownsRow.lt h g hg).2 (hb g hg)
theorem Mk.below {lo hi : Nat} {w w0 w' : World} (h0 : Below w0.heap.size w0 w) (h : Mk lo hi w w') (hB : w0.heap.size ≤ lo) : Below w0.heap.size w0 w' :=
 ⟨h.os.trans h0.os, h.tape.trans h0.tape, h.output.trans h0.output, Nat.le_trans h0.size h.size, fun k hk => (h.block k (Nat.lt_of_lt_of_le hk h0.size) (.inl (by omega))).trans (h0.block k hk)⟩
end Go.Proofs.YthbmfbnnemgbpaaGreatDoor
namespace Go.Proofs.YthbmfbnnemgbpaaGreatDoor
open Go Go.RowKit Go.Deep Go.Maps
theorem Blk.grown {w w' : World} {P : Nat} {o : Obj} {row : Option Nat} (h : Blk w P o) (hg : w.grownBy w' row) (hne : some P ≠ row) : Blk w' P o := (hg.block P h.lt hne).trans h
theorem kidsTo_map (ids ups : Nat → Int) (n i : Nat) : kidsTo ids ups n i = (kidsI ids ups n i).map ids := rfl
end Go.Proofs.YthbmfbnnemgbpaaGreatDoor
namespace Go.Proofs.YthbmfbnnemgbpaaGreatDoor
open Go.RowKit Go.Deep Go.Maps
theorem grown_trans {a b c : World} {P : Nat} {row : Option Nat} (h : a.grownBy b (some P)) (k : b.grownBy c row) (hr : ∀ j, row = some j → a.heap.size ≤ j) : a.grownBy c (some P) :=
 ⟨k.os.trans h.os, k.tape.trans h.tape, k.output.trans h.output, Nat.le_trans h.size k.size, fun j hj hne => (k.block j (Nat.lt_of_lt_of_le hj h.size) (fun e => by have := hr j e.symm; omega)).trans (h.block j hj hne)⟩
theorem Blk.set1 {W : World} {P t : Nat} {x y : Value} (h : Blk W P (.cells #[x, y] t)) (v : Value) : Blk (W.setCell ⟨P, 1, none⟩ v) P (.cells #[x, v] t) := by
 unfold Blk at *
 simp [World.setCell, Array.getElem?_modify, h]
theorem Blk.frozen2 {W : World} {P t : Nat} {x y : Value} (h : Blk W P (.cells #[x, y] t)) (i : Nat) : W.frozen? ⟨P, i, none⟩ = false := by
 unfold Blk at h
 simp [World.frozen?, h]
theorem OwnCats.alloc {w : World} {B n : Nat} {v : Value} {f g : Nat → Int} (h : OwnCats w B v n f g) (o : Obj) : OwnCats (w.alloc o) B v n f g := World.ownsRow.alloc h o
theorem one_cat (w : World) (x y : Int) : CatsAt (w.alloc (.cells #[.int .i64 x, .int .i64 y] 63)) (some ⟨w.heap.size, 0, none⟩) 1 (fun _ => x) (fun _ => y) := fun _ => by
 obtain ⟨h1, h2⟩ := Blk.two (Blk.new w (.cells #[.int .i64 x, .int .i64 y] 63))
 refine ⟨w.heap.size, 0, rfl, by simp, fun i hi => ?_⟩
 obtain rfl : i = 0 := by omega
 exact ⟨h1, h2⟩
def fstAt (l : List (Int × Int)) (i : Nat) : Int := (l.getD i (0, 0)).1
def sndAt (l : List (Int × Int)) (i : Nat) : Int := (l.getD i (0, 0)).2
theorem fstAt_snoc_lt {l : List (Int × Int)} {p : Int × Int} {i : Nat} (h : i < l.length) : fstAt (l ++ [p]) i = fstAt l i := by
 simp [fstAt, List.getElem?_append_left h]
theorem sndAt_snoc_lt {l : List (Int × Int)} {p : Int × Int} {i : Nat} (h : i < l.length) : sndAt (l ++ [p]) i = sndAt l i := by
 simp [sndAt, List.getElem?_append_left h]
theorem fstAt_snoc_eq (l : List (Int × Int)) (p : Int × Int) : fstAt (l ++ [p]) l.length = p.1 := by simp [fstAt]
theorem sndAt_snoc_eq (l : List (Int × Int)) (p : Int × Int) : sndAt (l ++ [p]) l.length = p.2 := by simp [sndAt]
theorem catCells_congr {f g f' g' : Nat → Int} {n : Nat} (hf : ∀ i, i < n → f i = f' i) (hg : ∀ i, i < n → g i = g' i) : catCells f g n = catCells f' g' n := by
 unfold catCells
 apply List.map_congr_left
 intro j hj
 have hj' : j < n * 2 := List.mem_range.1 hj
 have : j / 2 < n := by omega
 unfold pairCell
 rw [hf _ this, hg _ this]
theorem OwnCats.congr {w : World} {B n : Nat} {v : Value} {f g f' g' : Nat → Int} (h : OwnCats w B v n f g) (hf : ∀ i, i < n → f i = f' i) (hg : ∀ i, i < n → g i = g' i) : OwnCats w B v n f' g' := by
 unfold OwnCats at *
 rw [← catCells_congr hf hg]; exact h
def OwnList (w : World) (B : Nat) (v : Value) (l : List (Int × Int)) : Prop := OwnCats w B v l.length (fstAt l) (sndAt l)
theorem OwnList.snoc {w : World} {B : Nat} {v : Value} {l : List (Int × Int)} {x y : Int} (h : OwnCats w B v (l.length + 1) (glue l.length (fstAt l) (fun _ => x)) (glue l.length (sndAt l) (fun _ => y))) : OwnList w B v (l ++ [(x, y)]) := by
 unfold OwnList
 rw [List.length_append]
 refine h.congr (fun i hi => ?_) (fun i hi => ?_)
 ·by_cases e : i < l.length
  ·simp only [glue, e, if_true]; rw [fstAt_snoc_lt e]
  ·obtain rfl : i = l.length := by have hi' : i < l.length + 1 := hi; omega
   rw [fstAt_snoc_eq]; simp [glue]
 ·by_cases e : i < l.length
  ·simp only [glue, e, if_true]; rw [sndAt_snoc_lt e]
  ·obtain rfl : i = l.length := by have hi' : i < l.length + 1 := hi; omega
   rw [sndAt_snoc_eq]; simp [glue]
theorem OwnList.below {w w' : World} {B : Nat} {v : Value} {l : List (Int × Int)} (h : OwnList w B v l) (hb : Below w.heap.size w w') : OwnList w' B v l := by
 refine ⟨h.1, ?_⟩
 rcases h.2 with hn | ⟨g, cap, cur, hv, hbg, hg, rest⟩
 ·exact .inl hn
 ·exact .inr ⟨g, cap, cur, hv, hbg, (hb.block g (Array.getElem?_eq_some_iff.1 hg).1).trans hg, rest⟩
theorem OwnList.set {w : World} {B : Nat} {v : Value} {l : List (Int × Int)} (h : OwnList w B v l) {P : Nat} (hP : P < B) (i : Nat) (x : Value) : OwnList (w.setCell ⟨P, i, none⟩ x) B v l :=
 World.ownsRow.kept h (grown_set (grown_refl w P) i x) (Or.inr (fun e => by have := (World.ownsRow.lt h _ e).1; omega))
theorem OwnList.low {w : World} {B B' : Nat} {v : Value} {l : List (Int × Int)} (h : OwnList w B v l) (hB : B' ≤ B) : OwnList w B' v l := by
 refine ⟨h.1, ?_⟩
 rcases h.2 with hn | ⟨g, cap, cur, hv, hb, rest⟩
 ·exact .inl hn
 ·exact .inr ⟨g, cap, cur, hv, by omega, rest⟩
theorem ownsRow_base_a {w : World} {B B' e size n : Nat} {v : Value} {cs : List Value} (h : w.ownsRow B e size v n cs) (hB : B' ≤ B) : w.ownsRow B' e size v n cs := by
 refine ⟨h.1, ?_⟩
 rcases h.2 with hn | ⟨g, cap, cur, hv, hbg, rest⟩
 ·exact .inl hn
 ·exact .inr ⟨g, cap, cur, hv, Nat.le_trans hB hbg, rest⟩
theorem grown_below {a b c : World} {P : Nat} (h : a.grownBy b (some P)) (k : Below b.heap.size b c) : a.grownBy c (some P) :=
 ⟨k.os.trans h.os, k.tape.trans h.tape, k.output.trans h.output, Nat.le_trans h.size k.size, fun j hj hne => (k.block j (Nat.lt_of_lt_of_le hj h.size)).trans (h.block j hj hne)⟩
theorem Blk.set0 {W : World} {P t : Nat} {x y : Value} (h : Blk W P (.cells #[x, y] t)) (v : Value) : Blk (W.setCell ⟨P, 0, none⟩ v) P (.cells #[v, y] t) := by
 unfold Blk at *
 simp [World.setCell, Array.getElem?_modify, h]
end Go.Proofs.YthbmfbnnemgbpaaGreatDoor
namespace Go.Proofs.YthbmfbnnemgbpaaGreatDoor
open Go.RowKit Go.Deep Go.Maps
end Go.Proofs.YthbmfbnnemgbpaaGreatDoor
namespace Go.Proofs.YthbmfbnnemgbpaaGreatDoor
open Go.RowKit Go.Deep Go.Maps
def fin (b : Int) : Option (List (Int × Int)) → Int × List (Int × Int) × Bool
 | some cats => if labOk b cats.length (fstAt cats) (sndAt cats) = true then (b, cats, true) else (0, [], false)
 | none => (0, [], false)
def readL (L : List UInt8) : Int × List (Int × Int) × Bool :=
 if okD (cutL 44 L).1 = true then fin (numL (cutL 44 L).1) (gather 12 (cutL 44 L).2.1 (cutL 44 L).2.2 []) else (0, [], false)
def RPost (r : Int × List (Int × Int) × Bool) (w : World) (e : Ending) (w' : World) : Prop :=
 ∃ a k, e = .returned (.tuple #[.agg #[.int .i64 r.1, .slice a r.2.1.length k], .bool r.2.2]) ∧ OwnList w' w.heap.size (.slice a r.2.1.length k) r.2.1 ∧ Below w.heap.size w w'
theorem OwnList.nil (w : World) (B : Nat) : OwnList w B (.slice none 0 0) [] := OwnCats.nil _ _ _ _
theorem RPost.no {r : Int × List (Int × Int) × Bool} {w w' : World} (hr : r = (0, [], false)) (hb : Below w.heap.size w w') : RPost r w (.returned (.tuple #[.agg #[.int .i64 0, .slice none 0 0], .bool false])) w' := by
 subst hr
 exact ⟨none, 0, rfl, OwnList.nil _ _, hb⟩
theorem RPost.yes {r : Int × List (Int × Int) × Bool} {b : Int} {l : List (Int × Int)} {a : Option Addr} {k : Nat} {w w' : World} (hr : r = (b, l, true)) (ho : OwnList w' w.heap.size (.slice a l.length k) l) (hb : Below w.heap.size w w') : RPost r w (.returned (.tuple #[.agg #[.int .i64 b, .slice a l.length k], .bool true])) w' := by
 subst hr
 exact ⟨a, k, rfl, ho, hb⟩
theorem cutL_more {c : UInt8} {L : List UInt8} (h : (cutL c L).2.2 = true) : (cutL c L).2.1.length + 1 ≤ L.length := by
 have := congrArg List.length (cutL_join c L)
 rw [h, if_pos rfl, List.length_append, List.length_cons] at this
 omega
def strN : Value → Nat
 | .string s => s.size
 | _ => 0
def boolN : Value → Nat
 | .bool true => 1
 | _ => 0
theorem cut_measure (L : List UInt8) : (cutL 44 L).2.1.length + (if (cutL 44 L).2.2 = true then 1 else 0) < L.length + 1 := by
 cases h : (cutL 44 L).2.2 with
 | true => have := cutL_more h; simp; omega
 | false => have := cutL_none 44 L h; rw [this]; simp
theorem gather_false (n : Nat) (R : List UInt8) (l : List (Int × Int)) : gather n R false l = some l := by cases n <;> rfl
theorem gather_full (R : List UInt8) (l : List (Int × Int)) : gather 0 R true l = none := rfl
theorem gather_bad (n : Nat) (R : List UInt8) (l : List (Int × Int)) (h : catOkL (cutL 44 R).1 = false) : gather n R true l = none := by
 cases n with
 | zero => rfl
 | succ n => simp [gather, h]
theorem gather_next (n : Nat) (R : List UInt8) (l : List (Int × Int)) (h : catOkL (cutL 44 R).1 = true) : gather (n + 1) R true l = gather n (cutL 44 R).2.1 (cutL 44 R).2.2 (l ++ [catL (cutL 44 R).1]) := by simp [gather, h]
theorem catsTo_list (l : List (Int × Int)) : catsTo (fstAt l) (sndAt l) l.length = l := by
 apply List.ext_getElem
 ·simp [catsTo]
 ·intro i h1 h2
  simp [catsTo, fstAt, sndAt, h2]
def ltext (base : Int) (n : Nat) (f g : Nat → Int) : List UInt8 := if labOk base n f g = true then txt base (catsTo f g n) else []
set_option maxRecDepth 100000 in
set_option maxHeartbeats 2000000 in
theorem specLabelText_any (base : Int) (a : Option Addr) (n cap : Nat) (f g : Nat → Int) (w : World) (hn : n ≤ maxLen) (hc : CatsAt w a n f g) :
 Calls Tryz.prog 60 #[.agg #[.int .i64 base, .slice a n cap]] w fun e w' => e = .returned (.string ⟨(ltext base n f g).toArray⟩) ∧ Below w.heap.size w w' := by
 have L0 := (Below.refl _ w).alloc (Nat.le_refl _) (.cells #[.int .i64 base, .slice a n cap] 26)
 have A0 := Blk.new w (.cells #[.int .i64 base, .slice a n cap] 26)
 obtain ⟨x1, x2⟩ := A0.two
 go_enter Tryz.func60, Tryz.ntmps60
 go_wp2_with fail
 refine (specOk_any _ _ _ _ f g _ hn (hc.below L0)).mono ?_
 rintro e w1 ⟨rfl, hb1⟩
 have L1 : Below w.heap.size w w1 := L0.trans (hb1.mono L0.size)
 have A1 := A0.below hb1
 clear x1 x2 A0 L0 hb1
 obtain ⟨x1, x2⟩ := A1.two
 cases h : labOk base n f g with
 | false =>
  go_wp2
  go_ret
  exact ⟨by simp [ltext, h], L1⟩
 | true =>
  obtain ⟨h1, h2, h3⟩ := labOk_out h
  have h1' := inB_iff.1 h1
  go_wp2_with fail
  refine (l1Text_any _ _ _ _ f g _ h2 (hc.below L1) (by omega) (fun i hi => by have := catOk_iff.1 (h3 i hi); omega) (fun i hi => by have := catOk_iff.1 (h3 i hi); omega)).mono ?_
  rintro e w2 ⟨rfl, hb2⟩
  clear h3
  go_wp2
  go_ret
  exact ⟨by simp [ltext, h], L1.trans (hb2.mono L1.size)⟩
end Go.Proofs.YthbmfbnnemgbpaaGreatDoor
