/- ReadStep of the model. -/
import Derived.Test.YtcpphobokdkkeaaDoorTA
namespace Go.Proofs.YtcpphobokdkkeaaDoor
open Go Go.RowKit Go.Deep Go.Maps

theorem Tryd.info2 : (Tryd.prog.info? 2).map (fun i => (i.zero, i.size, i.bytes)) = some (some (.int .i64 0), 1, 8) := by kernel_rfl
def ncells (l : List Int) : List Value := l.map (Value.int .i64)
def OwnN (w : World) (B : Nat) (v : Value) (l : List Int) : Prop := w.ownsRow B 2 1 v l.length (ncells l)
theorem OwnN.below {w w' : World} {B : Nat} {v : Value} {l : List Int} (h : OwnN w B v l) (hb : Below w.heap.size w w') : OwnN w' B v l := by
  refine ⟨h.1, ?_⟩
  rcases h.2 with hn | ⟨g, cap, cur, hv, hbg, hg, rest⟩
  · exact .inl hn
  · exact .inr ⟨g, cap, cur, hv, hbg, (hb.block g (Array.getElem?_eq_some_iff.1 hg).1).trans hg, rest⟩
theorem OwnN.alloc {w : World} {B : Nat} {v : Value} {l : List Int} (h : OwnN w B v l) (o : Obj) : OwnN (w.alloc o) B v l := World.ownsRow.alloc h o
theorem OwnN.made (w : World) (B : Nat) (hb : B ≤ w.heap.size) : OwnN (w.alloc (.cells #[] 2)) B (.slice (some ⟨w.heap.size, 0, none⟩) 0 0) [] := World.ownsRow_made w #[] 0 hb (Nat.zero_le _) rfl
theorem one_num {w : World} (x : Int) : LiesC (w.alloc (.cells #[.int .i64 x] 2)) (some ⟨w.heap.size, 0, none⟩) 1 [.int .i64 x] := fun _ =>
  ⟨w.heap.size, 0, rfl, by simp, fun j u hu => by
    cases j with
    | zero => simp at hu; subst hu; simp
    | succ j => simp at hu⟩
theorem wpList_append_num {ops : Array Oper} {rest : List Oper} {o : Oper} {a : Act} {Q : Exit → Act → World → Prop} (w : World) (hgd : o.guard = none) (s x : Operand)
    (ho : o.op = .call { callee := .builtin .append, args := #[s, x], argTypes := #[48, 48] })
    (B : Nat) (v : Value) (l : List Int) (hs : a.eval s = v) (hown : OwnN w B v l) (ad : Option Addr) (c : Nat) (r : Int) (hx : a.eval x = .slice ad 1 c) (hc : LiesC w ad 1 [.int .i64 r])
    (hm : l.length ≤ 2000000) (hB : B ≤ w.heap.size)
    (h : ∀ g c' w', OwnN w' B (.slice (some ⟨g, 0, none⟩) (l ++ [r]).length c') (l ++ [r]) → w.grownBy w' v.ownBlock → wpList Tryd.prog ops Q rest (a.put o.dst (.slice (some ⟨g, 0, none⟩) (l ++ [r]).length c')) w') : wpList Tryd.prog ops Q (o :: rest) a w := by
  refine wpList_plain hgd fun _ hK => wp_append_gen Tryd.underlying48 Tryd.info2 rfl (by omega) w s x ho B v l.length _ hs hown ad 1 c [.int .i64 r] hx (by simp) hc (fun u hu => by simp at hu; subst hu; rfl) (by omega) (by omega) hB fun a' c' w' h2 h3 _ => hK _ _ ?_
  have e1 : ncells l ++ [Value.int .i64 r] = ncells (l ++ [r]) := by simp [ncells]
  have e2 : l.length + 1 = (l ++ [r]).length := by simp
  rw [e1] at h2
  obtain ⟨g, cap, hv, _, _⟩ := World.ownsRow.form h2 (by omega)
  simp only [Value.slice.injEq] at hv
  obtain ⟨rfl, _, _⟩ := hv
  rw [e2] at h2 ⊢
  exact h g c' w' h2 h3
theorem OwnN.cells {w : World} {B c n g : Nat} {l : List Int} (h : OwnN w B (.slice (some ⟨g, 0, none⟩) n c) l) : ∀ j u, l[j]? = some u → w.cell? ⟨g, j, none⟩ = some (.int .i64 u) := fun j u hu => by
  have t := World.ownsRow.cells h (g := g) rfl j (.int .i64 u) (by simp [ncells, hu])
  rw [Go.WideShapes.add_plain] at t
  simpa using t

/-- what ReadStep answers -/
structure StepR where
  th : Int
  kind : Int
  id : Int
  to' : Int
  cat : Int
  d : ByteArray
  b1 : Int
  l1 : List (Int × Int)
  b2 : Int
  l2 : List (Int × Int)
  ok : Bool
def noS : StepR := ⟨0, 0, 0, 0, 0, ⟨#[]⟩, 0, [], 0, [], false⟩
def yesS (L : List UInt8) : StepR := ⟨nm 0 L, nm 1 L, nm 2 L, nm 3 L, nm 4 L, ⟨(rst 7 L).toArray⟩, (rl 5 L).1, (rl 5 L).2.1, (rl 6 L).1, (rl 6 L).2.1, true⟩
def readS (L : List UInt8) : StepR := if strictS L = true then yesS L else noS
def StepR.val (r : StepR) (a1 : Option Addr) (k1 : Nat) (a2 : Option Addr) (k2 : Nat) : Value := .tuple #[.agg #[.int .i64 r.th, .int .i64 r.kind, .int .i64 r.id, .int .i64 r.to', .int .i64 r.cat, .string r.d, .int .i64 r.b1, .slice a1 r.l1.length k1, .int .i64 r.b2, .slice a2 r.l2.length k2], .bool r.ok]
def SPost (r : StepR) (w : World) (e : Ending) (w' : World) : Prop :=
  ∃ a1 k1 a2 k2, e = .returned (r.val a1 k1 a2 k2) ∧ CatsAt w' a1 r.l1.length (fstAt r.l1) (sndAt r.l1) ∧ CatsAt w' a2 r.l2.length (fstAt r.l2) (sndAt r.l2) ∧ Below w.heap.size w w'

theorem SPost.no {r : StepR} {w w' : World} (hr : r = noS) (hb : Below w.heap.size w w') : SPost r w (.returned (noS.val none 0 none 0)) w' := by
  subst hr
  exact ⟨none, 0, none, 0, rfl, fun h => absurd h (by simp [noS]), fun h => absurd h (by simp [noS]), hb⟩
theorem SPost.yes {L : List UInt8} {r : StepR} {w w' : World} {a1 a2 : Option Addr} {k1 k2 : Nat} (hr : r = yesS L) (h1 : CatsAt w' a1 (rl 5 L).2.1.length (fstAt (rl 5 L).2.1) (sndAt (rl 5 L).2.1)) (h2 : CatsAt w' a2 (rl 6 L).2.1.length (fstAt (rl 6 L).2.1) (sndAt (rl 6 L).2.1)) (hb : Below w.heap.size w w') : SPost r w (.returned (.tuple #[.agg #[.int .i64 (nm 0 L), .int .i64 (nm 1 L), .int .i64 (nm 2 L), .int .i64 (nm 3 L), .int .i64 (nm 4 L), .string ⟨(rst 7 L).toArray⟩, .int .i64 (rl 5 L).1, .slice a1 (rl 5 L).2.1.length k1, .int .i64 (rl 6 L).1, .slice a2 (rl 6 L).2.1.length k2], .bool true])) w' := by
  subst hr
  refine ⟨a1, k1, a2, k2, ?_, ?_, ?_, hb⟩
  · simp only [yesS, StepR.val]
  · simp only [yesS]; exact h1
  · simp only [yesS]; exact h2
theorem Blk.setAt {W : World} {P t i : Nat} {cs : Array Value} (h : Blk W P (.cells cs t)) (v : Value) : Blk (W.setCell ⟨P, i, none⟩ v) P (.cells (cs.setIfInBounds i v) t) := by
  unfold Blk at *
  simp [World.setCell, Array.getElem?_modify, h]
theorem Blk.all10 {W : World} {P t : Nat} {z0 z1 z2 z3 z4 z5 z6 z7 z8 z9 : Value} (h : Blk W P (.cells #[z0, z1, z2, z3, z4, z5, z6, z7, z8, z9] t)) (x0 x1 x2 x3 x4 x5 x6 x7 x8 x9 : Value) :
    Blk ((((((((((W.setCell ⟨P, 0, none⟩ x0).setCell ⟨P, 1, none⟩ x1).setCell ⟨P, 2, none⟩ x2).setCell ⟨P, 3, none⟩ x3).setCell ⟨P, 4, none⟩ x4).setCell ⟨P, 5, none⟩ x5).setCell ⟨P, 6, none⟩ x6).setCell ⟨P, 7, none⟩ x7).setCell ⟨P, 8, none⟩ x8).setCell ⟨P, 9, none⟩ x9) P (.cells #[x0, x1, x2, x3, x4, x5, x6, x7, x8, x9] t) := by
  have h0 : Blk _ P (.cells #[x0, z1, z2, z3, z4, z5, z6, z7, z8, z9] t) := h.setAt (i := 0) x0
  have h1 : Blk _ P (.cells #[x0, x1, z2, z3, z4, z5, z6, z7, z8, z9] t) := h0.setAt (i := 1) x1
  have h2 : Blk _ P (.cells #[x0, x1, x2, z3, z4, z5, z6, z7, z8, z9] t) := h1.setAt (i := 2) x2
  have h3 : Blk _ P (.cells #[x0, x1, x2, x3, z4, z5, z6, z7, z8, z9] t) := h2.setAt (i := 3) x3
  have h4 : Blk _ P (.cells #[x0, x1, x2, x3, x4, z5, z6, z7, z8, z9] t) := h3.setAt (i := 4) x4
  have h5 : Blk _ P (.cells #[x0, x1, x2, x3, x4, x5, z6, z7, z8, z9] t) := h4.setAt (i := 5) x5
  have h6 : Blk _ P (.cells #[x0, x1, x2, x3, x4, x5, x6, z7, z8, z9] t) := h5.setAt (i := 6) x6
  have h7 : Blk _ P (.cells #[x0, x1, x2, x3, x4, x5, x6, x7, z8, z9] t) := h6.setAt (i := 7) x7
  have h8 : Blk _ P (.cells #[x0, x1, x2, x3, x4, x5, x6, x7, x8, z9] t) := h7.setAt (i := 8) x8
  exact h8.setAt (i := 9) x9
theorem Blk.warm {W : World} {P t : Nat} {cs : Array Value} (h : Blk W P (.cells cs t)) (i : Nat) : W.frozen? ⟨P, i, none⟩ = false := by
  unfold Blk at h
  simp [World.frozen?, h]
theorem Blk.other {W : World} {P Q i : Nat} {o : Obj} (h : Blk W P o) (hne : Q ≠ P) (v : Value) : Blk (W.setCell ⟨Q, i, none⟩ v) P o := by
  unfold Blk at *
  simp [World.setCell, Array.getElem?_modify, h, hne]
set_option maxRecDepth 100000 in
theorem results10 (tmps : Array Value) (W : World) (P : Nat) (b : Bool) (x0 x1 x2 x3 x4 x5 x6 x7 x8 x9 : Value) (h : Blk W P (.cells #[x0, x1, x2, x3, x4, x5, x6, x7, x8, x9] 33)) (h2 : tmps[2]? = some (.pointer (some ⟨P, 0, none⟩))) (h3 : tmps[3]? = some (.bool b)) :
    (results Tryd.f10 tmps).run Tryd.prog W = .ok (.tuple #[.agg #[x0, x1, x2, x3, x4, x5, x6, x7, x8, x9], .bool b]) W := by
  obtain ⟨z0, z1, z2, z3, z4, z5, z6, z7, z8, z9⟩ := h.ten
  simp [results, Tryd.results10, go_sem, h2, h3, z0, z1, z2, z3, z4, z5, z6, z7, z8, z9]
end Go.Proofs.YtcpphobokdkkeaaDoor
