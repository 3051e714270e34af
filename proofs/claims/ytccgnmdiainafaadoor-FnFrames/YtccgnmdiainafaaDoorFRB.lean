/- TakeFrames: lists of texts that a call owns; the plain part; the model. -/
import Derived.Test.YtccgnmdiainafaaDoorFRA
import Derived.Test.YtccgnmdiainafaaDoorNNA
import Derived.BigQuiet
namespace Go.Proofs.YtccgnmdiainafaaDoor
open Go Go.RowKit Go.Deep Go.Maps Go.BigFrame
open Go.WideShapes (add_plain)

theorem Tryd.info9 : (Tryd.prog.info? 9).map (fun i => (i.zero, i.size, i.bytes)) = some (some (.string ⟨#[]⟩), 1, 16) := by kernel_rfl
def scells (l : List ByteArray) : List Value := l.map Value.string
def OwnS (w : World) (B : Nat) (v : Value) (l : List ByteArray) : Prop := w.ownsRow B 9 1 v l.length (scells l)
theorem grown_of_below {W W' : World} (h : Below W.heap.size W W') : W.grownBy W' none := ⟨h.os, h.tape, h.output, h.size, fun k hk _ => h.block k hk⟩
theorem OwnS.below {w w' : World} {B : Nat} {v : Value} {l : List ByteArray} (h : OwnS w B v l) (hb : Below w.heap.size w w') : OwnS w' B v l := by
  refine ⟨h.1, ?_⟩
  rcases h.2 with hn | ⟨g, cap, cur, hv, hbg, hg, rest⟩
  · exact .inl hn
  · exact .inr ⟨g, cap, cur, hv, hbg, (hb.block g (Array.getElem?_eq_some_iff.1 hg).1).trans hg, rest⟩
theorem OwnS.alloc {w : World} {B : Nat} {v : Value} {l : List ByteArray} (h : OwnS w B v l) (o : Obj) : OwnS (w.alloc o) B v l := World.ownsRow.alloc h o
theorem OwnS.none (w : World) : OwnS (w.alloc (.cells #[] 9)) w.heap.size (.slice (some ⟨w.heap.size, 0, none⟩) 0 0) [] := World.ownsRow_made w #[] 0 (Nat.le_refl _) (Nat.zero_le _) rfl
theorem one_str {w : World} (x : ByteArray) : LiesC (w.alloc (.cells #[.string x] 9)) (some ⟨w.heap.size, 0, none⟩) 1 [.string x] := fun _ =>
  ⟨w.heap.size, 0, rfl, by simp, fun j u hu => by
    cases j with
    | zero => simp at hu; subst hu; simp
    | succ j => simp at hu⟩
theorem wpList_append_str {ops : Array Oper} {rest : List Oper} {o : Oper} {a : Act} {Q : Exit → Act → World → Prop} (w : World) (hgd : o.guard = none) (s x : Operand)
    (ho : o.op = .call { callee := .builtin .append, args := #[s, x], argTypes := #[25, 25] })
    (B : Nat) (v : Value) (l : List ByteArray) (hs : a.eval s = v) (hown : OwnS w B v l) (ad : Option Addr) (c : Nat) (r : ByteArray) (hx : a.eval x = .slice ad 1 c) (hc : LiesC w ad 1 [.string r])
    (hm : l.length ≤ 2000000) (hB : B ≤ w.heap.size)
    (h : ∀ g c' w', OwnS w' B (.slice (some ⟨g, 0, none⟩) (l ++ [r]).length c') (l ++ [r]) → w.grownBy w' v.ownBlock → wpList Tryd.prog ops Q rest (a.put o.dst (.slice (some ⟨g, 0, none⟩) (l ++ [r]).length c')) w') : wpList Tryd.prog ops Q (o :: rest) a w := by
  refine wpList_plain hgd fun _ hK => wp_append_gen Tryd.underlying25 Tryd.info9 rfl (by omega) w s x ho B v l.length _ hs hown ad 1 c [.string r] hx (by simp) hc (fun u hu => by simp at hu; subst hu; rfl) (by omega) (by omega) hB fun a' c' w' h2 h3 _ => hK _ _ ?_
  have e1 : scells l ++ [Value.string r] = scells (l ++ [r]) := by simp [scells]
  have e2 : l.length + 1 = (l ++ [r]).length := by simp
  rw [e1] at h2
  obtain ⟨g, cap, hv, _, _⟩ := World.ownsRow.form h2 (by omega)
  simp only [Value.slice.injEq] at hv
  obtain ⟨rfl, _, _⟩ := hv
  rw [e2] at h2 ⊢
  exact h g c' w' h2 h3

/-- a world above w -/
structure Up (w : World) where
  W : World
  h : Below w.heap.size w W
instance (w : World) : Inhabited (Up w) := ⟨⟨w, Below.refl _ _⟩⟩
theorem wp_region_quiet_up {id : Nat} {Q : Exit → Act → World → Prop} {a : Act} {w : World} {l : List Oper} (hm : Tryd.prog.follows .mixedOrders = true) (hB : Region.lexB .any l.toArray = true)
    (h : wpQuiet Tryd.prog l.toArray (fun w' => ∃ p : Up w, w' = p.W) (fun a' => ∀ w', (∃ p : Up w, w' = p.W) → Q .normal a' w') l a) : (Code.region id l.toArray true).wp Tryd.prog Q a w :=
  wp_region_quiet (C := fun w' => ∃ p : Up w, w' = p.W) hm hB ⟨⟨w.drew, (Below.refl _ _).drew⟩, rfl⟩ (by simpa using h)
theorem up_of {w : World} {p : Up w} {f : FuncId} {args : Array Value} {v : Value} (h : Calls Tryd.prog f args p.W fun e w' => e = .returned v ∧ Below p.W.heap.size p.W w') : Calls Tryd.prog f args p.W fun e w'' => e = .returned v ∧ ∃ q : Up w, w'' = q.W :=
  h.mono fun _ w' ⟨he, hb⟩ => ⟨he, ⟨w', then_ p.h hb⟩, rfl⟩

/-- the number of bytes that a frame at a place says -/
def nAt (s : ByteArray) (k : Nat) : Nat := numTo (s.extract k (k + 4)) 4
def dataAt (s : ByteArray) (k : Nat) : ByteArray := s.extract (k + 8) (k + 8 + nAt s k)
/-- a frame lies at the place -/
def isFr (s : ByteArray) (k : Nat) : Prop := k + 8 ≤ s.size ∧ nAt s k ≤ 1000000 ∧ k + 8 + nAt s k ≤ s.size ∧ (⟨(lowL (crc (dataAt s k) : Nat)).toArray⟩ : ByteArray) = s.extract (k + 4) (k + 8)
instance (s : ByteArray) (k : Nat) : Decidable (isFr s k) := by unfold isFr; infer_instance
/-- what was taken after so many rounds -/
def st (s : ByteArray) : Nat → List ByteArray × Nat
  | 0 => ([], 0)
  | m + 1 => if isFr s (st s m).2 then ((st s m).1 ++ [dataAt s (st s m).2], (st s m).2 + 8 + nAt s (st s m).2) else st s m
theorem st_stop {s : ByteArray} {m : Nat} (h : ¬ isFr s (st s m).2) (j : Nat) : st s (m + j) = st s m := by
  induction j with
  | zero => rfl
  | succ j ih =>
    show (if isFr s (st s (m + j)).2 then _ else st s (m + j)) = _
    rw [ih, if_neg h]
theorem st_next {s : ByteArray} {m : Nat} (h : isFr s (st s m).2) : st s (m + 1) = ((st s m).1 ++ [dataAt s (st s m).2], (st s m).2 + 8 + nAt s (st s m).2) := if_pos h
/-- what TakeFrames answers -/
def taken (s : ByteArray) : List ByteArray × Nat := st s s.size
theorem taken_of {s : ByteArray} {m : Nat} (h : ¬ isFr s (st s m).2) (hm : m ≤ s.size) : taken s = st s m := by
  have := st_stop h (s.size - m)
  rw [show m + (s.size - m) = s.size by omega] at this
  exact this
theorem nAt_lt (s : ByteArray) (k : Nat) : nAt s k < 4294967296 := by
  have := numTo_lt (s.extract k (k + 4)) 4
  unfold nAt
  omega
end Go.Proofs.YtccgnmdiainafaaDoor
