/- Lists of threads and of objects that a call makes and adds to. -/
import Derived.Test.YthbmfbnnemgbpaaGreatDoorZ5
import Derived.Test.YthbmfbnnemgbpaaGreatDoorZ2
import Derived.Test.YthbmfbnnemgbpaaGreatDoorZ6
import Derived.Deep.RegionLaw
import Derived.Shelf.Abstract
import Derived.Test.YthbmfbnnemgbpaaGreatDoorZ0
namespace Go.Proofs.YthbmfbnnemgbpaaGreatDoor
open Go Go.RowKit Go.Deep Go.Maps
def ThrV.cs (v : ThrV) : List Value := [.int .i64 v.id, .int .i64 v.b1, v.c1.val, .int .i64 v.b2, v.c2.val, v.own.val, .int .i64 v.made]
def cells7 (l : List ThrV) : List Value := (l.map ThrV.cs).flatten
theorem cells7_len (l : List ThrV) : (cells7 l).length = l.length * 7 := by
 induction l with
 | nil => rfl
 | cons x r ih => simp [cells7, ThrV.cs] at *; omega
theorem cells7_append (l r : List ThrV) : cells7 (l ++ r) = cells7 l ++ cells7 r := by simp [cells7]
theorem cells7_one {l : List ThrV} : ∀ u ∈ cells7 l, u.oneCell' = true := fun u hu => by
 simp only [cells7, List.mem_flatten, List.mem_map] at hu
 obtain ⟨_, ⟨x, _, rfl⟩, h⟩ := hu
 simp only [ThrV.cs, List.mem_cons, List.not_mem_nil, or_false] at h
 rcases h with rfl | rfl | rfl | rfl | rfl | rfl | rfl <;> rfl
theorem cells7_get {l : List ThrV} : ∀ {i : Nat} (hi : i < l.length), (cells7 l)[i * 7]? = some (.int .i64 (l[i]).id) ∧ (cells7 l)[i * 7 + 1]? = some (.int .i64 (l[i]).b1) ∧ (cells7 l)[i * 7 + 2]? = some ((l[i]).c1.val) ∧ (cells7 l)[i * 7 + 3]? = some (.int .i64 (l[i]).b2) ∧ (cells7 l)[i * 7 + 4]? = some ((l[i]).c2.val) ∧ (cells7 l)[i * 7 + 5]? = some ((l[i]).own.val) ∧ (cells7 l)[i * 7 + 6]? = some (.int .i64 (l[i]).made) := by
 induction l with
 | nil => intro i hi; simp at hi
 | cons x r ih =>
  intro i hi
  have e : cells7 (x :: r) = Value.int .i64 x.id :: Value.int .i64 x.b1 :: x.c1.val :: Value.int .i64 x.b2 :: x.c2.val :: x.own.val :: Value.int .i64 x.made :: cells7 r := by simp [cells7, ThrV.cs]
  rw [e]
  cases i with
  | zero => simp
  | succ i =>
   have h := ih (i := i) (by simpa using hi)
   have e1 : (i + 1) * 7 = i * 7 + 1 + 1 + 1 + 1 + 1 + 1 + 1 := by omega
   rw [e1]
   simpa using h
def OwnT (w : World) (B : Nat) (v : Value) (l : List ThrV) : Prop := w.ownsRow B 79 7 v l.length (cells7 l)
def ThrV.z : ThrV := ⟨0, 0, ⟨none, 0, 0, fun _ => 0, fun _ => 0⟩, 0, ⟨none, 0, 0, fun _ => 0, fun _ => 0⟩, ⟨none, 0, 0, fun _ => 0⟩, 0⟩
def atOwnT (l : List ThrV) (i : Nat) : ThrV := l.getD i ThrV.z
theorem OwnT.nil (w : World) (B : Nat) : OwnT w B (.slice none 0 0) [] := World.ownsRow_nil _ _ _ _
theorem OwnT.made (w : World) (B : Nat) (hb : B ≤ w.heap.size) : OwnT (w.alloc (.cells #[] 79)) B (.slice (some ⟨w.heap.size, 0, none⟩) 0 0) [] := World.ownsRow_made w #[] 0 hb (Nat.zero_le _) rfl
theorem OwnT.shape {w : World} {B : Nat} {v : Value} {l : List ThrV} (h : OwnT w B v l) : ∃ a c, v = .slice a l.length c := ownsRow_shape h
theorem OwnT.grown {w w' : World} {B : Nat} {row : Option Nat} {v : Value} {l : List ThrV} (h : OwnT w B v l) (hg : w.grownBy w' row) (hne : v.ownBlock = none ∨ v.ownBlock ≠ row) : OwnT w' B v l := World.ownsRow.kept h hg hne
theorem OwnT.below {w w' : World} {B : Nat} {v : Value} {l : List ThrV} (h : OwnT w B v l) (hb : Below w.heap.size w w') : OwnT w' B v l := World.ownsRow.kept (row := none) h ⟨hb.os, hb.tape, hb.output, hb.size, fun k hk _ => hb.block k hk⟩ (by cases v.ownBlock <;> simp)
theorem OwnT.base {w : World} {B B' : Nat} {v : Value} {l : List ThrV} (h : OwnT w B v l) (hB : B' ≤ B) : OwnT w B' v l := by
 refine ⟨h.1, ?_⟩
 rcases h.2 with hn | ⟨g, cap, cur, hv, hbg, rest⟩
 ·exact .inl hn
 ·exact .inr ⟨g, cap, cur, hv, Nat.le_trans hB hbg, rest⟩
theorem OwnT.lies {w : World} {B c : Nat} {a : Option Addr} {l : List ThrV} (h : OwnT w B (.slice a l.length c) l) (hat : ∀ x ∈ l, x.at w) : ThrsAt w a l.length (atOwnT l) := fun hn => by
 obtain ⟨b, off, e, hlt, hc⟩ := LiesC.own h hn
 refine ⟨b, off, e, hlt, fun i hi => ?_⟩
 have g := cells7_get hi
 have e1 : atOwnT l i = l[i] := by simp [atOwnT, hi]
 rw [e1]
 exact ⟨⟨by have := hc _ _ (g.1); exact this, by have := hc _ _ (g.2.1); rw [← Nat.add_assoc] at this; exact this, by have := hc _ _ (g.2.2.1); rw [← Nat.add_assoc] at this; exact this, by have := hc _ _ (g.2.2.2.1); rw [← Nat.add_assoc] at this; exact this, by have := hc _ _ (g.2.2.2.2.1); rw [← Nat.add_assoc] at this; exact this, by have := hc _ _ (g.2.2.2.2.2.1); rw [← Nat.add_assoc] at this; exact this, by have := hc _ _ (g.2.2.2.2.2.2); rw [← Nat.add_assoc] at this; exact this⟩, hat _ (List.getElem_mem hi)⟩
theorem OwnT.one (w : World) (x : ThrV) : LiesC (w.alloc (.cells #[.int .i64 x.id, .int .i64 x.b1, x.c1.val, .int .i64 x.b2, x.c2.val, x.own.val, .int .i64 x.made] 79)) (some ⟨w.heap.size, 0, none⟩) 1 (cells7 [x]) := fun _ => by
 refine ⟨w.heap.size, 0, rfl, by simp, fun j u hu => ?_⟩
 have h := Blk.new w (.cells #[.int .i64 x.id, .int .i64 x.b1, x.c1.val, .int .i64 x.b2, x.c2.val, x.own.val, .int .i64 x.made] 79)
 have e : cells7 [x] = [.int .i64 x.id, .int .i64 x.b1, x.c1.val, .int .i64 x.b2, x.c2.val, x.own.val, .int .i64 x.made] := by simp [cells7, ThrV.cs]
 rw [e] at hu
 rw [Nat.zero_add]
 refine h.c0 j ?_
 rw [← hu]
 simp only [List.getElem?_toArray]
theorem run_appendOwnT (w : World) (tt : TypeId) (B : Nat) (v : Value) (l : List ThrV) (hown : OwnT w B v l) (ad : Option Addr) (c : Nat) (x : ThrV) (hc : LiesC w ad 1 (cells7 [x])) (hn : l.length ≤ 1048576) (hB : B ≤ w.heap.size) :
 ∃ a' c' w', (Builtin.append_ #[39, 39] tt #[v, .slice ad 1 c]).run Tryz.prog w = .ok (.slice a' (l.length + 1) c') w' ∧ OwnT w' B (.slice a' (l.length + 1) c') (l ++ [x]) ∧ w.grownBy w' v.ownBlock := by
 obtain ⟨a', c', w', h1, h2, h3, _⟩ := run_append_gen Tryz.underlying39 Tryz.info79 rfl (by omega) w tt B v l.length (cells7 l) hown ad 1 c (cells7 [x]) (cells7_len [x]) hc cells7_one (by omega) (by omega) hB
 refine ⟨a', c', w', h1, ?_, h3⟩
 unfold OwnT
 rw [List.length_append, cells7_append]
 exact h2
theorem wpList_appendOwnT {ops : Array Oper} {rest : List Oper} {oo : Oper} {a : Act} {Q : Exit → Act → World → Prop} (w : World) (hgd : oo.guard = none) (s x : Operand)
 (ho : oo.op = .call { callee := .builtin .append, args := #[s, x], argTypes := #[39, 39] })
 (B : Nat) (v : Value) (l : List ThrV) (hs : a.eval s = v) (hown : OwnT w B v l) (ad : Option Addr) (c : Nat) (y : ThrV) (hx : a.eval x = .slice ad 1 c) (hc : LiesC w ad 1 (cells7 [y])) (hn : l.length ≤ 1048576) (hB : B ≤ w.heap.size)
 (h : ∀ a' c' w', OwnT w' B (.slice a' (l.length + 1) c') (l ++ [y]) → w.grownBy w' v.ownBlock → wpList Tryz.prog ops Q rest (a.put oo.dst (.slice a' (l.length + 1) c')) w') : wpList Tryz.prog ops Q (oo :: rest) a w := by
 refine wpList_plain hgd fun K hK => ?_
 obtain ⟨a', c', w', hr, h2, h3⟩ := run_appendOwnT w oo.type B v l hown ad c y hc hn hB
 unfold Oper.wp execOp
 simp only [ho, resolve, invoke, builtin, Sem.run_bind, Sem.run_pure, Result.andThen_ok, List.map_toArray, List.map_cons, List.map_nil, hs, hx, hr]
 exact hK _ _ (h a' c' w' h2 h3)
theorem step_appendOwnT {ops : Array Oper} {oo : Oper} {a : Act} {w : World} {K : Act → World → Prop} {Q : Exit → Act → World → Prop} {E : Prop} (hgd : oo.guard = none) (s x : Operand)
 (ho : oo.op = .call { callee := .builtin .append, args := #[s, x], argTypes := #[39, 39] })
 (B : Nat) (v : Value) (l : List ThrV) (hs : a.eval s = v) (hown : OwnT w B v l) (ad : Option Addr) (c : Nat) (y : ThrV) (hx : a.eval x = .slice ad 1 c) (hc : LiesC w ad 1 (cells7 [y])) (hn : l.length ≤ 1048576) (hB : B ≤ w.heap.size)
 (h : ∀ a' c' w', OwnT w' B (.slice a' (l.length + 1) c') (l ++ [y]) → w.grownBy w' v.ownBlock → K (a.put oo.dst (.slice a' (l.length + 1) c')) w') :
 if Region.wanted oo (yielded ops a.tmps) = true then Oper.wp Tryz.prog oo a w K Q else E := by
 have hw : Region.wanted oo (yielded ops a.tmps) = true := by simp [Region.wanted, hgd]
 rw [if_pos hw]
 obtain ⟨a', c', w', hr, h2, h3⟩ := run_appendOwnT w oo.type B v l hown ad c y hc hn hB
 unfold Oper.wp execOp
 simp only [ho, resolve, invoke, builtin, Sem.run_bind, Sem.run_pure, Result.andThen_ok, List.map_toArray, List.map_cons, List.map_nil, hs, hx, hr]
 exact h a' c' w' h2 h3
def ObjV.cs (v : ObjV) : List Value := [.int .i64 v.id, .int .i64 v.kind, .int .i64 v.up, .int .i64 v.b1, v.c1.val, .string v.data, v.items.val, v.own.val, .int .i64 v.b2, v.c2.val]
def cells10 (l : List ObjV) : List Value := (l.map ObjV.cs).flatten
theorem cells10_len (l : List ObjV) : (cells10 l).length = l.length * 10 := by
 induction l with
 | nil => rfl
 | cons x r ih => simp [cells10, ObjV.cs] at *; omega
theorem cells10_append (l r : List ObjV) : cells10 (l ++ r) = cells10 l ++ cells10 r := by simp [cells10]
theorem cells10_one {l : List ObjV} : ∀ u ∈ cells10 l, u.oneCell' = true := fun u hu => by
 simp only [cells10, List.mem_flatten, List.mem_map] at hu
 obtain ⟨_, ⟨x, _, rfl⟩, h⟩ := hu
 simp only [ObjV.cs, List.mem_cons, List.not_mem_nil, or_false] at h
 rcases h with rfl | rfl | rfl | rfl | rfl | rfl | rfl | rfl | rfl | rfl <;> rfl
theorem cells10_get {l : List ObjV} : ∀ {i : Nat} (hi : i < l.length), (cells10 l)[i * 10]? = some (.int .i64 (l[i]).id) ∧ (cells10 l)[i * 10 + 1]? = some (.int .i64 (l[i]).kind) ∧ (cells10 l)[i * 10 + 2]? = some (.int .i64 (l[i]).up) ∧ (cells10 l)[i * 10 + 3]? = some (.int .i64 (l[i]).b1) ∧ (cells10 l)[i * 10 + 4]? = some ((l[i]).c1.val) ∧ (cells10 l)[i * 10 + 5]? = some (.string (l[i]).data) ∧ (cells10 l)[i * 10 + 6]? = some ((l[i]).items.val) ∧ (cells10 l)[i * 10 + 7]? = some ((l[i]).own.val) ∧ (cells10 l)[i * 10 + 8]? = some (.int .i64 (l[i]).b2) ∧ (cells10 l)[i * 10 + 9]? = some ((l[i]).c2.val) := by
 induction l with
 | nil => intro i hi; simp at hi
 | cons x r ih =>
  intro i hi
  have e : cells10 (x :: r) = Value.int .i64 x.id :: Value.int .i64 x.kind :: Value.int .i64 x.up :: Value.int .i64 x.b1 :: x.c1.val :: Value.string x.data :: x.items.val :: x.own.val :: Value.int .i64 x.b2 :: x.c2.val :: cells10 r := by simp [cells10, ObjV.cs]
  rw [e]
  cases i with
  | zero => simp
  | succ i =>
   have h := ih (i := i) (by simpa using hi)
   have e1 : (i + 1) * 10 = i * 10 + 1 + 1 + 1 + 1 + 1 + 1 + 1 + 1 + 1 + 1 := by omega
   rw [e1]
   simpa using h
def OwnOb (w : World) (B : Nat) (v : Value) (l : List ObjV) : Prop := w.ownsRow B 88 10 v l.length (cells10 l)
def ObjV.z : ObjV := ⟨0, 0, 0, 0, ⟨none, 0, 0, fun _ => 0, fun _ => 0⟩, ⟨#[]⟩, ⟨none, 0, 0, fun _ => ⟨#[]⟩⟩, ⟨none, 0, 0, fun _ => 0⟩, 0, ⟨none, 0, 0, fun _ => 0, fun _ => 0⟩⟩
def atOwnOb (l : List ObjV) (i : Nat) : ObjV := l.getD i ObjV.z
theorem OwnOb.nil (w : World) (B : Nat) : OwnOb w B (.slice none 0 0) [] := World.ownsRow_nil _ _ _ _
theorem OwnOb.made (w : World) (B : Nat) (hb : B ≤ w.heap.size) : OwnOb (w.alloc (.cells #[] 88)) B (.slice (some ⟨w.heap.size, 0, none⟩) 0 0) [] := World.ownsRow_made w #[] 0 hb (Nat.zero_le _) rfl
theorem OwnOb.shape {w : World} {B : Nat} {v : Value} {l : List ObjV} (h : OwnOb w B v l) : ∃ a c, v = .slice a l.length c := ownsRow_shape h
theorem OwnOb.grown {w w' : World} {B : Nat} {row : Option Nat} {v : Value} {l : List ObjV} (h : OwnOb w B v l) (hg : w.grownBy w' row) (hne : v.ownBlock = none ∨ v.ownBlock ≠ row) : OwnOb w' B v l := World.ownsRow.kept h hg hne
theorem OwnOb.below {w w' : World} {B : Nat} {v : Value} {l : List ObjV} (h : OwnOb w B v l) (hb : Below w.heap.size w w') : OwnOb w' B v l := World.ownsRow.kept (row := none) h ⟨hb.os, hb.tape, hb.output, hb.size, fun k hk _ => hb.block k hk⟩ (by cases v.ownBlock <;> simp)
theorem OwnOb.base {w : World} {B B' : Nat} {v : Value} {l : List ObjV} (h : OwnOb w B v l) (hB : B' ≤ B) : OwnOb w B' v l := by
 refine ⟨h.1, ?_⟩
 rcases h.2 with hn | ⟨g, cap, cur, hv, hbg, rest⟩
 ·exact .inl hn
 ·exact .inr ⟨g, cap, cur, hv, Nat.le_trans hB hbg, rest⟩
theorem OwnOb.lies {w : World} {B c : Nat} {a : Option Addr} {l : List ObjV} (h : OwnOb w B (.slice a l.length c) l) (hat : ∀ x ∈ l, x.at w) : ObjsAt w a l.length (atOwnOb l) := fun hn => by
 obtain ⟨b, off, e, hlt, hc⟩ := LiesC.own h hn
 refine ⟨b, off, e, hlt, fun i hi => ?_⟩
 have g := cells10_get hi
 have e1 : atOwnOb l i = l[i] := by simp [atOwnOb, hi]
 rw [e1]
 exact ⟨⟨by have := hc _ _ (g.1); exact this, by have := hc _ _ (g.2.1); rw [← Nat.add_assoc] at this; exact this, by have := hc _ _ (g.2.2.1); rw [← Nat.add_assoc] at this; exact this, by have := hc _ _ (g.2.2.2.1); rw [← Nat.add_assoc] at this; exact this, by have := hc _ _ (g.2.2.2.2.1); rw [← Nat.add_assoc] at this; exact this, by have := hc _ _ (g.2.2.2.2.2.1); rw [← Nat.add_assoc] at this; exact this, by have := hc _ _ (g.2.2.2.2.2.2.1); rw [← Nat.add_assoc] at this; exact this, by have := hc _ _ (g.2.2.2.2.2.2.2.1); rw [← Nat.add_assoc] at this; exact this, by have := hc _ _ (g.2.2.2.2.2.2.2.2.1); rw [← Nat.add_assoc] at this; exact this, by have := hc _ _ (g.2.2.2.2.2.2.2.2.2); rw [← Nat.add_assoc] at this; exact this⟩, hat _ (List.getElem_mem hi)⟩
theorem OwnOb.one (w : World) (x : ObjV) : LiesC (w.alloc (.cells #[.int .i64 x.id, .int .i64 x.kind, .int .i64 x.up, .int .i64 x.b1, x.c1.val, .string x.data, x.items.val, x.own.val, .int .i64 x.b2, x.c2.val] 88)) (some ⟨w.heap.size, 0, none⟩) 1 (cells10 [x]) := fun _ => by
 refine ⟨w.heap.size, 0, rfl, by simp, fun j u hu => ?_⟩
 have h := Blk.new w (.cells #[.int .i64 x.id, .int .i64 x.kind, .int .i64 x.up, .int .i64 x.b1, x.c1.val, .string x.data, x.items.val, x.own.val, .int .i64 x.b2, x.c2.val] 88)
 have e : cells10 [x] = [.int .i64 x.id, .int .i64 x.kind, .int .i64 x.up, .int .i64 x.b1, x.c1.val, .string x.data, x.items.val, x.own.val, .int .i64 x.b2, x.c2.val] := by simp [cells10, ObjV.cs]
 rw [e] at hu
 rw [Nat.zero_add]
 refine h.c0 j ?_
 rw [← hu]
 simp only [List.getElem?_toArray]
theorem run_appendOwnOb (w : World) (tt : TypeId) (B : Nat) (v : Value) (l : List ObjV) (hown : OwnOb w B v l) (ad : Option Addr) (c : Nat) (x : ObjV) (hc : LiesC w ad 1 (cells10 [x])) (hn : l.length ≤ 1048576) (hB : B ≤ w.heap.size) :
 ∃ a' c' w', (Builtin.append_ #[40, 40] tt #[v, .slice ad 1 c]).run Tryz.prog w = .ok (.slice a' (l.length + 1) c') w' ∧ OwnOb w' B (.slice a' (l.length + 1) c') (l ++ [x]) ∧ w.grownBy w' v.ownBlock := by
 obtain ⟨a', c', w', h1, h2, h3, _⟩ := run_append_gen Tryz.underlying40 Tryz.info88 rfl (by omega) w tt B v l.length (cells10 l) hown ad 1 c (cells10 [x]) (cells10_len [x]) hc cells10_one (by omega) (by omega) hB
 refine ⟨a', c', w', h1, ?_, h3⟩
 unfold OwnOb
 rw [List.length_append, cells10_append]
 exact h2
theorem wpList_appendOwnOb {ops : Array Oper} {rest : List Oper} {oo : Oper} {a : Act} {Q : Exit → Act → World → Prop} (w : World) (hgd : oo.guard = none) (s x : Operand)
 (ho : oo.op = .call { callee := .builtin .append, args := #[s, x], argTypes := #[40, 40] })
 (B : Nat) (v : Value) (l : List ObjV) (hs : a.eval s = v) (hown : OwnOb w B v l) (ad : Option Addr) (c : Nat) (y : ObjV) (hx : a.eval x = .slice ad 1 c) (hc : LiesC w ad 1 (cells10 [y])) (hn : l.length ≤ 1048576) (hB : B ≤ w.heap.size)
 (h : ∀ a' c' w', OwnOb w' B (.slice a' (l.length + 1) c') (l ++ [y]) → w.grownBy w' v.ownBlock → wpList Tryz.prog ops Q rest (a.put oo.dst (.slice a' (l.length + 1) c')) w') : wpList Tryz.prog ops Q (oo :: rest) a w := by
 refine wpList_plain hgd fun K hK => ?_
 obtain ⟨a', c', w', hr, h2, h3⟩ := run_appendOwnOb w oo.type B v l hown ad c y hc hn hB
 unfold Oper.wp execOp
 simp only [ho, resolve, invoke, builtin, Sem.run_bind, Sem.run_pure, Result.andThen_ok, List.map_toArray, List.map_cons, List.map_nil, hs, hx, hr]
 exact hK _ _ (h a' c' w' h2 h3)
theorem step_appendOwnOb {ops : Array Oper} {oo : Oper} {a : Act} {w : World} {K : Act → World → Prop} {Q : Exit → Act → World → Prop} {E : Prop} (hgd : oo.guard = none) (s x : Operand)
 (ho : oo.op = .call { callee := .builtin .append, args := #[s, x], argTypes := #[40, 40] })
 (B : Nat) (v : Value) (l : List ObjV) (hs : a.eval s = v) (hown : OwnOb w B v l) (ad : Option Addr) (c : Nat) (y : ObjV) (hx : a.eval x = .slice ad 1 c) (hc : LiesC w ad 1 (cells10 [y])) (hn : l.length ≤ 1048576) (hB : B ≤ w.heap.size)
 (h : ∀ a' c' w', OwnOb w' B (.slice a' (l.length + 1) c') (l ++ [y]) → w.grownBy w' v.ownBlock → K (a.put oo.dst (.slice a' (l.length + 1) c')) w') :
 if Region.wanted oo (yielded ops a.tmps) = true then Oper.wp Tryz.prog oo a w K Q else E := by
 have hw : Region.wanted oo (yielded ops a.tmps) = true := by simp [Region.wanted, hgd]
 rw [if_pos hw]
 obtain ⟨a', c', w', hr, h2, h3⟩ := run_appendOwnOb w oo.type B v l hown ad c y hc hn hB
 unfold Oper.wp execOp
 simp only [ho, resolve, invoke, builtin, Sem.run_bind, Sem.run_pure, Result.andThen_ok, List.map_toArray, List.map_cons, List.map_nil, hs, hx, hr]
 exact h a' c' w' h2 h3
end Go.Proofs.YthbmfbnnemgbpaaGreatDoor
namespace Go.Proofs.YthbmfbnnemgbpaaGreatDoor
open Go Go.RowKit Go.Deep Go.Maps
section
variable {t e size bytes : Nat} {z : Value} (hT : Tryz.prog.underlying t = some (.slice e)) (hI : (Tryz.prog.info? e).map (fun i => (i.zero, i.size, i.bytes)) = some (some z, size, bytes)) (hzs : z.cells.size = size) (hsz : 0 < size)
include hT hI hzs hsz
theorem wpList_append_any {ops : Array Oper} {rest : List Oper} {o : Oper} {a : Act} {Q : Exit → Act → World → Prop} (w : World) (hgd : o.guard = none) (s x : Operand)
 (ho : o.op = .call { callee := .builtin .append, args := #[s, x], argTypes := #[t, t] })
 (B : Nat) (v : Value) (n : Nat) (cs : List Value) (hs : a.eval s = v) (hown : w.ownsRow B e size v n cs) (ad : Option Addr) (m c : Nat) (cs' : List Value) (hx : a.eval x = .slice ad m c) (hl : cs'.length = m * size) (hc : LiesC w ad m cs') (h1 : ∀ u ∈ cs', u.oneCell' = true)
 (hm : n + m ≤ 4194304) (hby : (n + m) * bytes ≤ 140737488355328) (hB : B ≤ w.heap.size)
 (h : ∀ a' c' w', w'.ownsRow B e size (.slice a' (n + m) c') (n + m) (cs ++ cs') → w.grownBy w' v.ownBlock → wpList Tryz.prog ops Q rest (a.put o.dst (.slice a' (n + m) c')) w') : wpList Tryz.prog ops Q (o :: rest) a w :=
 wpList_plain hgd fun _ hK => wp_append_gen hT hI hzs hsz w s x ho B v n cs hs hown ad m c cs' hx hl hc h1 hm hby hB fun a' c' w' h2 h3 _ => hK _ _ (h a' c' w' h2 h3)
end
def CatL.new (B : Nat) (w : World) (c : CatL) : Prop := c.at w ∧ (0 < c.n → ∃ b m F, c.a = some ⟨b, 0, none⟩ ∧ B ≤ b ∧ c.n * 2 ≤ m ∧ w.rowIs b 63 m F)
def IntL.new (B : Nat) (w : World) (c : IntL) : Prop := c.at w ∧ (0 < c.n → ∃ b m F, c.a = some ⟨b, 0, none⟩ ∧ B ≤ b ∧ c.n ≤ m ∧ w.rowIs b 2 m F)
def StrL.new (B : Nat) (w : World) (c : StrL) : Prop := c.at w ∧ (0 < c.n → ∃ b m F, c.a = some ⟨b, 0, none⟩ ∧ B ≤ b ∧ c.n ≤ m ∧ w.rowIs b 9 m F)
theorem CatL.new.below {B : Nat} {w w' : World} {c : CatL} (h : c.new B w) (hb : Below w.heap.size w w') : c.new B w' := ⟨h.1.below hb, fun hn => by
 obtain ⟨b, m, F, e, h1, h2, h3⟩ := h.2 hn
 exact ⟨b, m, F, e, h1, h2, rowUp h3 hb⟩⟩
theorem IntL.new.below {B : Nat} {w w' : World} {c : IntL} (h : c.new B w) (hb : Below w.heap.size w w') : c.new B w' := ⟨h.1.below hb, fun hn => by
 obtain ⟨b, m, F, e, h1, h2, h3⟩ := h.2 hn
 exact ⟨b, m, F, e, h1, h2, rowUp h3 hb⟩⟩
theorem StrL.new.below {B : Nat} {w w' : World} {c : StrL} (h : c.new B w) (hb : Below w.heap.size w w') : c.new B w' := ⟨h.1.below hb, fun hn => by
 obtain ⟨b, m, F, e, h1, h2, h3⟩ := h.2 hn
 exact ⟨b, m, F, e, h1, h2, rowUp h3 hb⟩⟩
theorem CatL.new.low {B B' : Nat} {w : World} {c : CatL} (h : c.new B w) (hB : B' ≤ B) : c.new B' w := ⟨h.1, fun hn => by
 obtain ⟨b, m, F, e, h1, h2, h3⟩ := h.2 hn
 exact ⟨b, m, F, e, by omega, h2, h3⟩⟩
theorem IntL.new.low {B B' : Nat} {w : World} {c : IntL} (h : c.new B w) (hB : B' ≤ B) : c.new B' w := ⟨h.1, fun hn => by
 obtain ⟨b, m, F, e, h1, h2, h3⟩ := h.2 hn
 exact ⟨b, m, F, e, by omega, h2, h3⟩⟩
theorem StrL.new.low {B B' : Nat} {w : World} {c : StrL} (h : c.new B w) (hB : B' ≤ B) : c.new B' w := ⟨h.1, fun hn => by
 obtain ⟨b, m, F, e, h1, h2, h3⟩ := h.2 hn
 exact ⟨b, m, F, e, by omega, h2, h3⟩⟩
theorem row_of_own {w : World} {B e size n c : Nat} {a : Option Addr} {cs : List Value} (h : w.ownsRow B e size (.slice a n c) n cs) (hn : 0 < n) : ∃ b m F, a = some ⟨b, 0, none⟩ ∧ B ≤ b ∧ n * size ≤ m ∧ w.rowIs b e m F := by
 rcases h.2 with ⟨_, h0⟩ | ⟨g, cap, cur, hv, h1, h2, h3, h4, h5, h6⟩
 ·omega
 ·simp only [Value.slice.injEq] at hv
  obtain ⟨rfl, _, rfl⟩ := hv
  exact ⟨g, cur.size, fun i => cur[i]?.getD undef, rfl, h1, by rw [h5]; exact Nat.mul_le_mul_right _ h3, ⟨cur, h2, rfl, fun i hi => by simp [hi]⟩⟩
theorem strs_lies {w : World} {a : Option Addr} {n : Nat} {f : Nat → ByteArray} (h : StrAt w a n f) : LiesC w a n ((List.range n).map (fun i => Value.string (f i))) := fun hn => by
 obtain ⟨b, off, e, hlt, hc⟩ := h hn
 refine ⟨b, off, e, hlt, fun j u hu => ?_⟩
 by_cases hj : j < n
 ·simp [hj] at hu
  rw [← hu]
  exact hc j hj
 ·simp [hj] at hu
end Go.Proofs.YthbmfbnnemgbpaaGreatDoor
namespace Go.Proofs.YthbmfbnnemgbpaaGreatDoor
open Go Go.RowKit Go.Deep Go.Maps
theorem CatL.new.of {B : Nat} {w w' : World} {c : CatL} (h : c.new B w) (hs : w.heap.size ≤ w'.heap.size) (hb : ∀ b, c.a = some ⟨b, 0, none⟩ → 0 < c.n → w'.heap[b]? = w.heap[b]?) : c.new B w' :=
 ⟨⟨h.1.1, fun hn => by
   obtain ⟨b, off, e, hlt, hc⟩ := h.1.2 hn
   obtain ⟨b', _, _, e', _⟩ := h.2 hn
   have eb := e.symm.trans e'
   cases eb
   have ce : ∀ o, w'.cell? ⟨b, o, none⟩ = w.cell? ⟨b, o, none⟩ := fun o => World.cell?_of_block (a := ⟨b, o, none⟩) (hb b e' hn)
   exact ⟨b, 0, e, Nat.lt_of_lt_of_le hlt hs, fun i hi => by rw [ce, ce]; exact hc i hi⟩⟩, fun hn => by
   obtain ⟨b, m, F, e, h1, h2, h3⟩ := h.2 hn
   exact ⟨b, m, F, e, h1, h2, h3.of_block (hb b e hn)⟩⟩
theorem CatL.new.ne {B : Nat} {w : World} {c : CatL} (h : c.new B w) {P t : Nat} {cs : Array Value} (hP : Blk w P (.cells cs t)) (ht : t ≠ 63) : ∀ b, c.a = some ⟨b, 0, none⟩ → 0 < c.n → b ≠ P := fun b e hn => by
 obtain ⟨b', m, F, e', _, _, h3⟩ := h.2 hn
 rw [e] at e'
 cases e'
 exact row_ne h3 hP.row (fun e => ht e.symm)
theorem IntL.new.of {B : Nat} {w w' : World} {c : IntL} (h : c.new B w) (hs : w.heap.size ≤ w'.heap.size) (hb : ∀ b, c.a = some ⟨b, 0, none⟩ → 0 < c.n → w'.heap[b]? = w.heap[b]?) : c.new B w' :=
 ⟨⟨h.1.1, fun hn => by
   obtain ⟨b, off, e, hlt, hc⟩ := h.1.2 hn
   obtain ⟨b', _, _, e', _⟩ := h.2 hn
   have eb := e.symm.trans e'
   cases eb
   have ce : ∀ o, w'.cell? ⟨b, o, none⟩ = w.cell? ⟨b, o, none⟩ := fun o => World.cell?_of_block (a := ⟨b, o, none⟩) (hb b e' hn)
   exact ⟨b, 0, e, Nat.lt_of_lt_of_le hlt hs, fun i hi => by rw [ce]; exact hc i hi⟩⟩, fun hn => by
   obtain ⟨b, m, F, e, h1, h2, h3⟩ := h.2 hn
   exact ⟨b, m, F, e, h1, h2, h3.of_block (hb b e hn)⟩⟩
theorem IntL.new.ne {B : Nat} {w : World} {c : IntL} (h : c.new B w) {P t : Nat} {cs : Array Value} (hP : Blk w P (.cells cs t)) (ht : t ≠ 2) : ∀ b, c.a = some ⟨b, 0, none⟩ → 0 < c.n → b ≠ P := fun b e hn => by
 obtain ⟨b', m, F, e', _, _, h3⟩ := h.2 hn
 rw [e] at e'
 cases e'
 exact row_ne h3 hP.row (fun e => ht e.symm)
theorem StrL.new.of {B : Nat} {w w' : World} {c : StrL} (h : c.new B w) (hs : w.heap.size ≤ w'.heap.size) (hb : ∀ b, c.a = some ⟨b, 0, none⟩ → 0 < c.n → w'.heap[b]? = w.heap[b]?) : c.new B w' :=
 ⟨⟨h.1.1, fun hn => by
   obtain ⟨b, off, e, hlt, hc⟩ := h.1.2.1 hn
   obtain ⟨b', _, _, e', _⟩ := h.2 hn
   have eb := e.symm.trans e'
   cases eb
   have ce : ∀ o, w'.cell? ⟨b, o, none⟩ = w.cell? ⟨b, o, none⟩ := fun o => World.cell?_of_block (a := ⟨b, o, none⟩) (hb b e' hn)
   exact ⟨b, 0, e, Nat.lt_of_lt_of_le hlt hs, fun i hi => by rw [ce]; exact hc i hi⟩, h.1.2.2⟩, fun hn => by
   obtain ⟨b, m, F, e, h1, h2, h3⟩ := h.2 hn
   exact ⟨b, m, F, e, h1, h2, h3.of_block (hb b e hn)⟩⟩
theorem StrL.new.ne {B : Nat} {w : World} {c : StrL} (h : c.new B w) {P t : Nat} {cs : Array Value} (hP : Blk w P (.cells cs t)) (ht : t ≠ 9) : ∀ b, c.a = some ⟨b, 0, none⟩ → 0 < c.n → b ≠ P := fun b e hn => by
 obtain ⟨b', m, F, e', _, _, h3⟩ := h.2 hn
 rw [e] at e'
 cases e'
 exact row_ne h3 hP.row (fun e => ht e.symm)
end Go.Proofs.YthbmfbnnemgbpaaGreatDoor
namespace Go.Proofs.YthbmfbnnemgbpaaGreatDoor
open Go Go.RowKit Go.Deep Go.Maps Go.BigFrame Go.Shelf
theorem step_call {ops : Array Oper} {o : Oper} {a : Act} {w : World} {K : Act → World → Prop} {Q : Exit → Act → World → Prop} {E : Prop} (hgd : o.guard = none) (f : Nat) (x : Operand) (ats : Array TypeId)
 (ho : o.op = .call { callee := .value (.func f), args := #[x], argTypes := ats }) (eg : ∀ args w, (callFunc f args).run Tryz.prog w = .ok (.enter f args) w) (v0 : Value) (hv : a.eval x = v0)
 (R : Value → World → Prop) (hc : Calls Tryz.prog f #[v0] w fun e w' => ∃ v, e = .returned v ∧ R v w') (h : ∀ v w', R v w' → K (a.put o.dst v) w') :
 if Region.wanted o (yielded ops a.tmps) = true then Oper.wp Tryz.prog o a w K Q else E := by
 have hw : Region.wanted o (yielded ops a.tmps) = true := by simp [Region.wanted, hgd]
 rw [if_pos hw]
 have e : (execOp a.eval o).run Tryz.prog w = .ok (.enter f #[v0]) w := by
  unfold execOp
  simp only [ho, resolve, invoke, Sem.run_bind, List.map_toArray, List.map_cons, List.map_nil, hv]
  simp [go_sem, eg, Act.eval]
 unfold Oper.wp
 rw [e, Oper.upon_enter]
 exact hc.mono fun e w' ⟨v, he, hr⟩ => by subst he; exact h v w' hr
def ThrV.new (B : Nat) (w : World) (t : ThrV) : Prop := t.c1.new B w ∧ t.c2.new B w ∧ t.own.new B w
def ThrV.apart (t : ThrV) : Prop := ∀ b b', t.c1.a = some ⟨b, 0, none⟩ → 0 < t.c1.n → t.c2.a = some ⟨b', 0, none⟩ → 0 < t.c2.n → b ≠ b'
theorem Blk.seven {W : World} {P t : Nat} {x0 x1 x2 x3 x4 x5 x6 : Value} (h : Blk W P (.cells #[x0, x1, x2, x3, x4, x5, x6] t)) : W.cell? ⟨P, 0, none⟩ = some x0 ∧ W.cell? ⟨P, 1, none⟩ = some x1 ∧ W.cell? ⟨P, 2, none⟩ = some x2 ∧ W.cell? ⟨P, 3, none⟩ = some x3 ∧ W.cell? ⟨P, 4, none⟩ = some x4 ∧ W.cell? ⟨P, 5, none⟩ = some x5 ∧ W.cell? ⟨P, 6, none⟩ = some x6 := by
 unfold Blk at h
 simp [World.cell?, h]
theorem Blk.all7 {W : World} {P t : Nat} {z0 z1 z2 z3 z4 z5 z6 : Value} (h : Blk W P (.cells #[z0, z1, z2, z3, z4, z5, z6] t)) (x0 x1 x2 x3 x4 x5 x6 : Value) :
 Blk (((((((W.setCell ⟨P, 0, none⟩ x0).setCell ⟨P, 1, none⟩ x1).setCell ⟨P, 2, none⟩ x2).setCell ⟨P, 3, none⟩ x3).setCell ⟨P, 4, none⟩ x4).setCell ⟨P, 5, none⟩ x5).setCell ⟨P, 6, none⟩ x6) P (.cells #[x0, x1, x2, x3, x4, x5, x6] t) := by
 have h0 : Blk (W.setCell ⟨P, 0, none⟩ x0) P (.cells #[x0, z1, z2, z3, z4, z5, z6] t) := h.setAt (i := 0) x0
 have h1 : Blk ((W.setCell ⟨P, 0, none⟩ x0).setCell ⟨P, 1, none⟩ x1) P (.cells #[x0, x1, z2, z3, z4, z5, z6] t) := h0.setAt (i := 1) x1
 have h2 : Blk (((W.setCell ⟨P, 0, none⟩ x0).setCell ⟨P, 1, none⟩ x1).setCell ⟨P, 2, none⟩ x2) P (.cells #[x0, x1, x2, z3, z4, z5, z6] t) := h1.setAt (i := 2) x2
 have h3 : Blk ((((W.setCell ⟨P, 0, none⟩ x0).setCell ⟨P, 1, none⟩ x1).setCell ⟨P, 2, none⟩ x2).setCell ⟨P, 3, none⟩ x3) P (.cells #[x0, x1, x2, x3, z4, z5, z6] t) := h2.setAt (i := 3) x3
 have h4 : Blk (((((W.setCell ⟨P, 0, none⟩ x0).setCell ⟨P, 1, none⟩ x1).setCell ⟨P, 2, none⟩ x2).setCell ⟨P, 3, none⟩ x3).setCell ⟨P, 4, none⟩ x4) P (.cells #[x0, x1, x2, x3, x4, z5, z6] t) := h3.setAt (i := 4) x4
 have h5 : Blk ((((((W.setCell ⟨P, 0, none⟩ x0).setCell ⟨P, 1, none⟩ x1).setCell ⟨P, 2, none⟩ x2).setCell ⟨P, 3, none⟩ x3).setCell ⟨P, 4, none⟩ x4).setCell ⟨P, 5, none⟩ x5) P (.cells #[x0, x1, x2, x3, x4, x5, z6] t) := h4.setAt (i := 5) x5
 exact h5.setAt (i := 6) x6
end Go.Proofs.YthbmfbnnemgbpaaGreatDoor
namespace Go.Proofs.YthbmfbnnemgbpaaGreatDoor
open Go Go.RowKit Go.Deep Go.Maps Go.BigFrame Go.Shelf
def ObjV.new (B : Nat) (w : World) (t : ObjV) : Prop := t.c1.new B w ∧ t.items.new B w ∧ t.own.new B w ∧ t.c2.new B w
def ObjV.apart (t : ObjV) : Prop := ∀ b b', t.c1.a = some ⟨b, 0, none⟩ → 0 < t.c1.n → t.c2.a = some ⟨b', 0, none⟩ → 0 < t.c2.n → b ≠ b'
def zeroBlk : Obj := .cells #[.int .i64 0, .int .i64 0, .int .i64 0, .int .i64 0, .slice none 0 0, .string (ByteArray.mk #[]), .slice none 0 0, .slice none 0 0, .int .i64 0, .slice none 0 0] 88
end Go.Proofs.YthbmfbnnemgbpaaGreatDoor
namespace Go.Proofs.YthbmfbnnemgbpaaGreatDoor
open Go Go.RowKit Go.Deep Go.Maps Go.BigFrame Go.Shelf
theorem results72 (tmps : Array Value) (W : World) (P : Nat) (x y : Value) (h : Blk W P (.cells #[x, y] 26)) (h2 : tmps[2]? = some (.pointer (some ⟨P, 0, none⟩))) :
 (results Tryz.f91 tmps).run Tryz.prog W = .ok (.agg #[x, y]) W := by
 obtain ⟨z0, z1⟩ := h.two
 simp [results, Tryz.results91, go_sem, h2, z0, z1]
theorem OwnCats.madeAt (w : World) (B : Nat) (hb : B ≤ w.heap.size) (f g : Nat → Int) : OwnCats (w.alloc (.cells #[] 63)) B (.slice (some ⟨w.heap.size, 0, none⟩) 0 0) 0 f g := World.ownsRow_made w #[] 0 hb (Nat.zero_le _) rfl
theorem OwnCats.newL {w : World} {B n c : Nat} {a : Option Addr} {f g : Nat → Int} (h : OwnCats w B (.slice a n c) n f g) (hn : n ≤ 1048576) : CatL.new B w ⟨a, n, c, f, g⟩ :=
 ⟨⟨by unfold maxLen; simp only; omega, h.cats⟩, fun h0 => row_of_own h h0⟩
set_option maxRecDepth 100000 in
set_option maxHeartbeats 4000000 in
theorem l3CopyLabel_any (b : Int) (c : CatL) (w : World) (hc : c.at w) (hn : c.n ≤ 1048576) :
 Calls Tryz.prog 91 #[.agg #[.int .i64 b, c.val]] w fun e w' => ∃ d : CatL, e = .returned (.agg #[.int .i64 b, d.val]) ∧ c.same d ∧ d.new w.heap.size w' ∧ Below w.heap.size w w' := by
 obtain ⟨a, n, cap, f, g⟩ := c
 unfold CatL.val
 simp only at hn ⊢
 have b0 : Below w.heap.size w ((w.alloc (.cells #[.int .i64 b, .slice a n cap] 26)).alloc (.cells #[.int .i64 0, .slice none 0 0] 26)) := ((Below.refl _ w).alloc (Nat.le_refl _) _).alloc (by simp) _
 have A0 := (Blk.new w (.cells #[.int .i64 b, .slice a n cap] 26)).alloc (.cells #[.int .i64 0, .slice none 0 0] 26)
 have R0 : Blk ((w.alloc (.cells #[.int .i64 b, .slice a n cap] 26)).alloc (.cells #[.int .i64 0, .slice none 0 0] 26)) (w.heap.size + 1) (.cells #[.int .i64 0, .slice none 0 0] 26) := by
  have := Blk.new (w.alloc (.cells #[.int .i64 b, .slice a n cap] 26)) (.cells #[.int .i64 0, .slice none 0 0] 26)
  simpa using this
 have T0 := hid (hc.below b0).2
 simp only at T0
 obtain ⟨x0, x1⟩ := A0.two
 clear hc
 go_enter Tryz.func91, Tryz.ntmps91
 go_wp2
 generalize hV : ((w.alloc (.cells #[.int .i64 b, .slice a n cap] 26)).alloc (.cells #[.int .i64 0, .slice none 0 0] 26)) = V at *
 have bm : Below V.heap.size V ((V.alloc (.cells #[] 63)).drew) := below_drew ((Below.refl _ V).alloc (Nat.le_refl _) _)
 have OM : Hid (OwnCats ((V.alloc (.cells #[] 63)).drew) w.heap.size (.slice (some ⟨V.heap.size, 0, none⟩) 0 0) 0 f g) := hid (OwnCats.madeAt V w.heap.size b0.size f g)
 have TM := hid (T0.out.below bm)
 have s1 : w.heap.size ≤ ((V.alloc (.cells #[] 63)).drew).heap.size := (then_ b0 bm).size
 have lm : n ≤ 4194304 := by omega
 have R1 := hid (R0.below bm)
 have B1 := hid (then_ b0 bm)
 obtain ⟨y0, y1⟩ := (A0.alloc (.cells #[] 63)).two
 have px : ¬ w.heap.size = V.heap.size := by have := A0.lt; omega
 have vlt : w.heap.size + 1 < V.heap.size := R0.lt
 have RG : Hid (∀ w3 : World, ((V.alloc (.cells #[] 63)).drew).grownBy w3 (some V.heap.size) → Blk w3 (w.heap.size + 1) (.cells #[.int .i64 0, .slice none 0 0] 26)) := hid (fun w3 g3 => R1.out.grown g3 (by simp; omega))
 have A1 := hid (A0.below bm)
 have AG : Hid (∀ w3 : World, ((V.alloc (.cells #[] 63)).drew).grownBy w3 (some V.heap.size) → Blk w3 w.heap.size (.cells #[.int .i64 b, .slice a n cap] 26)) := hid (fun w3 g3 => A1.out.grown g3 (by simp; omega))
 clear hV bm A0 R0 T0
 go_region_law (refine step_append_cats0 _ (by rfl) _ _ (by rfl) w.heap.size (.slice (some ⟨V.heap.size, 0, none⟩) 0 0) f g (by rfl) OM.out a n cap f g (by rfl) TM.out lm s1 ?_; intro a3 c3 w3 o3 g3 v3; have O3 := hid o3; have G3 := hid g3; have RR := hid (RG.out w3 g3); obtain ⟨r0, r1⟩ := RR.out.two; have rf := RR.out.warm; obtain ⟨q0, q1⟩ := (AG.out w3 g3).two; clear o3 g3 v3)
 all_goals (
  have B3 : Hid (Below w.heap.size w w3) := hid (B1.out.trans (below_grown G3.out B1.out.size (fun j hj => by cases hj; show w.heap.size ≤ V.heap.size; omega)))
  have N3 := hid (O3.out.newL hn)
  clear G3 O3 OM TM RG x0 x1 y0 y1 q0 q1 AG A1
  go_wp2
  refine bodyPost_ret (results72 _ _ (w.heap.size + 1) (.int .i64 b) (.slice a3 n c3) ((RR.out.setAt (i := 0) _).setAt (i := 1) _) rfl) rfl ⟨⟨a3, n, c3, f, g⟩, rfl, ⟨rfl, rfl, rfl⟩, ?_, ?_⟩
  ·refine N3.out.of (by simp) (fun q hq hn' => ?_)
   have q2 := N3.out.ne RR.out (by decide) q hq hn'
   iterate 2 rw [blk_setCell_other _ _ _ _ (by dsimp only; omega)]
  ·iterate 2 refine Below.setCell ?_ (by dsimp only; omega) _
   exact B3.out)
end Go.Proofs.YthbmfbnnemgbpaaGreatDoor
