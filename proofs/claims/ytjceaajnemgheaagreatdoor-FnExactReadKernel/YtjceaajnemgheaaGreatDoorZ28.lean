/- Lists of threads and of objects that a call makes and adds to. -/
import Derived.Test.YtjceaajnemgheaaGreatDoorZ3
import Derived.Test.YtjceaajnemgheaaGreatDoorZ8
import Derived.Test.YtjceaajnemgheaaGreatDoorZ7
import Derived.Test.YtjceaajnemgheaaGreatDoorZ17
import Derived.Test.YtjceaajnemgheaaGreatDoorZ16
namespace Go.Proofs.YtjceaajnemgheaaGreatDoor
open Go Go.RowKit Go.Deep Go.Maps
def ThrV.cs (v : ThrV) : List Value := [.int .i64 v.id, .int .i64 v.b1, v.c1.val, .int .i64 v.b2, v.c2.val, v.own.val, .int .i64 v.made]
def cells7 (l : List ThrV) : List Value := (l.map ThrV.cs).flatten
theorem cells7_len (l : List ThrV) : (cells7 l).length = l.length * 7 := by
  induction l with
  | nil => rfl
  | cons x r ih => simp [cells7, ThrV.cs] at *; omega
theorem cells7_append (l r : List ThrV) : cells7 (l ++ r) = cells7 l ++ cells7 r := by simp [cells7]
theorem cells7_one {l : List ThrV} : ∀ u ∈ cells7 l, u.oneCell' = true := fun u hu => by
  simp only [cells7, List.mem_flatten, List.mem_map] at hu
  obtain ⟨_, ⟨x, _, rfl⟩, h⟩ := hu
  simp only [ThrV.cs, List.mem_cons, List.not_mem_nil, or_false] at h
  rcases h with rfl | rfl | rfl | rfl | rfl | rfl | rfl <;> rfl
theorem cells7_get {l : List ThrV} : ∀ {i : Nat} (hi : i < l.length), (cells7 l)[i * 7]? = some (.int .i64 (l[i]).id) ∧ (cells7 l)[i * 7 + 1]? = some (.int .i64 (l[i]).b1) ∧ (cells7 l)[i * 7 + 2]? = some ((l[i]).c1.val) ∧ (cells7 l)[i * 7 + 3]? = some (.int .i64 (l[i]).b2) ∧ (cells7 l)[i * 7 + 4]? = some ((l[i]).c2.val) ∧ (cells7 l)[i * 7 + 5]? = some ((l[i]).own.val) ∧ (cells7 l)[i * 7 + 6]? = some (.int .i64 (l[i]).made) := by
  induction l with
  | nil => intro i hi; simp at hi
  | cons x r ih =>
    intro i hi
    have e : cells7 (x :: r) = Value.int .i64 x.id :: Value.int .i64 x.b1 :: x.c1.val :: Value.int .i64 x.b2 :: x.c2.val :: x.own.val :: Value.int .i64 x.made :: cells7 r := by simp [cells7, ThrV.cs]
    rw [e]
    cases i with
    | zero => simp
    | succ i =>
      have h := ih (i := i) (by simpa using hi)
      have e1 : (i + 1) * 7 = i * 7 + 1 + 1 + 1 + 1 + 1 + 1 + 1 := by omega
      rw [e1]
      simpa using h
def OwnT (w : World) (B : Nat) (v : Value) (l : List ThrV) : Prop := w.ownsRow B 41 7 v l.length (cells7 l)
def ThrV.z : ThrV := ⟨0, 0, ⟨none, 0, 0, fun _ => 0, fun _ => 0⟩, 0, ⟨none, 0, 0, fun _ => 0, fun _ => 0⟩, ⟨none, 0, 0, fun _ => 0⟩, 0⟩
def atOwnT (l : List ThrV) (i : Nat) : ThrV := l.getD i ThrV.z
theorem OwnT.nil (w : World) (B : Nat) : OwnT w B (.slice none 0 0) [] := World.ownsRow_nil _ _ _ _
theorem OwnT.made (w : World) (B : Nat) (hb : B ≤ w.heap.size) : OwnT (w.alloc (.cells #[] 41)) B (.slice (some ⟨w.heap.size, 0, none⟩) 0 0) [] := World.ownsRow_made w #[] 0 hb (Nat.zero_le _) rfl
theorem OwnT.shape {w : World} {B : Nat} {v : Value} {l : List ThrV} (h : OwnT w B v l) : ∃ a c, v = .slice a l.length c := ownsRow_shape h
theorem OwnT.grown {w w' : World} {B : Nat} {row : Option Nat} {v : Value} {l : List ThrV} (h : OwnT w B v l) (hg : w.grownBy w' row) (hne : v.ownBlock = none ∨ v.ownBlock ≠ row) : OwnT w' B v l := World.ownsRow.kept h hg hne
theorem OwnT.below {w w' : World} {B : Nat} {v : Value} {l : List ThrV} (h : OwnT w B v l) (hb : Below w.heap.size w w') : OwnT w' B v l := World.ownsRow.kept (row := none) h ⟨hb.os, hb.tape, hb.output, hb.size, fun k hk _ => hb.block k hk⟩ (by cases v.ownBlock <;> simp)
theorem OwnT.base {w : World} {B B' : Nat} {v : Value} {l : List ThrV} (h : OwnT w B v l) (hB : B' ≤ B) : OwnT w B' v l := by
  refine ⟨h.1, ?_⟩
  rcases h.2 with hn | ⟨g, cap, cur, hv, hbg, rest⟩
  · exact .inl hn
  · exact .inr ⟨g, cap, cur, hv, Nat.le_trans hB hbg, rest⟩
theorem OwnT.lies {w : World} {B c : Nat} {a : Option Addr} {l : List ThrV} (h : OwnT w B (.slice a l.length c) l) (hat : ∀ x ∈ l, x.at w) : ThrsAt w a l.length (atOwnT l) := fun hn => by
  obtain ⟨b, off, e, hlt, hc⟩ := LiesC.own h hn
  refine ⟨b, off, e, hlt, fun i hi => ?_⟩
  have g := cells7_get hi
  have e1 : atOwnT l i = l[i] := by simp [atOwnT, hi]
  rw [e1]
  exact ⟨⟨by have := hc _ _ (g.1); exact this, by have := hc _ _ (g.2.1); rw [← Nat.add_assoc] at this; exact this, by have := hc _ _ (g.2.2.1); rw [← Nat.add_assoc] at this; exact this, by have := hc _ _ (g.2.2.2.1); rw [← Nat.add_assoc] at this; exact this, by have := hc _ _ (g.2.2.2.2.1); rw [← Nat.add_assoc] at this; exact this, by have := hc _ _ (g.2.2.2.2.2.1); rw [← Nat.add_assoc] at this; exact this, by have := hc _ _ (g.2.2.2.2.2.2); rw [← Nat.add_assoc] at this; exact this⟩, hat _ (List.getElem_mem hi)⟩
theorem OwnT.one (w : World) (x : ThrV) : LiesC (w.alloc (.cells #[.int .i64 x.id, .int .i64 x.b1, x.c1.val, .int .i64 x.b2, x.c2.val, x.own.val, .int .i64 x.made] 41)) (some ⟨w.heap.size, 0, none⟩) 1 (cells7 [x]) := fun _ => by
  refine ⟨w.heap.size, 0, rfl, by simp, fun j u hu => ?_⟩
  have h := Blk.new w (.cells #[.int .i64 x.id, .int .i64 x.b1, x.c1.val, .int .i64 x.b2, x.c2.val, x.own.val, .int .i64 x.made] 41)
  have e : cells7 [x] = [.int .i64 x.id, .int .i64 x.b1, x.c1.val, .int .i64 x.b2, x.c2.val, x.own.val, .int .i64 x.made] := by simp [cells7, ThrV.cs]
  rw [e] at hu
  rw [Nat.zero_add]
  refine h.c0 j ?_
  rw [← hu]
  simp only [List.getElem?_toArray]
theorem run_appendOwnT (w : World) (tt : TypeId) (B : Nat) (v : Value) (l : List ThrV) (hown : OwnT w B v l) (ad : Option Addr) (c : Nat) (x : ThrV) (hc : LiesC w ad 1 (cells7 [x])) (hn : l.length ≤ 1048576) (hB : B ≤ w.heap.size) :
    ∃ a' c' w', (Builtin.append_ #[22, 22] tt #[v, .slice ad 1 c]).run Tryz.prog w = .ok (.slice a' (l.length + 1) c') w' ∧ OwnT w' B (.slice a' (l.length + 1) c') (l ++ [x]) ∧ w.grownBy w' v.ownBlock := by
  obtain ⟨a', c', w', h1, h2, h3, _⟩ := run_append_gen Tryz.underlying22 Tryz.info41 rfl (by omega) w tt B v l.length (cells7 l) hown ad 1 c (cells7 [x]) (cells7_len [x]) hc cells7_one (by omega) (by omega) hB
  refine ⟨a', c', w', h1, ?_, h3⟩
  unfold OwnT
  rw [List.length_append, cells7_append]
  exact h2
theorem wpList_appendOwnT {ops : Array Oper} {rest : List Oper} {oo : Oper} {a : Act} {Q : Exit → Act → World → Prop} (w : World) (hgd : oo.guard = none) (s x : Operand)
    (ho : oo.op = .call { callee := .builtin .append, args := #[s, x], argTypes := #[22, 22] })
    (B : Nat) (v : Value) (l : List ThrV) (hs : a.eval s = v) (hown : OwnT w B v l) (ad : Option Addr) (c : Nat) (y : ThrV) (hx : a.eval x = .slice ad 1 c) (hc : LiesC w ad 1 (cells7 [y])) (hn : l.length ≤ 1048576) (hB : B ≤ w.heap.size)
    (h : ∀ a' c' w', OwnT w' B (.slice a' (l.length + 1) c') (l ++ [y]) → w.grownBy w' v.ownBlock → wpList Tryz.prog ops Q rest (a.put oo.dst (.slice a' (l.length + 1) c')) w') : wpList Tryz.prog ops Q (oo :: rest) a w := by
  refine wpList_plain hgd fun K hK => ?_
  obtain ⟨a', c', w', hr, h2, h3⟩ := run_appendOwnT w oo.type B v l hown ad c y hc hn hB
  unfold Oper.wp execOp
  simp only [ho, resolve, invoke, builtin, Sem.run_bind, Sem.run_pure, Result.andThen_ok, List.map_toArray, List.map_cons, List.map_nil, hs, hx, hr]
  exact hK _ _ (h a' c' w' h2 h3)
theorem step_appendOwnT {ops : Array Oper} {oo : Oper} {a : Act} {w : World} {K : Act → World → Prop} {Q : Exit → Act → World → Prop} {E : Prop} (hgd : oo.guard = none) (s x : Operand)
    (ho : oo.op = .call { callee := .builtin .append, args := #[s, x], argTypes := #[22, 22] })
    (B : Nat) (v : Value) (l : List ThrV) (hs : a.eval s = v) (hown : OwnT w B v l) (ad : Option Addr) (c : Nat) (y : ThrV) (hx : a.eval x = .slice ad 1 c) (hc : LiesC w ad 1 (cells7 [y])) (hn : l.length ≤ 1048576) (hB : B ≤ w.heap.size)
    (h : ∀ a' c' w', OwnT w' B (.slice a' (l.length + 1) c') (l ++ [y]) → w.grownBy w' v.ownBlock → K (a.put oo.dst (.slice a' (l.length + 1) c')) w') :
    if Region.wanted oo (yielded ops a.tmps) = true then Oper.wp Tryz.prog oo a w K Q else E := by
  have hw : Region.wanted oo (yielded ops a.tmps) = true := by simp [Region.wanted, hgd]
  rw [if_pos hw]
  obtain ⟨a', c', w', hr, h2, h3⟩ := run_appendOwnT w oo.type B v l hown ad c y hc hn hB
  unfold Oper.wp execOp
  simp only [ho, resolve, invoke, builtin, Sem.run_bind, Sem.run_pure, Result.andThen_ok, List.map_toArray, List.map_cons, List.map_nil, hs, hx, hr]
  exact h a' c' w' h2 h3

def ObjV.cs (v : ObjV) : List Value := [.int .i64 v.id, .int .i64 v.kind, .int .i64 v.up, .int .i64 v.b1, v.c1.val, .string v.data, v.items.val, v.own.val, .int .i64 v.b2, v.c2.val]
def cells10 (l : List ObjV) : List Value := (l.map ObjV.cs).flatten
theorem cells10_len (l : List ObjV) : (cells10 l).length = l.length * 10 := by
  induction l with
  | nil => rfl
  | cons x r ih => simp [cells10, ObjV.cs] at *; omega
theorem cells10_append (l r : List ObjV) : cells10 (l ++ r) = cells10 l ++ cells10 r := by simp [cells10]
theorem cells10_one {l : List ObjV} : ∀ u ∈ cells10 l, u.oneCell' = true := fun u hu => by
  simp only [cells10, List.mem_flatten, List.mem_map] at hu
  obtain ⟨_, ⟨x, _, rfl⟩, h⟩ := hu
  simp only [ObjV.cs, List.mem_cons, List.not_mem_nil, or_false] at h
  rcases h with rfl | rfl | rfl | rfl | rfl | rfl | rfl | rfl | rfl | rfl <;> rfl
theorem cells10_get {l : List ObjV} : ∀ {i : Nat} (hi : i < l.length), (cells10 l)[i * 10]? = some (.int .i64 (l[i]).id) ∧ (cells10 l)[i * 10 + 1]? = some (.int .i64 (l[i]).kind) ∧ (cells10 l)[i * 10 + 2]? = some (.int .i64 (l[i]).up) ∧ (cells10 l)[i * 10 + 3]? = some (.int .i64 (l[i]).b1) ∧ (cells10 l)[i * 10 + 4]? = some ((l[i]).c1.val) ∧ (cells10 l)[i * 10 + 5]? = some (.string (l[i]).data) ∧ (cells10 l)[i * 10 + 6]? = some ((l[i]).items.val) ∧ (cells10 l)[i * 10 + 7]? = some ((l[i]).own.val) ∧ (cells10 l)[i * 10 + 8]? = some (.int .i64 (l[i]).b2) ∧ (cells10 l)[i * 10 + 9]? = some ((l[i]).c2.val) := by
  induction l with
  | nil => intro i hi; simp at hi
  | cons x r ih =>
    intro i hi
    have e : cells10 (x :: r) = Value.int .i64 x.id :: Value.int .i64 x.kind :: Value.int .i64 x.up :: Value.int .i64 x.b1 :: x.c1.val :: Value.string x.data :: x.items.val :: x.own.val :: Value.int .i64 x.b2 :: x.c2.val :: cells10 r := by simp [cells10, ObjV.cs]
    rw [e]
    cases i with
    | zero => simp
    | succ i =>
      have h := ih (i := i) (by simpa using hi)
      have e1 : (i + 1) * 10 = i * 10 + 1 + 1 + 1 + 1 + 1 + 1 + 1 + 1 + 1 + 1 := by omega
      rw [e1]
      simpa using h
def OwnOb (w : World) (B : Nat) (v : Value) (l : List ObjV) : Prop := w.ownsRow B 45 10 v l.length (cells10 l)
def ObjV.z : ObjV := ⟨0, 0, 0, 0, ⟨none, 0, 0, fun _ => 0, fun _ => 0⟩, ⟨#[]⟩, ⟨none, 0, 0, fun _ => ⟨#[]⟩⟩, ⟨none, 0, 0, fun _ => 0⟩, 0, ⟨none, 0, 0, fun _ => 0, fun _ => 0⟩⟩
def atOwnOb (l : List ObjV) (i : Nat) : ObjV := l.getD i ObjV.z
theorem OwnOb.nil (w : World) (B : Nat) : OwnOb w B (.slice none 0 0) [] := World.ownsRow_nil _ _ _ _
theorem OwnOb.made (w : World) (B : Nat) (hb : B ≤ w.heap.size) : OwnOb (w.alloc (.cells #[] 45)) B (.slice (some ⟨w.heap.size, 0, none⟩) 0 0) [] := World.ownsRow_made w #[] 0 hb (Nat.zero_le _) rfl
theorem OwnOb.shape {w : World} {B : Nat} {v : Value} {l : List ObjV} (h : OwnOb w B v l) : ∃ a c, v = .slice a l.length c := ownsRow_shape h
theorem OwnOb.grown {w w' : World} {B : Nat} {row : Option Nat} {v : Value} {l : List ObjV} (h : OwnOb w B v l) (hg : w.grownBy w' row) (hne : v.ownBlock = none ∨ v.ownBlock ≠ row) : OwnOb w' B v l := World.ownsRow.kept h hg hne
theorem OwnOb.below {w w' : World} {B : Nat} {v : Value} {l : List ObjV} (h : OwnOb w B v l) (hb : Below w.heap.size w w') : OwnOb w' B v l := World.ownsRow.kept (row := none) h ⟨hb.os, hb.tape, hb.output, hb.size, fun k hk _ => hb.block k hk⟩ (by cases v.ownBlock <;> simp)
theorem OwnOb.base {w : World} {B B' : Nat} {v : Value} {l : List ObjV} (h : OwnOb w B v l) (hB : B' ≤ B) : OwnOb w B' v l := by
  refine ⟨h.1, ?_⟩
  rcases h.2 with hn | ⟨g, cap, cur, hv, hbg, rest⟩
  · exact .inl hn
  · exact .inr ⟨g, cap, cur, hv, Nat.le_trans hB hbg, rest⟩
theorem OwnOb.lies {w : World} {B c : Nat} {a : Option Addr} {l : List ObjV} (h : OwnOb w B (.slice a l.length c) l) (hat : ∀ x ∈ l, x.at w) : ObjsAt w a l.length (atOwnOb l) := fun hn => by
  obtain ⟨b, off, e, hlt, hc⟩ := LiesC.own h hn
  refine ⟨b, off, e, hlt, fun i hi => ?_⟩
  have g := cells10_get hi
  have e1 : atOwnOb l i = l[i] := by simp [atOwnOb, hi]
  rw [e1]
  exact ⟨⟨by have := hc _ _ (g.1); exact this, by have := hc _ _ (g.2.1); rw [← Nat.add_assoc] at this; exact this, by have := hc _ _ (g.2.2.1); rw [← Nat.add_assoc] at this; exact this, by have := hc _ _ (g.2.2.2.1); rw [← Nat.add_assoc] at this; exact this, by have := hc _ _ (g.2.2.2.2.1); rw [← Nat.add_assoc] at this; exact this, by have := hc _ _ (g.2.2.2.2.2.1); rw [← Nat.add_assoc] at this; exact this, by have := hc _ _ (g.2.2.2.2.2.2.1); rw [← Nat.add_assoc] at this; exact this, by have := hc _ _ (g.2.2.2.2.2.2.2.1); rw [← Nat.add_assoc] at this; exact this, by have := hc _ _ (g.2.2.2.2.2.2.2.2.1); rw [← Nat.add_assoc] at this; exact this, by have := hc _ _ (g.2.2.2.2.2.2.2.2.2); rw [← Nat.add_assoc] at this; exact this⟩, hat _ (List.getElem_mem hi)⟩
theorem OwnOb.one (w : World) (x : ObjV) : LiesC (w.alloc (.cells #[.int .i64 x.id, .int .i64 x.kind, .int .i64 x.up, .int .i64 x.b1, x.c1.val, .string x.data, x.items.val, x.own.val, .int .i64 x.b2, x.c2.val] 45)) (some ⟨w.heap.size, 0, none⟩) 1 (cells10 [x]) := fun _ => by
  refine ⟨w.heap.size, 0, rfl, by simp, fun j u hu => ?_⟩
  have h := Blk.new w (.cells #[.int .i64 x.id, .int .i64 x.kind, .int .i64 x.up, .int .i64 x.b1, x.c1.val, .string x.data, x.items.val, x.own.val, .int .i64 x.b2, x.c2.val] 45)
  have e : cells10 [x] = [.int .i64 x.id, .int .i64 x.kind, .int .i64 x.up, .int .i64 x.b1, x.c1.val, .string x.data, x.items.val, x.own.val, .int .i64 x.b2, x.c2.val] := by simp [cells10, ObjV.cs]
  rw [e] at hu
  rw [Nat.zero_add]
  refine h.c0 j ?_
  rw [← hu]
  simp only [List.getElem?_toArray]
theorem run_appendOwnOb (w : World) (tt : TypeId) (B : Nat) (v : Value) (l : List ObjV) (hown : OwnOb w B v l) (ad : Option Addr) (c : Nat) (x : ObjV) (hc : LiesC w ad 1 (cells10 [x])) (hn : l.length ≤ 1048576) (hB : B ≤ w.heap.size) :
    ∃ a' c' w', (Builtin.append_ #[23, 23] tt #[v, .slice ad 1 c]).run Tryz.prog w = .ok (.slice a' (l.length + 1) c') w' ∧ OwnOb w' B (.slice a' (l.length + 1) c') (l ++ [x]) ∧ w.grownBy w' v.ownBlock := by
  obtain ⟨a', c', w', h1, h2, h3, _⟩ := run_append_gen Tryz.underlying23 Tryz.info45 rfl (by omega) w tt B v l.length (cells10 l) hown ad 1 c (cells10 [x]) (cells10_len [x]) hc cells10_one (by omega) (by omega) hB
  refine ⟨a', c', w', h1, ?_, h3⟩
  unfold OwnOb
  rw [List.length_append, cells10_append]
  exact h2
theorem wpList_appendOwnOb {ops : Array Oper} {rest : List Oper} {oo : Oper} {a : Act} {Q : Exit → Act → World → Prop} (w : World) (hgd : oo.guard = none) (s x : Operand)
    (ho : oo.op = .call { callee := .builtin .append, args := #[s, x], argTypes := #[23, 23] })
    (B : Nat) (v : Value) (l : List ObjV) (hs : a.eval s = v) (hown : OwnOb w B v l) (ad : Option Addr) (c : Nat) (y : ObjV) (hx : a.eval x = .slice ad 1 c) (hc : LiesC w ad 1 (cells10 [y])) (hn : l.length ≤ 1048576) (hB : B ≤ w.heap.size)
    (h : ∀ a' c' w', OwnOb w' B (.slice a' (l.length + 1) c') (l ++ [y]) → w.grownBy w' v.ownBlock → wpList Tryz.prog ops Q rest (a.put oo.dst (.slice a' (l.length + 1) c')) w') : wpList Tryz.prog ops Q (oo :: rest) a w := by
  refine wpList_plain hgd fun K hK => ?_
  obtain ⟨a', c', w', hr, h2, h3⟩ := run_appendOwnOb w oo.type B v l hown ad c y hc hn hB
  unfold Oper.wp execOp
  simp only [ho, resolve, invoke, builtin, Sem.run_bind, Sem.run_pure, Result.andThen_ok, List.map_toArray, List.map_cons, List.map_nil, hs, hx, hr]
  exact hK _ _ (h a' c' w' h2 h3)
theorem step_appendOwnOb {ops : Array Oper} {oo : Oper} {a : Act} {w : World} {K : Act → World → Prop} {Q : Exit → Act → World → Prop} {E : Prop} (hgd : oo.guard = none) (s x : Operand)
    (ho : oo.op = .call { callee := .builtin .append, args := #[s, x], argTypes := #[23, 23] })
    (B : Nat) (v : Value) (l : List ObjV) (hs : a.eval s = v) (hown : OwnOb w B v l) (ad : Option Addr) (c : Nat) (y : ObjV) (hx : a.eval x = .slice ad 1 c) (hc : LiesC w ad 1 (cells10 [y])) (hn : l.length ≤ 1048576) (hB : B ≤ w.heap.size)
    (h : ∀ a' c' w', OwnOb w' B (.slice a' (l.length + 1) c') (l ++ [y]) → w.grownBy w' v.ownBlock → K (a.put oo.dst (.slice a' (l.length + 1) c')) w') :
    if Region.wanted oo (yielded ops a.tmps) = true then Oper.wp Tryz.prog oo a w K Q else E := by
  have hw : Region.wanted oo (yielded ops a.tmps) = true := by simp [Region.wanted, hgd]
  rw [if_pos hw]
  obtain ⟨a', c', w', hr, h2, h3⟩ := run_appendOwnOb w oo.type B v l hown ad c y hc hn hB
  unfold Oper.wp execOp
  simp only [ho, resolve, invoke, builtin, Sem.run_bind, Sem.run_pure, Result.andThen_ok, List.map_toArray, List.map_cons, List.map_nil, hs, hx, hr]
  exact h a' c' w' h2 h3
end Go.Proofs.YtjceaajnemgheaaGreatDoor
namespace Go.Proofs.YtjceaajnemgheaaGreatDoor
open Go Go.RowKit Go.Deep Go.Maps Go.BigFrame Go.Shelf

theorem ownS_newL {w : World} {B n c : Nat} {a : Option Addr} {f : Nat → ByteArray} (h : w.ownsRow B 9 1 (.slice a n c) n ((List.range n).map (fun i => Value.string (f i)))) (hn : n ≤ 1048576) (hz : ∀ i, i < n → (f i).size ≤ maxLen) : StrL.new B w ⟨a, n, c, f⟩ := by
  have hi : StrAt w a n f := fun h0 => by
    obtain ⟨b, off, e, hlt, hcc⟩ := LiesC.own h h0
    exact ⟨b, off, e, hlt, fun i hi => hcc i _ (by simp [hi])⟩
  exact ⟨⟨by unfold maxLen; simp only; omega, hi, hz⟩, fun h0 => by have := row_of_own h h0; simpa using this⟩
theorem ownI_newL {w : World} {B n c : Nat} {a : Option Addr} {f : Nat → Int} (h : w.ownsRow B 2 1 (.slice a n c) n (((List.range n).map f).map (Value.int .i64))) (hn : n ≤ 1048576) : IntL.new B w ⟨a, n, c, f⟩ := by
  have el : ((List.range n).map f).length = n := by simp
  have ho' : OwnI w B (.slice a ((List.range n).map f).length c) ((List.range n).map f) := by unfold OwnI; rw [el]; exact h
  have hi : IntsAt w a n f := fun h0 => by
    obtain ⟨b, off, e, hlt, hcc⟩ := (OwnI.lies ho').ints (by rw [el]; exact h0)
    refine ⟨b, off, e, hlt, fun i hi => ?_⟩
    have := hcc i (by rw [el]; exact hi)
    rw [this]
    simp [nthI, hi]
  exact ⟨⟨by unfold maxLen; simp only; omega, hi⟩, fun h0 => by have := row_of_own h h0; simpa using this⟩

end Go.Proofs.YtjceaajnemgheaaGreatDoor
