/- Lists of threads and of objects that a call makes and adds to. -/
import Derived.Test.YtkoinmddcnnipaaZ3
import Derived.Test.YtkoinmddcnnipaaZ6
import Derived.Test.YtkoinmddcnnipaaZ5
import Derived.Test.YtkoinmddcnnipaaZ4
import Derived.Test.YtkoinmddcnnipaaZ8
namespace Go.Proofs.Ytkoinmddcnnipaa
open Go Go.RowKit Go.Deep Go.Maps
def ThrV.cs (v : ThrV) : List Value := [.int .i64 v.id, .int .i64 v.b1, v.c1.val, .int .i64 v.b2, v.c2.val, v.own.val, .int .i64 v.made]
def cells7 (l : List ThrV) : List Value := (l.map ThrV.cs).flatten
theorem cells7_len (l : List ThrV) : (cells7 l).length = l.length * 7 := by
  induction l with
  | nil => rfl
  | cons x r ih => simp [cells7, ThrV.cs] at *; omega
theorem cells7_append (l r : List ThrV) : cells7 (l ++ r) = cells7 l ++ cells7 r := by simp [cells7]
theorem cells7_one {l : List ThrV} : ∀ u ∈ cells7 l, u.oneCell' = true := fun u hu => by
  simp only [cells7, List.mem_flatten, List.mem_map] at hu
  obtain ⟨_, ⟨x, _, rfl⟩, h⟩ := hu
  simp only [ThrV.cs, List.mem_cons, List.not_mem_nil, or_false] at h
  rcases h with rfl | rfl | rfl | rfl | rfl | rfl | rfl <;> rfl
theorem cells7_get {l : List ThrV} : ∀ {i : Nat} (hi : i < l.length), (cells7 l)[i * 7]? = some (.int .i64 (l[i]).id) ∧ (cells7 l)[i * 7 + 1]? = some (.int .i64 (l[i]).b1) ∧ (cells7 l)[i * 7 + 2]? = some ((l[i]).c1.val) ∧ (cells7 l)[i * 7 + 3]? = some (.int .i64 (l[i]).b2) ∧ (cells7 l)[i * 7 + 4]? = some ((l[i]).c2.val) ∧ (cells7 l)[i * 7 + 5]? = some ((l[i]).own.val) ∧ (cells7 l)[i * 7 + 6]? = some (.int .i64 (l[i]).made) := by
  induction l with
  | nil => intro i hi; simp at hi
  | cons x r ih =>
    intro i hi
    have e : cells7 (x :: r) = Value.int .i64 x.id :: Value.int .i64 x.b1 :: x.c1.val :: Value.int .i64 x.b2 :: x.c2.val :: x.own.val :: Value.int .i64 x.made :: cells7 r := by simp [cells7, ThrV.cs]
    rw [e]
    cases i with
    | zero => simp
    | succ i =>
      have h := ih (i := i) (by simpa using hi)
      have e1 : (i + 1) * 7 = i * 7 + 1 + 1 + 1 + 1 + 1 + 1 + 1 := by omega
      rw [e1]
      simpa using h
def OwnT (w : World) (B : Nat) (v : Value) (l : List ThrV) : Prop := w.ownsRow B 62 7 v l.length (cells7 l)
def ThrV.z : ThrV := ⟨0, 0, ⟨none, 0, 0, fun _ => 0, fun _ => 0⟩, 0, ⟨none, 0, 0, fun _ => 0, fun _ => 0⟩, ⟨none, 0, 0, fun _ => 0⟩, 0⟩
def atOwnT (l : List ThrV) (i : Nat) : ThrV := l.getD i ThrV.z
theorem OwnT.nil (w : World) (B : Nat) : OwnT w B (.slice none 0 0) [] := World.ownsRow_nil _ _ _ _
theorem OwnT.made (w : World) (B : Nat) (hb : B ≤ w.heap.size) : OwnT (w.alloc (.cells #[] 62)) B (.slice (some ⟨w.heap.size, 0, none⟩) 0 0) [] := World.ownsRow_made w #[] 0 hb (Nat.zero_le _) rfl
theorem OwnT.shape {w : World} {B : Nat} {v : Value} {l : List ThrV} (h : OwnT w B v l) : ∃ a c, v = .slice a l.length c := ownsRow_shape h
theorem OwnT.grown {w w' : World} {B : Nat} {row : Option Nat} {v : Value} {l : List ThrV} (h : OwnT w B v l) (hg : w.grownBy w' row) (hne : v.ownBlock = none ∨ v.ownBlock ≠ row) : OwnT w' B v l := World.ownsRow.kept h hg hne
theorem OwnT.below {w w' : World} {B : Nat} {v : Value} {l : List ThrV} (h : OwnT w B v l) (hb : Below w.heap.size w w') : OwnT w' B v l := World.ownsRow.kept (row := none) h ⟨hb.os, hb.tape, hb.output, hb.size, fun k hk _ => hb.block k hk⟩ (by cases v.ownBlock <;> simp)
theorem OwnT.base {w : World} {B B' : Nat} {v : Value} {l : List ThrV} (h : OwnT w B v l) (hB : B' ≤ B) : OwnT w B' v l := by
  refine ⟨h.1, ?_⟩
  rcases h.2 with hn | ⟨g, cap, cur, hv, hbg, rest⟩
  · exact .inl hn
  · exact .inr ⟨g, cap, cur, hv, Nat.le_trans hB hbg, rest⟩
theorem OwnT.lies {w : World} {B c : Nat} {a : Option Addr} {l : List ThrV} (h : OwnT w B (.slice a l.length c) l) (hat : ∀ x ∈ l, x.at w) : ThrsAt w a l.length (atOwnT l) := fun hn => by
  obtain ⟨b, off, e, hlt, hc⟩ := LiesC.own h hn
  refine ⟨b, off, e, hlt, fun i hi => ?_⟩
  have g := cells7_get hi
  have e1 : atOwnT l i = l[i] := by simp [atOwnT, hi]
  rw [e1]
  exact ⟨⟨by have := hc _ _ (g.1); exact this, by have := hc _ _ (g.2.1); rw [← Nat.add_assoc] at this; exact this, by have := hc _ _ (g.2.2.1); rw [← Nat.add_assoc] at this; exact this, by have := hc _ _ (g.2.2.2.1); rw [← Nat.add_assoc] at this; exact this, by have := hc _ _ (g.2.2.2.2.1); rw [← Nat.add_assoc] at this; exact this, by have := hc _ _ (g.2.2.2.2.2.1); rw [← Nat.add_assoc] at this; exact this, by have := hc _ _ (g.2.2.2.2.2.2); rw [← Nat.add_assoc] at this; exact this⟩, hat _ (List.getElem_mem hi)⟩
theorem OwnT.one (w : World) (x : ThrV) : LiesC (w.alloc (.cells #[.int .i64 x.id, .int .i64 x.b1, x.c1.val, .int .i64 x.b2, x.c2.val, x.own.val, .int .i64 x.made] 62)) (some ⟨w.heap.size, 0, none⟩) 1 (cells7 [x]) := fun _ => by
  refine ⟨w.heap.size, 0, rfl, by simp, fun j u hu => ?_⟩
  have h := Blk.new w (.cells #[.int .i64 x.id, .int .i64 x.b1, x.c1.val, .int .i64 x.b2, x.c2.val, x.own.val, .int .i64 x.made] 62)
  have e : cells7 [x] = [.int .i64 x.id, .int .i64 x.b1, x.c1.val, .int .i64 x.b2, x.c2.val, x.own.val, .int .i64 x.made] := by simp [cells7, ThrV.cs]
  rw [e] at hu
  rw [Nat.zero_add]
  refine h.c0 j ?_
  rw [← hu]
  simp only [List.getElem?_toArray]
theorem run_appendOwnT (w : World) (tt : TypeId) (B : Nat) (v : Value) (l : List ThrV) (hown : OwnT w B v l) (ad : Option Addr) (c : Nat) (x : ThrV) (hc : LiesC w ad 1 (cells7 [x])) (hn : l.length ≤ 1048576) (hB : B ≤ w.heap.size) :
    ∃ a' c' w', (Builtin.append_ #[24, 24] tt #[v, .slice ad 1 c]).run Try.prog w = .ok (.slice a' (l.length + 1) c') w' ∧ OwnT w' B (.slice a' (l.length + 1) c') (l ++ [x]) ∧ w.grownBy w' v.ownBlock := by
  obtain ⟨a', c', w', h1, h2, h3, _⟩ := run_append_gen Try.underlying24 Try.info62 rfl (by omega) w tt B v l.length (cells7 l) hown ad 1 c (cells7 [x]) (cells7_len [x]) hc cells7_one (by omega) (by omega) hB
  refine ⟨a', c', w', h1, ?_, h3⟩
  unfold OwnT
  rw [List.length_append, cells7_append]
  exact h2
theorem wpList_appendOwnT {ops : Array Oper} {rest : List Oper} {oo : Oper} {a : Act} {Q : Exit → Act → World → Prop} (w : World) (hgd : oo.guard = none) (s x : Operand)
    (ho : oo.op = .call { callee := .builtin .append, args := #[s, x], argTypes := #[24, 24] })
    (B : Nat) (v : Value) (l : List ThrV) (hs : a.eval s = v) (hown : OwnT w B v l) (ad : Option Addr) (c : Nat) (y : ThrV) (hx : a.eval x = .slice ad 1 c) (hc : LiesC w ad 1 (cells7 [y])) (hn : l.length ≤ 1048576) (hB : B ≤ w.heap.size)
    (h : ∀ a' c' w', OwnT w' B (.slice a' (l.length + 1) c') (l ++ [y]) → w.grownBy w' v.ownBlock → wpList Try.prog ops Q rest (a.put oo.dst (.slice a' (l.length + 1) c')) w') : wpList Try.prog ops Q (oo :: rest) a w := by
  refine wpList_plain hgd fun K hK => ?_
  obtain ⟨a', c', w', hr, h2, h3⟩ := run_appendOwnT w oo.type B v l hown ad c y hc hn hB
  unfold Oper.wp execOp
  simp only [ho, resolve, invoke, builtin, Sem.run_bind, Sem.run_pure, Result.andThen_ok, List.map_toArray, List.map_cons, List.map_nil, hs, hx, hr]
  exact hK _ _ (h a' c' w' h2 h3)
theorem step_appendOwnT {ops : Array Oper} {oo : Oper} {a : Act} {w : World} {K : Act → World → Prop} {Q : Exit → Act → World → Prop} {E : Prop} (hgd : oo.guard = none) (s x : Operand)
    (ho : oo.op = .call { callee := .builtin .append, args := #[s, x], argTypes := #[24, 24] })
    (B : Nat) (v : Value) (l : List ThrV) (hs : a.eval s = v) (hown : OwnT w B v l) (ad : Option Addr) (c : Nat) (y : ThrV) (hx : a.eval x = .slice ad 1 c) (hc : LiesC w ad 1 (cells7 [y])) (hn : l.length ≤ 1048576) (hB : B ≤ w.heap.size)
    (h : ∀ a' c' w', OwnT w' B (.slice a' (l.length + 1) c') (l ++ [y]) → w.grownBy w' v.ownBlock → K (a.put oo.dst (.slice a' (l.length + 1) c')) w') :
    if Region.wanted oo (yielded ops a.tmps) = true then Oper.wp Try.prog oo a w K Q else E := by
  have hw : Region.wanted oo (yielded ops a.tmps) = true := by simp [Region.wanted, hgd]
  rw [if_pos hw]
  obtain ⟨a', c', w', hr, h2, h3⟩ := run_appendOwnT w oo.type B v l hown ad c y hc hn hB
  unfold Oper.wp execOp
  simp only [ho, resolve, invoke, builtin, Sem.run_bind, Sem.run_pure, Result.andThen_ok, List.map_toArray, List.map_cons, List.map_nil, hs, hx, hr]
  exact h a' c' w' h2 h3

def ObjV.cs (v : ObjV) : List Value := [.int .i64 v.id, .int .i64 v.kind, .int .i64 v.up, .int .i64 v.b1, v.c1.val, .string v.data, v.items.val, v.own.val, .int .i64 v.b2, v.c2.val]
def cells10 (l : List ObjV) : List Value := (l.map ObjV.cs).flatten
theorem cells10_len (l : List ObjV) : (cells10 l).length = l.length * 10 := by
  induction l with
  | nil => rfl
  | cons x r ih => simp [cells10, ObjV.cs] at *; omega
theorem cells10_append (l r : List ObjV) : cells10 (l ++ r) = cells10 l ++ cells10 r := by simp [cells10]
theorem cells10_one {l : List ObjV} : ∀ u ∈ cells10 l, u.oneCell' = true := fun u hu => by
  simp only [cells10, List.mem_flatten, List.mem_map] at hu
  obtain ⟨_, ⟨x, _, rfl⟩, h⟩ := hu
  simp only [ObjV.cs, List.mem_cons, List.not_mem_nil, or_false] at h
  rcases h with rfl | rfl | rfl | rfl | rfl | rfl | rfl | rfl | rfl | rfl <;> rfl
theorem cells10_get {l : List ObjV} : ∀ {i : Nat} (hi : i < l.length), (cells10 l)[i * 10]? = some (.int .i64 (l[i]).id) ∧ (cells10 l)[i * 10 + 1]? = some (.int .i64 (l[i]).kind) ∧ (cells10 l)[i * 10 + 2]? = some (.int .i64 (l[i]).up) ∧ (cells10 l)[i * 10 + 3]? = some (.int .i64 (l[i]).b1) ∧ (cells10 l)[i * 10 + 4]? = some ((l[i]).c1.val) ∧ (cells10 l)[i * 10 + 5]? = some (.string (l[i]).data) ∧ (cells10 l)[i * 10 + 6]? = some ((l[i]).items.val) ∧ (cells10 l)[i * 10 + 7]? = some ((l[i]).own.val) ∧ (cells10 l)[i * 10 + 8]? = some (.int .i64 (l[i]).b2) ∧ (cells10 l)[i * 10 + 9]? = some ((l[i]).c2.val) := by
  induction l with
  | nil => intro i hi; simp at hi
  | cons x r ih =>
    intro i hi
    have e : cells10 (x :: r) = Value.int .i64 x.id :: Value.int .i64 x.kind :: Value.int .i64 x.up :: Value.int .i64 x.b1 :: x.c1.val :: Value.string x.data :: x.items.val :: x.own.val :: Value.int .i64 x.b2 :: x.c2.val :: cells10 r := by simp [cells10, ObjV.cs]
    rw [e]
    cases i with
    | zero => simp
    | succ i =>
      have h := ih (i := i) (by simpa using hi)
      have e1 : (i + 1) * 10 = i * 10 + 1 + 1 + 1 + 1 + 1 + 1 + 1 + 1 + 1 + 1 := by omega
      rw [e1]
      simpa using h
def OwnOb (w : World) (B : Nat) (v : Value) (l : List ObjV) : Prop := w.ownsRow B 38 10 v l.length (cells10 l)
def ObjV.z : ObjV := ⟨0, 0, 0, 0, ⟨none, 0, 0, fun _ => 0, fun _ => 0⟩, ⟨#[]⟩, ⟨none, 0, 0, fun _ => ⟨#[]⟩⟩, ⟨none, 0, 0, fun _ => 0⟩, 0, ⟨none, 0, 0, fun _ => 0, fun _ => 0⟩⟩
def atOwnOb (l : List ObjV) (i : Nat) : ObjV := l.getD i ObjV.z
theorem OwnOb.nil (w : World) (B : Nat) : OwnOb w B (.slice none 0 0) [] := World.ownsRow_nil _ _ _ _
theorem OwnOb.made (w : World) (B : Nat) (hb : B ≤ w.heap.size) : OwnOb (w.alloc (.cells #[] 38)) B (.slice (some ⟨w.heap.size, 0, none⟩) 0 0) [] := World.ownsRow_made w #[] 0 hb (Nat.zero_le _) rfl
theorem OwnOb.shape {w : World} {B : Nat} {v : Value} {l : List ObjV} (h : OwnOb w B v l) : ∃ a c, v = .slice a l.length c := ownsRow_shape h
theorem OwnOb.grown {w w' : World} {B : Nat} {row : Option Nat} {v : Value} {l : List ObjV} (h : OwnOb w B v l) (hg : w.grownBy w' row) (hne : v.ownBlock = none ∨ v.ownBlock ≠ row) : OwnOb w' B v l := World.ownsRow.kept h hg hne
theorem OwnOb.below {w w' : World} {B : Nat} {v : Value} {l : List ObjV} (h : OwnOb w B v l) (hb : Below w.heap.size w w') : OwnOb w' B v l := World.ownsRow.kept (row := none) h ⟨hb.os, hb.tape, hb.output, hb.size, fun k hk _ => hb.block k hk⟩ (by cases v.ownBlock <;> simp)
theorem OwnOb.base {w : World} {B B' : Nat} {v : Value} {l : List ObjV} (h : OwnOb w B v l) (hB : B' ≤ B) : OwnOb w B' v l := by
  refine ⟨h.1, ?_⟩
  rcases h.2 with hn | ⟨g, cap, cur, hv, hbg, rest⟩
  · exact .inl hn
  · exact .inr ⟨g, cap, cur, hv, Nat.le_trans hB hbg, rest⟩
theorem OwnOb.lies {w : World} {B c : Nat} {a : Option Addr} {l : List ObjV} (h : OwnOb w B (.slice a l.length c) l) (hat : ∀ x ∈ l, x.at w) : ObjsAt w a l.length (atOwnOb l) := fun hn => by
  obtain ⟨b, off, e, hlt, hc⟩ := LiesC.own h hn
  refine ⟨b, off, e, hlt, fun i hi => ?_⟩
  have g := cells10_get hi
  have e1 : atOwnOb l i = l[i] := by simp [atOwnOb, hi]
  rw [e1]
  exact ⟨⟨by have := hc _ _ (g.1); exact this, by have := hc _ _ (g.2.1); rw [← Nat.add_assoc] at this; exact this, by have := hc _ _ (g.2.2.1); rw [← Nat.add_assoc] at this; exact this, by have := hc _ _ (g.2.2.2.1); rw [← Nat.add_assoc] at this; exact this, by have := hc _ _ (g.2.2.2.2.1); rw [← Nat.add_assoc] at this; exact this, by have := hc _ _ (g.2.2.2.2.2.1); rw [← Nat.add_assoc] at this; exact this, by have := hc _ _ (g.2.2.2.2.2.2.1); rw [← Nat.add_assoc] at this; exact this, by have := hc _ _ (g.2.2.2.2.2.2.2.1); rw [← Nat.add_assoc] at this; exact this, by have := hc _ _ (g.2.2.2.2.2.2.2.2.1); rw [← Nat.add_assoc] at this; exact this, by have := hc _ _ (g.2.2.2.2.2.2.2.2.2); rw [← Nat.add_assoc] at this; exact this⟩, hat _ (List.getElem_mem hi)⟩
theorem OwnOb.one (w : World) (x : ObjV) : LiesC (w.alloc (.cells #[.int .i64 x.id, .int .i64 x.kind, .int .i64 x.up, .int .i64 x.b1, x.c1.val, .string x.data, x.items.val, x.own.val, .int .i64 x.b2, x.c2.val] 38)) (some ⟨w.heap.size, 0, none⟩) 1 (cells10 [x]) := fun _ => by
  refine ⟨w.heap.size, 0, rfl, by simp, fun j u hu => ?_⟩
  have h := Blk.new w (.cells #[.int .i64 x.id, .int .i64 x.kind, .int .i64 x.up, .int .i64 x.b1, x.c1.val, .string x.data, x.items.val, x.own.val, .int .i64 x.b2, x.c2.val] 38)
  have e : cells10 [x] = [.int .i64 x.id, .int .i64 x.kind, .int .i64 x.up, .int .i64 x.b1, x.c1.val, .string x.data, x.items.val, x.own.val, .int .i64 x.b2, x.c2.val] := by simp [cells10, ObjV.cs]
  rw [e] at hu
  rw [Nat.zero_add]
  refine h.c0 j ?_
  rw [← hu]
  simp only [List.getElem?_toArray]
theorem run_appendOwnOb (w : World) (tt : TypeId) (B : Nat) (v : Value) (l : List ObjV) (hown : OwnOb w B v l) (ad : Option Addr) (c : Nat) (x : ObjV) (hc : LiesC w ad 1 (cells10 [x])) (hn : l.length ≤ 1048576) (hB : B ≤ w.heap.size) :
    ∃ a' c' w', (Builtin.append_ #[25, 25] tt #[v, .slice ad 1 c]).run Try.prog w = .ok (.slice a' (l.length + 1) c') w' ∧ OwnOb w' B (.slice a' (l.length + 1) c') (l ++ [x]) ∧ w.grownBy w' v.ownBlock := by
  obtain ⟨a', c', w', h1, h2, h3, _⟩ := run_append_gen Try.underlying25 Try.info38 rfl (by omega) w tt B v l.length (cells10 l) hown ad 1 c (cells10 [x]) (cells10_len [x]) hc cells10_one (by omega) (by omega) hB
  refine ⟨a', c', w', h1, ?_, h3⟩
  unfold OwnOb
  rw [List.length_append, cells10_append]
  exact h2
theorem wpList_appendOwnOb {ops : Array Oper} {rest : List Oper} {oo : Oper} {a : Act} {Q : Exit → Act → World → Prop} (w : World) (hgd : oo.guard = none) (s x : Operand)
    (ho : oo.op = .call { callee := .builtin .append, args := #[s, x], argTypes := #[25, 25] })
    (B : Nat) (v : Value) (l : List ObjV) (hs : a.eval s = v) (hown : OwnOb w B v l) (ad : Option Addr) (c : Nat) (y : ObjV) (hx : a.eval x = .slice ad 1 c) (hc : LiesC w ad 1 (cells10 [y])) (hn : l.length ≤ 1048576) (hB : B ≤ w.heap.size)
    (h : ∀ a' c' w', OwnOb w' B (.slice a' (l.length + 1) c') (l ++ [y]) → w.grownBy w' v.ownBlock → wpList Try.prog ops Q rest (a.put oo.dst (.slice a' (l.length + 1) c')) w') : wpList Try.prog ops Q (oo :: rest) a w := by
  refine wpList_plain hgd fun K hK => ?_
  obtain ⟨a', c', w', hr, h2, h3⟩ := run_appendOwnOb w oo.type B v l hown ad c y hc hn hB
  unfold Oper.wp execOp
  simp only [ho, resolve, invoke, builtin, Sem.run_bind, Sem.run_pure, Result.andThen_ok, List.map_toArray, List.map_cons, List.map_nil, hs, hx, hr]
  exact hK _ _ (h a' c' w' h2 h3)
theorem step_appendOwnOb {ops : Array Oper} {oo : Oper} {a : Act} {w : World} {K : Act → World → Prop} {Q : Exit → Act → World → Prop} {E : Prop} (hgd : oo.guard = none) (s x : Operand)
    (ho : oo.op = .call { callee := .builtin .append, args := #[s, x], argTypes := #[25, 25] })
    (B : Nat) (v : Value) (l : List ObjV) (hs : a.eval s = v) (hown : OwnOb w B v l) (ad : Option Addr) (c : Nat) (y : ObjV) (hx : a.eval x = .slice ad 1 c) (hc : LiesC w ad 1 (cells10 [y])) (hn : l.length ≤ 1048576) (hB : B ≤ w.heap.size)
    (h : ∀ a' c' w', OwnOb w' B (.slice a' (l.length + 1) c') (l ++ [y]) → w.grownBy w' v.ownBlock → K (a.put oo.dst (.slice a' (l.length + 1) c')) w') :
    if Region.wanted oo (yielded ops a.tmps) = true then Oper.wp Try.prog oo a w K Q else E := by
  have hw : Region.wanted oo (yielded ops a.tmps) = true := by simp [Region.wanted, hgd]
  rw [if_pos hw]
  obtain ⟨a', c', w', hr, h2, h3⟩ := run_appendOwnOb w oo.type B v l hown ad c y hc hn hB
  unfold Oper.wp execOp
  simp only [ho, resolve, invoke, builtin, Sem.run_bind, Sem.run_pure, Result.andThen_ok, List.map_toArray, List.map_cons, List.map_nil, hs, hx, hr]
  exact h a' c' w' h2 h3
end Go.Proofs.Ytkoinmddcnnipaa
namespace Go.Proofs.Ytkoinmddcnnipaa
open Go Go.RowKit Go.Deep Go.Maps

section
variable {t e size bytes : Nat} {z : Value} (hT : Try.prog.underlying t = some (.slice e)) (hI : (Try.prog.info? e).map (fun i => (i.zero, i.size, i.bytes)) = some (some z, size, bytes)) (hzs : z.cells.size = size) (hsz : 0 < size)
include hT hI hzs hsz
theorem wpList_append_any {ops : Array Oper} {rest : List Oper} {o : Oper} {a : Act} {Q : Exit → Act → World → Prop} (w : World) (hgd : o.guard = none) (s x : Operand)
    (ho : o.op = .call { callee := .builtin .append, args := #[s, x], argTypes := #[t, t] })
    (B : Nat) (v : Value) (n : Nat) (cs : List Value) (hs : a.eval s = v) (hown : w.ownsRow B e size v n cs) (ad : Option Addr) (m c : Nat) (cs' : List Value) (hx : a.eval x = .slice ad m c) (hl : cs'.length = m * size) (hc : LiesC w ad m cs') (h1 : ∀ u ∈ cs', u.oneCell' = true)
    (hm : n + m ≤ 4194304) (hby : (n + m) * bytes ≤ 140737488355328) (hB : B ≤ w.heap.size)
    (h : ∀ a' c' w', w'.ownsRow B e size (.slice a' (n + m) c') (n + m) (cs ++ cs') → w.grownBy w' v.ownBlock → wpList Try.prog ops Q rest (a.put o.dst (.slice a' (n + m) c')) w') : wpList Try.prog ops Q (o :: rest) a w :=
  wpList_plain hgd fun _ hK => wp_append_gen hT hI hzs hsz w s x ho B v n cs hs hown ad m c cs' hx hl hc h1 hm hby hB fun a' c' w' h2 h3 _ => hK _ _ (h a' c' w' h2 h3)
end
def CatL.new (B : Nat) (w : World) (c : CatL) : Prop := c.at w ∧ (0 < c.n → ∃ b m F, c.a = some ⟨b, 0, none⟩ ∧ B ≤ b ∧ c.n * 2 ≤ m ∧ w.rowIs b 90 m F)
def IntL.new (B : Nat) (w : World) (c : IntL) : Prop := c.at w ∧ (0 < c.n → ∃ b m F, c.a = some ⟨b, 0, none⟩ ∧ B ≤ b ∧ c.n ≤ m ∧ w.rowIs b 2 m F)
def StrL.new (B : Nat) (w : World) (c : StrL) : Prop := c.at w ∧ (0 < c.n → ∃ b m F, c.a = some ⟨b, 0, none⟩ ∧ B ≤ b ∧ c.n ≤ m ∧ w.rowIs b 9 m F)
theorem CatL.new.below {B : Nat} {w w' : World} {c : CatL} (h : c.new B w) (hb : Below w.heap.size w w') : c.new B w' := ⟨h.1.below hb, fun hn => by
  obtain ⟨b, m, F, e, h1, h2, h3⟩ := h.2 hn
  exact ⟨b, m, F, e, h1, h2, rowUp h3 hb⟩⟩
theorem IntL.new.below {B : Nat} {w w' : World} {c : IntL} (h : c.new B w) (hb : Below w.heap.size w w') : c.new B w' := ⟨h.1.below hb, fun hn => by
  obtain ⟨b, m, F, e, h1, h2, h3⟩ := h.2 hn
  exact ⟨b, m, F, e, h1, h2, rowUp h3 hb⟩⟩
theorem StrL.new.below {B : Nat} {w w' : World} {c : StrL} (h : c.new B w) (hb : Below w.heap.size w w') : c.new B w' := ⟨h.1.below hb, fun hn => by
  obtain ⟨b, m, F, e, h1, h2, h3⟩ := h.2 hn
  exact ⟨b, m, F, e, h1, h2, rowUp h3 hb⟩⟩
theorem CatL.new.low {B B' : Nat} {w : World} {c : CatL} (h : c.new B w) (hB : B' ≤ B) : c.new B' w := ⟨h.1, fun hn => by
  obtain ⟨b, m, F, e, h1, h2, h3⟩ := h.2 hn
  exact ⟨b, m, F, e, by omega, h2, h3⟩⟩
theorem IntL.new.low {B B' : Nat} {w : World} {c : IntL} (h : c.new B w) (hB : B' ≤ B) : c.new B' w := ⟨h.1, fun hn => by
  obtain ⟨b, m, F, e, h1, h2, h3⟩ := h.2 hn
  exact ⟨b, m, F, e, by omega, h2, h3⟩⟩
theorem StrL.new.low {B B' : Nat} {w : World} {c : StrL} (h : c.new B w) (hB : B' ≤ B) : c.new B' w := ⟨h.1, fun hn => by
  obtain ⟨b, m, F, e, h1, h2, h3⟩ := h.2 hn
  exact ⟨b, m, F, e, by omega, h2, h3⟩⟩
theorem row_of_own {w : World} {B e size n c : Nat} {a : Option Addr} {cs : List Value} (h : w.ownsRow B e size (.slice a n c) n cs) (hn : 0 < n) : ∃ b m F, a = some ⟨b, 0, none⟩ ∧ B ≤ b ∧ n * size ≤ m ∧ w.rowIs b e m F := by
  rcases h.2 with ⟨_, h0⟩ | ⟨g, cap, cur, hv, h1, h2, h3, h4, h5, h6⟩
  · omega
  · simp only [Value.slice.injEq] at hv
    obtain ⟨rfl, _, rfl⟩ := hv
    exact ⟨g, cur.size, fun i => cur[i]?.getD undef, rfl, h1, by rw [h5]; exact Nat.mul_le_mul_right _ h3, ⟨cur, h2, rfl, fun i hi => by simp [hi]⟩⟩
theorem cats_lies {w : World} {a : Option Addr} {n : Nat} {f g : Nat → Int} (h : CatsAt w a n f g) : LiesC w a n (catCells f g n) := fun hn => by
  obtain ⟨b, off, e, hlt, hc⟩ := h hn
  refine ⟨b, off, e, hlt, fun j u hu => ?_⟩
  by_cases hj : j < n * 2
  · rw [catCells_get _ _ _ _ hj] at hu
    have hu' := Option.some.inj hu
    rw [← hu']
    obtain ⟨c0, c1⟩ := hc (j / 2) (by omega)
    unfold pairCell
    by_cases e2 : j % 2 = 0
    · rw [if_pos e2, ← c0]; congr 2; omega
    · rw [if_neg e2, ← c1]; congr 2; omega
  · rw [List.getElem?_eq_none (by rw [catCells_length]; omega)] at hu; cases hu
theorem strs_lies {w : World} {a : Option Addr} {n : Nat} {f : Nat → ByteArray} (h : StrAt w a n f) : LiesC w a n ((List.range n).map (fun i => Value.string (f i))) := fun hn => by
  obtain ⟨b, off, e, hlt, hc⟩ := h hn
  refine ⟨b, off, e, hlt, fun j u hu => ?_⟩
  by_cases hj : j < n
  · simp [hj] at hu
    rw [← hu]
    exact hc j hj
  · simp [hj] at hu

set_option maxRecDepth 100000 in
set_option maxHeartbeats 2000000 in
theorem copiedCat_any (c : CatL) (w : World) (hc : c.at w) (hn : c.n ≤ 1048576) :
    Calls Try.prog 52 #[c.val] w fun e w' => ∃ d : CatL, e = .returned d.val ∧ c.same d ∧ d.new w.heap.size w' ∧ Below w.heap.size w w' := by
  obtain ⟨a, n, cap, f, g⟩ := c
  obtain ⟨hm, hc⟩ := hc
  unfold CatL.val
  simp only at hm hc hn ⊢
  have L := hid (cats_lies hc)
  clear hc
  go_enter Try.func52, Try.ntmps52
  go_wp2_with (refine wpList_append_any Try.underlying33 Try.info90 rfl (by omega) _ rfl _ _ rfl w.heap.size (.slice none 0 0) 0 [] rfl (World.ownsRow_nil _ _ _ _) a n cap (catCells f g n) rfl (by simp [catCells]) L.out (catCells_one f g n) (by omega) (by omega) (Nat.le_refl _) ?_; intro a3 c3 w3 o3 g3; rw [Nat.zero_add, List.nil_append] at o3; rw [Nat.zero_add])
  go_ret
  have hr : OwnCats w3 w.heap.size (.slice a3 n c3) n f g := o3
  exact ⟨⟨a3, n, c3, f, g⟩, rfl, ⟨rfl, rfl, rfl⟩, ⟨⟨hm, hr.cats⟩, fun h0 => row_of_own o3 h0⟩, below_grown g3 (Nat.le_refl _) (fun j hj => by cases hj)⟩

set_option maxRecDepth 100000 in
set_option maxHeartbeats 2000000 in
theorem copiedInt_any (c : IntL) (w : World) (hc : c.at w) (hn : c.n ≤ 1048576) :
    Calls Try.prog 37 #[c.val] w fun e w' => ∃ d : IntL, e = .returned d.val ∧ c.same d ∧ d.new w.heap.size w' ∧ Below w.heap.size w w' := by
  obtain ⟨a, n, cap, f⟩ := c
  obtain ⟨hm, hc⟩ := hc
  unfold IntL.val
  simp only at hm hc hn ⊢
  have L0 := hc.intL
  have el : ((List.range n).map f).length = n := by simp
  have L : Hid (LiesC w a n (((List.range n).map f).map (Value.int .i64))) := hid (by unfold NumL at L0; rw [el] at L0; exact L0)
  clear hc L0
  go_enter Try.func37, Try.ntmps37
  go_wp2_with (refine wpList_append_any Try.underlying30 Try.info2 rfl (by omega) _ rfl _ _ rfl w.heap.size (.slice none 0 0) 0 [] rfl (World.ownsRow_nil _ _ _ _) a n cap (((List.range n).map f).map (Value.int .i64)) rfl (by simp) L.out (fun u hu => by obtain ⟨y, _, rfl⟩ := List.mem_map.1 hu; rfl) (by omega) (by omega) (Nat.le_refl _) ?_; intro a3 c3 w3 o3 g3; rw [Nat.zero_add, List.nil_append] at o3; rw [Nat.zero_add])
  go_ret
  have ho : OwnI w3 w.heap.size (.slice a3 ((List.range n).map f).length c3) ((List.range n).map f) := by unfold OwnI; rw [el]; exact o3
  have hi : IntsAt w3 a3 n f := fun h0 => by
    obtain ⟨b, off, e, hlt, hcc⟩ := (OwnI.lies ho).ints (by rw [el]; exact h0)
    refine ⟨b, off, e, hlt, fun i hi => ?_⟩
    have := hcc i (by rw [el]; exact hi)
    rw [this]
    simp [nthI, hi]
  exact ⟨⟨a3, n, c3, f⟩, rfl, ⟨rfl, rfl⟩, ⟨⟨hm, hi⟩, fun h0 => by have := row_of_own o3 h0; simpa using this⟩, below_grown g3 (Nat.le_refl _) (fun j hj => by cases hj)⟩
end Go.Proofs.Ytkoinmddcnnipaa
