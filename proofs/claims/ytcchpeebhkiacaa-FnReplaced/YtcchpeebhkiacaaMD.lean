/- Lists of ops that a call makes and adds to; copies of lists. -/
import Derived.Test.YtcchpeebhkiacaaZC
import Derived.Test.YtcchpeebhkiacaaDN
import Derived.Test.YtcchpeebhkiacaaEB
namespace Go.Proofs.Ytcchpeebhkiacaa
open Go Go.RowKit Go.Deep Go.Maps
open Go.WideShapes (add_plain)

theorem own_base {w : World} {B B' e size n : Nat} {v : Value} {xs : List Value} (h : w.ownsRow B e size v n xs) (hB : B' ≤ B) : w.ownsRow B' e size v n xs := by
  refine ⟨h.1, ?_⟩
  rcases h.2 with hn | ⟨g, cap, cur, hv, hbg, rest⟩
  · exact .inl hn
  · exact .inr ⟨g, cap, cur, hv, Nat.le_trans hB hbg, rest⟩
def OpV.cs (v : OpV) : List Value := [.int .i64 v.kind, .string v.name, .string v.to, .string v.data]
def cellsO (l : List OpV) : List Value := (l.map OpV.cs).flatten
theorem cellsO_len (l : List OpV) : (cellsO l).length = l.length * 4 := by
  induction l with
  | nil => rfl
  | cons x r ih => simp [cellsO, OpV.cs] at *; omega
theorem cellsO_append (l r : List OpV) : cellsO (l ++ r) = cellsO l ++ cellsO r := by simp [cellsO]
theorem cellsO_one {l : List OpV} : ∀ u ∈ cellsO l, u.oneCell' = true := fun u hu => by
  simp only [cellsO, List.mem_flatten, List.mem_map] at hu
  obtain ⟨_, ⟨x, _, rfl⟩, h⟩ := hu
  simp only [OpV.cs, List.mem_cons, List.not_mem_nil, or_false] at h
  rcases h with rfl | rfl | rfl | rfl <;> rfl
theorem cellsO_get {l : List OpV} : ∀ {i : Nat} (hi : i < l.length), (cellsO l)[i * 4]? = some (.int .i64 (l[i]).kind) ∧ (cellsO l)[i * 4 + 1]? = some (.string (l[i]).name) ∧ (cellsO l)[i * 4 + 2]? = some (.string (l[i]).to) ∧ (cellsO l)[i * 4 + 3]? = some (.string (l[i]).data) := by
  induction l with
  | nil => intro i hi; simp at hi
  | cons x r ih =>
    intro i hi
    have e : cellsO (x :: r) = Value.int .i64 x.kind :: Value.string x.name :: Value.string x.to :: Value.string x.data :: cellsO r := by simp [cellsO, OpV.cs]
    rw [e]
    cases i with
    | zero => simp
    | succ i =>
      have h := ih (i := i) (by simpa using hi)
      have e1 : (i + 1) * 4 = i * 4 + 1 + 1 + 1 + 1 := by omega
      rw [e1]
      simpa using h
def OwnO (w : World) (B : Nat) (v : Value) (l : List OpV) : Prop := w.ownsRow B 36 4 v l.length (cellsO l)
def OplL (w : World) (ad : Option Addr) (l : List OpV) : Prop := LiesC w ad l.length (cellsO l)
def opAt (l : List OpV) (i : Nat) : OpV := l.getD i OpV.z
theorem OwnO.lies {w : World} {B c : Nat} {a : Option Addr} {l : List OpV} (h : OwnO w B (.slice a l.length c) l) : OplL w a l := LiesC.own h
theorem OwnO.nil (w : World) (B : Nat) : OwnO w B (.slice none 0 0) [] := World.ownsRow_nil _ _ _ _
theorem OwnO.below {w w' : World} {B : Nat} {v : Value} {l : List OpV} (h : OwnO w B v l) (hb : Below w.heap.size w w') : OwnO w' B v l := World.ownsRow.kept h (grown_of_below' none hb) own_none
theorem OwnO.shape {w : World} {B : Nat} {v : Value} {l : List OpV} (h : OwnO w B v l) : ∃ a c, v = .slice a l.length c := ownsRow_shape h
theorem OplL.ops {w : World} {ad : Option Addr} {l : List OpV} (h : OplL w ad l) : DOpsAt w ad l.length (opAt l) := fun hn => by
  obtain ⟨b, off, e, hlt, hc⟩ := h hn
  refine ⟨b, off, e, hlt, fun i hi => ?_⟩
  have g := cellsO_get hi
  have e1 : opAt l i = l[i] := by simp [opAt, hi]
  rw [e1]
  exact ⟨hc _ _ g.1, hc _ _ g.2.1, hc _ _ g.2.2.1, hc _ _ g.2.2.2⟩
theorem DOpsAt.oplL {w : World} {ad : Option Addr} {n : Nat} {f : Nat → OpV} (hc : DOpsAt w ad n f) : OplL w ad ((List.range n).map f) := fun hn => by
  have hn' : 0 < n := by simpa using hn
  obtain ⟨b, off, e, hlt, hcc⟩ := hc hn'
  refine ⟨b, off, e, hlt, fun j u hu => ?_⟩
  have hj : j < ((List.range n).map f).length * 4 := by
    rw [← cellsO_len]
    exact (List.getElem?_eq_some_iff.1 hu).1
  simp only [List.length_map, List.length_range] at hj
  have hi : j / 4 < ((List.range n).map f).length := by simp; omega
  obtain ⟨g1, g2, g3, g4⟩ := cellsO_get hi
  have e1 : ((List.range n).map f)[j / 4] = f (j / 4) := by simp
  rw [e1] at g1 g2 g3 g4
  obtain ⟨k1, k2, k3, k4⟩ := hcc (j / 4) (by omega)
  have h4 : j % 4 = 0 ∨ j % 4 = 1 ∨ j % 4 = 2 ∨ j % 4 = 3 := by omega
  rcases h4 with h | h | h | h
  · have ej : j / 4 * 4 = j := by omega
    rw [ej] at g1 k1
    rw [g1] at hu; cases hu; exact k1
  · have ej : j / 4 * 4 + 1 = j := by omega
    rw [Nat.add_assoc, ej] at k2
    rw [ej] at g2
    rw [g2] at hu; cases hu; exact k2
  · have ej : j / 4 * 4 + 2 = j := by omega
    rw [Nat.add_assoc, ej] at k3
    rw [ej] at g3
    rw [g3] at hu; cases hu; exact k3
  · have ej : j / 4 * 4 + 3 = j := by omega
    rw [Nat.add_assoc, ej] at k4
    rw [ej] at g4
    rw [g4] at hu; cases hu; exact k4
theorem OwnF.rowF {w : World} {B : Nat} {v : Value} {l : List FileV} (h : OwnF w B v l) : RowFile w v l.length := by
  rcases h.2 with ⟨rfl, hn⟩ | ⟨g, cap, cur, rfl, _, hg, h1, h2, h3, _⟩
  · exact .inl ⟨hn, 0, by rfl⟩
  · refine .inr ⟨g, cap, cap * 2, fun i => cur.getD i (.int .i64 0), rfl, ⟨cur, hg, h3, fun i hi => ?_⟩, Nat.mul_le_mul_right 2 h1⟩
    have : i < cur.size := by omega
    simp [this]
theorem OwnO.rowO {w : World} {B : Nat} {v : Value} {l : List OpV} (h : OwnO w B v l) : RowOp w v l.length := by
  rcases h.2 with ⟨rfl, hn⟩ | ⟨g, cap, cur, rfl, _, hg, h1, h2, h3, _⟩
  · exact .inl ⟨hn, 0, by rfl⟩
  · refine .inr ⟨g, cap, cap * 4, fun i => cur.getD i (.int .i64 0), rfl, ⟨cur, hg, h3, fun i hi => ?_⟩, Nat.mul_le_mul_right 4 h1⟩
    have : i < cur.size := by omega
    simp [this]
theorem OwnF.atF {w : World} {B : Nat} {v : Value} {l : List FileV} (h : OwnF w B v l) : AtFile w v l.length (fileAt l) := by
  obtain ⟨a, c, rfl⟩ := ownsRow_shape h
  exact ⟨a, c, rfl, h.lies.files⟩
theorem OwnO.atO {w : World} {B : Nat} {v : Value} {l : List OpV} (h : OwnO w B v l) : AtOp w v l.length (opAt l) := by
  obtain ⟨a, c, rfl⟩ := ownsRow_shape h
  exact ⟨a, c, rfl, h.lies.ops⟩
def OpL.toL (l : OpL) : List OpV := (List.range l.n).map l.f
theorem OpL.toL_len (l : OpL) : l.toL.length = l.n := by simp [OpL.toL]

set_option maxRecDepth 100000 in
theorem copiedF_any (l : FileL) (w : World) (hl : l.at w) (hn : l.n ≤ 1048576) :
    Calls Try.prog 59 #[l.val] w fun e w' => ∃ v, e = .returned v ∧ OwnF w' w.heap.size v l.toL ∧ Below w.heap.size w w' := by
  unfold FileL.val
  have L := hid hl.2.1.filL
  have eL := hid (toL_len l)
  clear hl
  go_enter Try.func59, Try.ntmps59
  go_wp2_with (at_builtin; refine wpList_append_files _ rfl _ _ rfl w.heap.size (.slice none 0 0) [] rfl (OwnF.nil _ _) _ _ _ l.toL rfl eL.out L.out l.toL rfl (by rw [eL.out]; omega) (Nat.le_refl _) ?_; intro a1 c1 w1 o1 q1 h1)
  go_ret
  exact ⟨_, rfl, o1, below_grown q1 (Nat.le_refl _) (fun j e => by cases e)⟩
theorem wpList_append_ops {ops : Array Oper} {rest : List Oper} {o : Oper} {a : Act} {Q : Exit → Act → World → Prop} (w : World) (hgd : o.guard = none) (s x : Operand)
    (ho : o.op = .call { callee := .builtin .append, args := #[s, x], argTypes := #[25, 25] })
    (B : Nat) (v : Value) (l : List OpV) (hs : a.eval s = v) (hown : OwnO w B v l) (ad : Option Addr) (m c : Nat) (l' : List OpV) (hx : a.eval x = .slice ad m c) (hm' : l'.length = m) (hc : OplL w ad l') (R : List OpV) (hR : R = l ++ l')
    (hm : R.length ≤ 2000000) (hB : B ≤ w.heap.size)
    (h : ∀ a' c' w', OwnO w' B (.slice a' R.length c') R → w.grownBy w' v.ownBlock → ((Value.slice a' R.length c').ownBlock = v.ownBlock ∨ (Value.slice a' R.length c').ownBlock = some w.heap.size) → wpList Try.prog ops Q rest (a.put o.dst (.slice a' R.length c')) w') : wpList Try.prog ops Q (o :: rest) a w := by
  subst hm' hR
  rw [List.length_append] at hm
  refine wpList_plain hgd fun _ hK => wp_append_gen Try.underlying25 Try.info36 rfl (by omega) w s x ho B v l.length _ hs hown ad l'.length c _ hx (cellsO_len l') hc cellsO_one (by omega) (by omega) hB fun a' c' w' h2 h3 h4 => hK _ _ ?_
  rw [← cellsO_append, ← List.length_append] at h2
  rw [← List.length_append] at h4 ⊢
  exact h a' c' w' h2 h3 h4
set_option maxRecDepth 100000 in
theorem copiedO_any (l : OpL) (w : World) (hl : l.at w) (hn : l.n ≤ 1048576) :
    Calls Try.prog 62 #[l.val] w fun e w' => ∃ v, e = .returned v ∧ OwnO w' w.heap.size v l.toL ∧ Below w.heap.size w w' := by
  unfold OpL.val
  have L := hid hl.2.1.oplL
  have eL := hid (OpL.toL_len l)
  clear hl
  go_enter Try.func62, Try.ntmps62
  go_wp2_with (at_builtin; refine wpList_append_ops _ rfl _ _ rfl w.heap.size (.slice none 0 0) [] rfl (OwnO.nil _ _) _ _ _ l.toL rfl eL.out L.out l.toL rfl (by rw [eL.out]; omega) (Nat.le_refl _) ?_; intro a1 c1 w1 o1 q1 h1)
  go_ret
  exact ⟨_, rfl, o1, below_grown q1 (Nat.le_refl _) (fun j e => by cases e)⟩
def NewA (B : Nat) (a : Option Addr) (n : Nat) : Prop := 0 < n → ∃ b off, a = some ⟨b, off, none⟩ ∧ B ≤ b
theorem lc0 (a : Addr) : loadCellsFrom a 0 0 #[] = pure #[] := rfl

theorem run_append_zeroF (w : World) (tt : TypeId) (ab ad : Option Addr) (c : Nat) (l : List FileV) (hc : FilL w ad l) (hm : l.length ≤ 2000000) :
    ∃ a' c' w', (Builtin.append_ #[24, 24] tt #[.slice ab 0 0, .slice ad l.length c]).run Try.prog w = .ok (.slice a' l.length c') w' ∧ FilL w' a' l ∧ NewA w.heap.size a' l.length ∧ (w'.ownsRow w.heap.size 56 2 (.slice a' l.length c') l.length (cellsF l) ∨ (l = [] ∧ c' = 0)) ∧ Below w.heap.size w w' := by
  by_cases h0 : 0 < l.length
  · obtain ⟨a', c', w', h1, h2, h3, _⟩ := run_append_gen Try.underlying24 Try.info56 rfl (by omega) w tt w.heap.size (.slice none 0 0) 0 [] (World.ownsRow_nil _ _ _ _) ad l.length c (cellsF l) (cellsF_len l) hc cellsF_one (by omega) (by omega) (Nat.le_refl _)
    simp only [Nat.zero_add, List.nil_append] at h1 h2
    refine ⟨a', c', w', ?_, LiesC.own h2, fun hn => by
      obtain ⟨g, cap, hv, hg, _⟩ := World.ownsRow.form h2 hn
      simp only [Value.slice.injEq] at hv
      exact ⟨g, 0, hv.1, hg⟩, .inl h2, below_grown h3 (Nat.le_refl _) (fun j e => by cases e)⟩
    rw [← h1]
    obtain ⟨i0, hi, _, _, hby⟩ := info_parts Try.info56
    have hlen : ¬ l = [] := fun e => by rw [e] at h0; exact absurd h0 (Nat.lt_irrefl 0)
    have hcap : ¬ 281474976710656 < Builtin.nextslicecap l.length 0 * i0.bytes := by
      rw [hby, Builtin.nextslicecap, if_pos (by omega)]
      omega
    have hmax : ¬ (9223372036854775807 < (l.length : Int)) := by omega
    cases ab with
    | none => rfl
    | some a =>
      simp [Builtin.append_, run_underlying Try.underlying24, sizeOf, typeInfo, hi, Builtin.lenOf, Builtin.firstCells, hlen, hcap, hmax, loadCells, lc0]
  · have e0 : l.length = 0 := by omega
    have e1 : l = [] := List.eq_nil_of_length_eq_zero e0
    subst e1
    refine ⟨ab, 0, w, ?_, fun h => absurd h (Nat.lt_irrefl 0), fun h => absurd h (Nat.lt_irrefl 0), .inr ⟨rfl, rfl⟩, Below.refl _ _⟩
    obtain ⟨i0, hi, _⟩ := info_parts Try.info56
    cases ab <;> cases ad <;> simp [Builtin.append_, run_underlying Try.underlying24, sizeOf, typeInfo, hi, Builtin.lenOf, Builtin.firstCells, storeCells, loadCells, lc0]

theorem run_append_zeroO (w : World) (tt : TypeId) (ab ad : Option Addr) (c : Nat) (l : List OpV) (hc : OplL w ad l) (hm : l.length ≤ 2000000) :
    ∃ a' c' w', (Builtin.append_ #[25, 25] tt #[.slice ab 0 0, .slice ad l.length c]).run Try.prog w = .ok (.slice a' l.length c') w' ∧ OplL w' a' l ∧ NewA w.heap.size a' l.length ∧ (w'.ownsRow w.heap.size 36 4 (.slice a' l.length c') l.length (cellsO l) ∨ (l = [] ∧ c' = 0)) ∧ Below w.heap.size w w' := by
  by_cases h0 : 0 < l.length
  · obtain ⟨a', c', w', h1, h2, h3, _⟩ := run_append_gen Try.underlying25 Try.info36 rfl (by omega) w tt w.heap.size (.slice none 0 0) 0 [] (World.ownsRow_nil _ _ _ _) ad l.length c (cellsO l) (cellsO_len l) hc cellsO_one (by omega) (by omega) (Nat.le_refl _)
    simp only [Nat.zero_add, List.nil_append] at h1 h2
    refine ⟨a', c', w', ?_, LiesC.own h2, fun hn => by
      obtain ⟨g, cap, hv, hg, _⟩ := World.ownsRow.form h2 hn
      simp only [Value.slice.injEq] at hv
      exact ⟨g, 0, hv.1, hg⟩, .inl h2, below_grown h3 (Nat.le_refl _) (fun j e => by cases e)⟩
    rw [← h1]
    obtain ⟨i0, hi, _, _, hby⟩ := info_parts Try.info36
    have hlen : ¬ l = [] := fun e => by rw [e] at h0; exact absurd h0 (Nat.lt_irrefl 0)
    have hcap : ¬ 281474976710656 < Builtin.nextslicecap l.length 0 * i0.bytes := by
      rw [hby, Builtin.nextslicecap, if_pos (by omega)]
      omega
    have hmax : ¬ (9223372036854775807 < (l.length : Int)) := by omega
    cases ab with
    | none => rfl
    | some a =>
      simp [Builtin.append_, run_underlying Try.underlying25, sizeOf, typeInfo, hi, Builtin.lenOf, Builtin.firstCells, hlen, hcap, hmax, loadCells, lc0]
  · have e0 : l.length = 0 := by omega
    have e1 : l = [] := List.eq_nil_of_length_eq_zero e0
    subst e1
    refine ⟨ab, 0, w, ?_, fun h => absurd h (Nat.lt_irrefl 0), fun h => absurd h (Nat.lt_irrefl 0), .inr ⟨rfl, rfl⟩, Below.refl _ _⟩
    obtain ⟨i0, hi, _⟩ := info_parts Try.info36
    cases ab <;> cases ad <;> simp [Builtin.append_, run_underlying Try.underlying25, sizeOf, typeInfo, hi, Builtin.lenOf, Builtin.firstCells, storeCells, loadCells, lc0]

theorem FilesAt.congr {w : World} {a : Option Addr} {n : Nat} {f g : Nat → FileV} (h : FilesAt w a n f) (e : ∀ i, i < n → f i = g i) : FilesAt w a n g := fun hn => by
  obtain ⟨b, off, h1, h2, h3⟩ := h hn
  exact ⟨b, off, h1, h2, fun i hi => by rw [← e i hi]; exact h3 i hi⟩
/-- a list of a call's own, or an empty one without room -/
def ZF (w : World) (B : Nat) (v : Value) (l : List FileV) : Prop := OwnF w B v l ∨ (l = [] ∧ ∃ ab, v = .slice ab 0 0)
theorem ZF.below {w w' : World} {B : Nat} {v : Value} {l : List FileV} (h : ZF w B v l) (hb : Below w.heap.size w w') : ZF w' B v l := by
  rcases h with h | h
  · exact .inl (World.ownsRow.kept h (grown_of_below' none hb) own_none)
  · exact .inr h
theorem ZF.base {w : World} {B B' : Nat} {v : Value} {l : List FileV} (h : ZF w B v l) (hB : B' ≤ B) : ZF w B' v l := by
  rcases h with h | h
  · exact .inl (own_base h hB)
  · exact .inr h
theorem own_setF {w : World} {B b i : Nat} {v : Value} {l : List FileV} {cs : Array Value} (h : OwnF w B v l) (hb : Blk w b (.cells cs 27)) (u : Value) : OwnF (w.setCell ⟨b, i, none⟩ u) B v l := by
  refine ⟨h.1, ?_⟩
  rcases h.2 with hn | ⟨g, cap, cur, hv, hbg, hg, rest⟩
  · exact .inl hn
  · refine .inr ⟨g, cap, cur, hv, hbg, ?_, rest⟩
    have hh : Blk w g (.cells cur 56) := hg
    refine hh.other (fun e => ?_) u
    unfold Blk at hb hh
    rw [e, hh] at hb
    simp at hb
theorem ZF.set {w : World} {B b i : Nat} {v : Value} {l : List FileV} {cs : Array Value} (h : ZF w B v l) (hb : Blk w b (.cells cs 27)) (u : Value) : ZF (w.setCell ⟨b, i, none⟩ u) B v l := by
  rcases h with h | h
  · exact .inl (own_setF h hb u)
  · exact .inr h
theorem ZF.at {w : World} {B : Nat} {v : Value} {l : List FileV} (h : ZF w B v l) : AtFile w v l.length (fileAt l) := by
  rcases h with h | ⟨rfl, ab, rfl⟩
  · exact h.atF
  · exact ⟨ab, 0, rfl, fun h => absurd h (Nat.lt_irrefl 0)⟩
theorem ZF.shape {w : World} {B : Nat} {v : Value} {l : List FileV} (h : ZF w B v l) : ∃ a c, v = .slice a l.length c := by
  rcases h with h | ⟨rfl, ab, rfl⟩
  · exact ownsRow_shape h
  · exact ⟨ab, 0, rfl⟩
theorem run_zeroF (w : World) (tt : TypeId) (ab ad : Option Addr) (n c : Nat) (f : Nat → FileV) (hc : FilesAt w ad n f) (hm : n ≤ 2000000) :
    ∃ a' c' w', (Builtin.append_ #[24, 24] tt #[.slice ab 0 0, .slice ad n c]).run Try.prog w = .ok (.slice a' n c') w' ∧ ZF w' w.heap.size (.slice a' n c') ((List.range n).map f) ∧ Below w.heap.size w w' := by
  have e : ((List.range n).map f).length = n := by simp
  obtain ⟨a', c', w', h1, h2, h5, h6, h3⟩ := run_append_zeroF w tt ab ad c ((List.range n).map f) (FilesAt.filL hc) (by rw [e]; exact hm)
  rw [e] at h1
  refine ⟨a', c', w', h1, ?_, h3⟩
  rcases h6 with h6 | ⟨h6, h7⟩
  · refine .inl ?_
    rw [e] at h6
    unfold OwnF
    rw [e]
    exact h6
  · refine .inr ⟨h6, a', ?_⟩
    rw [h6] at e
    simp only [List.length_nil] at e
    rw [h7, ← e]
theorem step_zeroF {ops : Array Oper} {o : Oper} {a : Act} {w : World} {K : Act → World → Prop} {Q : Exit → Act → World → Prop} {E : Prop} (hgd : o.guard = none) (s x : Operand)
    (ho : o.op = .call { callee := .builtin .append, args := #[s, x], argTypes := #[24, 24] })
    (ab : Option Addr) (hs : a.eval s = .slice ab 0 0) (ad : Option Addr) (n c : Nat) (f : Nat → FileV) (hx : a.eval x = .slice ad n c) (hc : FilesAt w ad n f) (hm : n ≤ 2000000)
    (h : ∀ a' c' w', ZF w' w.heap.size (.slice a' n c') ((List.range n).map f) → Below w.heap.size w w' → K (a.put o.dst (.slice a' n c')) w') :
    if Region.wanted o (yielded ops a.tmps) = true then Oper.wp Try.prog o a w K Q else E := by
  have hw : Region.wanted o (yielded ops a.tmps) = true := by simp [Region.wanted, hgd]
  rw [if_pos hw]
  obtain ⟨a', c', w', hr, h2, h3⟩ := run_zeroF w o.type ab ad n c f hc hm
  unfold Oper.wp execOp
  simp only [ho, resolve, invoke, builtin, Sem.run_bind, Sem.run_pure, Result.andThen_ok, List.map_toArray, List.map_cons, List.map_nil, hs, hx, hr]
  exact h a' c' w' h2 h3

theorem DOpsAt.congr {w : World} {a : Option Addr} {n : Nat} {f g : Nat → OpV} (h : DOpsAt w a n f) (e : ∀ i, i < n → f i = g i) : DOpsAt w a n g := fun hn => by
  obtain ⟨b, off, h1, h2, h3⟩ := h hn
  exact ⟨b, off, h1, h2, fun i hi => by rw [← e i hi]; exact h3 i hi⟩
/-- a list of a call's own, or an empty one without room -/
def ZO (w : World) (B : Nat) (v : Value) (l : List OpV) : Prop := OwnO w B v l ∨ (l = [] ∧ ∃ ab, v = .slice ab 0 0)
theorem ZO.below {w w' : World} {B : Nat} {v : Value} {l : List OpV} (h : ZO w B v l) (hb : Below w.heap.size w w') : ZO w' B v l := by
  rcases h with h | h
  · exact .inl (World.ownsRow.kept h (grown_of_below' none hb) own_none)
  · exact .inr h
theorem ZO.base {w : World} {B B' : Nat} {v : Value} {l : List OpV} (h : ZO w B v l) (hB : B' ≤ B) : ZO w B' v l := by
  rcases h with h | h
  · exact .inl (own_base h hB)
  · exact .inr h
theorem own_setO {w : World} {B b i : Nat} {v : Value} {l : List OpV} {cs : Array Value} (h : OwnO w B v l) (hb : Blk w b (.cells cs 27)) (u : Value) : OwnO (w.setCell ⟨b, i, none⟩ u) B v l := by
  refine ⟨h.1, ?_⟩
  rcases h.2 with hn | ⟨g, cap, cur, hv, hbg, hg, rest⟩
  · exact .inl hn
  · refine .inr ⟨g, cap, cur, hv, hbg, ?_, rest⟩
    have hh : Blk w g (.cells cur 36) := hg
    refine hh.other (fun e => ?_) u
    unfold Blk at hb hh
    rw [e, hh] at hb
    simp at hb
theorem ZO.set {w : World} {B b i : Nat} {v : Value} {l : List OpV} {cs : Array Value} (h : ZO w B v l) (hb : Blk w b (.cells cs 27)) (u : Value) : ZO (w.setCell ⟨b, i, none⟩ u) B v l := by
  rcases h with h | h
  · exact .inl (own_setO h hb u)
  · exact .inr h
theorem ZO.at {w : World} {B : Nat} {v : Value} {l : List OpV} (h : ZO w B v l) : AtOp w v l.length (opAt l) := by
  rcases h with h | ⟨rfl, ab, rfl⟩
  · exact h.atO
  · exact ⟨ab, 0, rfl, fun h => absurd h (Nat.lt_irrefl 0)⟩
theorem ZO.shape {w : World} {B : Nat} {v : Value} {l : List OpV} (h : ZO w B v l) : ∃ a c, v = .slice a l.length c := by
  rcases h with h | ⟨rfl, ab, rfl⟩
  · exact ownsRow_shape h
  · exact ⟨ab, 0, rfl⟩
theorem run_zeroO (w : World) (tt : TypeId) (ab ad : Option Addr) (n c : Nat) (f : Nat → OpV) (hc : DOpsAt w ad n f) (hm : n ≤ 2000000) :
    ∃ a' c' w', (Builtin.append_ #[25, 25] tt #[.slice ab 0 0, .slice ad n c]).run Try.prog w = .ok (.slice a' n c') w' ∧ ZO w' w.heap.size (.slice a' n c') ((List.range n).map f) ∧ Below w.heap.size w w' := by
  have e : ((List.range n).map f).length = n := by simp
  obtain ⟨a', c', w', h1, h2, h5, h6, h3⟩ := run_append_zeroO w tt ab ad c ((List.range n).map f) (DOpsAt.oplL hc) (by rw [e]; exact hm)
  rw [e] at h1
  refine ⟨a', c', w', h1, ?_, h3⟩
  rcases h6 with h6 | ⟨h6, h7⟩
  · refine .inl ?_
    rw [e] at h6
    unfold OwnO
    rw [e]
    exact h6
  · refine .inr ⟨h6, a', ?_⟩
    rw [h6] at e
    simp only [List.length_nil] at e
    rw [h7, ← e]
theorem step_zeroO {ops : Array Oper} {o : Oper} {a : Act} {w : World} {K : Act → World → Prop} {Q : Exit → Act → World → Prop} {E : Prop} (hgd : o.guard = none) (s x : Operand)
    (ho : o.op = .call { callee := .builtin .append, args := #[s, x], argTypes := #[25, 25] })
    (ab : Option Addr) (hs : a.eval s = .slice ab 0 0) (ad : Option Addr) (n c : Nat) (f : Nat → OpV) (hx : a.eval x = .slice ad n c) (hc : DOpsAt w ad n f) (hm : n ≤ 2000000)
    (h : ∀ a' c' w', ZO w' w.heap.size (.slice a' n c') ((List.range n).map f) → Below w.heap.size w w' → K (a.put o.dst (.slice a' n c')) w') :
    if Region.wanted o (yielded ops a.tmps) = true then Oper.wp Try.prog o a w K Q else E := by
  have hw : Region.wanted o (yielded ops a.tmps) = true := by simp [Region.wanted, hgd]
  rw [if_pos hw]
  obtain ⟨a', c', w', hr, h2, h3⟩ := run_zeroO w o.type ab ad n c f hc hm
  unfold Oper.wp execOp
  simp only [ho, resolve, invoke, builtin, Sem.run_bind, Sem.run_pure, Result.andThen_ok, List.map_toArray, List.map_cons, List.map_nil, hs, hx, hr]
  exact h a' c' w' h2 h3

/-- a disk that the model made -/
structure AnsS (w : World) (B : Nat) (vl vs vo : Value) (L S : List FileV) (O : List OpV) : Prop where
  l : ZF w B vl L
  s : ZF w B vs S
  o : ZO w B vo O
theorem AnsS.below {w w' : World} {B : Nat} {vl vs vo : Value} {L S : List FileV} {O : List OpV} (h : AnsS w B vl vs vo L S O) (hb : Below w.heap.size w w') : AnsS w' B vl vs vo L S O := ⟨h.l.below hb, h.s.below hb, h.o.below hb⟩
theorem AnsS.base {w : World} {B B' : Nat} {vl vs vo : Value} {L S : List FileV} {O : List OpV} (h : AnsS w B vl vs vo L S O) (hB : B' ≤ B) : AnsS w B' vl vs vo L S O := ⟨h.l.base hB, h.s.base hB, h.o.base hB⟩
theorem AnsS.set {w : World} {B b i : Nat} {vl vs vo : Value} {L S : List FileV} {O : List OpV} {cs : Array Value} (h : AnsS w B vl vs vo L S O) (hb : Blk w b (.cells cs 27)) (u : Value) : AnsS (w.setCell ⟨b, i, none⟩ u) B vl vs vo L S O := ⟨h.l.set hb u, h.s.set hb u, h.o.set hb u⟩
theorem AnsS.set3 {w : World} {B b : Nat} {vl vs vo : Value} {L S : List FileV} {O : List OpV} {cs : Array Value} (h : AnsS w B vl vs vo L S O) (hb : Blk w b (.cells cs 27)) (x y z : Value) : AnsS (((w.setCell ⟨b, 0, none⟩ x).setCell ⟨b, 1, none⟩ y).setCell ⟨b, 2, none⟩ z) B vl vs vo L S O :=
  ((h.set hb x).set (hb.setAt (i := 0) x) y).set ((hb.setAt (i := 0) x).setAt (i := 1) y) z
theorem AnsS.dat {w : World} {B : Nat} {vl vs vo : Value} {L S : List FileV} {O : List OpV} (h : AnsS w B vl vs vo L S O) : DAt w vl vs vo L.length S.length O.length (fileAt L) (fileAt S) (opAt O) := ⟨h.l.at, h.s.at, h.o.at⟩
theorem AnsS.none (w : World) (B : Nat) : AnsS w B (.slice none 0 0) (.slice none 0 0) (.slice none 0 0) [] [] [] := ⟨.inl (OwnF.nil _ _), .inl (OwnF.nil _ _), .inl (OwnO.nil _ _)⟩
/-- what is added to the first does not reach the second -/
def Apt (v u : Value) : Prop := (∃ ab, v = .slice ab 0 0) ∨ (∃ ab, u = .slice ab 0 0) ∨ v.ownBlock = none ∨ v.ownBlock ≠ u.ownBlock
theorem zf_apt {w w' : World} {B : Nat} {v u : Value} {l m : List FileV} (h : ZF w B v l) (k : ZF w' w.heap.size u m) : Apt v u := by
  rcases h with h | ⟨_, ab, rfl⟩
  · rcases k with k | ⟨_, ab, rfl⟩
    · cases hv : v.ownBlock with
      | none => exact .inr (.inr (.inl hv))
      | some g =>
        refine .inr (.inr (.inr (fun e => ?_)))
        have h1 := (World.ownsRow.lt h g hv).2
        have h2 := (World.ownsRow.lt k g (e.symm.trans hv)).1
        omega
    · exact .inr (.inl ⟨ab, rfl⟩)
  · exact .inl ⟨ab, rfl⟩
end Go.Proofs.Ytcchpeebhkiacaa
