/- Slices that a call makes and adds to, of whatever elements: what append leaves; and lists of whole numbers by it. -/
import Derived.Test.YtaaeeaknjlammaaGreatDoorT
import Derived.Maps.AppendAt
namespace Go.Proofs.YtaaeeaknjlammaaGreatDoor
open Go Go.RowKit Go.Deep Go.Maps
open Go.WideShapes (add_plain)

/-- n elements lie there, cell by cell -/
def LiesC (w : World) (ad : Option Addr) (n : Nat) (cs : List Value) : Prop :=
  0 < n → ∃ b off, ad = some ⟨b, off, none⟩ ∧ b < w.heap.size ∧ ∀ j u, cs[j]? = some u → w.cell? ⟨b, off + j, none⟩ = some u

theorem LiesC.below {w w' : World} {ad : Option Addr} {n : Nat} {cs : List Value} (h : LiesC w ad n cs) (hb : Below w.heap.size w w') : LiesC w' ad n cs := fun hn => by
  obtain ⟨b, off, e, hlt, hc⟩ := h hn
  exact ⟨b, off, e, Nat.lt_of_lt_of_le hlt hb.size, fun j u hu => (hb.cell (p := ⟨b, off + j, none⟩) hlt).trans (hc j u hu)⟩

theorem LiesC.own {w : World} {B e size n c : Nat} {a : Option Addr} {cs : List Value} (h : w.ownsRow B e size (.slice a n c) n cs) : LiesC w a n cs := fun hn => by
  obtain ⟨gb, cap, hv, _, hlt⟩ := World.ownsRow.form h hn
  simp only [Value.slice.injEq] at hv
  obtain ⟨rfl, _, _⟩ := hv
  have hc := World.ownsRow.cells h (g := gb) rfl
  refine ⟨gb, 0, rfl, hlt, fun j u hu => ?_⟩
  have t := hc j u hu
  rw [add_plain] at t
  exact t

theorem ownsRow_shape {w : World} {B e size n : Nat} {v : Value} {cs : List Value} (h : w.ownsRow B e size v n cs) : ∃ a c, v = .slice a n c := by
  rcases h.2 with ⟨rfl, rfl⟩ | ⟨gb, cap, cur, rfl, _⟩
  · exact ⟨_, _, rfl⟩
  · exact ⟨_, _, rfl⟩

section
variable {t e size bytes : Nat} {z : Value} (hT : Tryz.prog.underlying t = some (.slice e)) (hI : (Tryz.prog.info? e).map (fun i => (i.zero, i.size, i.bytes)) = some (some z, size, bytes)) (hzs : z.cells.size = size) (hsz : 0 < size)
include hT hI hzs hsz

theorem run_append_gen (w : World) (ty B : Nat) (v : Value) (n : Nat) (cs : List Value) (hown : w.ownsRow B e size v n cs) (ad : Option Addr) (m c : Nat) (cs' : List Value) (hl : cs'.length = m * size) (hc : LiesC w ad m cs') (h1 : ∀ u ∈ cs', u.oneCell' = true)
    (hm : n + m ≤ 4194304) (hby : (n + m) * bytes ≤ 140737488355328) (hB : B ≤ w.heap.size) :
    ∃ a' c' w', (Builtin.append_ #[t, t] ty #[v, .slice ad m c]).run Tryz.prog w = .ok (.slice a' (n + m) c') w' ∧ w'.ownsRow B e size (.slice a' (n + m) c') (n + m) (cs ++ cs') ∧ w.grownBy w' v.ownBlock ∧
      ((Value.slice a' (n + m) c').ownBlock = v.ownBlock ∨ (Value.slice a' (n + m) c').ownBlock = some w.heap.size) := by
  obtain ⟨i0, hi, hz0, hz1, hz2⟩ := info_parts hI
  have some' : ∀ a : Addr, (∀ j u, cs'[j]? = some u → w.cell? (a.add j) = some u) → ∃ a' c' w', (Builtin.append_ #[t, t] ty #[v, .slice (some a) m c]).run Tryz.prog w = .ok (.slice a' (n + m) c') w' ∧ w'.ownsRow B e size (.slice a' (n + m) c') (n + m) (cs ++ cs') ∧ w.grownBy w' v.ownBlock ∧
      ((Value.slice a' (n + m) c').ownBlock = v.ownBlock ∨ (Value.slice a' (n + m) c').ownBlock = some w.heap.size) := fun a hnews => by
    obtain ⟨v', w', hr, h2, h3, _, h5⟩ := run_append_own_at (P := Tryz.prog) w B t ty e i0 _ size bytes hT hi hz0 hz1 hz2 hzs hsz v n cs hown a m c cs' hl hnews h1 (by unfold maxLen; omega) hby hB
    obtain ⟨a', c', rfl⟩ := ownsRow_shape h2
    exact ⟨a', c', w', hr, h2, h3, h5⟩
  by_cases h0 : 0 < m
  · obtain ⟨b, off, rfl, _, hcc⟩ := hc h0
    exact some' _ (fun j u hu => by rw [add_plain]; exact hcc j u hu)
  · obtain rfl : m = 0 := by omega
    have e0 : cs' = [] := List.eq_nil_of_length_eq_zero (by omega)
    subst e0
    cases ad with
    | some a => exact some' a (fun j u hu => by simp at hu)
    | none =>
      obtain ⟨a', c', rfl⟩ := ownsRow_shape hown
      rw [List.append_nil]
      refine ⟨a', c', w, ?_, hown, ⟨rfl, rfl, rfl, Nat.le_refl _, fun _ _ _ => rfl⟩, .inl rfl⟩
      obtain ⟨_, hx⟩ := hown
      rcases hx with ⟨hv, rfl⟩ | ⟨gb, cap, cur, hv, _, _, hnc, _⟩
      · simp only [Value.slice.injEq] at hv
        obtain ⟨rfl, _, rfl⟩ := hv
        simp [Builtin.append_, run_underlying hT, sizeOf, typeInfo, hi, Builtin.lenOf, Builtin.firstCells]
      · simp only [Value.slice.injEq] at hv
        obtain ⟨rfl, _, rfl⟩ := hv
        simp [Builtin.append_, run_underlying hT, sizeOf, typeInfo, hi, Builtin.lenOf, Builtin.firstCells, hnc, storeCells]

theorem wp_append_gen {o : Oper} {a : Act} {K : Act → World → Prop} {Q : Exit → Act → World → Prop} (w : World) (s x : Operand)
    (ho : o.op = .call { callee := .builtin .append, args := #[s, x], argTypes := #[t, t] })
    (B : Nat) (v : Value) (n : Nat) (cs : List Value) (hs : a.eval s = v) (hown : w.ownsRow B e size v n cs) (ad : Option Addr) (m c : Nat) (cs' : List Value) (hx : a.eval x = .slice ad m c) (hl : cs'.length = m * size) (hc : LiesC w ad m cs') (h1 : ∀ u ∈ cs', u.oneCell' = true)
    (hm : n + m ≤ 4194304) (hby : (n + m) * bytes ≤ 140737488355328) (hB : B ≤ w.heap.size)
    (h : ∀ a' c' w', w'.ownsRow B e size (.slice a' (n + m) c') (n + m) (cs ++ cs') → w.grownBy w' v.ownBlock → ((Value.slice a' (n + m) c').ownBlock = v.ownBlock ∨ (Value.slice a' (n + m) c').ownBlock = some w.heap.size) → K (a.put o.dst (.slice a' (n + m) c')) w') : o.wp Tryz.prog a w K Q := by
  obtain ⟨a', c', w', hr, h2, h3, h4⟩ := run_append_gen hT hI hzs hsz w o.type B v n cs hown ad m c cs' hl hc h1 hm hby hB
  unfold Oper.wp execOp
  simp only [ho, resolve, invoke, builtin, Sem.run_bind, Sem.run_pure, Result.andThen_ok, List.map_toArray, List.map_cons, List.map_nil, hs, hx, hr]
  exact h a' c' w' h2 h3 h4
end

/-- a call owns the slice of these whole numbers -/
def OwnI (w : World) (B : Nat) (v : Value) (l : List Int) : Prop := w.ownsRow B 2 1 v l.length (l.map (Value.int .i64))
/-- these whole numbers lie there -/
def NumL (w : World) (ad : Option Addr) (l : List Int) : Prop := LiesC w ad l.length (l.map (Value.int .i64))

theorem NumL.below {w w' : World} {ad : Option Addr} {l : List Int} (h : NumL w ad l) (hb : Below w.heap.size w w') : NumL w' ad l := LiesC.below h hb
theorem OwnI.lies {w : World} {B c : Nat} {a : Option Addr} {l : List Int} (h : OwnI w B (.slice a l.length c) l) : NumL w a l := LiesC.own h
theorem OwnI.nil (w : World) (B : Nat) : OwnI w B (.slice none 0 0) [] := World.ownsRow_nil _ _ _ _
theorem OwnI.made (w : World) (B : Nat) (hb : B ≤ w.heap.size) : OwnI (w.alloc (.cells #[] 2)) B (.slice (some ⟨w.heap.size, 0, none⟩) 0 0) [] := World.ownsRow_made w #[] 0 hb (Nat.zero_le _) rfl
theorem OwnI.alloc {w : World} {B : Nat} {v : Value} {l : List Int} (h : OwnI w B v l) (o : Obj) : OwnI (w.alloc o) B v l := World.ownsRow.alloc h o

def nthI (l : List Int) (i : Nat) : Int := l.getD i 0
theorem NumL.ints {w : World} {ad : Option Addr} {l : List Int} (h : NumL w ad l) : IntsAt w ad l.length (nthI l) := fun hn => by
  obtain ⟨b, off, e, hlt, hc⟩ := h hn
  exact ⟨b, off, e, hlt, fun i hi => hc i _ (by simp [nthI, hi])⟩
theorem IntsAt.intL {w : World} {ad : Option Addr} {n : Nat} {h : Nat → Int} (hc : IntsAt w ad n h) : NumL w ad ((List.range n).map h) := fun hn => by
  have hn' : 0 < n := by simpa using hn
  obtain ⟨b, off, e, hlt, hcc⟩ := hc hn'
  refine ⟨b, off, e, hlt, fun j u hu => ?_⟩
  by_cases hj : j < n
  · simp [hj] at hu
    rw [← hu]
    exact hcc j hj
  · simp [hj] at hu

/-- at the operation: more numbers behind those that the call owns -/
theorem wpList_append_ints {ops : Array Oper} {rest : List Oper} {o : Oper} {a : Act} {Q : Exit → Act → World → Prop} (w : World) (hgd : o.guard = none) (s x : Operand)
    (ho : o.op = .call { callee := .builtin .append, args := #[s, x], argTypes := #[52, 52] })
    (B : Nat) (v : Value) (l : List Int) (hs : a.eval s = v) (hown : OwnI w B v l) (ad : Option Addr) (m c : Nat) (l' : List Int) (hx : a.eval x = .slice ad m c) (hm' : l'.length = m) (hc : NumL w ad l')
    (hm : l.length + m ≤ 4194304) (hB : B ≤ w.heap.size)
    (h : ∀ a' c' w', OwnI w' B (.slice a' (l ++ l').length c') (l ++ l') → w.grownBy w' v.ownBlock → ((Value.slice a' (l ++ l').length c').ownBlock = v.ownBlock ∨ (Value.slice a' (l ++ l').length c').ownBlock = some w.heap.size) → wpList Tryz.prog ops Q rest (a.put o.dst (.slice a' (l ++ l').length c')) w') : wpList Tryz.prog ops Q (o :: rest) a w := by
  subst hm'
  refine wpList_plain hgd fun _ hK => wp_append_gen Tryz.underlying52 Tryz.info2 rfl (by omega) w s x ho B v l.length _ hs hown ad l'.length c _ hx (by simp) hc (fun u hu => by obtain ⟨y, _, rfl⟩ := List.mem_map.1 hu; rfl) hm (by omega) hB fun a' c' w' h2 h3 h4 => hK _ _ ?_
  rw [← List.map_append, ← List.length_append] at h2
  rw [← List.length_append] at h4 ⊢
  exact h a' c' w' h2 h3 h4

theorem wpList_append_intsR {ops : Array Oper} {rest : List Oper} {o : Oper} {a : Act} {Q : Exit → Act → World → Prop} (w : World) (hgd : o.guard = none) (s x : Operand)
    (ho : o.op = .call { callee := .builtin .append, args := #[s, x], argTypes := #[52, 52] })
    (B : Nat) (v : Value) (l : List Int) (hs : a.eval s = v) (hown : OwnI w B v l) (ad : Option Addr) (m c : Nat) (l' : List Int) (hx : a.eval x = .slice ad m c) (hm' : l'.length = m) (hc : NumL w ad l') (R : List Int) (hR : R = l ++ l')
    (hm : R.length ≤ 4194304) (hB : B ≤ w.heap.size)
    (h : ∀ a' c' w', OwnI w' B (.slice a' R.length c') R → w.grownBy w' v.ownBlock → ((Value.slice a' R.length c').ownBlock = v.ownBlock ∨ (Value.slice a' R.length c').ownBlock = some w.heap.size) → wpList Tryz.prog ops Q rest (a.put o.dst (.slice a' R.length c')) w') : wpList Tryz.prog ops Q (o :: rest) a w := by
  subst hR
  exact wpList_append_ints w hgd s x ho B v l hs hown ad m c l' hx hm' hc (by rw [List.length_append] at hm; omega) hB h

theorem NumL.take {w : World} {b off : Nat} {l : List Int} (h : NumL w (some ⟨b, off, none⟩) l) (k : Nat) : NumL w (some ⟨b, off, none⟩) (l.take k) := fun hn => by
  have hl : 0 < l.length := by simp at hn; omega
  obtain ⟨b', off', e, hlt, hc⟩ := h hl
  cases e
  refine ⟨b, off, rfl, hlt, fun j u hu => hc j u ?_⟩
  rw [List.map_take, List.getElem?_take] at hu
  split at hu
  · exact hu
  · cases hu

theorem NumL.drop {w : World} {b off : Nat} {l : List Int} (h : NumL w (some ⟨b, off, none⟩) l) (k : Nat) : NumL w (some ⟨b, off + k, none⟩) (l.drop k) := fun hn => by
  have hl : 0 < l.length := by simp at hn; omega
  obtain ⟨b', off', e, hlt, hc⟩ := h hl
  cases e
  refine ⟨b, off + k, rfl, hlt, fun j u hu => ?_⟩
  rw [List.map_drop, List.getElem?_drop] at hu
  have := hc (k + j) u hu
  rw [Nat.add_assoc]
  exact this

theorem NumL.one {w : World} (x : Int) : NumL (w.alloc (.cells #[.int .i64 x] 2)) (some ⟨w.heap.size, 0, none⟩) [x] := fun _ =>
  ⟨w.heap.size, 0, rfl, by simp, fun j u hu => by
    cases j with
    | zero => simp at hu; subst hu; simp
    | succ j => simp at hu⟩
theorem NumL.none (w : World) (ad : Option Addr) : NumL w ad [] := fun h => by simp at h
end Go.Proofs.YtaaeeaknjlammaaGreatDoor
