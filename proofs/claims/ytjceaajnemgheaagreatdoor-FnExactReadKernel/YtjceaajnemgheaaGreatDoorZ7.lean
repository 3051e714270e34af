/- Slices that a call makes and adds to, of whatever elements: what append leaves; and lists of whole numbers by it. -/
import Derived.Test.YtjceaajnemgheaaGreatDoorZ6
import Derived.Maps.AppendAt
import Derived.Test.YtjceaajnemgheaaGreatDoorZ4
import Derived.Test.YtjceaajnemgheaaGreatDoorZ2
namespace Go.Proofs.YtjceaajnemgheaaGreatDoor
open Go Go.RowKit Go.Deep Go.Maps
open Go.WideShapes (add_plain)
def LiesC (w : World) (ad : Option Addr) (n : Nat) (cs : List Value) : Prop :=
  0 < n → ∃ b off, ad = some ⟨b, off, none⟩ ∧ b < w.heap.size ∧ ∀ j u, cs[j]? = some u → w.cell? ⟨b, off + j, none⟩ = some u

theorem LiesC.below {w w' : World} {ad : Option Addr} {n : Nat} {cs : List Value} (h : LiesC w ad n cs) (hb : Below w.heap.size w w') : LiesC w' ad n cs := fun hn => by
  obtain ⟨b, off, e, hlt, hc⟩ := h hn
  exact ⟨b, off, e, Nat.lt_of_lt_of_le hlt hb.size, fun j u hu => (hb.cell (p := ⟨b, off + j, none⟩) hlt).trans (hc j u hu)⟩

theorem LiesC.own {w : World} {B e size n c : Nat} {a : Option Addr} {cs : List Value} (h : w.ownsRow B e size (.slice a n c) n cs) : LiesC w a n cs := fun hn => by
  obtain ⟨gb, cap, hv, _, hlt⟩ := World.ownsRow.form h hn
  simp only [Value.slice.injEq] at hv
  obtain ⟨rfl, _, _⟩ := hv
  have hc := World.ownsRow.cells h (g := gb) rfl
  refine ⟨gb, 0, rfl, hlt, fun j u hu => ?_⟩
  have t := hc j u hu
  rw [add_plain] at t
  exact t

theorem ownsRow_shape {w : World} {B e size n : Nat} {v : Value} {cs : List Value} (h : w.ownsRow B e size v n cs) : ∃ a c, v = .slice a n c := by
  rcases h.2 with ⟨rfl, rfl⟩ | ⟨gb, cap, cur, rfl, _⟩
  · exact ⟨_, _, rfl⟩
  · exact ⟨_, _, rfl⟩

section
variable {t e size bytes : Nat} {z : Value} (hT : Tryz.prog.underlying t = some (.slice e)) (hI : (Tryz.prog.info? e).map (fun i => (i.zero, i.size, i.bytes)) = some (some z, size, bytes)) (hzs : z.cells.size = size) (hsz : 0 < size)
include hT hI hzs hsz

theorem run_append_gen (w : World) (ty B : Nat) (v : Value) (n : Nat) (cs : List Value) (hown : w.ownsRow B e size v n cs) (ad : Option Addr) (m c : Nat) (cs' : List Value) (hl : cs'.length = m * size) (hc : LiesC w ad m cs') (h1 : ∀ u ∈ cs', u.oneCell' = true)
    (hm : n + m ≤ 4194304) (hby : (n + m) * bytes ≤ 140737488355328) (hB : B ≤ w.heap.size) :
    ∃ a' c' w', (Builtin.append_ #[t, t] ty #[v, .slice ad m c]).run Tryz.prog w = .ok (.slice a' (n + m) c') w' ∧ w'.ownsRow B e size (.slice a' (n + m) c') (n + m) (cs ++ cs') ∧ w.grownBy w' v.ownBlock ∧
      ((Value.slice a' (n + m) c').ownBlock = v.ownBlock ∨ (Value.slice a' (n + m) c').ownBlock = some w.heap.size) := by
  obtain ⟨i0, hi, hz0, hz1, hz2⟩ := info_parts hI
  have some' : ∀ a : Addr, (∀ j u, cs'[j]? = some u → w.cell? (a.add j) = some u) → ∃ a' c' w', (Builtin.append_ #[t, t] ty #[v, .slice (some a) m c]).run Tryz.prog w = .ok (.slice a' (n + m) c') w' ∧ w'.ownsRow B e size (.slice a' (n + m) c') (n + m) (cs ++ cs') ∧ w.grownBy w' v.ownBlock ∧
      ((Value.slice a' (n + m) c').ownBlock = v.ownBlock ∨ (Value.slice a' (n + m) c').ownBlock = some w.heap.size) := fun a hnews => by
    obtain ⟨v', w', hr, h2, h3, _, h5⟩ := run_append_own_at (P := Tryz.prog) w B t ty e i0 _ size bytes hT hi hz0 hz1 hz2 hzs hsz v n cs hown a m c cs' hl hnews h1 (by unfold maxLen; omega) hby hB
    obtain ⟨a', c', rfl⟩ := ownsRow_shape h2
    exact ⟨a', c', w', hr, h2, h3, h5⟩
  by_cases h0 : 0 < m
  · obtain ⟨b, off, rfl, _, hcc⟩ := hc h0
    exact some' _ (fun j u hu => by rw [add_plain]; exact hcc j u hu)
  · obtain rfl : m = 0 := by omega
    have e0 : cs' = [] := List.eq_nil_of_length_eq_zero (by omega)
    subst e0
    cases ad with
    | some a => exact some' a (fun j u hu => by simp at hu)
    | none =>
      obtain ⟨a', c', rfl⟩ := ownsRow_shape hown
      rw [List.append_nil]
      refine ⟨a', c', w, ?_, hown, ⟨rfl, rfl, rfl, Nat.le_refl _, fun _ _ _ => rfl⟩, .inl rfl⟩
      obtain ⟨_, hx⟩ := hown
      rcases hx with ⟨hv, rfl⟩ | ⟨gb, cap, cur, hv, _, _, hnc, _⟩
      · simp only [Value.slice.injEq] at hv
        obtain ⟨rfl, _, rfl⟩ := hv
        simp [Builtin.append_, run_underlying hT, sizeOf, typeInfo, hi, Builtin.lenOf, Builtin.firstCells]
      · simp only [Value.slice.injEq] at hv
        obtain ⟨rfl, _, rfl⟩ := hv
        simp [Builtin.append_, run_underlying hT, sizeOf, typeInfo, hi, Builtin.lenOf, Builtin.firstCells, hnc, storeCells]

theorem wp_append_gen {o : Oper} {a : Act} {K : Act → World → Prop} {Q : Exit → Act → World → Prop} (w : World) (s x : Operand)
    (ho : o.op = .call { callee := .builtin .append, args := #[s, x], argTypes := #[t, t] })
    (B : Nat) (v : Value) (n : Nat) (cs : List Value) (hs : a.eval s = v) (hown : w.ownsRow B e size v n cs) (ad : Option Addr) (m c : Nat) (cs' : List Value) (hx : a.eval x = .slice ad m c) (hl : cs'.length = m * size) (hc : LiesC w ad m cs') (h1 : ∀ u ∈ cs', u.oneCell' = true)
    (hm : n + m ≤ 4194304) (hby : (n + m) * bytes ≤ 140737488355328) (hB : B ≤ w.heap.size)
    (h : ∀ a' c' w', w'.ownsRow B e size (.slice a' (n + m) c') (n + m) (cs ++ cs') → w.grownBy w' v.ownBlock → ((Value.slice a' (n + m) c').ownBlock = v.ownBlock ∨ (Value.slice a' (n + m) c').ownBlock = some w.heap.size) → K (a.put o.dst (.slice a' (n + m) c')) w') : o.wp Tryz.prog a w K Q := by
  obtain ⟨a', c', w', hr, h2, h3, h4⟩ := run_append_gen hT hI hzs hsz w o.type B v n cs hown ad m c cs' hl hc h1 hm hby hB
  unfold Oper.wp execOp
  simp only [ho, resolve, invoke, builtin, Sem.run_bind, Sem.run_pure, Result.andThen_ok, List.map_toArray, List.map_cons, List.map_nil, hs, hx, hr]
  exact h a' c' w' h2 h3 h4
end
def OwnI (w : World) (B : Nat) (v : Value) (l : List Int) : Prop := w.ownsRow B 2 1 v l.length (l.map (Value.int .i64))
def NumL (w : World) (ad : Option Addr) (l : List Int) : Prop := LiesC w ad l.length (l.map (Value.int .i64))

theorem NumL.below {w w' : World} {ad : Option Addr} {l : List Int} (h : NumL w ad l) (hb : Below w.heap.size w w') : NumL w' ad l := LiesC.below h hb
theorem OwnI.lies {w : World} {B c : Nat} {a : Option Addr} {l : List Int} (h : OwnI w B (.slice a l.length c) l) : NumL w a l := LiesC.own h
theorem OwnI.nil (w : World) (B : Nat) : OwnI w B (.slice none 0 0) [] := World.ownsRow_nil _ _ _ _
theorem OwnI.made (w : World) (B : Nat) (hb : B ≤ w.heap.size) : OwnI (w.alloc (.cells #[] 2)) B (.slice (some ⟨w.heap.size, 0, none⟩) 0 0) [] := World.ownsRow_made w #[] 0 hb (Nat.zero_le _) rfl
theorem OwnI.alloc {w : World} {B : Nat} {v : Value} {l : List Int} (h : OwnI w B v l) (o : Obj) : OwnI (w.alloc o) B v l := World.ownsRow.alloc h o

def nthI (l : List Int) (i : Nat) : Int := l.getD i 0
theorem NumL.ints {w : World} {ad : Option Addr} {l : List Int} (h : NumL w ad l) : IntsAt w ad l.length (nthI l) := fun hn => by
  obtain ⟨b, off, e, hlt, hc⟩ := h hn
  exact ⟨b, off, e, hlt, fun i hi => hc i _ (by simp [nthI, hi])⟩
theorem IntsAt.intL {w : World} {ad : Option Addr} {n : Nat} {h : Nat → Int} (hc : IntsAt w ad n h) : NumL w ad ((List.range n).map h) := fun hn => by
  have hn' : 0 < n := by simpa using hn
  obtain ⟨b, off, e, hlt, hcc⟩ := hc hn'
  refine ⟨b, off, e, hlt, fun j u hu => ?_⟩
  by_cases hj : j < n
  · simp [hj] at hu
    rw [← hu]
    exact hcc j hj
  · simp [hj] at hu
theorem wpList_append_ints {ops : Array Oper} {rest : List Oper} {o : Oper} {a : Act} {Q : Exit → Act → World → Prop} (w : World) (hgd : o.guard = none) (s x : Operand)
    (ho : o.op = .call { callee := .builtin .append, args := #[s, x], argTypes := #[35, 35] })
    (B : Nat) (v : Value) (l : List Int) (hs : a.eval s = v) (hown : OwnI w B v l) (ad : Option Addr) (m c : Nat) (l' : List Int) (hx : a.eval x = .slice ad m c) (hm' : l'.length = m) (hc : NumL w ad l')
    (hm : l.length + m ≤ 4194304) (hB : B ≤ w.heap.size)
    (h : ∀ a' c' w', OwnI w' B (.slice a' (l ++ l').length c') (l ++ l') → w.grownBy w' v.ownBlock → ((Value.slice a' (l ++ l').length c').ownBlock = v.ownBlock ∨ (Value.slice a' (l ++ l').length c').ownBlock = some w.heap.size) → wpList Tryz.prog ops Q rest (a.put o.dst (.slice a' (l ++ l').length c')) w') : wpList Tryz.prog ops Q (o :: rest) a w := by
  subst hm'
  refine wpList_plain hgd fun _ hK => wp_append_gen Tryz.underlying35 Tryz.info2 rfl (by omega) w s x ho B v l.length _ hs hown ad l'.length c _ hx (by simp) hc (fun u hu => by obtain ⟨y, _, rfl⟩ := List.mem_map.1 hu; rfl) hm (by omega) hB fun a' c' w' h2 h3 h4 => hK _ _ ?_
  rw [← List.map_append, ← List.length_append] at h2
  rw [← List.length_append] at h4 ⊢
  exact h a' c' w' h2 h3 h4

theorem wpList_append_intsR {ops : Array Oper} {rest : List Oper} {o : Oper} {a : Act} {Q : Exit → Act → World → Prop} (w : World) (hgd : o.guard = none) (s x : Operand)
    (ho : o.op = .call { callee := .builtin .append, args := #[s, x], argTypes := #[35, 35] })
    (B : Nat) (v : Value) (l : List Int) (hs : a.eval s = v) (hown : OwnI w B v l) (ad : Option Addr) (m c : Nat) (l' : List Int) (hx : a.eval x = .slice ad m c) (hm' : l'.length = m) (hc : NumL w ad l') (R : List Int) (hR : R = l ++ l')
    (hm : R.length ≤ 4194304) (hB : B ≤ w.heap.size)
    (h : ∀ a' c' w', OwnI w' B (.slice a' R.length c') R → w.grownBy w' v.ownBlock → ((Value.slice a' R.length c').ownBlock = v.ownBlock ∨ (Value.slice a' R.length c').ownBlock = some w.heap.size) → wpList Tryz.prog ops Q rest (a.put o.dst (.slice a' R.length c')) w') : wpList Tryz.prog ops Q (o :: rest) a w := by
  subst hR
  exact wpList_append_ints w hgd s x ho B v l hs hown ad m c l' hx hm' hc (by rw [List.length_append] at hm; omega) hB h

theorem NumL.take {w : World} {b off : Nat} {l : List Int} (h : NumL w (some ⟨b, off, none⟩) l) (k : Nat) : NumL w (some ⟨b, off, none⟩) (l.take k) := fun hn => by
  have hl : 0 < l.length := by simp at hn; omega
  obtain ⟨b', off', e, hlt, hc⟩ := h hl
  cases e
  refine ⟨b, off, rfl, hlt, fun j u hu => hc j u ?_⟩
  rw [List.map_take, List.getElem?_take] at hu
  split at hu
  · exact hu
  · cases hu

theorem NumL.drop {w : World} {b off : Nat} {l : List Int} (h : NumL w (some ⟨b, off, none⟩) l) (k : Nat) : NumL w (some ⟨b, off + k, none⟩) (l.drop k) := fun hn => by
  have hl : 0 < l.length := by simp at hn; omega
  obtain ⟨b', off', e, hlt, hc⟩ := h hl
  cases e
  refine ⟨b, off + k, rfl, hlt, fun j u hu => ?_⟩
  rw [List.map_drop, List.getElem?_drop] at hu
  have := hc (k + j) u hu
  rw [Nat.add_assoc]
  exact this

theorem NumL.one {w : World} (x : Int) : NumL (w.alloc (.cells #[.int .i64 x] 2)) (some ⟨w.heap.size, 0, none⟩) [x] := fun _ =>
  ⟨w.heap.size, 0, rfl, by simp, fun j u hu => by
    cases j with
    | zero => simp at hu; subst hu; simp
    | succ j => simp at hu⟩
theorem NumL.none (w : World) (ad : Option Addr) : NumL w ad [] := fun h => by simp at h
end Go.Proofs.YtjceaajnemgheaaGreatDoor
namespace Go.Proofs.YtjceaajnemgheaaGreatDoor
open Go.RowKit Go.Deep

def zeroB (base : Int) (n : Nat) : Bool := (base == 0) && (n == 0)
def uId (kind : Int) : Bool := kind == 2 || kind == 3 || kind == 4 || kind == 5 || kind == 6 || kind == 7 || kind == 8 || kind == 9 || kind == 10 || kind == 11 || kind == 13 || kind == 15
def uTo (kind : Int) : Bool := kind == 8
def uCat (kind : Int) : Bool := kind == 5 || kind == 14
def uData (kind : Int) : Bool := kind == 6 || kind == 9
def uLabel (kind : Int) : Bool := kind == 2 || kind == 3 || kind == 4 || kind == 5 || kind == 12
def uClear (kind : Int) : Bool := kind == 5
def uOk (kind : Int) : Bool := kind == 1 || kind == 2 || kind == 3 || kind == 4 || kind == 5 || kind == 6 || kind == 7 || kind == 8 || kind == 9 || kind == 10 || kind == 11 || kind == 12 || kind == 13 || kind == 14 || kind == 15
def numB (n : Int) (used : Bool) : Bool := if used then inB n 1 9030 else n == 0
def catB (kind cat : Int) (used : Bool) : Bool := if cat == 0 then kind != 14 else used && inB cat 1 9999

theorem isZero_any (base : Int) (a : Option Addr) (n cap : Nat) (w : World) (hn : n ≤ maxLen) :
    Calls Tryz.prog 83 #[.agg #[.int .i64 base, .slice a n cap]] w fun e w' => e = .returned (.bool (zeroB base n)) ∧ Below w.heap.size w w' := by
  unfold maxLen at hn
  have hb0 := (Below.refl _ w).alloc (Nat.le_refl _) (.cells #[.int .i64 base, .slice a n cap] 39)
  cases t : (base == 0) with
  | true =>
    go_enter Tryz.func83, Tryz.ntmps83
    go_wp2
    go_ret
    refine ⟨ret_bool ?_, hb0⟩
    unfold zeroB
    rw [t, Bool.true_and]
    by_cases e : n = 0
    · subst e; rfl
    · have e1 : (n == 0) = false := by simpa using e
      rw [e1]
      simp
      omega
  | false =>
    go_enter Tryz.func83, Tryz.ntmps83
    go_wp2
    go_ret
    exact ⟨ret_bool (by simp [zeroB, t]), hb0⟩

end Go.Proofs.YtjceaajnemgheaaGreatDoor
namespace Go.Proofs.YtjceaajnemgheaaGreatDoor
open Go.RowKit Go.Deep

def itemsB (n : Nat) (f : Nat → ByteArray) : Bool := decide (n ≤ 8) && (List.range n).all (fun i => plainB (f i) 40)
theorem itemsB_len {n : Nat} {f : Nat → ByteArray} (e : 8 < n) : itemsB n f = false := by
  have : decide (n ≤ 8) = false := by simp; omega
  simp [itemsB, this]
theorem itemsB_at {n k : Nat} {f : Nat → ByteArray} (hk : k < n) (e : plainB (f k) 40 = false) : itemsB n f = false := by
  have : (List.range n).all (fun i => plainB (f i) 40) = false := by
    rw [List.all_eq_false]; exact ⟨k, List.mem_range.2 hk, by simp [e]⟩
  simp [itemsB, this]
theorem itemsB_all {n : Nat} {f : Nat → ByteArray} (e : ∀ i, i < n → plainB (f i) 40 = true) : itemsB n f = decide (n ≤ 8) := by
  have : (List.range n).all (fun i => plainB (f i) 40) = true := by
    rw [List.all_eq_true]; intro i hi; exact e i (List.mem_range.1 hi)
  simp [itemsB, this]
theorem itemsB_out {n : Nat} {f : Nat → ByteArray} (e : itemsB n f = true) : n ≤ 8 ∧ ∀ i, i < n → plainB (f i) 40 = true := by
  simp only [itemsB, Bool.and_eq_true, decide_eq_true_eq, List.all_eq_true, List.mem_range] at e
  exact e

set_option maxRecDepth 100000 in
set_option maxHeartbeats 2000000 in
theorem itemsOk_any (a : Option Addr) (n cap : Nat) (f : Nat → ByteArray) (w : World) (hn : n ≤ maxLen) (hc : StrAt w a n f) (hz : ∀ i, i < n → (f i).size ≤ maxLen) :
    Calls Tryz.prog 82 #[.slice a n cap] w fun e w' => e = .returned (.bool (itemsB n f)) ∧ Below w.heap.size w w' := by
  unfold maxLen at hn
  have HC := hid hc
  have HZ := hid hz
  clear hc hz
  by_cases h8 : 8 < n
  · have h8' : (8 : Int) < (n : Int) := by omega
    go_enter Tryz.func82, Tryz.ntmps82
    go_wp2
    go_ret
    exact ⟨ret_bool (itemsB_len h8).symm, Below.refl _ _⟩
  · have h8' : ¬ (8 : Int) < (n : Int) := by omega
    go_enter Tryz.func82, Tryz.ntmps82
    go_wp2
    go_loopw [10] (fun i wr => ∃ k : Nat, k ≤ n ∧ i = .int .i64 k ∧ Hid (∀ j, j < k → plainB (f j) 40 = true) ∧ Below w.heap.size w wr) (fun i _ => n - (intOf i).toNat)
    case atStart => exact ⟨0, Nat.zero_le _, rfl, hid (fun j hj => by omega), Below.refl _ _⟩
    case round =>
      obtain ⟨k, hk, rfl, HA, hB⟩ := hrel
      by_cases hlt : k < n
      · obtain ⟨b, off, rfl, hlt0, hcc⟩ := HC.out.below hB (by omega)
        have g1 := hcc k hlt
        have z := HZ.out k hlt
        have i1 : (k : Int) < (n : Int) := by omega
        clear hcc
        go_wp2_with fail
        refine (isData_any _ _ z).mono ?_
        rintro e w1 ⟨rfl, hb1⟩
        have B1 := then_ hB hb1
        clear g1
        by_cases t : plainB (f k) 40 = true
        · have HA2 : Hid (∀ j, j < k + 1 → plainB (f j) 40 = true) := hid (fun j hj => by
            by_cases e : j = k
            · subst e; exact t
            · exact HA.out j (by omega))
          go_wp2
          exact ⟨⟨k + 1, by omega, by go_num, HA2, B1⟩, by simp [intOf]; omega⟩
        · have t' : plainB (f k) 40 = false := by simpa using t
          clear t
          go_wp2
          go_ret
          exact ⟨ret_bool (itemsB_at hlt t').symm, B1⟩
      · go_wp2
        go_ret
        have e : k = n := by omega
        subst e
        exact ⟨ret_bool (by rw [itemsB_all HA.out]; simp; omega), hB⟩
def kindB (t : ObjV) : Bool :=
  if t.kind = 1 then t.items.n == 0 && (t.own.n == 0 && zeroB t.b2 t.c2.n)
  else if t.kind = 2 then t.data.toList.isEmpty && (t.own.n == 0 && zeroB t.b2 t.c2.n)
  else if t.kind = 3 then t.data.toList.isEmpty && t.items.n == 0 && (t.own.n == 0 && zeroB t.b2 t.c2.n)
  else if t.kind = 4 then t.data.toList.isEmpty && t.items.n == 0
  else false
def objOk (t : ObjV) : Bool := labOk t.b1 t.c1.n t.c1.f t.c1.g && labOk t.b2 t.c2.n t.c2.f t.c2.g && ownOk t.own.n t.own.h && plainB t.data 40 && itemsB t.items.n t.items.f && kindB t
end Go.Proofs.YtjceaajnemgheaaGreatDoor
namespace Go.Proofs.YtjceaajnemgheaaGreatDoor
open Go.RowKit Go.Deep

theorem natz (n : Nat) : ((n : Int) == 0) = (n == 0) := by
  by_cases e : n = 0
  · subst e; rfl
  · have e1 : (n == 0) = false := by simpa using e
    rw [e1]; simp; omega
theorem labOk_v (b : Int) (c : CatL) (w : World) (hc : c.at w) :
    Calls Tryz.prog 78 #[.agg #[.int .i64 b, c.val]] w fun e w' => e = .returned (.bool (labOk b c.n c.f c.g)) ∧ Below w.heap.size w w' := implOk_any b c.a c.n c.k c.f c.g w hc.1 hc.2
theorem ownOk_v (c : IntL) (w : World) (hc : c.at w) :
    Calls Tryz.prog 80 #[c.val] w fun e w' => e = .returned (.bool (ownOk c.n c.h)) ∧ w' = w := ownsOk_any c.a c.n c.k c.h w hc.1 hc.2
theorem items_v (c : StrL) (w : World) (hc : c.at w) :
    Calls Tryz.prog 82 #[c.val] w fun e w' => e = .returned (.bool (itemsB c.n c.f)) ∧ Below w.heap.size w w' := itemsOk_any c.a c.n c.k c.f w hc.1 hc.2.1 hc.2.2
theorem zero_v (b : Int) (c : CatL) (w : World) (hc : c.at w) :
    Calls Tryz.prog 83 #[.agg #[.int .i64 b, c.val]] w fun e w' => e = .returned (.bool (zeroB b c.n)) ∧ Below w.heap.size w w' := isZero_any b c.a c.n c.k w hc.1

set_option maxRecDepth 100000 in
set_option maxHeartbeats 4000000 in
theorem objectOk_any (t : ObjV) (w : World) (ht : t.at w) :
    Calls Tryz.prog 71 #[t.val] w fun e w' => e = .returned (.bool (objOk t)) ∧ Below w.heap.size w w' := by
  have hb0 := (Below.refl _ w).alloc (Nat.le_refl _) (.cells #[.int .i64 t.id, .int .i64 t.kind, .int .i64 t.up, .int .i64 t.b1, t.c1.val, .string t.data, t.items.val, t.own.val, .int .i64 t.b2, t.c2.val] 45)
  have A0 := Blk.new w (.cells #[.int .i64 t.id, .int .i64 t.kind, .int .i64 t.up, .int .i64 t.b1, t.c1.val, .string t.data, t.items.val, t.own.val, .int .i64 t.b2, t.c2.val] 45)
  have T0 := hid (ht.below hb0)
  unfold ObjV.val
  obtain ⟨x0, x1, x2, x3, x4, x5, x6, x7, x8, x9⟩ := A0.ten
  clear ht
  go_enter Tryz.func71, Tryz.ntmps71
  go_wp2_with fail
  refine (labOk_v _ t.c1 _ T0.out.1).mono ?_
  rintro e w1 ⟨rfl, hb1⟩
  have A1 := A0.below hb1
  have T1 := hid (T0.out.below hb1)
  have B1 := then_ hb0 hb1
  clear x0 x1 x2 x3 x4 x5 x6 x7 x8 x9 A0 T0 hb0 hb1
  obtain ⟨x0, x1, x2, x3, x4, x5, x6, x7, x8, x9⟩ := A1.ten
  cases t1 : labOk t.b1 t.c1.n t.c1.f t.c1.g with
  | false =>
    go_wp2
    go_ret
    exact ⟨ret_bool (by simp [objOk, t1]), B1⟩
  | true =>
  go_wp2_with fail
  refine (labOk_v _ t.c2 _ T1.out.2.2.2.1).mono ?_
  rintro e w2 ⟨rfl, hb2⟩
  have A2 := A1.below hb2
  have T2 := hid (T1.out.below hb2)
  have B2 := then_ B1 hb2
  clear x0 x1 x2 x3 x4 x5 x6 x7 x8 x9 A1 T1 B1 hb2
  obtain ⟨x0, x1, x2, x3, x4, x5, x6, x7, x8, x9⟩ := A2.ten
  cases t2 : labOk t.b2 t.c2.n t.c2.f t.c2.g with
  | false =>
    go_wp2
    go_ret
    exact ⟨ret_bool (by simp [objOk, t2]), B2⟩
  | true =>
  go_wp2_with fail
  refine (ownOk_v t.own _ T2.out.2.2.1).mono ?_
  rintro e w3 ⟨rfl, rfl⟩
  cases t3 : ownOk t.own.n t.own.h with
  | false =>
    go_wp2
    go_ret
    exact ⟨ret_bool (by simp [objOk, t3]), B2⟩
  | true =>
  go_wp2_with fail
  refine (isData_any t.data _ T2.out.2.2.2.2).mono ?_
  rintro e w4 ⟨rfl, hb4⟩
  have A4 := A2.below hb4
  have T4 := hid (T2.out.below hb4)
  have B4 := then_ B2 hb4
  clear x0 x1 x2 x3 x4 x5 x6 x7 x8 x9 A2 T2 B2 hb4
  obtain ⟨x0, x1, x2, x3, x4, x5, x6, x7, x8, x9⟩ := A4.ten
  cases t4 : plainB t.data 40 with
  | false =>
    go_wp2
    go_ret
    exact ⟨ret_bool (by simp [objOk, t4]), B4⟩
  | true =>
  go_wp2_with fail
  refine (items_v t.items _ T4.out.2.1).mono ?_
  rintro e w5 ⟨rfl, hb5⟩
  have A5 := A4.below hb5
  have T5 := hid (T4.out.below hb5)
  have B5 := then_ B4 hb5
  clear x0 x1 x2 x3 x4 x5 x6 x7 x8 x9 A4 T4 B4 hb5
  obtain ⟨x0, x1, x2, x3, x4, x5, x6, x7, x8, x9⟩ := A5.ten
  cases t5 : itemsB t.items.n t.items.f with
  | false =>
    go_wp2
    go_ret
    exact ⟨ret_bool (by simp [objOk, t5]), B5⟩
  | true =>
  have OK : Hid (objOk t = kindB t) := hid (by simp [objOk, t1, t2, t3, t4, t5])
  clear t1 t2 t3 t4 t5
  unfold StrL.val at x6
  go_wp2_with fail
  have hn5 := T5.out.2.1.1
  unfold maxLen at hn5
  go_quiet (fail)
  unfold IntL.val at x7
  have hn6 := T5.out.2.2.1.1
  unfold maxLen at hn6
  have Z := hid (zero_v t.b2 t.c2 _ (T5.out.below (below_drewN (Below.refl _ w5) nq)).2.2.2.1)
  have B6 := below_drewN B5 nq
  go_wp2_with (go_at_call 83; refine Z.out.mono ?_; rintro e w6 ⟨rfl, hb6⟩; have x1' := (hb6.cell (p := ⟨w.heap.size, 1, none⟩) A5.lt).trans x1; have B7 := then_ B6 hb6)
  all_goals
    go_ret
    refine ⟨ret_bool ?_, by assumption⟩
    rw [OK.out]
    first
    | (simp_all [kindB]; done)
    | (simp_all [kindB]; exact natz _)
end Go.Proofs.YtjceaajnemgheaaGreatDoor
