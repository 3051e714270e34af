/- The key schedule, plainly; a queue of three words that is cut ahead and grown behind. -/
import Derived.Test.YtbopcgokmgifhaaDoorA2
import Derived.Test.YtbopcgokmgifhaaDoorNGR
import Derived.Test.YtbopcgokmgifhaaDoorNNA
import Derived.ArgAppend
namespace Go.Proofs.YtbopcgokmgifhaaDoor
open Go Go.RowKit Go.Deep Go.Maps
open Go.WideShapes (add_plain)

/-- a word of the key -/
def kn (s : ByteArray) (i : Nat) : Nat := numTo (s.extract (4 * i) (4 * i + 4)) 4
def kw (s : ByteArray) (i : Nat) : Int := (kn s i : Int) % 4294967296
theorem four {s : ByteArray} {i : Nat} (hs : s.size = 16) (hi : i < 4) : (s.extract (4 * i) (4 * i + 4)).size = 4 := by rw [ByteArray.size_extract]; omega
theorem l7Num_kn (s : ByteArray) (i : Nat) (w : World) (hs : s.size = 16) (hi : i < 4) :
    Calls Tryd.prog 30 #[.string (s.extract (4 * i) (4 * i + 4))] w fun e w' => e = .returned (.int .i64 (kn s i : Nat)) ∧ w' = w := by
  have h4 := four hs hi
  refine (l7Num_any (s.extract (4 * i) (4 * i + 4)) w (by omega)).mono ?_
  rintro e w1 ⟨rfl, rfl⟩
  rw [h4]
  exact ⟨rfl, rfl⟩
theorem readHigh_kn (s : ByteArray) (i : Nat) (w : World) (hs : s.size = 16) (hi : i < 4) :
    Calls Tryd.prog 25 #[.string (s.extract (4 * i) (4 * i + 4))] w fun e w' => e = .returned (.int .i64 (kn s i : Nat)) ∧ w' = w := by
  have h4 := four hs hi
  refine (readHigh_any (s.extract (4 * i) (4 * i + 4)) w (by omega)).mono ?_
  rintro e w1 ⟨rfl, rfl⟩
  rw [h4]
  exact ⟨rfl, rfl⟩
structure Sch where
  k : Int
  q0 : Int
  q1 : Int
  q2 : Int
def Sch.next (a : Sch) (i : Nat) : Sch := ⟨ry a.q0 a.k i, a.q1, a.q2, rx a.q0 a.k i⟩
def sch (s : ByteArray) : Nat → Sch
  | 0 => ⟨kw s 3, kw s 2, kw s 1, kw s 0⟩
  | i + 1 => (sch s i).next i
def keyAt (s : ByteArray) (i : Nat) : Int := (sch s i).k
def keysTo (s : ByteArray) : Nat → List Int
  | 0 => []
  | i + 1 => keysTo s i ++ [keyAt s i]
theorem keysTo_len (s : ByteArray) (i : Nat) : (keysTo s i).length = i := by induction i with
  | zero => rfl
  | succ i ih => simp [keysTo, ih]
theorem keysTo_at (s : ByteArray) (i j : Nat) (h : j < i) : (keysTo s i)[j]? = some (keyAt s j) := by induction i with
  | zero => omega
  | succ i ih =>
    rw [keysTo]
    by_cases e : j = i
    · subst e; rw [List.getElem?_append_right (by rw [keysTo_len]; omega), keysTo_len]; simp
    · rw [List.getElem?_append_left (by rw [keysTo_len]; omega)]; exact ih (by omega)

/-- rows of words -/
theorem Tryd.info44 : (Tryd.prog.info? 44).map (fun i => (i.zero, i.size, i.bytes)) = some (some (.int .u32 0), 1, 4) := by kernel_rfl
def ucells (l : List Int) : List Value := l.map fun b => Value.int .u32 b
def OwnU (w : World) (B : Nat) (v : Value) (l : List Int) : Prop := w.ownsRow B 44 1 v l.length (ucells l)

theorem one_u32 {w : World} (x : Int) : LiesC (w.alloc (.cells #[.int .u32 x] 44)) (some ⟨w.heap.size, 0, none⟩) 1 [.int .u32 x] := fun _ =>
  ⟨w.heap.size, 0, rfl, by simp, fun j u hu => by
    cases j with
    | zero => simp at hu; subst hu; simp
    | succ j => simp at hu⟩

theorem wpList_append_word {ops : Array Oper} {rest : List Oper} {o : Oper} {a : Act} {Q : Exit → Act → World → Prop} (w : World) (hgd : o.guard = none) (s x : Operand)
    (ho : o.op = .call { callee := .builtin .append, args := #[s, x], argTypes := #[65, 65] })
    (B : Nat) (v : Value) (l : List Int) (hs : a.eval s = v) (hown : OwnU w B v l) (ad : Option Addr) (c : Nat) (b : Int) (hx : a.eval x = .slice ad 1 c) (hc : LiesC w ad 1 [.int .u32 b])
    (hm : l.length ≤ 1000) (hB : B ≤ w.heap.size)
    (h : ∀ g c' w', OwnU w' B (.slice (some ⟨g, 0, none⟩) (l ++ [b]).length c') (l ++ [b]) → w.grownBy w' v.ownBlock → (v.ownBlock = some g ∨ g = w.heap.size) → wpList Tryd.prog ops Q rest (a.put o.dst (.slice (some ⟨g, 0, none⟩) (l ++ [b]).length c')) w') : wpList Tryd.prog ops Q (o :: rest) a w := by
  refine wpList_plain hgd fun _ hK => wp_append_gen Tryd.underlying65 Tryd.info44 rfl (by omega) w s x ho B v l.length _ hs hown ad 1 c [.int .u32 b] hx (by simp) hc (fun u hu => by simp at hu; subst hu; rfl) (by omega) (by omega) hB fun a' c' w' h2 h3 h4 => hK _ _ ?_
  have e1 : ucells l ++ [Value.int .u32 b] = ucells (l ++ [b]) := by simp [ucells]
  have e2 : l.length + 1 = (l ++ [b]).length := by simp
  rw [e1] at h2
  obtain ⟨g, cap, hv, _, _⟩ := World.ownsRow.form h2 (by omega)
  simp only [Value.slice.injEq] at hv
  obtain ⟨rfl, _, _⟩ := hv
  rw [e2] at h2 ⊢
  refine h g c' w' h2 h3 ?_
  rcases h4 with h4 | h4
  · exact .inl h4.symm
  · exact .inr (Option.some.inj h4)

/-- three words in a row, with room behind them or none -/
structure Q3 (w : World) (B g off cap : Nat) (x y z : Int) : Prop where
  lo : B ≤ g
  row : ∃ cur, w.heap[g]? = some (.cells cur 44 (0, 0)) ∧ cur.size = off + cap
  three : 3 ≤ cap
  c0 : w.cell? ⟨g, off, none⟩ = some (.int .u32 x)
  c1 : w.cell? ⟨g, off + 1, none⟩ = some (.int .u32 y)
  c2 : w.cell? ⟨g, off + 2, none⟩ = some (.int .u32 z)

theorem Q3.lt {w : World} {B g off cap : Nat} {x y z : Int} (h : Q3 w B g off cap x y z) : g < w.heap.size := by
  obtain ⟨cur, hc, _⟩ := h.row
  by_cases e : g < w.heap.size
  · exact e
  · rw [Array.getElem?_eq_none (by omega)] at hc; cases hc
theorem cell_same {w w' : World} {b off : Nat} (h : w'.heap[b]? = w.heap[b]?) : w'.cell? ⟨b, off, none⟩ = w.cell? ⟨b, off, none⟩ := by
  exact World.cell?_of_block (a := ⟨b, off, none⟩) h
theorem Q3.same {w w' : World} {B g off cap : Nat} {x y z : Int} (h : Q3 w B g off cap x y z) (e : w'.heap[g]? = w.heap[g]?) : Q3 w' B g off cap x y z :=
  ⟨h.lo, by rw [e]; exact h.row, h.three, (cell_same e).trans h.c0, (cell_same e).trans h.c1, (cell_same e).trans h.c2⟩
theorem Q3.alloc {w : World} {B g off cap : Nat} {x y z : Int} (h : Q3 w B g off cap x y z) (b : Obj) : Q3 (w.alloc b) B g off cap x y z :=
  h.same (heap_alloc_old w b h.lt)
theorem Q3.drew {w : World} {B g off cap : Nat} {x y z : Int} (h : Q3 w B g off cap x y z) : Q3 w.drew B g off cap x y z := h.same rfl

theorem wpList_queue {ops : Array Oper} {rest : List Oper} {o : Oper} {a : Act} {Q : Exit → Act → World → Prop} (w : World) (hgd : o.guard = none) (s x : Operand)
    (ho : o.op = .call { callee := .builtin .append, args := #[s, x], argTypes := #[65, 65] })
    (B g off cap : Nat) (x0 y z : Int) (hs : a.eval s = .slice (some ⟨g, off + 1, none⟩) 2 (cap - 1)) (hq : Q3 w B g off cap x0 y z)
    (ad c : Nat) (b : Int) (hx : a.eval x = .slice (some ⟨ad, 0, none⟩) 1 c) (hc : w.cell? ⟨ad, 0, none⟩ = some (.int .u32 b)) (hB : B ≤ w.heap.size)
    (h : ∀ g' off' cap' w', Q3 w' B g' off' cap' y z b → w.grownBy w' (some g) → (g' = g ∨ w.heap.size ≤ g') → wpList Tryd.prog ops Q rest (a.put o.dst (.slice (some ⟨g', off', none⟩) 3 cap')) w') : wpList Tryd.prog ops Q (o :: rest) a w := by
  obtain ⟨i0, hi, hz0, hz1, hz2⟩ := info_parts Tryd.info44
  obtain ⟨cur, hrow, hcur⟩ := hq.row
  have h3 := hq.three
  refine wpList_append_arg w hgd s x 65 ho 44 i0 _ 1 4 Tryd.underlying65 hi hz0 hz1 hz2 rfl (by decide) g (off + 1) 2 (cap - 1) [.int .u32 y, .int .u32 z] hs rfl ?_ ⟨ad, 0, none⟩ 1 c [.int .u32 b] hx rfl ?_ ?_ ?_ (by unfold maxLen; omega) (by omega) ?_ ?_
  · intro j u hu
    match j, hu with
    | 0, hu => simp at hu; subst hu; exact hq.c1
    | 1, hu => simp at hu; subst hu; exact hq.c2
    | j + 2, hu => simp at hu
  · intro j u hu
    match j, hu with
    | 0, hu => simp at hu; subst hu; rw [add_plain]; exact hc
    | j + 1, hu => simp at hu
  · intro u hu; simp at hu; subst hu; rfl
  · intro hr j hj
    simp only [List.length_singleton] at hj
    refine ⟨?_, ?_⟩
    · simp only [World.cell?, hrow]
      simp only [Option.isSome_none, Bool.false_eq_true, if_false]
      rw [Array.getElem?_eq_getElem (by omega)]
      rfl
    · simp [World.frozen?, hrow]
  · intro hr
    refine h g (off + 1) (cap - 1) _ ?_ ?_ (.inl rfl)
    · have e1 := heap_setCell_same w g (off + 1 + 2 * 1) cur 44 (.int .u32 b) hrow
      refine ⟨hq.lo, ⟨_, e1, by simp; omega⟩, by omega, ?_, ?_, ?_⟩
      · exact (World.cell?_setCells_out g [.int .u32 b] _ w ⟨g, off + 1, none⟩ (fun _ _ => by simp only; omega)).trans hq.c1
      · exact (World.cell?_setCells_out g [.int .u32 b] _ w ⟨g, off + 1 + 1, none⟩ (fun _ _ => by simp only; omega)).trans hq.c2
      · simp only [World.cell?, World.setCells, e1]
        simp only [Option.isSome_none, Bool.false_eq_true, if_false]
        rw [Array.getElem?_setIfInBounds]
        simp
        omega
    · exact ⟨rfl, rfl, rfl, by simp [World.setCells], fun k _ hk => heap_setCell_other w _ k _ (fun e => hk (by rw [e]))⟩
  · intro hg v' w' hO hgr
    obtain ⟨_, hO⟩ := hO
    rcases hO with ⟨_, h0⟩ | ⟨g', cap', cur', rfl, hb, hg', hn, _, hsz, htk⟩
    · omega
    · have hat : ∀ j u, ([.int .u32 y, .int .u32 z] ++ [.int .u32 b] : List Value)[j]? = some u → w'.cell? ⟨g', 0 + j, none⟩ = some u := fun j u hu => by
        simp only [World.cell?, hg']
        simp only [Option.isSome_none, Bool.false_eq_true, if_false, Nat.zero_add]
        rw [← htk] at hu
        rw [← Array.getElem?_toList]
        rw [List.getElem?_take] at hu
        split at hu
        · exact hu
        · cases hu
      refine h g' 0 cap' w' ⟨by omega, ⟨cur', hg', by omega⟩, by omega, hat 0 _ rfl, hat 1 _ rfl, hat 2 _ rfl⟩ ⟨hgr.os, hgr.tape, hgr.output, hgr.size, fun k hk _ => hgr.block k hk (by simp)⟩ ?_
      exact .inr hb
end Go.Proofs.YtbopcgokmgifhaaDoor
