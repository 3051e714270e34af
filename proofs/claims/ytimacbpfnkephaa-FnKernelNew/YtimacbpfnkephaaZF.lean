/- Texts put together. -/
import Derived.Test.YtimacbpfnkephaaProg
import Derived.WalkKit
import Derived.WalkSpells
import Derived.WalkLawsBesides
import Derived.Below
import Derived.Laws.BitsAllLaws
import Derived.Deep.OwnRows
import Derived.Deep.RegionHeld3
import Derived.Laws.IdiomStrings
import Derived.Maps.AppendAt
import Derived.Deep.AppendLies
import Derived.Laws.OwnMore
import Derived.WideShapes
import Derived.Maps.Own
/- Sums of bytes by twos, plainly. -/
namespace Go.Proofs.Ytimacbpfnkephaa.Rdr
open Go.RowKit

theorem ret_bool {a b : Bool} (h : a = b) : Ending.returned (.bool a) = .returned (.bool b) := by rw [h]
theorem ret_int {k : IntKind} {a b : Int} (h : a = b) : Ending.returned (.int k a) = .returned (.int k b) := by rw [h]
theorem hid {p : Prop} (h : p) : Hid p := h

/-- the byte at a place -/
def at8 (s : ByteArray) (k : Nat) : Nat := if h : k < s.size then s[k].toNat else 0
theorem at8_lt (s : ByteArray) (k : Nat) : at8 s k < 256 := by
  unfold at8; split
  · exact UInt8.toNat_lt _
  · omega
theorem at8_eq {s : ByteArray} {k : Nat} (h : k < s.size) : at8 s k = s[k].toNat := by simp [at8, h]

/-- the sum of the first k bytes, the even ones times 256 -/
def psum (f : Nat → Nat) : Nat → Nat
  | 0 => 0
  | k + 1 => psum f k + (if k % 2 = 0 then f k * 256 else f k)
/-- a number below 65536 with its rest by 65535, nought for nought alone -/
def fold (n : Nat) : Nat := if n = 0 then 0 else (n - 1) % 65535 + 1

theorem fold_lt (n : Nat) : fold n ≤ 65535 := by unfold fold; split <;> omega
theorem fold_small {n : Nat} (h : n < 65536) : fold n = n := by unfold fold; split <;> omega
theorem fold_step {n : Nat} (h : 65536 ≤ n) : fold (n / 65536 + n % 65536) = fold n := by unfold fold; split <;> split <;> omega
theorem fold_add (t n : Nat) : fold (fold t + n) = fold (t + n) := by
  unfold fold
  split
  · rename_i h; subst h; simp
  · rename_i h
    rw [if_neg (by omega), if_neg (by omega)]
    omega
theorem fold_over {x : Nat} (h1 : 65535 < x) (h2 : x ≤ 131070) : fold x = x - 65535 := by unfold fold; split <;> omega

theorem psum_le (f : Nat → Nat) (hf : ∀ k, f k < 256) (k : Nat) : psum f k ≤ k * 65280 := by
  induction k with
  | zero => simp [psum]
  | succ k ih =>
    have := hf k
    unfold psum
    split <;> omega
theorem psum_two (f : Nat → Nat) (k : Nat) (h : k % 2 = 0) : psum f (k + 2) = psum f k + (256 * f k + f (k + 1)) := by
  have e : ¬ (k + 1) % 2 = 0 := by omega
  simp only [psum, h, e, if_true, if_false]
  omega
theorem psum_one (f : Nat → Nat) (k : Nat) (h : k % 2 = 0) : psum f (k + 1) = psum f k + 256 * f k := by
  simp only [psum, h, if_true]
  omega

/-- what Checksum answers -/
def cks (s : ByteArray) : Nat := 65535 - fold (psum (at8 s) s.size)
theorem cks_lt (s : ByteArray) : cks s < 65536 := by unfold cks; omega
end Go.Proofs.Ytimacbpfnkephaa.Rdr

/- Appending to a slice that the call owns, of whatever elements; the reader's bytes. -/
namespace Go.Proofs.Ytimacbpfnkephaa.Rdr
open Go Go.RowKit Go.Deep Go.Maps
open Go.WideShapes (add_plain)

/-- n elements lie there, cell by cell -/
def LiesC (w : World) (ad : Option Addr) (n : Nat) (cs : List Value) : Prop :=
  0 < n → ∃ b off, ad = some ⟨b, off, none⟩ ∧ b < w.heap.size ∧ ∀ j u, cs[j]? = some u → w.cell? ⟨b, off + j, none⟩ = some u

theorem LiesC.below {w w' : World} {ad : Option Addr} {n : Nat} {cs : List Value} (h : LiesC w ad n cs) (hb : Below w.heap.size w w') : LiesC w' ad n cs := fun hn => by
  obtain ⟨b, off, e, hlt, hc⟩ := h hn
  exact ⟨b, off, e, Nat.lt_of_lt_of_le hlt hb.size, fun j u hu => (hb.cell (p := ⟨b, off + j, none⟩) hlt).trans (hc j u hu)⟩

theorem LiesC.own {w : World} {B e size n c : Nat} {a : Option Addr} {cs : List Value} (h : w.ownsRow B e size (.slice a n c) n cs) : LiesC w a n cs := fun hn => by
  obtain ⟨gb, cap, hv, _, hlt⟩ := World.ownsRow.form h hn
  simp only [Value.slice.injEq] at hv
  obtain ⟨rfl, _, _⟩ := hv
  have hc := World.ownsRow.cells h (g := gb) rfl
  refine ⟨gb, 0, rfl, hlt, fun j u hu => ?_⟩
  have t := hc j u hu
  rw [add_plain] at t
  exact t

theorem ownsRow_shapeR {w : World} {B e size n : Nat} {v : Value} {cs : List Value} (h : w.ownsRow B e size v n cs) : ∃ a c, v = .slice a n c := by
  rcases h.2 with ⟨rfl, rfl⟩ | ⟨gb, cap, cur, rfl, _⟩
  · exact ⟨_, _, rfl⟩
  · exact ⟨_, _, rfl⟩

section
variable {t e size bytes : Nat} {z : Value} (hT : Try.prog.underlying t = some (.slice e)) (hI : (Try.prog.info? e).map (fun i => (i.zero, i.size, i.bytes)) = some (some z, size, bytes)) (hzs : z.cells.size = size) (hsz : 0 < size)
include hT hI hzs hsz

theorem run_append_gen (w : World) (ty B : Nat) (v : Value) (n : Nat) (cs : List Value) (hown : w.ownsRow B e size v n cs) (ad : Option Addr) (m c : Nat) (cs' : List Value) (hl : cs'.length = m * size) (hc : LiesC w ad m cs') (h1 : ∀ u ∈ cs', u.oneCell' = true)
    (hm : n + m ≤ 4194304) (hby : (n + m) * bytes ≤ 140737488355328) (hB : B ≤ w.heap.size) :
    ∃ a' c' w', (Builtin.append_ #[t, t] ty #[v, .slice ad m c]).run Try.prog w = .ok (.slice a' (n + m) c') w' ∧ w'.ownsRow B e size (.slice a' (n + m) c') (n + m) (cs ++ cs') ∧ w.grownBy w' v.ownBlock ∧
      ((Value.slice a' (n + m) c').ownBlock = v.ownBlock ∨ (Value.slice a' (n + m) c').ownBlock = some w.heap.size) := by
  obtain ⟨i0, hi, hz0, hz1, hz2⟩ := info_parts hI
  have some' : ∀ a : Addr, (∀ j u, cs'[j]? = some u → w.cell? (a.add j) = some u) → ∃ a' c' w', (Builtin.append_ #[t, t] ty #[v, .slice (some a) m c]).run Try.prog w = .ok (.slice a' (n + m) c') w' ∧ w'.ownsRow B e size (.slice a' (n + m) c') (n + m) (cs ++ cs') ∧ w.grownBy w' v.ownBlock ∧
      ((Value.slice a' (n + m) c').ownBlock = v.ownBlock ∨ (Value.slice a' (n + m) c').ownBlock = some w.heap.size) := fun a hnews => by
    obtain ⟨v', w', hr, h2, h3, _, h5⟩ := run_append_own_at (P := Try.prog) w B t ty e i0 _ size bytes hT hi hz0 hz1 hz2 hzs hsz v n cs hown a m c cs' hl hnews h1 (by unfold maxLen; omega) hby hB
    obtain ⟨a', c', rfl⟩ := ownsRow_shapeR h2
    exact ⟨a', c', w', hr, h2, h3, h5⟩
  by_cases h0 : 0 < m
  · obtain ⟨b, off, rfl, _, hcc⟩ := hc h0
    exact some' _ (fun j u hu => by rw [add_plain]; exact hcc j u hu)
  · obtain rfl : m = 0 := by omega
    have e0 : cs' = [] := List.eq_nil_of_length_eq_zero (by omega)
    subst e0
    cases ad with
    | some a => exact some' a (fun j u hu => by simp at hu)
    | none =>
      obtain ⟨a', c', rfl⟩ := ownsRow_shapeR hown
      rw [List.append_nil]
      refine ⟨a', c', w, ?_, hown, ⟨rfl, rfl, rfl, Nat.le_refl _, fun _ _ _ => rfl⟩, .inl rfl⟩
      obtain ⟨_, hx⟩ := hown
      rcases hx with ⟨hv, rfl⟩ | ⟨gb, cap, cur, hv, _, _, hnc, _⟩
      · simp only [Value.slice.injEq] at hv
        obtain ⟨rfl, _, rfl⟩ := hv
        simp [Builtin.append_, run_underlying hT, sizeOf, typeInfo, hi, Builtin.lenOf, Builtin.firstCells]
      · simp only [Value.slice.injEq] at hv
        obtain ⟨rfl, _, rfl⟩ := hv
        simp [Builtin.append_, run_underlying hT, sizeOf, typeInfo, hi, Builtin.lenOf, Builtin.firstCells, hnc, storeCells]

theorem wp_append_gen {o : Oper} {a : Act} {K : Act → World → Prop} {Q : Exit → Act → World → Prop} (w : World) (s x : Operand)
    (ho : o.op = .call { callee := .builtin .append, args := #[s, x], argTypes := #[t, t] })
    (B : Nat) (v : Value) (n : Nat) (cs : List Value) (hs : a.eval s = v) (hown : w.ownsRow B e size v n cs) (ad : Option Addr) (m c : Nat) (cs' : List Value) (hx : a.eval x = .slice ad m c) (hl : cs'.length = m * size) (hc : LiesC w ad m cs') (h1 : ∀ u ∈ cs', u.oneCell' = true)
    (hm : n + m ≤ 4194304) (hby : (n + m) * bytes ≤ 140737488355328) (hB : B ≤ w.heap.size)
    (h : ∀ a' c' w', w'.ownsRow B e size (.slice a' (n + m) c') (n + m) (cs ++ cs') → w.grownBy w' v.ownBlock → ((Value.slice a' (n + m) c').ownBlock = v.ownBlock ∨ (Value.slice a' (n + m) c').ownBlock = some w.heap.size) → K (a.put o.dst (.slice a' (n + m) c')) w') : o.wp Try.prog a w K Q := by
  obtain ⟨a', c', w', hr, h2, h3, h4⟩ := run_append_gen hT hI hzs hsz w o.type B v n cs hown ad m c cs' hl hc h1 hm hby hB
  unfold Oper.wp execOp
  simp only [ho, resolve, invoke, builtin, Sem.run_bind, Sem.run_pure, Result.andThen_ok, List.map_toArray, List.map_cons, List.map_nil, hs, hx, hr]
  exact h a' c' w' h2 h3 h4
end

end Go.Proofs.Ytimacbpfnkephaa.Rdr

/- The reader that the drawn laws take their inputs from: what next, below and once leave. -/
namespace Go.Proofs.Ytimacbpfnkephaa.Rdr
open Go.RowKit Go.Deep Go.Maps

/-- what lies in a block -/
def Blk (W : World) (P : Nat) (o : Obj) : Prop := W.heap[P]? = some o
theorem Blk.new (W : World) (o : Obj) : Blk (W.alloc o) W.heap.size o := blk_alloc_new _ _
theorem Blk.lt {W : World} {P : Nat} {o : Obj} (h : Blk W P o) : P < W.heap.size := (Array.getElem?_eq_some_iff.1 h).1
theorem Blk.alloc {W : World} {P : Nat} {o : Obj} (h : Blk W P o) (o' : Obj) : Blk (W.alloc o') P o := (blk_alloc_lt _ _ _ h.lt).trans h
theorem Blk.below {W W' : World} {P : Nat} {o : Obj} (h : Blk W P o) (hb : Below W.heap.size W W') : Blk W' P o := (hb.block P h.lt).trans h
theorem Blk.two {W : World} {P t : Nat} {x y : Value} (h : Blk W P (.cells #[x, y] t)) : W.cell? ⟨P, 0, none⟩ = some x ∧ W.cell? ⟨P, 1, none⟩ = some y := by
  unfold Blk at h
  simp [World.cell?, h]
theorem grown_trans {a b c : World} {P : Nat} {row : Option Nat} (h : a.grownBy b (some P)) (k : b.grownBy c row) (hr : ∀ j, row = some j → a.heap.size ≤ j) : a.grownBy c (some P) :=
  ⟨k.os.trans h.os, k.tape.trans h.tape, k.output.trans h.output, Nat.le_trans h.size k.size, fun j hj hne => (k.block j (Nat.lt_of_lt_of_le hj h.size) (fun e => by have := hr j e.symm; omega)).trans (h.block j hj hne)⟩
theorem grown_set {a b : World} {P : Nat} (h : a.grownBy b (some P)) (i : Nat) (v : Value) : a.grownBy (b.setCell ⟨P, i, none⟩ v) (some P) :=
  ⟨h.os, h.tape, h.output, by rw [nblk_setCell]; exact h.size, fun j hj hne => (blk_setCell_other _ _ _ _ (by dsimp only; intro e; exact hne (by rw [e]))).trans (h.block j hj hne)⟩
theorem grown_refl (a : World) (P : Nat) : a.grownBy a (some P) := ⟨rfl, rfl, rfl, Nat.le_refl _, fun _ _ _ => rfl⟩
theorem Blk.set1 {W : World} {P t : Nat} {x y : Value} (h : Blk W P (.cells #[x, y] t)) (v : Value) : Blk (W.setCell ⟨P, 1, none⟩ v) P (.cells #[x, v] t) := by
  unfold Blk at *
  simp [World.setCell, Array.getElem?_modify, h]
theorem Blk.grown {W W' : World} {P : Nat} {o : Obj} {row : Option Nat} (h : Blk W P o) (hg : W.grownBy W' row) (hne : some P ≠ row) : Blk W' P o := (hg.block P h.lt hne).trans h
theorem Blk.frozen2 {W : World} {P t : Nat} {x y : Value} (h : Blk W P (.cells #[x, y] t)) (i : Nat) : W.frozen? ⟨P, i, none⟩ = false := by
  unfold Blk at h
  simp [World.frozen?, h]
theorem grown_cell {w w' : World} {b : Nat} (hg : w.grownBy w' (some b)) {k o : Nat} (hk : k < w.heap.size) (hne : k ≠ b) : w'.cell? ⟨k, o, none⟩ = w.cell? ⟨k, o, none⟩ :=
  World.cell?_of_block (w := w) (hg.block k hk (fun e => hne (by simpa using e)))

/-- a slice of bytes lies there -/
def BytesAt (w : World) (a : Option Addr) (n : Nat) : Prop :=
  0 < n → ∃ b off, a = some ⟨b, off, none⟩ ∧ b < w.heap.size ∧ ∀ i, i < n → ∃ v : Int, w.cell? ⟨b, off + i, none⟩ = some (.int .u8 v) ∧ 0 ≤ v ∧ v < 256

/-- a reader at block rb over n bytes that were there in w0 -/
structure Rd (w0 w : World) (rb : Nat) (a : Option Addr) (n cap : Nat) : Prop where
  E : Below w0.heap.size w0 w
  le : w0.heap.size ≤ rb
  bytes : BytesAt w0 a n
  hn : n ≤ 1048576
  at' : ∃ p : Nat, p ≤ n ∧ Blk w rb (.cells #[.slice a n cap, .int .i64 p] 62)

theorem Rd.below {w0 w w' : World} {rb : Nat} {a : Option Addr} {n cap : Nat} (h : Rd w0 w rb a n cap) (hb : Below w.heap.size w w') : Rd w0 w' rb a n cap := by
  obtain ⟨E, le, by', hn, p, hp, hB⟩ := h
  exact ⟨E.trans (hb.mono E.size), le, by', hn, p, hp, hB.below hb⟩
theorem Rd.other {w0 w w' : World} {rb P : Nat} {a : Option Addr} {n cap : Nat} (h : Rd w0 w rb a n cap) (hg : w.grownBy w' (some P)) (hP : w0.heap.size ≤ P) (hne : rb ≠ P) : Rd w0 w' rb a n cap := by
  obtain ⟨E, le, by', hn, p, hp, hB⟩ := h
  exact ⟨E.grown hg E.size (fun j e => by cases e; exact hP), le, by', hn, p, hp, hB.grown hg (by simpa using hne)⟩
theorem Rd.drew {w0 w : World} {rb : Nat} {a : Option Addr} {n cap : Nat} (h : Rd w0 w rb a n cap) : Rd w0 w.drew rb a n cap := h.below (Below.refl _ _).drew
theorem Rd.lt {w0 w : World} {rb : Nat} {a : Option Addr} {n cap : Nat} (h : Rd w0 w rb a n cap) : rb < w.heap.size := by
  obtain ⟨_, _, _, _, p, _, hB⟩ := h
  exact hB.lt

theorem grown_pair {a b c : World} {P : Nat} (h : a.grownBy b (some P)) (k : b.grownBy c (some P)) : a.grownBy c (some P) :=
  ⟨k.os.trans h.os, k.tape.trans h.tape, k.output.trans h.output, Nat.le_trans h.size k.size, fun j hj hne => (k.block j (Nat.lt_of_lt_of_le hj h.size) hne).trans (h.block j hj hne)⟩

theorem grown_drew (w : World) (P : Nat) : w.grownBy w.drew (some P) := ⟨rfl, rfl, rfl, Nat.le_refl _, fun _ _ _ => rfl⟩

set_option maxRecDepth 100000 in
set_option maxHeartbeats 1000000 in
theorem next_any (w0 : World) (rb : Nat) (a : Option Addr) (n cap : Nat) (w : World) (h : Rd w0 w rb a n cap) :
    Calls Try.prog 37 #[.pointer (some ⟨rb, 0, none⟩)] w fun e w' => ∃ x : Int, e = .returned (.int .i64 x) ∧ 0 ≤ x ∧ x < 256 ∧ Rd w0 w' rb a n cap ∧ w.grownBy w' (some rb) := by
  obtain ⟨E, le, by', hn, p, hp, hB⟩ := h
  obtain ⟨x1, x2⟩ := hB.two
  have f1 := hB.frozen2 1
  by_cases t : p < n
  · obtain ⟨b, off, rfl, hlt, hc⟩ := by' (by omega)
    obtain ⟨v, hv, v0, v1⟩ := hc p t
    have r1 : w.cell? ⟨b, off + p, none⟩ = some (.int .u8 v) := (E.cell (p := ⟨b, off + p, none⟩) hlt).trans hv
    have hne : b ≠ rb := by omega
    have i0 : (0 : Int) ≤ (p : Int) := by omega
    have i1 : (p : Int) < (n : Int) := by omega
    have HB : Hid (Blk w rb (.cells #[.slice (some ⟨b, off, none⟩) n cap, .int .i64 p] 62)) := hB
    have HBY : Hid (BytesAt w0 (some ⟨b, off, none⟩) n) := by'
    clear hc hv hB by'
    go_enter Try.func37, Try.ntmps37
    go_wp2_with fail
    go_region_held3 (fun w' => w'.cell? ⟨rb, 0, none⟩ = some (.slice (some ⟨b, off, none⟩) n cap) ∧ w'.cell? ⟨rb, 1, none⟩ = some (.int .i64 p)) (go_keep) (fail)
    go_wp2_with fail
    have B2 : Blk (w.setCell ⟨rb, 1, none⟩ (.int .i64 ((p : Int) + 1))).drew rb (.cells #[.slice (some ⟨b, off, none⟩) n cap, .int .i64 ((p : Int) + 1)] 62) := HB.out.set1 _
    have g2 : w.grownBy (w.setCell ⟨rb, 1, none⟩ (.int .i64 ((p : Int) + 1))).drew (some rb) := grown_pair (grown_set (grown_refl _ _) _ _) (grown_drew _ _)
    generalize (w.setCell ⟨rb, 1, none⟩ (.int .i64 ((p : Int) + 1))).drew = W2 at *
    have r2 : W2.cell? ⟨b, off + p, none⟩ = some (.int .u8 v) := (grown_cell g2 (Nat.lt_of_lt_of_le hlt E.size) hne).trans r1
    obtain ⟨y1, y2⟩ := B2.two
    have w1 : IntKind.i64.wrap ((p : Int) + 1 - 1) = (p : Int) := by rw [IntKind.wrap_i64]; omega
    have w2 : IntKind.i64.wrap (p : Int) = (p : Int) := by rw [IntKind.wrap_i64]; omega
    clear x1 x2 f1 r1
    go_region_held3 (fun w' => w'.cell? ⟨rb, 0, none⟩ = some (.slice (some ⟨b, off, none⟩) n cap) ∧ w'.cell? ⟨rb, 1, none⟩ = some (.int .i64 ((p : Int) + 1)) ∧ w'.cell? ⟨b, off + p, none⟩ = some (.int .u8 v)) (go_keep) (fail)
    go_wp2
    go_ret
    refine ⟨_, rfl, ?_, ?_, Rd.drew ⟨E.grown g2 E.size (fun j e => by cases e; exact le), le, HBY.out, hn, p + 1, by omega, by simpa using B2⟩, grown_pair g2 (grown_drew _ _)⟩
    · rw [IntKind.wrap_i64]; omega
    · rw [IntKind.wrap_i64]; omega
  · have e : p = n := by omega
    subst e
    have HB : Hid (Blk w rb (.cells #[.slice a p cap, .int .i64 p] 62)) := hB
    have HBY : Hid (BytesAt w0 a p) := by'
    clear hB by'
    go_enter Try.func37, Try.ntmps37
    go_wp2_with fail
    go_region_held3 (fun w' => w'.cell? ⟨rb, 0, none⟩ = some (.slice a p cap) ∧ w'.cell? ⟨rb, 1, none⟩ = some (.int .i64 p)) (go_keep) (fail)
    go_wp2
    go_ret
    exact ⟨0, rfl, by omega, by omega, Rd.drew ⟨E, le, HBY.out, hn, p, hp, HB.out⟩, grown_drew _ _⟩

set_option maxRecDepth 100000 in
set_option maxHeartbeats 2000000 in
theorem below_any (w0 : World) (rb : Nat) (a : Option Addr) (n cap : Nat) (m : Nat) (w : World) (hm : m ≤ 65536) (h : Rd w0 w rb a n cap) :
    Calls Try.prog 26 #[.pointer (some ⟨rb, 0, none⟩), .int .i64 m] w fun e w' => ∃ x : Nat, e = .returned (.int .i64 x) ∧ x < m + 1 ∧ (1 ≤ m → x < m) ∧ Rd w0 w' rb a n cap ∧ w.grownBy w' (some rb) := by
  have HR : Hid (Rd w0 w rb a n cap) := h
  clear h
  by_cases t : m ≤ 1
  · have t' : (m : Int) ≤ 1 := by omega
    go_enter Try.func26, Try.ntmps26
    go_wp2
    go_ret
    exact ⟨0, rfl, by omega, by omega, HR.out, grown_refl _ _⟩
  · have t' : ¬ (m : Int) ≤ 1 := by omega
    have m0 : (m : Int) ≠ 0 := by omega
    by_cases t2 : m ≤ 256
    · have t2' : (m : Int) ≤ 256 := by omega
      go_enter Try.func26, Try.ntmps26
      go_wp2_with fail
      refine (next_any w0 rb a n cap _ HR.out).mono ?_
      rintro e w1 ⟨x, rfl, x0, x1, R1, g1⟩
      obtain ⟨y, rfl⟩ : ∃ y : Nat, x = y := ⟨x.toNat, by omega⟩
      have HR1 : Hid (Rd w0 w1 rb a n cap) := R1
      clear R1
      go_wp2
      go_ret
      refine ⟨y % m, ret_int ?_, ?_, fun _ => Nat.mod_lt _ (by omega), HR1.out, g1⟩
      · simp
      · have := Nat.mod_lt y (show 0 < m by omega); omega
    · have t2' : ¬ (m : Int) ≤ 256 := by omega
      go_enter Try.func26, Try.ntmps26
      go_wp2_with fail
      refine (next_any w0 rb a n cap _ HR.out).mono ?_
      rintro e w1 ⟨x, rfl, x0, x1, R1, g1⟩
      obtain ⟨y, rfl⟩ : ∃ y : Nat, x = y := ⟨x.toNat, by omega⟩
      have wy : IntKind.i64.wrap ((y : Int) * 256) = (y : Int) * 256 := by rw [IntKind.wrap_i64]; omega
      have HR1 : Hid (Rd w0 w1 rb a n cap) := R1
      clear R1
      go_wp2_with fail
      refine (next_any w0 rb a n cap _ HR1.out).mono ?_
      rintro e w2 ⟨x, rfl, x2, x3, R2, g2⟩
      obtain ⟨z, rfl⟩ : ∃ z : Nat, x = z := ⟨x.toNat, by omega⟩
      have wz : IntKind.i64.wrap ((y : Int) * 256 + (z : Int)) = (y : Int) * 256 + (z : Int) := by rw [IntKind.wrap_i64]; omega
      have yz : (0 : Int) ≤ (y : Int) * 256 + (z : Int) := by omega
      have HR2 : Hid (Rd w0 w2 rb a n cap) := R2
      clear R2
      go_wp2
      go_ret
      refine ⟨(y * 256 + z) % m, ret_int ?_, ?_, fun _ => Nat.mod_lt _ (by omega), HR2.out, grown_pair g1 g2⟩
      · simp
      · have := Nat.mod_lt (y * 256 + z) (show 0 < m by omega); omega

set_option maxRecDepth 100000 in
set_option maxHeartbeats 2000000 in
theorem once_any (w0 : World) (rb : Nat) (a : Option Addr) (n cap : Nat) (m : Nat) (w : World) (hm : m ≤ 65536) (h : Rd w0 w rb a n cap) :
    Calls Try.prog 25 #[.pointer (some ⟨rb, 0, none⟩), .int .i64 m] w fun e w' => ∃ t : Bool, e = .returned (.bool t) ∧ Rd w0 w' rb a n cap ∧ w.grownBy w' (some rb) := by
  have HR : Hid (Rd w0 w rb a n cap) := h
  clear h
  go_enter Try.func25, Try.ntmps25
  go_wp2_with fail
  refine (below_any w0 rb a n cap m _ hm HR.out).mono ?_
  rintro e w1 ⟨x, rfl, _, _, R1, g1⟩
  have HR1 : Hid (Rd w0 w1 rb a n cap) := R1
  have wm : IntKind.i64.wrap ((m : Int) - 1) = (m : Int) - 1 := by rw [IntKind.wrap_i64]; omega
  clear R1
  go_wp2
  go_ret
  exact ⟨_, rfl, HR1.out, g1⟩

set_option maxRecDepth 100000 in
set_option maxHeartbeats 2000000 in
theorem word_any (w0 : World) (rb : Nat) (a : Option Addr) (n cap : Nat) (w : World) (h : Rd w0 w rb a n cap) :
    Calls Try.prog 38 #[.pointer (some ⟨rb, 0, none⟩)] w fun e w' => ∃ x : Int, e = .returned (.int .u64 x) ∧ Rd w0 w' rb a n cap ∧ w.grownBy w' (some rb) := by
  have HR : Hid (Rd w0 w rb a n cap) := h
  clear h
  go_enter Try.func38, Try.ntmps38
  go_wp2
  go_loopw [3, 4] (fun v i wr => ∃ (k : Nat) (x : Int), k ≤ 8 ∧ i = .int .i64 k ∧ v = .int .u64 x ∧ Rd w0 wr rb a n cap ∧ w.grownBy wr (some rb)) (fun _ i _ => 8 - (intOf i).toNat)
  case atStart => exact ⟨0, 0, by omega, rfl, rfl, HR.out, grown_refl _ _⟩
  case round =>
    obtain ⟨k, x, hk, rfl, rfl, R1, g1⟩ := hrel
    have HR1 : Hid (Rd w0 wr rb a n cap) := R1
    clear R1
    by_cases t : k < 8
    · have t' : (k : Int) < 8 := by omega
      go_wp2_with fail
      refine (next_any w0 rb a n cap _ HR1.out).mono ?_
      rintro e w2 ⟨y, rfl, y0, y1, R2, g2⟩
      have HR2 : Hid (Rd w0 w2 rb a n cap) := R2
      clear R2
      go_wp2
      go_roundw
      case rel => exact ⟨k + 1, _, by omega, by go_num, rfl, HR2.out, grown_pair g1 g2⟩
      case measure => simp [intOf]; omega
    · have t' : ¬ (k : Int) < 8 := by omega
      go_wp2
      go_ret
      exact ⟨⟨x, rfl⟩, HR1.out, g1⟩

set_option maxRecDepth 100000 in
set_option maxHeartbeats 2000000 in
theorem near_any (w0 : World) (rb : Nat) (a : Option Addr) (n cap : Nat) (lo hi : Nat) (w : World) (hl : lo ≤ hi) (hh : hi ≤ 1000) (h : Rd w0 w rb a n cap) :
    Calls Try.prog 27 #[.pointer (some ⟨rb, 0, none⟩), .int .i64 lo, .int .i64 hi] w fun e w' => ∃ x : Int, e = .returned (.int .i64 x) ∧ Rd w0 w' rb a n cap ∧ w.grownBy w' (some rb) := by
  have HR : Hid (Rd w0 w rb a n cap) := h
  clear h
  have w1 : IntKind.i64.wrap ((hi : Int) - lo) = (hi : Int) - lo := by rw [IntKind.wrap_i64]; omega
  have w2 : IntKind.i64.wrap ((hi : Int) - lo + 1) = (hi : Int) - lo + 1 := by rw [IntKind.wrap_i64]; omega
  have nl : ¬ (hi : Int) < (lo : Int) := by omega
  go_enter Try.func27, Try.ntmps27
  go_wp2_with fail
  refine (below_any w0 rb a n cap 8 _ (by omega) HR.out).mono ?_
  rintro e u1 ⟨x, rfl, _, x8, R1, g1⟩
  have HR1 : Hid (Rd w0 u1 rb a n cap) := R1
  clear R1
  by_cases t0 : x = 0
  · subst t0
    go_wp2
    go_ret
    exact ⟨_, rfl, HR1.out, g1⟩
  · by_cases t1 : x = 1
    · subst t1
      go_wp2
      go_ret
      exact ⟨_, rfl, HR1.out, g1⟩
    · have t0' : ((x : Int) == 0) = false := by simpa using t0
      have t1' : ((x : Int) == 1) = false := by simp; omega
      go_wp2_with fail
      refine (word_any w0 rb a n cap _ HR1.out).mono ?_
      rintro e u2 ⟨y, rfl, R2, g2⟩
      have HR2 : Hid (Rd w0 u2 rb a n cap) := R2
      clear R2
      have m1 : IntKind.u64.wrap ((hi : Int) - lo + 1) = (hi : Int) - lo + 1 := by rw [IntKind.wrap_u64]; omega
      have m0 : ¬ ((hi : Int) - lo + 1) = 0 := by omega
      go_wp2
      go_ret
      exact ⟨_, rfl, HR2.out, grown_pair g1 g2⟩
end Go.Proofs.Ytimacbpfnkephaa.Rdr

/- Bytes appended to bytes, and their text. -/
namespace Go.Proofs.Ytimacbpfnkephaa.Rdr
open Go Go.RowKit Go.Deep Go.Maps
open Go.WideShapes (add_plain)

theorem size_ofR (l : List UInt8) : (⟨l.toArray⟩ : ByteArray).size = l.length := by simp [ByteArray.size]
theorem Try.info5 : (Try.prog.info? 5).map (fun i => (i.zero, i.size, i.bytes)) = some (some (.int .u8 0), 1, 1) := by kernel_rfl
def bcells (l : List UInt8) : List Value := l.map fun b => Value.int .u8 b.toNat
def OwnB (w : World) (B : Nat) (v : Value) (l : List UInt8) : Prop := w.ownsRow B 5 1 v l.length (bcells l)

theorem one_u8 {w : World} (x : Int) : LiesC (w.alloc (.cells #[.int .u8 x] 5)) (some ⟨w.heap.size, 0, none⟩) 1 [.int .u8 x] := fun _ =>
  ⟨w.heap.size, 0, rfl, by simp, fun j u hu => by
    cases j with
    | zero => simp at hu; subst hu; simp
    | succ j => simp at hu⟩

theorem wpList_append_byte {ops : Array Oper} {rest : List Oper} {o : Oper} {a : Act} {Q : Exit → Act → World → Prop} (w : World) (hgd : o.guard = none) (s x : Operand)
    (ho : o.op = .call { callee := .builtin .append, args := #[s, x], argTypes := #[22, 22] })
    (B : Nat) (v : Value) (l : List UInt8) (hs : a.eval s = v) (hown : OwnB w B v l) (ad : Option Addr) (c : Nat) (b : UInt8) (hx : a.eval x = .slice ad 1 c) (hc : LiesC w ad 1 [.int .u8 b.toNat])
    (hm : l.length ≤ 1000) (hB : B ≤ w.heap.size)
    (h : ∀ g c' w', OwnB w' B (.slice (some ⟨g, 0, none⟩) (l ++ [b]).length c') (l ++ [b]) → w.grownBy w' v.ownBlock → wpList Try.prog ops Q rest (a.put o.dst (.slice (some ⟨g, 0, none⟩) (l ++ [b]).length c')) w') : wpList Try.prog ops Q (o :: rest) a w := by
  refine wpList_plain hgd fun _ hK => wp_append_gen Try.underlying22 Try.info5 rfl (by omega) w s x ho B v l.length _ hs hown ad 1 c [.int .u8 b.toNat] hx (by simp) hc (fun u hu => by simp at hu; subst hu; rfl) (by omega) (by omega) hB fun a' c' w' h2 h3 _ => hK _ _ ?_
  have e1 : bcells l ++ [Value.int .u8 b.toNat] = bcells (l ++ [b]) := by simp [bcells]
  have e2 : l.length + 1 = (l ++ [b]).length := by simp
  rw [e1] at h2
  obtain ⟨g, cap, hv, _, _⟩ := World.ownsRow.form h2 (by omega)
  simp only [Value.slice.injEq] at hv
  obtain ⟨rfl, _, _⟩ := hv
  rw [e2] at h2 ⊢
  exact h g c' w' h2 h3

theorem OwnB.text {w : World} {B g n c : Nat} {l : List UInt8} (h : OwnB w B (.slice (some ⟨g, 0, none⟩) n c) l) (hn : n = l.length) : (convert 22 9 (.slice (some ⟨g, 0, none⟩) n c)).run Try.prog w = .ok (.string ⟨l.toArray⟩) w := by
  subst hn
  refine run_convert_bytes_back (P := Try.prog) w 22 9 5 ⟨g, 0, none⟩ c l Try.underlying22 Try.underlying5 Try.underlying9 fun j hj => ?_
  exact World.ownsRow.cells h (g := g) rfl j _ (by simp [bcells, hj])

theorem bytes_app (a l : List UInt8) : ((⟨a.toArray⟩ : ByteArray) ++ (⟨l.toArray⟩ : ByteArray)) = ⟨(a ++ l).toArray⟩ := by
  apply ByteArray.ext
  apply Array.ext'
  simp

/-- the i-th byte of a number from below -/
def byteOf (n : Int) (i : Nat) : UInt8 := UInt8.ofNat ((n / 2 ^ (8 * i)) % 256).toNat
theorem byteOf_val (n : Int) (i : Nat) : (((byteOf n i).toNat : Nat) : Int) = (n / 2 ^ (8 * i)) % 256 := by
  have h0 : 0 ≤ (n / 2 ^ (8 * i)) % 256 := Int.emod_nonneg _ (by decide)
  have h1 : (n / 2 ^ (8 * i)) % 256 < 256 := Int.emod_lt_of_pos _ (by decide)
  unfold byteOf
  rw [UInt8.toNat_ofNat_of_lt' (by simp [UInt8.size]; omega)]
  omega
/-- m bytes of a number, the highest first -/
def bigL (n : Int) : Nat → List UInt8
  | 0 => []
  | m + 1 => byteOf n m :: bigL n m
theorem bigL_len (n : Int) (m : Nat) : (bigL n m).length = m := by induction m with
  | zero => rfl
  | succ m ih => simp [bigL, ih]
end Go.Proofs.Ytimacbpfnkephaa.Rdr

/- What DrawChecksum draws: some text of a few bytes. -/
namespace Go.Proofs.Ytimacbpfnkephaa.Rdr
open Go Go.RowKit Go.Deep Go.Maps
open Go.WideShapes (add_plain)

theorem l1Open_any (a : Option Addr) (n cap : Nat) (w : World) (hn : n ≤ 1048576) (hb : BytesAt w a n) :
    Calls Try.prog 12 #[.slice a n cap] w fun e w' => ∃ rb, e = .returned (.pointer (some ⟨rb, 0, none⟩)) ∧ Rd w w' rb a n cap := by
  have R : Rd w (w.alloc (.cells #[.slice a n cap, .int .i64 0] 62)) w.heap.size a n cap :=
    ⟨(Below.refl _ w).alloc (Nat.le_refl _) _, Nat.le_refl _, hb, hn, 0, Nat.zero_le _, Blk.new w _⟩
  have HR : Hid (Rd w (w.alloc (.cells #[.slice a n cap, .int .i64 0] 62)) w.heap.size a n cap) := R
  clear R hb
  go_enter Try.func12, Try.ntmps12
  go_wp2
  go_ret
  exact ⟨_, rfl, HR.out⟩

theorem big_any (a : Option Addr) (n cap : Nat) (w : World) : Calls Try.prog 4 #[.slice a n cap] w fun e w' => e = .returned (.bool (decide (1048576 < n))) ∧ w' = w := by
  go_enter Try.func4, Try.ntmps4
  go_wp2
  go_ret
  refine ⟨ret_bool ?_, rfl⟩
  congr 1
  apply propext
  omega
end Go.Proofs.Ytimacbpfnkephaa.Rdr

/- The reader: near and off with greater bounds. -/
namespace Go.Proofs.Ytimacbpfnkephaa.Rdr
open Go.RowKit Go.Deep Go.Maps

/-- within the range of 64 bits -/
def InI (x : Int) : Prop := -9223372036854775808 ≤ x ∧ x < 9223372036854775808
theorem InI.w64 (x : Int) : InI (wrap64 x) := by unfold wrap64 InI; omega
theorem InI.of {x : Int} (h1 : -9223372036854775808 ≤ x) (h2 : x < 9223372036854775808) : InI x := ⟨h1, h2⟩

set_option maxRecDepth 100000 in
set_option maxHeartbeats 2000000 in
theorem near_big (w0 : World) (rb : Nat) (a : Option Addr) (n cap : Nat) (lo hi : Nat) (w : World) (hl : lo ≤ hi) (hh : hi ≤ 1099511627776) (h : Rd w0 w rb a n cap) :
    Calls Try.prog 27 #[.pointer (some ⟨rb, 0, none⟩), .int .i64 lo, .int .i64 hi] w fun e w' => ∃ x : Int, e = .returned (.int .i64 x) ∧ InI x ∧ Rd w0 w' rb a n cap ∧ w.grownBy w' (some rb) := by
  have HR : Hid (Rd w0 w rb a n cap) := h
  clear h
  have w1 : IntKind.i64.wrap ((hi : Int) - lo) = (hi : Int) - lo := by rw [IntKind.wrap_i64]; omega
  have w2 : IntKind.i64.wrap ((hi : Int) - lo + 1) = (hi : Int) - lo + 1 := by rw [IntKind.wrap_i64]; omega
  have nl : ¬ (hi : Int) < (lo : Int) := by omega
  go_enter Try.func27, Try.ntmps27
  go_wp2_with fail
  refine (below_any w0 rb a n cap 8 _ (by omega) HR.out).mono ?_
  rintro e u1 ⟨x, rfl, _, x8, R1, g1⟩
  have HR1 : Hid (Rd w0 u1 rb a n cap) := R1
  clear R1
  by_cases t0 : x = 0
  · subst t0
    go_wp2
    go_ret
    exact ⟨_, rfl, .of (by omega) (by omega), HR1.out, g1⟩
  · by_cases t1 : x = 1
    · subst t1
      go_wp2
      go_ret
      exact ⟨_, rfl, .of (by omega) (by omega), HR1.out, g1⟩
    · have t0' : ((x : Int) == 0) = false := by simpa using t0
      have t1' : ((x : Int) == 1) = false := by simp; omega
      go_wp2_with fail
      refine (word_any w0 rb a n cap _ HR1.out).mono ?_
      rintro e u2 ⟨y, rfl, R2, g2⟩
      have HR2 : Hid (Rd w0 u2 rb a n cap) := R2
      clear R2
      have m1 : IntKind.u64.wrap ((hi : Int) - lo + 1) = (hi : Int) - lo + 1 := by rw [IntKind.wrap_u64]; omega
      have m0 : ¬ ((hi : Int) - lo + 1) = 0 := by omega
      go_wp2
      go_ret
      exact ⟨_, rfl, .w64 _, HR2.out, grown_pair g1 g2⟩

set_option maxRecDepth 100000 in
set_option maxHeartbeats 2000000 in
theorem off_big (w0 : World) (rb : Nat) (a : Option Addr) (n cap : Nat) (lo hi : Nat) (w : World) (hl : lo ≤ hi) (hh : hi ≤ 1099511627776) (h : Rd w0 w rb a n cap) :
    Calls Try.prog 13 #[.pointer (some ⟨rb, 0, none⟩), .int .i64 lo, .int .i64 hi] w fun e w' => ∃ x : Int, e = .returned (.int .i64 x) ∧ InI x ∧ Rd w0 w' rb a n cap ∧ w.grownBy w' (some rb) := by
  have HR : Hid (Rd w0 w rb a n cap) := h
  clear h
  have w1 : IntKind.i64.wrap ((lo : Int) - 1) = (lo : Int) - 1 := by rw [IntKind.wrap_i64]; omega
  have w2 : IntKind.i64.wrap ((hi : Int) + 1) = (hi : Int) + 1 := by rw [IntKind.wrap_i64]; omega
  go_enter Try.func13, Try.ntmps13
  go_wp2_with fail
  refine (once_any w0 rb a n cap 24 _ (by omega) HR.out).mono ?_
  rintro e u1 ⟨t, rfl, R1, g1⟩
  have HR1 : Hid (Rd w0 u1 rb a n cap) := R1
  clear R1
  cases t with
  | true =>
    go_wp2_with fail
    have lr := HR1.out.lt
    refine (below_any w0 rb a n cap 4 _ (by omega) (HR1.out.below ((Below.refl _ _).alloc (Nat.le_refl _) _))).mono ?_
    rintro e u2 ⟨x, rfl, _, x4, R2, g2⟩
    have x4' := x4 (by omega)
    have HR2 : Hid (Rd w0 u2 rb a n cap) := R2
    have gN : w.grownBy u2 (some rb) := grown_pair (grown_trans g1 (World.grownBy_alloc u1 _ none) (fun j e => by cases e)) g2
    have Bk : Blk u2 u1.heap.size (.cells #[.int .i64 ((lo : Int) - 1), .int .i64 ((hi : Int) + 1), .int .i64 (-9223372036854775808), .int .i64 9223372036854775807] 2) := (Blk.new u1 _).grown g2 (by simp; omega)
    unfold Blk at Bk
    have c0 : u2.cell? ⟨u1.heap.size, 0, none⟩ = some (.int .i64 ((lo : Int) - 1)) := by simp [World.cell?, Bk]
    have c1 : u2.cell? ⟨u1.heap.size, 1, none⟩ = some (.int .i64 ((hi : Int) + 1)) := by simp [World.cell?, Bk]
    have c2 : u2.cell? ⟨u1.heap.size, 2, none⟩ = some (.int .i64 (-9223372036854775808)) := by simp [World.cell?, Bk]
    have c3 : u2.cell? ⟨u1.heap.size, 3, none⟩ = some (.int .i64 9223372036854775807) := by simp [World.cell?, Bk]
    clear R2 x4 Bk g2
    have hx : x = 0 ∨ x = 1 ∨ x = 2 ∨ x = 3 := by omega
    rcases hx with rfl | rfl | rfl | rfl
    all_goals
      clear x4'
      go_wp2
      go_ret
      exact ⟨_, rfl, .of (by omega) (by omega), HR2.out, gN⟩
  | false =>
    go_wp2_with fail
    refine (near_big w0 rb a n cap lo hi _ hl hh HR1.out).mono ?_
    rintro e u2 ⟨x, rfl, ix, R2, g2⟩
    have HR2 : Hid (Rd w0 u2 rb a n cap) := R2
    clear R2
    go_wp2
    go_ret
    exact ⟨_, rfl, ix, HR2.out, grown_pair g1 g2⟩
end Go.Proofs.Ytimacbpfnkephaa.Rdr
