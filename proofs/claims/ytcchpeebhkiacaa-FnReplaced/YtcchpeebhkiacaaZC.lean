/- Texts of marks. -/
import Derived.Test.YtcchpeebhkiacaaZA
import Derived.Laws.IdiomStrings
import Derived.Laws.AppendOwn
namespace Go.Proofs.Ytcchpeebhkiacaa
open Go.RowKit Go.Deep

set_option maxRecDepth 100000 in
theorem one_byte (w : World) (x : Int) (h0 : 0 ≤ x) (h1 : x < 256) :
    (convert 22 9 (Value.slice (some ⟨w.heap.size, 0, none⟩) 1 1)).run Try.prog (w.alloc (.cells #[.int .u8 x] 5)) = .ok (.string ⟨#[UInt8.ofNat x.toNat]⟩) (w.alloc (.cells #[.int .u8 x] 5)) := by
  refine run_convert_bytes_back (P := Try.prog) (w.alloc (.cells #[.int .u8 x] 5)) 22 9 5 ⟨w.heap.size, 0, none⟩ 1 [UInt8.ofNat x.toNat] Try.underlying22 Try.underlying5 Try.underlying9 fun j hj => ?_
  obtain rfl : j = 0 := by simpa using hj
  have e : (((UInt8.ofNat x.toNat).toNat : Nat) : Int) = x := by
    rw [UInt8.toNat_ofNat_of_lt' (by simp [UInt8.size]; omega)]
    omega
  simp only [List.getElem_cons_zero, e]
  simp [Addr.add]
theorem bytes_cons (b : UInt8) (l : List UInt8) : ((⟨#[b]⟩ : ByteArray) ++ (⟨l.toArray⟩ : ByteArray)) = ⟨(b :: l).toArray⟩ := by
  apply ByteArray.ext
  apply Array.ext'
  simp

/-- the digits of a number, none of 0 -/
def digs (n : Nat) : List UInt8 := if _h : n = 0 then [] else digs (n / 10) ++ [UInt8.ofNat (48 + n % 10)]
termination_by n
decreasing_by omega
theorem digs_zero : digs 0 = [] := by rw [digs, dif_pos rfl]
theorem digs_pos {n : Nat} (h : ¬ n = 0) : digs n = digs (n / 10) ++ [UInt8.ofNat (48 + n % 10)] := by rw [digs, dif_neg h]
theorem digs_len (n : Nat) : (digs n).length ≤ n := by
  induction n using Nat.strongRecOn with
  | _ n ih =>
    by_cases h : n = 0
    · subst h; rw [digs_zero]; simp
    · rw [digs_pos h, List.length_append]
      have := ih (n / 10) (by omega)
      simp
      omega

end Go.Proofs.Ytcchpeebhkiacaa
/- Marks in lists of files and ops. -/
namespace Go.Proofs.Ytcchpeebhkiacaa
open Go Go.RowKit Go.Deep Go.Maps

def mkT (n : Nat) : ByteArray := ⟨(109 :: digs n).toArray⟩
theorem grown_of_below' {w w' : World} (r : Option Nat) (h : Below w.heap.size w w') : w.grownBy w' r := ⟨h.os, h.tape, h.output, h.size, fun k hk _ => h.block k hk⟩
theorem grownBy_trans {a b c : World} {r : Option Nat} (h : a.grownBy b r) (k : b.grownBy c r) : a.grownBy c r :=
  ⟨k.os.trans h.os, k.tape.trans h.tape, k.output.trans h.output, Nat.le_trans h.size k.size, fun i hi hne => (k.block i (Nat.lt_of_lt_of_le hi h.size) hne).trans (h.block i hi hne)⟩
theorem grownBy_set {a b : World} {x i : Nat} (h : a.grownBy b (some x)) (v : Value) : a.grownBy (b.setCell ⟨x, i, none⟩ v) (some x) :=
  ⟨h.os, h.tape, h.output, by rw [nblk_setCell]; exact h.size, fun k hk hn => (blk_setCell_other _ _ _ _ (by dsimp only; exact fun e => hn (by rw [e]))).trans (h.block k hk hn)⟩

def markFile (k0 i : Nat) : FileV := ⟨mkT (k0 + 2 * i), mkT (k0 + 2 * i + 1)⟩
/-- a slice that begins a row -/
def RowFile (w : World) (v : Value) (n : Nat) : Prop := (n = 0 ∧ ∃ c, v = .slice none 0 c) ∨ ∃ b cap N F, v = .slice (some ⟨b, 0, none⟩) n cap ∧ w.rowIs b 56 N F ∧ n * 2 ≤ N
def AtFile (w : World) (v : Value) (n : Nat) (f : Nat → FileV) : Prop := ∃ a c, v = .slice a n c ∧ FilesAt w a n f
theorem AtFile.of_row {w : World} {b n cap N k0 : Nat} {F : Nat → Value} (h : w.rowIs b 56 N F) (hn : n * 2 ≤ N) (hF : ∀ i, i < n → F (i * 2) = .string (mkT (k0 + 2 * i)) ∧ F (i * 2 + 1) = .string (mkT (k0 + 2 * i + 1))) : AtFile w (.slice (some ⟨b, 0, none⟩) n cap) n (markFile k0) :=
  ⟨_, _, rfl, fun _ => ⟨b, 0, rfl, h.lt, fun i hi => by
    obtain ⟨h0, h1⟩ := hF i hi
    have g0 := h.cell (i := i * 2) (by omega)
    rw [h0] at g0
    have g1 := h.cell (i := i * 2 + 1) (by omega)
    rw [h1] at g1
    simp only [Nat.zero_add]
    exact ⟨g0, g1⟩⟩⟩
theorem RowFile.kept {w w' : World} {v : Value} {n : Nat} {r : Option Nat} (h : RowFile w v n) (hg : w.grownBy w' r) (hne : v.ownBlock = none ∨ v.ownBlock ≠ r) : RowFile w' v n := by
  rcases h with h | ⟨b, cap, N, F, rfl, h, hn⟩
  · exact .inl h
  · refine .inr ⟨b, cap, N, F, rfl, h.of_block (hg.block b h.lt (fun e => ?_)), hn⟩
    rcases hne with hne | hne
    · cases hne
    · exact hne e
theorem AtFile.kept {w w' : World} {v : Value} {n : Nat} {f : Nat → FileV} {r : Option Nat} (h : AtFile w v n f) (hg : w.grownBy w' r) (hne : v.ownBlock = none ∨ v.ownBlock ≠ r) : AtFile w' v n f := by
  obtain ⟨a, c, rfl, h⟩ := h
  refine ⟨a, c, rfl, fun hn => ?_⟩
  obtain ⟨b, off, rfl, hlt, hc⟩ := h hn
  have e : w'.heap[b]? = w.heap[b]? := hg.block b hlt (fun e => by
    rcases hne with hne | hne
    · cases hne
    · exact hne e)
  have hcell : ∀ o, w'.cell? ⟨b, o, none⟩ = w.cell? ⟨b, o, none⟩ := fun o => World.cell?_of_block (a := ⟨b, o, none⟩) e
  exact ⟨b, off, rfl, Nat.lt_of_lt_of_le hlt hg.size, fun i hi => by simp only [hcell]; exact hc i hi⟩

def markOp (k0 i : Nat) : OpV := ⟨((k0 + 4 * i) : Nat), mkT (k0 + 4 * i + 1), mkT (k0 + 4 * i + 2), mkT (k0 + 4 * i + 3)⟩
/-- a slice that begins a row -/
def RowOp (w : World) (v : Value) (n : Nat) : Prop := (n = 0 ∧ ∃ c, v = .slice none 0 c) ∨ ∃ b cap N F, v = .slice (some ⟨b, 0, none⟩) n cap ∧ w.rowIs b 36 N F ∧ n * 4 ≤ N
def AtOp (w : World) (v : Value) (n : Nat) (f : Nat → OpV) : Prop := ∃ a c, v = .slice a n c ∧ DOpsAt w a n f
theorem AtOp.of_row {w : World} {b n cap N k0 : Nat} {F : Nat → Value} (h : w.rowIs b 36 N F) (hn : n * 4 ≤ N) (hF : ∀ i, i < n → F (i * 4) = .int .i64 ((k0 + 4 * i) : Nat) ∧ F (i * 4 + 1) = .string (mkT (k0 + 4 * i + 1)) ∧ F (i * 4 + 2) = .string (mkT (k0 + 4 * i + 2)) ∧ F (i * 4 + 3) = .string (mkT (k0 + 4 * i + 3))) : AtOp w (.slice (some ⟨b, 0, none⟩) n cap) n (markOp k0) :=
  ⟨_, _, rfl, fun _ => ⟨b, 0, rfl, h.lt, fun i hi => by
    obtain ⟨h0, h1, h2, h3⟩ := hF i hi
    have g0 := h.cell (i := i * 4) (by omega)
    rw [h0] at g0
    have g1 := h.cell (i := i * 4 + 1) (by omega)
    rw [h1] at g1
    have g2 := h.cell (i := i * 4 + 2) (by omega)
    rw [h2] at g2
    have g3 := h.cell (i := i * 4 + 3) (by omega)
    rw [h3] at g3
    simp only [Nat.zero_add]
    exact ⟨g0, g1, g2, g3⟩⟩⟩
theorem RowOp.kept {w w' : World} {v : Value} {n : Nat} {r : Option Nat} (h : RowOp w v n) (hg : w.grownBy w' r) (hne : v.ownBlock = none ∨ v.ownBlock ≠ r) : RowOp w' v n := by
  rcases h with h | ⟨b, cap, N, F, rfl, h, hn⟩
  · exact .inl h
  · refine .inr ⟨b, cap, N, F, rfl, h.of_block (hg.block b h.lt (fun e => ?_)), hn⟩
    rcases hne with hne | hne
    · cases hne
    · exact hne e
theorem AtOp.kept {w w' : World} {v : Value} {n : Nat} {f : Nat → OpV} {r : Option Nat} (h : AtOp w v n f) (hg : w.grownBy w' r) (hne : v.ownBlock = none ∨ v.ownBlock ≠ r) : AtOp w' v n f := by
  obtain ⟨a, c, rfl, h⟩ := h
  refine ⟨a, c, rfl, fun hn => ?_⟩
  obtain ⟨b, off, rfl, hlt, hc⟩ := h hn
  have e : w'.heap[b]? = w.heap[b]? := hg.block b hlt (fun e => by
    rcases hne with hne | hne
    · cases hne
    · exact hne e)
  have hcell : ∀ o, w'.cell? ⟨b, o, none⟩ = w.cell? ⟨b, o, none⟩ := fun o => World.cell?_of_block (a := ⟨b, o, none⟩) e
  exact ⟨b, off, rfl, Nat.lt_of_lt_of_le hlt hg.size, fun i hi => by simp only [hcell]; exact hc i hi⟩

end Go.Proofs.Ytcchpeebhkiacaa
/- Marks in disks; two disks of the same content are the same. -/
namespace Go.Proofs.Ytcchpeebhkiacaa
open Go Go.RowKit Go.Deep Go.Maps

theorem RowFile.block {w : World} {v : Value} {n b : Nat} (h : RowFile w v n) (hb : v.ownBlock = some b) : ∃ cur, w.heap[b]? = some (.cells cur 56 (0, 0)) := by
  rcases h with ⟨_, c, rfl⟩ | ⟨b', cap, N, F, rfl, ⟨cur, h, _⟩, _⟩
  · cases hb
  · have e : b' = b := by simpa [Value.ownBlock] using hb
    exact ⟨cur, e ▸ h⟩
theorem RowOp.block {w : World} {v : Value} {n b : Nat} (h : RowOp w v n) (hb : v.ownBlock = some b) : ∃ cur, w.heap[b]? = some (.cells cur 36 (0, 0)) := by
  rcases h with ⟨_, c, rfl⟩ | ⟨b', cap, N, F, rfl, ⟨cur, h, _⟩, _⟩
  · cases hb
  · have e : b' = b := by simpa [Value.ownBlock] using hb
    exact ⟨cur, e ▸ h⟩
theorem rows_apart {w : World} {v u : Value} {n m : Nat} (h : RowFile w v n) (k : RowOp w u m) : v.ownBlock = none ∨ v.ownBlock ≠ u.ownBlock := by
  cases hv : v.ownBlock with
  | none => exact .inl rfl
  | some b =>
    refine .inr (fun e => ?_)
    obtain ⟨c1, h1⟩ := h.block hv
    obtain ⟨c2, h2⟩ := k.block e.symm
    rw [h1] at h2
    simp at h2
theorem apart_symm {a b : Option Nat} (h : a = none ∨ a ≠ b) : b = none ∨ b ≠ a := by
  cases b with
  | none => exact .inl rfl
  | some x =>
    rcases h with h | h
    · subst h; exact .inr (fun e => by cases e)
    · exact .inr (fun e => h e.symm)
/-- only blocks from lo below hi were written -/
structure Mk (lo hi : Nat) (w w' : World) : Prop where
  os : w'.os = w.os
  tape : w'.tape = w.tape
  output : w'.output = w.output
  size : w.heap.size ≤ w'.heap.size
  block : ∀ k, k < w.heap.size → (k < lo ∨ hi ≤ k) → w'.heap[k]? = w.heap[k]?
theorem Mk.of_grown {lo hi : Nat} {w w' : World} {r : Option Nat} (h : w.grownBy w' r) (hr : ∀ b, r = some b → lo ≤ b ∧ b < hi) : Mk lo hi w w' :=
  ⟨h.os, h.tape, h.output, h.size, fun k hk hn => h.block k hk (fun e => by have := hr k e.symm; omega)⟩
theorem Mk.of_below {lo hi : Nat} {w w' : World} (h : Below w.heap.size w w') : Mk lo hi w w' := ⟨h.os, h.tape, h.output, h.size, fun k hk _ => h.block k hk⟩
theorem Mk.trans {lo hi : Nat} {a b c : World} (h : Mk lo hi a b) (k : Mk lo hi b c) : Mk lo hi a c :=
  ⟨k.os.trans h.os, k.tape.trans h.tape, k.output.trans h.output, Nat.le_trans h.size k.size, fun i hi hn => (k.block i (Nat.lt_of_lt_of_le hi h.size) hn).trans (h.block i hi hn)⟩
theorem Mk.below {lo hi B : Nat} {w w' : World} (h : Mk lo hi w w') (hB : B ≤ lo) (hs : B ≤ w.heap.size) : Below B w w' := ⟨h.os, h.tape, h.output, h.size, fun k hk => h.block k (Nat.lt_of_lt_of_le hk hs) (.inl (Nat.lt_of_lt_of_le hk hB))⟩
/-- the three lists of a disk, each a row of its own in lo .. hi -/
structure RowD (w : World) (lo hi : Nat) (vl vs vo : Value) (nl ns no : Nat) : Prop where
  l : RowFile w vl nl
  s : RowFile w vs ns
  o : RowOp w vo no
  ap : vl.ownBlock = none ∨ vl.ownBlock ≠ vs.ownBlock
  inl : ∀ b, vl.ownBlock = some b → lo ≤ b ∧ b < hi
  ins : ∀ b, vs.ownBlock = some b → lo ≤ b ∧ b < hi
  ino : ∀ b, vo.ownBlock = some b → lo ≤ b ∧ b < hi
theorem RowD.below {w w' : World} {lo hi : Nat} {vl vs vo : Value} {nl ns no : Nat} (h : RowD w lo hi vl vs vo nl ns no) (hb : Below w.heap.size w w') : RowD w' lo hi vl vs vo nl ns no :=
  ⟨h.l.kept (grown_of_below' none hb) (by cases vl.ownBlock <;> simp), h.s.kept (grown_of_below' none hb) (by cases vs.ownBlock <;> simp), h.o.kept (grown_of_below' none hb) (by cases vo.ownBlock <;> simp), h.ap, h.inl, h.ins, h.ino⟩
/-- what a disk's value holds -/
def DAt (w : World) (vl vs vo : Value) (nl ns no : Nat) (fl fs : Nat → FileV) (fo : Nat → OpV) : Prop := AtFile w vl nl fl ∧ AtFile w vs ns fs ∧ AtOp w vo no fo
theorem AtFile.below {w w' : World} {v : Value} {n : Nat} {f : Nat → FileV} (h : AtFile w v n f) (hb : Below w.heap.size w w') : AtFile w' v n f := h.kept (grown_of_below' none hb) (by cases v.ownBlock <;> simp)
theorem AtOp.below {w w' : World} {v : Value} {n : Nat} {f : Nat → OpV} (h : AtOp w v n f) (hb : Below w.heap.size w w') : AtOp w' v n f := h.kept (grown_of_below' none hb) (by cases v.ownBlock <;> simp)
theorem DAt.below {w w' : World} {vl vs vo : Value} {nl ns no : Nat} {fl fs : Nat → FileV} {fo : Nat → OpV} (h : DAt w vl vs vo nl ns no fl fs fo) (hb : Below w.heap.size w w') : DAt w' vl vs vo nl ns no fl fs fo := ⟨h.1.below hb, h.2.1.below hb, h.2.2.below hb⟩
theorem AtFile.mk {lo hi : Nat} {w w' : World} {v : Value} {n : Nat} {f : Nat → FileV} (h : AtFile w v n f) (hm : Mk lo hi w w') (hne : 0 < n → ∀ b, v.ownBlock = some b → b < lo ∨ hi ≤ b) : AtFile w' v n f := by
  obtain ⟨a, c, rfl, h⟩ := h
  refine ⟨a, c, rfl, fun hn => ?_⟩
  obtain ⟨b, off, rfl, hlt, hc⟩ := h hn
  have e : w'.heap[b]? = w.heap[b]? := hm.block b hlt (hne hn b rfl)
  have hcell : ∀ o, w'.cell? ⟨b, o, none⟩ = w.cell? ⟨b, o, none⟩ := fun o => World.cell?_of_block (a := ⟨b, o, none⟩) e
  exact ⟨b, off, rfl, Nat.lt_of_lt_of_le hlt hm.size, fun i hi => by simp only [hcell]; exact hc i hi⟩
theorem AtOp.mk {lo hi : Nat} {w w' : World} {v : Value} {n : Nat} {f : Nat → OpV} (h : AtOp w v n f) (hm : Mk lo hi w w') (hne : 0 < n → ∀ b, v.ownBlock = some b → b < lo ∨ hi ≤ b) : AtOp w' v n f := by
  obtain ⟨a, c, rfl, h⟩ := h
  refine ⟨a, c, rfl, fun hn => ?_⟩
  obtain ⟨b, off, rfl, hlt, hc⟩ := h hn
  have e : w'.heap[b]? = w.heap[b]? := hm.block b hlt (hne hn b rfl)
  have hcell : ∀ o, w'.cell? ⟨b, o, none⟩ = w.cell? ⟨b, o, none⟩ := fun o => World.cell?_of_block (a := ⟨b, o, none⟩) e
  exact ⟨b, off, rfl, Nat.lt_of_lt_of_le hlt hm.size, fun i hi => by simp only [hcell]; exact hc i hi⟩
/-- marks elsewhere leave a disk as it is -/
theorem DAt.mk {lo hi : Nat} {w w' : World} {vl vs vo : Value} {nl ns no : Nat} {fl fs : Nat → FileV} {fo : Nat → OpV} (h : DAt w vl vs vo nl ns no fl fs fo) (hm : Mk lo hi w w')
    (h1 : 0 < nl → ∀ b, vl.ownBlock = some b → b < lo ∨ hi ≤ b) (h2 : 0 < ns → ∀ b, vs.ownBlock = some b → b < lo ∨ hi ≤ b) (h3 : 0 < no → ∀ b, vo.ownBlock = some b → b < lo ∨ hi ≤ b) : DAt w' vl vs vo nl ns no fl fs fo :=
  ⟨h.1.mk hm h1, h.2.1.mk hm h2, h.2.2.mk hm h3⟩
theorem AtFile.low {w : World} {v : Value} {n : Nat} {f : Nat → FileV} (h : AtFile w v n f) : 0 < n → ∀ b, v.ownBlock = some b → b < w.heap.size := fun hn b hb => by
  obtain ⟨a, c, rfl, h⟩ := h
  obtain ⟨b', off, rfl, hlt, _⟩ := h hn
  have e : b' = b := by simpa [Value.ownBlock] using hb
  exact e ▸ hlt
theorem AtOp.low {w : World} {v : Value} {n : Nat} {f : Nat → OpV} (h : AtOp w v n f) : 0 < n → ∀ b, v.ownBlock = some b → b < w.heap.size := fun hn b hb => by
  obtain ⟨a, c, rfl, h⟩ := h
  obtain ⟨b', off, rfl, hlt, _⟩ := h hn
  have e : b' = b := by simpa [Value.ownBlock] using hb
  exact e ▸ hlt
/-- a disk's lists lie below P -/
def LowD (P : Nat) (vl vs vo : Value) (nl ns no : Nat) : Prop := (0 < nl → ∀ b, vl.ownBlock = some b → b < P) ∧ (0 < ns → ∀ b, vs.ownBlock = some b → b < P) ∧ (0 < no → ∀ b, vo.ownBlock = some b → b < P)
theorem DAt.low {w : World} {vl vs vo : Value} {nl ns no : Nat} {fl fs : Nat → FileV} {fo : Nat → OpV} (h : DAt w vl vs vo nl ns no fl fs fo) : LowD w.heap.size vl vs vo nl ns no := ⟨h.1.low, h.2.1.low, h.2.2.low⟩
theorem DAt.under {lo hi P : Nat} {w w' : World} {vl vs vo : Value} {nl ns no : Nat} {fl fs : Nat → FileV} {fo : Nat → OpV} (h : DAt w vl vs vo nl ns no fl fs fo) (hm : Mk lo hi w w') (hl : LowD P vl vs vo nl ns no) (hP : P ≤ lo) : DAt w' vl vs vo nl ns no fl fs fo :=
  h.mk hm (fun hn b hb => .inl (Nat.lt_of_lt_of_le (hl.1 hn b hb) hP)) (fun hn b hb => .inl (Nat.lt_of_lt_of_le (hl.2.1 hn b hb) hP)) (fun hn b hb => .inl (Nat.lt_of_lt_of_le (hl.2.2 hn b hb) hP))
theorem DAt.over {lo hi lo' hi' : Nat} {w w' W : World} {vl vs vo : Value} {nl ns no : Nat} {fl fs : Nat → FileV} {fo : Nat → OpV} (h : DAt w vl vs vo nl ns no fl fs fo) (hm : Mk lo hi w w') (hr : RowD W lo' hi' vl vs vo nl ns no) (hP : hi ≤ lo') : DAt w' vl vs vo nl ns no fl fs fo :=
  h.mk hm (fun _ b hb => .inr (Nat.le_trans hP (hr.inl b hb).1)) (fun _ b hb => .inr (Nat.le_trans hP (hr.ins b hb).1)) (fun _ b hb => .inr (Nat.le_trans hP (hr.ino b hb).1))
theorem RowFile.mk {lo hi : Nat} {w w' : World} {v : Value} {n : Nat} (h : RowFile w v n) (hm : Mk lo hi w w') (hne : ∀ b, v.ownBlock = some b → b < lo ∨ hi ≤ b) : RowFile w' v n := by
  rcases h with h | ⟨b, cap, N, F, rfl, h, hn⟩
  · exact .inl h
  · exact .inr ⟨b, cap, N, F, rfl, h.of_block (hm.block b h.lt (hne b rfl)), hn⟩
theorem RowOp.mk {lo hi : Nat} {w w' : World} {v : Value} {n : Nat} (h : RowOp w v n) (hm : Mk lo hi w w') (hne : ∀ b, v.ownBlock = some b → b < lo ∨ hi ≤ b) : RowOp w' v n := by
  rcases h with h | ⟨b, cap, N, F, rfl, h, hn⟩
  · exact .inl h
  · exact .inr ⟨b, cap, N, F, rfl, h.of_block (hm.block b h.lt (hne b rfl)), hn⟩
theorem RowD.mark {lo hi lo' hi' : Nat} {w w' : World} {vl vs vo : Value} {nl ns no : Nat} (h : RowD w lo' hi' vl vs vo nl ns no) (hm : Mk lo hi w w') (hd : hi ≤ lo' ∨ hi' ≤ lo) : RowD w' lo' hi' vl vs vo nl ns no :=
  ⟨h.l.mk hm (fun b hb => by have := h.inl b hb; omega), h.s.mk hm (fun b hb => by have := h.ins b hb; omega), h.o.mk hm (fun b hb => by have := h.ino b hb; omega), h.ap, h.inl, h.ins, h.ino⟩
theorem Blk.mk {lo hi : Nat} {w w' : World} {P : Nat} {o : Obj} (h : Blk w P o) (hm : Mk lo hi w w') (hP : P < lo ∨ hi ≤ P) : Blk w' P o := (hm.block P h.lt hP).trans h

/-- what marks from k0 on lie in a disk -/
def Marked (w : World) (vl vs vo : Value) (nl ns no k0 : Nat) : Prop := AtFile w vl nl (markFile k0) ∧ AtFile w vs ns (markFile (k0 + 2 * nl)) ∧ AtOp w vo no (markOp (k0 + 2 * nl + 2 * ns))
theorem Marked.below {w w' : World} {vl vs vo : Value} {nl ns no k0 : Nat} (h : Marked w vl vs vo nl ns no k0) (hb : Below w.heap.size w w') : Marked w' vl vs vo nl ns no k0 := ⟨h.1.below hb, h.2.1.below hb, h.2.2.below hb⟩
theorem own_none {v : Value} : v.ownBlock = none ∨ v.ownBlock ≠ none := by cases v.ownBlock <;> simp

end Go.Proofs.Ytcchpeebhkiacaa
