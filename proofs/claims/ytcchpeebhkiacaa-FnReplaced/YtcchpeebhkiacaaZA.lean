/- Files and ops as they lie in memory: copies and comparisons. -/
import Derived.Test.YtcchpeebhkiacaaProg
import Derived.WalkKit
import Derived.WalkSpells
import Derived.WalkLawsBesides
import Derived.Below
import Derived.Deep.OwnRows
import Derived.Deep.RegionHeld3
namespace Go.Proofs.Ytcchpeebhkiacaa
open Go.RowKit Go.Deep

theorem ret_bool {a b : Bool} (h : a = b) : Ending.returned (.bool a) = .returned (.bool b) := by rw [h]
theorem ret_int {k : IntKind} {a b : Int} (h : a = b) : Ending.returned (.int k a) = .returned (.int k b) := by rw [h]

theorem bcell {W w1 : World} (hb : Below W.heap.size W w1) : (∀ b o, b < W.heap.size → w1.cell? ⟨b, o, none⟩ = W.cell? ⟨b, o, none⟩) ∧ (∀ b o, b < W.heap.size → w1.frozen? ⟨b, o, none⟩ = W.frozen? ⟨b, o, none⟩) :=
  ⟨fun b o h => hb.cell (p := ⟨b, o, none⟩) h, fun b o h => hb.frozen (p := ⟨b, o, none⟩) h⟩

def inB (x lo hi : Int) : Bool := decide (lo ≤ x) && decide (x ≤ hi)
theorem inB_yes {x lo hi : Int} (h : lo ≤ x) : inB x lo hi = decide (x ≤ hi) := by simp [inB, h]
theorem inB_no {x lo hi : Int} (h : x < lo) : inB x lo hi = false := by simp [inB]; omega

theorem l1In_any (x lo hi : Int) (w : World) :
    Calls Try.prog 56 #[.int .i64 x, .int .i64 lo, .int .i64 hi] w fun e w' => e = .returned (.bool (inB x lo hi)) ∧ w' = w := by
  go_enter Try.func56, Try.ntmps56
  go_wp2
  · go_ret
    exact ⟨ret_bool (inB_yes ‹_›).symm, rfl⟩
  · go_ret
    exact ⟨ret_bool (inB_no ‹_›).symm, rfl⟩

theorem World.rowIs.below {w w' : World} {B b n : Nat} {t : TypeId} {f : Nat → Value} (h : w.rowIs b t n f) (hb : Below B w w') (hB : b < B) : w'.rowIs b t n f :=
  h.of_block (hb.block b hB)
theorem hid {p : Prop} (h : p) : Hid p := h
theorem then_ {w a b : World} (h : Below w.heap.size w a) (k : Below a.heap.size a b) : Below w.heap.size w b := h.trans (k.mono h.size)
/-- what lies in a block -/
def Blk (W : World) (P : Nat) (o : Obj) : Prop := W.heap[P]? = some o
theorem Blk.new (W : World) (o : Obj) : Blk (W.alloc o) W.heap.size o := blk_alloc_new _ _
theorem Blk.lt {W : World} {P : Nat} {o : Obj} (h : Blk W P o) : P < W.heap.size := (Array.getElem?_eq_some_iff.1 h).1
theorem Blk.alloc {W : World} {P : Nat} {o : Obj} (h : Blk W P o) (o' : Obj) : Blk (W.alloc o') P o := (blk_alloc_lt _ _ _ h.lt).trans h
theorem Blk.below {W W' : World} {P : Nat} {o : Obj} (h : Blk W P o) (hb : Below W.heap.size W W') : Blk W' P o := (hb.block P h.lt).trans h
theorem Blk.two {W : World} {P t : Nat} {x y : Value} (h : Blk W P (.cells #[x, y] t)) : W.cell? ⟨P, 0, none⟩ = some x ∧ W.cell? ⟨P, 1, none⟩ = some y := by
  unfold Blk at h
  simp [World.cell?, h]

structure FileV where
  name : ByteArray
  data : ByteArray

def FileV.val (v : FileV) : Value := .agg #[.string (v).name, .string (v).data]
def FileV.z : FileV := ⟨⟨#[]⟩, ⟨#[]⟩⟩
theorem Try.info56 : (Try.prog.info? 56).map (fun i => (i.zero, i.size, i.bytes)) = some (some (.agg #[.string ⟨#[]⟩, .string ⟨#[]⟩]), 2, 32) := by kernel_rfl
theorem run_make_file (n : Nat) (hn : n ≤ 1048576) (w : World) :
    (Instr.makeSlice 24 (.int .i64 (n : Int)) (.int .i64 (n : Int))).run Try.prog w = .ok (.slice (some ⟨w.heap.size, 0, none⟩) n n) (w.alloc (.cells (madeCells #[.string ⟨#[]⟩, .string ⟨#[]⟩] (n * 2)) 56)) := by
  obtain ⟨i, hi, hzz⟩ := Option.map_eq_some_iff.1 Try.info56
  simp only [Prod.mk.injEq] at hzz
  obtain ⟨hz, hs, hb⟩ := hzz
  have hr := run_make (P := Try.prog) w 24 56 i _ Try.underlying24 hi hz .i64 .i64 n n (by omega) (Int.le_refl _) (by rw [hb]; omega) (by omega)
  simp only [Int.toNat_natCast, hs] at hr
  exact hr
def fileCell (f : Nat → FileV) (j : Nat) : Value := if j % 2 = 0 then .string (f (j / 2)).name else .string (f (j / 2)).data
def FilesAt (w : World) (a : Option Addr) (n : Nat) (f : Nat → FileV) : Prop :=
  0 < n → ∃ b off, a = some ⟨b, off, none⟩ ∧ b < w.heap.size ∧ ∀ i, i < n → w.cell? ⟨b, off + i * 2, none⟩ = some (.string (f i).name) ∧ w.cell? ⟨b, off + i * 2 + 1, none⟩ = some (.string (f i).data)
theorem FilesAt.below {w w' : World} {a : Option Addr} {n : Nat} {f : Nat → FileV} (h : FilesAt w a n f) (hb : Below w.heap.size w w') : FilesAt w' a n f := fun hn => by
  obtain ⟨b, off, rfl, hlt, hc⟩ := h hn
  obtain ⟨h1, _⟩ := bcell hb
  exact ⟨b, off, rfl, Nat.lt_of_lt_of_le hlt hb.size, fun i hi => by rw [h1 _ _ hlt, h1 _ _ hlt]; exact hc i hi⟩
theorem FilesAt.row {w : World} {b n : Nat} {f : Nat → FileV} (h : w.rowIs b 56 (n * 2) (fileCell f)) : FilesAt w (some ⟨b, 0, none⟩) n f := fun _ => by
  refine ⟨b, 0, rfl, h.lt, fun i hi => ⟨?_, ?_⟩⟩
  · have := h.cell (i := 0 + i * 2) (by omega)
    rw [this]
    have e1 : (0 + i * 2) % 2 = 0 := by omega
    have e2 : (0 + i * 2) / 2 = i := by omega
    unfold fileCell
    rw [e1, e2]
    rfl
  · have := h.cell (i := 0 + i * 2 + 1) (by omega)
    rw [this]
    have e1 : (0 + i * 2 + 1) % 2 = 1 := by omega
    have e2 : (0 + i * 2 + 1) / 2 = i := by omega
    unfold fileCell
    rw [e1, e2]
    rfl
theorem made_file (w : World) (n : Nat) : (w.alloc (.cells (madeCells #[.string ⟨#[]⟩, .string ⟨#[]⟩] (n * 2)) 56)).rowIs w.heap.size 56 (n * 2) (fileCell (fun _ => FileV.z)) :=
  ⟨_, blk_alloc_new _ _, size_madeCells _ _, fun i hi => by
    have hm : i % 2 = 0 ∨ i % 2 = 1 := by omega
    rcases hm with h | h <;> simp [madeCells, hi, fileCell, FileV.z, h]⟩
def upto_file (k : Nat) (f : Nat → FileV) (i : Nat) : FileV := if i < k then f i else FileV.z
theorem upto_file_zero (f : Nat → FileV) : upto_file 0 f = fun _ => FileV.z := by funext i; simp [upto_file]
theorem upto_file_row {w : World} {b n k : Nat} {f : Nat → FileV} (h : w.rowIs b 56 (n * 2) (fileCell (upto_file k f))) :
    ((w.setCell ⟨b, k * 2, none⟩ (.string (f k).name)).setCell ⟨b, k * 2 + 1, none⟩ (.string (f k).data)).rowIs b 56 (n * 2) (fileCell (upto_file (k + 1) f)) := by
  refine ((h.set (k * 2) _).set (k * 2 + 1) _).congr fun j _ => ?_
  by_cases e1 : j = k * 2 + 1
  · subst e1
    have a1 : (k * 2 + 1) % 2 = 1 := by omega
    have a2 : (k * 2 + 1) / 2 = k := by omega
    simp [fileCell, upto_file, a1, a2]
  by_cases e0 : j = k * 2
  · subst e0
    have a1 : (k * 2) % 2 = 0 := by omega
    have a2 : (k * 2) / 2 = k := by omega
    simp [fileCell, upto_file, a1, a2]
  have a1 : (j / 2 < k + 1) = (j / 2 < k) := by apply propext; omega
  simp [fileCell, upto_file, e0, e1, a1]
theorem upto_file_done {w : World} {b n : Nat} {f : Nat → FileV} (h : w.rowIs b 56 (n * 2) (fileCell (upto_file n f))) : w.rowIs b 56 (n * 2) (fileCell f) :=
  h.congr fun j hj => by have : j / 2 < n := by omega
                         simp [fileCell, upto_file, this]
structure OpV where
  kind : Int
  name : ByteArray
  to : ByteArray
  data : ByteArray

def OpV.val (v : OpV) : Value := .agg #[.int .i64 (v).kind, .string (v).name, .string (v).to, .string (v).data]
def OpV.z : OpV := ⟨0, ⟨#[]⟩, ⟨#[]⟩, ⟨#[]⟩⟩
theorem Try.info36 : (Try.prog.info? 36).map (fun i => (i.zero, i.size, i.bytes)) = some (some (.agg #[.int .i64 0, .string ⟨#[]⟩, .string ⟨#[]⟩, .string ⟨#[]⟩]), 4, 56) := by kernel_rfl
theorem run_make_op (n : Nat) (hn : n ≤ 1048576) (w : World) :
    (Instr.makeSlice 25 (.int .i64 (n : Int)) (.int .i64 (n : Int))).run Try.prog w = .ok (.slice (some ⟨w.heap.size, 0, none⟩) n n) (w.alloc (.cells (madeCells #[.int .i64 0, .string ⟨#[]⟩, .string ⟨#[]⟩, .string ⟨#[]⟩] (n * 4)) 36)) := by
  obtain ⟨i, hi, hzz⟩ := Option.map_eq_some_iff.1 Try.info36
  simp only [Prod.mk.injEq] at hzz
  obtain ⟨hz, hs, hb⟩ := hzz
  have hr := run_make (P := Try.prog) w 25 36 i _ Try.underlying25 hi hz .i64 .i64 n n (by omega) (Int.le_refl _) (by rw [hb]; omega) (by omega)
  simp only [Int.toNat_natCast, hs] at hr
  exact hr
def opCell (f : Nat → OpV) (j : Nat) : Value := if j % 4 = 0 then .int .i64 (f (j / 4)).kind else if j % 4 = 1 then .string (f (j / 4)).name else if j % 4 = 2 then .string (f (j / 4)).to else .string (f (j / 4)).data
def DOpsAt (w : World) (a : Option Addr) (n : Nat) (f : Nat → OpV) : Prop :=
  0 < n → ∃ b off, a = some ⟨b, off, none⟩ ∧ b < w.heap.size ∧ ∀ i, i < n → w.cell? ⟨b, off + i * 4, none⟩ = some (.int .i64 (f i).kind) ∧ w.cell? ⟨b, off + i * 4 + 1, none⟩ = some (.string (f i).name) ∧ w.cell? ⟨b, off + i * 4 + 2, none⟩ = some (.string (f i).to) ∧ w.cell? ⟨b, off + i * 4 + 3, none⟩ = some (.string (f i).data)
theorem DOpsAt.below {w w' : World} {a : Option Addr} {n : Nat} {f : Nat → OpV} (h : DOpsAt w a n f) (hb : Below w.heap.size w w') : DOpsAt w' a n f := fun hn => by
  obtain ⟨b, off, rfl, hlt, hc⟩ := h hn
  obtain ⟨h1, _⟩ := bcell hb
  exact ⟨b, off, rfl, Nat.lt_of_lt_of_le hlt hb.size, fun i hi => by rw [h1 _ _ hlt, h1 _ _ hlt, h1 _ _ hlt, h1 _ _ hlt]; exact hc i hi⟩
theorem DOpsAt.row {w : World} {b n : Nat} {f : Nat → OpV} (h : w.rowIs b 36 (n * 4) (opCell f)) : DOpsAt w (some ⟨b, 0, none⟩) n f := fun _ => by
  refine ⟨b, 0, rfl, h.lt, fun i hi => ⟨?_, ?_, ?_, ?_⟩⟩
  · have := h.cell (i := 0 + i * 4) (by omega)
    rw [this]
    have e1 : (0 + i * 4) % 4 = 0 := by omega
    have e2 : (0 + i * 4) / 4 = i := by omega
    unfold opCell
    rw [e1, e2]
    rfl
  · have := h.cell (i := 0 + i * 4 + 1) (by omega)
    rw [this]
    have e1 : (0 + i * 4 + 1) % 4 = 1 := by omega
    have e2 : (0 + i * 4 + 1) / 4 = i := by omega
    unfold opCell
    rw [e1, e2]
    rfl
  · have := h.cell (i := 0 + i * 4 + 2) (by omega)
    rw [this]
    have e1 : (0 + i * 4 + 2) % 4 = 2 := by omega
    have e2 : (0 + i * 4 + 2) / 4 = i := by omega
    unfold opCell
    rw [e1, e2]
    rfl
  · have := h.cell (i := 0 + i * 4 + 3) (by omega)
    rw [this]
    have e1 : (0 + i * 4 + 3) % 4 = 3 := by omega
    have e2 : (0 + i * 4 + 3) / 4 = i := by omega
    unfold opCell
    rw [e1, e2]
    rfl
theorem made_op (w : World) (n : Nat) : (w.alloc (.cells (madeCells #[.int .i64 0, .string ⟨#[]⟩, .string ⟨#[]⟩, .string ⟨#[]⟩] (n * 4)) 36)).rowIs w.heap.size 36 (n * 4) (opCell (fun _ => OpV.z)) :=
  ⟨_, blk_alloc_new _ _, size_madeCells _ _, fun i hi => by
    have hm : i % 4 = 0 ∨ i % 4 = 1 ∨ i % 4 = 2 ∨ i % 4 = 3 := by omega
    rcases hm with h | h | h | h <;> simp [madeCells, hi, opCell, OpV.z, h]⟩
def upto_op (k : Nat) (f : Nat → OpV) (i : Nat) : OpV := if i < k then f i else OpV.z
theorem upto_op_zero (f : Nat → OpV) : upto_op 0 f = fun _ => OpV.z := by funext i; simp [upto_op]
theorem upto_op_row {w : World} {b n k : Nat} {f : Nat → OpV} (h : w.rowIs b 36 (n * 4) (opCell (upto_op k f))) :
    ((((w.setCell ⟨b, k * 4, none⟩ (.int .i64 (f k).kind)).setCell ⟨b, k * 4 + 1, none⟩ (.string (f k).name)).setCell ⟨b, k * 4 + 2, none⟩ (.string (f k).to)).setCell ⟨b, k * 4 + 3, none⟩ (.string (f k).data)).rowIs b 36 (n * 4) (opCell (upto_op (k + 1) f)) := by
  refine ((((h.set (k * 4) _).set (k * 4 + 1) _).set (k * 4 + 2) _).set (k * 4 + 3) _).congr fun j _ => ?_
  by_cases e3 : j = k * 4 + 3
  · subst e3
    have a1 : (k * 4 + 3) % 4 = 3 := by omega
    have a2 : (k * 4 + 3) / 4 = k := by omega
    simp [opCell, upto_op, a1, a2]
  by_cases e2 : j = k * 4 + 2
  · subst e2
    have a1 : (k * 4 + 2) % 4 = 2 := by omega
    have a2 : (k * 4 + 2) / 4 = k := by omega
    simp [opCell, upto_op, a1, a2]
  by_cases e1 : j = k * 4 + 1
  · subst e1
    have a1 : (k * 4 + 1) % 4 = 1 := by omega
    have a2 : (k * 4 + 1) / 4 = k := by omega
    simp [opCell, upto_op, a1, a2]
  by_cases e0 : j = k * 4
  · subst e0
    have a1 : (k * 4) % 4 = 0 := by omega
    have a2 : (k * 4) / 4 = k := by omega
    simp [opCell, upto_op, a1, a2]
  have a1 : (j / 4 < k + 1) = (j / 4 < k) := by apply propext; omega
  simp [opCell, upto_op, e0, e1, e2, e3, a1]
theorem upto_op_done {w : World} {b n : Nat} {f : Nat → OpV} (h : w.rowIs b 36 (n * 4) (opCell (upto_op n f))) : w.rowIs b 36 (n * 4) (opCell f) :=
  h.congr fun j hj => by have : j / 4 < n := by omega
                         simp [opCell, upto_op, this]
end Go.Proofs.Ytcchpeebhkiacaa
/- Disks as they lie in memory: sizes, copies, comparisons. -/
namespace Go.Proofs.Ytcchpeebhkiacaa
open Go.RowKit Go.Deep

/-- the sum of the first n -/
def tot (g : Nat → Nat) : Nat → Nat
  | 0 => 0
  | n + 1 => tot g n + g n

def FileV.sz (v : FileV) : Nat := v.name.size + v.data.size
def FileV.wf (v : FileV) : Prop := v.name.size ≤ maxLen ∧ v.data.size ≤ maxLen
def OpV.sz (v : OpV) : Nat := v.name.size + v.to.size + v.data.size
def OpV.wf (v : OpV) : Prop := v.name.size ≤ maxLen ∧ v.to.size ≤ maxLen ∧ v.data.size ≤ maxLen
structure FileL where
  a : Option Addr
  n : Nat
  k : Nat
  f : Nat → FileV
structure OpL where
  a : Option Addr
  n : Nat
  k : Nat
  f : Nat → OpV
def FileL.at (w : World) (l : FileL) : Prop := l.n ≤ maxLen ∧ FilesAt w l.a l.n l.f ∧ ∀ i, i < l.n → (l.f i).wf
def OpL.at (w : World) (l : OpL) : Prop := l.n ≤ maxLen ∧ DOpsAt w l.a l.n l.f ∧ ∀ i, i < l.n → (l.f i).wf
def FileL.val (l : FileL) : Value := .slice l.a l.n l.k
def OpL.val (l : OpL) : Value := .slice l.a l.n l.k
theorem FileL.at.below {w w' : World} {l : FileL} (h : l.at w) (hb : Below w.heap.size w w') : l.at w' := ⟨h.1, h.2.1.below hb, h.2.2⟩
theorem OpL.at.below {w w' : World} {l : OpL} (h : l.at w) (hb : Below w.heap.size w w') : l.at w' := ⟨h.1, h.2.1.below hb, h.2.2⟩
/-- a disk as it lies in memory -/
structure DiskV where
  live : FileL
  safe : FileL
  ops : OpL
def DiskV.val (d : DiskV) : Value := .agg #[.slice d.live.a d.live.n d.live.k, .slice d.safe.a d.safe.n d.safe.k, .slice d.ops.a d.ops.n d.ops.k]
def DiskV.at (w : World) (d : DiskV) : Prop := d.live.at w ∧ d.safe.at w ∧ d.ops.at w
theorem DiskV.at.below {w w' : World} {d : DiskV} (h : d.at w) (hb : Below w.heap.size w w') : d.at w' := ⟨FileL.at.below h.1 hb, FileL.at.below h.2.1 hb, OpL.at.below h.2.2 hb⟩
/-- how much stands in a disk -/
def DiskV.sz (d : DiskV) : Nat := (d.live.n + tot (fun i => (d.live.f i).sz) d.live.n) + (d.safe.n + tot (fun i => (d.safe.f i).sz) d.safe.n) + (d.ops.n + tot (fun i => (d.ops.f i).sz) d.ops.n)
theorem Blk.three {W : World} {P t : Nat} {x y z : Value} (h : Blk W P (.cells #[x, y, z] t)) : W.cell? ⟨P, 0, none⟩ = some x ∧ W.cell? ⟨P, 1, none⟩ = some y ∧ W.cell? ⟨P, 2, none⟩ = some z := by
  unfold Blk at h
  simp [World.cell?, h]

def DiskV.small (d : DiskV) : Prop := d.live.n ≤ 1048576 ∧ d.safe.n ≤ 1048576 ∧ d.ops.n ≤ 1048576
theorem DiskV.small_of {d : DiskV} (h : d.sz ≤ 1048576) : d.small := by
  unfold DiskV.sz at h
  exact ⟨by omega, by omega, by omega⟩
/-- the same disk, in rows of its own -/
def DiskV.row (w : World) (d : DiskV) (x y z : Nat) : Prop := w.rowIs x 56 (d.live.n * 2) (fileCell d.live.f) ∧ w.rowIs y 56 (d.safe.n * 2) (fileCell d.safe.f) ∧ w.rowIs z 36 (d.ops.n * 4) (opCell d.ops.f)
def DiskV.own (d : DiskV) (x y z : Nat) : DiskV := ⟨⟨some ⟨x, 0, none⟩, d.live.n, d.live.n, d.live.f⟩, ⟨some ⟨y, 0, none⟩, d.safe.n, d.safe.n, d.safe.f⟩, ⟨some ⟨z, 0, none⟩, d.ops.n, d.ops.n, d.ops.f⟩⟩
theorem rowUp {w w' : World} {b ty N : Nat} {G : Nat → Value} (h : w.rowIs b ty N G) (hb : Below w.heap.size w w') : w'.rowIs b ty N G := h.of_block (hb.block b h.lt)
theorem DiskV.row.below {w w' : World} {d : DiskV} {x y z : Nat} (h : d.row w x y z) (hb : Below w.heap.size w w') : d.row w' x y z := ⟨rowUp h.1 hb, rowUp h.2.1 hb, rowUp h.2.2 hb⟩
theorem DiskV.row.at {w v : World} {d : DiskV} {x y z : Nat} (h : d.row w x y z) (hd : d.at v) : (d.own x y z).at w :=
  ⟨⟨hd.1.1, FilesAt.row h.1, hd.1.2.2⟩, ⟨hd.2.1.1, FilesAt.row h.2.1, hd.2.1.2.2⟩, ⟨hd.2.2.1, DOpsAt.row h.2.2, hd.2.2.2.2⟩⟩
end Go.Proofs.Ytcchpeebhkiacaa
/- Disks: their copies and comparisons. -/
namespace Go.Proofs.Ytcchpeebhkiacaa
open Go.RowKit Go.Deep

theorem Blk.setAt {W : World} {P t i : Nat} {cs : Array Value} (h : Blk W P (.cells cs t)) (v : Value) : Blk (W.setCell ⟨P, i, none⟩ v) P (.cells (cs.setIfInBounds i v) t) := by
  unfold Blk at *
  simp [World.setCell, Array.getElem?_modify, h]
theorem Blk.warm {W : World} {P t : Nat} {cs : Array Value} (h : Blk W P (.cells cs t)) (i : Nat) : W.frozen? ⟨P, i, none⟩ = false := by
  unfold Blk at h
  simp [World.frozen?, h]
theorem Blk.other {W : World} {P Q i : Nat} {o : Obj} (h : Blk W P o) (hne : Q ≠ P) (v : Value) : Blk (W.setCell ⟨Q, i, none⟩ v) P o := by
  unfold Blk at *
  simp [World.setCell, Array.getElem?_modify, h, hne]
end Go.Proofs.Ytcchpeebhkiacaa
