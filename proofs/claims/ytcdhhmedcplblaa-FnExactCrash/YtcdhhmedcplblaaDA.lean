/- Files and ops as they lie in memory: copies and comparisons. -/
import Derived.Test.YtcdhhmedcplblaaProg
import Derived.WalkKit
import Derived.WalkSpells
import Derived.WalkLawsBesides
import Derived.Below
import Derived.Deep.OwnRows
import Derived.Deep.RegionHeld3
namespace Go.Proofs.Ytcdhhmedcplblaa
open Go.RowKit Go.Deep

theorem ret_bool {a b : Bool} (h : a = b) : Ending.returned (.bool a) = .returned (.bool b) := by rw [h]
theorem ret_int {k : IntKind} {a b : Int} (h : a = b) : Ending.returned (.int k a) = .returned (.int k b) := by rw [h]

theorem bcell {W w1 : World} (hb : Below W.heap.size W w1) : (∀ b o, b < W.heap.size → w1.cell? ⟨b, o, none⟩ = W.cell? ⟨b, o, none⟩) ∧ (∀ b o, b < W.heap.size → w1.frozen? ⟨b, o, none⟩ = W.frozen? ⟨b, o, none⟩) :=
  ⟨fun b o h => hb.cell (p := ⟨b, o, none⟩) h, fun b o h => hb.frozen (p := ⟨b, o, none⟩) h⟩

def inB (x lo hi : Int) : Bool := decide (lo ≤ x) && decide (x ≤ hi)
theorem inB_yes {x lo hi : Int} (h : lo ≤ x) : inB x lo hi = decide (x ≤ hi) := by simp [inB, h]
theorem inB_no {x lo hi : Int} (h : x < lo) : inB x lo hi = false := by simp [inB]; omega

theorem l1In_any (x lo hi : Int) (w : World) :
    Calls Try.prog 40 #[.int .i64 x, .int .i64 lo, .int .i64 hi] w fun e w' => e = .returned (.bool (inB x lo hi)) ∧ w' = w := by
  go_enter Try.func40, Try.ntmps40
  go_wp2
  · go_ret
    exact ⟨ret_bool (inB_yes ‹_›).symm, rfl⟩
  · go_ret
    exact ⟨ret_bool (inB_no ‹_›).symm, rfl⟩

theorem World.rowIs.below {w w' : World} {B b n : Nat} {t : TypeId} {f : Nat → Value} (h : w.rowIs b t n f) (hb : Below B w w') (hB : b < B) : w'.rowIs b t n f :=
  h.of_block (hb.block b hB)
theorem hid {p : Prop} (h : p) : Hid p := h
theorem then_ {w a b : World} (h : Below w.heap.size w a) (k : Below a.heap.size a b) : Below w.heap.size w b := h.trans (k.mono h.size)
/-- what lies in a block -/
def Blk (W : World) (P : Nat) (o : Obj) : Prop := W.heap[P]? = some o
theorem Blk.new (W : World) (o : Obj) : Blk (W.alloc o) W.heap.size o := blk_alloc_new _ _
theorem Blk.lt {W : World} {P : Nat} {o : Obj} (h : Blk W P o) : P < W.heap.size := (Array.getElem?_eq_some_iff.1 h).1
theorem Blk.alloc {W : World} {P : Nat} {o : Obj} (h : Blk W P o) (o' : Obj) : Blk (W.alloc o') P o := (blk_alloc_lt _ _ _ h.lt).trans h
theorem Blk.below {W W' : World} {P : Nat} {o : Obj} (h : Blk W P o) (hb : Below W.heap.size W W') : Blk W' P o := (hb.block P h.lt).trans h
theorem Blk.two {W : World} {P t : Nat} {x y : Value} (h : Blk W P (.cells #[x, y] t)) : W.cell? ⟨P, 0, none⟩ = some x ∧ W.cell? ⟨P, 1, none⟩ = some y := by
  unfold Blk at h
  simp [World.cell?, h]

structure FileV where
  name : ByteArray
  data : ByteArray

def FileV.val (v : FileV) : Value := .agg #[.string (v).name, .string (v).data]
def FileV.z : FileV := ⟨⟨#[]⟩, ⟨#[]⟩⟩
theorem Try.info72 : (Try.prog.info? 72).map (fun i => (i.zero, i.size, i.bytes)) = some (some (.agg #[.string ⟨#[]⟩, .string ⟨#[]⟩]), 2, 32) := by kernel_rfl
theorem run_make_file (n : Nat) (hn : n ≤ 1048576) (w : World) :
    (Instr.makeSlice 30 (.int .i64 (n : Int)) (.int .i64 (n : Int))).run Try.prog w = .ok (.slice (some ⟨w.heap.size, 0, none⟩) n n) (w.alloc (.cells (madeCells #[.string ⟨#[]⟩, .string ⟨#[]⟩] (n * 2)) 72)) := by
  obtain ⟨i, hi, hzz⟩ := Option.map_eq_some_iff.1 Try.info72
  simp only [Prod.mk.injEq] at hzz
  obtain ⟨hz, hs, hb⟩ := hzz
  have hr := run_make (P := Try.prog) w 30 72 i _ Try.underlying30 hi hz .i64 .i64 n n (by omega) (Int.le_refl _) (by rw [hb]; omega) (by omega)
  simp only [Int.toNat_natCast, hs] at hr
  exact hr
def fileCell (f : Nat → FileV) (j : Nat) : Value := if j % 2 = 0 then .string (f (j / 2)).name else .string (f (j / 2)).data
def FilesAt (w : World) (a : Option Addr) (n : Nat) (f : Nat → FileV) : Prop :=
  0 < n → ∃ b off, a = some ⟨b, off, none⟩ ∧ b < w.heap.size ∧ ∀ i, i < n → w.cell? ⟨b, off + i * 2, none⟩ = some (.string (f i).name) ∧ w.cell? ⟨b, off + i * 2 + 1, none⟩ = some (.string (f i).data)
theorem FilesAt.below {w w' : World} {a : Option Addr} {n : Nat} {f : Nat → FileV} (h : FilesAt w a n f) (hb : Below w.heap.size w w') : FilesAt w' a n f := fun hn => by
  obtain ⟨b, off, rfl, hlt, hc⟩ := h hn
  obtain ⟨h1, _⟩ := bcell hb
  exact ⟨b, off, rfl, Nat.lt_of_lt_of_le hlt hb.size, fun i hi => by rw [h1 _ _ hlt, h1 _ _ hlt]; exact hc i hi⟩
theorem FilesAt.row {w : World} {b n : Nat} {f : Nat → FileV} (h : w.rowIs b 72 (n * 2) (fileCell f)) : FilesAt w (some ⟨b, 0, none⟩) n f := fun _ => by
  refine ⟨b, 0, rfl, h.lt, fun i hi => ⟨?_, ?_⟩⟩
  · have := h.cell (i := 0 + i * 2) (by omega)
    rw [this]
    have e1 : (0 + i * 2) % 2 = 0 := by omega
    have e2 : (0 + i * 2) / 2 = i := by omega
    unfold fileCell
    rw [e1, e2]
    rfl
  · have := h.cell (i := 0 + i * 2 + 1) (by omega)
    rw [this]
    have e1 : (0 + i * 2 + 1) % 2 = 1 := by omega
    have e2 : (0 + i * 2 + 1) / 2 = i := by omega
    unfold fileCell
    rw [e1, e2]
    rfl
theorem made_file (w : World) (n : Nat) : (w.alloc (.cells (madeCells #[.string ⟨#[]⟩, .string ⟨#[]⟩] (n * 2)) 72)).rowIs w.heap.size 72 (n * 2) (fileCell (fun _ => FileV.z)) :=
  ⟨_, blk_alloc_new _ _, size_madeCells _ _, fun i hi => by
    have hm : i % 2 = 0 ∨ i % 2 = 1 := by omega
    rcases hm with h | h <;> simp [madeCells, hi, fileCell, FileV.z, h]⟩
def upto_file (k : Nat) (f : Nat → FileV) (i : Nat) : FileV := if i < k then f i else FileV.z
theorem upto_file_zero (f : Nat → FileV) : upto_file 0 f = fun _ => FileV.z := by funext i; simp [upto_file]
theorem upto_file_row {w : World} {b n k : Nat} {f : Nat → FileV} (h : w.rowIs b 72 (n * 2) (fileCell (upto_file k f))) :
    ((w.setCell ⟨b, k * 2, none⟩ (.string (f k).name)).setCell ⟨b, k * 2 + 1, none⟩ (.string (f k).data)).rowIs b 72 (n * 2) (fileCell (upto_file (k + 1) f)) := by
  refine ((h.set (k * 2) _).set (k * 2 + 1) _).congr fun j _ => ?_
  by_cases e1 : j = k * 2 + 1
  · subst e1
    have a1 : (k * 2 + 1) % 2 = 1 := by omega
    have a2 : (k * 2 + 1) / 2 = k := by omega
    simp [fileCell, upto_file, a1, a2]
  by_cases e0 : j = k * 2
  · subst e0
    have a1 : (k * 2) % 2 = 0 := by omega
    have a2 : (k * 2) / 2 = k := by omega
    simp [fileCell, upto_file, a1, a2]
  have a1 : (j / 2 < k + 1) = (j / 2 < k) := by apply propext; omega
  simp [fileCell, upto_file, e0, e1, a1]
theorem upto_file_done {w : World} {b n : Nat} {f : Nat → FileV} (h : w.rowIs b 72 (n * 2) (fileCell (upto_file n f))) : w.rowIs b 72 (n * 2) (fileCell f) :=
  h.congr fun j hj => by have : j / 2 < n := by omega
                         simp [fileCell, upto_file, this]
theorem toFile_any (v : FileV) (w : World) :
    Calls Try.prog 51 #[v.val] w fun e w' => e = .returned v.val ∧ Below w.heap.size w w' := by
  unfold FileV.val
  go_enter Try.func51, Try.ntmps51
  go_wp2
  exact bodyPost_ret (v := .agg #[.string (v).name, .string (v).data]) (by simp [results, Try.results51, go_sem]) rfl ⟨rfl, (((Below.refl _ _).alloc (Nat.le_refl _) _).alloc (by simp) _).alloc (by simp; omega) _⟩
theorem eqFile_true (v : FileV) (w : World) :
    Calls Try.prog 57 #[v.val, v.val] w fun e w' => e = .returned (.bool true) ∧ Below w.heap.size w w' := by
  unfold FileV.val
  go_enter Try.func57, Try.ntmps57
  go_wp2
  go_ret
  exact ⟨rfl, ((Below.refl _ _).alloc (Nat.le_refl _) _).alloc (by simp) _⟩
set_option maxHeartbeats 1000000 in
theorem toFileS_any (a : Option Addr) (n cap : Nat) (f : Nat → FileV) (w : World) (hn : n ≤ 1048576) (hc : FilesAt w a n f) :
    Calls Try.prog 29 #[.slice a n cap] w fun e w' => e = .returned (.slice (some ⟨w.heap.size, 0, none⟩) n n) ∧ w'.rowIs w.heap.size 72 (n * 2) (fileCell f) ∧ Below w.heap.size w w' := by
  have hmk := run_make_file n hn
  go_enter Try.func29, Try.ntmps29
  go_wp2
  go_loopw [4] (fun i wr => ∃ k : Nat, k ≤ n ∧ i = .int .i64 k ∧ wr.rowIs w.heap.size 72 (n * 2) (fileCell (upto_file k f)) ∧ Below w.heap.size w wr) (fun i _ => n - (intOf i).toNat)
  case atStart => exact ⟨0, Nat.zero_le _, rfl, by rw [upto_file_zero]; exact made_file w n, (Below.refl _ _).alloc (Nat.le_refl _) _⟩
  case round =>
    obtain ⟨k, hk, rfl, hrow, hB⟩ := hrel
    clear hmk
    by_cases hlt' : k < n
    · obtain ⟨b, off, rfl, hlt, hc⟩ := hc (by omega)
      obtain ⟨h0, h1⟩ := hc k hlt'
      have g0 : wr.cell? ⟨b, off + k * 2, none⟩ = some (.string (f k).name) := (hB.cell (p := ⟨b, _, none⟩) hlt).trans h0
      have g1 : wr.cell? ⟨b, off + k * 2 + 1, none⟩ = some (.string (f k).data) := (hB.cell (p := ⟨b, _, none⟩) hlt).trans h1
      clear h0 h1 hc
      have C1 := toFile_any (f k)
      unfold FileV.val at C1
      go_wp2_with fail
      refine (C1 _).mono ?_
      rintro e w1 ⟨rfl, hb1⟩
      have hrow1 := World.rowIs.below hrow hb1 hrow.lt
      have c0 := hrow1.cell (i := k * 2) (by omega)
      have f0 := hrow1.frozen (k * 2)
      have c1 := hrow1.cell (i := k * 2 + 1) (by omega)
      have f1 := hrow1.frozen (k * 2 + 1)
      clear g0 g1 C1
      go_wp2
      go_roundw
      case rel => exact ⟨k + 1, by omega, by go_num, upto_file_row hrow1, (((hB.trans (hb1.mono hB.size)).setCell (Nat.le_refl _) _).setCell (Nat.le_refl _) _)⟩
      case measure => simp [intOf]; omega
    · clear hc
      go_wp2
      go_ret
      have e : k = n := by omega
      subst e
      exact ⟨rfl, upto_file_done hrow, hB⟩
set_option maxHeartbeats 1000000 in
theorem eqFileS_true (a a' : Option Addr) (n cap cap' : Nat) (f : Nat → FileV) (w : World) (hn : n ≤ maxLen) (h : FilesAt w a n f) (h' : FilesAt w a' n f) :
    Calls Try.prog 33 #[.slice a n cap, .slice a' n cap'] w fun e w' => e = .returned (.bool true) ∧ Below w.heap.size w w' := by
  unfold maxLen at hn
  go_enter Try.func33, Try.ntmps33
  go_wp2
  go_loopw [5] (fun i wr => ∃ k : Nat, k ≤ n ∧ i = .int .i64 k ∧ Below w.heap.size w wr) (fun i _ => n - (intOf i).toNat)
  case atStart => exact ⟨0, Nat.zero_le _, rfl, Below.refl _ _⟩
  case round =>
    obtain ⟨k, hk, rfl, hB⟩ := hrel
    by_cases hlt' : k < n
    · obtain ⟨b, off, rfl, hlt, hc⟩ := h (by omega)
      obtain ⟨b', off', rfl, hlt2, hc'⟩ := h' (by omega)
      obtain ⟨h0, h1⟩ := hc k hlt'
      obtain ⟨u0, u1⟩ := hc' k hlt'
      have g0 : wr.cell? ⟨b, off + k * 2, none⟩ = some (.string (f k).name) := (hB.cell (p := ⟨b, _, none⟩) hlt).trans h0
      have p0 : wr.cell? ⟨b', off' + k * 2, none⟩ = some (.string (f k).name) := (hB.cell (p := ⟨b', _, none⟩) hlt2).trans u0
      have g1 : wr.cell? ⟨b, off + k * 2 + 1, none⟩ = some (.string (f k).data) := (hB.cell (p := ⟨b, _, none⟩) hlt).trans h1
      have p1 : wr.cell? ⟨b', off' + k * 2 + 1, none⟩ = some (.string (f k).data) := (hB.cell (p := ⟨b', _, none⟩) hlt2).trans u1
      clear h0 u0 h1 u1 hc hc'
      have i0 : (0 : Int) ≤ (k : Int) := by omega
      have i1 : (k : Int) < (n : Int) := by omega
      have z1 : b < wr.heap.size := Nat.lt_of_lt_of_le hlt hB.size
      have z2 : b' < wr.heap.size := Nat.lt_of_lt_of_le hlt2 hB.size
      have C1 := hid (eqFile_true (f k))
      unfold FileV.val at C1
      go_wp2_with fail
      go_region_held3 (fun w' => w'.cell? ⟨b, off + k * 2, none⟩ = some (.string (f k).name) ∧ w'.cell? ⟨b, off + k * 2 + 1, none⟩ = some (.string (f k).data) ∧ w'.cell? ⟨b', off' + k * 2, none⟩ = some (.string (f k).name) ∧ w'.cell? ⟨b', off' + k * 2 + 1, none⟩ = some (.string (f k).data)) (go_keep)
        (first | (go_at_call 57; refine (C1.out _).mono ?_; rintro e w1 ⟨rfl, hb1⟩; have r0 := (hb1.cell (p := ⟨b, off + k * 2, none⟩) z1).trans g0; have r1 := (hb1.cell (p := ⟨b, off + k * 2 + 1, none⟩) z1).trans g1; have s0 := (hb1.cell (p := ⟨b', off' + k * 2, none⟩) z2).trans p0; have s1 := (hb1.cell (p := ⟨b', off' + k * 2 + 1, none⟩) z2).trans p1))
      have hB1 : Below w.heap.size w w1 := hB.drew.trans (hb1.mono hB.size)
      clear g0 p0 r0 s0 g1 p1 r1 s1 h h' hb1 C1
      go_wp2
      go_roundw
      case rel => exact ⟨k + 1, by omega, by go_num, hB1⟩
      case measure => simp [intOf]; omega
    · clear h h'
      go_wp2
      go_ret
      exact ⟨rfl, hB⟩

structure OpV where
  kind : Int
  name : ByteArray
  to : ByteArray
  data : ByteArray

def OpV.val (v : OpV) : Value := .agg #[.int .i64 (v).kind, .string (v).name, .string (v).to, .string (v).data]
def OpV.z : OpV := ⟨0, ⟨#[]⟩, ⟨#[]⟩, ⟨#[]⟩⟩
theorem Try.info37 : (Try.prog.info? 37).map (fun i => (i.zero, i.size, i.bytes)) = some (some (.agg #[.int .i64 0, .string ⟨#[]⟩, .string ⟨#[]⟩, .string ⟨#[]⟩]), 4, 56) := by kernel_rfl
theorem run_make_op (n : Nat) (hn : n ≤ 1048576) (w : World) :
    (Instr.makeSlice 31 (.int .i64 (n : Int)) (.int .i64 (n : Int))).run Try.prog w = .ok (.slice (some ⟨w.heap.size, 0, none⟩) n n) (w.alloc (.cells (madeCells #[.int .i64 0, .string ⟨#[]⟩, .string ⟨#[]⟩, .string ⟨#[]⟩] (n * 4)) 37)) := by
  obtain ⟨i, hi, hzz⟩ := Option.map_eq_some_iff.1 Try.info37
  simp only [Prod.mk.injEq] at hzz
  obtain ⟨hz, hs, hb⟩ := hzz
  have hr := run_make (P := Try.prog) w 31 37 i _ Try.underlying31 hi hz .i64 .i64 n n (by omega) (Int.le_refl _) (by rw [hb]; omega) (by omega)
  simp only [Int.toNat_natCast, hs] at hr
  exact hr
def opCell (f : Nat → OpV) (j : Nat) : Value := if j % 4 = 0 then .int .i64 (f (j / 4)).kind else if j % 4 = 1 then .string (f (j / 4)).name else if j % 4 = 2 then .string (f (j / 4)).to else .string (f (j / 4)).data
def DOpsAt (w : World) (a : Option Addr) (n : Nat) (f : Nat → OpV) : Prop :=
  0 < n → ∃ b off, a = some ⟨b, off, none⟩ ∧ b < w.heap.size ∧ ∀ i, i < n → w.cell? ⟨b, off + i * 4, none⟩ = some (.int .i64 (f i).kind) ∧ w.cell? ⟨b, off + i * 4 + 1, none⟩ = some (.string (f i).name) ∧ w.cell? ⟨b, off + i * 4 + 2, none⟩ = some (.string (f i).to) ∧ w.cell? ⟨b, off + i * 4 + 3, none⟩ = some (.string (f i).data)
theorem DOpsAt.below {w w' : World} {a : Option Addr} {n : Nat} {f : Nat → OpV} (h : DOpsAt w a n f) (hb : Below w.heap.size w w') : DOpsAt w' a n f := fun hn => by
  obtain ⟨b, off, rfl, hlt, hc⟩ := h hn
  obtain ⟨h1, _⟩ := bcell hb
  exact ⟨b, off, rfl, Nat.lt_of_lt_of_le hlt hb.size, fun i hi => by rw [h1 _ _ hlt, h1 _ _ hlt, h1 _ _ hlt, h1 _ _ hlt]; exact hc i hi⟩
theorem DOpsAt.row {w : World} {b n : Nat} {f : Nat → OpV} (h : w.rowIs b 37 (n * 4) (opCell f)) : DOpsAt w (some ⟨b, 0, none⟩) n f := fun _ => by
  refine ⟨b, 0, rfl, h.lt, fun i hi => ⟨?_, ?_, ?_, ?_⟩⟩
  · have := h.cell (i := 0 + i * 4) (by omega)
    rw [this]
    have e1 : (0 + i * 4) % 4 = 0 := by omega
    have e2 : (0 + i * 4) / 4 = i := by omega
    unfold opCell
    rw [e1, e2]
    rfl
  · have := h.cell (i := 0 + i * 4 + 1) (by omega)
    rw [this]
    have e1 : (0 + i * 4 + 1) % 4 = 1 := by omega
    have e2 : (0 + i * 4 + 1) / 4 = i := by omega
    unfold opCell
    rw [e1, e2]
    rfl
  · have := h.cell (i := 0 + i * 4 + 2) (by omega)
    rw [this]
    have e1 : (0 + i * 4 + 2) % 4 = 2 := by omega
    have e2 : (0 + i * 4 + 2) / 4 = i := by omega
    unfold opCell
    rw [e1, e2]
    rfl
  · have := h.cell (i := 0 + i * 4 + 3) (by omega)
    rw [this]
    have e1 : (0 + i * 4 + 3) % 4 = 3 := by omega
    have e2 : (0 + i * 4 + 3) / 4 = i := by omega
    unfold opCell
    rw [e1, e2]
    rfl
theorem made_op (w : World) (n : Nat) : (w.alloc (.cells (madeCells #[.int .i64 0, .string ⟨#[]⟩, .string ⟨#[]⟩, .string ⟨#[]⟩] (n * 4)) 37)).rowIs w.heap.size 37 (n * 4) (opCell (fun _ => OpV.z)) :=
  ⟨_, blk_alloc_new _ _, size_madeCells _ _, fun i hi => by
    have hm : i % 4 = 0 ∨ i % 4 = 1 ∨ i % 4 = 2 ∨ i % 4 = 3 := by omega
    rcases hm with h | h | h | h <;> simp [madeCells, hi, opCell, OpV.z, h]⟩
def upto_op (k : Nat) (f : Nat → OpV) (i : Nat) : OpV := if i < k then f i else OpV.z
theorem upto_op_zero (f : Nat → OpV) : upto_op 0 f = fun _ => OpV.z := by funext i; simp [upto_op]
theorem upto_op_row {w : World} {b n k : Nat} {f : Nat → OpV} (h : w.rowIs b 37 (n * 4) (opCell (upto_op k f))) :
    ((((w.setCell ⟨b, k * 4, none⟩ (.int .i64 (f k).kind)).setCell ⟨b, k * 4 + 1, none⟩ (.string (f k).name)).setCell ⟨b, k * 4 + 2, none⟩ (.string (f k).to)).setCell ⟨b, k * 4 + 3, none⟩ (.string (f k).data)).rowIs b 37 (n * 4) (opCell (upto_op (k + 1) f)) := by
  refine ((((h.set (k * 4) _).set (k * 4 + 1) _).set (k * 4 + 2) _).set (k * 4 + 3) _).congr fun j _ => ?_
  by_cases e3 : j = k * 4 + 3
  · subst e3
    have a1 : (k * 4 + 3) % 4 = 3 := by omega
    have a2 : (k * 4 + 3) / 4 = k := by omega
    simp [opCell, upto_op, a1, a2]
  by_cases e2 : j = k * 4 + 2
  · subst e2
    have a1 : (k * 4 + 2) % 4 = 2 := by omega
    have a2 : (k * 4 + 2) / 4 = k := by omega
    simp [opCell, upto_op, a1, a2]
  by_cases e1 : j = k * 4 + 1
  · subst e1
    have a1 : (k * 4 + 1) % 4 = 1 := by omega
    have a2 : (k * 4 + 1) / 4 = k := by omega
    simp [opCell, upto_op, a1, a2]
  by_cases e0 : j = k * 4
  · subst e0
    have a1 : (k * 4) % 4 = 0 := by omega
    have a2 : (k * 4) / 4 = k := by omega
    simp [opCell, upto_op, a1, a2]
  have a1 : (j / 4 < k + 1) = (j / 4 < k) := by apply propext; omega
  simp [opCell, upto_op, e0, e1, e2, e3, a1]
theorem upto_op_done {w : World} {b n : Nat} {f : Nat → OpV} (h : w.rowIs b 37 (n * 4) (opCell (upto_op n f))) : w.rowIs b 37 (n * 4) (opCell f) :=
  h.congr fun j hj => by have : j / 4 < n := by omega
                         simp [opCell, upto_op, this]
theorem toDOp_any (v : OpV) (w : World) :
    Calls Try.prog 11 #[v.val] w fun e w' => e = .returned v.val ∧ Below w.heap.size w w' := by
  unfold OpV.val
  go_enter Try.func11, Try.ntmps11
  go_wp2
  exact bodyPost_ret (v := .agg #[.int .i64 (v).kind, .string (v).name, .string (v).to, .string (v).data]) (by simp [results, Try.results11, go_sem]) rfl ⟨rfl, (((Below.refl _ _).alloc (Nat.le_refl _) _).alloc (by simp) _).alloc (by simp; omega) _⟩
theorem eqDOp_true (v : OpV) (w : World) :
    Calls Try.prog 58 #[v.val, v.val] w fun e w' => e = .returned (.bool true) ∧ Below w.heap.size w w' := by
  unfold OpV.val
  go_enter Try.func58, Try.ntmps58
  go_wp2
  go_ret
  exact ⟨rfl, ((Below.refl _ _).alloc (Nat.le_refl _) _).alloc (by simp) _⟩
set_option maxHeartbeats 1000000 in
theorem toDOpS_any (a : Option Addr) (n cap : Nat) (f : Nat → OpV) (w : World) (hn : n ≤ 1048576) (hc : DOpsAt w a n f) :
    Calls Try.prog 30 #[.slice a n cap] w fun e w' => e = .returned (.slice (some ⟨w.heap.size, 0, none⟩) n n) ∧ w'.rowIs w.heap.size 37 (n * 4) (opCell f) ∧ Below w.heap.size w w' := by
  have hmk := run_make_op n hn
  go_enter Try.func30, Try.ntmps30
  go_wp2
  go_loopw [4] (fun i wr => ∃ k : Nat, k ≤ n ∧ i = .int .i64 k ∧ wr.rowIs w.heap.size 37 (n * 4) (opCell (upto_op k f)) ∧ Below w.heap.size w wr) (fun i _ => n - (intOf i).toNat)
  case atStart => exact ⟨0, Nat.zero_le _, rfl, by rw [upto_op_zero]; exact made_op w n, (Below.refl _ _).alloc (Nat.le_refl _) _⟩
  case round =>
    obtain ⟨k, hk, rfl, hrow, hB⟩ := hrel
    clear hmk
    by_cases hlt' : k < n
    · obtain ⟨b, off, rfl, hlt, hc⟩ := hc (by omega)
      obtain ⟨h0, h1, h2, h3⟩ := hc k hlt'
      have g0 : wr.cell? ⟨b, off + k * 4, none⟩ = some (.int .i64 (f k).kind) := (hB.cell (p := ⟨b, _, none⟩) hlt).trans h0
      have g1 : wr.cell? ⟨b, off + k * 4 + 1, none⟩ = some (.string (f k).name) := (hB.cell (p := ⟨b, _, none⟩) hlt).trans h1
      have g2 : wr.cell? ⟨b, off + k * 4 + 2, none⟩ = some (.string (f k).to) := (hB.cell (p := ⟨b, _, none⟩) hlt).trans h2
      have g3 : wr.cell? ⟨b, off + k * 4 + 3, none⟩ = some (.string (f k).data) := (hB.cell (p := ⟨b, _, none⟩) hlt).trans h3
      clear h0 h1 h2 h3 hc
      have C1 := toDOp_any (f k)
      unfold OpV.val at C1
      go_wp2_with fail
      refine (C1 _).mono ?_
      rintro e w1 ⟨rfl, hb1⟩
      have hrow1 := World.rowIs.below hrow hb1 hrow.lt
      have c0 := hrow1.cell (i := k * 4) (by omega)
      have f0 := hrow1.frozen (k * 4)
      have c1 := hrow1.cell (i := k * 4 + 1) (by omega)
      have f1 := hrow1.frozen (k * 4 + 1)
      have c2 := hrow1.cell (i := k * 4 + 2) (by omega)
      have f2 := hrow1.frozen (k * 4 + 2)
      have c3 := hrow1.cell (i := k * 4 + 3) (by omega)
      have f3 := hrow1.frozen (k * 4 + 3)
      clear g0 g1 g2 g3 C1
      go_wp2
      go_roundw
      case rel => exact ⟨k + 1, by omega, by go_num, upto_op_row hrow1, (((((hB.trans (hb1.mono hB.size)).setCell (Nat.le_refl _) _).setCell (Nat.le_refl _) _).setCell (Nat.le_refl _) _).setCell (Nat.le_refl _) _)⟩
      case measure => simp [intOf]; omega
    · clear hc
      go_wp2
      go_ret
      have e : k = n := by omega
      subst e
      exact ⟨rfl, upto_op_done hrow, hB⟩
set_option maxHeartbeats 1000000 in
theorem eqDOpS_true (a a' : Option Addr) (n cap cap' : Nat) (f : Nat → OpV) (w : World) (hn : n ≤ maxLen) (h : DOpsAt w a n f) (h' : DOpsAt w a' n f) :
    Calls Try.prog 34 #[.slice a n cap, .slice a' n cap'] w fun e w' => e = .returned (.bool true) ∧ Below w.heap.size w w' := by
  unfold maxLen at hn
  go_enter Try.func34, Try.ntmps34
  go_wp2
  go_loopw [5] (fun i wr => ∃ k : Nat, k ≤ n ∧ i = .int .i64 k ∧ Below w.heap.size w wr) (fun i _ => n - (intOf i).toNat)
  case atStart => exact ⟨0, Nat.zero_le _, rfl, Below.refl _ _⟩
  case round =>
    obtain ⟨k, hk, rfl, hB⟩ := hrel
    by_cases hlt' : k < n
    · obtain ⟨b, off, rfl, hlt, hc⟩ := h (by omega)
      obtain ⟨b', off', rfl, hlt2, hc'⟩ := h' (by omega)
      obtain ⟨h0, h1, h2, h3⟩ := hc k hlt'
      obtain ⟨u0, u1, u2, u3⟩ := hc' k hlt'
      have g0 : wr.cell? ⟨b, off + k * 4, none⟩ = some (.int .i64 (f k).kind) := (hB.cell (p := ⟨b, _, none⟩) hlt).trans h0
      have p0 : wr.cell? ⟨b', off' + k * 4, none⟩ = some (.int .i64 (f k).kind) := (hB.cell (p := ⟨b', _, none⟩) hlt2).trans u0
      have g1 : wr.cell? ⟨b, off + k * 4 + 1, none⟩ = some (.string (f k).name) := (hB.cell (p := ⟨b, _, none⟩) hlt).trans h1
      have p1 : wr.cell? ⟨b', off' + k * 4 + 1, none⟩ = some (.string (f k).name) := (hB.cell (p := ⟨b', _, none⟩) hlt2).trans u1
      have g2 : wr.cell? ⟨b, off + k * 4 + 2, none⟩ = some (.string (f k).to) := (hB.cell (p := ⟨b, _, none⟩) hlt).trans h2
      have p2 : wr.cell? ⟨b', off' + k * 4 + 2, none⟩ = some (.string (f k).to) := (hB.cell (p := ⟨b', _, none⟩) hlt2).trans u2
      have g3 : wr.cell? ⟨b, off + k * 4 + 3, none⟩ = some (.string (f k).data) := (hB.cell (p := ⟨b, _, none⟩) hlt).trans h3
      have p3 : wr.cell? ⟨b', off' + k * 4 + 3, none⟩ = some (.string (f k).data) := (hB.cell (p := ⟨b', _, none⟩) hlt2).trans u3
      clear h0 u0 h1 u1 h2 u2 h3 u3 hc hc'
      have i0 : (0 : Int) ≤ (k : Int) := by omega
      have i1 : (k : Int) < (n : Int) := by omega
      have z1 : b < wr.heap.size := Nat.lt_of_lt_of_le hlt hB.size
      have z2 : b' < wr.heap.size := Nat.lt_of_lt_of_le hlt2 hB.size
      have C1 := hid (eqDOp_true (f k))
      unfold OpV.val at C1
      go_wp2_with fail
      go_region_held3 (fun w' => w'.cell? ⟨b, off + k * 4, none⟩ = some (.int .i64 (f k).kind) ∧ w'.cell? ⟨b, off + k * 4 + 1, none⟩ = some (.string (f k).name) ∧ w'.cell? ⟨b, off + k * 4 + 2, none⟩ = some (.string (f k).to) ∧ w'.cell? ⟨b, off + k * 4 + 3, none⟩ = some (.string (f k).data) ∧ w'.cell? ⟨b', off' + k * 4, none⟩ = some (.int .i64 (f k).kind) ∧ w'.cell? ⟨b', off' + k * 4 + 1, none⟩ = some (.string (f k).name) ∧ w'.cell? ⟨b', off' + k * 4 + 2, none⟩ = some (.string (f k).to) ∧ w'.cell? ⟨b', off' + k * 4 + 3, none⟩ = some (.string (f k).data)) (go_keep)
        (first | (go_at_call 58; refine (C1.out _).mono ?_; rintro e w1 ⟨rfl, hb1⟩; have r0 := (hb1.cell (p := ⟨b, off + k * 4, none⟩) z1).trans g0; have r1 := (hb1.cell (p := ⟨b, off + k * 4 + 1, none⟩) z1).trans g1; have r2 := (hb1.cell (p := ⟨b, off + k * 4 + 2, none⟩) z1).trans g2; have r3 := (hb1.cell (p := ⟨b, off + k * 4 + 3, none⟩) z1).trans g3; have s0 := (hb1.cell (p := ⟨b', off' + k * 4, none⟩) z2).trans p0; have s1 := (hb1.cell (p := ⟨b', off' + k * 4 + 1, none⟩) z2).trans p1; have s2 := (hb1.cell (p := ⟨b', off' + k * 4 + 2, none⟩) z2).trans p2; have s3 := (hb1.cell (p := ⟨b', off' + k * 4 + 3, none⟩) z2).trans p3))
      have hB1 : Below w.heap.size w w1 := hB.drew.trans (hb1.mono hB.size)
      clear g0 p0 r0 s0 g1 p1 r1 s1 g2 p2 r2 s2 g3 p3 r3 s3 h h' hb1 C1
      go_wp2
      go_roundw
      case rel => exact ⟨k + 1, by omega, by go_num, hB1⟩
      case measure => simp [intOf]; omega
    · clear h h'
      go_wp2
      go_ret
      exact ⟨rfl, hB⟩
end Go.Proofs.Ytcdhhmedcplblaa
