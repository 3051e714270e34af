/- Disks as they lie in memory: sizes, copies, comparisons. -/
import Derived.Test.YtcdhhmedcplblaaDA
namespace Go.Proofs.Ytcdhhmedcplblaa
open Go.RowKit Go.Deep

/-- the sum of the first n -/
def tot (g : Nat → Nat) : Nat → Nat
  | 0 => 0
  | n + 1 => tot g n + g n

def FileV.sz (v : FileV) : Nat := v.name.size + v.data.size
def FileV.wf (v : FileV) : Prop := v.name.size ≤ maxLen ∧ v.data.size ≤ maxLen
theorem szFile_any (v : FileV) (left : Int) (w : World) (hv : v.wf) (h0 : 0 ≤ left) (h1 : left ≤ 1048576) :
    Calls Try.prog 48 #[v.val, .int .i64 left] w fun e w' => ∃ r : Int, e = .returned (.int .i64 r) ∧ (r = -1 ∨ (0 ≤ r ∧ r + v.sz = left)) ∧ Below w.heap.size w w' := by
  unfold FileV.wf maxLen at hv
  unfold FileV.val FileV.sz
  obtain ⟨z0, z1⟩ := hv
  go_enter Try.func48, Try.ntmps48
  go_wp2
  all_goals
    go_ret
    exact ⟨_, rfl, by omega, (Below.refl _ _).alloc (Nat.le_refl _) _⟩
set_option maxRecDepth 100000 in
set_option maxHeartbeats 1000000 in
theorem szFileS_any (a : Option Addr) (n cap : Nat) (f : Nat → FileV) (left : Int) (w : World) (hn : n ≤ maxLen) (hf : ∀ i, i < n → (f i).wf) (hc : FilesAt w a n f) (h0 : 0 ≤ left) (h1 : left ≤ 1048576) :
    Calls Try.prog 25 #[.slice a n cap, .int .i64 left] w fun e w' => ∃ r : Int, e = .returned (.int .i64 r) ∧ (r = -1 ∨ (0 ≤ r ∧ r + n + tot (fun i => (f i).sz) n = left)) ∧ Below w.heap.size w w' := by
  unfold maxLen at hn
  by_cases hl : left - n < 0
  · clear hc hf
    go_enter Try.func25, Try.ntmps25
    go_wp2
    go_ret
    exact ⟨_, rfl, .inl rfl, Below.refl _ _⟩
  · have hl' : 0 ≤ left - n := by omega
    clear hl
    go_enter Try.func25, Try.ntmps25
    go_wp2
    go_loopw [1, 5] (fun l i wr => ∃ (k : Nat) (m : Int), k ≤ n ∧ i = .int .i64 k ∧ l = .int .i64 m ∧ 0 ≤ m ∧ m + n + tot (fun i => (f i).sz) k = left ∧ Below w.heap.size w wr) (fun _ i _ => n - (intOf i).toNat)
    case atStart => exact ⟨0, _, Nat.zero_le _, rfl, rfl, by omega, by simp [tot], Below.refl _ _⟩
    case round =>
      obtain ⟨k, m, hk, rfl, rfl, m0, hm, hB⟩ := hrel
      by_cases hlt' : k < n
      · obtain ⟨b, off, rfl, hlt, hc⟩ := hc (by omega)
        obtain ⟨h0_, h1_⟩ := hc k hlt'
        have g0 : wr.cell? ⟨b, off + k * 2, none⟩ = some (.string (f k).name) := (hB.cell (p := ⟨b, _, none⟩) hlt).trans h0_
        have g1 : wr.cell? ⟨b, off + k * 2 + 1, none⟩ = some (.string (f k).data) := (hB.cell (p := ⟨b, _, none⟩) hlt).trans h1_
        clear h0_ h1_ hc
        have C1 := hid (szFile_any (f k) m wr (hf k hlt') m0 (by omega))
        unfold FileV.val at C1
        have HM := hid hm
        clear hm hf
        go_wp2_with fail
        refine C1.out.mono ?_
        rintro e w1 ⟨r, rfl, hr, hb1⟩
        have B1 := then_ hB hb1
        clear g0 g1 C1 hb1
        rcases hr with rfl | ⟨r0, r1⟩
        · go_wp2
          go_ret
          exact ⟨_, rfl, .inl rfl, B1⟩
        · have r2 : ¬ r < 0 := by omega
          have R1 := hid r1
          clear r1
          go_wp2
          go_roundw
          case rel => exact ⟨k + 1, r, by omega, by go_num, rfl, r0, by have := HM.out; have := R1.out; simp only [tot]; omega, B1⟩
          case measure => simp [intOf]; omega
      · clear hc hf
        go_wp2
        go_ret
        have e : k = n := by omega
        subst e
        exact ⟨_, rfl, .inr ⟨m0, hm⟩, hB⟩

def OpV.sz (v : OpV) : Nat := v.name.size + v.to.size + v.data.size
def OpV.wf (v : OpV) : Prop := v.name.size ≤ maxLen ∧ v.to.size ≤ maxLen ∧ v.data.size ≤ maxLen
theorem szDOp_any (v : OpV) (left : Int) (w : World) (hv : v.wf) (h0 : 0 ≤ left) (h1 : left ≤ 1048576) :
    Calls Try.prog 8 #[v.val, .int .i64 left] w fun e w' => ∃ r : Int, e = .returned (.int .i64 r) ∧ (r = -1 ∨ (0 ≤ r ∧ r + v.sz = left)) ∧ Below w.heap.size w w' := by
  unfold OpV.wf maxLen at hv
  unfold OpV.val OpV.sz
  obtain ⟨z0, z1, z2⟩ := hv
  go_enter Try.func8, Try.ntmps8
  go_wp2
  all_goals
    go_ret
    exact ⟨_, rfl, by omega, (Below.refl _ _).alloc (Nat.le_refl _) _⟩
set_option maxRecDepth 100000 in
set_option maxHeartbeats 1000000 in
theorem szDOpS_any (a : Option Addr) (n cap : Nat) (f : Nat → OpV) (left : Int) (w : World) (hn : n ≤ maxLen) (hf : ∀ i, i < n → (f i).wf) (hc : DOpsAt w a n f) (h0 : 0 ≤ left) (h1 : left ≤ 1048576) :
    Calls Try.prog 26 #[.slice a n cap, .int .i64 left] w fun e w' => ∃ r : Int, e = .returned (.int .i64 r) ∧ (r = -1 ∨ (0 ≤ r ∧ r + n + tot (fun i => (f i).sz) n = left)) ∧ Below w.heap.size w w' := by
  unfold maxLen at hn
  by_cases hl : left - n < 0
  · clear hc hf
    go_enter Try.func26, Try.ntmps26
    go_wp2
    go_ret
    exact ⟨_, rfl, .inl rfl, Below.refl _ _⟩
  · have hl' : 0 ≤ left - n := by omega
    clear hl
    go_enter Try.func26, Try.ntmps26
    go_wp2
    go_loopw [1, 5] (fun l i wr => ∃ (k : Nat) (m : Int), k ≤ n ∧ i = .int .i64 k ∧ l = .int .i64 m ∧ 0 ≤ m ∧ m + n + tot (fun i => (f i).sz) k = left ∧ Below w.heap.size w wr) (fun _ i _ => n - (intOf i).toNat)
    case atStart => exact ⟨0, _, Nat.zero_le _, rfl, rfl, by omega, by simp [tot], Below.refl _ _⟩
    case round =>
      obtain ⟨k, m, hk, rfl, rfl, m0, hm, hB⟩ := hrel
      by_cases hlt' : k < n
      · obtain ⟨b, off, rfl, hlt, hc⟩ := hc (by omega)
        obtain ⟨h0_, h1_, h2_, h3_⟩ := hc k hlt'
        have g0 : wr.cell? ⟨b, off + k * 4, none⟩ = some (.int .i64 (f k).kind) := (hB.cell (p := ⟨b, _, none⟩) hlt).trans h0_
        have g1 : wr.cell? ⟨b, off + k * 4 + 1, none⟩ = some (.string (f k).name) := (hB.cell (p := ⟨b, _, none⟩) hlt).trans h1_
        have g2 : wr.cell? ⟨b, off + k * 4 + 2, none⟩ = some (.string (f k).to) := (hB.cell (p := ⟨b, _, none⟩) hlt).trans h2_
        have g3 : wr.cell? ⟨b, off + k * 4 + 3, none⟩ = some (.string (f k).data) := (hB.cell (p := ⟨b, _, none⟩) hlt).trans h3_
        clear h0_ h1_ h2_ h3_ hc
        have C1 := hid (szDOp_any (f k) m wr (hf k hlt') m0 (by omega))
        unfold OpV.val at C1
        have HM := hid hm
        clear hm hf
        go_wp2_with fail
        refine C1.out.mono ?_
        rintro e w1 ⟨r, rfl, hr, hb1⟩
        have B1 := then_ hB hb1
        clear g0 g1 g2 g3 C1 hb1
        rcases hr with rfl | ⟨r0, r1⟩
        · go_wp2
          go_ret
          exact ⟨_, rfl, .inl rfl, B1⟩
        · have r2 : ¬ r < 0 := by omega
          have R1 := hid r1
          clear r1
          go_wp2
          go_roundw
          case rel => exact ⟨k + 1, r, by omega, by go_num, rfl, r0, by have := HM.out; have := R1.out; simp only [tot]; omega, B1⟩
          case measure => simp [intOf]; omega
      · clear hc hf
        go_wp2
        go_ret
        have e : k = n := by omega
        subst e
        exact ⟨_, rfl, .inr ⟨m0, hm⟩, hB⟩

structure FileL where
  a : Option Addr
  n : Nat
  k : Nat
  f : Nat → FileV
structure OpL where
  a : Option Addr
  n : Nat
  k : Nat
  f : Nat → OpV
def FileL.at (w : World) (l : FileL) : Prop := l.n ≤ maxLen ∧ FilesAt w l.a l.n l.f ∧ ∀ i, i < l.n → (l.f i).wf
def OpL.at (w : World) (l : OpL) : Prop := l.n ≤ maxLen ∧ DOpsAt w l.a l.n l.f ∧ ∀ i, i < l.n → (l.f i).wf
def FileL.val (l : FileL) : Value := .slice l.a l.n l.k
def OpL.val (l : OpL) : Value := .slice l.a l.n l.k
theorem FileL.at.below {w w' : World} {l : FileL} (h : l.at w) (hb : Below w.heap.size w w') : l.at w' := ⟨h.1, h.2.1.below hb, h.2.2⟩
theorem OpL.at.below {w w' : World} {l : OpL} (h : l.at w) (hb : Below w.heap.size w w') : l.at w' := ⟨h.1, h.2.1.below hb, h.2.2⟩
/-- a disk as it lies in memory -/
structure DiskV where
  live : FileL
  safe : FileL
  ops : OpL
def DiskV.val (d : DiskV) : Value := .agg #[.slice d.live.a d.live.n d.live.k, .slice d.safe.a d.safe.n d.safe.k, .slice d.ops.a d.ops.n d.ops.k]
def DiskV.at (w : World) (d : DiskV) : Prop := d.live.at w ∧ d.safe.at w ∧ d.ops.at w
theorem DiskV.at.below {w w' : World} {d : DiskV} (h : d.at w) (hb : Below w.heap.size w w') : d.at w' := ⟨FileL.at.below h.1 hb, FileL.at.below h.2.1 hb, OpL.at.below h.2.2 hb⟩
/-- how much stands in a disk -/
def DiskV.sz (d : DiskV) : Nat := (d.live.n + tot (fun i => (d.live.f i).sz) d.live.n) + (d.safe.n + tot (fun i => (d.safe.f i).sz) d.safe.n) + (d.ops.n + tot (fun i => (d.ops.f i).sz) d.ops.n)
theorem Blk.three {W : World} {P t : Nat} {x y z : Value} (h : Blk W P (.cells #[x, y, z] t)) : W.cell? ⟨P, 0, none⟩ = some x ∧ W.cell? ⟨P, 1, none⟩ = some y ∧ W.cell? ⟨P, 2, none⟩ = some z := by
  unfold Blk at h
  simp [World.cell?, h]

set_option maxRecDepth 100000 in
set_option maxHeartbeats 1000000 in
theorem szDisk_any (d : DiskV) (left : Int) (w : World) (hd : d.at w) (h0 : 0 ≤ left) (h1 : left ≤ 1048576) :
    Calls Try.prog 7 #[d.val, .int .i64 left] w fun e w' => ∃ r : Int, e = .returned (.int .i64 r) ∧ (r = -1 ∨ (0 ≤ r ∧ r + d.sz = left)) ∧ Below w.heap.size w w' := by
  have b0 : Below w.heap.size w (w.alloc (.cells #[.slice d.live.a d.live.n d.live.k, .slice d.safe.a d.safe.n d.safe.k, .slice d.ops.a d.ops.n d.ops.k] 25)) := (Below.refl _ w).alloc (Nat.le_refl _) _
  have A0 := Blk.new w (.cells #[.slice d.live.a d.live.n d.live.k, .slice d.safe.a d.safe.n d.safe.k, .slice d.ops.a d.ops.n d.ops.k] 25)
  have HD := hid hd
  have C1 := hid (szFileS_any d.live.a d.live.n d.live.k d.live.f left _ hd.1.1 hd.1.2.2 (hd.1.2.1.below b0) h0 h1)
  obtain ⟨x0, x1, x2⟩ := A0.three
  clear hd
  unfold DiskV.val
  go_enter Try.func7, Try.ntmps7
  go_wp2_with fail
  refine C1.out.mono ?_
  rintro e w1 ⟨r, rfl, hr, hb1⟩
  have A1 := A0.below hb1
  have B1 := then_ b0 hb1
  clear x0 x1 x2 C1 A0 b0 hb1
  rcases hr with rfl | ⟨r0, r1⟩
  · go_wp2
    go_ret
    exact ⟨_, rfl, .inl rfl, B1⟩
  have R1 := hid r1
  have r2 : ¬ r < 0 := by omega
  have rl : r ≤ 1048576 := by omega
  clear r1
  have C2 := hid (szFileS_any d.safe.a d.safe.n d.safe.k d.safe.f r w1 HD.out.2.1.1 HD.out.2.1.2.2 (HD.out.2.1.2.1.below B1) r0 rl)
  obtain ⟨x0, x1, x2⟩ := A1.three
  go_wp2_with fail
  refine C2.out.mono ?_
  rintro e w2 ⟨s, rfl, hs, hb2⟩
  have A2 := A1.below hb2
  have B2 := then_ B1 hb2
  clear x0 x1 x2 C2 A1 B1 hb2
  rcases hs with rfl | ⟨s0, s1⟩
  · go_wp2
    go_ret
    exact ⟨_, rfl, .inl rfl, B2⟩
  have S1 := hid s1
  have s2 : ¬ s < 0 := by omega
  have sl : s ≤ 1048576 := by omega
  clear s1
  have C3 := hid (szDOpS_any d.ops.a d.ops.n d.ops.k d.ops.f s w2 HD.out.2.2.1 HD.out.2.2.2.2 (HD.out.2.2.2.1.below B2) s0 sl)
  obtain ⟨x0, x1, x2⟩ := A2.three
  go_wp2_with fail
  refine C3.out.mono ?_
  rintro e w3 ⟨u, rfl, hu, hb3⟩
  have B3 := then_ B2 hb3
  clear x0 x1 x2 C3 A2 B2 hb3
  rcases hu with rfl | ⟨u0, u1⟩
  · go_wp2
    go_ret
    exact ⟨_, rfl, .inl rfl, B3⟩
  have U1 := hid u1
  have u2 : ¬ u < 0 := by omega
  clear u1
  go_wp2
  go_ret
  exact ⟨_, rfl, .inr ⟨u0, by have := R1.out; have := S1.out; have := U1.out; unfold DiskV.sz; omega⟩, B3⟩

def DiskV.small (d : DiskV) : Prop := d.live.n ≤ 1048576 ∧ d.safe.n ≤ 1048576 ∧ d.ops.n ≤ 1048576
theorem DiskV.small_of {d : DiskV} (h : d.sz ≤ 1048576) : d.small := by
  unfold DiskV.sz at h
  exact ⟨by omega, by omega, by omega⟩
/-- the same disk, in rows of its own -/
def DiskV.row (w : World) (d : DiskV) (x y z : Nat) : Prop := w.rowIs x 72 (d.live.n * 2) (fileCell d.live.f) ∧ w.rowIs y 72 (d.safe.n * 2) (fileCell d.safe.f) ∧ w.rowIs z 37 (d.ops.n * 4) (opCell d.ops.f)
def DiskV.own (d : DiskV) (x y z : Nat) : DiskV := ⟨⟨some ⟨x, 0, none⟩, d.live.n, d.live.n, d.live.f⟩, ⟨some ⟨y, 0, none⟩, d.safe.n, d.safe.n, d.safe.f⟩, ⟨some ⟨z, 0, none⟩, d.ops.n, d.ops.n, d.ops.f⟩⟩
theorem rowUp {w w' : World} {b ty N : Nat} {G : Nat → Value} (h : w.rowIs b ty N G) (hb : Below w.heap.size w w') : w'.rowIs b ty N G := h.of_block (hb.block b h.lt)
theorem DiskV.row.below {w w' : World} {d : DiskV} {x y z : Nat} (h : d.row w x y z) (hb : Below w.heap.size w w') : d.row w' x y z := ⟨rowUp h.1 hb, rowUp h.2.1 hb, rowUp h.2.2 hb⟩
theorem DiskV.row.at {w v : World} {d : DiskV} {x y z : Nat} (h : d.row w x y z) (hd : d.at v) : (d.own x y z).at w :=
  ⟨⟨hd.1.1, FilesAt.row h.1, hd.1.2.2⟩, ⟨hd.2.1.1, FilesAt.row h.2.1, hd.2.1.2.2⟩, ⟨hd.2.2.1, DOpsAt.row h.2.2, hd.2.2.2.2⟩⟩
end Go.Proofs.Ytcdhhmedcplblaa
