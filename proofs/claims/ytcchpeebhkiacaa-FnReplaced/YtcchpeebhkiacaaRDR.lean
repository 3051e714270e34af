/- The reader that the drawn laws take their inputs from: what next, below and once leave. -/
import Derived.Test.YtcchpeebhkiacaaMS
import Derived.Maps.Own
namespace Go.Proofs.Ytcchpeebhkiacaa
open Go.RowKit Go.Deep Go.Maps

theorem grown_tie {a b c : World} {P : Nat} {row : Option Nat} (h : a.grownBy b (some P)) (k : b.grownBy c row) (hr : ∀ j, row = some j → a.heap.size ≤ j) : a.grownBy c (some P) :=
  ⟨k.os.trans h.os, k.tape.trans h.tape, k.output.trans h.output, Nat.le_trans h.size k.size, fun j hj hne => (k.block j (Nat.lt_of_lt_of_le hj h.size) (fun e => by have := hr j e.symm; omega)).trans (h.block j hj hne)⟩
theorem Blk.set1 {W : World} {P t : Nat} {x y : Value} (h : Blk W P (.cells #[x, y] t)) (v : Value) : Blk (W.setCell ⟨P, 1, none⟩ v) P (.cells #[x, v] t) := by
  unfold Blk at *
  simp [World.setCell, Array.getElem?_modify, h]
theorem Blk.grown {W W' : World} {P : Nat} {o : Obj} {row : Option Nat} (h : Blk W P o) (hg : W.grownBy W' row) (hne : some P ≠ row) : Blk W' P o := (hg.block P h.lt hne).trans h
theorem Blk.frozen2 {W : World} {P t : Nat} {x y : Value} (h : Blk W P (.cells #[x, y] t)) (i : Nat) : W.frozen? ⟨P, i, none⟩ = false := by
  unfold Blk at h
  simp [World.frozen?, h]
theorem grown_cell {w w' : World} {b : Nat} (hg : w.grownBy w' (some b)) {k o : Nat} (hk : k < w.heap.size) (hne : k ≠ b) : w'.cell? ⟨k, o, none⟩ = w.cell? ⟨k, o, none⟩ :=
  World.cell?_of_block (w := w) (hg.block k hk (fun e => hne (by simpa using e)))

/-- a slice of bytes lies there -/
def BytesAt (w : World) (a : Option Addr) (n : Nat) : Prop :=
  0 < n → ∃ b off, a = some ⟨b, off, none⟩ ∧ b < w.heap.size ∧ ∀ i, i < n → ∃ v : Int, w.cell? ⟨b, off + i, none⟩ = some (.int .u8 v) ∧ 0 ≤ v ∧ v < 256

/-- a reader at block rb over n bytes that were there in w0 -/
structure Rd (w0 w : World) (rb : Nat) (a : Option Addr) (n cap : Nat) : Prop where
  E : Below w0.heap.size w0 w
  le : w0.heap.size ≤ rb
  bytes : BytesAt w0 a n
  hn : n ≤ 1048576
  at' : ∃ p : Nat, p ≤ n ∧ Blk w rb (.cells #[.slice a n cap, .int .i64 p] 71)

theorem Rd.below {w0 w w' : World} {rb : Nat} {a : Option Addr} {n cap : Nat} (h : Rd w0 w rb a n cap) (hb : Below w.heap.size w w') : Rd w0 w' rb a n cap := by
  obtain ⟨E, le, by', hn, p, hp, hB⟩ := h
  exact ⟨E.trans (hb.mono E.size), le, by', hn, p, hp, hB.below hb⟩
theorem Rd.other {w0 w w' : World} {rb P : Nat} {a : Option Addr} {n cap : Nat} (h : Rd w0 w rb a n cap) (hg : w.grownBy w' (some P)) (hP : w0.heap.size ≤ P) (hne : rb ≠ P) : Rd w0 w' rb a n cap := by
  obtain ⟨E, le, by', hn, p, hp, hB⟩ := h
  exact ⟨E.grown hg E.size (fun j e => by cases e; exact hP), le, by', hn, p, hp, hB.grown hg (by simpa using hne)⟩
theorem Rd.drew {w0 w : World} {rb : Nat} {a : Option Addr} {n cap : Nat} (h : Rd w0 w rb a n cap) : Rd w0 w.drew rb a n cap := h.below (Below.refl _ _).drew
theorem Rd.lt {w0 w : World} {rb : Nat} {a : Option Addr} {n cap : Nat} (h : Rd w0 w rb a n cap) : rb < w.heap.size := by
  obtain ⟨_, _, _, _, p, _, hB⟩ := h
  exact hB.lt

theorem grown_pair {a b c : World} {P : Nat} (h : a.grownBy b (some P)) (k : b.grownBy c (some P)) : a.grownBy c (some P) :=
  ⟨k.os.trans h.os, k.tape.trans h.tape, k.output.trans h.output, Nat.le_trans h.size k.size, fun j hj hne => (k.block j (Nat.lt_of_lt_of_le hj h.size) hne).trans (h.block j hj hne)⟩

theorem grown_drew (w : World) (P : Nat) : w.grownBy w.drew (some P) := ⟨rfl, rfl, rfl, Nat.le_refl _, fun _ _ _ => rfl⟩

set_option maxRecDepth 100000 in
set_option maxHeartbeats 1000000 in
theorem next_any (w0 : World) (rb : Nat) (a : Option Addr) (n cap : Nat) (w : World) (h : Rd w0 w rb a n cap) :
    Calls Try.prog 60 #[.pointer (some ⟨rb, 0, none⟩)] w fun e w' => ∃ x : Int, e = .returned (.int .i64 x) ∧ 0 ≤ x ∧ x < 256 ∧ Rd w0 w' rb a n cap ∧ w.grownBy w' (some rb) := by
  obtain ⟨E, le, by', hn, p, hp, hB⟩ := h
  obtain ⟨x1, x2⟩ := hB.two
  have f1 := hB.frozen2 1
  by_cases t : p < n
  · obtain ⟨b, off, rfl, hlt, hc⟩ := by' (by omega)
    obtain ⟨v, hv, v0, v1⟩ := hc p t
    have r1 : w.cell? ⟨b, off + p, none⟩ = some (.int .u8 v) := (E.cell (p := ⟨b, off + p, none⟩) hlt).trans hv
    have hne : b ≠ rb := by omega
    have i0 : (0 : Int) ≤ (p : Int) := by omega
    have i1 : (p : Int) < (n : Int) := by omega
    have HB : Hid (Blk w rb (.cells #[.slice (some ⟨b, off, none⟩) n cap, .int .i64 p] 71)) := hB
    have HBY : Hid (BytesAt w0 (some ⟨b, off, none⟩) n) := by'
    clear hc hv hB by'
    go_enter Try.func60, Try.ntmps60
    go_wp2_with fail
    go_region_held3 (fun w' => w'.cell? ⟨rb, 0, none⟩ = some (.slice (some ⟨b, off, none⟩) n cap) ∧ w'.cell? ⟨rb, 1, none⟩ = some (.int .i64 p)) (go_keep) (fail)
    go_wp2_with fail
    have B2 : Blk (w.setCell ⟨rb, 1, none⟩ (.int .i64 ((p : Int) + 1))).drew rb (.cells #[.slice (some ⟨b, off, none⟩) n cap, .int .i64 ((p : Int) + 1)] 71) := HB.out.set1 _
    have g2 : w.grownBy (w.setCell ⟨rb, 1, none⟩ (.int .i64 ((p : Int) + 1))).drew (some rb) := grown_pair (grown_set (grown_refl _ _) _ _) (grown_drew _ _)
    generalize (w.setCell ⟨rb, 1, none⟩ (.int .i64 ((p : Int) + 1))).drew = W2 at *
    have r2 : W2.cell? ⟨b, off + p, none⟩ = some (.int .u8 v) := (grown_cell g2 (Nat.lt_of_lt_of_le hlt E.size) hne).trans r1
    obtain ⟨y1, y2⟩ := B2.two
    have w1 : IntKind.i64.wrap ((p : Int) + 1 - 1) = (p : Int) := by rw [IntKind.wrap_i64]; omega
    have w2 : IntKind.i64.wrap (p : Int) = (p : Int) := by rw [IntKind.wrap_i64]; omega
    clear x1 x2 f1 r1
    go_region_held3 (fun w' => w'.cell? ⟨rb, 0, none⟩ = some (.slice (some ⟨b, off, none⟩) n cap) ∧ w'.cell? ⟨rb, 1, none⟩ = some (.int .i64 ((p : Int) + 1)) ∧ w'.cell? ⟨b, off + p, none⟩ = some (.int .u8 v)) (go_keep) (fail)
    go_wp2
    go_ret
    refine ⟨_, rfl, ?_, ?_, Rd.drew ⟨E.grown g2 E.size (fun j e => by cases e; exact le), le, HBY.out, hn, p + 1, by omega, by simpa using B2⟩, grown_pair g2 (grown_drew _ _)⟩
    · rw [IntKind.wrap_i64]; omega
    · rw [IntKind.wrap_i64]; omega
  · have e : p = n := by omega
    subst e
    have HB : Hid (Blk w rb (.cells #[.slice a p cap, .int .i64 p] 71)) := hB
    have HBY : Hid (BytesAt w0 a p) := by'
    clear hB by'
    go_enter Try.func60, Try.ntmps60
    go_wp2_with fail
    go_region_held3 (fun w' => w'.cell? ⟨rb, 0, none⟩ = some (.slice a p cap) ∧ w'.cell? ⟨rb, 1, none⟩ = some (.int .i64 p)) (go_keep) (fail)
    go_wp2
    go_ret
    exact ⟨0, rfl, by omega, by omega, Rd.drew ⟨E, le, HBY.out, hn, p, hp, HB.out⟩, grown_drew _ _⟩

set_option maxRecDepth 100000 in
set_option maxHeartbeats 2000000 in
theorem below_any (w0 : World) (rb : Nat) (a : Option Addr) (n cap : Nat) (m : Nat) (w : World) (hm : m ≤ 65536) (h : Rd w0 w rb a n cap) :
    Calls Try.prog 34 #[.pointer (some ⟨rb, 0, none⟩), .int .i64 m] w fun e w' => ∃ x : Nat, e = .returned (.int .i64 x) ∧ x < m + 1 ∧ (1 ≤ m → x < m) ∧ Rd w0 w' rb a n cap ∧ w.grownBy w' (some rb) := by
  have HR : Hid (Rd w0 w rb a n cap) := h
  clear h
  by_cases t : m ≤ 1
  · have t' : (m : Int) ≤ 1 := by omega
    go_enter Try.func34, Try.ntmps34
    go_wp2
    go_ret
    exact ⟨0, rfl, by omega, by omega, HR.out, grown_refl _ _⟩
  · have t' : ¬ (m : Int) ≤ 1 := by omega
    have m0 : (m : Int) ≠ 0 := by omega
    by_cases t2 : m ≤ 256
    · have t2' : (m : Int) ≤ 256 := by omega
      go_enter Try.func34, Try.ntmps34
      go_wp2_with fail
      refine (next_any w0 rb a n cap _ HR.out).mono ?_
      rintro e w1 ⟨x, rfl, x0, x1, R1, g1⟩
      obtain ⟨y, rfl⟩ : ∃ y : Nat, x = y := ⟨x.toNat, by omega⟩
      have HR1 : Hid (Rd w0 w1 rb a n cap) := R1
      clear R1
      go_wp2
      go_ret
      refine ⟨y % m, ret_int ?_, ?_, fun _ => Nat.mod_lt _ (by omega), HR1.out, g1⟩
      · simp
      · have := Nat.mod_lt y (show 0 < m by omega); omega
    · have t2' : ¬ (m : Int) ≤ 256 := by omega
      go_enter Try.func34, Try.ntmps34
      go_wp2_with fail
      refine (next_any w0 rb a n cap _ HR.out).mono ?_
      rintro e w1 ⟨x, rfl, x0, x1, R1, g1⟩
      obtain ⟨y, rfl⟩ : ∃ y : Nat, x = y := ⟨x.toNat, by omega⟩
      have wy : IntKind.i64.wrap ((y : Int) * 256) = (y : Int) * 256 := by rw [IntKind.wrap_i64]; omega
      have HR1 : Hid (Rd w0 w1 rb a n cap) := R1
      clear R1
      go_wp2_with fail
      refine (next_any w0 rb a n cap _ HR1.out).mono ?_
      rintro e w2 ⟨x, rfl, x2, x3, R2, g2⟩
      obtain ⟨z, rfl⟩ : ∃ z : Nat, x = z := ⟨x.toNat, by omega⟩
      have wz : IntKind.i64.wrap ((y : Int) * 256 + (z : Int)) = (y : Int) * 256 + (z : Int) := by rw [IntKind.wrap_i64]; omega
      have yz : (0 : Int) ≤ (y : Int) * 256 + (z : Int) := by omega
      have HR2 : Hid (Rd w0 w2 rb a n cap) := R2
      clear R2
      go_wp2
      go_ret
      refine ⟨(y * 256 + z) % m, ret_int ?_, ?_, fun _ => Nat.mod_lt _ (by omega), HR2.out, grown_pair g1 g2⟩
      · simp
      · have := Nat.mod_lt (y * 256 + z) (show 0 < m by omega); omega

set_option maxRecDepth 100000 in
set_option maxHeartbeats 2000000 in
theorem once_any (w0 : World) (rb : Nat) (a : Option Addr) (n cap : Nat) (m : Nat) (w : World) (hm : m ≤ 65536) (h : Rd w0 w rb a n cap) :
    Calls Try.prog 39 #[.pointer (some ⟨rb, 0, none⟩), .int .i64 m] w fun e w' => ∃ t : Bool, e = .returned (.bool t) ∧ Rd w0 w' rb a n cap ∧ w.grownBy w' (some rb) := by
  have HR : Hid (Rd w0 w rb a n cap) := h
  clear h
  go_enter Try.func39, Try.ntmps39
  go_wp2_with fail
  refine (below_any w0 rb a n cap m _ hm HR.out).mono ?_
  rintro e w1 ⟨x, rfl, _, _, R1, g1⟩
  have HR1 : Hid (Rd w0 w1 rb a n cap) := R1
  have wm : IntKind.i64.wrap ((m : Int) - 1) = (m : Int) - 1 := by rw [IntKind.wrap_i64]; omega
  clear R1
  go_wp2
  go_ret
  exact ⟨_, rfl, HR1.out, g1⟩

set_option maxRecDepth 100000 in
set_option maxHeartbeats 2000000 in
theorem word_any (w0 : World) (rb : Nat) (a : Option Addr) (n cap : Nat) (w : World) (h : Rd w0 w rb a n cap) :
    Calls Try.prog 70 #[.pointer (some ⟨rb, 0, none⟩)] w fun e w' => ∃ x : Int, e = .returned (.int .u64 x) ∧ Rd w0 w' rb a n cap ∧ w.grownBy w' (some rb) := by
  have HR : Hid (Rd w0 w rb a n cap) := h
  clear h
  go_enter Try.func70, Try.ntmps70
  go_wp2
  go_loopw [3, 4] (fun v i wr => ∃ (k : Nat) (x : Int), k ≤ 8 ∧ i = .int .i64 k ∧ v = .int .u64 x ∧ Rd w0 wr rb a n cap ∧ w.grownBy wr (some rb)) (fun _ i _ => 8 - (intOf i).toNat)
  case atStart => exact ⟨0, 0, by omega, rfl, rfl, HR.out, grown_refl _ _⟩
  case round =>
    obtain ⟨k, x, hk, rfl, rfl, R1, g1⟩ := hrel
    have HR1 : Hid (Rd w0 wr rb a n cap) := R1
    clear R1
    by_cases t : k < 8
    · have t' : (k : Int) < 8 := by omega
      go_wp2_with fail
      refine (next_any w0 rb a n cap _ HR1.out).mono ?_
      rintro e w2 ⟨y, rfl, y0, y1, R2, g2⟩
      have HR2 : Hid (Rd w0 w2 rb a n cap) := R2
      clear R2
      go_wp2
      go_roundw
      case rel => exact ⟨k + 1, _, by omega, by go_num, rfl, HR2.out, grown_pair g1 g2⟩
      case measure => simp [intOf]; omega
    · have t' : ¬ (k : Int) < 8 := by omega
      go_wp2
      go_ret
      exact ⟨⟨x, rfl⟩, HR1.out, g1⟩

set_option maxRecDepth 100000 in
set_option maxHeartbeats 2000000 in
theorem near_any (w0 : World) (rb : Nat) (a : Option Addr) (n cap : Nat) (lo hi : Nat) (w : World) (hl : lo ≤ hi) (hh : hi ≤ 1000) (h : Rd w0 w rb a n cap) :
    Calls Try.prog 61 #[.pointer (some ⟨rb, 0, none⟩), .int .i64 lo, .int .i64 hi] w fun e w' => ∃ x : Int, e = .returned (.int .i64 x) ∧ Rd w0 w' rb a n cap ∧ w.grownBy w' (some rb) := by
  have HR : Hid (Rd w0 w rb a n cap) := h
  clear h
  have w1 : IntKind.i64.wrap ((hi : Int) - lo) = (hi : Int) - lo := by rw [IntKind.wrap_i64]; omega
  have w2 : IntKind.i64.wrap ((hi : Int) - lo + 1) = (hi : Int) - lo + 1 := by rw [IntKind.wrap_i64]; omega
  have nl : ¬ (hi : Int) < (lo : Int) := by omega
  go_enter Try.func61, Try.ntmps61
  go_wp2_with fail
  refine (below_any w0 rb a n cap 8 _ (by omega) HR.out).mono ?_
  rintro e u1 ⟨x, rfl, _, x8, R1, g1⟩
  have HR1 : Hid (Rd w0 u1 rb a n cap) := R1
  clear R1
  by_cases t0 : x = 0
  · subst t0
    go_wp2
    go_ret
    exact ⟨_, rfl, HR1.out, g1⟩
  · by_cases t1 : x = 1
    · subst t1
      go_wp2
      go_ret
      exact ⟨_, rfl, HR1.out, g1⟩
    · have t0' : ((x : Int) == 0) = false := by simpa using t0
      have t1' : ((x : Int) == 1) = false := by simp; omega
      go_wp2_with fail
      refine (word_any w0 rb a n cap _ HR1.out).mono ?_
      rintro e u2 ⟨y, rfl, R2, g2⟩
      have HR2 : Hid (Rd w0 u2 rb a n cap) := R2
      clear R2
      have m1 : IntKind.u64.wrap ((hi : Int) - lo + 1) = (hi : Int) - lo + 1 := by rw [IntKind.wrap_u64]; omega
      have m0 : ¬ ((hi : Int) - lo + 1) = 0 := by omega
      go_wp2
      go_ret
      exact ⟨_, rfl, HR2.out, grown_pair g1 g2⟩
end Go.Proofs.Ytcchpeebhkiacaa
