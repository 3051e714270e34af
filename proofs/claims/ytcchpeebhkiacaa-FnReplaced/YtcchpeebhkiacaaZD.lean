/- The reader: how it is opened, its short texts, its sizes. -/
import Derived.Test.YtcchpeebhkiacaaRDR
import Derived.Test.YtcchpeebhkiacaaDK
namespace Go.Proofs.Ytcchpeebhkiacaa
open Go Go.RowKit Go.Deep Go.Maps
open Go.WideShapes (add_plain)

theorem l1Open_any (a : Option Addr) (n cap : Nat) (w : World) (hn : n ≤ 1048576) (hb : BytesAt w a n) :
    Calls Try.prog 20 #[.slice a n cap] w fun e w' => ∃ rb, e = .returned (.pointer (some ⟨rb, 0, none⟩)) ∧ Rd w w' rb a n cap := by
  have R : Rd w (w.alloc (.cells #[.slice a n cap, .int .i64 0] 71)) w.heap.size a n cap :=
    ⟨(Below.refl _ w).alloc (Nat.le_refl _) _, Nat.le_refl _, hb, hn, 0, Nat.zero_le _, Blk.new w _⟩
  have HR : Hid (Rd w (w.alloc (.cells #[.slice a n cap, .int .i64 0] 71)) w.heap.size a n cap) := R
  clear R hb
  go_enter Try.func20, Try.ntmps20
  go_wp2
  go_ret
  exact ⟨_, rfl, HR.out⟩

theorem big_any (a : Option Addr) (n cap : Nat) (w : World) : Calls Try.prog 6 #[.slice a n cap] w fun e w' => e = .returned (.bool (decide (1048576 < n))) ∧ w' = w := by
  go_enter Try.func6, Try.ntmps6
  go_wp2
  go_ret
  refine ⟨ret_bool ?_, rfl⟩
  congr 1
  apply propext
  omega
set_option maxRecDepth 100000 in
set_option maxHeartbeats 2000000 in
theorem rdText_any (w0 : World) (rb : Nat) (a : Option Addr) (n cap : Nat) (w : World) (h : Rd w0 w rb a n cap) :
    Calls Try.prog 40 #[.pointer (some ⟨rb, 0, none⟩)] w fun e w' => ∃ s : ByteArray, e = .returned (.string s) ∧ s.size ≤ 6 ∧ Rd w0 w' rb a n cap ∧ w.grownBy w' (some rb) := by
  have hrb : rb < w.heap.size := h.lt
  have K0 := (Below.refl _ w).alloc (Nat.le_refl _) (.cells #[.string ⟨#[]⟩, .string ⟨#[97]⟩, .string ⟨#[98]⟩, .string ⟨#[97, 98]⟩, .string ⟨#[115, 101, 99, 114, 101, 116]⟩, .string ⟨#[120, 32, 121]⟩] 9)
  have A0 := Blk.new w (.cells #[.string ⟨#[]⟩, .string ⟨#[97]⟩, .string ⟨#[98]⟩, .string ⟨#[97, 98]⟩, .string ⟨#[115, 101, 99, 114, 101, 116]⟩, .string ⟨#[120, 32, 121]⟩] 9)
  have R0 := h.below K0
  have g0 := World.grownBy_alloc w (.cells #[.string ⟨#[]⟩, .string ⟨#[97]⟩, .string ⟨#[98]⟩, .string ⟨#[97, 98]⟩, .string ⟨#[115, 101, 99, 114, 101, 116]⟩, .string ⟨#[120, 32, 121]⟩] 9) (some rb)
  go_enter Try.func40, Try.ntmps40
  go_wp2_with fail
  refine (below_any w0 rb a n cap 6 _ (by omega) R0).mono ?_
  rintro e w1 ⟨x, rfl, _, hx6, R1, hg1⟩
  have hx : x < 6 := hx6 (by omega)
  have A1 := A0.grown hg1 (by simp; omega)
  have G1 : w.grownBy w1 (some rb) := grown_pair g0 hg1
  unfold Blk at A1
  clear K0 R0 g0 hg1 h A0
  have c0 : w1.cell? ⟨w.heap.size, 0, none⟩ = some (.string ⟨#[]⟩) := by simp [World.cell?, A1]
  have c1 : w1.cell? ⟨w.heap.size, 1, none⟩ = some (.string ⟨#[97]⟩) := by simp [World.cell?, A1]
  have c2 : w1.cell? ⟨w.heap.size, 2, none⟩ = some (.string ⟨#[98]⟩) := by simp [World.cell?, A1]
  have c3 : w1.cell? ⟨w.heap.size, 3, none⟩ = some (.string ⟨#[97, 98]⟩) := by simp [World.cell?, A1]
  have c4 : w1.cell? ⟨w.heap.size, 4, none⟩ = some (.string ⟨#[115, 101, 99, 114, 101, 116]⟩) := by simp [World.cell?, A1]
  have c5 : w1.cell? ⟨w.heap.size, 5, none⟩ = some (.string ⟨#[120, 32, 121]⟩) := by simp [World.cell?, A1]
  clear A1 hx6
  obtain rfl | rfl | rfl | rfl | rfl | rfl : x = 0 ∨ x = 1 ∨ x = 2 ∨ x = 3 ∨ x = 4 ∨ x = 5 := by omega
  all_goals
    go_wp2
    go_ret
    exact ⟨_, rfl, by decide, R1, G1⟩

end Go.Proofs.Ytcchpeebhkiacaa
/- The reader's sizes. -/
namespace Go.Proofs.Ytcchpeebhkiacaa
open Go Go.RowKit Go.Deep Go.Maps

set_option maxRecDepth 100000 in
set_option maxHeartbeats 2000000 in
theorem size_any (w0 : World) (rb : Nat) (a : Option Addr) (n cap : Nat) (w : World) (h : Rd w0 w rb a n cap) :
    Calls Try.prog 45 #[.pointer (some ⟨rb, 0, none⟩), .int .i64 3, .int .i64 10] w fun e w' => ∃ x : Nat, e = .returned (.int .i64 x) ∧ x ≤ 10 ∧ Rd w0 w' rb a n cap ∧ w.grownBy w' (some rb) := by
  obtain ⟨p, hp, B⟩ := h.at'
  have hn := h.hn
  have HR := hid h
  obtain ⟨c0, c1⟩ := B.two
  have et : (n : Int).tdiv 3 = ((n / 3 : Nat) : Int) := by rw [Int.tdiv_eq_ediv_of_nonneg (by omega)]; omega
  have w1 : IntKind.i64.wrap ((n / 3 : Nat) : Int) = ((n / 3 : Nat) : Int) := by rw [IntKind.wrap_i64]; omega
  clear h B
  by_cases hb : 10 < 1 + n / 3
  · have C := hid (below_any w0 rb a n cap 10 w (by omega) HR.out)
    have hb' : (10 : Int) < 1 + ((n / 3 : Nat) : Int) := by omega
    go_enter Try.func45, Try.ntmps45
    go_wp2_with fail
    refine C.out.mono ?_
    rintro e w1 ⟨x, rfl, _, hx, R1, hg1⟩
    have hx' : x < 10 := hx (by omega)
    go_wp2
    go_ret
    exact ⟨x + 1, by first | go_num | (congr 1; omega), by omega, R1, hg1⟩
  · have C := hid (below_any w0 rb a n cap (1 + n / 3) w (by omega) HR.out)
    have hb' : ¬ (10 : Int) < 1 + ((n / 3 : Nat) : Int) := by omega
    have e2 : ((1 + n / 3 : Nat) : Int) = 1 + ((n / 3 : Nat) : Int) := by omega
    rw [e2] at C
    go_enter Try.func45, Try.ntmps45
    go_wp2_with fail
    refine C.out.mono ?_
    rintro e w1 ⟨x, rfl, _, hx, R1, hg1⟩
    have hx' : x < 1 + n / 3 := hx (by omega)
    go_wp2
    go_ret
    exact ⟨x + 1, by first | go_num | (congr 1; omega), by omega, R1, hg1⟩
end Go.Proofs.Ytcchpeebhkiacaa
/- The reader's ops. -/
namespace Go.Proofs.Ytcchpeebhkiacaa
open Go Go.RowKit Go.Deep Go.Maps

theorem op_results {F : Func} (tmps : Array Value) (W : World) (P : Nat) (x y z u : Value) (hF : F.results = #[.cell 2 36]) (h : Blk W P (.cells #[x, y, z, u] 36)) (h2 : tmps[2]? = some (.pointer (some ⟨P, 0, none⟩))) :
    (results F tmps).run Try.prog W = .ok (.agg #[x, y, z, u]) W := by
  obtain ⟨z0, z1, z2, z3⟩ := h.four
  simp [results, hF, go_sem, h2, z0, z1, z2, z3]
theorem Blk.put4 {W : World} {P t : Nat} {a b c d : Value} (h : Blk W P (.cells #[a, b, c, d] t)) (x y z u : Value) : Blk ((((W.setCell ⟨P, 0, none⟩ x).setCell ⟨P, 1, none⟩ y).setCell ⟨P, 2, none⟩ z).setCell ⟨P, 3, none⟩ u) P (.cells #[x, y, z, u] t) := (((h.setAt (i := 0) x).setAt (i := 1) y).setAt (i := 2) z).setAt (i := 3) u
/-- a new block's cells may be set: what was there stays -/
theorem grown_new {w W : World} {rb P i : Nat} {v : Value} (h : w.grownBy W (some rb)) (hP : w.heap.size ≤ P) : w.grownBy (W.setCell ⟨P, i, none⟩ v) (some rb) :=
  ⟨h.os, h.tape, h.output, by rw [nblk_setCell]; exact h.size, fun j hj hne => (blk_setCell_other _ _ _ _ (by dsimp only; omega)).trans (h.block j hj hne)⟩
theorem Rd.new {w0 W : World} {rb P i : Nat} {a : Option Addr} {n cap : Nat} {v : Value} (h : Rd w0 W rb a n cap) (hP : w0.heap.size ≤ P) (hne : P ≠ rb) : Rd w0 (W.setCell ⟨P, i, none⟩ v) rb a n cap := by
  obtain ⟨E, le, by_, hn, p, hp, B⟩ := h
  exact ⟨E.setCell hP v, le, by_, hn, p, hp, B.other hne v⟩
theorem text4 {W : World} {P x : Nat} {s0 s1 s2 s3 : ByteArray} {t m : Nat} (h : Blk W P (.cells #[.string s0, .string s1, .string s2, .string s3] t)) (hx : x < 4) (h0 : s0.size ≤ m ∧ s1.size ≤ m ∧ s2.size ≤ m ∧ s3.size ≤ m) : ∃ s : ByteArray, W.cell? ⟨P, x, none⟩ = some (.string s) ∧ s.size ≤ m := by
  obtain ⟨z0, z1, z2, z3⟩ := h.four
  obtain rfl | rfl | rfl | rfl : x = 0 ∨ x = 1 ∨ x = 2 ∨ x = 3 := by omega
  · exact ⟨_, z0, h0.1⟩
  · exact ⟨_, z1, h0.2.1⟩
  · exact ⟨_, z2, h0.2.2.1⟩
  · exact ⟨_, z3, h0.2.2.2⟩
theorem text3 {W : World} {P x : Nat} {s0 s1 s2 : ByteArray} {t m : Nat} (h : Blk W P (.cells #[.string s0, .string s1, .string s2] t)) (hx : x < 3) (h0 : s0.size ≤ m ∧ s1.size ≤ m ∧ s2.size ≤ m) : ∃ s : ByteArray, W.cell? ⟨P, x, none⟩ = some (.string s) ∧ s.size ≤ m := by
  obtain ⟨z0, z1, z2⟩ := h.three
  obtain rfl | rfl | rfl : x = 0 ∨ x = 1 ∨ x = 2 := by omega
  · exact ⟨_, z0, h0.1⟩
  · exact ⟨_, z1, h0.2.1⟩
  · exact ⟨_, z2, h0.2.2⟩
set_option maxRecDepth 100000 in
set_option maxHeartbeats 4000000 in
theorem dop_any (w0 : World) (rb : Nat) (a : Option Addr) (n cap : Nat) (w : World) (h : Rd w0 w rb a n cap) :
    Calls Try.prog 33 #[.pointer (some ⟨rb, 0, none⟩)] w fun e w' => ∃ o : OpV, e = .returned o.val ∧ (o.name.size ≤ 8 ∧ o.to.size ≤ 8 ∧ o.data.size ≤ 8) ∧ Rd w0 w' rb a n cap ∧ w.grownBy w' (some rb) := by
  have hrb : rb < w.heap.size := h.lt
  have l0 : w0.heap.size ≤ w.heap.size := h.E.size
  obtain ⟨Z, hZ⟩ : ∃ Z, Z = Obj.cells #[.int .i64 0, .string ⟨#[]⟩, .string ⟨#[]⟩, .string ⟨#[]⟩] 36 := ⟨_, rfl⟩
  obtain ⟨T, hT⟩ : ∃ T, T = Obj.cells #[.string ⟨#[108, 111, 103]⟩, .string ⟨#[98, 97, 115, 101]⟩, .string ⟨#[98, 97, 115, 101, 46, 110, 101, 119]⟩, .string ⟨#[98]⟩] 9 := ⟨_, rfl⟩
  have K0 : Below w.heap.size w ((w.alloc Z).alloc T) := ((Below.refl _ w).alloc (Nat.le_refl _) _).alloc (by simp) _
  have Z0 : Blk ((w.alloc Z).alloc T) w.heap.size Z := (Blk.new w Z).alloc T
  have T0 : Blk ((w.alloc Z).alloc T) (w.heap.size + 1) T := by have := Blk.new (w.alloc Z) T; simpa using this
  have R0 := h.below K0
  have g0 : w.grownBy ((w.alloc Z).alloc T) (some rb) := grown_of_below' (some rb) K0
  subst hZ hT
  clear h K0
  go_enter Try.func33, Try.ntmps33
  go_wp2_with fail
  refine (below_any w0 rb a n cap 4 _ (by omega) R0).mono ?_
  rintro e w1 ⟨x, rfl, _, hx4, R1, hg1⟩
  have hx : x < 4 := hx4 (by omega)
  have Z1 := Z0.grown hg1 (by simp; omega)
  have T1 := T0.grown hg1 (by simp; omega)
  have G1 : w.grownBy w1 (some rb) := grown_pair g0 hg1
  obtain ⟨s, cs, hs⟩ := text4 (m := 8) T1 hx (by decide)
  have hx' : (x : Int) < 4 := by omega
  have hx0 : (0 : Int) ≤ (x : Int) := by omega
  clear R0 g0 hg1 Z0 T0 hx4 T1
  go_wp2_with fail
  refine (below_any w0 rb a n cap 5 _ (by omega) R1).mono ?_
  rintro e w2 ⟨y, rfl, _, hy5, R2, hg2⟩
  have hy : y < 5 := hy5 (by omega)
  have Z2 := Z1.grown hg2 (by simp; omega)
  have G2 : w.grownBy w2 (some rb) := grown_pair G1 hg2
  clear R1 hg2 hy5 cs Z1 G1
  by_cases y0 : y = 0
  · subst y0
    obtain ⟨U, hU⟩ : ∃ U, U = Obj.cells #[.string ⟨#[108, 111, 103]⟩, .string ⟨#[98, 97, 115, 101]⟩, .string ⟨#[99]⟩] 9 := ⟨_, rfl⟩
    have K2 : Below w2.heap.size w2 (w2.alloc U) := (Below.refl _ w2).alloc (Nat.le_refl _) _
    have U2 := Blk.new w2 U
    have Z2' := Z2.below K2
    have R2' := R2.below K2
    have G2' : w.grownBy (w2.alloc U) (some rb) := grown_pair G2 (grown_of_below' (some rb) K2)
    have lr := R2.lt
    have lz := Z2.lt
    subst hU
    have C := hid (below_any w0 rb a n cap 3 _ (by omega) R2')
    clear R2 G2 K2 R2'
    go_wp2_with fail
    refine C.out.mono ?_
    rintro e w3 ⟨v, rfl, _, hv3, R3, hg3⟩
    have hv : v < 3 := hv3 (by omega)
    have Z3 := Z2'.grown hg3 (by simp; omega)
    have U3 := U2.grown hg3 (by simp; omega)
    have G3 : w.grownBy w3 (some rb) := grown_pair G2' hg3
    obtain ⟨u, cu, hu⟩ := text3 (m := 8) U3 hv (by decide)
    have hv' : (v : Int) < 3 := by omega
    have hv0 : (0 : Int) ≤ (v : Int) := by omega
    obtain ⟨z0, z1, z2, z3⟩ := Z3.four
    have zf := Z3.warm
    clear hg3 C hv3 U3 Z2 Z2' U2 G2'
    go_wp2
    refine bodyPost_ret (op_results _ _ w.heap.size _ _ _ _ Try.results33 (Z3.put4 _ _ _ _) rfl) rfl ⟨⟨2, s, u, ⟨#[]⟩⟩, rfl, ⟨hs, hu, Nat.zero_le _⟩, ?_, ?_⟩
    · iterate 4 refine Rd.new ?_ l0 (by omega)
      exact R3
    · iterate 4 refine grown_new ?_ (Nat.le_refl _)
      exact G3
  by_cases y1 : y = 1
  · subst y1
    obtain ⟨z0, z1, z2, z3⟩ := Z2.four
    have zf := Z2.warm
    go_wp2
    refine bodyPost_ret (op_results _ _ w.heap.size _ _ _ _ Try.results33 (Z2.put4 _ _ _ _) rfl) rfl ⟨⟨3, s, ⟨#[]⟩, ⟨#[]⟩⟩, rfl, ⟨hs, Nat.zero_le _, Nat.zero_le _⟩, ?_, ?_⟩
    · iterate 4 refine Rd.new ?_ l0 (by omega)
      exact R2
    · iterate 4 refine grown_new ?_ (Nat.le_refl _)
      exact G2
  · have C := hid (rdText_any w0 rb a n cap _ R2)
    have y0' : ¬ (y : Int) = 0 := by omega
    have y1' : ¬ (y : Int) = 1 := by omega
    go_wp2_with fail
    refine C.out.mono ?_
    rintro e w3 ⟨u, rfl, hu, R3, hg3⟩
    have Z3 := Z2.grown hg3 (by simp; omega)
    have G3 : w.grownBy w3 (some rb) := grown_pair G2 hg3
    obtain ⟨z0, z1, z2, z3⟩ := Z3.four
    have zf := Z3.warm
    clear hg3 C
    go_wp2
    refine bodyPost_ret (op_results _ _ w.heap.size _ _ _ _ Try.results33 (Z3.put4 _ _ _ _) rfl) rfl ⟨⟨1, s, ⟨#[]⟩, u⟩, rfl, ⟨hs, Nat.zero_le _, Nat.le_trans hu (by decide)⟩, ?_, ?_⟩
    · iterate 4 refine Rd.new ?_ l0 (by omega)
      exact R3
    · iterate 4 refine grown_new ?_ (Nat.le_refl _)
      exact G3
end Go.Proofs.Ytcchpeebhkiacaa
