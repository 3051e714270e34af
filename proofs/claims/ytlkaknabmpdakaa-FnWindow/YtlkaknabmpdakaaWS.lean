/- FnWindow: what DrawTaken draws; the law. -/
import Derived.Test.YtlkaknabmpdakaaWR
import Derived.Test.YtlkaknabmpdakaaRN
import Derived.Deep.RegionHeld3
namespace Go.Proofs.Ytlkaknabmpdakaa
open Go Go.RowKit Go.Deep Go.Maps

theorem BytesAt.below {w w' : World} {a : Option Addr} {n : Nat} (h : BytesAt w a n) (hb : Below w.heap.size w w') : BytesAt w' a n := fun h0 => by
  obtain ⟨b, off, e, lt, hc⟩ := h h0
  refine ⟨b, off, e, Nat.lt_of_lt_of_le lt hb.size, fun i hi => ?_⟩
  obtain ⟨v, hv, h1⟩ := hc i hi
  exact ⟨v, (hb.cell (p := ⟨b, off + i, none⟩) lt).trans hv, h1⟩

set_option maxRecDepth 100000 in
set_option maxHeartbeats 2000000 in
theorem drawTaken_any (a : Option Addr) (n cap : Nat) (w : World) (hn : n ≤ 1048576) (hb : BytesAt w a n) :
    Calls Try.prog 7 #[.slice a n cap] w fun e w' => ∃ t b x : Int, e = .returned (.tuple #[.agg #[.int .i64 t, .int .i64 b], .int .i64 x]) ∧ Below w.heap.size w w' := by
  have K0 := (Below.refl _ w).alloc (Nat.le_refl _) (.cells #[.int .i64 0, .int .i64 0] 25)
  have X0 := Blk.new w (.cells #[.int .i64 0, .int .i64 0] 25)
  have HB := hid (hb.below K0)
  clear hb
  go_enter Try.func7, Try.ntmps7
  go_wp2_with fail
  have lz := X0.lt
  generalize w.alloc (.cells #[.int .i64 0, .int .i64 0] 25) = V0 at *
  refine (l1Open_any a n cap _ hn HB.out).mono ?_
  rintro e w1 ⟨rb, rfl, R1⟩
  have X1 := X0.below R1.E
  have rle := R1.le
  go_wp2_with fail
  refine (rdWindow_any V0 rb a n cap _ R1).mono ?_
  rintro e w2 ⟨t, b, rfl, R2, g2⟩
  have l1 := R1.lt
  have X2 := (X1.grown g2 (by simp; omega)).alloc (.cells #[.int .i64 t, .int .i64 b] 25)
  have Y2 := Blk.new w2 (.cells #[.int .i64 t, .int .i64 b] 25)
  have R2' := R2.below ((Below.refl _ w2).alloc (Nat.le_refl _) (.cells #[.int .i64 t, .int .i64 b] 25))
  have l2 := R2.lt
  have lx : w.heap.size < w2.heap.size := (X1.grown g2 (by simp; omega)).lt
  clear X0 X1 R1 R2 g2 HB
  go_wp2_with fail
  generalize w2.alloc (.cells #[.int .i64 t, .int .i64 b] 25) = V2 at *
  refine (once_any V0 rb a n cap 8 _ (by omega) R2').mono ?_
  rintro e w3 ⟨q, rfl, R3, g3⟩
  have X3 := X2.grown g3 (by simp; omega)
  have Y3 := Y2.grown g3 (by simp; omega)
  clear X2 Y2 R2' g3
  have R3d : Hid (Rd V0 w3.drew rb a n cap) := R3.drew
  have Y3d : Hid (Blk w3.drew w2.heap.size (.cells #[.int .i64 t, .int .i64 b] 25)) := Y3
  have X3d : Hid (Blk w3.drew w.heap.size (.cells #[.int .i64 0, .int .i64 0] 25)) := X3
  obtain ⟨y0, y1⟩ := Y3.two
  have nP : some w2.heap.size ≠ some rb := by simp; omega
  have nX : some w.heap.size ≠ some rb := by simp; omega
  have ne1 : ¬ w2.heap.size = w.heap.size := by omega
  have ne2 : ¬ w.heap.size = w2.heap.size := by omega
  clear X3 Y3 R3
  cases q with
  | true =>
    go_wp2_with fail
    go_region_held3 (fun w' => w'.cell? ⟨w2.heap.size, 0, none⟩ = some (.int .i64 t) ∧ w'.cell? ⟨w2.heap.size, 1, none⟩ = some (.int .i64 b)) (go_keep)
      (first | (go_at_call 24; refine (off_big V0 rb a n cap 0 1099511627776 _ (by decide) (by decide) R3d.out).mono ?_; rintro e w4 ⟨x, rfl, R4, g4⟩; obtain ⟨k0, k1⟩ := (Y3d.out.grown g4 nP).two; have X4 := X3d.out.grown g4 nX; obtain ⟨x0, x1⟩ := X4.two; have fx := X4.frozen2))
    all_goals
      go_wp2
      refine bodyPost_ret (v := .tuple #[.agg #[.int .i64 t, .int .i64 b], .int .i64 x]) (by simp [results, Try.results7, go_sem, x0, x1]) rfl ⟨t, b, x, rfl, ?_⟩
      exact (K0.trans (R4.E.mono (by omega))).setCell (Nat.le_refl _) _ |>.setCell (Nat.le_refl _) _
  | false =>
    go_wp2_with fail
    go_region_held3 (fun w' => w'.cell? ⟨w2.heap.size, 0, none⟩ = some (.int .i64 t) ∧ w'.cell? ⟨w2.heap.size, 1, none⟩ = some (.int .i64 b)) (go_keep)
      (first | (go_at_call 25; refine (below_any V0 rb a n cap 70 _ (by decide) R3d.out).mono ?_; rintro e w4 ⟨x, rfl, _, _, R4, g4⟩; obtain ⟨k0, k1⟩ := (Y3d.out.grown g4 nP).two; have X4 := X3d.out.grown g4 nX; obtain ⟨x0, x1⟩ := X4.two; have fx := X4.frozen2))
    all_goals
      go_wp2
      refine bodyPost_ret (v := .tuple #[.agg #[.int .i64 t, .int .i64 b], .int .i64 x]) (by simp [results, Try.results7, go_sem, x0, x1]) rfl ⟨t, b, x, rfl, ?_⟩
      exact (K0.trans (R4.E.mono (by omega))).setCell (Nat.le_refl _) _ |>.setCell (Nat.le_refl _) _

theorem fnWindow_all (a : Option Addr) (n cap : Nat) (w : World) (hb : BytesAt w a n) :
    Calls Try.prog 3 #[.slice a n cap] w fun e w' => e = .returned (.bool true) ∧ Below w.heap.size w w' :=
  fnWindow_walk a n cap w (fun hn => drawTaken_any a n cap w hn hb)
end Go.Proofs.Ytlkaknabmpdakaa
