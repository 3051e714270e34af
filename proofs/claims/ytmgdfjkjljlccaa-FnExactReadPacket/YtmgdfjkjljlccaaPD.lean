/- FnExactPacketText: the walk; packets in the exact laws: their budget, copies and comparison. -/
import Derived.Test.YtmgdfjkjljlccaaPB
import Derived.Test.YtmgdfjkjljlccaaPC
namespace Go.Proofs.Ytmgdfjkjljlccaa
open Go Go.RowKit Go.Deep Go.Maps

theorem szPacket_any (f t k : Int) (B : List UInt8) (w : World) (hn : B.length ≤ maxLen) :
    Calls Try.prog 8 #[.agg #[.int .i64 f, .int .i64 t, .int .i64 k, .string ⟨B.toArray⟩], .int .i64 1048576] w fun e w' => (∃ r : Int, e = .returned (.int .i64 r) ∧ (r = -1 ∨ 0 ≤ r)) ∧ Below w.heap.size w w' := by
  unfold maxLen at hn
  have hb0 := (Below.refl _ w).alloc (Nat.le_refl _) (.cells #[.int .i64 f, .int .i64 t, .int .i64 k, .string ⟨B.toArray⟩] 25)
  go_enter Try.func8, Try.ntmps8
  go_wp2
  · go_ret
    exact ⟨⟨_, rfl, .inl rfl⟩, hb0⟩
  · go_ret
    refine ⟨⟨_, rfl, .inr ?_⟩, hb0⟩
    exact ‹(0 : Int) ≤ 1048576 - (B.length : Int)›

theorem toPacket_any (f t k : Int) (B : List UInt8) (w : World) :
    Calls Try.prog 10 #[.agg #[.int .i64 f, .int .i64 t, .int .i64 k, .string ⟨B.toArray⟩]] w fun e w' => e = .returned (.agg #[.int .i64 f, .int .i64 t, .int .i64 k, .string ⟨B.toArray⟩]) ∧ Below w.heap.size w w' := by
  go_enter Try.func10, Try.ntmps10
  go_wp2
  exact bodyPost_ret (v := .agg #[.int .i64 f, .int .i64 t, .int .i64 k, .string ⟨B.toArray⟩]) (by simp [results, Try.results10, go_sem]) rfl ⟨rfl, (((Below.refl _ _).alloc (Nat.le_refl _) _).alloc (by simp) _).alloc (by simp; omega) _⟩

theorem eqPacket_true (f t k : Int) (B : List UInt8) (w : World) :
    Calls Try.prog 14 #[.agg #[.int .i64 f, .int .i64 t, .int .i64 k, .string ⟨B.toArray⟩], .agg #[.int .i64 f, .int .i64 t, .int .i64 k, .string ⟨B.toArray⟩]] w fun e w' => e = .returned (.bool true) ∧ Below w.heap.size w w' := by
  go_enter Try.func14, Try.ntmps14
  go_wp2
  go_ret
  exact ⟨rfl, ((Below.refl _ _).alloc (Nat.le_refl _) _).alloc (by simp) _⟩

set_option maxHeartbeats 1000000 in
theorem exactPacketText_walk (f t k : Int) (B : List UInt8) (w : World) (hn : B.length ≤ maxLen) :
    Calls Try.prog 4 #[.agg #[.int .i64 f, .int .i64 t, .int .i64 k, .string ⟨B.toArray⟩]] w fun e w' => e = .returned (.bool true) ∧ Below w.heap.size w w' := by
  have hb0 := (Below.refl _ w).alloc (Nat.le_refl _) (.cells #[.int .i64 f, .int .i64 t, .int .i64 k, .string ⟨B.toArray⟩] 25)
  have A0 := Blk.new w (.cells #[.int .i64 f, .int .i64 t, .int .i64 k, .string ⟨B.toArray⟩] 25)
  have z0 := A0.lt
  have hS := fun v => specText_any f t k B v hn
  have hI := fun v => implText_any f t k B v
  generalize (⟨(ptext f t k B).toArray⟩ : ByteArray) = T at *
  go_enter Try.func4, Try.ntmps4
  go_wp2_with fail
  generalize w.alloc (.cells #[.int .i64 f, .int .i64 t, .int .i64 k, .string ⟨B.toArray⟩] 25) = V at *
  refine (szPacket_any f t k B _ hn).mono ?_
  rintro e w1 ⟨⟨r, rfl, hr⟩, hb1⟩
  have A1 := A0.below hb1
  have L1 : Below w.heap.size w w1 := hb0.trans (hb1.mono (by omega))
  clear A0 hb1 hb0 z0
  rcases hr with rfl | hr
  · go_wp2
    go_ret
    exact ⟨rfl, L1⟩
  · obtain ⟨x0, x1, x2, x3⟩ := A1.four
    have z1 := A1.lt
    go_wp2_with fail
    refine (toPacket_any f t k B _).mono ?_
    rintro e w2 ⟨rfl, hb2⟩
    have A2 := A1.below hb2
    have L2 : Below w.heap.size w w2 := L1.trans (hb2.mono (by omega))
    clear x0 x1 x2 x3 A1 L1 hb2 z1
    go_wp2_with fail
    refine (hS _).mono ?_
    rintro e w3 ⟨rfl, hb3⟩
    have A3 := A2.below hb3
    have z3 := A3.lt
    have L3 : Below w.heap.size w w3 := L2.trans (hb3.mono (Nat.le_of_lt A2.lt))
    obtain ⟨x0, x1, x2, x3⟩ := A3.four
    clear A2 L2 hb3 hS
    go_wp2_with fail
    refine (toPacket_any f t k B _).mono ?_
    rintro e w4 ⟨rfl, hb4⟩
    have L4 : Below w.heap.size w w4 := L3.trans (hb4.mono (by omega))
    clear x0 x1 x2 x3 A3 L3 hb4 z3
    go_wp2_with fail
    refine (hI _).mono ?_
    rintro e w5 ⟨rfl, hb5⟩
    have L5 : Below w.heap.size w w5 := L4.trans (hb5.mono L4.size)
    clear hb5 L4
    go_wp2
    go_ret
    exact ⟨rfl, L5⟩
end Go.Proofs.Ytmgdfjkjljlccaa
