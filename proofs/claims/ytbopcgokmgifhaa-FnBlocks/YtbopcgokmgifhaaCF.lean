/- BlockOf of the program, and its law. -/
import Derived.Test.YtbopcgokmgifhaaCE
namespace Go.Proofs.Ytbopcgokmgifhaa
open Go Go.RowKit Go.Deep Go.Maps

set_option maxRecDepth 100000 in
theorem implBlock_any (s : ByteArray) (b : Int) (w : World) :
    Calls Try.prog 6 #[.string s, .int .i64 b] w fun e w' => e = .returned (.int .i64 (blockAns s b)) ∧ Below w.heap.size w w' := by
  by_cases hs : s.size = 16
  · by_cases hb : 0 ≤ b
    · have hb' : ¬ b < 0 := by omega
      have E : Hid (blockAns s b = blkOf s b) := by show _ = _; rw [blockAns, if_pos ⟨hs, hb⟩]
      have HS := hid hs
      go_enter Try.func6, Try.ntmps6
      go_wp2_with (first | (go_at_call 12; refine (roundKeys_any s _ HS.out).mono ?_; rintro e w1 ⟨A, rfl, hA, h1⟩; have HA := hid hA) | (go_at_call 13; refine (blockOf_any s A b _ HA.out).mono ?_; rintro e w2 ⟨rfl, h2⟩))
      go_ret
      exact ⟨ret_int E.out.symm, h1.trans (h2.mono h1.size)⟩
    · have hb' : b < 0 := by omega
      have E : Hid (blockAns s b = -1) := by show _ = _; rw [blockAns, if_neg (by omega)]
      clear hb
      go_enter Try.func6, Try.ntmps6
      go_wp2
      go_ret
      exact ⟨ret_int E.out.symm, Below.refl _ _⟩
  · have hs' : ¬ (s.size : Int) = 16 := by omega
    have E : Hid (blockAns s b = -1) := by show _ = _; rw [blockAns, if_neg (by omega)]
    go_enter Try.func6, Try.ntmps6
    go_wp2
    go_ret
    exact ⟨ret_int E.out.symm, Below.refl _ _⟩

end Go.Proofs.Ytbopcgokmgifhaa
