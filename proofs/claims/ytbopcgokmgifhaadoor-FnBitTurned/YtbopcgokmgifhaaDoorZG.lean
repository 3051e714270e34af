/- Opened of both sides, the ways that end early; the laws. -/
import Derived.Test.YtbopcgokmgifhaaDoorZF
import Derived.Deep.QuietTactic
import Derived.BigQuiet
namespace Go.Proofs.YtbopcgokmgifhaaDoor
open Go Go.RowKit Go.Deep Go.Maps

theorem still (w : World) (n : Nat) : Below w.heap.size w (w.drewN n) := ⟨rfl, rfl, rfl, Nat.le_refl _, fun _ _ => rfl⟩

set_option maxRecDepth 100000 in
set_option maxHeartbeats 1000000 in
theorem specOpened_short (s r : ByteArray) (w : World) (h1 : r.size < 10) :
    Calls Tryd.prog 12 #[.string s, .string r] w fun e w' => e = .returned (.tuple #[.int .i64 (openAns s r).1, .string (openAns s r).2.1, .bool (openAns s r).2.2]) ∧ Below w.heap.size w w' := by
  have E : Hid (openAns s r = (0, ⟨#[]⟩, false)) := openNo fun h => by have := h.1; omega
  have q0 : decide ((r.size : Int) - 4 < 6) = true := decide_eq_true (by omega)
  go_enter Tryd.func12, Tryd.ntmps12
  go_wp2
  go_quiet (fail)
  go_wp2
  exact bodyPost_ret (v := .tuple #[.int .i64 0, .string ⟨#[]⟩, .bool false]) (by simp [results, Tryd.results12]) rfl ⟨by rw [E.out], still w nq⟩
set_option maxRecDepth 100000 in
set_option maxHeartbeats 1000000 in
theorem specOpened_key (s r : ByteArray) (w : World) (hz : r.size ≤ 1048576) (h1 : 10 ≤ r.size) (hs : ¬ s.size = 16) :
    Calls Tryd.prog 12 #[.string s, .string r] w fun e w' => e = .returned (.tuple #[.int .i64 (openAns s r).1, .string (openAns s r).2.1, .bool (openAns s r).2.2]) ∧ Below w.heap.size w w' := by
  have E : Hid (openAns s r = (0, ⟨#[]⟩, false)) := openNo fun h => hs h.2.2.2.1
  have q0 : decide ((r.size : Int) - 4 < 6) = false := decide_eq_false (by omega)
  have q1 : ((s.size : Int) != 16) = true := bne_iff_ne.2 (by omega)
  go_enter Tryd.func12, Tryd.ntmps12
  go_wp2
  go_quiet (fail)
  go_wp2
  exact bodyPost_ret (v := .tuple #[.int .i64 0, .string ⟨#[]⟩, .bool false]) (by simp [results, Tryd.results12]) rfl ⟨by rw [E.out], still w nq⟩
set_option maxRecDepth 100000 in
set_option maxHeartbeats 1000000 in
theorem specOpened_long (s r : ByteArray) (w : World) (hz : r.size ≤ 1048576) (h1 : 210 < r.size) (hs : s.size = 16) :
    Calls Tryd.prog 12 #[.string s, .string r] w fun e w' => e = .returned (.tuple #[.int .i64 (openAns s r).1, .string (openAns s r).2.1, .bool (openAns s r).2.2]) ∧ Below w.heap.size w w' := by
  have E : Hid (openAns s r = (0, ⟨#[]⟩, false)) := openNo fun h => by have := h.2.1; omega
  have q0 : decide ((r.size : Int) - 4 < 6) = false := decide_eq_false (by omega)
  have q1 : decide ((206 : Int) < (r.size : Int) - 4) = true := decide_eq_true (by omega)
  go_enter Tryd.func12, Tryd.ntmps12
  go_wp2
  go_quiet (fail)
  go_wp2
  exact bodyPost_ret (v := .tuple #[.int .i64 0, .string ⟨#[]⟩, .bool false]) (by simp [results, Tryd.results12]) rfl ⟨by rw [E.out], still w nq⟩
set_option maxRecDepth 100000 in
set_option maxHeartbeats 1000000 in
theorem implOpened_short (s r : ByteArray) (w : World) (h1 : r.size < 10) :
    Calls Tryd.prog 9 #[.string s, .string r] w fun e w' => e = .returned (.tuple #[.int .i64 (openAns s r).1, .string (openAns s r).2.1, .bool (openAns s r).2.2]) ∧ Below w.heap.size w w' := by
  have E : Hid (openAns s r = (0, ⟨#[]⟩, false)) := openNo fun h => by have := h.1; omega
  have q0 : decide ((r.size : Int) < 10) = true := decide_eq_true (by omega)
  go_enter Tryd.func9, Tryd.ntmps9
  go_wp2
  go_quiet (fail)
  go_wp2
  exact bodyPost_ret (v := .tuple #[.int .i64 0, .string ⟨#[]⟩, .bool false]) (by simp [results, Tryd.results9]) rfl ⟨by rw [E.out], still w nq⟩
set_option maxRecDepth 100000 in
set_option maxHeartbeats 1000000 in
theorem implOpened_long (s r : ByteArray) (w : World) (hz : r.size ≤ 1048576) (h1 : 210 < r.size) :
    Calls Tryd.prog 9 #[.string s, .string r] w fun e w' => e = .returned (.tuple #[.int .i64 (openAns s r).1, .string (openAns s r).2.1, .bool (openAns s r).2.2]) ∧ Below w.heap.size w w' := by
  have E : Hid (openAns s r = (0, ⟨#[]⟩, false)) := openNo fun h => by have := h.2.1; omega
  have q0 : decide ((r.size : Int) < 10) = false := decide_eq_false (by omega)
  have q1 : decide ((210 : Int) < (r.size : Int)) = true := decide_eq_true (by omega)
  go_enter Tryd.func9, Tryd.ntmps9
  go_wp2
  go_quiet (fail)
  go_wp2
  exact bodyPost_ret (v := .tuple #[.int .i64 0, .string ⟨#[]⟩, .bool false]) (by simp [results, Tryd.results9]) rfl ⟨by rw [E.out], still w nq⟩

theorem specOpened_any (s r : ByteArray) (w : World) (hz : r.size ≤ 1048576) :
    Calls Tryd.prog 12 #[.string s, .string r] w fun e w' => e = .returned (.tuple #[.int .i64 (openAns s r).1, .string (openAns s r).2.1, .bool (openAns s r).2.2]) ∧ Below w.heap.size w w' := by
  by_cases h1 : r.size < 10
  · exact specOpened_short s r w h1
  by_cases hs : s.size = 16
  · by_cases h2 : 210 < r.size
    · exact specOpened_long s r w hz h2 hs
    · exact specOpened_mid s r w (by omega) (by omega) hs
  · exact specOpened_key s r w hz (by omega) hs
theorem implOpened_any (s r : ByteArray) (w : World) (hz : r.size ≤ 1048576) (ht : Tab4 w) :
    Calls Tryd.prog 9 #[.string s, .string r] w fun e w' => e = .returned (.tuple #[.int .i64 (openAns s r).1, .string (openAns s r).2.1, .bool (openAns s r).2.2]) ∧ Below w.heap.size w w' := by
  by_cases h1 : r.size < 10
  · exact implOpened_short s r w h1
  by_cases h2 : 210 < r.size
  · exact implOpened_long s r w hz h2
  · exact implOpened_mid s r w (by omega) (by omega) ht

end Go.Proofs.YtbopcgokmgifhaaDoor
