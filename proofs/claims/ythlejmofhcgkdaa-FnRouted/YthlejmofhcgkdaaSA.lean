/- What DrawChecksum draws: some text of a few bytes. -/
import Derived.Test.YthlejmofhcgkdaaRDR
import Derived.Test.YthlejmofhcgkdaaNGR
namespace Go.Proofs.Ythlejmofhcgkdaa
open Go Go.RowKit Go.Deep Go.Maps
open Go.WideShapes (add_plain)

theorem l1Open_any (a : Option Addr) (n cap : Nat) (w : World) (hn : n ≤ 1048576) (hb : BytesAt w a n) :
    Calls Try.prog 13 #[.slice a n cap] w fun e w' => ∃ rb, e = .returned (.pointer (some ⟨rb, 0, none⟩)) ∧ Rd w w' rb a n cap := by
  have R : Rd w (w.alloc (.cells #[.slice a n cap, .int .i64 0] 61)) w.heap.size a n cap :=
    ⟨(Below.refl _ w).alloc (Nat.le_refl _) _, Nat.le_refl _, hb, hn, 0, Nat.zero_le _, Blk.new w _⟩
  have HR : Hid (Rd w (w.alloc (.cells #[.slice a n cap, .int .i64 0] 61)) w.heap.size a n cap) := R
  clear R hb
  go_enter Try.func13, Try.ntmps13
  go_wp2
  go_ret
  exact ⟨_, rfl, HR.out⟩

theorem big_any (a : Option Addr) (n cap : Nat) (w : World) : Calls Try.prog 5 #[.slice a n cap] w fun e w' => e = .returned (.bool (decide (1048576 < n))) ∧ w' = w := by
  go_enter Try.func5, Try.ntmps5
  go_wp2
  go_ret
  refine ⟨ret_bool ?_, rfl⟩
  congr 1
  apply propext
  omega
end Go.Proofs.Ythlejmofhcgkdaa
