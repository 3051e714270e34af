/- The cipher's turns and its round, told plainly. -/
import Derived.Test.YtbopcgokmgifhaaDoorProg
import Derived.WalkKit
import Derived.WalkSpells
import Derived.WalkLawsBesides
import Derived.Below
import Derived.Laws.BitsAllLaws
namespace Go.Proofs.YtbopcgokmgifhaaDoor
open Go.RowKit

/-- turned right by 8, by 29 -/
def r8 (x : Int) : Int := bits .or .u32 (x / 256) (x * 16777216 % 4294967296)
def r29 (x : Int) : Int := bits .or .u32 (x / 536870912) (x * 8 % 4294967296)
theorem or_turn (x y : Int) : bits .or .u32 x y = bits .or .u32 y x := by simp only [bits, BitVec.or_comm]

theorem l9Turn8_any (x : Int) (w : World) : Calls Tryd.prog 41 #[.int .u32 x, .int .u64 8] w fun e w' => e = .returned (.int .u32 (r8 x)) ∧ w' = w := by
  go_enter Tryd.func41, Tryd.ntmps41
  go_wp2
  go_ret
  exact ⟨rfl, rfl⟩
theorem l9Turn29_any (x : Int) (w : World) : Calls Tryd.prog 41 #[.int .u32 x, .int .u64 29] w fun e w' => e = .returned (.int .u32 (r29 x)) ∧ w' = w := by
  go_enter Tryd.func41, Tryd.ntmps41
  go_wp2
  go_ret
  exact ⟨rfl, rfl⟩
theorem right8_any (x : Int) (w : World) : Calls Tryd.prog 42 #[.int .u32 x, .int .i64 8] w fun e w' => e = .returned (.int .u32 (r8 x)) ∧ w' = w.drew := by
  go_enter Tryd.func42, Tryd.ntmps42
  go_wp2
  go_region
  go_wp2
  go_ret
  exact ⟨rfl, rfl⟩
theorem left3_any (x : Int) (w : World) : Calls Tryd.prog 43 #[.int .u32 x, .int .i64 3] w fun e w' => e = .returned (.int .u32 (r29 x)) ∧ w' = w.drew := by
  go_enter Tryd.func43, Tryd.ntmps43
  go_wp2
  go_region
  go_wp2
  go_ret
  exact ⟨congrArg (fun z => Ending.returned (.int .u32 z)) (or_turn _ _), rfl⟩

/-- one round -/
def rx (x y k : Int) : Int := bits .xor .u32 ((r8 x + y) % 4294967296) k
def ry (x y k : Int) : Int := bits .xor .u32 (r29 y) (rx x y k)
theorem round_any (x y k : Int) (w : World) : Calls Tryd.prog 37 #[.int .u32 x, .int .u32 y, .int .u32 k] w fun e w' => e = .returned (.tuple #[.int .u32 (rx x y k), .int .u32 (ry x y k)]) ∧ Below w.heap.size w w' := by
  go_enter Tryd.func37, Tryd.ntmps37
  go_wp2_with fail
  refine (right8_any x _).mono ?_
  rintro e w1 ⟨rfl, rfl⟩
  go_wp2_with fail
  refine (left3_any y _).mono ?_
  rintro e w1 ⟨rfl, rfl⟩
  go_wp2
  exact bodyPost_ret (v := .tuple #[.int .u32 (rx x y k), .int .u32 (ry x y k)]) (by simp [results, Tryd.results37, go_sem, rx, ry]) rfl ⟨rfl, (Below.refl _ _).drew.drew⟩
end Go.Proofs.YtbopcgokmgifhaaDoor
