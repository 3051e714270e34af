/- Two routes compared. -/
import Derived.Test.YthlejmofhcgkdaaDP
import Derived.Laws.StructEq
namespace Go.Proofs.Ythlejmofhcgkdaa
open Go Go.RowKit

theorem eqg : Try.prog.eqGuardType Try.prog.depth 29 = false := by kernel_rfl
theorem run_eql_route (F G H x y z : Int) (w : World) : (binOp .eql 29 (.agg #[.int .i64 F, .int .i64 G, .int .i64 H]) (.agg #[.int .i64 x, .int .i64 y, .int .i64 z])).run Try.prog w = .ok (.bool ((F == x) && (G == y) && (H == z))) w := by
  have g1 : Try.prog.stoodInHeld 29 = false := by kernel_rfl
  have g3 : Try.prog.underlying 29 = some (.struct (Try.prog.fieldsOf 29)) := by kernel_rfl
  rw [run_eql_struct, run_equalIn_struct w 9999 29 _ _ g3 g1]
  have g4 : (Try.prog.fieldsOf 29).toList = [⟨"Net", 2, 0, false, "", "", 0⟩, ⟨"Bits", 2, 1, false, "", "", 8⟩, ⟨"Port", 2, 2, false, "", "", 16⟩] := by kernel_rfl
  rw [g4]
  simp [Op.eqFields, go_sem]
  by_cases c1 : F = x
  · by_cases c2 : G = y
    · by_cases c3 : H = z
      · simp [c1, c2, c3]
      · simp [c1, c2, c3]
    · simp [c1, c2]
  · simp [c1]
end Go.Proofs.Ythlejmofhcgkdaa
