/-
  NARROWER THAN 'FOR EVERY INPUT', by the rows' own cells (each row's printed sentence says how): FnExactReadKernel: ifaces, laid.
  DERIVED. THE GIVEN ROWS OF THIS SEAT. 1 by the template 'for every input the law returns true; each argument reads behind the call as it read before'; 0 by the template 'total and deterministic' (their statements: YtjceaajnemgheaaGreatDoorTotals.lean).
  GIVEN WITH THE SEED: the statements are not yours to turn. If you find one false, say at which input.
  Laid BY PROGRAM, IN A SANDBOX (cutbox-rows.mjs): the forced cells as the released guide's own fill.sh prints them over the translation 70acdce27d3b5539… (all of the seat's roots in one cut). By AI agents, Wed Nov 11 2026. No macro, syntax, notation, axiom, sorry.
-/
import Derived.Test.YtjceaajnemgheaaGreatDoorChecked
import GoSem.Claim
import GoSem.ClaimJoined
import GoSem.ClaimMapViews
import Derived.JoinedTies
import Derived.KernelRfl
namespace Go.Proofs.YtjceaajnemgheaaGreatDoor
/- THE CELL 'sum', in the pinned program and in every row, IS THE sha256 OF THE DUMP (.gsa) THAT YtjceaajnemgheaaGreatDoorProg.lean LOADS. Nothing in Lean hashes anything: it is a label: what it is worth is what the hold of that sum in a sandbox is worth. -/
noncomputable def Tryz.pinned : Pinned := { name := "ytjceaajnemgheaagreatdoor", sum := "70acdce27d3b55396e473bc47e1ed6768845624063676e4e3c2c470b2a21e264", checked := Tryz.checked }
namespace Rows
def none {H : Type} : Left H := { results := [], args := [] }

/- WHAT THE LISTED PACKAGE-LEVEL VARIABLES READ AS WHEN THE CALL BEGINS. Each datum BY PROGRAM (the guide's laid-datum.mjs) off the statement by which the dump's own 'gosem.cut.vars' lays the variable. In a bare row this is a premise. The card (YtjceaajnemgheaaGreatDoorCards.lean) ties it to the program's text. -/
def laid_loop_example_g00272_impl_errText {H : Type} : DataW H := .iface "*errors.errorString" (.ptr (.agg [.lit (.string [116, 104, 101, 32, 116, 101, 120, 116, 32, 105, 115, 32, 110, 111, 116, 32, 97, 115, 32, 105, 116, 32, 119, 111, 117, 108, 100, 32, 98, 101, 32, 119, 114, 105, 116, 116, 101, 110])]))

/-- 'laws.FnExactReadKernel': WHATEVER THE INPUT: true; the input reads as it did. -/
def fnExactReadKernelSpec : ChangeSpec := { name := "fnExactReadKernel", vars := ["loop.example/g00272/impl.errText"], fn := fun _ => fun
  | [d, g1] => { results := [.lit (.bool true)], args := [d], vars := [g1] }
  | _ => none }
def fnExactReadKernelRow : OpenClaim := { program := "ytjceaajnemgheaagreatdoor", sum := "70acdce27d3b55396e473bc47e1ed6768845624063676e4e3c2c470b2a21e264", func := "loop.example/g00272/laws.FnExactReadKernel", spec := "fnExactReadKernel", inPlace := ["internal/bytealg.IndexByteString", "internal/bytealg.IndexString"], unfollowed := true, recurses := true, named := ["internal/bytealg.MaxLen", "loop.example/g00272/impl.errText"], ifaces := true, apart := false, laid := [("loop.example/g00272/impl.errText", laid_loop_example_g00272_impl_errText)] }
def FnExactReadKernelSaid : Prop := fnExactReadKernelRow.holds Tryz.pinned (OpenSpec.ofChange fnExactReadKernelSpec)

/-- ITS FALSE NEIGHBOUR: 'it returns false'. Refute it at one input. -/
def fnExactReadKernelWrong : ChangeSpec := { name := "fnExactReadKernel", vars := ["loop.example/g00272/impl.errText"], fn := fun _ => fun
  | [d, g1] => { results := [.lit (.bool false)], args := [d], vars := [g1] }
  | _ => none }
def FnExactReadKernelWrongFalsely : Prop := fnExactReadKernelRow.holds Tryz.pinned (OpenSpec.ofChange fnExactReadKernelWrong)

/- THE SECOND FORM. 'bulk': how many values and letters a reading holds, each counted each time it is reached (what is shared counts as often as it is met; a slice's spare places count too). A statement '..UptoSaid' is the law's where the arguments, and the package variables that the reading takes, are together of bulk at most 1048576: NARROWER than '..Said'. Prove '..Said' where nothing that the law and all that it calls make is longer than what came in: it says more and counts as full. Else prove '..UptoSaid'. A law counts once. -/
mutual
def uptoBulk {H : Type} : DataW H → Nat
  | .lit (.string bytes) => bytes.length + 1
  | .lit _ => 1
  | .nil => 1
  | .ptr d => uptoBulk d + 1
  | .slice elems spare => uptoBulkAll elems + uptoBulkAll spare + 1
  | .agg parts => uptoBulkAll parts + 1
  | .iface _ d => uptoBulk d + 1
  | .map entries => uptoBulkEntries entries + 1
  | .held _ => 1
def uptoBulkAll {H : Type} : List (DataW H) → Nat
  | [] => 0
  | d :: r => uptoBulk d + uptoBulkAll r
def uptoBulkEntries {H : Type} : List (Lit × DataW H) → Nat
  | [] => 0
  | x :: r => uptoBulkEntry x + uptoBulkEntries r
def uptoBulkEntry {H : Type} : Lit × DataW H → Nat
  | (.string bytes, d) => bytes.length + uptoBulk d + 1
  | (_, d) => uptoBulk d + 1
 end
def uptoSmall : (H : Type) → List (DataW H) → Bool := fun _ ds => decide (uptoBulkAll ds ≤ 1048576)
def OpenSpec.upto (s : _root_.Go.ChangeSpec) : _root_.Go.OpenSpec := { _root_.Go.OpenSpec.ofChange s with cond := some uptoSmall }

/-- 'laws.FnExactReadKernel', WHERE WHAT IT READS IS OF BULK AT MOST 1048576: true; the input reads as it did. -/
def fnExactReadKernelUptoRow : OpenClaim := { program := "ytjceaajnemgheaagreatdoor", sum := "70acdce27d3b55396e473bc47e1ed6768845624063676e4e3c2c470b2a21e264", func := "loop.example/g00272/laws.FnExactReadKernel", spec := "fnExactReadKernel", inPlace := ["internal/bytealg.IndexByteString", "internal/bytealg.IndexString"], unfollowed := true, recurses := true, named := ["internal/bytealg.MaxLen", "loop.example/g00272/impl.errText"], ifaces := true, apart := false, laid := [("loop.example/g00272/impl.errText", laid_loop_example_g00272_impl_errText)], narrowed := true }
def FnExactReadKernelUptoSaid : Prop := fnExactReadKernelUptoRow.holds Tryz.pinned (OpenSpec.upto fnExactReadKernelSpec)

end Rows
end Go.Proofs.YtjceaajnemgheaaGreatDoor
