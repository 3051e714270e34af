/-
  No cell of these rows narrows 'for every input' (looked for: loops, veiled, ifaces, maps, wideKeys, modest, calm, conditions, laid).
  DERIVED. THE GIVEN ROWS OF THIS SEAT. 3 by the template 'for every input the law returns true; each argument reads behind the call as it read before'; 0 by the template 'total and deterministic' (their statements: YtbfadkcghobpnaaTotals.lean).
  GIVEN WITH THE SEED: the statements are not yours to turn. If you find one false, say at which input.
  Laid BY PROGRAM, IN A SANDBOX (cutbox-rows.mjs): the forced cells as the released guide's own fill.sh prints them over the translation 7eb507e89af00c21… (all of the seat's roots in one cut). By AI agents, Wed Nov 11 2026. No macro, syntax, notation, axiom, sorry.
-/
import Derived.Test.YtbfadkcghobpnaaChecked
import GoSem.Claim
import GoSem.ClaimJoined
import GoSem.ClaimMapViews
import Derived.JoinedTies
import Derived.KernelRfl
namespace Go.Proofs.Ytbfadkcghobpnaa
/- THE CELL 'sum', in the pinned program and in every row, IS THE sha256 OF THE DUMP (.gsa) THAT YtbfadkcghobpnaaProg.lean LOADS. Nothing in Lean hashes anything: it is a label: what it is worth is what the hold of that sum in a sandbox is worth. -/
noncomputable def Try.pinned : Pinned := { name := "ytbfadkcghobpnaa", sum := "7eb507e89af00c21fd5b712016c85d0342d67f74c5c3d8e3d5370e3c1bd5b626", checked := Try.checked }
namespace Rows
def none {H : Type} : Left H := { results := [], args := [] }

/-- 'laws.FnExactRoutesOk': WHATEVER THE INPUT: true; the input reads as it did. -/
def fnExactRoutesOkSpec : ChangeSpec := { name := "fnExactRoutesOk", fn := fun _ => fun
  | [d] => { results := [.lit (.bool true)], args := [d] }
  | _ => none }
def fnExactRoutesOkRow : OpenClaim := { program := "ytbfadkcghobpnaa", sum := "7eb507e89af00c21fd5b712016c85d0342d67f74c5c3d8e3d5370e3c1bd5b626", func := "loop.example/g00272/laws.FnExactRoutesOk", spec := "fnExactRoutesOk", apart := false }
def FnExactRoutesOkSaid : Prop := fnExactRoutesOkRow.holds Try.pinned (OpenSpec.ofChange fnExactRoutesOkSpec)

/-- ITS FALSE NEIGHBOUR: 'it returns false'. Refute it at one input. -/
def fnExactRoutesOkWrong : ChangeSpec := { name := "fnExactRoutesOk", fn := fun _ => fun
  | [d] => { results := [.lit (.bool false)], args := [d] }
  | _ => none }
def FnExactRoutesOkWrongFalsely : Prop := fnExactRoutesOkRow.holds Try.pinned (OpenSpec.ofChange fnExactRoutesOkWrong)

/-- 'laws.FnExactPortFor': WHATEVER THE INPUT: true; the input reads as it did. -/
def fnExactPortForSpec : ChangeSpec := { name := "fnExactPortFor", fn := fun _ => fun
  | [d1, d2] => { results := [.lit (.bool true)], args := [d1, d2] }
  | _ => none }
def fnExactPortForRow : OpenClaim := { program := "ytbfadkcghobpnaa", sum := "7eb507e89af00c21fd5b712016c85d0342d67f74c5c3d8e3d5370e3c1bd5b626", func := "loop.example/g00272/laws.FnExactPortFor", spec := "fnExactPortFor", unfollowed := true, recurses := true, apart := false }
def FnExactPortForSaid : Prop := fnExactPortForRow.holds Try.pinned (OpenSpec.ofChange fnExactPortForSpec)

/-- ITS FALSE NEIGHBOUR: 'it returns false'. Refute it at one input. -/
def fnExactPortForWrong : ChangeSpec := { name := "fnExactPortFor", fn := fun _ => fun
  | [d1, d2] => { results := [.lit (.bool false)], args := [d1, d2] }
  | _ => none }
def FnExactPortForWrongFalsely : Prop := fnExactPortForRow.holds Try.pinned (OpenSpec.ofChange fnExactPortForWrong)

/-- 'laws.FnExactRouted': WHATEVER THE INPUT: true; the input reads as it did. -/
def fnExactRoutedSpec : ChangeSpec := { name := "fnExactRouted", fn := fun _ => fun
  | [d1, d2] => { results := [.lit (.bool true)], args := [d1, d2] }
  | _ => none }
def fnExactRoutedRow : OpenClaim := { program := "ytbfadkcghobpnaa", sum := "7eb507e89af00c21fd5b712016c85d0342d67f74c5c3d8e3d5370e3c1bd5b626", func := "loop.example/g00272/laws.FnExactRouted", spec := "fnExactRouted", unfollowed := true, recurses := true, apart := false }
def FnExactRoutedSaid : Prop := fnExactRoutedRow.holds Try.pinned (OpenSpec.ofChange fnExactRoutedSpec)

/-- ITS FALSE NEIGHBOUR: 'it returns false'. Refute it at one input. -/
def fnExactRoutedWrong : ChangeSpec := { name := "fnExactRouted", fn := fun _ => fun
  | [d1, d2] => { results := [.lit (.bool false)], args := [d1, d2] }
  | _ => none }
def FnExactRoutedWrongFalsely : Prop := fnExactRoutedRow.holds Try.pinned (OpenSpec.ofChange fnExactRoutedWrong)

/- THE SECOND FORM. 'bulk': how many values and letters a reading holds, each counted each time it is reached (what is shared counts as often as it is met; a slice's spare places count too). A statement '..UptoSaid' is the law's where the arguments, and the package variables that the reading takes, are together of bulk at most 1048576: NARROWER than '..Said'. Prove '..Said' where nothing that the law and all that it calls make is longer than what came in: it says more and counts as full. Else prove '..UptoSaid'. A law counts once. -/
mutual
def uptoBulk {H : Type} : DataW H → Nat
  | .lit (.string bytes) => bytes.length + 1
  | .lit _ => 1
  | .nil => 1
  | .ptr d => uptoBulk d + 1
  | .slice elems spare => uptoBulkAll elems + uptoBulkAll spare + 1
  | .agg parts => uptoBulkAll parts + 1
  | .iface _ d => uptoBulk d + 1
  | .map entries => uptoBulkEntries entries + 1
  | .held _ => 1
def uptoBulkAll {H : Type} : List (DataW H) → Nat
  | [] => 0
  | d :: r => uptoBulk d + uptoBulkAll r
def uptoBulkEntries {H : Type} : List (Lit × DataW H) → Nat
  | [] => 0
  | x :: r => uptoBulkEntry x + uptoBulkEntries r
def uptoBulkEntry {H : Type} : Lit × DataW H → Nat
  | (.string bytes, d) => bytes.length + uptoBulk d + 1
  | (_, d) => uptoBulk d + 1
 end
def uptoSmall : (H : Type) → List (DataW H) → Bool := fun _ ds => decide (uptoBulkAll ds ≤ 1048576)
def OpenSpec.upto (s : _root_.Go.ChangeSpec) : _root_.Go.OpenSpec := { _root_.Go.OpenSpec.ofChange s with cond := some uptoSmall }

/-- 'laws.FnExactRoutesOk', WHERE WHAT IT READS IS OF BULK AT MOST 1048576: true; the input reads as it did. -/
def fnExactRoutesOkUptoRow : OpenClaim := { program := "ytbfadkcghobpnaa", sum := "7eb507e89af00c21fd5b712016c85d0342d67f74c5c3d8e3d5370e3c1bd5b626", func := "loop.example/g00272/laws.FnExactRoutesOk", spec := "fnExactRoutesOk", apart := false, narrowed := true }
def FnExactRoutesOkUptoSaid : Prop := fnExactRoutesOkUptoRow.holds Try.pinned (OpenSpec.upto fnExactRoutesOkSpec)

/-- 'laws.FnExactPortFor', WHERE WHAT IT READS IS OF BULK AT MOST 1048576: true; the input reads as it did. -/
def fnExactPortForUptoRow : OpenClaim := { program := "ytbfadkcghobpnaa", sum := "7eb507e89af00c21fd5b712016c85d0342d67f74c5c3d8e3d5370e3c1bd5b626", func := "loop.example/g00272/laws.FnExactPortFor", spec := "fnExactPortFor", unfollowed := true, recurses := true, apart := false, narrowed := true }
def FnExactPortForUptoSaid : Prop := fnExactPortForUptoRow.holds Try.pinned (OpenSpec.upto fnExactPortForSpec)

/-- 'laws.FnExactRouted', WHERE WHAT IT READS IS OF BULK AT MOST 1048576: true; the input reads as it did. -/
def fnExactRoutedUptoRow : OpenClaim := { program := "ytbfadkcghobpnaa", sum := "7eb507e89af00c21fd5b712016c85d0342d67f74c5c3d8e3d5370e3c1bd5b626", func := "loop.example/g00272/laws.FnExactRouted", spec := "fnExactRouted", unfollowed := true, recurses := true, apart := false, narrowed := true }
def FnExactRoutedUptoSaid : Prop := fnExactRoutedUptoRow.holds Try.pinned (OpenSpec.upto fnExactRoutedSpec)

end Rows
end Go.Proofs.Ytbfadkcghobpnaa
