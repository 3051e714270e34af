/-
  No cell of these rows narrows 'for every input' (looked for: loops, veiled, ifaces, maps, wideKeys, modest, calm, conditions, laid).
  DERIVED. THE GIVEN ROWS OF THIS SEAT. 5 by the template 'for every input the law returns true; each argument reads behind the call as it read before'; 0 by the template 'total and deterministic' (their statements: YtonpoakimpoojaaTotals.lean).
  GIVEN WITH THE SEED: the statements are not yours to turn. If you find one false, say at which input.
  Laid BY PROGRAM, IN A SANDBOX (cutbox-rows.mjs): the forced cells as the released guide's own fill.sh prints them over the translation 6054fee32feac037… (all of the seat's roots in one cut). By AI agents, Wed Nov 11 2026. No macro, syntax, notation, axiom, sorry.
-/
import Derived.Test.YtonpoakimpoojaaChecked
import GoSem.Claim
import GoSem.ClaimJoined
import GoSem.ClaimMapViews
import Derived.JoinedTies
import Derived.KernelRfl
namespace Go.Proofs.Ytonpoakimpoojaa
/- THE CELL 'sum', in the pinned program and in every row, IS THE sha256 OF THE DUMP (.gsa) THAT YtonpoakimpoojaaProg.lean LOADS. Nothing in Lean hashes anything: it is a label: what it is worth is what the hold of that sum in a sandbox is worth. -/
noncomputable def Try.pinned : Pinned := { name := "ytonpoakimpoojaa", sum := "6054fee32feac0372b6fed9592ed9d784cf9af4dc9f5b7bc7a8c0ba96ce9b1e4", checked := Try.checked }
namespace Rows
def none {H : Type} : Left H := { results := [], args := [] }

/-- 'laws.FnExactKernelOk': WHATEVER THE INPUT: true; the input reads as it did. -/
def fnExactKernelOkSpec : ChangeSpec := { name := "fnExactKernelOk", fn := fun _ => fun
  | [d] => { results := [.lit (.bool true)], args := [d] }
  | _ => none }
def fnExactKernelOkRow : OpenClaim := { program := "ytonpoakimpoojaa", sum := "6054fee32feac0372b6fed9592ed9d784cf9af4dc9f5b7bc7a8c0ba96ce9b1e4", func := "loop.example/g00272/laws.FnExactKernelOk", spec := "fnExactKernelOk", unfollowed := true, recurses := true, apart := false }
def FnExactKernelOkSaid : Prop := fnExactKernelOkRow.holds Try.pinned (OpenSpec.ofChange fnExactKernelOkSpec)

/-- ITS FALSE NEIGHBOUR: 'it returns false'. Refute it at one input. -/
def fnExactKernelOkWrong : ChangeSpec := { name := "fnExactKernelOk", fn := fun _ => fun
  | [d] => { results := [.lit (.bool false)], args := [d] }
  | _ => none }
def FnExactKernelOkWrongFalsely : Prop := fnExactKernelOkRow.holds Try.pinned (OpenSpec.ofChange fnExactKernelOkWrong)

/-- 'laws.FnExactObjectOf': WHATEVER THE INPUT: true; the input reads as it did. -/
def fnExactObjectOfSpec : ChangeSpec := { name := "fnExactObjectOf", fn := fun _ => fun
  | [d1, d2] => { results := [.lit (.bool true)], args := [d1, d2] }
  | _ => none }
def fnExactObjectOfRow : OpenClaim := { program := "ytonpoakimpoojaa", sum := "6054fee32feac0372b6fed9592ed9d784cf9af4dc9f5b7bc7a8c0ba96ce9b1e4", func := "loop.example/g00272/laws.FnExactObjectOf", spec := "fnExactObjectOf", unfollowed := true, recurses := true, apart := false }
def FnExactObjectOfSaid : Prop := fnExactObjectOfRow.holds Try.pinned (OpenSpec.ofChange fnExactObjectOfSpec)

/-- ITS FALSE NEIGHBOUR: 'it returns false'. Refute it at one input. -/
def fnExactObjectOfWrong : ChangeSpec := { name := "fnExactObjectOf", fn := fun _ => fun
  | [d1, d2] => { results := [.lit (.bool false)], args := [d1, d2] }
  | _ => none }
def FnExactObjectOfWrongFalsely : Prop := fnExactObjectOfRow.holds Try.pinned (OpenSpec.ofChange fnExactObjectOfWrong)

/-- 'laws.FnExactThreadOf': WHATEVER THE INPUT: true; the input reads as it did. -/
def fnExactThreadOfSpec : ChangeSpec := { name := "fnExactThreadOf", fn := fun _ => fun
  | [d1, d2] => { results := [.lit (.bool true)], args := [d1, d2] }
  | _ => none }
def fnExactThreadOfRow : OpenClaim := { program := "ytonpoakimpoojaa", sum := "6054fee32feac0372b6fed9592ed9d784cf9af4dc9f5b7bc7a8c0ba96ce9b1e4", func := "loop.example/g00272/laws.FnExactThreadOf", spec := "fnExactThreadOf", unfollowed := true, recurses := true, apart := false }
def FnExactThreadOfSaid : Prop := fnExactThreadOfRow.holds Try.pinned (OpenSpec.ofChange fnExactThreadOfSpec)

/-- ITS FALSE NEIGHBOUR: 'it returns false'. Refute it at one input. -/
def fnExactThreadOfWrong : ChangeSpec := { name := "fnExactThreadOf", fn := fun _ => fun
  | [d1, d2] => { results := [.lit (.bool false)], args := [d1, d2] }
  | _ => none }
def FnExactThreadOfWrongFalsely : Prop := fnExactThreadOfRow.holds Try.pinned (OpenSpec.ofChange fnExactThreadOfWrong)

/-- 'laws.FnExactKidsOf': WHATEVER THE INPUT: true; the input reads as it did. -/
def fnExactKidsOfSpec : ChangeSpec := { name := "fnExactKidsOf", fn := fun _ => fun
  | [d1, d2] => { results := [.lit (.bool true)], args := [d1, d2] }
  | _ => none }
def fnExactKidsOfRow : OpenClaim := { program := "ytonpoakimpoojaa", sum := "6054fee32feac0372b6fed9592ed9d784cf9af4dc9f5b7bc7a8c0ba96ce9b1e4", func := "loop.example/g00272/laws.FnExactKidsOf", spec := "fnExactKidsOf", unfollowed := true, recurses := true, apart := false }
def FnExactKidsOfSaid : Prop := fnExactKidsOfRow.holds Try.pinned (OpenSpec.ofChange fnExactKidsOfSpec)

/-- ITS FALSE NEIGHBOUR: 'it returns false'. Refute it at one input. -/
def fnExactKidsOfWrong : ChangeSpec := { name := "fnExactKidsOf", fn := fun _ => fun
  | [d1, d2] => { results := [.lit (.bool false)], args := [d1, d2] }
  | _ => none }
def FnExactKidsOfWrongFalsely : Prop := fnExactKidsOfRow.holds Try.pinned (OpenSpec.ofChange fnExactKidsOfWrong)

/-- 'laws.FnExactUnder': WHATEVER THE INPUT: true; the input reads as it did. -/
def fnExactUnderSpec : ChangeSpec := { name := "fnExactUnder", fn := fun _ => fun
  | [d1, d2] => { results := [.lit (.bool true)], args := [d1, d2] }
  | _ => none }
def fnExactUnderRow : OpenClaim := { program := "ytonpoakimpoojaa", sum := "6054fee32feac0372b6fed9592ed9d784cf9af4dc9f5b7bc7a8c0ba96ce9b1e4", func := "loop.example/g00272/laws.FnExactUnder", spec := "fnExactUnder", unfollowed := true, recurses := true, apart := false }
def FnExactUnderSaid : Prop := fnExactUnderRow.holds Try.pinned (OpenSpec.ofChange fnExactUnderSpec)

/-- ITS FALSE NEIGHBOUR: 'it returns false'. Refute it at one input. -/
def fnExactUnderWrong : ChangeSpec := { name := "fnExactUnder", fn := fun _ => fun
  | [d1, d2] => { results := [.lit (.bool false)], args := [d1, d2] }
  | _ => none }
def FnExactUnderWrongFalsely : Prop := fnExactUnderRow.holds Try.pinned (OpenSpec.ofChange fnExactUnderWrong)

/- THE SECOND FORM. 'bulk': how many values and letters a reading holds, each counted each time it is reached (what is shared counts as often as it is met; a slice's spare places count too). A statement '..UptoSaid' is the law's where the arguments, and the package variables that the reading takes, are together of bulk at most 1048576: NARROWER than '..Said'. Prove '..Said' where nothing that the law and all that it calls make is longer than what came in: it says more and counts as full. Else prove '..UptoSaid'. A law counts once. -/
mutual
def uptoBulk {H : Type} : DataW H → Nat
  | .lit (.string bytes) => bytes.length + 1
  | .lit _ => 1
  | .nil => 1
  | .ptr d => uptoBulk d + 1
  | .slice elems spare => uptoBulkAll elems + uptoBulkAll spare + 1
  | .agg parts => uptoBulkAll parts + 1
  | .iface _ d => uptoBulk d + 1
  | .map entries => uptoBulkEntries entries + 1
  | .held _ => 1
def uptoBulkAll {H : Type} : List (DataW H) → Nat
  | [] => 0
  | d :: r => uptoBulk d + uptoBulkAll r
def uptoBulkEntries {H : Type} : List (Lit × DataW H) → Nat
  | [] => 0
  | x :: r => uptoBulkEntry x + uptoBulkEntries r
def uptoBulkEntry {H : Type} : Lit × DataW H → Nat
  | (.string bytes, d) => bytes.length + uptoBulk d + 1
  | (_, d) => uptoBulk d + 1
 end
def uptoSmall : (H : Type) → List (DataW H) → Bool := fun _ ds => decide (uptoBulkAll ds ≤ 1048576)
def OpenSpec.upto (s : _root_.Go.ChangeSpec) : _root_.Go.OpenSpec := { _root_.Go.OpenSpec.ofChange s with cond := some uptoSmall }

/-- 'laws.FnExactKernelOk', WHERE WHAT IT READS IS OF BULK AT MOST 1048576: true; the input reads as it did. -/
def fnExactKernelOkUptoRow : OpenClaim := { program := "ytonpoakimpoojaa", sum := "6054fee32feac0372b6fed9592ed9d784cf9af4dc9f5b7bc7a8c0ba96ce9b1e4", func := "loop.example/g00272/laws.FnExactKernelOk", spec := "fnExactKernelOk", unfollowed := true, recurses := true, apart := false, narrowed := true }
def FnExactKernelOkUptoSaid : Prop := fnExactKernelOkUptoRow.holds Try.pinned (OpenSpec.upto fnExactKernelOkSpec)

/-- 'laws.FnExactObjectOf', WHERE WHAT IT READS IS OF BULK AT MOST 1048576: true; the input reads as it did. -/
def fnExactObjectOfUptoRow : OpenClaim := { program := "ytonpoakimpoojaa", sum := "6054fee32feac0372b6fed9592ed9d784cf9af4dc9f5b7bc7a8c0ba96ce9b1e4", func := "loop.example/g00272/laws.FnExactObjectOf", spec := "fnExactObjectOf", unfollowed := true, recurses := true, apart := false, narrowed := true }
def FnExactObjectOfUptoSaid : Prop := fnExactObjectOfUptoRow.holds Try.pinned (OpenSpec.upto fnExactObjectOfSpec)

/-- 'laws.FnExactThreadOf', WHERE WHAT IT READS IS OF BULK AT MOST 1048576: true; the input reads as it did. -/
def fnExactThreadOfUptoRow : OpenClaim := { program := "ytonpoakimpoojaa", sum := "6054fee32feac0372b6fed9592ed9d784cf9af4dc9f5b7bc7a8c0ba96ce9b1e4", func := "loop.example/g00272/laws.FnExactThreadOf", spec := "fnExactThreadOf", unfollowed := true, recurses := true, apart := false, narrowed := true }
def FnExactThreadOfUptoSaid : Prop := fnExactThreadOfUptoRow.holds Try.pinned (OpenSpec.upto fnExactThreadOfSpec)

/-- 'laws.FnExactKidsOf', WHERE WHAT IT READS IS OF BULK AT MOST 1048576: true; the input reads as it did. -/
def fnExactKidsOfUptoRow : OpenClaim := { program := "ytonpoakimpoojaa", sum := "6054fee32feac0372b6fed9592ed9d784cf9af4dc9f5b7bc7a8c0ba96ce9b1e4", func := "loop.example/g00272/laws.FnExactKidsOf", spec := "fnExactKidsOf", unfollowed := true, recurses := true, apart := false, narrowed := true }
def FnExactKidsOfUptoSaid : Prop := fnExactKidsOfUptoRow.holds Try.pinned (OpenSpec.upto fnExactKidsOfSpec)

/-- 'laws.FnExactUnder', WHERE WHAT IT READS IS OF BULK AT MOST 1048576: true; the input reads as it did. -/
def fnExactUnderUptoRow : OpenClaim := { program := "ytonpoakimpoojaa", sum := "6054fee32feac0372b6fed9592ed9d784cf9af4dc9f5b7bc7a8c0ba96ce9b1e4", func := "loop.example/g00272/laws.FnExactUnder", spec := "fnExactUnder", unfollowed := true, recurses := true, apart := false, narrowed := true }
def FnExactUnderUptoSaid : Prop := fnExactUnderUptoRow.holds Try.pinned (OpenSpec.upto fnExactUnderSpec)

end Rows
end Go.Proofs.Ytonpoakimpoojaa
