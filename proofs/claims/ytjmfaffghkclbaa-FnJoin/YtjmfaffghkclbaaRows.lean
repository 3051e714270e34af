/-
  No cell of these rows narrows 'for every input' (looked for: loops, veiled, ifaces, maps, wideKeys, modest, calm, conditions, laid).
  DERIVED. THE GIVEN ROWS OF THIS SEAT. 17 by the template 'for every input the law returns true; each argument reads behind the call as it read before'; 0 by the template 'total and deterministic' (their statements: YtjmfaffghkclbaaTotals.lean).
  GIVEN WITH THE SEED: the statements are not yours to turn. If you find one false, say at which input.
  Laid BY PROGRAM, IN A SANDBOX (cutbox-rows.mjs): the forced cells as the released guide's own fill.sh prints them over the translation 9a7fce192cc9f502… (all of the seat's roots in one cut). By AI agents, Wed Nov 11 2026. No macro, syntax, notation, axiom, sorry.
-/
import Derived.Test.YtjmfaffghkclbaaChecked
import GoSem.Claim
import GoSem.ClaimJoined
import GoSem.ClaimMapViews
import Derived.JoinedTies
import Derived.KernelRfl
namespace Go.Proofs.Ytjmfaffghkclbaa
/- THE CELL 'sum', in the pinned program and in every row, IS THE sha256 OF THE DUMP (.gsa) THAT YtjmfaffghkclbaaProg.lean LOADS. Nothing in Lean hashes anything: it is a label: what it is worth is what the hold of that sum in a sandbox is worth. -/
noncomputable def Try.pinned : Pinned := { name := "ytjmfaffghkclbaa", sum := "9a7fce192cc9f502d517d47ce4b5cde590a328538b5bd7f30329f228cdbe0bc8", checked := Try.checked }
namespace Rows
def none {H : Type} : Left H := { results := [], args := [] }

/-- 'laws.FnWith': WHATEVER THE INPUT: true; the input reads as it did. -/
def fnWithSpec : ChangeSpec := { name := "fnWith", fn := fun _ => fun
  | [d] => { results := [.lit (.bool true)], args := [d] }
  | _ => none }
def fnWithRow : OpenClaim := { program := "ytjmfaffghkclbaa", sum := "9a7fce192cc9f502d517d47ce4b5cde590a328538b5bd7f30329f228cdbe0bc8", func := "loop.example/g00272/laws.FnWith", spec := "fnWith", unfollowed := true, recurses := true, apart := false }
def FnWithSaid : Prop := fnWithRow.holds Try.pinned (OpenSpec.ofChange fnWithSpec)

/-- ITS FALSE NEIGHBOUR: 'it returns false'. Refute it at one input. -/
def fnWithWrong : ChangeSpec := { name := "fnWith", fn := fun _ => fun
  | [d] => { results := [.lit (.bool false)], args := [d] }
  | _ => none }
def FnWithWrongFalsely : Prop := fnWithRow.holds Try.pinned (OpenSpec.ofChange fnWithWrong)

/-- 'laws.FnJoin': WHATEVER THE INPUT: true; the input reads as it did. -/
def fnJoinSpec : ChangeSpec := { name := "fnJoin", fn := fun _ => fun
  | [d] => { results := [.lit (.bool true)], args := [d] }
  | _ => none }
def fnJoinRow : OpenClaim := { program := "ytjmfaffghkclbaa", sum := "9a7fce192cc9f502d517d47ce4b5cde590a328538b5bd7f30329f228cdbe0bc8", func := "loop.example/g00272/laws.FnJoin", spec := "fnJoin", inPlace := ["maps.clone"], unfollowed := true, recurses := true, apart := false }
def FnJoinSaid : Prop := fnJoinRow.holds Try.pinned (OpenSpec.ofChange fnJoinSpec)

/-- ITS FALSE NEIGHBOUR: 'it returns false'. Refute it at one input. -/
def fnJoinWrong : ChangeSpec := { name := "fnJoin", fn := fun _ => fun
  | [d] => { results := [.lit (.bool false)], args := [d] }
  | _ => none }
def FnJoinWrongFalsely : Prop := fnJoinRow.holds Try.pinned (OpenSpec.ofChange fnJoinWrong)

/-- 'laws.FnOrder': WHATEVER THE INPUT: true; the input reads as it did. -/
def fnOrderSpec : ChangeSpec := { name := "fnOrder", fn := fun _ => fun
  | [d] => { results := [.lit (.bool true)], args := [d] }
  | _ => none }
def fnOrderRow : OpenClaim := { program := "ytjmfaffghkclbaa", sum := "9a7fce192cc9f502d517d47ce4b5cde590a328538b5bd7f30329f228cdbe0bc8", func := "loop.example/g00272/laws.FnOrder", spec := "fnOrder", inPlace := ["maps.clone"], unfollowed := true, recurses := true, apart := false }
def FnOrderSaid : Prop := fnOrderRow.holds Try.pinned (OpenSpec.ofChange fnOrderSpec)

/-- ITS FALSE NEIGHBOUR: 'it returns false'. Refute it at one input. -/
def fnOrderWrong : ChangeSpec := { name := "fnOrder", fn := fun _ => fun
  | [d] => { results := [.lit (.bool false)], args := [d] }
  | _ => none }
def FnOrderWrongFalsely : Prop := fnOrderRow.holds Try.pinned (OpenSpec.ofChange fnOrderWrong)

/-- 'laws.FnFlows': WHATEVER THE INPUT: true; the input reads as it did. -/
def fnFlowsSpec : ChangeSpec := { name := "fnFlows", fn := fun _ => fun
  | [d] => { results := [.lit (.bool true)], args := [d] }
  | _ => none }
def fnFlowsRow : OpenClaim := { program := "ytjmfaffghkclbaa", sum := "9a7fce192cc9f502d517d47ce4b5cde590a328538b5bd7f30329f228cdbe0bc8", func := "loop.example/g00272/laws.FnFlows", spec := "fnFlows", inPlace := ["maps.clone"], unfollowed := true, recurses := true, apart := false }
def FnFlowsSaid : Prop := fnFlowsRow.holds Try.pinned (OpenSpec.ofChange fnFlowsSpec)

/-- ITS FALSE NEIGHBOUR: 'it returns false'. Refute it at one input. -/
def fnFlowsWrong : ChangeSpec := { name := "fnFlows", fn := fun _ => fun
  | [d] => { results := [.lit (.bool false)], args := [d] }
  | _ => none }
def FnFlowsWrongFalsely : Prop := fnFlowsRow.holds Try.pinned (OpenSpec.ofChange fnFlowsWrong)

/-- 'laws.FnNoLeak': WHATEVER THE INPUT: true; the input reads as it did. -/
def fnNoLeakSpec : ChangeSpec := { name := "fnNoLeak", fn := fun _ => fun
  | [d] => { results := [.lit (.bool true)], args := [d] }
  | _ => none }
def fnNoLeakRow : OpenClaim := { program := "ytjmfaffghkclbaa", sum := "9a7fce192cc9f502d517d47ce4b5cde590a328538b5bd7f30329f228cdbe0bc8", func := "loop.example/g00272/laws.FnNoLeak", spec := "fnNoLeak", inPlace := ["maps.clone"], unfollowed := true, recurses := true, apart := false }
def FnNoLeakSaid : Prop := fnNoLeakRow.holds Try.pinned (OpenSpec.ofChange fnNoLeakSpec)

/-- ITS FALSE NEIGHBOUR: 'it returns false'. Refute it at one input. -/
def fnNoLeakWrong : ChangeSpec := { name := "fnNoLeak", fn := fun _ => fun
  | [d] => { results := [.lit (.bool false)], args := [d] }
  | _ => none }
def FnNoLeakWrongFalsely : Prop := fnNoLeakRow.holds Try.pinned (OpenSpec.ofChange fnNoLeakWrong)

/-- 'laws.FnExactLabelOk': WHATEVER THE INPUT: true; the input reads as it did. -/
def fnExactLabelOkSpec : ChangeSpec := { name := "fnExactLabelOk", fn := fun _ => fun
  | [d] => { results := [.lit (.bool true)], args := [d] }
  | _ => none }
def fnExactLabelOkRow : OpenClaim := { program := "ytjmfaffghkclbaa", sum := "9a7fce192cc9f502d517d47ce4b5cde590a328538b5bd7f30329f228cdbe0bc8", func := "loop.example/g00272/laws.FnExactLabelOk", spec := "fnExactLabelOk", apart := false }
def FnExactLabelOkSaid : Prop := fnExactLabelOkRow.holds Try.pinned (OpenSpec.ofChange fnExactLabelOkSpec)

/-- ITS FALSE NEIGHBOUR: 'it returns false'. Refute it at one input. -/
def fnExactLabelOkWrong : ChangeSpec := { name := "fnExactLabelOk", fn := fun _ => fun
  | [d] => { results := [.lit (.bool false)], args := [d] }
  | _ => none }
def FnExactLabelOkWrongFalsely : Prop := fnExactLabelOkRow.holds Try.pinned (OpenSpec.ofChange fnExactLabelOkWrong)

/-- 'laws.FnExactLevelOf': WHATEVER THE INPUT: true; the input reads as it did. -/
def fnExactLevelOfSpec : ChangeSpec := { name := "fnExactLevelOf", fn := fun _ => fun
  | [d1, d2] => { results := [.lit (.bool true)], args := [d1, d2] }
  | _ => none }
def fnExactLevelOfRow : OpenClaim := { program := "ytjmfaffghkclbaa", sum := "9a7fce192cc9f502d517d47ce4b5cde590a328538b5bd7f30329f228cdbe0bc8", func := "loop.example/g00272/laws.FnExactLevelOf", spec := "fnExactLevelOf", apart := false }
def FnExactLevelOfSaid : Prop := fnExactLevelOfRow.holds Try.pinned (OpenSpec.ofChange fnExactLevelOfSpec)

/-- ITS FALSE NEIGHBOUR: 'it returns false'. Refute it at one input. -/
def fnExactLevelOfWrong : ChangeSpec := { name := "fnExactLevelOf", fn := fun _ => fun
  | [d1, d2] => { results := [.lit (.bool false)], args := [d1, d2] }
  | _ => none }
def FnExactLevelOfWrongFalsely : Prop := fnExactLevelOfRow.holds Try.pinned (OpenSpec.ofChange fnExactLevelOfWrong)

/-- 'laws.FnExactWith': WHATEVER THE INPUT: true; the input reads as it did. -/
def fnExactWithSpec : ChangeSpec := { name := "fnExactWith", fn := fun _ => fun
  | [d1, d2, d3] => { results := [.lit (.bool true)], args := [d1, d2, d3] }
  | _ => none }
def fnExactWithRow : OpenClaim := { program := "ytjmfaffghkclbaa", sum := "9a7fce192cc9f502d517d47ce4b5cde590a328538b5bd7f30329f228cdbe0bc8", func := "loop.example/g00272/laws.FnExactWith", spec := "fnExactWith", unfollowed := true, recurses := true, apart := false }
def FnExactWithSaid : Prop := fnExactWithRow.holds Try.pinned (OpenSpec.ofChange fnExactWithSpec)

/-- ITS FALSE NEIGHBOUR: 'it returns false'. Refute it at one input. -/
def fnExactWithWrong : ChangeSpec := { name := "fnExactWith", fn := fun _ => fun
  | [d1, d2, d3] => { results := [.lit (.bool false)], args := [d1, d2, d3] }
  | _ => none }
def FnExactWithWrongFalsely : Prop := fnExactWithRow.holds Try.pinned (OpenSpec.ofChange fnExactWithWrong)

/-- 'laws.FnExactLeq': WHATEVER THE INPUT: true; the input reads as it did. -/
def fnExactLeqSpec : ChangeSpec := { name := "fnExactLeq", fn := fun _ => fun
  | [d1, d2] => { results := [.lit (.bool true)], args := [d1, d2] }
  | _ => none }
def fnExactLeqRow : OpenClaim := { program := "ytjmfaffghkclbaa", sum := "9a7fce192cc9f502d517d47ce4b5cde590a328538b5bd7f30329f228cdbe0bc8", func := "loop.example/g00272/laws.FnExactLeq", spec := "fnExactLeq", inPlace := ["maps.clone"], unfollowed := true, recurses := true, apart := false }
def FnExactLeqSaid : Prop := fnExactLeqRow.holds Try.pinned (OpenSpec.ofChange fnExactLeqSpec)

/-- ITS FALSE NEIGHBOUR: 'it returns false'. Refute it at one input. -/
def fnExactLeqWrong : ChangeSpec := { name := "fnExactLeq", fn := fun _ => fun
  | [d1, d2] => { results := [.lit (.bool false)], args := [d1, d2] }
  | _ => none }
def FnExactLeqWrongFalsely : Prop := fnExactLeqRow.holds Try.pinned (OpenSpec.ofChange fnExactLeqWrong)

/-- 'laws.FnExactJoin': WHATEVER THE INPUT: true; the input reads as it did. -/
def fnExactJoinSpec : ChangeSpec := { name := "fnExactJoin", fn := fun _ => fun
  | [d1, d2] => { results := [.lit (.bool true)], args := [d1, d2] }
  | _ => none }
def fnExactJoinRow : OpenClaim := { program := "ytjmfaffghkclbaa", sum := "9a7fce192cc9f502d517d47ce4b5cde590a328538b5bd7f30329f228cdbe0bc8", func := "loop.example/g00272/laws.FnExactJoin", spec := "fnExactJoin", inPlace := ["maps.clone"], unfollowed := true, recurses := true, apart := false }
def FnExactJoinSaid : Prop := fnExactJoinRow.holds Try.pinned (OpenSpec.ofChange fnExactJoinSpec)

/-- ITS FALSE NEIGHBOUR: 'it returns false'. Refute it at one input. -/
def fnExactJoinWrong : ChangeSpec := { name := "fnExactJoin", fn := fun _ => fun
  | [d1, d2] => { results := [.lit (.bool false)], args := [d1, d2] }
  | _ => none }
def FnExactJoinWrongFalsely : Prop := fnExactJoinRow.holds Try.pinned (OpenSpec.ofChange fnExactJoinWrong)

/-- 'laws.FnExactMeet': WHATEVER THE INPUT: true; the input reads as it did. -/
def fnExactMeetSpec : ChangeSpec := { name := "fnExactMeet", fn := fun _ => fun
  | [d1, d2] => { results := [.lit (.bool true)], args := [d1, d2] }
  | _ => none }
def fnExactMeetRow : OpenClaim := { program := "ytjmfaffghkclbaa", sum := "9a7fce192cc9f502d517d47ce4b5cde590a328538b5bd7f30329f228cdbe0bc8", func := "loop.example/g00272/laws.FnExactMeet", spec := "fnExactMeet", inPlace := ["maps.clone"], unfollowed := true, recurses := true, apart := false }
def FnExactMeetSaid : Prop := fnExactMeetRow.holds Try.pinned (OpenSpec.ofChange fnExactMeetSpec)

/-- ITS FALSE NEIGHBOUR: 'it returns false'. Refute it at one input. -/
def fnExactMeetWrong : ChangeSpec := { name := "fnExactMeet", fn := fun _ => fun
  | [d1, d2] => { results := [.lit (.bool false)], args := [d1, d2] }
  | _ => none }
def FnExactMeetWrongFalsely : Prop := fnExactMeetRow.holds Try.pinned (OpenSpec.ofChange fnExactMeetWrong)

/-- 'laws.FnExactReadLabel': WHATEVER THE INPUT: true; the input reads as it did. -/
def fnExactReadLabelSpec : ChangeSpec := { name := "fnExactReadLabel", fn := fun _ => fun
  | [d] => { results := [.lit (.bool true)], args := [d] }
  | _ => none }
def fnExactReadLabelRow : OpenClaim := { program := "ytjmfaffghkclbaa", sum := "9a7fce192cc9f502d517d47ce4b5cde590a328538b5bd7f30329f228cdbe0bc8", func := "loop.example/g00272/laws.FnExactReadLabel", spec := "fnExactReadLabel", inPlace := ["internal/bytealg.IndexByteString", "internal/bytealg.IndexString"], recurses := true, named := ["internal/bytealg.MaxLen"], apart := false }
def FnExactReadLabelSaid : Prop := fnExactReadLabelRow.holds Try.pinned (OpenSpec.ofChange fnExactReadLabelSpec)

/-- ITS FALSE NEIGHBOUR: 'it returns false'. Refute it at one input. -/
def fnExactReadLabelWrong : ChangeSpec := { name := "fnExactReadLabel", fn := fun _ => fun
  | [d] => { results := [.lit (.bool false)], args := [d] }
  | _ => none }
def FnExactReadLabelWrongFalsely : Prop := fnExactReadLabelRow.holds Try.pinned (OpenSpec.ofChange fnExactReadLabelWrong)

/-- 'laws.FnExactFlows': WHATEVER THE INPUT: true; the input reads as it did. -/
def fnExactFlowsSpec : ChangeSpec := { name := "fnExactFlows", fn := fun _ => fun
  | [d1, d2, d3] => { results := [.lit (.bool true)], args := [d1, d2, d3] }
  | _ => none }
def fnExactFlowsRow : OpenClaim := { program := "ytjmfaffghkclbaa", sum := "9a7fce192cc9f502d517d47ce4b5cde590a328538b5bd7f30329f228cdbe0bc8", func := "loop.example/g00272/laws.FnExactFlows", spec := "fnExactFlows", inPlace := ["maps.clone"], unfollowed := true, recurses := true, apart := false }
def FnExactFlowsSaid : Prop := fnExactFlowsRow.holds Try.pinned (OpenSpec.ofChange fnExactFlowsSpec)

/-- ITS FALSE NEIGHBOUR: 'it returns false'. Refute it at one input. -/
def fnExactFlowsWrong : ChangeSpec := { name := "fnExactFlows", fn := fun _ => fun
  | [d1, d2, d3] => { results := [.lit (.bool false)], args := [d1, d2, d3] }
  | _ => none }
def FnExactFlowsWrongFalsely : Prop := fnExactFlowsRow.holds Try.pinned (OpenSpec.ofChange fnExactFlowsWrong)

/-- 'laws.FnExactThreadOk': WHATEVER THE INPUT: true; the input reads as it did. -/
def fnExactThreadOkSpec : ChangeSpec := { name := "fnExactThreadOk", fn := fun _ => fun
  | [d] => { results := [.lit (.bool true)], args := [d] }
  | _ => none }
def fnExactThreadOkRow : OpenClaim := { program := "ytjmfaffghkclbaa", sum := "9a7fce192cc9f502d517d47ce4b5cde590a328538b5bd7f30329f228cdbe0bc8", func := "loop.example/g00272/laws.FnExactThreadOk", spec := "fnExactThreadOk", apart := false }
def FnExactThreadOkSaid : Prop := fnExactThreadOkRow.holds Try.pinned (OpenSpec.ofChange fnExactThreadOkSpec)

/-- ITS FALSE NEIGHBOUR: 'it returns false'. Refute it at one input. -/
def fnExactThreadOkWrong : ChangeSpec := { name := "fnExactThreadOk", fn := fun _ => fun
  | [d] => { results := [.lit (.bool false)], args := [d] }
  | _ => none }
def FnExactThreadOkWrongFalsely : Prop := fnExactThreadOkRow.holds Try.pinned (OpenSpec.ofChange fnExactThreadOkWrong)

/-- 'laws.FnExactSees': WHATEVER THE INPUT: true; the input reads as it did. -/
def fnExactSeesSpec : ChangeSpec := { name := "fnExactSees", fn := fun _ => fun
  | [d1, d2] => { results := [.lit (.bool true)], args := [d1, d2] }
  | _ => none }
def fnExactSeesRow : OpenClaim := { program := "ytjmfaffghkclbaa", sum := "9a7fce192cc9f502d517d47ce4b5cde590a328538b5bd7f30329f228cdbe0bc8", func := "loop.example/g00272/laws.FnExactSees", spec := "fnExactSees", inPlace := ["maps.clone"], unfollowed := true, recurses := true, apart := false }
def FnExactSeesSaid : Prop := fnExactSeesRow.holds Try.pinned (OpenSpec.ofChange fnExactSeesSpec)

/-- ITS FALSE NEIGHBOUR: 'it returns false'. Refute it at one input. -/
def fnExactSeesWrong : ChangeSpec := { name := "fnExactSees", fn := fun _ => fun
  | [d1, d2] => { results := [.lit (.bool false)], args := [d1, d2] }
  | _ => none }
def FnExactSeesWrongFalsely : Prop := fnExactSeesRow.holds Try.pinned (OpenSpec.ofChange fnExactSeesWrong)

/-- 'laws.FnExactChanges': WHATEVER THE INPUT: true; the input reads as it did. -/
def fnExactChangesSpec : ChangeSpec := { name := "fnExactChanges", fn := fun _ => fun
  | [d1, d2] => { results := [.lit (.bool true)], args := [d1, d2] }
  | _ => none }
def fnExactChangesRow : OpenClaim := { program := "ytjmfaffghkclbaa", sum := "9a7fce192cc9f502d517d47ce4b5cde590a328538b5bd7f30329f228cdbe0bc8", func := "loop.example/g00272/laws.FnExactChanges", spec := "fnExactChanges", inPlace := ["maps.clone"], unfollowed := true, recurses := true, apart := false }
def FnExactChangesSaid : Prop := fnExactChangesRow.holds Try.pinned (OpenSpec.ofChange fnExactChangesSpec)

/-- ITS FALSE NEIGHBOUR: 'it returns false'. Refute it at one input. -/
def fnExactChangesWrong : ChangeSpec := { name := "fnExactChanges", fn := fun _ => fun
  | [d1, d2] => { results := [.lit (.bool false)], args := [d1, d2] }
  | _ => none }
def FnExactChangesWrongFalsely : Prop := fnExactChangesRow.holds Try.pinned (OpenSpec.ofChange fnExactChangesWrong)

/-- 'laws.FnExactReaches': WHATEVER THE INPUT: true; the input reads as it did. -/
def fnExactReachesSpec : ChangeSpec := { name := "fnExactReaches", fn := fun _ => fun
  | [d1, d2] => { results := [.lit (.bool true)], args := [d1, d2] }
  | _ => none }
def fnExactReachesRow : OpenClaim := { program := "ytjmfaffghkclbaa", sum := "9a7fce192cc9f502d517d47ce4b5cde590a328538b5bd7f30329f228cdbe0bc8", func := "loop.example/g00272/laws.FnExactReaches", spec := "fnExactReaches", inPlace := ["maps.clone"], unfollowed := true, recurses := true, apart := false }
def FnExactReachesSaid : Prop := fnExactReachesRow.holds Try.pinned (OpenSpec.ofChange fnExactReachesSpec)

/-- ITS FALSE NEIGHBOUR: 'it returns false'. Refute it at one input. -/
def fnExactReachesWrong : ChangeSpec := { name := "fnExactReaches", fn := fun _ => fun
  | [d1, d2] => { results := [.lit (.bool false)], args := [d1, d2] }
  | _ => none }
def FnExactReachesWrongFalsely : Prop := fnExactReachesRow.holds Try.pinned (OpenSpec.ofChange fnExactReachesWrong)

/- THE SECOND FORM. 'bulk': how many values and letters a reading holds, each counted each time it is reached (what is shared counts as often as it is met; a slice's spare places count too). A statement '..UptoSaid' is the law's where the arguments, and the package variables that the reading takes, are together of bulk at most 1048576: NARROWER than '..Said'. Prove '..Said' where nothing that the law and all that it calls make is longer than what came in: it says more and counts as full. Else prove '..UptoSaid'. A law counts once. -/
mutual
def uptoBulk {H : Type} : DataW H → Nat
  | .lit (.string bytes) => bytes.length + 1
  | .lit _ => 1
  | .nil => 1
  | .ptr d => uptoBulk d + 1
  | .slice elems spare => uptoBulkAll elems + uptoBulkAll spare + 1
  | .agg parts => uptoBulkAll parts + 1
  | .iface _ d => uptoBulk d + 1
  | .map entries => uptoBulkEntries entries + 1
  | .held _ => 1
def uptoBulkAll {H : Type} : List (DataW H) → Nat
  | [] => 0
  | d :: r => uptoBulk d + uptoBulkAll r
def uptoBulkEntries {H : Type} : List (Lit × DataW H) → Nat
  | [] => 0
  | x :: r => uptoBulkEntry x + uptoBulkEntries r
def uptoBulkEntry {H : Type} : Lit × DataW H → Nat
  | (.string bytes, d) => bytes.length + uptoBulk d + 1
  | (_, d) => uptoBulk d + 1
 end
def uptoSmall : (H : Type) → List (DataW H) → Bool := fun _ ds => decide (uptoBulkAll ds ≤ 1048576)
def OpenSpec.upto (s : _root_.Go.ChangeSpec) : _root_.Go.OpenSpec := { _root_.Go.OpenSpec.ofChange s with cond := some uptoSmall }

/-- 'laws.FnWith', WHERE WHAT IT READS IS OF BULK AT MOST 1048576: true; the input reads as it did. -/
def fnWithUptoRow : OpenClaim := { program := "ytjmfaffghkclbaa", sum := "9a7fce192cc9f502d517d47ce4b5cde590a328538b5bd7f30329f228cdbe0bc8", func := "loop.example/g00272/laws.FnWith", spec := "fnWith", unfollowed := true, recurses := true, apart := false, narrowed := true }
def FnWithUptoSaid : Prop := fnWithUptoRow.holds Try.pinned (OpenSpec.upto fnWithSpec)

/-- 'laws.FnJoin', WHERE WHAT IT READS IS OF BULK AT MOST 1048576: true; the input reads as it did. -/
def fnJoinUptoRow : OpenClaim := { program := "ytjmfaffghkclbaa", sum := "9a7fce192cc9f502d517d47ce4b5cde590a328538b5bd7f30329f228cdbe0bc8", func := "loop.example/g00272/laws.FnJoin", spec := "fnJoin", inPlace := ["maps.clone"], unfollowed := true, recurses := true, apart := false, narrowed := true }
def FnJoinUptoSaid : Prop := fnJoinUptoRow.holds Try.pinned (OpenSpec.upto fnJoinSpec)

/-- 'laws.FnOrder', WHERE WHAT IT READS IS OF BULK AT MOST 1048576: true; the input reads as it did. -/
def fnOrderUptoRow : OpenClaim := { program := "ytjmfaffghkclbaa", sum := "9a7fce192cc9f502d517d47ce4b5cde590a328538b5bd7f30329f228cdbe0bc8", func := "loop.example/g00272/laws.FnOrder", spec := "fnOrder", inPlace := ["maps.clone"], unfollowed := true, recurses := true, apart := false, narrowed := true }
def FnOrderUptoSaid : Prop := fnOrderUptoRow.holds Try.pinned (OpenSpec.upto fnOrderSpec)

/-- 'laws.FnFlows', WHERE WHAT IT READS IS OF BULK AT MOST 1048576: true; the input reads as it did. -/
def fnFlowsUptoRow : OpenClaim := { program := "ytjmfaffghkclbaa", sum := "9a7fce192cc9f502d517d47ce4b5cde590a328538b5bd7f30329f228cdbe0bc8", func := "loop.example/g00272/laws.FnFlows", spec := "fnFlows", inPlace := ["maps.clone"], unfollowed := true, recurses := true, apart := false, narrowed := true }
def FnFlowsUptoSaid : Prop := fnFlowsUptoRow.holds Try.pinned (OpenSpec.upto fnFlowsSpec)

/-- 'laws.FnNoLeak', WHERE WHAT IT READS IS OF BULK AT MOST 1048576: true; the input reads as it did. -/
def fnNoLeakUptoRow : OpenClaim := { program := "ytjmfaffghkclbaa", sum := "9a7fce192cc9f502d517d47ce4b5cde590a328538b5bd7f30329f228cdbe0bc8", func := "loop.example/g00272/laws.FnNoLeak", spec := "fnNoLeak", inPlace := ["maps.clone"], unfollowed := true, recurses := true, apart := false, narrowed := true }
def FnNoLeakUptoSaid : Prop := fnNoLeakUptoRow.holds Try.pinned (OpenSpec.upto fnNoLeakSpec)

/-- 'laws.FnExactLabelOk', WHERE WHAT IT READS IS OF BULK AT MOST 1048576: true; the input reads as it did. -/
def fnExactLabelOkUptoRow : OpenClaim := { program := "ytjmfaffghkclbaa", sum := "9a7fce192cc9f502d517d47ce4b5cde590a328538b5bd7f30329f228cdbe0bc8", func := "loop.example/g00272/laws.FnExactLabelOk", spec := "fnExactLabelOk", apart := false, narrowed := true }
def FnExactLabelOkUptoSaid : Prop := fnExactLabelOkUptoRow.holds Try.pinned (OpenSpec.upto fnExactLabelOkSpec)

/-- 'laws.FnExactLevelOf', WHERE WHAT IT READS IS OF BULK AT MOST 1048576: true; the input reads as it did. -/
def fnExactLevelOfUptoRow : OpenClaim := { program := "ytjmfaffghkclbaa", sum := "9a7fce192cc9f502d517d47ce4b5cde590a328538b5bd7f30329f228cdbe0bc8", func := "loop.example/g00272/laws.FnExactLevelOf", spec := "fnExactLevelOf", apart := false, narrowed := true }
def FnExactLevelOfUptoSaid : Prop := fnExactLevelOfUptoRow.holds Try.pinned (OpenSpec.upto fnExactLevelOfSpec)

/-- 'laws.FnExactWith', WHERE WHAT IT READS IS OF BULK AT MOST 1048576: true; the input reads as it did. -/
def fnExactWithUptoRow : OpenClaim := { program := "ytjmfaffghkclbaa", sum := "9a7fce192cc9f502d517d47ce4b5cde590a328538b5bd7f30329f228cdbe0bc8", func := "loop.example/g00272/laws.FnExactWith", spec := "fnExactWith", unfollowed := true, recurses := true, apart := false, narrowed := true }
def FnExactWithUptoSaid : Prop := fnExactWithUptoRow.holds Try.pinned (OpenSpec.upto fnExactWithSpec)

/-- 'laws.FnExactLeq', WHERE WHAT IT READS IS OF BULK AT MOST 1048576: true; the input reads as it did. -/
def fnExactLeqUptoRow : OpenClaim := { program := "ytjmfaffghkclbaa", sum := "9a7fce192cc9f502d517d47ce4b5cde590a328538b5bd7f30329f228cdbe0bc8", func := "loop.example/g00272/laws.FnExactLeq", spec := "fnExactLeq", inPlace := ["maps.clone"], unfollowed := true, recurses := true, apart := false, narrowed := true }
def FnExactLeqUptoSaid : Prop := fnExactLeqUptoRow.holds Try.pinned (OpenSpec.upto fnExactLeqSpec)

/-- 'laws.FnExactJoin', WHERE WHAT IT READS IS OF BULK AT MOST 1048576: true; the input reads as it did. -/
def fnExactJoinUptoRow : OpenClaim := { program := "ytjmfaffghkclbaa", sum := "9a7fce192cc9f502d517d47ce4b5cde590a328538b5bd7f30329f228cdbe0bc8", func := "loop.example/g00272/laws.FnExactJoin", spec := "fnExactJoin", inPlace := ["maps.clone"], unfollowed := true, recurses := true, apart := false, narrowed := true }
def FnExactJoinUptoSaid : Prop := fnExactJoinUptoRow.holds Try.pinned (OpenSpec.upto fnExactJoinSpec)

/-- 'laws.FnExactMeet', WHERE WHAT IT READS IS OF BULK AT MOST 1048576: true; the input reads as it did. -/
def fnExactMeetUptoRow : OpenClaim := { program := "ytjmfaffghkclbaa", sum := "9a7fce192cc9f502d517d47ce4b5cde590a328538b5bd7f30329f228cdbe0bc8", func := "loop.example/g00272/laws.FnExactMeet", spec := "fnExactMeet", inPlace := ["maps.clone"], unfollowed := true, recurses := true, apart := false, narrowed := true }
def FnExactMeetUptoSaid : Prop := fnExactMeetUptoRow.holds Try.pinned (OpenSpec.upto fnExactMeetSpec)

/-- 'laws.FnExactReadLabel', WHERE WHAT IT READS IS OF BULK AT MOST 1048576: true; the input reads as it did. -/
def fnExactReadLabelUptoRow : OpenClaim := { program := "ytjmfaffghkclbaa", sum := "9a7fce192cc9f502d517d47ce4b5cde590a328538b5bd7f30329f228cdbe0bc8", func := "loop.example/g00272/laws.FnExactReadLabel", spec := "fnExactReadLabel", inPlace := ["internal/bytealg.IndexByteString", "internal/bytealg.IndexString"], recurses := true, named := ["internal/bytealg.MaxLen"], apart := false, narrowed := true }
def FnExactReadLabelUptoSaid : Prop := fnExactReadLabelUptoRow.holds Try.pinned (OpenSpec.upto fnExactReadLabelSpec)

/-- 'laws.FnExactFlows', WHERE WHAT IT READS IS OF BULK AT MOST 1048576: true; the input reads as it did. -/
def fnExactFlowsUptoRow : OpenClaim := { program := "ytjmfaffghkclbaa", sum := "9a7fce192cc9f502d517d47ce4b5cde590a328538b5bd7f30329f228cdbe0bc8", func := "loop.example/g00272/laws.FnExactFlows", spec := "fnExactFlows", inPlace := ["maps.clone"], unfollowed := true, recurses := true, apart := false, narrowed := true }
def FnExactFlowsUptoSaid : Prop := fnExactFlowsUptoRow.holds Try.pinned (OpenSpec.upto fnExactFlowsSpec)

/-- 'laws.FnExactThreadOk', WHERE WHAT IT READS IS OF BULK AT MOST 1048576: true; the input reads as it did. -/
def fnExactThreadOkUptoRow : OpenClaim := { program := "ytjmfaffghkclbaa", sum := "9a7fce192cc9f502d517d47ce4b5cde590a328538b5bd7f30329f228cdbe0bc8", func := "loop.example/g00272/laws.FnExactThreadOk", spec := "fnExactThreadOk", apart := false, narrowed := true }
def FnExactThreadOkUptoSaid : Prop := fnExactThreadOkUptoRow.holds Try.pinned (OpenSpec.upto fnExactThreadOkSpec)

/-- 'laws.FnExactSees', WHERE WHAT IT READS IS OF BULK AT MOST 1048576: true; the input reads as it did. -/
def fnExactSeesUptoRow : OpenClaim := { program := "ytjmfaffghkclbaa", sum := "9a7fce192cc9f502d517d47ce4b5cde590a328538b5bd7f30329f228cdbe0bc8", func := "loop.example/g00272/laws.FnExactSees", spec := "fnExactSees", inPlace := ["maps.clone"], unfollowed := true, recurses := true, apart := false, narrowed := true }
def FnExactSeesUptoSaid : Prop := fnExactSeesUptoRow.holds Try.pinned (OpenSpec.upto fnExactSeesSpec)

/-- 'laws.FnExactChanges', WHERE WHAT IT READS IS OF BULK AT MOST 1048576: true; the input reads as it did. -/
def fnExactChangesUptoRow : OpenClaim := { program := "ytjmfaffghkclbaa", sum := "9a7fce192cc9f502d517d47ce4b5cde590a328538b5bd7f30329f228cdbe0bc8", func := "loop.example/g00272/laws.FnExactChanges", spec := "fnExactChanges", inPlace := ["maps.clone"], unfollowed := true, recurses := true, apart := false, narrowed := true }
def FnExactChangesUptoSaid : Prop := fnExactChangesUptoRow.holds Try.pinned (OpenSpec.upto fnExactChangesSpec)

/-- 'laws.FnExactReaches', WHERE WHAT IT READS IS OF BULK AT MOST 1048576: true; the input reads as it did. -/
def fnExactReachesUptoRow : OpenClaim := { program := "ytjmfaffghkclbaa", sum := "9a7fce192cc9f502d517d47ce4b5cde590a328538b5bd7f30329f228cdbe0bc8", func := "loop.example/g00272/laws.FnExactReaches", spec := "fnExactReaches", inPlace := ["maps.clone"], unfollowed := true, recurses := true, apart := false, narrowed := true }
def FnExactReachesUptoSaid : Prop := fnExactReachesUptoRow.holds Try.pinned (OpenSpec.upto fnExactReachesSpec)

end Rows
end Go.Proofs.Ytjmfaffghkclbaa
