/-
  No cell of these rows narrows 'for every input' (looked for: loops, veiled, ifaces, maps, wideKeys, modest, calm, conditions, laid).
  DERIVED. THE GIVEN ROWS OF THIS SEAT. 7 by the template 'for every input the law returns true; each argument reads behind the call as it read before'; 0 by the template 'total and deterministic' (their statements: YtaegcoihgnobiaaTotals.lean).
  GIVEN WITH THE SEED: the statements are not yours to turn. If you find one false, say at which input.
  Laid BY PROGRAM, IN A SANDBOX (cutbox-rows.mjs): the forced cells as the released guide's own fill.sh prints them over the translation 83fde65cdfe7c7a3… (all of the seat's roots in one cut). By AI agents, Wed Nov 11 2026. No macro, syntax, notation, axiom, sorry.
-/
import Derived.Test.YtaegcoihgnobiaaChecked
import GoSem.Claim
import GoSem.ClaimJoined
import GoSem.ClaimMapViews
import Derived.JoinedTies
import Derived.KernelRfl
namespace Go.Proofs.Ytaegcoihgnobiaa
/- THE CELL 'sum', in the pinned program and in every row, IS THE sha256 OF THE DUMP (.gsa) THAT YtaegcoihgnobiaaProg.lean LOADS. Nothing in Lean hashes anything: it is a label: what it is worth is what the hold of that sum in a sandbox is worth. -/
noncomputable def Try.pinned : Pinned := { name := "ytaegcoihgnobiaa", sum := "83fde65cdfe7c7a35f335d08d0c30d173dd8a06f20bf7f4da66c68940902593c", checked := Try.checked }
namespace Rows
def none {H : Type} : Left H := { results := [], args := [] }

/-- 'laws.FnWraps': WHATEVER THE INPUT: true; the input reads as it did. -/
def fnWrapsSpec : ChangeSpec := { name := "fnWraps", fn := fun _ => fun
  | [d] => { results := [.lit (.bool true)], args := [d] }
  | _ => none }
def fnWrapsRow : OpenClaim := { program := "ytaegcoihgnobiaa", sum := "83fde65cdfe7c7a35f335d08d0c30d173dd8a06f20bf7f4da66c68940902593c", func := "loop.example/g00222/laws.FnWraps", spec := "fnWraps", unfollowed := true, recurses := true, apart := false }
def FnWrapsSaid : Prop := fnWrapsRow.holds Try.pinned (OpenSpec.ofChange fnWrapsSpec)

/-- ITS FALSE NEIGHBOUR: 'it returns false'. Refute it at one input. -/
def fnWrapsWrong : ChangeSpec := { name := "fnWraps", fn := fun _ => fun
  | [d] => { results := [.lit (.bool false)], args := [d] }
  | _ => none }
def FnWrapsWrongFalsely : Prop := fnWrapsRow.holds Try.pinned (OpenSpec.ofChange fnWrapsWrong)

/-- 'laws.FnExactPacketFault': WHATEVER THE INPUT: true; the input reads as it did. -/
def fnExactPacketFaultSpec : ChangeSpec := { name := "fnExactPacketFault", fn := fun _ => fun
  | [d] => { results := [.lit (.bool true)], args := [d] }
  | _ => none }
def fnExactPacketFaultRow : OpenClaim := { program := "ytaegcoihgnobiaa", sum := "83fde65cdfe7c7a35f335d08d0c30d173dd8a06f20bf7f4da66c68940902593c", func := "loop.example/g00222/laws.FnExactPacketFault", spec := "fnExactPacketFault", apart := false }
def FnExactPacketFaultSaid : Prop := fnExactPacketFaultRow.holds Try.pinned (OpenSpec.ofChange fnExactPacketFaultSpec)

/-- ITS FALSE NEIGHBOUR: 'it returns false'. Refute it at one input. -/
def fnExactPacketFaultWrong : ChangeSpec := { name := "fnExactPacketFault", fn := fun _ => fun
  | [d] => { results := [.lit (.bool false)], args := [d] }
  | _ => none }
def FnExactPacketFaultWrongFalsely : Prop := fnExactPacketFaultRow.holds Try.pinned (OpenSpec.ofChange fnExactPacketFaultWrong)

/-- 'laws.FnExactBuildPacket': WHATEVER THE INPUT: true; the input reads as it did. -/
def fnExactBuildPacketSpec : ChangeSpec := { name := "fnExactBuildPacket", fn := fun _ => fun
  | [d] => { results := [.lit (.bool true)], args := [d] }
  | _ => none }
def fnExactBuildPacketRow : OpenClaim := { program := "ytaegcoihgnobiaa", sum := "83fde65cdfe7c7a35f335d08d0c30d173dd8a06f20bf7f4da66c68940902593c", func := "loop.example/g00222/laws.FnExactBuildPacket", spec := "fnExactBuildPacket", apart := false }
def FnExactBuildPacketSaid : Prop := fnExactBuildPacketRow.holds Try.pinned (OpenSpec.ofChange fnExactBuildPacketSpec)

/-- ITS FALSE NEIGHBOUR: 'it returns false'. Refute it at one input. -/
def fnExactBuildPacketWrong : ChangeSpec := { name := "fnExactBuildPacket", fn := fun _ => fun
  | [d] => { results := [.lit (.bool false)], args := [d] }
  | _ => none }
def FnExactBuildPacketWrongFalsely : Prop := fnExactBuildPacketRow.holds Try.pinned (OpenSpec.ofChange fnExactBuildPacketWrong)

/-- 'laws.FnExactParsePacket': WHATEVER THE INPUT: true; the input reads as it did. -/
def fnExactParsePacketSpec : ChangeSpec := { name := "fnExactParsePacket", fn := fun _ => fun
  | [d] => { results := [.lit (.bool true)], args := [d] }
  | _ => none }
def fnExactParsePacketRow : OpenClaim := { program := "ytaegcoihgnobiaa", sum := "83fde65cdfe7c7a35f335d08d0c30d173dd8a06f20bf7f4da66c68940902593c", func := "loop.example/g00222/laws.FnExactParsePacket", spec := "fnExactParsePacket", unfollowed := true, recurses := true, apart := false }
def FnExactParsePacketSaid : Prop := fnExactParsePacketRow.holds Try.pinned (OpenSpec.ofChange fnExactParsePacketSpec)

/-- ITS FALSE NEIGHBOUR: 'it returns false'. Refute it at one input. -/
def fnExactParsePacketWrong : ChangeSpec := { name := "fnExactParsePacket", fn := fun _ => fun
  | [d] => { results := [.lit (.bool false)], args := [d] }
  | _ => none }
def FnExactParsePacketWrongFalsely : Prop := fnExactParsePacketRow.holds Try.pinned (OpenSpec.ofChange fnExactParsePacketWrong)

/-- 'laws.FnExactWrapGre': WHATEVER THE INPUT: true; the input reads as it did. -/
def fnExactWrapGreSpec : ChangeSpec := { name := "fnExactWrapGre", fn := fun _ => fun
  | [d1, d2, d3] => { results := [.lit (.bool true)], args := [d1, d2, d3] }
  | _ => none }
def fnExactWrapGreRow : OpenClaim := { program := "ytaegcoihgnobiaa", sum := "83fde65cdfe7c7a35f335d08d0c30d173dd8a06f20bf7f4da66c68940902593c", func := "loop.example/g00222/laws.FnExactWrapGre", spec := "fnExactWrapGre", apart := false }
def FnExactWrapGreSaid : Prop := fnExactWrapGreRow.holds Try.pinned (OpenSpec.ofChange fnExactWrapGreSpec)

/-- ITS FALSE NEIGHBOUR: 'it returns false'. Refute it at one input. -/
def fnExactWrapGreWrong : ChangeSpec := { name := "fnExactWrapGre", fn := fun _ => fun
  | [d1, d2, d3] => { results := [.lit (.bool false)], args := [d1, d2, d3] }
  | _ => none }
def FnExactWrapGreWrongFalsely : Prop := fnExactWrapGreRow.holds Try.pinned (OpenSpec.ofChange fnExactWrapGreWrong)

/-- 'laws.FnExactUnwrapGre': WHATEVER THE INPUT: true; the input reads as it did. -/
def fnExactUnwrapGreSpec : ChangeSpec := { name := "fnExactUnwrapGre", fn := fun _ => fun
  | [d] => { results := [.lit (.bool true)], args := [d] }
  | _ => none }
def fnExactUnwrapGreRow : OpenClaim := { program := "ytaegcoihgnobiaa", sum := "83fde65cdfe7c7a35f335d08d0c30d173dd8a06f20bf7f4da66c68940902593c", func := "loop.example/g00222/laws.FnExactUnwrapGre", spec := "fnExactUnwrapGre", unfollowed := true, recurses := true, apart := false }
def FnExactUnwrapGreSaid : Prop := fnExactUnwrapGreRow.holds Try.pinned (OpenSpec.ofChange fnExactUnwrapGreSpec)

/-- ITS FALSE NEIGHBOUR: 'it returns false'. Refute it at one input. -/
def fnExactUnwrapGreWrong : ChangeSpec := { name := "fnExactUnwrapGre", fn := fun _ => fun
  | [d] => { results := [.lit (.bool false)], args := [d] }
  | _ => none }
def FnExactUnwrapGreWrongFalsely : Prop := fnExactUnwrapGreRow.holds Try.pinned (OpenSpec.ofChange fnExactUnwrapGreWrong)

/-- 'laws.FnExactSamePacket': WHATEVER THE INPUT: true; the input reads as it did. -/
def fnExactSamePacketSpec : ChangeSpec := { name := "fnExactSamePacket", fn := fun _ => fun
  | [d1, d2] => { results := [.lit (.bool true)], args := [d1, d2] }
  | _ => none }
def fnExactSamePacketRow : OpenClaim := { program := "ytaegcoihgnobiaa", sum := "83fde65cdfe7c7a35f335d08d0c30d173dd8a06f20bf7f4da66c68940902593c", func := "loop.example/g00222/laws.FnExactSamePacket", spec := "fnExactSamePacket", apart := false }
def FnExactSamePacketSaid : Prop := fnExactSamePacketRow.holds Try.pinned (OpenSpec.ofChange fnExactSamePacketSpec)

/-- ITS FALSE NEIGHBOUR: 'it returns false'. Refute it at one input. -/
def fnExactSamePacketWrong : ChangeSpec := { name := "fnExactSamePacket", fn := fun _ => fun
  | [d1, d2] => { results := [.lit (.bool false)], args := [d1, d2] }
  | _ => none }
def FnExactSamePacketWrongFalsely : Prop := fnExactSamePacketRow.holds Try.pinned (OpenSpec.ofChange fnExactSamePacketWrong)

/- THE SECOND FORM. 'bulk': how many values and letters a reading holds, each counted each time it is reached (what is shared counts as often as it is met; a slice's spare places count too). A statement '..UptoSaid' is the law's where the arguments, and the package variables that the reading takes, are together of bulk at most 1048576: NARROWER than '..Said'. Prove '..Said' where nothing that the law and all that it calls make is longer than what came in: it says more and counts as full. Else prove '..UptoSaid'. A law counts once. -/
mutual
def uptoBulk {H : Type} : DataW H → Nat
  | .lit (.string bytes) => bytes.length + 1
  | .lit _ => 1
  | .nil => 1
  | .ptr d => uptoBulk d + 1
  | .slice elems spare => uptoBulkAll elems + uptoBulkAll spare + 1
  | .agg parts => uptoBulkAll parts + 1
  | .iface _ d => uptoBulk d + 1
  | .map entries => uptoBulkEntries entries + 1
  | .held _ => 1
def uptoBulkAll {H : Type} : List (DataW H) → Nat
  | [] => 0
  | d :: r => uptoBulk d + uptoBulkAll r
def uptoBulkEntries {H : Type} : List (Lit × DataW H) → Nat
  | [] => 0
  | x :: r => uptoBulkEntry x + uptoBulkEntries r
def uptoBulkEntry {H : Type} : Lit × DataW H → Nat
  | (.string bytes, d) => bytes.length + uptoBulk d + 1
  | (_, d) => uptoBulk d + 1
 end
def uptoSmall : (H : Type) → List (DataW H) → Bool := fun _ ds => decide (uptoBulkAll ds ≤ 1048576)
def OpenSpec.upto (s : _root_.Go.ChangeSpec) : _root_.Go.OpenSpec := { _root_.Go.OpenSpec.ofChange s with cond := some uptoSmall }

/-- 'laws.FnWraps', WHERE WHAT IT READS IS OF BULK AT MOST 1048576: true; the input reads as it did. -/
def fnWrapsUptoRow : OpenClaim := { program := "ytaegcoihgnobiaa", sum := "83fde65cdfe7c7a35f335d08d0c30d173dd8a06f20bf7f4da66c68940902593c", func := "loop.example/g00222/laws.FnWraps", spec := "fnWraps", unfollowed := true, recurses := true, apart := false, narrowed := true }
def FnWrapsUptoSaid : Prop := fnWrapsUptoRow.holds Try.pinned (OpenSpec.upto fnWrapsSpec)

/-- 'laws.FnExactPacketFault', WHERE WHAT IT READS IS OF BULK AT MOST 1048576: true; the input reads as it did. -/
def fnExactPacketFaultUptoRow : OpenClaim := { program := "ytaegcoihgnobiaa", sum := "83fde65cdfe7c7a35f335d08d0c30d173dd8a06f20bf7f4da66c68940902593c", func := "loop.example/g00222/laws.FnExactPacketFault", spec := "fnExactPacketFault", apart := false, narrowed := true }
def FnExactPacketFaultUptoSaid : Prop := fnExactPacketFaultUptoRow.holds Try.pinned (OpenSpec.upto fnExactPacketFaultSpec)

/-- 'laws.FnExactBuildPacket', WHERE WHAT IT READS IS OF BULK AT MOST 1048576: true; the input reads as it did. -/
def fnExactBuildPacketUptoRow : OpenClaim := { program := "ytaegcoihgnobiaa", sum := "83fde65cdfe7c7a35f335d08d0c30d173dd8a06f20bf7f4da66c68940902593c", func := "loop.example/g00222/laws.FnExactBuildPacket", spec := "fnExactBuildPacket", apart := false, narrowed := true }
def FnExactBuildPacketUptoSaid : Prop := fnExactBuildPacketUptoRow.holds Try.pinned (OpenSpec.upto fnExactBuildPacketSpec)

/-- 'laws.FnExactParsePacket', WHERE WHAT IT READS IS OF BULK AT MOST 1048576: true; the input reads as it did. -/
def fnExactParsePacketUptoRow : OpenClaim := { program := "ytaegcoihgnobiaa", sum := "83fde65cdfe7c7a35f335d08d0c30d173dd8a06f20bf7f4da66c68940902593c", func := "loop.example/g00222/laws.FnExactParsePacket", spec := "fnExactParsePacket", unfollowed := true, recurses := true, apart := false, narrowed := true }
def FnExactParsePacketUptoSaid : Prop := fnExactParsePacketUptoRow.holds Try.pinned (OpenSpec.upto fnExactParsePacketSpec)

/-- 'laws.FnExactWrapGre', WHERE WHAT IT READS IS OF BULK AT MOST 1048576: true; the input reads as it did. -/
def fnExactWrapGreUptoRow : OpenClaim := { program := "ytaegcoihgnobiaa", sum := "83fde65cdfe7c7a35f335d08d0c30d173dd8a06f20bf7f4da66c68940902593c", func := "loop.example/g00222/laws.FnExactWrapGre", spec := "fnExactWrapGre", apart := false, narrowed := true }
def FnExactWrapGreUptoSaid : Prop := fnExactWrapGreUptoRow.holds Try.pinned (OpenSpec.upto fnExactWrapGreSpec)

/-- 'laws.FnExactUnwrapGre', WHERE WHAT IT READS IS OF BULK AT MOST 1048576: true; the input reads as it did. -/
def fnExactUnwrapGreUptoRow : OpenClaim := { program := "ytaegcoihgnobiaa", sum := "83fde65cdfe7c7a35f335d08d0c30d173dd8a06f20bf7f4da66c68940902593c", func := "loop.example/g00222/laws.FnExactUnwrapGre", spec := "fnExactUnwrapGre", unfollowed := true, recurses := true, apart := false, narrowed := true }
def FnExactUnwrapGreUptoSaid : Prop := fnExactUnwrapGreUptoRow.holds Try.pinned (OpenSpec.upto fnExactUnwrapGreSpec)

/-- 'laws.FnExactSamePacket', WHERE WHAT IT READS IS OF BULK AT MOST 1048576: true; the input reads as it did. -/
def fnExactSamePacketUptoRow : OpenClaim := { program := "ytaegcoihgnobiaa", sum := "83fde65cdfe7c7a35f335d08d0c30d173dd8a06f20bf7f4da66c68940902593c", func := "loop.example/g00222/laws.FnExactSamePacket", spec := "fnExactSamePacket", apart := false, narrowed := true }
def FnExactSamePacketUptoSaid : Prop := fnExactSamePacketUptoRow.holds Try.pinned (OpenSpec.upto fnExactSamePacketSpec)

end Rows
end Go.Proofs.Ytaegcoihgnobiaa
