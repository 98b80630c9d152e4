/-
  No cell of these rows narrows 'for every input' (looked for: loops, veiled, ifaces, maps, wideKeys, modest, calm, conditions, laid).
  DERIVED. THE GIVEN ROWS OF THIS SEAT. 7 by the template 'for every input the law returns true; each argument reads behind the call as it read before'; 0 by the template 'total and deterministic' (their statements: YtklmlomaleaaaaaTotals.lean).
  GIVEN WITH THE SEED: the statements are not yours to turn. If you find one false, say at which input.
  Laid BY PROGRAM, IN A SANDBOX (cutbox-rows.mjs): the forced cells as the released guide's own fill.sh prints them over the translation 0dd6a42d9cc47a44… (all of the seat's roots in one cut). By AI agents, Wed Nov 11 2026. No macro, syntax, notation, axiom, sorry.
-/
import Derived.Test.YtklmlomaleaaaaaChecked
import GoSem.Claim
import GoSem.ClaimJoined
import GoSem.ClaimMapViews
import Derived.JoinedTies
import Derived.KernelRfl
namespace Go.Proofs.Ytklmlomaleaaaaa
/- THE CELL 'sum', in the pinned program and in every row, IS THE sha256 OF THE DUMP (.gsa) THAT YtklmlomaleaaaaaProg.lean LOADS. Nothing in Lean hashes anything: it is a label: what it is worth is what the hold of that sum in a sandbox is worth. -/
noncomputable def Try.pinned : Pinned := { name := "ytklmlomaleaaaaa", sum := "0dd6a42d9cc47a44542a5266f6f23b40bc71a9954ac8758dbd1d8028b870409e", checked := Try.checked }
namespace Rows
def none {H : Type} : Left H := { results := [], args := [] }

/-- 'laws.FnExactHealthFault': WHATEVER THE INPUT: true; the input reads as it did. -/
def fnExactHealthFaultSpec : ChangeSpec := { name := "fnExactHealthFault", fn := fun _ => fun
  | [d] => { results := [.lit (.bool true)], args := [d] }
  | _ => none }
def fnExactHealthFaultRow : OpenClaim := { program := "ytklmlomaleaaaaa", sum := "0dd6a42d9cc47a44542a5266f6f23b40bc71a9954ac8758dbd1d8028b870409e", func := "loop.example/g00222/laws.FnExactHealthFault", spec := "fnExactHealthFault", plainKeys := false, apart := false }
def FnExactHealthFaultSaid : Prop := fnExactHealthFaultRow.holds Try.pinned (OpenSpec.ofChange fnExactHealthFaultSpec)

/-- ITS FALSE NEIGHBOUR: 'it returns false'. Refute it at one input. -/
def fnExactHealthFaultWrong : ChangeSpec := { name := "fnExactHealthFault", fn := fun _ => fun
  | [d] => { results := [.lit (.bool false)], args := [d] }
  | _ => none }
def FnExactHealthFaultWrongFalsely : Prop := fnExactHealthFaultRow.holds Try.pinned (OpenSpec.ofChange fnExactHealthFaultWrong)

/-- 'laws.FnExactProbeHealth': WHATEVER THE INPUT: true; the input reads as it did. -/
def fnExactProbeHealthSpec : ChangeSpec := { name := "fnExactProbeHealth", fn := fun _ => fun
  | [d1, d2] => { results := [.lit (.bool true)], args := [d1, d2] }
  | _ => none }
def fnExactProbeHealthRow : OpenClaim := { program := "ytklmlomaleaaaaa", sum := "0dd6a42d9cc47a44542a5266f6f23b40bc71a9954ac8758dbd1d8028b870409e", func := "loop.example/g00222/laws.FnExactProbeHealth", spec := "fnExactProbeHealth", plainKeys := false, apart := false }
def FnExactProbeHealthSaid : Prop := fnExactProbeHealthRow.holds Try.pinned (OpenSpec.ofChange fnExactProbeHealthSpec)

/-- ITS FALSE NEIGHBOUR: 'it returns false'. Refute it at one input. -/
def fnExactProbeHealthWrong : ChangeSpec := { name := "fnExactProbeHealth", fn := fun _ => fun
  | [d1, d2] => { results := [.lit (.bool false)], args := [d1, d2] }
  | _ => none }
def FnExactProbeHealthWrongFalsely : Prop := fnExactProbeHealthRow.holds Try.pinned (OpenSpec.ofChange fnExactProbeHealthWrong)

/-- 'laws.FnExactProbeMany': WHATEVER THE INPUT: true; the input reads as it did. -/
def fnExactProbeManySpec : ChangeSpec := { name := "fnExactProbeMany", fn := fun _ => fun
  | [d1, d2] => { results := [.lit (.bool true)], args := [d1, d2] }
  | _ => none }
def fnExactProbeManyRow : OpenClaim := { program := "ytklmlomaleaaaaa", sum := "0dd6a42d9cc47a44542a5266f6f23b40bc71a9954ac8758dbd1d8028b870409e", func := "loop.example/g00222/laws.FnExactProbeMany", spec := "fnExactProbeMany", plainKeys := false, apart := false }
def FnExactProbeManySaid : Prop := fnExactProbeManyRow.holds Try.pinned (OpenSpec.ofChange fnExactProbeManySpec)

/-- ITS FALSE NEIGHBOUR: 'it returns false'. Refute it at one input. -/
def fnExactProbeManyWrong : ChangeSpec := { name := "fnExactProbeMany", fn := fun _ => fun
  | [d1, d2] => { results := [.lit (.bool false)], args := [d1, d2] }
  | _ => none }
def FnExactProbeManyWrongFalsely : Prop := fnExactProbeManyRow.holds Try.pinned (OpenSpec.ofChange fnExactProbeManyWrong)

/-- 'laws.FnExactVerdictsFault': WHATEVER THE INPUT: true; the input reads as it did. -/
def fnExactVerdictsFaultSpec : ChangeSpec := { name := "fnExactVerdictsFault", fn := fun _ => fun
  | [d] => { results := [.lit (.bool true)], args := [d] }
  | _ => none }
def fnExactVerdictsFaultRow : OpenClaim := { program := "ytklmlomaleaaaaa", sum := "0dd6a42d9cc47a44542a5266f6f23b40bc71a9954ac8758dbd1d8028b870409e", func := "loop.example/g00222/laws.FnExactVerdictsFault", spec := "fnExactVerdictsFault", plainKeys := false, apart := false }
def FnExactVerdictsFaultSaid : Prop := fnExactVerdictsFaultRow.holds Try.pinned (OpenSpec.ofChange fnExactVerdictsFaultSpec)

/-- ITS FALSE NEIGHBOUR: 'it returns false'. Refute it at one input. -/
def fnExactVerdictsFaultWrong : ChangeSpec := { name := "fnExactVerdictsFault", fn := fun _ => fun
  | [d] => { results := [.lit (.bool false)], args := [d] }
  | _ => none }
def FnExactVerdictsFaultWrongFalsely : Prop := fnExactVerdictsFaultRow.holds Try.pinned (OpenSpec.ofChange fnExactVerdictsFaultWrong)

/-- 'laws.FnExactVerdictFor': WHATEVER THE INPUT: true; the input reads as it did. -/
def fnExactVerdictForSpec : ChangeSpec := { name := "fnExactVerdictFor", fn := fun _ => fun
  | [d1, d2, d3] => { results := [.lit (.bool true)], args := [d1, d2, d3] }
  | _ => none }
def fnExactVerdictForRow : OpenClaim := { program := "ytklmlomaleaaaaa", sum := "0dd6a42d9cc47a44542a5266f6f23b40bc71a9954ac8758dbd1d8028b870409e", func := "loop.example/g00222/laws.FnExactVerdictFor", spec := "fnExactVerdictFor", plainKeys := false, apart := false }
def FnExactVerdictForSaid : Prop := fnExactVerdictForRow.holds Try.pinned (OpenSpec.ofChange fnExactVerdictForSpec)

/-- ITS FALSE NEIGHBOUR: 'it returns false'. Refute it at one input. -/
def fnExactVerdictForWrong : ChangeSpec := { name := "fnExactVerdictFor", fn := fun _ => fun
  | [d1, d2, d3] => { results := [.lit (.bool false)], args := [d1, d2, d3] }
  | _ => none }
def FnExactVerdictForWrongFalsely : Prop := fnExactVerdictForRow.holds Try.pinned (OpenSpec.ofChange fnExactVerdictForWrong)

/-- 'laws.FnExactUpCmds': WHATEVER THE INPUT: true; the input reads as it did. -/
def fnExactUpCmdsSpec : ChangeSpec := { name := "fnExactUpCmds", fn := fun _ => fun
  | [d1, d2, d3] => { results := [.lit (.bool true)], args := [d1, d2, d3] }
  | _ => none }
def fnExactUpCmdsRow : OpenClaim := { program := "ytklmlomaleaaaaa", sum := "0dd6a42d9cc47a44542a5266f6f23b40bc71a9954ac8758dbd1d8028b870409e", func := "loop.example/g00222/laws.FnExactUpCmds", spec := "fnExactUpCmds", unfollowed := true, recurses := true, plainKeys := false, apart := false }
def FnExactUpCmdsSaid : Prop := fnExactUpCmdsRow.holds Try.pinned (OpenSpec.ofChange fnExactUpCmdsSpec)

/-- ITS FALSE NEIGHBOUR: 'it returns false'. Refute it at one input. -/
def fnExactUpCmdsWrong : ChangeSpec := { name := "fnExactUpCmds", fn := fun _ => fun
  | [d1, d2, d3] => { results := [.lit (.bool false)], args := [d1, d2, d3] }
  | _ => none }
def FnExactUpCmdsWrongFalsely : Prop := fnExactUpCmdsRow.holds Try.pinned (OpenSpec.ofChange fnExactUpCmdsWrong)

/-- 'laws.FnHealths': WHATEVER THE INPUT: true; the input reads as it did. -/
def fnHealthsSpec : ChangeSpec := { name := "fnHealths", fn := fun _ => fun
  | [d] => { results := [.lit (.bool true)], args := [d] }
  | _ => none }
def fnHealthsRow : OpenClaim := { program := "ytklmlomaleaaaaa", sum := "0dd6a42d9cc47a44542a5266f6f23b40bc71a9954ac8758dbd1d8028b870409e", func := "loop.example/g00222/laws.FnHealths", spec := "fnHealths", plainKeys := false, apart := false }
def FnHealthsSaid : Prop := fnHealthsRow.holds Try.pinned (OpenSpec.ofChange fnHealthsSpec)

/-- ITS FALSE NEIGHBOUR: 'it returns false'. Refute it at one input. -/
def fnHealthsWrong : ChangeSpec := { name := "fnHealths", fn := fun _ => fun
  | [d] => { results := [.lit (.bool false)], args := [d] }
  | _ => none }
def FnHealthsWrongFalsely : Prop := fnHealthsRow.holds Try.pinned (OpenSpec.ofChange fnHealthsWrong)

/- THE SECOND FORM. 'bulk': how many values and letters a reading holds, each counted each time it is reached (what is shared counts as often as it is met; a slice's spare places count too). A statement '..UptoSaid' is the law's where the arguments, and the package variables that the reading takes, are together of bulk at most 1048576: NARROWER than '..Said'. Prove '..Said' where nothing that the law and all that it calls make is longer than what came in: it says more and counts as full. Else prove '..UptoSaid'. A law counts once. -/
mutual
def uptoBulk {H : Type} : DataW H → Nat
  | .lit (.string bytes) => bytes.length + 1
  | .lit _ => 1
  | .nil => 1
  | .ptr d => uptoBulk d + 1
  | .slice elems spare => uptoBulkAll elems + uptoBulkAll spare + 1
  | .agg parts => uptoBulkAll parts + 1
  | .iface _ d => uptoBulk d + 1
  | .map entries => uptoBulkEntries entries + 1
  | .held _ => 1
def uptoBulkAll {H : Type} : List (DataW H) → Nat
  | [] => 0
  | d :: r => uptoBulk d + uptoBulkAll r
def uptoBulkEntries {H : Type} : List (Lit × DataW H) → Nat
  | [] => 0
  | x :: r => uptoBulkEntry x + uptoBulkEntries r
def uptoBulkEntry {H : Type} : Lit × DataW H → Nat
  | (.string bytes, d) => bytes.length + uptoBulk d + 1
  | (_, d) => uptoBulk d + 1
 end
def uptoSmall : (H : Type) → List (DataW H) → Bool := fun _ ds => decide (uptoBulkAll ds ≤ 1048576)
def OpenSpec.upto (s : _root_.Go.ChangeSpec) : _root_.Go.OpenSpec := { _root_.Go.OpenSpec.ofChange s with cond := some uptoSmall }

/-- 'laws.FnExactHealthFault', WHERE WHAT IT READS IS OF BULK AT MOST 1048576: true; the input reads as it did. -/
def fnExactHealthFaultUptoRow : OpenClaim := { program := "ytklmlomaleaaaaa", sum := "0dd6a42d9cc47a44542a5266f6f23b40bc71a9954ac8758dbd1d8028b870409e", func := "loop.example/g00222/laws.FnExactHealthFault", spec := "fnExactHealthFault", plainKeys := false, apart := false, narrowed := true }
def FnExactHealthFaultUptoSaid : Prop := fnExactHealthFaultUptoRow.holds Try.pinned (OpenSpec.upto fnExactHealthFaultSpec)

/-- 'laws.FnExactProbeHealth', WHERE WHAT IT READS IS OF BULK AT MOST 1048576: true; the input reads as it did. -/
def fnExactProbeHealthUptoRow : OpenClaim := { program := "ytklmlomaleaaaaa", sum := "0dd6a42d9cc47a44542a5266f6f23b40bc71a9954ac8758dbd1d8028b870409e", func := "loop.example/g00222/laws.FnExactProbeHealth", spec := "fnExactProbeHealth", plainKeys := false, apart := false, narrowed := true }
def FnExactProbeHealthUptoSaid : Prop := fnExactProbeHealthUptoRow.holds Try.pinned (OpenSpec.upto fnExactProbeHealthSpec)

/-- 'laws.FnExactProbeMany', WHERE WHAT IT READS IS OF BULK AT MOST 1048576: true; the input reads as it did. -/
def fnExactProbeManyUptoRow : OpenClaim := { program := "ytklmlomaleaaaaa", sum := "0dd6a42d9cc47a44542a5266f6f23b40bc71a9954ac8758dbd1d8028b870409e", func := "loop.example/g00222/laws.FnExactProbeMany", spec := "fnExactProbeMany", plainKeys := false, apart := false, narrowed := true }
def FnExactProbeManyUptoSaid : Prop := fnExactProbeManyUptoRow.holds Try.pinned (OpenSpec.upto fnExactProbeManySpec)

/-- 'laws.FnExactVerdictsFault', WHERE WHAT IT READS IS OF BULK AT MOST 1048576: true; the input reads as it did. -/
def fnExactVerdictsFaultUptoRow : OpenClaim := { program := "ytklmlomaleaaaaa", sum := "0dd6a42d9cc47a44542a5266f6f23b40bc71a9954ac8758dbd1d8028b870409e", func := "loop.example/g00222/laws.FnExactVerdictsFault", spec := "fnExactVerdictsFault", plainKeys := false, apart := false, narrowed := true }
def FnExactVerdictsFaultUptoSaid : Prop := fnExactVerdictsFaultUptoRow.holds Try.pinned (OpenSpec.upto fnExactVerdictsFaultSpec)

/-- 'laws.FnExactVerdictFor', WHERE WHAT IT READS IS OF BULK AT MOST 1048576: true; the input reads as it did. -/
def fnExactVerdictForUptoRow : OpenClaim := { program := "ytklmlomaleaaaaa", sum := "0dd6a42d9cc47a44542a5266f6f23b40bc71a9954ac8758dbd1d8028b870409e", func := "loop.example/g00222/laws.FnExactVerdictFor", spec := "fnExactVerdictFor", plainKeys := false, apart := false, narrowed := true }
def FnExactVerdictForUptoSaid : Prop := fnExactVerdictForUptoRow.holds Try.pinned (OpenSpec.upto fnExactVerdictForSpec)

/-- 'laws.FnExactUpCmds', WHERE WHAT IT READS IS OF BULK AT MOST 1048576: true; the input reads as it did. -/
def fnExactUpCmdsUptoRow : OpenClaim := { program := "ytklmlomaleaaaaa", sum := "0dd6a42d9cc47a44542a5266f6f23b40bc71a9954ac8758dbd1d8028b870409e", func := "loop.example/g00222/laws.FnExactUpCmds", spec := "fnExactUpCmds", unfollowed := true, recurses := true, plainKeys := false, apart := false, narrowed := true }
def FnExactUpCmdsUptoSaid : Prop := fnExactUpCmdsUptoRow.holds Try.pinned (OpenSpec.upto fnExactUpCmdsSpec)

/-- 'laws.FnHealths', WHERE WHAT IT READS IS OF BULK AT MOST 1048576: true; the input reads as it did. -/
def fnHealthsUptoRow : OpenClaim := { program := "ytklmlomaleaaaaa", sum := "0dd6a42d9cc47a44542a5266f6f23b40bc71a9954ac8758dbd1d8028b870409e", func := "loop.example/g00222/laws.FnHealths", spec := "fnHealths", plainKeys := false, apart := false, narrowed := true }
def FnHealthsUptoSaid : Prop := fnHealthsUptoRow.holds Try.pinned (OpenSpec.upto fnHealthsSpec)

end Rows
end Go.Proofs.Ytklmlomaleaaaaa
