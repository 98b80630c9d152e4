/-
  No cell of these rows narrows 'for every input' (looked for: loops, veiled, ifaces, maps, wideKeys, modest, calm, conditions, laid).
  DERIVED. THE GIVEN ROWS OF THIS SEAT. 6 by the template 'for every input the law returns true; each argument reads behind the call as it read before'; 0 by the template 'total and deterministic' (their statements: YthfopihmealhkaaTotals.lean).
  GIVEN WITH THE SEED: the statements are not yours to turn. If you find one false, say at which input.
  Laid BY PROGRAM, IN A SANDBOX (cutbox-rows.mjs): the forced cells as the released guide's own fill.sh prints them over the translation dc15156358c837bd… (all of the seat's roots in one cut). By AI agents, Wed Nov 11 2026. No macro, syntax, notation, axiom, sorry.
-/
import Derived.Test.YthfopihmealhkaaChecked
import GoSem.Claim
import GoSem.ClaimJoined
import GoSem.ClaimMapViews
import Derived.JoinedTies
import Derived.KernelRfl
namespace Go.Proofs.Ythfopihmealhkaa
/- THE CELL 'sum', in the pinned program and in every row, IS THE sha256 OF THE DUMP (.gsa) THAT YthfopihmealhkaaProg.lean LOADS. Nothing in Lean hashes anything: it is a label: what it is worth is what the hold of that sum in a sandbox is worth. -/
noncomputable def Try.pinned : Pinned := { name := "ythfopihmealhkaa", sum := "dc15156358c837bd90961086038430abb97e8754f6649601059ce8f2549b9684", checked := Try.checked }
namespace Rows
def none {H : Type} : Left H := { results := [], args := [] }

/-- 'laws.FnDeltas': WHATEVER THE INPUT: true; the input reads as it did. -/
def fnDeltasSpec : ChangeSpec := { name := "fnDeltas", fn := fun _ => fun
  | [d] => { results := [.lit (.bool true)], args := [d] }
  | _ => none }
def fnDeltasRow : OpenClaim := { program := "ythfopihmealhkaa", sum := "dc15156358c837bd90961086038430abb97e8754f6649601059ce8f2549b9684", func := "loop.example/g00222/laws.FnDeltas", spec := "fnDeltas", unfollowed := true, recurses := true, apart := false }
def FnDeltasSaid : Prop := fnDeltasRow.holds Try.pinned (OpenSpec.ofChange fnDeltasSpec)

/-- ITS FALSE NEIGHBOUR: 'it returns false'. Refute it at one input. -/
def fnDeltasWrong : ChangeSpec := { name := "fnDeltas", fn := fun _ => fun
  | [d] => { results := [.lit (.bool false)], args := [d] }
  | _ => none }
def FnDeltasWrongFalsely : Prop := fnDeltasRow.holds Try.pinned (OpenSpec.ofChange fnDeltasWrong)

/-- 'laws.FnExactPackCmd': WHATEVER THE INPUT: true; the input reads as it did. -/
def fnExactPackCmdSpec : ChangeSpec := { name := "fnExactPackCmd", fn := fun _ => fun
  | [d] => { results := [.lit (.bool true)], args := [d] }
  | _ => none }
def fnExactPackCmdRow : OpenClaim := { program := "ythfopihmealhkaa", sum := "dc15156358c837bd90961086038430abb97e8754f6649601059ce8f2549b9684", func := "loop.example/g00222/laws.FnExactPackCmd", spec := "fnExactPackCmd", inPlace := ["slices.overlaps[loop.example/g00222/impl.Backend]", "slices.overlaps[loop.example/g00222/impl.Vip]", "slices.overlaps[int64]"], unfollowed := true, recurses := true, apart := false }
def FnExactPackCmdSaid : Prop := fnExactPackCmdRow.holds Try.pinned (OpenSpec.ofChange fnExactPackCmdSpec)

/-- ITS FALSE NEIGHBOUR: 'it returns false'. Refute it at one input. -/
def fnExactPackCmdWrong : ChangeSpec := { name := "fnExactPackCmd", fn := fun _ => fun
  | [d] => { results := [.lit (.bool false)], args := [d] }
  | _ => none }
def FnExactPackCmdWrongFalsely : Prop := fnExactPackCmdRow.holds Try.pinned (OpenSpec.ofChange fnExactPackCmdWrong)

/-- 'laws.FnExactUnpackCmd': WHATEVER THE INPUT: true; the input reads as it did. -/
def fnExactUnpackCmdSpec : ChangeSpec := { name := "fnExactUnpackCmd", fn := fun _ => fun
  | [d] => { results := [.lit (.bool true)], args := [d] }
  | _ => none }
def fnExactUnpackCmdRow : OpenClaim := { program := "ythfopihmealhkaa", sum := "dc15156358c837bd90961086038430abb97e8754f6649601059ce8f2549b9684", func := "loop.example/g00222/laws.FnExactUnpackCmd", spec := "fnExactUnpackCmd", inPlace := ["slices.overlaps[loop.example/g00222/impl.Backend]", "slices.overlaps[loop.example/g00222/impl.Vip]", "slices.overlaps[int64]"], unfollowed := true, recurses := true, apart := false }
def FnExactUnpackCmdSaid : Prop := fnExactUnpackCmdRow.holds Try.pinned (OpenSpec.ofChange fnExactUnpackCmdSpec)

/-- ITS FALSE NEIGHBOUR: 'it returns false'. Refute it at one input. -/
def fnExactUnpackCmdWrong : ChangeSpec := { name := "fnExactUnpackCmd", fn := fun _ => fun
  | [d] => { results := [.lit (.bool false)], args := [d] }
  | _ => none }
def FnExactUnpackCmdWrongFalsely : Prop := fnExactUnpackCmdRow.holds Try.pinned (OpenSpec.ofChange fnExactUnpackCmdWrong)

/-- 'laws.FnExactPackConfig': WHATEVER THE INPUT: true; the input reads as it did. -/
def fnExactPackConfigSpec : ChangeSpec := { name := "fnExactPackConfig", fn := fun _ => fun
  | [d] => { results := [.lit (.bool true)], args := [d] }
  | _ => none }
def fnExactPackConfigRow : OpenClaim := { program := "ythfopihmealhkaa", sum := "dc15156358c837bd90961086038430abb97e8754f6649601059ce8f2549b9684", func := "loop.example/g00222/laws.FnExactPackConfig", spec := "fnExactPackConfig", unfollowed := true, recurses := true, apart := false }
def FnExactPackConfigSaid : Prop := fnExactPackConfigRow.holds Try.pinned (OpenSpec.ofChange fnExactPackConfigSpec)

/-- ITS FALSE NEIGHBOUR: 'it returns false'. Refute it at one input. -/
def fnExactPackConfigWrong : ChangeSpec := { name := "fnExactPackConfig", fn := fun _ => fun
  | [d] => { results := [.lit (.bool false)], args := [d] }
  | _ => none }
def FnExactPackConfigWrongFalsely : Prop := fnExactPackConfigRow.holds Try.pinned (OpenSpec.ofChange fnExactPackConfigWrong)

/-- 'laws.FnExactUnpackConfig': WHATEVER THE INPUT: true; the input reads as it did. -/
def fnExactUnpackConfigSpec : ChangeSpec := { name := "fnExactUnpackConfig", fn := fun _ => fun
  | [d] => { results := [.lit (.bool true)], args := [d] }
  | _ => none }
def fnExactUnpackConfigRow : OpenClaim := { program := "ythfopihmealhkaa", sum := "dc15156358c837bd90961086038430abb97e8754f6649601059ce8f2549b9684", func := "loop.example/g00222/laws.FnExactUnpackConfig", spec := "fnExactUnpackConfig", unfollowed := true, recurses := true, apart := false }
def FnExactUnpackConfigSaid : Prop := fnExactUnpackConfigRow.holds Try.pinned (OpenSpec.ofChange fnExactUnpackConfigSpec)

/-- ITS FALSE NEIGHBOUR: 'it returns false'. Refute it at one input. -/
def fnExactUnpackConfigWrong : ChangeSpec := { name := "fnExactUnpackConfig", fn := fun _ => fun
  | [d] => { results := [.lit (.bool false)], args := [d] }
  | _ => none }
def FnExactUnpackConfigWrongFalsely : Prop := fnExactUnpackConfigRow.holds Try.pinned (OpenSpec.ofChange fnExactUnpackConfigWrong)

/-- 'laws.FnExactDeltaOf': WHATEVER THE INPUT: true; the input reads as it did. -/
def fnExactDeltaOfSpec : ChangeSpec := { name := "fnExactDeltaOf", fn := fun _ => fun
  | [d1, d2] => { results := [.lit (.bool true)], args := [d1, d2] }
  | _ => none }
def fnExactDeltaOfRow : OpenClaim := { program := "ythfopihmealhkaa", sum := "dc15156358c837bd90961086038430abb97e8754f6649601059ce8f2549b9684", func := "loop.example/g00222/laws.FnExactDeltaOf", spec := "fnExactDeltaOf", unfollowed := true, recurses := true, apart := false }
def FnExactDeltaOfSaid : Prop := fnExactDeltaOfRow.holds Try.pinned (OpenSpec.ofChange fnExactDeltaOfSpec)

/-- ITS FALSE NEIGHBOUR: 'it returns false'. Refute it at one input. -/
def fnExactDeltaOfWrong : ChangeSpec := { name := "fnExactDeltaOf", fn := fun _ => fun
  | [d1, d2] => { results := [.lit (.bool false)], args := [d1, d2] }
  | _ => none }
def FnExactDeltaOfWrongFalsely : Prop := fnExactDeltaOfRow.holds Try.pinned (OpenSpec.ofChange fnExactDeltaOfWrong)

/- THE SECOND FORM. 'bulk': how many values and letters a reading holds, each counted each time it is reached (what is shared counts as often as it is met; a slice's spare places count too). A statement '..UptoSaid' is the law's where the arguments, and the package variables that the reading takes, are together of bulk at most 1048576: NARROWER than '..Said'. Prove '..Said' where nothing that the law and all that it calls make is longer than what came in: it says more and counts as full. Else prove '..UptoSaid'. A law counts once. -/
mutual
def uptoBulk {H : Type} : DataW H → Nat
  | .lit (.string bytes) => bytes.length + 1
  | .lit _ => 1
  | .nil => 1
  | .ptr d => uptoBulk d + 1
  | .slice elems spare => uptoBulkAll elems + uptoBulkAll spare + 1
  | .agg parts => uptoBulkAll parts + 1
  | .iface _ d => uptoBulk d + 1
  | .map entries => uptoBulkEntries entries + 1
  | .held _ => 1
def uptoBulkAll {H : Type} : List (DataW H) → Nat
  | [] => 0
  | d :: r => uptoBulk d + uptoBulkAll r
def uptoBulkEntries {H : Type} : List (Lit × DataW H) → Nat
  | [] => 0
  | x :: r => uptoBulkEntry x + uptoBulkEntries r
def uptoBulkEntry {H : Type} : Lit × DataW H → Nat
  | (.string bytes, d) => bytes.length + uptoBulk d + 1
  | (_, d) => uptoBulk d + 1
 end
def uptoSmall : (H : Type) → List (DataW H) → Bool := fun _ ds => decide (uptoBulkAll ds ≤ 1048576)
def OpenSpec.upto (s : _root_.Go.ChangeSpec) : _root_.Go.OpenSpec := { _root_.Go.OpenSpec.ofChange s with cond := some uptoSmall }

/-- 'laws.FnDeltas', WHERE WHAT IT READS IS OF BULK AT MOST 1048576: true; the input reads as it did. -/
def fnDeltasUptoRow : OpenClaim := { program := "ythfopihmealhkaa", sum := "dc15156358c837bd90961086038430abb97e8754f6649601059ce8f2549b9684", func := "loop.example/g00222/laws.FnDeltas", spec := "fnDeltas", unfollowed := true, recurses := true, apart := false, narrowed := true }
def FnDeltasUptoSaid : Prop := fnDeltasUptoRow.holds Try.pinned (OpenSpec.upto fnDeltasSpec)

/-- 'laws.FnExactPackCmd', WHERE WHAT IT READS IS OF BULK AT MOST 1048576: true; the input reads as it did. -/
def fnExactPackCmdUptoRow : OpenClaim := { program := "ythfopihmealhkaa", sum := "dc15156358c837bd90961086038430abb97e8754f6649601059ce8f2549b9684", func := "loop.example/g00222/laws.FnExactPackCmd", spec := "fnExactPackCmd", inPlace := ["slices.overlaps[loop.example/g00222/impl.Backend]", "slices.overlaps[loop.example/g00222/impl.Vip]", "slices.overlaps[int64]"], unfollowed := true, recurses := true, apart := false, narrowed := true }
def FnExactPackCmdUptoSaid : Prop := fnExactPackCmdUptoRow.holds Try.pinned (OpenSpec.upto fnExactPackCmdSpec)

/-- 'laws.FnExactUnpackCmd', WHERE WHAT IT READS IS OF BULK AT MOST 1048576: true; the input reads as it did. -/
def fnExactUnpackCmdUptoRow : OpenClaim := { program := "ythfopihmealhkaa", sum := "dc15156358c837bd90961086038430abb97e8754f6649601059ce8f2549b9684", func := "loop.example/g00222/laws.FnExactUnpackCmd", spec := "fnExactUnpackCmd", inPlace := ["slices.overlaps[loop.example/g00222/impl.Backend]", "slices.overlaps[loop.example/g00222/impl.Vip]", "slices.overlaps[int64]"], unfollowed := true, recurses := true, apart := false, narrowed := true }
def FnExactUnpackCmdUptoSaid : Prop := fnExactUnpackCmdUptoRow.holds Try.pinned (OpenSpec.upto fnExactUnpackCmdSpec)

/-- 'laws.FnExactPackConfig', WHERE WHAT IT READS IS OF BULK AT MOST 1048576: true; the input reads as it did. -/
def fnExactPackConfigUptoRow : OpenClaim := { program := "ythfopihmealhkaa", sum := "dc15156358c837bd90961086038430abb97e8754f6649601059ce8f2549b9684", func := "loop.example/g00222/laws.FnExactPackConfig", spec := "fnExactPackConfig", unfollowed := true, recurses := true, apart := false, narrowed := true }
def FnExactPackConfigUptoSaid : Prop := fnExactPackConfigUptoRow.holds Try.pinned (OpenSpec.upto fnExactPackConfigSpec)

/-- 'laws.FnExactUnpackConfig', WHERE WHAT IT READS IS OF BULK AT MOST 1048576: true; the input reads as it did. -/
def fnExactUnpackConfigUptoRow : OpenClaim := { program := "ythfopihmealhkaa", sum := "dc15156358c837bd90961086038430abb97e8754f6649601059ce8f2549b9684", func := "loop.example/g00222/laws.FnExactUnpackConfig", spec := "fnExactUnpackConfig", unfollowed := true, recurses := true, apart := false, narrowed := true }
def FnExactUnpackConfigUptoSaid : Prop := fnExactUnpackConfigUptoRow.holds Try.pinned (OpenSpec.upto fnExactUnpackConfigSpec)

/-- 'laws.FnExactDeltaOf', WHERE WHAT IT READS IS OF BULK AT MOST 1048576: true; the input reads as it did. -/
def fnExactDeltaOfUptoRow : OpenClaim := { program := "ythfopihmealhkaa", sum := "dc15156358c837bd90961086038430abb97e8754f6649601059ce8f2549b9684", func := "loop.example/g00222/laws.FnExactDeltaOf", spec := "fnExactDeltaOf", unfollowed := true, recurses := true, apart := false, narrowed := true }
def FnExactDeltaOfUptoSaid : Prop := fnExactDeltaOfUptoRow.holds Try.pinned (OpenSpec.upto fnExactDeltaOfSpec)

end Rows
end Go.Proofs.Ythfopihmealhkaa
