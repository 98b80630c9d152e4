/-
  No cell of these rows narrows 'for every input' (looked for: loops, veiled, ifaces, maps, wideKeys, modest, calm, conditions, laid).
  DERIVED. THE GIVEN ROWS OF THIS SEAT. 7 by the template 'for every input the law returns true; each argument reads behind the call as it read before'; 0 by the template 'total and deterministic' (their statements: YtnmbggfkmkcmkaaGreatTotals.lean).
  GIVEN WITH THE SEED: the statements are not yours to turn. If you find one false, say at which input.
  Laid BY PROGRAM, IN A SANDBOX (cutbox-rows.mjs): the forced cells as the released guide's own fill.sh prints them over the translation 10ec28bd1eea8f8f… (all of the seat's roots in one cut). By AI agents, Wed Nov 11 2026. No macro, syntax, notation, axiom, sorry.
-/
import Derived.Test.YtnmbggfkmkcmkaaGreatChecked
import GoSem.Claim
import GoSem.ClaimJoined
import GoSem.ClaimMapViews
import Derived.JoinedTies
import Derived.KernelRfl
namespace Go.Proofs.YtnmbggfkmkcmkaaGreat
/- THE CELL 'sum', in the pinned program and in every row, IS THE sha256 OF THE DUMP (.gsa) THAT YtnmbggfkmkcmkaaGreatProg.lean LOADS. Nothing in Lean hashes anything: it is a label: what it is worth is what the hold of that sum in a sandbox is worth. -/
noncomputable def Tryz.pinned : Pinned := { name := "ytnmbggfkmkcmkaagreat", sum := "10ec28bd1eea8f8f721a32140efb7ffb2afbfda99553d26ec29f19b4f0e3b758", checked := Tryz.checked }
namespace Rows
def none {H : Type} : Left H := { results := [], args := [] }

/-- 'laws.FnExactOneLeader': WHATEVER THE INPUT: true; the input reads as it did. -/
def fnExactOneLeaderSpec : ChangeSpec := { name := "fnExactOneLeader", fn := fun _ => fun
  | [d] => { results := [.lit (.bool true)], args := [d] }
  | _ => none }
def fnExactOneLeaderRow : OpenClaim := { program := "ytnmbggfkmkcmkaagreat", sum := "10ec28bd1eea8f8f721a32140efb7ffb2afbfda99553d26ec29f19b4f0e3b758", func := "loop.example/g00222/laws.FnExactOneLeader", spec := "fnExactOneLeader", inPlace := ["slices.overlaps[loop.example/g00222/impl.Backend]", "slices.overlaps[loop.example/g00222/impl.Vip]", "slices.overlaps[int64]"], unfollowed := true, recurses := true, apart := false }
def FnExactOneLeaderSaid : Prop := fnExactOneLeaderRow.holds Tryz.pinned (OpenSpec.ofChange fnExactOneLeaderSpec)

/-- ITS FALSE NEIGHBOUR: 'it returns false'. Refute it at one input. -/
def fnExactOneLeaderWrong : ChangeSpec := { name := "fnExactOneLeader", fn := fun _ => fun
  | [d] => { results := [.lit (.bool false)], args := [d] }
  | _ => none }
def FnExactOneLeaderWrongFalsely : Prop := fnExactOneLeaderRow.holds Tryz.pinned (OpenSpec.ofChange fnExactOneLeaderWrong)

/-- 'laws.FnExactLogsMatch': WHATEVER THE INPUT: true; the input reads as it did. -/
def fnExactLogsMatchSpec : ChangeSpec := { name := "fnExactLogsMatch", fn := fun _ => fun
  | [d] => { results := [.lit (.bool true)], args := [d] }
  | _ => none }
def fnExactLogsMatchRow : OpenClaim := { program := "ytnmbggfkmkcmkaagreat", sum := "10ec28bd1eea8f8f721a32140efb7ffb2afbfda99553d26ec29f19b4f0e3b758", func := "loop.example/g00222/laws.FnExactLogsMatch", spec := "fnExactLogsMatch", inPlace := ["slices.overlaps[loop.example/g00222/impl.Backend]", "slices.overlaps[loop.example/g00222/impl.Vip]", "slices.overlaps[int64]"], unfollowed := true, recurses := true, apart := false }
def FnExactLogsMatchSaid : Prop := fnExactLogsMatchRow.holds Tryz.pinned (OpenSpec.ofChange fnExactLogsMatchSpec)

/-- ITS FALSE NEIGHBOUR: 'it returns false'. Refute it at one input. -/
def fnExactLogsMatchWrong : ChangeSpec := { name := "fnExactLogsMatch", fn := fun _ => fun
  | [d] => { results := [.lit (.bool false)], args := [d] }
  | _ => none }
def FnExactLogsMatchWrongFalsely : Prop := fnExactLogsMatchRow.holds Tryz.pinned (OpenSpec.ofChange fnExactLogsMatchWrong)

/-- 'laws.FnExactSealsKept': WHATEVER THE INPUT: true; the input reads as it did. -/
def fnExactSealsKeptSpec : ChangeSpec := { name := "fnExactSealsKept", fn := fun _ => fun
  | [d] => { results := [.lit (.bool true)], args := [d] }
  | _ => none }
def fnExactSealsKeptRow : OpenClaim := { program := "ytnmbggfkmkcmkaagreat", sum := "10ec28bd1eea8f8f721a32140efb7ffb2afbfda99553d26ec29f19b4f0e3b758", func := "loop.example/g00222/laws.FnExactSealsKept", spec := "fnExactSealsKept", inPlace := ["slices.overlaps[loop.example/g00222/impl.Backend]", "slices.overlaps[loop.example/g00222/impl.Vip]", "slices.overlaps[int64]"], unfollowed := true, recurses := true, apart := false }
def FnExactSealsKeptSaid : Prop := fnExactSealsKeptRow.holds Tryz.pinned (OpenSpec.ofChange fnExactSealsKeptSpec)

/-- ITS FALSE NEIGHBOUR: 'it returns false'. Refute it at one input. -/
def fnExactSealsKeptWrong : ChangeSpec := { name := "fnExactSealsKept", fn := fun _ => fun
  | [d] => { results := [.lit (.bool false)], args := [d] }
  | _ => none }
def FnExactSealsKeptWrongFalsely : Prop := fnExactSealsKeptRow.holds Tryz.pinned (OpenSpec.ofChange fnExactSealsKeptWrong)

/-- 'laws.FnExactLeadersHave': WHATEVER THE INPUT: true; the input reads as it did. -/
def fnExactLeadersHaveSpec : ChangeSpec := { name := "fnExactLeadersHave", fn := fun _ => fun
  | [d] => { results := [.lit (.bool true)], args := [d] }
  | _ => none }
def fnExactLeadersHaveRow : OpenClaim := { program := "ytnmbggfkmkcmkaagreat", sum := "10ec28bd1eea8f8f721a32140efb7ffb2afbfda99553d26ec29f19b4f0e3b758", func := "loop.example/g00222/laws.FnExactLeadersHave", spec := "fnExactLeadersHave", inPlace := ["slices.overlaps[loop.example/g00222/impl.Backend]", "slices.overlaps[loop.example/g00222/impl.Vip]", "slices.overlaps[int64]"], unfollowed := true, recurses := true, apart := false }
def FnExactLeadersHaveSaid : Prop := fnExactLeadersHaveRow.holds Tryz.pinned (OpenSpec.ofChange fnExactLeadersHaveSpec)

/-- ITS FALSE NEIGHBOUR: 'it returns false'. Refute it at one input. -/
def fnExactLeadersHaveWrong : ChangeSpec := { name := "fnExactLeadersHave", fn := fun _ => fun
  | [d] => { results := [.lit (.bool false)], args := [d] }
  | _ => none }
def FnExactLeadersHaveWrongFalsely : Prop := fnExactLeadersHaveRow.holds Tryz.pinned (OpenSpec.ofChange fnExactLeadersHaveWrong)

/-- 'laws.FnExactSafeCluster': WHATEVER THE INPUT: true; the input reads as it did. -/
def fnExactSafeClusterSpec : ChangeSpec := { name := "fnExactSafeCluster", fn := fun _ => fun
  | [d] => { results := [.lit (.bool true)], args := [d] }
  | _ => none }
def fnExactSafeClusterRow : OpenClaim := { program := "ytnmbggfkmkcmkaagreat", sum := "10ec28bd1eea8f8f721a32140efb7ffb2afbfda99553d26ec29f19b4f0e3b758", func := "loop.example/g00222/laws.FnExactSafeCluster", spec := "fnExactSafeCluster", inPlace := ["slices.overlaps[loop.example/g00222/impl.Backend]", "slices.overlaps[loop.example/g00222/impl.Vip]", "slices.overlaps[int64]"], unfollowed := true, recurses := true, apart := false }
def FnExactSafeClusterSaid : Prop := fnExactSafeClusterRow.holds Tryz.pinned (OpenSpec.ofChange fnExactSafeClusterSpec)

/-- ITS FALSE NEIGHBOUR: 'it returns false'. Refute it at one input. -/
def fnExactSafeClusterWrong : ChangeSpec := { name := "fnExactSafeCluster", fn := fun _ => fun
  | [d] => { results := [.lit (.bool false)], args := [d] }
  | _ => none }
def FnExactSafeClusterWrongFalsely : Prop := fnExactSafeClusterRow.holds Tryz.pinned (OpenSpec.ofChange fnExactSafeClusterWrong)

/-- 'laws.FnExactAgreedOf': WHATEVER THE INPUT: true; the input reads as it did. -/
def fnExactAgreedOfSpec : ChangeSpec := { name := "fnExactAgreedOf", fn := fun _ => fun
  | [d] => { results := [.lit (.bool true)], args := [d] }
  | _ => none }
def fnExactAgreedOfRow : OpenClaim := { program := "ytnmbggfkmkcmkaagreat", sum := "10ec28bd1eea8f8f721a32140efb7ffb2afbfda99553d26ec29f19b4f0e3b758", func := "loop.example/g00222/laws.FnExactAgreedOf", spec := "fnExactAgreedOf", inPlace := ["slices.overlaps[loop.example/g00222/impl.Backend]", "slices.overlaps[loop.example/g00222/impl.Vip]", "slices.overlaps[int64]"], unfollowed := true, recurses := true, apart := false }
def FnExactAgreedOfSaid : Prop := fnExactAgreedOfRow.holds Tryz.pinned (OpenSpec.ofChange fnExactAgreedOfSpec)

/-- ITS FALSE NEIGHBOUR: 'it returns false'. Refute it at one input. -/
def fnExactAgreedOfWrong : ChangeSpec := { name := "fnExactAgreedOf", fn := fun _ => fun
  | [d] => { results := [.lit (.bool false)], args := [d] }
  | _ => none }
def FnExactAgreedOfWrongFalsely : Prop := fnExactAgreedOfRow.holds Tryz.pinned (OpenSpec.ofChange fnExactAgreedOfWrong)

/-- 'laws.FnExactLeaderOf': WHATEVER THE INPUT: true; the input reads as it did. -/
def fnExactLeaderOfSpec : ChangeSpec := { name := "fnExactLeaderOf", fn := fun _ => fun
  | [d] => { results := [.lit (.bool true)], args := [d] }
  | _ => none }
def fnExactLeaderOfRow : OpenClaim := { program := "ytnmbggfkmkcmkaagreat", sum := "10ec28bd1eea8f8f721a32140efb7ffb2afbfda99553d26ec29f19b4f0e3b758", func := "loop.example/g00222/laws.FnExactLeaderOf", spec := "fnExactLeaderOf", inPlace := ["slices.overlaps[loop.example/g00222/impl.Backend]", "slices.overlaps[loop.example/g00222/impl.Vip]", "slices.overlaps[int64]"], unfollowed := true, recurses := true, apart := false }
def FnExactLeaderOfSaid : Prop := fnExactLeaderOfRow.holds Tryz.pinned (OpenSpec.ofChange fnExactLeaderOfSpec)

/-- ITS FALSE NEIGHBOUR: 'it returns false'. Refute it at one input. -/
def fnExactLeaderOfWrong : ChangeSpec := { name := "fnExactLeaderOf", fn := fun _ => fun
  | [d] => { results := [.lit (.bool false)], args := [d] }
  | _ => none }
def FnExactLeaderOfWrongFalsely : Prop := fnExactLeaderOfRow.holds Tryz.pinned (OpenSpec.ofChange fnExactLeaderOfWrong)

/- THE SECOND FORM. 'bulk': how many values and letters a reading holds, each counted each time it is reached (what is shared counts as often as it is met; a slice's spare places count too). A statement '..UptoSaid' is the law's where the arguments, and the package variables that the reading takes, are together of bulk at most 1048576: NARROWER than '..Said'. Prove '..Said' where nothing that the law and all that it calls make is longer than what came in: it says more and counts as full. Else prove '..UptoSaid'. A law counts once. -/
mutual
def uptoBulk {H : Type} : DataW H → Nat
  | .lit (.string bytes) => bytes.length + 1
  | .lit _ => 1
  | .nil => 1
  | .ptr d => uptoBulk d + 1
  | .slice elems spare => uptoBulkAll elems + uptoBulkAll spare + 1
  | .agg parts => uptoBulkAll parts + 1
  | .iface _ d => uptoBulk d + 1
  | .map entries => uptoBulkEntries entries + 1
  | .held _ => 1
def uptoBulkAll {H : Type} : List (DataW H) → Nat
  | [] => 0
  | d :: r => uptoBulk d + uptoBulkAll r
def uptoBulkEntries {H : Type} : List (Lit × DataW H) → Nat
  | [] => 0
  | x :: r => uptoBulkEntry x + uptoBulkEntries r
def uptoBulkEntry {H : Type} : Lit × DataW H → Nat
  | (.string bytes, d) => bytes.length + uptoBulk d + 1
  | (_, d) => uptoBulk d + 1
 end
def uptoSmall : (H : Type) → List (DataW H) → Bool := fun _ ds => decide (uptoBulkAll ds ≤ 1048576)
def OpenSpec.upto (s : _root_.Go.ChangeSpec) : _root_.Go.OpenSpec := { _root_.Go.OpenSpec.ofChange s with cond := some uptoSmall }

/-- 'laws.FnExactOneLeader', WHERE WHAT IT READS IS OF BULK AT MOST 1048576: true; the input reads as it did. -/
def fnExactOneLeaderUptoRow : OpenClaim := { program := "ytnmbggfkmkcmkaagreat", sum := "10ec28bd1eea8f8f721a32140efb7ffb2afbfda99553d26ec29f19b4f0e3b758", func := "loop.example/g00222/laws.FnExactOneLeader", spec := "fnExactOneLeader", inPlace := ["slices.overlaps[loop.example/g00222/impl.Backend]", "slices.overlaps[loop.example/g00222/impl.Vip]", "slices.overlaps[int64]"], unfollowed := true, recurses := true, apart := false, narrowed := true }
def FnExactOneLeaderUptoSaid : Prop := fnExactOneLeaderUptoRow.holds Tryz.pinned (OpenSpec.upto fnExactOneLeaderSpec)

/-- 'laws.FnExactLogsMatch', WHERE WHAT IT READS IS OF BULK AT MOST 1048576: true; the input reads as it did. -/
def fnExactLogsMatchUptoRow : OpenClaim := { program := "ytnmbggfkmkcmkaagreat", sum := "10ec28bd1eea8f8f721a32140efb7ffb2afbfda99553d26ec29f19b4f0e3b758", func := "loop.example/g00222/laws.FnExactLogsMatch", spec := "fnExactLogsMatch", inPlace := ["slices.overlaps[loop.example/g00222/impl.Backend]", "slices.overlaps[loop.example/g00222/impl.Vip]", "slices.overlaps[int64]"], unfollowed := true, recurses := true, apart := false, narrowed := true }
def FnExactLogsMatchUptoSaid : Prop := fnExactLogsMatchUptoRow.holds Tryz.pinned (OpenSpec.upto fnExactLogsMatchSpec)

/-- 'laws.FnExactSealsKept', WHERE WHAT IT READS IS OF BULK AT MOST 1048576: true; the input reads as it did. -/
def fnExactSealsKeptUptoRow : OpenClaim := { program := "ytnmbggfkmkcmkaagreat", sum := "10ec28bd1eea8f8f721a32140efb7ffb2afbfda99553d26ec29f19b4f0e3b758", func := "loop.example/g00222/laws.FnExactSealsKept", spec := "fnExactSealsKept", inPlace := ["slices.overlaps[loop.example/g00222/impl.Backend]", "slices.overlaps[loop.example/g00222/impl.Vip]", "slices.overlaps[int64]"], unfollowed := true, recurses := true, apart := false, narrowed := true }
def FnExactSealsKeptUptoSaid : Prop := fnExactSealsKeptUptoRow.holds Tryz.pinned (OpenSpec.upto fnExactSealsKeptSpec)

/-- 'laws.FnExactLeadersHave', WHERE WHAT IT READS IS OF BULK AT MOST 1048576: true; the input reads as it did. -/
def fnExactLeadersHaveUptoRow : OpenClaim := { program := "ytnmbggfkmkcmkaagreat", sum := "10ec28bd1eea8f8f721a32140efb7ffb2afbfda99553d26ec29f19b4f0e3b758", func := "loop.example/g00222/laws.FnExactLeadersHave", spec := "fnExactLeadersHave", inPlace := ["slices.overlaps[loop.example/g00222/impl.Backend]", "slices.overlaps[loop.example/g00222/impl.Vip]", "slices.overlaps[int64]"], unfollowed := true, recurses := true, apart := false, narrowed := true }
def FnExactLeadersHaveUptoSaid : Prop := fnExactLeadersHaveUptoRow.holds Tryz.pinned (OpenSpec.upto fnExactLeadersHaveSpec)

/-- 'laws.FnExactSafeCluster', WHERE WHAT IT READS IS OF BULK AT MOST 1048576: true; the input reads as it did. -/
def fnExactSafeClusterUptoRow : OpenClaim := { program := "ytnmbggfkmkcmkaagreat", sum := "10ec28bd1eea8f8f721a32140efb7ffb2afbfda99553d26ec29f19b4f0e3b758", func := "loop.example/g00222/laws.FnExactSafeCluster", spec := "fnExactSafeCluster", inPlace := ["slices.overlaps[loop.example/g00222/impl.Backend]", "slices.overlaps[loop.example/g00222/impl.Vip]", "slices.overlaps[int64]"], unfollowed := true, recurses := true, apart := false, narrowed := true }
def FnExactSafeClusterUptoSaid : Prop := fnExactSafeClusterUptoRow.holds Tryz.pinned (OpenSpec.upto fnExactSafeClusterSpec)

/-- 'laws.FnExactAgreedOf', WHERE WHAT IT READS IS OF BULK AT MOST 1048576: true; the input reads as it did. -/
def fnExactAgreedOfUptoRow : OpenClaim := { program := "ytnmbggfkmkcmkaagreat", sum := "10ec28bd1eea8f8f721a32140efb7ffb2afbfda99553d26ec29f19b4f0e3b758", func := "loop.example/g00222/laws.FnExactAgreedOf", spec := "fnExactAgreedOf", inPlace := ["slices.overlaps[loop.example/g00222/impl.Backend]", "slices.overlaps[loop.example/g00222/impl.Vip]", "slices.overlaps[int64]"], unfollowed := true, recurses := true, apart := false, narrowed := true }
def FnExactAgreedOfUptoSaid : Prop := fnExactAgreedOfUptoRow.holds Tryz.pinned (OpenSpec.upto fnExactAgreedOfSpec)

/-- 'laws.FnExactLeaderOf', WHERE WHAT IT READS IS OF BULK AT MOST 1048576: true; the input reads as it did. -/
def fnExactLeaderOfUptoRow : OpenClaim := { program := "ytnmbggfkmkcmkaagreat", sum := "10ec28bd1eea8f8f721a32140efb7ffb2afbfda99553d26ec29f19b4f0e3b758", func := "loop.example/g00222/laws.FnExactLeaderOf", spec := "fnExactLeaderOf", inPlace := ["slices.overlaps[loop.example/g00222/impl.Backend]", "slices.overlaps[loop.example/g00222/impl.Vip]", "slices.overlaps[int64]"], unfollowed := true, recurses := true, apart := false, narrowed := true }
def FnExactLeaderOfUptoSaid : Prop := fnExactLeaderOfUptoRow.holds Tryz.pinned (OpenSpec.upto fnExactLeaderOfSpec)

end Rows
end Go.Proofs.YtnmbggfkmkcmkaaGreat
