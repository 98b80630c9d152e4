/-
  No cell of these rows narrows 'for every input' (looked for: loops, veiled, ifaces, maps, wideKeys, modest, calm, conditions, laid).
  DERIVED. THE GIVEN ROWS OF THIS SEAT. 8 by the template 'for every input the law returns true; each argument reads behind the call as it read before'; 0 by the template 'total and deterministic' (their statements: YtdnjjhambjafoaaGreatTotals.lean).
  GIVEN WITH THE SEED: the statements are not yours to turn. If you find one false, say at which input.
  Laid BY PROGRAM, IN A SANDBOX (cutbox-rows.mjs): the forced cells as the released guide's own fill.sh prints them over the translation c5f73f460f1cccaa… (all of the seat's roots in one cut). By AI agents, Wed Nov 11 2026. No macro, syntax, notation, axiom, sorry.
-/
import Derived.Test.YtdnjjhambjafoaaGreatChecked
import GoSem.Claim
import GoSem.ClaimJoined
import GoSem.ClaimMapViews
import Derived.JoinedTies
import Derived.KernelRfl
namespace Go.Proofs.YtdnjjhambjafoaaGreat
/- THE CELL 'sum', in the pinned program and in every row, IS THE sha256 OF THE DUMP (.gsa) THAT YtdnjjhambjafoaaGreatProg.lean LOADS. Nothing in Lean hashes anything: it is a label: what it is worth is what the hold of that sum in a sandbox is worth. -/
noncomputable def Tryz.pinned : Pinned := { name := "ytdnjjhambjafoaagreat", sum := "c5f73f460f1cccaaeceaea3af1ffd1c31e247cf317e6a02fe8109dbaacf94fa8", checked := Tryz.checked }
namespace Rows
def none {H : Type} : Left H := { results := [], args := [] }

/-- 'laws.FnExactNodeFault': WHATEVER THE INPUT: true; the input reads as it did. -/
def fnExactNodeFaultSpec : ChangeSpec := { name := "fnExactNodeFault", fn := fun _ => fun
  | [d] => { results := [.lit (.bool true)], args := [d] }
  | _ => none }
def fnExactNodeFaultRow : OpenClaim := { program := "ytdnjjhambjafoaagreat", sum := "c5f73f460f1cccaaeceaea3af1ffd1c31e247cf317e6a02fe8109dbaacf94fa8", func := "loop.example/g00222/laws.FnExactNodeFault", spec := "fnExactNodeFault", inPlace := ["slices.overlaps[loop.example/g00222/impl.Backend]", "slices.overlaps[loop.example/g00222/impl.Vip]", "slices.overlaps[int64]"], unfollowed := true, recurses := true, apart := false }
def FnExactNodeFaultSaid : Prop := fnExactNodeFaultRow.holds Tryz.pinned (OpenSpec.ofChange fnExactNodeFaultSpec)

/-- ITS FALSE NEIGHBOUR: 'it returns false'. Refute it at one input. -/
def fnExactNodeFaultWrong : ChangeSpec := { name := "fnExactNodeFault", fn := fun _ => fun
  | [d] => { results := [.lit (.bool false)], args := [d] }
  | _ => none }
def FnExactNodeFaultWrongFalsely : Prop := fnExactNodeFaultRow.holds Tryz.pinned (OpenSpec.ofChange fnExactNodeFaultWrong)

/-- 'laws.FnExactMailFault': WHATEVER THE INPUT: true; the input reads as it did. -/
def fnExactMailFaultSpec : ChangeSpec := { name := "fnExactMailFault", fn := fun _ => fun
  | [d1, d2] => { results := [.lit (.bool true)], args := [d1, d2] }
  | _ => none }
def fnExactMailFaultRow : OpenClaim := { program := "ytdnjjhambjafoaagreat", sum := "c5f73f460f1cccaaeceaea3af1ffd1c31e247cf317e6a02fe8109dbaacf94fa8", func := "loop.example/g00222/laws.FnExactMailFault", spec := "fnExactMailFault", inPlace := ["slices.overlaps[loop.example/g00222/impl.Backend]", "slices.overlaps[loop.example/g00222/impl.Vip]", "slices.overlaps[int64]"], unfollowed := true, recurses := true, apart := false }
def FnExactMailFaultSaid : Prop := fnExactMailFaultRow.holds Tryz.pinned (OpenSpec.ofChange fnExactMailFaultSpec)

/-- ITS FALSE NEIGHBOUR: 'it returns false'. Refute it at one input. -/
def fnExactMailFaultWrong : ChangeSpec := { name := "fnExactMailFault", fn := fun _ => fun
  | [d1, d2] => { results := [.lit (.bool false)], args := [d1, d2] }
  | _ => none }
def FnExactMailFaultWrongFalsely : Prop := fnExactMailFaultRow.holds Tryz.pinned (OpenSpec.ofChange fnExactMailFaultWrong)

/-- 'laws.FnExactTimeoutNode': WHATEVER THE INPUT: true; the input reads as it did. -/
def fnExactTimeoutNodeSpec : ChangeSpec := { name := "fnExactTimeoutNode", fn := fun _ => fun
  | [d] => { results := [.lit (.bool true)], args := [d] }
  | _ => none }
def fnExactTimeoutNodeRow : OpenClaim := { program := "ytdnjjhambjafoaagreat", sum := "c5f73f460f1cccaaeceaea3af1ffd1c31e247cf317e6a02fe8109dbaacf94fa8", func := "loop.example/g00222/laws.FnExactTimeoutNode", spec := "fnExactTimeoutNode", inPlace := ["slices.overlaps[loop.example/g00222/impl.Backend]", "slices.overlaps[loop.example/g00222/impl.Vip]", "slices.overlaps[int64]"], unfollowed := true, recurses := true, apart := false }
def FnExactTimeoutNodeSaid : Prop := fnExactTimeoutNodeRow.holds Tryz.pinned (OpenSpec.ofChange fnExactTimeoutNodeSpec)

/-- ITS FALSE NEIGHBOUR: 'it returns false'. Refute it at one input. -/
def fnExactTimeoutNodeWrong : ChangeSpec := { name := "fnExactTimeoutNode", fn := fun _ => fun
  | [d] => { results := [.lit (.bool false)], args := [d] }
  | _ => none }
def FnExactTimeoutNodeWrongFalsely : Prop := fnExactTimeoutNodeRow.holds Tryz.pinned (OpenSpec.ofChange fnExactTimeoutNodeWrong)

/-- 'laws.FnExactSpreadNode': WHATEVER THE INPUT: true; the input reads as it did. -/
def fnExactSpreadNodeSpec : ChangeSpec := { name := "fnExactSpreadNode", fn := fun _ => fun
  | [d] => { results := [.lit (.bool true)], args := [d] }
  | _ => none }
def fnExactSpreadNodeRow : OpenClaim := { program := "ytdnjjhambjafoaagreat", sum := "c5f73f460f1cccaaeceaea3af1ffd1c31e247cf317e6a02fe8109dbaacf94fa8", func := "loop.example/g00222/laws.FnExactSpreadNode", spec := "fnExactSpreadNode", inPlace := ["slices.overlaps[loop.example/g00222/impl.Backend]", "slices.overlaps[loop.example/g00222/impl.Vip]", "slices.overlaps[int64]"], unfollowed := true, recurses := true, apart := false }
def FnExactSpreadNodeSaid : Prop := fnExactSpreadNodeRow.holds Tryz.pinned (OpenSpec.ofChange fnExactSpreadNodeSpec)

/-- ITS FALSE NEIGHBOUR: 'it returns false'. Refute it at one input. -/
def fnExactSpreadNodeWrong : ChangeSpec := { name := "fnExactSpreadNode", fn := fun _ => fun
  | [d] => { results := [.lit (.bool false)], args := [d] }
  | _ => none }
def FnExactSpreadNodeWrongFalsely : Prop := fnExactSpreadNodeRow.holds Tryz.pinned (OpenSpec.ofChange fnExactSpreadNodeWrong)

/-- 'laws.FnExactAskNode': WHATEVER THE INPUT: true; the input reads as it did. -/
def fnExactAskNodeSpec : ChangeSpec := { name := "fnExactAskNode", fn := fun _ => fun
  | [d1, d2] => { results := [.lit (.bool true)], args := [d1, d2] }
  | _ => none }
def fnExactAskNodeRow : OpenClaim := { program := "ytdnjjhambjafoaagreat", sum := "c5f73f460f1cccaaeceaea3af1ffd1c31e247cf317e6a02fe8109dbaacf94fa8", func := "loop.example/g00222/laws.FnExactAskNode", spec := "fnExactAskNode", inPlace := ["slices.overlaps[loop.example/g00222/impl.Backend]", "slices.overlaps[loop.example/g00222/impl.Vip]", "slices.overlaps[int64]"], unfollowed := true, recurses := true, apart := false }
def FnExactAskNodeSaid : Prop := fnExactAskNodeRow.holds Tryz.pinned (OpenSpec.ofChange fnExactAskNodeSpec)

/-- ITS FALSE NEIGHBOUR: 'it returns false'. Refute it at one input. -/
def fnExactAskNodeWrong : ChangeSpec := { name := "fnExactAskNode", fn := fun _ => fun
  | [d1, d2] => { results := [.lit (.bool false)], args := [d1, d2] }
  | _ => none }
def FnExactAskNodeWrongFalsely : Prop := fnExactAskNodeRow.holds Tryz.pinned (OpenSpec.ofChange fnExactAskNodeWrong)

/-- 'laws.FnExactHearMail': WHATEVER THE INPUT: true; the input reads as it did. -/
def fnExactHearMailSpec : ChangeSpec := { name := "fnExactHearMail", fn := fun _ => fun
  | [d1, d2] => { results := [.lit (.bool true)], args := [d1, d2] }
  | _ => none }
def fnExactHearMailRow : OpenClaim := { program := "ytdnjjhambjafoaagreat", sum := "c5f73f460f1cccaaeceaea3af1ffd1c31e247cf317e6a02fe8109dbaacf94fa8", func := "loop.example/g00222/laws.FnExactHearMail", spec := "fnExactHearMail", inPlace := ["slices.overlaps[loop.example/g00222/impl.Backend]", "slices.overlaps[loop.example/g00222/impl.Vip]", "slices.overlaps[int64]"], unfollowed := true, recurses := true, apart := false }
def FnExactHearMailSaid : Prop := fnExactHearMailRow.holds Tryz.pinned (OpenSpec.ofChange fnExactHearMailSpec)

/-- ITS FALSE NEIGHBOUR: 'it returns false'. Refute it at one input. -/
def fnExactHearMailWrong : ChangeSpec := { name := "fnExactHearMail", fn := fun _ => fun
  | [d1, d2] => { results := [.lit (.bool false)], args := [d1, d2] }
  | _ => none }
def FnExactHearMailWrongFalsely : Prop := fnExactHearMailRow.holds Tryz.pinned (OpenSpec.ofChange fnExactHearMailWrong)

/-- 'laws.FnExactCrashNode': WHATEVER THE INPUT: true; the input reads as it did. -/
def fnExactCrashNodeSpec : ChangeSpec := { name := "fnExactCrashNode", fn := fun _ => fun
  | [d] => { results := [.lit (.bool true)], args := [d] }
  | _ => none }
def fnExactCrashNodeRow : OpenClaim := { program := "ytdnjjhambjafoaagreat", sum := "c5f73f460f1cccaaeceaea3af1ffd1c31e247cf317e6a02fe8109dbaacf94fa8", func := "loop.example/g00222/laws.FnExactCrashNode", spec := "fnExactCrashNode", inPlace := ["slices.overlaps[loop.example/g00222/impl.Backend]", "slices.overlaps[loop.example/g00222/impl.Vip]", "slices.overlaps[int64]"], unfollowed := true, recurses := true, apart := false }
def FnExactCrashNodeSaid : Prop := fnExactCrashNodeRow.holds Tryz.pinned (OpenSpec.ofChange fnExactCrashNodeSpec)

/-- ITS FALSE NEIGHBOUR: 'it returns false'. Refute it at one input. -/
def fnExactCrashNodeWrong : ChangeSpec := { name := "fnExactCrashNode", fn := fun _ => fun
  | [d] => { results := [.lit (.bool false)], args := [d] }
  | _ => none }
def FnExactCrashNodeWrongFalsely : Prop := fnExactCrashNodeRow.holds Tryz.pinned (OpenSpec.ofChange fnExactCrashNodeWrong)

/-- 'laws.FnExactCommitOf': WHATEVER THE INPUT: true; the input reads as it did. -/
def fnExactCommitOfSpec : ChangeSpec := { name := "fnExactCommitOf", fn := fun _ => fun
  | [d] => { results := [.lit (.bool true)], args := [d] }
  | _ => none }
def fnExactCommitOfRow : OpenClaim := { program := "ytdnjjhambjafoaagreat", sum := "c5f73f460f1cccaaeceaea3af1ffd1c31e247cf317e6a02fe8109dbaacf94fa8", func := "loop.example/g00222/laws.FnExactCommitOf", spec := "fnExactCommitOf", inPlace := ["slices.overlaps[loop.example/g00222/impl.Backend]", "slices.overlaps[loop.example/g00222/impl.Vip]", "slices.overlaps[int64]"], unfollowed := true, recurses := true, apart := false }
def FnExactCommitOfSaid : Prop := fnExactCommitOfRow.holds Tryz.pinned (OpenSpec.ofChange fnExactCommitOfSpec)

/-- ITS FALSE NEIGHBOUR: 'it returns false'. Refute it at one input. -/
def fnExactCommitOfWrong : ChangeSpec := { name := "fnExactCommitOf", fn := fun _ => fun
  | [d] => { results := [.lit (.bool false)], args := [d] }
  | _ => none }
def FnExactCommitOfWrongFalsely : Prop := fnExactCommitOfRow.holds Tryz.pinned (OpenSpec.ofChange fnExactCommitOfWrong)

/- THE SECOND FORM. 'bulk': how many values and letters a reading holds, each counted each time it is reached (what is shared counts as often as it is met; a slice's spare places count too). A statement '..UptoSaid' is the law's where the arguments, and the package variables that the reading takes, are together of bulk at most 1048576: NARROWER than '..Said'. Prove '..Said' where nothing that the law and all that it calls make is longer than what came in: it says more and counts as full. Else prove '..UptoSaid'. A law counts once. -/
mutual
def uptoBulk {H : Type} : DataW H → Nat
  | .lit (.string bytes) => bytes.length + 1
  | .lit _ => 1
  | .nil => 1
  | .ptr d => uptoBulk d + 1
  | .slice elems spare => uptoBulkAll elems + uptoBulkAll spare + 1
  | .agg parts => uptoBulkAll parts + 1
  | .iface _ d => uptoBulk d + 1
  | .map entries => uptoBulkEntries entries + 1
  | .held _ => 1
def uptoBulkAll {H : Type} : List (DataW H) → Nat
  | [] => 0
  | d :: r => uptoBulk d + uptoBulkAll r
def uptoBulkEntries {H : Type} : List (Lit × DataW H) → Nat
  | [] => 0
  | x :: r => uptoBulkEntry x + uptoBulkEntries r
def uptoBulkEntry {H : Type} : Lit × DataW H → Nat
  | (.string bytes, d) => bytes.length + uptoBulk d + 1
  | (_, d) => uptoBulk d + 1
 end
def uptoSmall : (H : Type) → List (DataW H) → Bool := fun _ ds => decide (uptoBulkAll ds ≤ 1048576)
def OpenSpec.upto (s : _root_.Go.ChangeSpec) : _root_.Go.OpenSpec := { _root_.Go.OpenSpec.ofChange s with cond := some uptoSmall }

/-- 'laws.FnExactNodeFault', WHERE WHAT IT READS IS OF BULK AT MOST 1048576: true; the input reads as it did. -/
def fnExactNodeFaultUptoRow : OpenClaim := { program := "ytdnjjhambjafoaagreat", sum := "c5f73f460f1cccaaeceaea3af1ffd1c31e247cf317e6a02fe8109dbaacf94fa8", func := "loop.example/g00222/laws.FnExactNodeFault", spec := "fnExactNodeFault", inPlace := ["slices.overlaps[loop.example/g00222/impl.Backend]", "slices.overlaps[loop.example/g00222/impl.Vip]", "slices.overlaps[int64]"], unfollowed := true, recurses := true, apart := false, narrowed := true }
def FnExactNodeFaultUptoSaid : Prop := fnExactNodeFaultUptoRow.holds Tryz.pinned (OpenSpec.upto fnExactNodeFaultSpec)

/-- 'laws.FnExactMailFault', WHERE WHAT IT READS IS OF BULK AT MOST 1048576: true; the input reads as it did. -/
def fnExactMailFaultUptoRow : OpenClaim := { program := "ytdnjjhambjafoaagreat", sum := "c5f73f460f1cccaaeceaea3af1ffd1c31e247cf317e6a02fe8109dbaacf94fa8", func := "loop.example/g00222/laws.FnExactMailFault", spec := "fnExactMailFault", inPlace := ["slices.overlaps[loop.example/g00222/impl.Backend]", "slices.overlaps[loop.example/g00222/impl.Vip]", "slices.overlaps[int64]"], unfollowed := true, recurses := true, apart := false, narrowed := true }
def FnExactMailFaultUptoSaid : Prop := fnExactMailFaultUptoRow.holds Tryz.pinned (OpenSpec.upto fnExactMailFaultSpec)

/-- 'laws.FnExactTimeoutNode', WHERE WHAT IT READS IS OF BULK AT MOST 1048576: true; the input reads as it did. -/
def fnExactTimeoutNodeUptoRow : OpenClaim := { program := "ytdnjjhambjafoaagreat", sum := "c5f73f460f1cccaaeceaea3af1ffd1c31e247cf317e6a02fe8109dbaacf94fa8", func := "loop.example/g00222/laws.FnExactTimeoutNode", spec := "fnExactTimeoutNode", inPlace := ["slices.overlaps[loop.example/g00222/impl.Backend]", "slices.overlaps[loop.example/g00222/impl.Vip]", "slices.overlaps[int64]"], unfollowed := true, recurses := true, apart := false, narrowed := true }
def FnExactTimeoutNodeUptoSaid : Prop := fnExactTimeoutNodeUptoRow.holds Tryz.pinned (OpenSpec.upto fnExactTimeoutNodeSpec)

/-- 'laws.FnExactSpreadNode', WHERE WHAT IT READS IS OF BULK AT MOST 1048576: true; the input reads as it did. -/
def fnExactSpreadNodeUptoRow : OpenClaim := { program := "ytdnjjhambjafoaagreat", sum := "c5f73f460f1cccaaeceaea3af1ffd1c31e247cf317e6a02fe8109dbaacf94fa8", func := "loop.example/g00222/laws.FnExactSpreadNode", spec := "fnExactSpreadNode", inPlace := ["slices.overlaps[loop.example/g00222/impl.Backend]", "slices.overlaps[loop.example/g00222/impl.Vip]", "slices.overlaps[int64]"], unfollowed := true, recurses := true, apart := false, narrowed := true }
def FnExactSpreadNodeUptoSaid : Prop := fnExactSpreadNodeUptoRow.holds Tryz.pinned (OpenSpec.upto fnExactSpreadNodeSpec)

/-- 'laws.FnExactAskNode', WHERE WHAT IT READS IS OF BULK AT MOST 1048576: true; the input reads as it did. -/
def fnExactAskNodeUptoRow : OpenClaim := { program := "ytdnjjhambjafoaagreat", sum := "c5f73f460f1cccaaeceaea3af1ffd1c31e247cf317e6a02fe8109dbaacf94fa8", func := "loop.example/g00222/laws.FnExactAskNode", spec := "fnExactAskNode", inPlace := ["slices.overlaps[loop.example/g00222/impl.Backend]", "slices.overlaps[loop.example/g00222/impl.Vip]", "slices.overlaps[int64]"], unfollowed := true, recurses := true, apart := false, narrowed := true }
def FnExactAskNodeUptoSaid : Prop := fnExactAskNodeUptoRow.holds Tryz.pinned (OpenSpec.upto fnExactAskNodeSpec)

/-- 'laws.FnExactHearMail', WHERE WHAT IT READS IS OF BULK AT MOST 1048576: true; the input reads as it did. -/
def fnExactHearMailUptoRow : OpenClaim := { program := "ytdnjjhambjafoaagreat", sum := "c5f73f460f1cccaaeceaea3af1ffd1c31e247cf317e6a02fe8109dbaacf94fa8", func := "loop.example/g00222/laws.FnExactHearMail", spec := "fnExactHearMail", inPlace := ["slices.overlaps[loop.example/g00222/impl.Backend]", "slices.overlaps[loop.example/g00222/impl.Vip]", "slices.overlaps[int64]"], unfollowed := true, recurses := true, apart := false, narrowed := true }
def FnExactHearMailUptoSaid : Prop := fnExactHearMailUptoRow.holds Tryz.pinned (OpenSpec.upto fnExactHearMailSpec)

/-- 'laws.FnExactCrashNode', WHERE WHAT IT READS IS OF BULK AT MOST 1048576: true; the input reads as it did. -/
def fnExactCrashNodeUptoRow : OpenClaim := { program := "ytdnjjhambjafoaagreat", sum := "c5f73f460f1cccaaeceaea3af1ffd1c31e247cf317e6a02fe8109dbaacf94fa8", func := "loop.example/g00222/laws.FnExactCrashNode", spec := "fnExactCrashNode", inPlace := ["slices.overlaps[loop.example/g00222/impl.Backend]", "slices.overlaps[loop.example/g00222/impl.Vip]", "slices.overlaps[int64]"], unfollowed := true, recurses := true, apart := false, narrowed := true }
def FnExactCrashNodeUptoSaid : Prop := fnExactCrashNodeUptoRow.holds Tryz.pinned (OpenSpec.upto fnExactCrashNodeSpec)

/-- 'laws.FnExactCommitOf', WHERE WHAT IT READS IS OF BULK AT MOST 1048576: true; the input reads as it did. -/
def fnExactCommitOfUptoRow : OpenClaim := { program := "ytdnjjhambjafoaagreat", sum := "c5f73f460f1cccaaeceaea3af1ffd1c31e247cf317e6a02fe8109dbaacf94fa8", func := "loop.example/g00222/laws.FnExactCommitOf", spec := "fnExactCommitOf", inPlace := ["slices.overlaps[loop.example/g00222/impl.Backend]", "slices.overlaps[loop.example/g00222/impl.Vip]", "slices.overlaps[int64]"], unfollowed := true, recurses := true, apart := false, narrowed := true }
def FnExactCommitOfUptoSaid : Prop := fnExactCommitOfUptoRow.holds Tryz.pinned (OpenSpec.upto fnExactCommitOfSpec)

end Rows
end Go.Proofs.YtdnjjhambjafoaaGreat
