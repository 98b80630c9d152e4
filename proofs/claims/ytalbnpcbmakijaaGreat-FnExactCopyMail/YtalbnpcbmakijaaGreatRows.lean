/-
  No cell of these rows narrows 'for every input' (looked for: loops, veiled, ifaces, maps, wideKeys, modest, calm, conditions, laid).
  DERIVED. THE GIVEN ROWS OF THIS SEAT. 8 by the template 'for every input the law returns true; each argument reads behind the call as it read before'; 0 by the template 'total and deterministic' (their statements: YtalbnpcbmakijaaGreatTotals.lean).
  GIVEN WITH THE SEED: the statements are not yours to turn. If you find one false, say at which input.
  Laid BY PROGRAM, IN A SANDBOX (cutbox-rows.mjs): the forced cells as the released guide's own fill.sh prints them over the translation aa65857a6693450e… (all of the seat's roots in one cut). By AI agents, Wed Nov 11 2026. No macro, syntax, notation, axiom, sorry.
-/
import Derived.Test.YtalbnpcbmakijaaGreatChecked
import GoSem.Claim
import GoSem.ClaimJoined
import GoSem.ClaimMapViews
import Derived.JoinedTies
import Derived.KernelRfl
namespace Go.Proofs.YtalbnpcbmakijaaGreat
/- THE CELL 'sum', in the pinned program and in every row, IS THE sha256 OF THE DUMP (.gsa) THAT YtalbnpcbmakijaaGreatProg.lean LOADS. Nothing in Lean hashes anything: it is a label: what it is worth is what the hold of that sum in a sandbox is worth. -/
noncomputable def Tryz.pinned : Pinned := { name := "ytalbnpcbmakijaagreat", sum := "aa65857a6693450e32b88b9976695c95f592569bd30ca7e440ec94e7ad000cd2", checked := Tryz.checked }
namespace Rows
def none {H : Type} : Left H := { results := [], args := [] }

/-- 'laws.FnExactClusterFault': WHATEVER THE INPUT: true; the input reads as it did. -/
def fnExactClusterFaultSpec : ChangeSpec := { name := "fnExactClusterFault", fn := fun _ => fun
  | [d] => { results := [.lit (.bool true)], args := [d] }
  | _ => none }
def fnExactClusterFaultRow : OpenClaim := { program := "ytalbnpcbmakijaagreat", sum := "aa65857a6693450e32b88b9976695c95f592569bd30ca7e440ec94e7ad000cd2", func := "loop.example/g00222/laws.FnExactClusterFault", spec := "fnExactClusterFault", inPlace := ["slices.overlaps[loop.example/g00222/impl.Backend]", "slices.overlaps[loop.example/g00222/impl.Vip]", "slices.overlaps[int64]"], unfollowed := true, recurses := true, apart := false }
def FnExactClusterFaultSaid : Prop := fnExactClusterFaultRow.holds Tryz.pinned (OpenSpec.ofChange fnExactClusterFaultSpec)

/-- ITS FALSE NEIGHBOUR: 'it returns false'. Refute it at one input. -/
def fnExactClusterFaultWrong : ChangeSpec := { name := "fnExactClusterFault", fn := fun _ => fun
  | [d] => { results := [.lit (.bool false)], args := [d] }
  | _ => none }
def FnExactClusterFaultWrongFalsely : Prop := fnExactClusterFaultRow.holds Tryz.pinned (OpenSpec.ofChange fnExactClusterFaultWrong)

/-- 'laws.FnExactDeliverMail': WHATEVER THE INPUT: true; the input reads as it did. -/
def fnExactDeliverMailSpec : ChangeSpec := { name := "fnExactDeliverMail", fn := fun _ => fun
  | [d1, d2] => { results := [.lit (.bool true)], args := [d1, d2] }
  | _ => none }
def fnExactDeliverMailRow : OpenClaim := { program := "ytalbnpcbmakijaagreat", sum := "aa65857a6693450e32b88b9976695c95f592569bd30ca7e440ec94e7ad000cd2", func := "loop.example/g00222/laws.FnExactDeliverMail", spec := "fnExactDeliverMail", inPlace := ["slices.overlaps[loop.example/g00222/impl.Backend]", "slices.overlaps[loop.example/g00222/impl.Vip]", "slices.overlaps[int64]"], unfollowed := true, recurses := true, apart := false }
def FnExactDeliverMailSaid : Prop := fnExactDeliverMailRow.holds Tryz.pinned (OpenSpec.ofChange fnExactDeliverMailSpec)

/-- ITS FALSE NEIGHBOUR: 'it returns false'. Refute it at one input. -/
def fnExactDeliverMailWrong : ChangeSpec := { name := "fnExactDeliverMail", fn := fun _ => fun
  | [d1, d2] => { results := [.lit (.bool false)], args := [d1, d2] }
  | _ => none }
def FnExactDeliverMailWrongFalsely : Prop := fnExactDeliverMailRow.holds Tryz.pinned (OpenSpec.ofChange fnExactDeliverMailWrong)

/-- 'laws.FnExactCopyMail': WHATEVER THE INPUT: true; the input reads as it did. -/
def fnExactCopyMailSpec : ChangeSpec := { name := "fnExactCopyMail", fn := fun _ => fun
  | [d1, d2] => { results := [.lit (.bool true)], args := [d1, d2] }
  | _ => none }
def fnExactCopyMailRow : OpenClaim := { program := "ytalbnpcbmakijaagreat", sum := "aa65857a6693450e32b88b9976695c95f592569bd30ca7e440ec94e7ad000cd2", func := "loop.example/g00222/laws.FnExactCopyMail", spec := "fnExactCopyMail", inPlace := ["slices.overlaps[loop.example/g00222/impl.Backend]", "slices.overlaps[loop.example/g00222/impl.Vip]", "slices.overlaps[int64]"], unfollowed := true, recurses := true, apart := false }
def FnExactCopyMailSaid : Prop := fnExactCopyMailRow.holds Tryz.pinned (OpenSpec.ofChange fnExactCopyMailSpec)

/-- ITS FALSE NEIGHBOUR: 'it returns false'. Refute it at one input. -/
def fnExactCopyMailWrong : ChangeSpec := { name := "fnExactCopyMail", fn := fun _ => fun
  | [d1, d2] => { results := [.lit (.bool false)], args := [d1, d2] }
  | _ => none }
def FnExactCopyMailWrongFalsely : Prop := fnExactCopyMailRow.holds Tryz.pinned (OpenSpec.ofChange fnExactCopyMailWrong)

/-- 'laws.FnExactDropMail': WHATEVER THE INPUT: true; the input reads as it did. -/
def fnExactDropMailSpec : ChangeSpec := { name := "fnExactDropMail", fn := fun _ => fun
  | [d1, d2] => { results := [.lit (.bool true)], args := [d1, d2] }
  | _ => none }
def fnExactDropMailRow : OpenClaim := { program := "ytalbnpcbmakijaagreat", sum := "aa65857a6693450e32b88b9976695c95f592569bd30ca7e440ec94e7ad000cd2", func := "loop.example/g00222/laws.FnExactDropMail", spec := "fnExactDropMail", inPlace := ["slices.overlaps[loop.example/g00222/impl.Backend]", "slices.overlaps[loop.example/g00222/impl.Vip]", "slices.overlaps[int64]"], unfollowed := true, recurses := true, apart := false }
def FnExactDropMailSaid : Prop := fnExactDropMailRow.holds Tryz.pinned (OpenSpec.ofChange fnExactDropMailSpec)

/-- ITS FALSE NEIGHBOUR: 'it returns false'. Refute it at one input. -/
def fnExactDropMailWrong : ChangeSpec := { name := "fnExactDropMail", fn := fun _ => fun
  | [d1, d2] => { results := [.lit (.bool false)], args := [d1, d2] }
  | _ => none }
def FnExactDropMailWrongFalsely : Prop := fnExactDropMailRow.holds Tryz.pinned (OpenSpec.ofChange fnExactDropMailWrong)

/-- 'laws.FnExactTimeoutAt': WHATEVER THE INPUT: true; the input reads as it did. -/
def fnExactTimeoutAtSpec : ChangeSpec := { name := "fnExactTimeoutAt", fn := fun _ => fun
  | [d1, d2] => { results := [.lit (.bool true)], args := [d1, d2] }
  | _ => none }
def fnExactTimeoutAtRow : OpenClaim := { program := "ytalbnpcbmakijaagreat", sum := "aa65857a6693450e32b88b9976695c95f592569bd30ca7e440ec94e7ad000cd2", func := "loop.example/g00222/laws.FnExactTimeoutAt", spec := "fnExactTimeoutAt", inPlace := ["slices.overlaps[loop.example/g00222/impl.Backend]", "slices.overlaps[loop.example/g00222/impl.Vip]", "slices.overlaps[int64]"], unfollowed := true, recurses := true, apart := false }
def FnExactTimeoutAtSaid : Prop := fnExactTimeoutAtRow.holds Tryz.pinned (OpenSpec.ofChange fnExactTimeoutAtSpec)

/-- ITS FALSE NEIGHBOUR: 'it returns false'. Refute it at one input. -/
def fnExactTimeoutAtWrong : ChangeSpec := { name := "fnExactTimeoutAt", fn := fun _ => fun
  | [d1, d2] => { results := [.lit (.bool false)], args := [d1, d2] }
  | _ => none }
def FnExactTimeoutAtWrongFalsely : Prop := fnExactTimeoutAtRow.holds Tryz.pinned (OpenSpec.ofChange fnExactTimeoutAtWrong)

/-- 'laws.FnExactSpreadAt': WHATEVER THE INPUT: true; the input reads as it did. -/
def fnExactSpreadAtSpec : ChangeSpec := { name := "fnExactSpreadAt", fn := fun _ => fun
  | [d1, d2] => { results := [.lit (.bool true)], args := [d1, d2] }
  | _ => none }
def fnExactSpreadAtRow : OpenClaim := { program := "ytalbnpcbmakijaagreat", sum := "aa65857a6693450e32b88b9976695c95f592569bd30ca7e440ec94e7ad000cd2", func := "loop.example/g00222/laws.FnExactSpreadAt", spec := "fnExactSpreadAt", inPlace := ["slices.overlaps[loop.example/g00222/impl.Backend]", "slices.overlaps[loop.example/g00222/impl.Vip]", "slices.overlaps[int64]"], unfollowed := true, recurses := true, apart := false }
def FnExactSpreadAtSaid : Prop := fnExactSpreadAtRow.holds Tryz.pinned (OpenSpec.ofChange fnExactSpreadAtSpec)

/-- ITS FALSE NEIGHBOUR: 'it returns false'. Refute it at one input. -/
def fnExactSpreadAtWrong : ChangeSpec := { name := "fnExactSpreadAt", fn := fun _ => fun
  | [d1, d2] => { results := [.lit (.bool false)], args := [d1, d2] }
  | _ => none }
def FnExactSpreadAtWrongFalsely : Prop := fnExactSpreadAtRow.holds Tryz.pinned (OpenSpec.ofChange fnExactSpreadAtWrong)

/-- 'laws.FnExactAskAt': WHATEVER THE INPUT: true; the input reads as it did. -/
def fnExactAskAtSpec : ChangeSpec := { name := "fnExactAskAt", fn := fun _ => fun
  | [d1, d2, d3, d4, d5] => { results := [.lit (.bool true)], args := [d1, d2, d3, d4, d5] }
  | _ => none }
def fnExactAskAtRow : OpenClaim := { program := "ytalbnpcbmakijaagreat", sum := "aa65857a6693450e32b88b9976695c95f592569bd30ca7e440ec94e7ad000cd2", func := "loop.example/g00222/laws.FnExactAskAt", spec := "fnExactAskAt", inPlace := ["slices.overlaps[loop.example/g00222/impl.Backend]", "slices.overlaps[loop.example/g00222/impl.Vip]", "slices.overlaps[int64]"], unfollowed := true, recurses := true, apart := false }
def FnExactAskAtSaid : Prop := fnExactAskAtRow.holds Tryz.pinned (OpenSpec.ofChange fnExactAskAtSpec)

/-- ITS FALSE NEIGHBOUR: 'it returns false'. Refute it at one input. -/
def fnExactAskAtWrong : ChangeSpec := { name := "fnExactAskAt", fn := fun _ => fun
  | [d1, d2, d3, d4, d5] => { results := [.lit (.bool false)], args := [d1, d2, d3, d4, d5] }
  | _ => none }
def FnExactAskAtWrongFalsely : Prop := fnExactAskAtRow.holds Tryz.pinned (OpenSpec.ofChange fnExactAskAtWrong)

/-- 'laws.FnExactCrashAt': WHATEVER THE INPUT: true; the input reads as it did. -/
def fnExactCrashAtSpec : ChangeSpec := { name := "fnExactCrashAt", fn := fun _ => fun
  | [d1, d2] => { results := [.lit (.bool true)], args := [d1, d2] }
  | _ => none }
def fnExactCrashAtRow : OpenClaim := { program := "ytalbnpcbmakijaagreat", sum := "aa65857a6693450e32b88b9976695c95f592569bd30ca7e440ec94e7ad000cd2", func := "loop.example/g00222/laws.FnExactCrashAt", spec := "fnExactCrashAt", inPlace := ["slices.overlaps[loop.example/g00222/impl.Backend]", "slices.overlaps[loop.example/g00222/impl.Vip]", "slices.overlaps[int64]"], unfollowed := true, recurses := true, apart := false }
def FnExactCrashAtSaid : Prop := fnExactCrashAtRow.holds Tryz.pinned (OpenSpec.ofChange fnExactCrashAtSpec)

/-- ITS FALSE NEIGHBOUR: 'it returns false'. Refute it at one input. -/
def fnExactCrashAtWrong : ChangeSpec := { name := "fnExactCrashAt", fn := fun _ => fun
  | [d1, d2] => { results := [.lit (.bool false)], args := [d1, d2] }
  | _ => none }
def FnExactCrashAtWrongFalsely : Prop := fnExactCrashAtRow.holds Tryz.pinned (OpenSpec.ofChange fnExactCrashAtWrong)

/- THE SECOND FORM. 'bulk': how many values and letters a reading holds, each counted each time it is reached (what is shared counts as often as it is met; a slice's spare places count too). A statement '..UptoSaid' is the law's where the arguments, and the package variables that the reading takes, are together of bulk at most 1048576: NARROWER than '..Said'. Prove '..Said' where nothing that the law and all that it calls make is longer than what came in: it says more and counts as full. Else prove '..UptoSaid'. A law counts once. -/
mutual
def uptoBulk {H : Type} : DataW H → Nat
  | .lit (.string bytes) => bytes.length + 1
  | .lit _ => 1
  | .nil => 1
  | .ptr d => uptoBulk d + 1
  | .slice elems spare => uptoBulkAll elems + uptoBulkAll spare + 1
  | .agg parts => uptoBulkAll parts + 1
  | .iface _ d => uptoBulk d + 1
  | .map entries => uptoBulkEntries entries + 1
  | .held _ => 1
def uptoBulkAll {H : Type} : List (DataW H) → Nat
  | [] => 0
  | d :: r => uptoBulk d + uptoBulkAll r
def uptoBulkEntries {H : Type} : List (Lit × DataW H) → Nat
  | [] => 0
  | x :: r => uptoBulkEntry x + uptoBulkEntries r
def uptoBulkEntry {H : Type} : Lit × DataW H → Nat
  | (.string bytes, d) => bytes.length + uptoBulk d + 1
  | (_, d) => uptoBulk d + 1
 end
def uptoSmall : (H : Type) → List (DataW H) → Bool := fun _ ds => decide (uptoBulkAll ds ≤ 1048576)
def OpenSpec.upto (s : _root_.Go.ChangeSpec) : _root_.Go.OpenSpec := { _root_.Go.OpenSpec.ofChange s with cond := some uptoSmall }

/-- 'laws.FnExactClusterFault', WHERE WHAT IT READS IS OF BULK AT MOST 1048576: true; the input reads as it did. -/
def fnExactClusterFaultUptoRow : OpenClaim := { program := "ytalbnpcbmakijaagreat", sum := "aa65857a6693450e32b88b9976695c95f592569bd30ca7e440ec94e7ad000cd2", func := "loop.example/g00222/laws.FnExactClusterFault", spec := "fnExactClusterFault", inPlace := ["slices.overlaps[loop.example/g00222/impl.Backend]", "slices.overlaps[loop.example/g00222/impl.Vip]", "slices.overlaps[int64]"], unfollowed := true, recurses := true, apart := false, narrowed := true }
def FnExactClusterFaultUptoSaid : Prop := fnExactClusterFaultUptoRow.holds Tryz.pinned (OpenSpec.upto fnExactClusterFaultSpec)

/-- 'laws.FnExactDeliverMail', WHERE WHAT IT READS IS OF BULK AT MOST 1048576: true; the input reads as it did. -/
def fnExactDeliverMailUptoRow : OpenClaim := { program := "ytalbnpcbmakijaagreat", sum := "aa65857a6693450e32b88b9976695c95f592569bd30ca7e440ec94e7ad000cd2", func := "loop.example/g00222/laws.FnExactDeliverMail", spec := "fnExactDeliverMail", inPlace := ["slices.overlaps[loop.example/g00222/impl.Backend]", "slices.overlaps[loop.example/g00222/impl.Vip]", "slices.overlaps[int64]"], unfollowed := true, recurses := true, apart := false, narrowed := true }
def FnExactDeliverMailUptoSaid : Prop := fnExactDeliverMailUptoRow.holds Tryz.pinned (OpenSpec.upto fnExactDeliverMailSpec)

/-- 'laws.FnExactCopyMail', WHERE WHAT IT READS IS OF BULK AT MOST 1048576: true; the input reads as it did. -/
def fnExactCopyMailUptoRow : OpenClaim := { program := "ytalbnpcbmakijaagreat", sum := "aa65857a6693450e32b88b9976695c95f592569bd30ca7e440ec94e7ad000cd2", func := "loop.example/g00222/laws.FnExactCopyMail", spec := "fnExactCopyMail", inPlace := ["slices.overlaps[loop.example/g00222/impl.Backend]", "slices.overlaps[loop.example/g00222/impl.Vip]", "slices.overlaps[int64]"], unfollowed := true, recurses := true, apart := false, narrowed := true }
def FnExactCopyMailUptoSaid : Prop := fnExactCopyMailUptoRow.holds Tryz.pinned (OpenSpec.upto fnExactCopyMailSpec)

/-- 'laws.FnExactDropMail', WHERE WHAT IT READS IS OF BULK AT MOST 1048576: true; the input reads as it did. -/
def fnExactDropMailUptoRow : OpenClaim := { program := "ytalbnpcbmakijaagreat", sum := "aa65857a6693450e32b88b9976695c95f592569bd30ca7e440ec94e7ad000cd2", func := "loop.example/g00222/laws.FnExactDropMail", spec := "fnExactDropMail", inPlace := ["slices.overlaps[loop.example/g00222/impl.Backend]", "slices.overlaps[loop.example/g00222/impl.Vip]", "slices.overlaps[int64]"], unfollowed := true, recurses := true, apart := false, narrowed := true }
def FnExactDropMailUptoSaid : Prop := fnExactDropMailUptoRow.holds Tryz.pinned (OpenSpec.upto fnExactDropMailSpec)

/-- 'laws.FnExactTimeoutAt', WHERE WHAT IT READS IS OF BULK AT MOST 1048576: true; the input reads as it did. -/
def fnExactTimeoutAtUptoRow : OpenClaim := { program := "ytalbnpcbmakijaagreat", sum := "aa65857a6693450e32b88b9976695c95f592569bd30ca7e440ec94e7ad000cd2", func := "loop.example/g00222/laws.FnExactTimeoutAt", spec := "fnExactTimeoutAt", inPlace := ["slices.overlaps[loop.example/g00222/impl.Backend]", "slices.overlaps[loop.example/g00222/impl.Vip]", "slices.overlaps[int64]"], unfollowed := true, recurses := true, apart := false, narrowed := true }
def FnExactTimeoutAtUptoSaid : Prop := fnExactTimeoutAtUptoRow.holds Tryz.pinned (OpenSpec.upto fnExactTimeoutAtSpec)

/-- 'laws.FnExactSpreadAt', WHERE WHAT IT READS IS OF BULK AT MOST 1048576: true; the input reads as it did. -/
def fnExactSpreadAtUptoRow : OpenClaim := { program := "ytalbnpcbmakijaagreat", sum := "aa65857a6693450e32b88b9976695c95f592569bd30ca7e440ec94e7ad000cd2", func := "loop.example/g00222/laws.FnExactSpreadAt", spec := "fnExactSpreadAt", inPlace := ["slices.overlaps[loop.example/g00222/impl.Backend]", "slices.overlaps[loop.example/g00222/impl.Vip]", "slices.overlaps[int64]"], unfollowed := true, recurses := true, apart := false, narrowed := true }
def FnExactSpreadAtUptoSaid : Prop := fnExactSpreadAtUptoRow.holds Tryz.pinned (OpenSpec.upto fnExactSpreadAtSpec)

/-- 'laws.FnExactAskAt', WHERE WHAT IT READS IS OF BULK AT MOST 1048576: true; the input reads as it did. -/
def fnExactAskAtUptoRow : OpenClaim := { program := "ytalbnpcbmakijaagreat", sum := "aa65857a6693450e32b88b9976695c95f592569bd30ca7e440ec94e7ad000cd2", func := "loop.example/g00222/laws.FnExactAskAt", spec := "fnExactAskAt", inPlace := ["slices.overlaps[loop.example/g00222/impl.Backend]", "slices.overlaps[loop.example/g00222/impl.Vip]", "slices.overlaps[int64]"], unfollowed := true, recurses := true, apart := false, narrowed := true }
def FnExactAskAtUptoSaid : Prop := fnExactAskAtUptoRow.holds Tryz.pinned (OpenSpec.upto fnExactAskAtSpec)

/-- 'laws.FnExactCrashAt', WHERE WHAT IT READS IS OF BULK AT MOST 1048576: true; the input reads as it did. -/
def fnExactCrashAtUptoRow : OpenClaim := { program := "ytalbnpcbmakijaagreat", sum := "aa65857a6693450e32b88b9976695c95f592569bd30ca7e440ec94e7ad000cd2", func := "loop.example/g00222/laws.FnExactCrashAt", spec := "fnExactCrashAt", inPlace := ["slices.overlaps[loop.example/g00222/impl.Backend]", "slices.overlaps[loop.example/g00222/impl.Vip]", "slices.overlaps[int64]"], unfollowed := true, recurses := true, apart := false, narrowed := true }
def FnExactCrashAtUptoSaid : Prop := fnExactCrashAtUptoRow.holds Tryz.pinned (OpenSpec.upto fnExactCrashAtSpec)

end Rows
end Go.Proofs.YtalbnpcbmakijaaGreat
