/-
  No cell of these rows narrows 'for every input' (looked for: loops, veiled, ifaces, maps, wideKeys, modest, calm, conditions, laid).
  DERIVED. THE GIVEN ROWS OF THIS SEAT. 8 by the template 'for every input the law returns true; each argument reads behind the call as it read before'; 0 by the template 'total and deterministic' (their statements: YteiaijhjndielaaTotals.lean).
  GIVEN WITH THE SEED: the statements are not yours to turn. If you find one false, say at which input.
  Laid BY PROGRAM, IN A SANDBOX (cutbox-rows.mjs): the forced cells as the released guide's own fill.sh prints them over the translation 3d7298a08a12c273… (all of the seat's roots in one cut). By AI agents, Wed Nov 11 2026. No macro, syntax, notation, axiom, sorry.
-/
import Derived.Test.YteiaijhjndielaaChecked
import GoSem.Claim
import GoSem.ClaimJoined
import GoSem.ClaimMapViews
import Derived.JoinedTies
import Derived.KernelRfl
namespace Go.Proofs.Yteiaijhjndielaa
/- THE CELL 'sum', in the pinned program and in every row, IS THE sha256 OF THE DUMP (.gsa) THAT YteiaijhjndielaaProg.lean LOADS. Nothing in Lean hashes anything: it is a label: what it is worth is what the hold of that sum in a sandbox is worth. -/
noncomputable def Try.pinned : Pinned := { name := "yteiaijhjndielaa", sum := "3d7298a08a12c273c78b8e2c8db79ebf8980605f70a2722e0e9e38f846b5750b", checked := Try.checked }
namespace Rows
def none {H : Type} : Left H := { results := [], args := [] }

/-- 'laws.FnOrders': WHATEVER THE INPUT: true; the input reads as it did. -/
def fnOrdersSpec : ChangeSpec := { name := "fnOrders", fn := fun _ => fun
  | [d] => { results := [.lit (.bool true)], args := [d] }
  | _ => none }
def fnOrdersRow : OpenClaim := { program := "yteiaijhjndielaa", sum := "3d7298a08a12c273c78b8e2c8db79ebf8980605f70a2722e0e9e38f846b5750b", func := "loop.example/g00222/laws.FnOrders", spec := "fnOrders", unfollowed := true, recurses := true, apart := false }
def FnOrdersSaid : Prop := fnOrdersRow.holds Try.pinned (OpenSpec.ofChange fnOrdersSpec)

/-- ITS FALSE NEIGHBOUR: 'it returns false'. Refute it at one input. -/
def fnOrdersWrong : ChangeSpec := { name := "fnOrders", fn := fun _ => fun
  | [d] => { results := [.lit (.bool false)], args := [d] }
  | _ => none }
def FnOrdersWrongFalsely : Prop := fnOrdersRow.holds Try.pinned (OpenSpec.ofChange fnOrdersWrong)

/-- 'laws.FnHashes': WHATEVER THE INPUT: true; the input reads as it did. -/
def fnHashesSpec : ChangeSpec := { name := "fnHashes", fn := fun _ => fun
  | [d] => { results := [.lit (.bool true)], args := [d] }
  | _ => none }
def fnHashesRow : OpenClaim := { program := "yteiaijhjndielaa", sum := "3d7298a08a12c273c78b8e2c8db79ebf8980605f70a2722e0e9e38f846b5750b", func := "loop.example/g00222/laws.FnHashes", spec := "fnHashes", apart := false }
def FnHashesSaid : Prop := fnHashesRow.holds Try.pinned (OpenSpec.ofChange fnHashesSpec)

/-- ITS FALSE NEIGHBOUR: 'it returns false'. Refute it at one input. -/
def fnHashesWrong : ChangeSpec := { name := "fnHashes", fn := fun _ => fun
  | [d] => { results := [.lit (.bool false)], args := [d] }
  | _ => none }
def FnHashesWrongFalsely : Prop := fnHashesRow.holds Try.pinned (OpenSpec.ofChange fnHashesWrong)

/-- 'laws.FnExactFlowOf': WHATEVER THE INPUT: true; the input reads as it did. -/
def fnExactFlowOfSpec : ChangeSpec := { name := "fnExactFlowOf", fn := fun _ => fun
  | [d] => { results := [.lit (.bool true)], args := [d] }
  | _ => none }
def fnExactFlowOfRow : OpenClaim := { program := "yteiaijhjndielaa", sum := "3d7298a08a12c273c78b8e2c8db79ebf8980605f70a2722e0e9e38f846b5750b", func := "loop.example/g00222/laws.FnExactFlowOf", spec := "fnExactFlowOf", apart := false }
def FnExactFlowOfSaid : Prop := fnExactFlowOfRow.holds Try.pinned (OpenSpec.ofChange fnExactFlowOfSpec)

/-- ITS FALSE NEIGHBOUR: 'it returns false'. Refute it at one input. -/
def fnExactFlowOfWrong : ChangeSpec := { name := "fnExactFlowOf", fn := fun _ => fun
  | [d] => { results := [.lit (.bool false)], args := [d] }
  | _ => none }
def FnExactFlowOfWrongFalsely : Prop := fnExactFlowOfRow.holds Try.pinned (OpenSpec.ofChange fnExactFlowOfWrong)

/-- 'laws.FnExactHashFlow': WHATEVER THE INPUT: true; the input reads as it did. -/
def fnExactHashFlowSpec : ChangeSpec := { name := "fnExactHashFlow", fn := fun _ => fun
  | [d] => { results := [.lit (.bool true)], args := [d] }
  | _ => none }
def fnExactHashFlowRow : OpenClaim := { program := "yteiaijhjndielaa", sum := "3d7298a08a12c273c78b8e2c8db79ebf8980605f70a2722e0e9e38f846b5750b", func := "loop.example/g00222/laws.FnExactHashFlow", spec := "fnExactHashFlow", apart := false }
def FnExactHashFlowSaid : Prop := fnExactHashFlowRow.holds Try.pinned (OpenSpec.ofChange fnExactHashFlowSpec)

/-- ITS FALSE NEIGHBOUR: 'it returns false'. Refute it at one input. -/
def fnExactHashFlowWrong : ChangeSpec := { name := "fnExactHashFlow", fn := fun _ => fun
  | [d] => { results := [.lit (.bool false)], args := [d] }
  | _ => none }
def FnExactHashFlowWrongFalsely : Prop := fnExactHashFlowRow.holds Try.pinned (OpenSpec.ofChange fnExactHashFlowWrong)

/-- 'laws.FnExactMixNumber': WHATEVER THE INPUT: true; the input reads as it did. -/
def fnExactMixNumberSpec : ChangeSpec := { name := "fnExactMixNumber", fn := fun _ => fun
  | [d1, d2] => { results := [.lit (.bool true)], args := [d1, d2] }
  | _ => none }
def fnExactMixNumberRow : OpenClaim := { program := "yteiaijhjndielaa", sum := "3d7298a08a12c273c78b8e2c8db79ebf8980605f70a2722e0e9e38f846b5750b", func := "loop.example/g00222/laws.FnExactMixNumber", spec := "fnExactMixNumber", apart := false }
def FnExactMixNumberSaid : Prop := fnExactMixNumberRow.holds Try.pinned (OpenSpec.ofChange fnExactMixNumberSpec)

/-- ITS FALSE NEIGHBOUR: 'it returns false'. Refute it at one input. -/
def fnExactMixNumberWrong : ChangeSpec := { name := "fnExactMixNumber", fn := fun _ => fun
  | [d1, d2] => { results := [.lit (.bool false)], args := [d1, d2] }
  | _ => none }
def FnExactMixNumberWrongFalsely : Prop := fnExactMixNumberRow.holds Try.pinned (OpenSpec.ofChange fnExactMixNumberWrong)

/-- 'laws.FnExactPermutation': WHATEVER THE INPUT: true; the input reads as it did. -/
def fnExactPermutationSpec : ChangeSpec := { name := "fnExactPermutation", fn := fun _ => fun
  | [d] => { results := [.lit (.bool true)], args := [d] }
  | _ => none }
def fnExactPermutationRow : OpenClaim := { program := "yteiaijhjndielaa", sum := "3d7298a08a12c273c78b8e2c8db79ebf8980605f70a2722e0e9e38f846b5750b", func := "loop.example/g00222/laws.FnExactPermutation", spec := "fnExactPermutation", unfollowed := true, recurses := true, apart := false }
def FnExactPermutationSaid : Prop := fnExactPermutationRow.holds Try.pinned (OpenSpec.ofChange fnExactPermutationSpec)

/-- ITS FALSE NEIGHBOUR: 'it returns false'. Refute it at one input. -/
def fnExactPermutationWrong : ChangeSpec := { name := "fnExactPermutation", fn := fun _ => fun
  | [d] => { results := [.lit (.bool false)], args := [d] }
  | _ => none }
def FnExactPermutationWrongFalsely : Prop := fnExactPermutationRow.holds Try.pinned (OpenSpec.ofChange fnExactPermutationWrong)

/-- 'laws.FnExactOffsetOf': WHATEVER THE INPUT: true; the input reads as it did. -/
def fnExactOffsetOfSpec : ChangeSpec := { name := "fnExactOffsetOf", fn := fun _ => fun
  | [d] => { results := [.lit (.bool true)], args := [d] }
  | _ => none }
def fnExactOffsetOfRow : OpenClaim := { program := "yteiaijhjndielaa", sum := "3d7298a08a12c273c78b8e2c8db79ebf8980605f70a2722e0e9e38f846b5750b", func := "loop.example/g00222/laws.FnExactOffsetOf", spec := "fnExactOffsetOf", apart := false }
def FnExactOffsetOfSaid : Prop := fnExactOffsetOfRow.holds Try.pinned (OpenSpec.ofChange fnExactOffsetOfSpec)

/-- ITS FALSE NEIGHBOUR: 'it returns false'. Refute it at one input. -/
def fnExactOffsetOfWrong : ChangeSpec := { name := "fnExactOffsetOf", fn := fun _ => fun
  | [d] => { results := [.lit (.bool false)], args := [d] }
  | _ => none }
def FnExactOffsetOfWrongFalsely : Prop := fnExactOffsetOfRow.holds Try.pinned (OpenSpec.ofChange fnExactOffsetOfWrong)

/-- 'laws.FnExactSkipOf': WHATEVER THE INPUT: true; the input reads as it did. -/
def fnExactSkipOfSpec : ChangeSpec := { name := "fnExactSkipOf", fn := fun _ => fun
  | [d] => { results := [.lit (.bool true)], args := [d] }
  | _ => none }
def fnExactSkipOfRow : OpenClaim := { program := "yteiaijhjndielaa", sum := "3d7298a08a12c273c78b8e2c8db79ebf8980605f70a2722e0e9e38f846b5750b", func := "loop.example/g00222/laws.FnExactSkipOf", spec := "fnExactSkipOf", apart := false }
def FnExactSkipOfSaid : Prop := fnExactSkipOfRow.holds Try.pinned (OpenSpec.ofChange fnExactSkipOfSpec)

/-- ITS FALSE NEIGHBOUR: 'it returns false'. Refute it at one input. -/
def fnExactSkipOfWrong : ChangeSpec := { name := "fnExactSkipOf", fn := fun _ => fun
  | [d] => { results := [.lit (.bool false)], args := [d] }
  | _ => none }
def FnExactSkipOfWrongFalsely : Prop := fnExactSkipOfRow.holds Try.pinned (OpenSpec.ofChange fnExactSkipOfWrong)

/- THE SECOND FORM. 'bulk': how many values and letters a reading holds, each counted each time it is reached (what is shared counts as often as it is met; a slice's spare places count too). A statement '..UptoSaid' is the law's where the arguments, and the package variables that the reading takes, are together of bulk at most 1048576: NARROWER than '..Said'. Prove '..Said' where nothing that the law and all that it calls make is longer than what came in: it says more and counts as full. Else prove '..UptoSaid'. A law counts once. -/
mutual
def uptoBulk {H : Type} : DataW H → Nat
  | .lit (.string bytes) => bytes.length + 1
  | .lit _ => 1
  | .nil => 1
  | .ptr d => uptoBulk d + 1
  | .slice elems spare => uptoBulkAll elems + uptoBulkAll spare + 1
  | .agg parts => uptoBulkAll parts + 1
  | .iface _ d => uptoBulk d + 1
  | .map entries => uptoBulkEntries entries + 1
  | .held _ => 1
def uptoBulkAll {H : Type} : List (DataW H) → Nat
  | [] => 0
  | d :: r => uptoBulk d + uptoBulkAll r
def uptoBulkEntries {H : Type} : List (Lit × DataW H) → Nat
  | [] => 0
  | x :: r => uptoBulkEntry x + uptoBulkEntries r
def uptoBulkEntry {H : Type} : Lit × DataW H → Nat
  | (.string bytes, d) => bytes.length + uptoBulk d + 1
  | (_, d) => uptoBulk d + 1
 end
def uptoSmall : (H : Type) → List (DataW H) → Bool := fun _ ds => decide (uptoBulkAll ds ≤ 1048576)
def OpenSpec.upto (s : _root_.Go.ChangeSpec) : _root_.Go.OpenSpec := { _root_.Go.OpenSpec.ofChange s with cond := some uptoSmall }

/-- 'laws.FnOrders', WHERE WHAT IT READS IS OF BULK AT MOST 1048576: true; the input reads as it did. -/
def fnOrdersUptoRow : OpenClaim := { program := "yteiaijhjndielaa", sum := "3d7298a08a12c273c78b8e2c8db79ebf8980605f70a2722e0e9e38f846b5750b", func := "loop.example/g00222/laws.FnOrders", spec := "fnOrders", unfollowed := true, recurses := true, apart := false, narrowed := true }
def FnOrdersUptoSaid : Prop := fnOrdersUptoRow.holds Try.pinned (OpenSpec.upto fnOrdersSpec)

/-- 'laws.FnHashes', WHERE WHAT IT READS IS OF BULK AT MOST 1048576: true; the input reads as it did. -/
def fnHashesUptoRow : OpenClaim := { program := "yteiaijhjndielaa", sum := "3d7298a08a12c273c78b8e2c8db79ebf8980605f70a2722e0e9e38f846b5750b", func := "loop.example/g00222/laws.FnHashes", spec := "fnHashes", apart := false, narrowed := true }
def FnHashesUptoSaid : Prop := fnHashesUptoRow.holds Try.pinned (OpenSpec.upto fnHashesSpec)

/-- 'laws.FnExactFlowOf', WHERE WHAT IT READS IS OF BULK AT MOST 1048576: true; the input reads as it did. -/
def fnExactFlowOfUptoRow : OpenClaim := { program := "yteiaijhjndielaa", sum := "3d7298a08a12c273c78b8e2c8db79ebf8980605f70a2722e0e9e38f846b5750b", func := "loop.example/g00222/laws.FnExactFlowOf", spec := "fnExactFlowOf", apart := false, narrowed := true }
def FnExactFlowOfUptoSaid : Prop := fnExactFlowOfUptoRow.holds Try.pinned (OpenSpec.upto fnExactFlowOfSpec)

/-- 'laws.FnExactHashFlow', WHERE WHAT IT READS IS OF BULK AT MOST 1048576: true; the input reads as it did. -/
def fnExactHashFlowUptoRow : OpenClaim := { program := "yteiaijhjndielaa", sum := "3d7298a08a12c273c78b8e2c8db79ebf8980605f70a2722e0e9e38f846b5750b", func := "loop.example/g00222/laws.FnExactHashFlow", spec := "fnExactHashFlow", apart := false, narrowed := true }
def FnExactHashFlowUptoSaid : Prop := fnExactHashFlowUptoRow.holds Try.pinned (OpenSpec.upto fnExactHashFlowSpec)

/-- 'laws.FnExactMixNumber', WHERE WHAT IT READS IS OF BULK AT MOST 1048576: true; the input reads as it did. -/
def fnExactMixNumberUptoRow : OpenClaim := { program := "yteiaijhjndielaa", sum := "3d7298a08a12c273c78b8e2c8db79ebf8980605f70a2722e0e9e38f846b5750b", func := "loop.example/g00222/laws.FnExactMixNumber", spec := "fnExactMixNumber", apart := false, narrowed := true }
def FnExactMixNumberUptoSaid : Prop := fnExactMixNumberUptoRow.holds Try.pinned (OpenSpec.upto fnExactMixNumberSpec)

/-- 'laws.FnExactPermutation', WHERE WHAT IT READS IS OF BULK AT MOST 1048576: true; the input reads as it did. -/
def fnExactPermutationUptoRow : OpenClaim := { program := "yteiaijhjndielaa", sum := "3d7298a08a12c273c78b8e2c8db79ebf8980605f70a2722e0e9e38f846b5750b", func := "loop.example/g00222/laws.FnExactPermutation", spec := "fnExactPermutation", unfollowed := true, recurses := true, apart := false, narrowed := true }
def FnExactPermutationUptoSaid : Prop := fnExactPermutationUptoRow.holds Try.pinned (OpenSpec.upto fnExactPermutationSpec)

/-- 'laws.FnExactOffsetOf', WHERE WHAT IT READS IS OF BULK AT MOST 1048576: true; the input reads as it did. -/
def fnExactOffsetOfUptoRow : OpenClaim := { program := "yteiaijhjndielaa", sum := "3d7298a08a12c273c78b8e2c8db79ebf8980605f70a2722e0e9e38f846b5750b", func := "loop.example/g00222/laws.FnExactOffsetOf", spec := "fnExactOffsetOf", apart := false, narrowed := true }
def FnExactOffsetOfUptoSaid : Prop := fnExactOffsetOfUptoRow.holds Try.pinned (OpenSpec.upto fnExactOffsetOfSpec)

/-- 'laws.FnExactSkipOf', WHERE WHAT IT READS IS OF BULK AT MOST 1048576: true; the input reads as it did. -/
def fnExactSkipOfUptoRow : OpenClaim := { program := "yteiaijhjndielaa", sum := "3d7298a08a12c273c78b8e2c8db79ebf8980605f70a2722e0e9e38f846b5750b", func := "loop.example/g00222/laws.FnExactSkipOf", spec := "fnExactSkipOf", apart := false, narrowed := true }
def FnExactSkipOfUptoSaid : Prop := fnExactSkipOfUptoRow.holds Try.pinned (OpenSpec.upto fnExactSkipOfSpec)

end Rows
end Go.Proofs.Yteiaijhjndielaa
