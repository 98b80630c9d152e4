/- A part of the proof of FnOrders: L3Con. -/
import Derived.Test.YteiaijhjndielaaL3Base
set_option linter.unusedVariables false
namespace Go.Proofs.Try
open Go Go.VM Go.RowKit
/-! loop.example/g00222/laws.FnOrders -/
def a3 : Args cxT.ty (List Int) := (Args.one (Arg.leaf (LArg.row 5)))
def n3 : Bool → V cxT.ty := fun t => (.inl (.inl (lv (.bool t))))
def dd3 : Bool := false
abbrev c3 (m : (List Int) → Option Bool) := fnT (cx := cxT) a3 n3 dd3 m
theorem hs3 : ∀ t, noRoV (n3 t) = true ∨ noOwnV (n3 t) = true := fun _ => .inl rfl
/-! loop.example/g00222/laws.FnHashes -/
def a4 : Args cxT.ty (List Int) := (Args.one (Arg.leaf (LArg.row 5)))
def n4 : Bool → V cxT.ty := fun t => (.inl (.inl (lv (.bool t))))
def dd4 : Bool := false
abbrev c4 (m : (List Int) → Option Bool) := fnT (cx := cxT) a4 n4 dd4 m
theorem hs4 : ∀ t, noRoV (n4 t) = true ∨ noOwnV (n4 t) = true := fun _ => .inl rfl
/-! loop.example/g00222/laws.FnExactFlowOf -/
def a5 : Args cxT.ty (Int × Int × Int × Int × Int × (List Int)) := (Args.one (Arg.agg (SArg.cons (LArg.int .i64) (SArg.cons (LArg.int .i64) (SArg.cons (LArg.int .i64) (SArg.cons (LArg.int .i64) (SArg.cons (LArg.int .i64) (SArg.one (LArg.row 5)))))))))
def n5 : Bool → V cxT.ty := fun t => (.inl (.inl (lv (.bool t))))
def dd5 : Bool := false
abbrev c5 (m : (Int × Int × Int × Int × Int × (List Int)) → Option Bool) := fnT (cx := cxT) a5 n5 dd5 m
theorem hs5 : ∀ t, noRoV (n5 t) = true ∨ noOwnV (n5 t) = true := fun _ => .inl rfl
/-! loop.example/g00222/laws.FnExactHashFlow -/
def a6 : Args cxT.ty (Int × Int × Int × Int × Int) := (Args.one (Arg.agg (SArg.cons (LArg.int .i64) (SArg.cons (LArg.int .i64) (SArg.cons (LArg.int .i64) (SArg.cons (LArg.int .i64) (SArg.one (LArg.int .i64))))))))
def n6 : Bool → V cxT.ty := fun t => (.inl (.inl (lv (.bool t))))
def dd6 : Bool := false
abbrev c6 (m : (Int × Int × Int × Int × Int) → Option Bool) := fnT (cx := cxT) a6 n6 dd6 m
theorem hs6 : ∀ t, noRoV (n6 t) = true ∨ noOwnV (n6 t) = true := fun _ => .inl rfl
/-! loop.example/g00222/laws.FnExactMixNumber -/
def a7 : Args cxT.ty (Int × Int) := (Args.cons (Arg.leaf (LArg.int .i64)) (Args.one (Arg.leaf (LArg.int .i64))))
def n7 : Bool → V cxT.ty := fun t => (.inl (.inl (lv (.bool t))))
def dd7 : Bool := false
abbrev c7 (m : (Int × Int) → Option Bool) := fnT (cx := cxT) a7 n7 dd7 m
theorem hs7 : ∀ t, noRoV (n7 t) = true ∨ noOwnV (n7 t) = true := fun _ => .inl rfl
/-! loop.example/g00222/laws.FnExactPermutation -/
def a8 : Args cxT.ty Int := (Args.one (Arg.leaf (LArg.int .i64)))
def n8 : Bool → V cxT.ty := fun t => (.inl (.inl (lv (.bool t))))
def dd8 : Bool := false
abbrev c8 (m : Int → Option Bool) := fnT (cx := cxT) a8 n8 dd8 m
theorem hs8 : ∀ t, noRoV (n8 t) = true ∨ noOwnV (n8 t) = true := fun _ => .inl rfl
/-! loop.example/g00222/laws.FnExactOffsetOf -/
def a9 : Args cxT.ty Int := (Args.one (Arg.leaf (LArg.int .i64)))
def n9 : Bool → V cxT.ty := fun t => (.inl (.inl (lv (.bool t))))
def dd9 : Bool := false
abbrev c9 (m : Int → Option Bool) := fnT (cx := cxT) a9 n9 dd9 m
theorem hs9 : ∀ t, noRoV (n9 t) = true ∨ noOwnV (n9 t) = true := fun _ => .inl rfl
/-! loop.example/g00222/laws.FnExactSkipOf -/
def a10 : Args cxT.ty Int := (Args.one (Arg.leaf (LArg.int .i64)))
def n10 : Bool → V cxT.ty := fun t => (.inl (.inl (lv (.bool t))))
def dd10 : Bool := false
abbrev c10 (m : Int → Option Bool) := fnT (cx := cxT) a10 n10 dd10 m
theorem hs10 : ∀ t, noRoV (n10 t) = true ∨ noOwnV (n10 t) = true := fun _ => .inl rfl
/-! loop.example/g00222/laws.lwBig -/
def a11 : Args cxT.ty (List Int) := (Args.one (Arg.leaf (LArg.row 5)))
def n11 : Bool → V cxT.ty := fun t => (.inl (.inl (lv (.bool t))))
def dd11 : Bool := false
abbrev c11 (m : (List Int) → Option Bool) := fnT (cx := cxT) a11 n11 dd11 m
theorem hs11 : ∀ t, noRoV (n11 t) = true ∨ noOwnV (n11 t) = true := fun _ => .inl rfl
/-! loop.example/g00222/spec.DrawPermutation -/
def a12 : Args cxT.ty (List Int) := (Args.one (Arg.leaf (LArg.row 5)))
def n12 : Int → V cxT.ty := fun t => (.inl (.inl (lv (.int .i64 t))))
def dd12 : Int := (0 : Int)
abbrev c12 (m : (List Int) → Option Int) := fnT (cx := cxT) a12 n12 dd12 m
theorem hs12 : ∀ t, noRoV (n12 t) = true ∨ noOwnV (n12 t) = true := fun _ => .inl rfl
/-! loop.example/g00222/impl.Permutation -/
def a13 : Args cxT.ty Int := (Args.one (Arg.leaf (LArg.int .i64)))
def n13 : (Int × (List Int)) → V cxT.ty := fun t => (.inl (.inr [(lv (.int .i64 t.1)), (ls { own := 2, nm := 0, e := 2, o := true, xs := t.2 })]))
def dd13 : (Int × (List Int)) := ((0 : Int), [])
abbrev c13 (m : Int → Option (Int × (List Int))) := fnT (cx := cxT) a13 n13 dd13 m
theorem hs13 : ∀ t, noRoV (n13 t) = true ∨ noOwnV (n13 t) = true := fun _ => .inl rfl
/-! loop.example/g00222/spec.Permutation -/
def a14 : Args cxT.ty Int := (Args.one (Arg.leaf (LArg.int .i64)))
def n14 : (Int × (List Int)) → V cxT.ty := fun t => (.inl (.inr [(lv (.int .i64 t.1)), (ls { own := 2, nm := 0, e := 2, o := true, xs := t.2 })]))
def dd14 : (Int × (List Int)) := ((0 : Int), [])
abbrev c14 (m : Int → Option (Int × (List Int))) := fnT (cx := cxT) a14 n14 dd14 m
theorem hs14 : ∀ t, noRoV (n14 t) = true ∨ noOwnV (n14 t) = true := fun _ => .inl rfl
/-! loop.example/g00222/laws.lwHas -/
def a15 : Args cxT.ty ((List Int) × Int) := (Args.cons (Arg.leaf (LArg.row 2)) (Args.one (Arg.leaf (LArg.int .i64))))
def n15 : Bool → V cxT.ty := fun t => (.inl (.inl (lv (.bool t))))
def dd15 : Bool := false
abbrev c15 (m : ((List Int) × Int) → Option Bool) := fnT (cx := cxT) a15 n15 dd15 m
theorem hs15 : ∀ t, noRoV (n15 t) = true ∨ noOwnV (n15 t) = true := fun _ => .inl rfl
/-! loop.example/g00222/impl.OffsetOf -/
def a16 : Args cxT.ty Int := (Args.one (Arg.leaf (LArg.int .i64)))
def n16 : (Int × Int) → V cxT.ty := fun t => (.inl (.inr [(lv (.int .i64 t.1)), (lv (.int .i64 t.2))]))
def dd16 : (Int × Int) := ((0 : Int), (0 : Int))
abbrev c16 (m : Int → Option (Int × Int)) := fnT (cx := cxT) a16 n16 dd16 m
theorem hs16 : ∀ t, noRoV (n16 t) = true ∨ noOwnV (n16 t) = true := fun _ => .inl rfl
/-! loop.example/g00222/impl.SkipOf -/
def a17 : Args cxT.ty Int := (Args.one (Arg.leaf (LArg.int .i64)))
def n17 : (Int × Int) → V cxT.ty := fun t => (.inl (.inr [(lv (.int .i64 t.1)), (lv (.int .i64 t.2))]))
def dd17 : (Int × Int) := ((0 : Int), (0 : Int))
abbrev c17 (m : Int → Option (Int × Int)) := fnT (cx := cxT) a17 n17 dd17 m
theorem hs17 : ∀ t, noRoV (n17 t) = true ∨ noOwnV (n17 t) = true := fun _ => .inl rfl
/-! loop.example/g00222/spec.DrawFlowOf -/
def a18 : Args cxT.ty (List Int) := (Args.one (Arg.leaf (LArg.row 5)))
def n18 : (Int × Int × Int × Int × Int × (List Int)) → V cxT.ty := fun t => (.inl (.inr [(lv (.int .i64 t.1)), (lv (.int .i64 t.2.1)), (lv (.int .i64 t.2.2.1)), (lv (.int .i64 t.2.2.2.1)), (lv (.int .i64 t.2.2.2.2.1)), (ls { own := 2, nm := 0, e := 5, o := true, xs := t.2.2.2.2.2 })]))
def dd18 : (Int × Int × Int × Int × Int × (List Int)) := ((0 : Int), (0 : Int), (0 : Int), (0 : Int), (0 : Int), [])
abbrev c18 (m : (List Int) → Option (Int × Int × Int × Int × Int × (List Int))) := fnT (cx := cxT) a18 n18 dd18 m
theorem hs18 : ∀ t, noRoV (n18 t) = true ∨ noOwnV (n18 t) = true := fun _ => .inl rfl
/-! loop.example/g00222/impl.FlowOf -/
def a19 : Args cxT.ty (Int × Int × Int × Int × Int × (List Int)) := (Args.one (Arg.agg (SArg.cons (LArg.int .i64) (SArg.cons (LArg.int .i64) (SArg.cons (LArg.int .i64) (SArg.cons (LArg.int .i64) (SArg.cons (LArg.int .i64) (SArg.one (LArg.row 5)))))))))
def n19 : (Int × Int × Int × Int × Int × Int) → V cxT.ty := fun t => (.inl (.inr [(lv (.int .i64 t.1)), (lv (.int .i64 t.2.1)), (lv (.int .i64 t.2.2.1)), (lv (.int .i64 t.2.2.2.1)), (lv (.int .i64 t.2.2.2.2.1)), (lv (.int .i64 t.2.2.2.2.2))]))
def dd19 : (Int × Int × Int × Int × Int × Int) := ((0 : Int), (0 : Int), (0 : Int), (0 : Int), (0 : Int), (0 : Int))
abbrev c19 (m : (Int × Int × Int × Int × Int × (List Int)) → Option (Int × Int × Int × Int × Int × Int)) := fnT (cx := cxT) a19 n19 dd19 m
theorem hs19 : ∀ t, noRoV (n19 t) = true ∨ noOwnV (n19 t) = true := fun _ => .inl rfl
/-! loop.example/g00222/spec.FlowOf -/
def a20 : Args cxT.ty (Int × Int × Int × Int × Int × (List Int)) := (Args.one (Arg.agg (SArg.cons (LArg.int .i64) (SArg.cons (LArg.int .i64) (SArg.cons (LArg.int .i64) (SArg.cons (LArg.int .i64) (SArg.cons (LArg.int .i64) (SArg.one (LArg.row 5)))))))))
def n20 : (Int × Int × Int × Int × Int × Int) → V cxT.ty := fun t => (.inl (.inr [(lv (.int .i64 t.1)), (lv (.int .i64 t.2.1)), (lv (.int .i64 t.2.2.1)), (lv (.int .i64 t.2.2.2.1)), (lv (.int .i64 t.2.2.2.2.1)), (lv (.int .i64 t.2.2.2.2.2))]))
def dd20 : (Int × Int × Int × Int × Int × Int) := ((0 : Int), (0 : Int), (0 : Int), (0 : Int), (0 : Int), (0 : Int))
abbrev c20 (m : (Int × Int × Int × Int × Int × (List Int)) → Option (Int × Int × Int × Int × Int × Int)) := fnT (cx := cxT) a20 n20 dd20 m
theorem hs20 : ∀ t, noRoV (n20 t) = true ∨ noOwnV (n20 t) = true := fun _ => .inl rfl
/-! loop.example/g00222/impl.HashFlow -/
def a21 : Args cxT.ty (Int × Int × Int × Int × Int) := (Args.one (Arg.agg (SArg.cons (LArg.int .i64) (SArg.cons (LArg.int .i64) (SArg.cons (LArg.int .i64) (SArg.cons (LArg.int .i64) (SArg.one (LArg.int .i64))))))))
def n21 : (Int × Int) → V cxT.ty := fun t => (.inl (.inr [(lv (.int .i64 t.1)), (lv (.int .i64 t.2))]))
def dd21 : (Int × Int) := ((0 : Int), (0 : Int))
abbrev c21 (m : (Int × Int × Int × Int × Int) → Option (Int × Int)) := fnT (cx := cxT) a21 n21 dd21 m
theorem hs21 : ∀ t, noRoV (n21 t) = true ∨ noOwnV (n21 t) = true := fun _ => .inl rfl
/-! loop.example/g00222/laws.szPacket -/
def a22 : Args cxT.ty ((Int × Int × Int × Int × Int × (List Int)) × Int) := (Args.cons (Arg.agg (SArg.cons (LArg.int .i64) (SArg.cons (LArg.int .i64) (SArg.cons (LArg.int .i64) (SArg.cons (LArg.int .i64) (SArg.cons (LArg.int .i64) (SArg.one (LArg.row 5)))))))) (Args.one (Arg.leaf (LArg.int .i64))))
def n22 : Int → V cxT.ty := fun t => (.inl (.inl (lv (.int .i64 t))))
def dd22 : Int := (0 : Int)
abbrev c22 (m : ((Int × Int × Int × Int × Int × (List Int)) × Int) → Option Int) := fnT (cx := cxT) a22 n22 dd22 m
theorem hs22 : ∀ t, noRoV (n22 t) = true ∨ noOwnV (n22 t) = true := fun _ => .inl rfl
/-! loop.example/g00222/laws.toPacket -/
def a23 : Args cxT.ty (Int × Int × Int × Int × Int × (List Int)) := (Args.one (Arg.agg (SArg.cons (LArg.int .i64) (SArg.cons (LArg.int .i64) (SArg.cons (LArg.int .i64) (SArg.cons (LArg.int .i64) (SArg.cons (LArg.int .i64) (SArg.one (LArg.row 5)))))))))
def n23 : (Int × Int × Int × Int × Int × (List Int)) → V cxT.ty := fun t => (.inl (.inr [(lv (.int .i64 t.1)), (lv (.int .i64 t.2.1)), (lv (.int .i64 t.2.2.1)), (lv (.int .i64 t.2.2.2.1)), (lv (.int .i64 t.2.2.2.2.1)), (ls { own := 2, nm := 0, e := 5, o := true, xs := t.2.2.2.2.2 })]))
def dd23 : (Int × Int × Int × Int × Int × (List Int)) := ((0 : Int), (0 : Int), (0 : Int), (0 : Int), (0 : Int), [])
abbrev c23 (m : (Int × Int × Int × Int × Int × (List Int)) → Option (Int × Int × Int × Int × Int × (List Int))) := fnT (cx := cxT) a23 n23 dd23 m
theorem hs23 : ∀ t, noRoV (n23 t) = true ∨ noOwnV (n23 t) = true := fun _ => .inl rfl
/-! loop.example/g00222/laws.eqFlowResult -/
def a24 : Args cxT.ty ((Int × Int × Int × Int × Int × Int) × (Int × Int × Int × Int × Int × Int)) := (Args.cons (Arg.agg (SArg.cons (LArg.int .i64) (SArg.cons (LArg.int .i64) (SArg.cons (LArg.int .i64) (SArg.cons (LArg.int .i64) (SArg.cons (LArg.int .i64) (SArg.one (LArg.int .i64)))))))) (Args.one (Arg.agg (SArg.cons (LArg.int .i64) (SArg.cons (LArg.int .i64) (SArg.cons (LArg.int .i64) (SArg.cons (LArg.int .i64) (SArg.cons (LArg.int .i64) (SArg.one (LArg.int .i64))))))))))
def n24 : Bool → V cxT.ty := fun t => (.inl (.inl (lv (.bool t))))
def dd24 : Bool := false
abbrev c24 (m : ((Int × Int × Int × Int × Int × Int) × (Int × Int × Int × Int × Int × Int)) → Option Bool) := fnT (cx := cxT) a24 n24 dd24 m
theorem hs24 : ∀ t, noRoV (n24 t) = true ∨ noOwnV (n24 t) = true := fun _ => .inl rfl
/-! loop.example/g00222/laws.eqPacket -/
def a25 : Args cxT.ty ((Int × Int × Int × Int × Int × (List Int)) × (Int × Int × Int × Int × Int × (List Int))) := (Args.cons (Arg.agg (SArg.cons (LArg.int .i64) (SArg.cons (LArg.int .i64) (SArg.cons (LArg.int .i64) (SArg.cons (LArg.int .i64) (SArg.cons (LArg.int .i64) (SArg.one (LArg.row 5)))))))) (Args.one (Arg.agg (SArg.cons (LArg.int .i64) (SArg.cons (LArg.int .i64) (SArg.cons (LArg.int .i64) (SArg.cons (LArg.int .i64) (SArg.cons (LArg.int .i64) (SArg.one (LArg.row 5))))))))))
def n25 : Bool → V cxT.ty := fun t => (.inl (.inl (lv (.bool t))))
def dd25 : Bool := false
abbrev c25 (m : ((Int × Int × Int × Int × Int × (List Int)) × (Int × Int × Int × Int × Int × (List Int))) → Option Bool) := fnT (cx := cxT) a25 n25 dd25 m
theorem hs25 : ∀ t, noRoV (n25 t) = true ∨ noOwnV (n25 t) = true := fun _ => .inl rfl
/-! loop.example/g00222/spec.HashFlow -/
def a26 : Args cxT.ty (Int × Int × Int × Int × Int) := (Args.one (Arg.agg (SArg.cons (LArg.int .i64) (SArg.cons (LArg.int .i64) (SArg.cons (LArg.int .i64) (SArg.cons (LArg.int .i64) (SArg.one (LArg.int .i64))))))))
def n26 : (Int × Int) → V cxT.ty := fun t => (.inl (.inr [(lv (.int .i64 t.1)), (lv (.int .i64 t.2))]))
def dd26 : (Int × Int) := ((0 : Int), (0 : Int))
abbrev c26 (m : (Int × Int × Int × Int × Int) → Option (Int × Int)) := fnT (cx := cxT) a26 n26 dd26 m
theorem hs26 : ∀ t, noRoV (n26 t) = true ∨ noOwnV (n26 t) = true := fun _ => .inl rfl
/-! loop.example/g00222/laws.toFlow -/
def a27 : Args cxT.ty (Int × Int × Int × Int × Int) := (Args.one (Arg.agg (SArg.cons (LArg.int .i64) (SArg.cons (LArg.int .i64) (SArg.cons (LArg.int .i64) (SArg.cons (LArg.int .i64) (SArg.one (LArg.int .i64))))))))
def n27 : (Int × Int × Int × Int × Int) → V cxT.ty := fun t => (.inl (.inr [(lv (.int .i64 t.1)), (lv (.int .i64 t.2.1)), (lv (.int .i64 t.2.2.1)), (lv (.int .i64 t.2.2.2.1)), (lv (.int .i64 t.2.2.2.2))]))
def dd27 : (Int × Int × Int × Int × Int) := ((0 : Int), (0 : Int), (0 : Int), (0 : Int), (0 : Int))
abbrev c27 (m : (Int × Int × Int × Int × Int) → Option (Int × Int × Int × Int × Int)) := fnT (cx := cxT) a27 n27 dd27 m
theorem hs27 : ∀ t, noRoV (n27 t) = true ∨ noOwnV (n27 t) = true := fun _ => .inl rfl
/-! loop.example/g00222/laws.eqIntResult -/
def a28 : Args cxT.ty ((Int × Int) × (Int × Int)) := (Args.cons (Arg.agg (SArg.cons (LArg.int .i64) (SArg.one (LArg.int .i64)))) (Args.one (Arg.agg (SArg.cons (LArg.int .i64) (SArg.one (LArg.int .i64))))))
def n28 : Bool → V cxT.ty := fun t => (.inl (.inl (lv (.bool t))))
def dd28 : Bool := false
abbrev c28 (m : ((Int × Int) × (Int × Int)) → Option Bool) := fnT (cx := cxT) a28 n28 dd28 m
theorem hs28 : ∀ t, noRoV (n28 t) = true ∨ noOwnV (n28 t) = true := fun _ => .inl rfl
/-! loop.example/g00222/spec.MixNumber -/
def a29 : Args cxT.ty (Int × Int) := (Args.cons (Arg.leaf (LArg.int .i64)) (Args.one (Arg.leaf (LArg.int .i64))))
def n29 : Int → V cxT.ty := fun t => (.inl (.inl (lv (.int .i64 t))))
def dd29 : Int := (0 : Int)
abbrev c29 (m : (Int × Int) → Option Int) := fnT (cx := cxT) a29 n29 dd29 m
theorem hs29 : ∀ t, noRoV (n29 t) = true ∨ noOwnV (n29 t) = true := fun _ => .inl rfl
/-! loop.example/g00222/impl.MixNumber -/
def a30 : Args cxT.ty (Int × Int) := (Args.cons (Arg.leaf (LArg.int .i64)) (Args.one (Arg.leaf (LArg.int .i64))))
def n30 : Int → V cxT.ty := fun t => (.inl (.inl (lv (.int .i64 t))))
def dd30 : Int := (0 : Int)
abbrev c30 (m : (Int × Int) → Option Int) := fnT (cx := cxT) a30 n30 dd30 m
theorem hs30 : ∀ t, noRoV (n30 t) = true ∨ noOwnV (n30 t) = true := fun _ => .inl rfl
/-! loop.example/g00222/laws.eqIntsResult -/
def a31 : Args cxT.ty ((Int × (List Int)) × (Int × (List Int))) := (Args.cons (Arg.agg (SArg.cons (LArg.int .i64) (SArg.one (LArg.row 2)))) (Args.one (Arg.agg (SArg.cons (LArg.int .i64) (SArg.one (LArg.row 2))))))
def n31 : Bool → V cxT.ty := fun t => (.inl (.inl (lv (.bool t))))
def dd31 : Bool := false
abbrev c31 (m : ((Int × (List Int)) × (Int × (List Int))) → Option Bool) := fnT (cx := cxT) a31 n31 dd31 m
theorem hs31 : ∀ t, noRoV (n31 t) = true ∨ noOwnV (n31 t) = true := fun _ => .inl rfl
/-! loop.example/g00222/laws.markIntsResult -/
def a32 : Args cxT.ty ((Int × (List Int)) × Int) := (Args.cons (Arg.agg (SArg.cons (LArg.int .i64) (SArg.one (LArg.own 2)))) (Args.one (Arg.leaf (LArg.int .i64))))
def n32 : (Int × Int × (List Int)) → List (A cxT.ty) := fun t => [(.inl (lv (.int .i64 t.1))), (.inr [(lv (.int .i64 t.2.1)), (ls { own := 2, nm := 0, e := 2, o := true, xs := t.2.2 })])]
def dd32 : (Int × Int × (List Int)) := ((0 : Int), (0 : Int), [])
abbrev c32 (m : ((Int × (List Int)) × Int) → Option (Int × Int × (List Int))) : WFn cxT := { nres := 1, n := 1, F := fnW (cx := cxT) a32 n32 dd32 m }
theorem hs32 : ∀ t, noRoV (.inr (.inl (n32 t)) : V cxT.ty) = true := fun _ => rfl
/-! loop.example/g00222/laws.heldIntsResult -/
def a33 : Args cxT.ty ((Int × (List Int)) × Int) := (Args.cons (Arg.agg (SArg.cons (LArg.int .i64) (SArg.one (LArg.row 2)))) (Args.one (Arg.leaf (LArg.int .i64))))
def n33 : Int → V cxT.ty := fun t => (.inl (.inl (lv (.int .i64 t))))
def dd33 : Int := (0 : Int)
abbrev c33 (m : ((Int × (List Int)) × Int) → Option Int) := fnT (cx := cxT) a33 n33 dd33 m
theorem hs33 : ∀ t, noRoV (n33 t) = true ∨ noOwnV (n33 t) = true := fun _ => .inl rfl
/-! loop.example/g00222/spec.OffsetOf -/
def a34 : Args cxT.ty Int := (Args.one (Arg.leaf (LArg.int .i64)))
def n34 : (Int × Int) → V cxT.ty := fun t => (.inl (.inr [(lv (.int .i64 t.1)), (lv (.int .i64 t.2))]))
def dd34 : (Int × Int) := ((0 : Int), (0 : Int))
abbrev c34 (m : Int → Option (Int × Int)) := fnT (cx := cxT) a34 n34 dd34 m
theorem hs34 : ∀ t, noRoV (n34 t) = true ∨ noOwnV (n34 t) = true := fun _ => .inl rfl
/-! loop.example/g00222/spec.SkipOf -/
def a35 : Args cxT.ty Int := (Args.one (Arg.leaf (LArg.int .i64)))
def n35 : (Int × Int) → V cxT.ty := fun t => (.inl (.inr [(lv (.int .i64 t.1)), (lv (.int .i64 t.2))]))
def dd35 : (Int × Int) := ((0 : Int), (0 : Int))
abbrev c35 (m : Int → Option (Int × Int)) := fnT (cx := cxT) a35 n35 dd35 m
theorem hs35 : ∀ t, noRoV (n35 t) = true ∨ noOwnV (n35 t) = true := fun _ => .inl rfl
/-! loop.example/g00222/spec.l3DrawName -/
def a36 : Args cxT.ty (List Int) := (Args.one (Arg.leaf (LArg.row 5)))
def n36 : Int → V cxT.ty := fun t => (.inl (.inl (lv (.int .i64 t))))
def dd36 : Int := (0 : Int)
abbrev c36 (m : (List Int) → Option Int) := fnT (cx := cxT) a36 n36 dd36 m
theorem hs36 : ∀ t, noRoV (n36 t) = true ∨ noOwnV (n36 t) = true := fun _ => .inl rfl
/-! loop.example/g00222/impl.isName -/
def a37 : Args cxT.ty Int := (Args.one (Arg.leaf (LArg.int .i64)))
def n37 : Bool → V cxT.ty := fun t => (.inl (.inl (lv (.bool t))))
def dd37 : Bool := false
abbrev c37 (m : Int → Option Bool) := fnT (cx := cxT) a37 n37 dd37 m
theorem hs37 : ∀ t, noRoV (n37 t) = true ∨ noOwnV (n37 t) = true := fun _ => .inl rfl
/-! loop.example/g00222/spec.l3Name -/
def a39 : Args cxT.ty Int := (Args.one (Arg.leaf (LArg.int .i64)))
def n39 : Bool → V cxT.ty := fun t => (.inl (.inl (lv (.bool t))))
def dd39 : Bool := false
abbrev c39 (m : Int → Option Bool) := fnT (cx := cxT) a39 n39 dd39 m
theorem hs39 : ∀ t, noRoV (n39 t) = true ∨ noOwnV (n39 t) = true := fun _ => .inl rfl
/-! loop.example/g00222/spec.l3Place -/
def a40 : Args cxT.ty (Int × Int) := (Args.cons (Arg.leaf (LArg.int .i64)) (Args.one (Arg.leaf (LArg.int .i64))))
def n40 : Int → V cxT.ty := fun t => (.inl (.inl (lv (.int .i64 t))))
def dd40 : Int := (0 : Int)
abbrev c40 (m : (Int × Int) → Option Int) := fnT (cx := cxT) a40 n40 dd40 m
theorem hs40 : ∀ t, noRoV (n40 t) = true ∨ noOwnV (n40 t) = true := fun _ => .inl rfl
/-! loop.example/g00222/spec.l2Bent -/
def a41 : Args cxT.ty ((List Int) × Int) := (Args.one (Arg.agg (SArg.cons (LArg.row 5) (SArg.one (LArg.int .i64)))))
def n41 : (Int × Int × Int × Int × Int × (List Int) × (List Int) × Int) → List (A cxT.ty) := fun t => [(.inr [(lv (.int .i64 t.1)), (lv (.int .i64 t.2.1)), (lv (.int .i64 t.2.2.1)), (lv (.int .i64 t.2.2.2.1)), (lv (.int .i64 t.2.2.2.2.1)), (ls { own := 2, nm := 0, e := 5, o := true, xs := t.2.2.2.2.2.1 })]), (.inr [(ls (ro 5 t.2.2.2.2.2.2.1)), (lv (.int .i64 t.2.2.2.2.2.2.2))])]
def dd41 : (Int × Int × Int × Int × Int × (List Int) × (List Int) × Int) := ((0 : Int), (0 : Int), (0 : Int), (0 : Int), (0 : Int), [], [], (0 : Int))
abbrev c41 (m : ((List Int) × Int) → Option (Int × Int × Int × Int × Int × (List Int) × (List Int) × Int)) : WFn cxT := { nres := 1, n := 0, F := fnW (cx := cxT) a41 n41 dd41 m, p := 1 }
/-! loop.example/g00222/spec.l1Source -/
def a42 : Args cxT.ty (List Int) := (Args.one (Arg.leaf (LArg.row 5)))
def n42 : ((List Int) × Int) → List (A cxT.ty) := fun t => [(.inr [(ls (ro 5 t.1)), (lv (.int .i64 t.2))])]
def dd42 : ((List Int) × Int) := ([], (0 : Int))
abbrev c42 (m : (List Int) → Option ((List Int) × Int)) : WFn cxT := { nres := 1, n := 0, F := fnW (cx := cxT) a42 n42 dd42 m, p := 2 }
/-! loop.example/g00222/impl.PacketFault -/
def a43 : Args cxT.ty (Int × Int × Int × Int × Int × (List Int)) := (Args.one (Arg.agg (SArg.cons (LArg.int .i64) (SArg.cons (LArg.int .i64) (SArg.cons (LArg.int .i64) (SArg.cons (LArg.int .i64) (SArg.cons (LArg.int .i64) (SArg.one (LArg.row 5)))))))))
def n43 : Int → V cxT.ty := fun t => (.inl (.inl (lv (.int .i64 t))))
def dd43 : Int := (0 : Int)
abbrev c43 (m : (Int × Int × Int × Int × Int × (List Int)) → Option Int) := fnT (cx := cxT) a43 n43 dd43 m
theorem hs43 : ∀ t, noRoV (n43 t) = true ∨ noOwnV (n43 t) = true := fun _ => .inl rfl
/-! loop.example/g00222/spec.PacketFault -/
def a44 : Args cxT.ty (Int × Int × Int × Int × Int × (List Int)) := (Args.one (Arg.agg (SArg.cons (LArg.int .i64) (SArg.cons (LArg.int .i64) (SArg.cons (LArg.int .i64) (SArg.cons (LArg.int .i64) (SArg.cons (LArg.int .i64) (SArg.one (LArg.row 5)))))))))
def n44 : Int → V cxT.ty := fun t => (.inl (.inl (lv (.int .i64 t))))
def dd44 : Int := (0 : Int)
abbrev c44 (m : (Int × Int × Int × Int × Int × (List Int)) → Option Int) := fnT (cx := cxT) a44 n44 dd44 m
theorem hs44 : ∀ t, noRoV (n44 t) = true ∨ noOwnV (n44 t) = true := fun _ => .inl rfl
/-! loop.example/g00222/spec.l3Of -/
def a45 : Args cxT.ty (Int × Int × Int × Int × Int × (List Int)) := (Args.one (Arg.agg (SArg.cons (LArg.int .i64) (SArg.cons (LArg.int .i64) (SArg.cons (LArg.int .i64) (SArg.cons (LArg.int .i64) (SArg.cons (LArg.int .i64) (SArg.one (LArg.row 5)))))))))
def n45 : (Int × Int × Int × Int × Int) → V cxT.ty := fun t => (.inl (.inr [(lv (.int .i64 t.1)), (lv (.int .i64 t.2.1)), (lv (.int .i64 t.2.2.1)), (lv (.int .i64 t.2.2.2.1)), (lv (.int .i64 t.2.2.2.2))]))
def dd45 : (Int × Int × Int × Int × Int) := ((0 : Int), (0 : Int), (0 : Int), (0 : Int), (0 : Int))
abbrev c45 (m : (Int × Int × Int × Int × Int × (List Int)) → Option (Int × Int × Int × Int × Int)) := fnT (cx := cxT) a45 n45 dd45 m
theorem hs45 : ∀ t, noRoV (n45 t) = true ∨ noOwnV (n45 t) = true := fun _ => .inl rfl
/-! loop.example/g00222/impl.flowFault -/
def a46 : Args cxT.ty (Int × Int × Int × Int × Int) := (Args.one (Arg.agg (SArg.cons (LArg.int .i64) (SArg.cons (LArg.int .i64) (SArg.cons (LArg.int .i64) (SArg.cons (LArg.int .i64) (SArg.one (LArg.int .i64))))))))
def n46 : Int → V cxT.ty := fun t => (.inl (.inl (lv (.int .i64 t))))
def dd46 : Int := (0 : Int)
abbrev c46 (m : (Int × Int × Int × Int × Int) → Option Int) := fnT (cx := cxT) a46 n46 dd46 m
theorem hs46 : ∀ t, noRoV (n46 t) = true ∨ noOwnV (n46 t) = true := fun _ => .inl rfl
/-! loop.example/g00222/laws.szByteS -/
def a47 : Args cxT.ty ((List Int) × Int) := (Args.cons (Arg.leaf (LArg.row 5)) (Args.one (Arg.leaf (LArg.int .i64))))
def n47 : Int → V cxT.ty := fun t => (.inl (.inl (lv (.int .i64 t))))
def dd47 : Int := (0 : Int)
abbrev c47 (m : ((List Int) × Int) → Option Int) := fnT (cx := cxT) a47 n47 dd47 m
theorem hs47 : ∀ t, noRoV (n47 t) = true ∨ noOwnV (n47 t) = true := fun _ => .inl rfl
/-! loop.example/g00222/laws.toByteS -/
def a48 : Args cxT.ty (List Int) := (Args.one (Arg.leaf (LArg.row 5)))
def n48 : (List Int) → V cxT.ty := fun t => (.inl (.inl (ls { own := 2, nm := 0, e := 5, o := true, xs := t })))
def dd48 : (List Int) := []
abbrev c48 (m : (List Int) → Option (List Int)) := fnT (cx := cxT) a48 n48 dd48 m
theorem hs48 : ∀ t, noRoV (n48 t) = true ∨ noOwnV (n48 t) = true := fun _ => .inl rfl
/-! loop.example/g00222/laws.eqFlow -/
def a49 : Args cxT.ty ((Int × Int × Int × Int × Int) × (Int × Int × Int × Int × Int)) := (Args.cons (Arg.agg (SArg.cons (LArg.int .i64) (SArg.cons (LArg.int .i64) (SArg.cons (LArg.int .i64) (SArg.cons (LArg.int .i64) (SArg.one (LArg.int .i64))))))) (Args.one (Arg.agg (SArg.cons (LArg.int .i64) (SArg.cons (LArg.int .i64) (SArg.cons (LArg.int .i64) (SArg.cons (LArg.int .i64) (SArg.one (LArg.int .i64)))))))))
def n49 : Bool → V cxT.ty := fun t => (.inl (.inl (lv (.bool t))))
def dd49 : Bool := false
abbrev c49 (m : ((Int × Int × Int × Int × Int) × (Int × Int × Int × Int × Int)) → Option Bool) := fnT (cx := cxT) a49 n49 dd49 m
theorem hs49 : ∀ t, noRoV (n49 t) = true ∨ noOwnV (n49 t) = true := fun _ => .inl rfl
/-! loop.example/g00222/laws.eqByteS -/
def a50 : Args cxT.ty ((List Int) × (List Int)) := (Args.cons (Arg.leaf (LArg.row 5)) (Args.one (Arg.leaf (LArg.row 5))))
def n50 : Bool → V cxT.ty := fun t => (.inl (.inl (lv (.bool t))))
def dd50 : Bool := false
abbrev c50 (m : ((List Int) × (List Int)) → Option Bool) := fnT (cx := cxT) a50 n50 dd50 m
theorem hs50 : ∀ t, noRoV (n50 t) = true ∨ noOwnV (n50 t) = true := fun _ => .inl rfl
/-! loop.example/g00222/spec.l3Flow -/
def a51 : Args cxT.ty (Int × Int × Int × Int × Int) := (Args.one (Arg.agg (SArg.cons (LArg.int .i64) (SArg.cons (LArg.int .i64) (SArg.cons (LArg.int .i64) (SArg.cons (LArg.int .i64) (SArg.one (LArg.int .i64))))))))
def n51 : Bool → V cxT.ty := fun t => (.inl (.inl (lv (.bool t))))
def dd51 : Bool := false
abbrev c51 (m : (Int × Int × Int × Int × Int) → Option Bool) := fnT (cx := cxT) a51 n51 dd51 m
theorem hs51 : ∀ t, noRoV (n51 t) = true ∨ noOwnV (n51 t) = true := fun _ => .inl rfl
/-! loop.example/g00222/spec.l3Hash -/
def a52 : Args cxT.ty (Int × Int × Int × Int × Int) := (Args.one (Arg.agg (SArg.cons (LArg.int .i64) (SArg.cons (LArg.int .i64) (SArg.cons (LArg.int .i64) (SArg.cons (LArg.int .i64) (SArg.one (LArg.int .i64))))))))
def n52 : Int → V cxT.ty := fun t => (.inl (.inl (lv (.int .i64 t))))
def dd52 : Int := (0 : Int)
abbrev c52 (m : (Int × Int × Int × Int × Int) → Option Int) := fnT (cx := cxT) a52 n52 dd52 m
theorem hs52 : ∀ t, noRoV (n52 t) = true ∨ noOwnV (n52 t) = true := fun _ => .inl rfl
/-! loop.example/g00222/spec.l3Mod -/
def a53 : Args cxT.ty (Int × Int) := (Args.cons (Arg.leaf (LArg.int .i64)) (Args.one (Arg.leaf (LArg.int .i64))))
def n53 : Int → V cxT.ty := fun t => (.inl (.inl (lv (.int .i64 t))))
def dd53 : Int := (0 : Int)
abbrev c53 (m : (Int × Int) → Option Int) := fnT (cx := cxT) a53 n53 dd53 m
theorem hs53 : ∀ t, noRoV (n53 t) = true ∨ noOwnV (n53 t) = true := fun _ => .inl rfl
/-! loop.example/g00222/impl.leftBy -/
def a54 : Args cxT.ty (Int × Int) := (Args.cons (Arg.leaf (LArg.int .i64)) (Args.one (Arg.leaf (LArg.int .i64))))
def n54 : Int → V cxT.ty := fun t => (.inl (.inl (lv (.int .i64 t))))
def dd54 : Int := (0 : Int)
abbrev c54 (m : (Int × Int) → Option Int) := fnT (cx := cxT) a54 n54 dd54 m
theorem hs54 : ∀ t, noRoV (n54 t) = true ∨ noOwnV (n54 t) = true := fun _ => .inl rfl
/-! loop.example/g00222/laws.eqInt64S -/
def a55 : Args cxT.ty ((List Int) × (List Int)) := (Args.cons (Arg.leaf (LArg.row 2)) (Args.one (Arg.leaf (LArg.row 2))))
def n55 : Bool → V cxT.ty := fun t => (.inl (.inl (lv (.bool t))))
def dd55 : Bool := false
abbrev c55 (m : ((List Int) × (List Int)) → Option Bool) := fnT (cx := cxT) a55 n55 dd55 m
theorem hs55 : ∀ t, noRoV (n55 t) = true ∨ noOwnV (n55 t) = true := fun _ => .inl rfl
/-! loop.example/g00222/laws.markInt64S -/
def a56 : Args cxT.ty ((List Int) × Int) := (Args.cons (Arg.leaf (LArg.own 2)) (Args.one (Arg.leaf (LArg.int .i64))))
def n56 : (Int × (List Int)) → List (A cxT.ty) := fun t => [(.inl (lv (.int .i64 t.1))), (.inl (ls { own := 2, nm := 0, e := 2, o := true, xs := t.2 }))]
def dd56 : (Int × (List Int)) := ((0 : Int), [])
abbrev c56 (m : ((List Int) × Int) → Option (Int × (List Int))) : WFn cxT := { nres := 1, n := 1, F := fnW (cx := cxT) a56 n56 dd56 m }
theorem hs56 : ∀ t, noRoV (.inr (.inl (n56 t)) : V cxT.ty) = true := fun _ => rfl
/-! loop.example/g00222/laws.heldInt64S -/
def a57 : Args cxT.ty ((List Int) × Int) := (Args.cons (Arg.leaf (LArg.row 2)) (Args.one (Arg.leaf (LArg.int .i64))))
def n57 : Int → V cxT.ty := fun t => (.inl (.inl (lv (.int .i64 t))))
def dd57 : Int := (0 : Int)
abbrev c57 (m : ((List Int) × Int) → Option Int) := fnT (cx := cxT) a57 n57 dd57 m
theorem hs57 : ∀ t, noRoV (n57 t) = true ∨ noOwnV (n57 t) = true := fun _ => .inl rfl
/-! loop.example/g00222/spec.l3Offset -/
def a58 : Args cxT.ty Int := (Args.one (Arg.leaf (LArg.int .i64)))
def n58 : Int → V cxT.ty := fun t => (.inl (.inl (lv (.int .i64 t))))
def dd58 : Int := (0 : Int)
abbrev c58 (m : Int → Option Int) := fnT (cx := cxT) a58 n58 dd58 m
theorem hs58 : ∀ t, noRoV (n58 t) = true ∨ noOwnV (n58 t) = true := fun _ => .inl rfl
/-! loop.example/g00222/spec.l3Skip -/
def a59 : Args cxT.ty Int := (Args.one (Arg.leaf (LArg.int .i64)))
def n59 : Int → V cxT.ty := fun t => (.inl (.inl (lv (.int .i64 t))))
def dd59 : Int := (0 : Int)
abbrev c59 (m : Int → Option Int) := fnT (cx := cxT) a59 n59 dd59 m
theorem hs59 : ∀ t, noRoV (n59 t) = true ∨ noOwnV (n59 t) = true := fun _ => .inl rfl
/-! loop.example/g00222/spec.l1Pick -/
def a60 : Args cxT.ty (((List Int) × Int) × (List Int)) := (Args.cons (Arg.agg (SArg.cons (LArg.row 5) (SArg.one (LArg.int .i64)))) (Args.one (Arg.leaf (LArg.row 2))))
def n60 : (Int × (List Int) × Int) → List (A cxT.ty) := fun t => [(.inl (lv (.int .i64 t.1))), (.inr [(ls (ro 5 t.2.1)), (lv (.int .i64 t.2.2))])]
def dd60 : (Int × (List Int) × Int) := ((0 : Int), [], (0 : Int))
abbrev c60 (m : (((List Int) × Int) × (List Int)) → Option (Int × (List Int) × Int)) : WFn cxT := { nres := 1, n := 0, F := fnW (cx := cxT) a60 n60 dd60 m, p := 1 }
/-! loop.example/g00222/spec.l1Next -/
def a61 : Args cxT.ty (((List Int) × Int) × Int) := (Args.cons (Arg.agg (SArg.cons (LArg.row 5) (SArg.one (LArg.int .i64)))) (Args.one (Arg.leaf (LArg.int .i64))))
def n61 : (Int × (List Int) × Int) → List (A cxT.ty) := fun t => [(.inl (lv (.int .i64 t.1))), (.inr [(ls (ro 5 t.2.1)), (lv (.int .i64 t.2.2))])]
def dd61 : (Int × (List Int) × Int) := ((0 : Int), [], (0 : Int))
abbrev c61 (m : (((List Int) × Int) × Int) → Option (Int × (List Int) × Int)) : WFn cxT := { nres := 1, n := 0, F := fnW (cx := cxT) a61 n61 dd61 m, p := 1 }
/-! loop.example/g00222/spec.l1In -/
def a63 : Args cxT.ty (Int × Int × Int) := (Args.cons (Arg.leaf (LArg.int .i64)) (Args.cons (Arg.leaf (LArg.int .i64)) (Args.one (Arg.leaf (LArg.int .i64)))))
def n63 : Bool → V cxT.ty := fun t => (.inl (.inl (lv (.bool t))))
def dd63 : Bool := false
abbrev c63 (m : (Int × Int × Int) → Option Bool) := fnT (cx := cxT) a63 n63 dd63 m
theorem hs63 : ∀ t, noRoV (n63 t) = true ∨ noOwnV (n63 t) = true := fun _ => .inl rfl
/-! loop.example/g00222/spec.l2Packet -/
def a64 : Args cxT.ty ((List Int) × Int) := (Args.one (Arg.agg (SArg.cons (LArg.row 5) (SArg.one (LArg.int .i64)))))
def n64 : (Int × Int × Int × Int × Int × (List Int) × (List Int) × Int) → List (A cxT.ty) := fun t => [(.inr [(lv (.int .i64 t.1)), (lv (.int .i64 t.2.1)), (lv (.int .i64 t.2.2.1)), (lv (.int .i64 t.2.2.2.1)), (lv (.int .i64 t.2.2.2.2.1)), (ls { own := 2, nm := 0, e := 5, o := true, xs := t.2.2.2.2.2.1 })]), (.inr [(ls (ro 5 t.2.2.2.2.2.2.1)), (lv (.int .i64 t.2.2.2.2.2.2.2))])]
def dd64 : (Int × Int × Int × Int × Int × (List Int) × (List Int) × Int) := ((0 : Int), (0 : Int), (0 : Int), (0 : Int), (0 : Int), [], [], (0 : Int))
abbrev c64 (m : ((List Int) × Int) → Option (Int × Int × Int × Int × Int × (List Int) × (List Int) × Int)) : WFn cxT := { nres := 1, n := 0, F := fnW (cx := cxT) a64 n64 dd64 m, p := 1 }
/-! loop.example/g00222/impl.isAddress -/
def a65 : Args cxT.ty Int := (Args.one (Arg.leaf (LArg.int .i64)))
def n65 : Bool → V cxT.ty := fun t => (.inl (.inl (lv (.bool t))))
def dd65 : Bool := false
abbrev c65 (m : Int → Option Bool) := fnT (cx := cxT) a65 n65 dd65 m
theorem hs65 : ∀ t, noRoV (n65 t) = true ∨ noOwnV (n65 t) = true := fun _ => .inl rfl
/-! loop.example/g00222/impl.isProto -/
def a66 : Args cxT.ty Int := (Args.one (Arg.leaf (LArg.int .i64)))
def n66 : Bool → V cxT.ty := fun t => (.inl (.inl (lv (.bool t))))
def dd66 : Bool := false
abbrev c66 (m : Int → Option Bool) := fnT (cx := cxT) a66 n66 dd66 m
theorem hs66 : ∀ t, noRoV (n66 t) = true ∨ noOwnV (n66 t) = true := fun _ => .inl rfl
/-! loop.example/g00222/impl.isPort -/
def a67 : Args cxT.ty Int := (Args.one (Arg.leaf (LArg.int .i64)))
def n67 : Bool → V cxT.ty := fun t => (.inl (.inl (lv (.bool t))))
def dd67 : Bool := false
abbrev c67 (m : Int → Option Bool) := fnT (cx := cxT) a67 n67 dd67 m
theorem hs67 : ∀ t, noRoV (n67 t) = true ∨ noOwnV (n67 t) = true := fun _ => .inl rfl
/-! loop.example/g00222/spec.l2Address -/
def a68 : Args cxT.ty Int := (Args.one (Arg.leaf (LArg.int .i64)))
def n68 : Bool → V cxT.ty := fun t => (.inl (.inl (lv (.bool t))))
def dd68 : Bool := false
abbrev c68 (m : Int → Option Bool) := fnT (cx := cxT) a68 n68 dd68 m
theorem hs68 : ∀ t, noRoV (n68 t) = true ∨ noOwnV (n68 t) = true := fun _ => .inl rfl
/-! loop.example/g00222/spec.l2Port -/
def a69 : Args cxT.ty Int := (Args.one (Arg.leaf (LArg.int .i64)))
def n69 : Bool → V cxT.ty := fun t => (.inl (.inl (lv (.bool t))))
def dd69 : Bool := false
abbrev c69 (m : Int → Option Bool) := fnT (cx := cxT) a69 n69 dd69 m
theorem hs69 : ∀ t, noRoV (n69 t) = true ∨ noOwnV (n69 t) = true := fun _ => .inl rfl
/-! loop.example/g00222/spec.l2DrawAddress -/
def a70 : Args cxT.ty ((List Int) × Int) := (Args.one (Arg.agg (SArg.cons (LArg.row 5) (SArg.one (LArg.int .i64)))))
def n70 : (Int × (List Int) × Int) → List (A cxT.ty) := fun t => [(.inl (lv (.int .i64 t.1))), (.inr [(ls (ro 5 t.2.1)), (lv (.int .i64 t.2.2))])]
def dd70 : (Int × (List Int) × Int) := ((0 : Int), [], (0 : Int))
abbrev c70 (m : ((List Int) × Int) → Option (Int × (List Int) × Int)) : WFn cxT := { nres := 1, n := 0, F := fnW (cx := cxT) a70 n70 dd70 m, p := 1 }
/-! loop.example/g00222/spec.l1Some -/
def a71 : Args cxT.ty (((List Int) × Int) × Int) := (Args.cons (Arg.agg (SArg.cons (LArg.row 5) (SArg.one (LArg.int .i64)))) (Args.one (Arg.leaf (LArg.int .i64))))
def n71 : ((List Int) × (List Int) × Int) → List (A cxT.ty) := fun t => [(.inl (ls { own := 2, nm := 0, e := 5, o := true, xs := t.1 })), (.inr [(ls (ro 5 t.2.1)), (lv (.int .i64 t.2.2))])]
def dd71 : ((List Int) × (List Int) × Int) := ([], [], (0 : Int))
abbrev c71 (m : (((List Int) × Int) × Int) → Option ((List Int) × (List Int) × Int)) : WFn cxT := { nres := 1, n := 0, F := fnW (cx := cxT) a71 n71 dd71 m, p := 1 }
end Go.Proofs.Try
