/- A part of the proof of FnExactTakeNumber: L1Con. -/
import Derived.Test.YtggncacoajjjhaaL1Base
set_option linter.unusedVariables false
namespace Go.Proofs.Try
open Go Go.VM Go.RowKit
/-! loop.example/g00222/laws.FnExactTakeNumber -/
def a7 : Args cxT.ty ((List Int) × Int × Int) := (Args.cons (Arg.leaf (LArg.row 5)) (Args.cons (Arg.leaf (LArg.int .i64)) (Args.one (Arg.leaf (LArg.int .i64)))))
def n7 : Bool → V cxT.ty := fun t => (.inl (.inl (lv (.bool t))))
def dd7 : Bool := false
abbrev c7 (m : ((List Int) × Int × Int) → Option Bool) := fnT (cx := cxT) a7 n7 dd7 m
theorem hs7 : ∀ t, noRoV (n7 t) = true ∨ noOwnV (n7 t) = true := fun _ => .inl rfl
/-! loop.example/g00222/laws.FnExactSumWords -/
def a8 : Args cxT.ty (List Int) := (Args.one (Arg.leaf (LArg.row 5)))
def n8 : Bool → V cxT.ty := fun t => (.inl (.inl (lv (.bool t))))
def dd8 : Bool := false
abbrev c8 (m : (List Int) → Option Bool) := fnT (cx := cxT) a8 n8 dd8 m
theorem hs8 : ∀ t, noRoV (n8 t) = true ∨ noOwnV (n8 t) = true := fun _ => .inl rfl
/-! loop.example/g00222/laws.FnExactWholeSum -/
def a9 : Args cxT.ty (List Int) := (Args.one (Arg.leaf (LArg.row 5)))
def n9 : Bool → V cxT.ty := fun t => (.inl (.inl (lv (.bool t))))
def dd9 : Bool := false
abbrev c9 (m : (List Int) → Option Bool) := fnT (cx := cxT) a9 n9 dd9 m
theorem hs9 : ∀ t, noRoV (n9 t) = true ∨ noOwnV (n9 t) = true := fun _ => .inl rfl
/-! loop.example/g00222/impl.TakeNumber -/
def a16 : Args cxT.ty ((List Int) × Int × Int) := (Args.cons (Arg.leaf (LArg.row 5)) (Args.cons (Arg.leaf (LArg.int .i64)) (Args.one (Arg.leaf (LArg.int .i64)))))
def n16 : (Int × Int) → V cxT.ty := fun t => (.inl (.inr [(lv (.int .i64 t.1)), (lv (.int .i64 t.2))]))
def dd16 : (Int × Int) := ((0 : Int), (0 : Int))
abbrev c16 (m : ((List Int) × Int × Int) → Option (Int × Int)) := fnT (cx := cxT) a16 n16 dd16 m
theorem hs16 : ∀ t, noRoV (n16 t) = true ∨ noOwnV (n16 t) = true := fun _ => .inl rfl
/-! loop.example/g00222/impl.SumWords -/
def a18 : Args cxT.ty (List Int) := (Args.one (Arg.leaf (LArg.row 5)))
def n18 : Int → V cxT.ty := fun t => (.inl (.inl (lv (.int .i64 t))))
def dd18 : Int := (0 : Int)
abbrev c18 (m : (List Int) → Option Int) := fnT (cx := cxT) a18 n18 dd18 m
theorem hs18 : ∀ t, noRoV (n18 t) = true ∨ noOwnV (n18 t) = true := fun _ => .inl rfl
/-! loop.example/g00222/impl.WholeSum -/
def a19 : Args cxT.ty (List Int) := (Args.one (Arg.leaf (LArg.row 5)))
def n19 : Bool → V cxT.ty := fun t => (.inl (.inl (lv (.bool t))))
def dd19 : Bool := false
abbrev c19 (m : (List Int) → Option Bool) := fnT (cx := cxT) a19 n19 dd19 m
theorem hs19 : ∀ t, noRoV (n19 t) = true ∨ noOwnV (n19 t) = true := fun _ => .inl rfl
/-! loop.example/g00222/spec.SumWords -/
def a20 : Args cxT.ty (List Int) := (Args.one (Arg.leaf (LArg.row 5)))
def n20 : Int → V cxT.ty := fun t => (.inl (.inl (lv (.int .i64 t))))
def dd20 : Int := (0 : Int)
abbrev c20 (m : (List Int) → Option Int) := fnT (cx := cxT) a20 n20 dd20 m
theorem hs20 : ∀ t, noRoV (n20 t) = true ∨ noOwnV (n20 t) = true := fun _ => .inl rfl
/-! loop.example/g00222/spec.TakeNumber -/
def a29 : Args cxT.ty ((List Int) × Int × Int) := (Args.cons (Arg.leaf (LArg.row 5)) (Args.cons (Arg.leaf (LArg.int .i64)) (Args.one (Arg.leaf (LArg.int .i64)))))
def n29 : (Int × Int) → V cxT.ty := fun t => (.inl (.inr [(lv (.int .i64 t.1)), (lv (.int .i64 t.2))]))
def dd29 : (Int × Int) := ((0 : Int), (0 : Int))
abbrev c29 (m : ((List Int) × Int × Int) → Option (Int × Int)) := fnT (cx := cxT) a29 n29 dd29 m
theorem hs29 : ∀ t, noRoV (n29 t) = true ∨ noOwnV (n29 t) = true := fun _ => .inl rfl
/-! loop.example/g00222/laws.toByteS -/
def a30 : Args cxT.ty (List Int) := (Args.one (Arg.leaf (LArg.row 5)))
def n30 : (List Int) → V cxT.ty := fun t => (.inl (.inl (ls { own := 2, nm := 0, e := 5, o := true, xs := t })))
def dd30 : (List Int) := []
abbrev c30 (m : (List Int) → Option (List Int)) := fnT (cx := cxT) a30 n30 dd30 m
theorem hs30 : ∀ t, noRoV (n30 t) = true ∨ noOwnV (n30 t) = true := fun _ => .inl rfl
/-! loop.example/g00222/laws.eqIntResult -/
def a31 : Args cxT.ty ((Int × Int) × (Int × Int)) := (Args.cons (Arg.agg (SArg.cons (LArg.int .i64) (SArg.one (LArg.int .i64)))) (Args.one (Arg.agg (SArg.cons (LArg.int .i64) (SArg.one (LArg.int .i64))))))
def n31 : Bool → V cxT.ty := fun t => (.inl (.inl (lv (.bool t))))
def dd31 : Bool := false
abbrev c31 (m : ((Int × Int) × (Int × Int)) → Option Bool) := fnT (cx := cxT) a31 n31 dd31 m
theorem hs31 : ∀ t, noRoV (n31 t) = true ∨ noOwnV (n31 t) = true := fun _ => .inl rfl
/-! loop.example/g00222/laws.eqByteS -/
def a32 : Args cxT.ty ((List Int) × (List Int)) := (Args.cons (Arg.leaf (LArg.row 5)) (Args.one (Arg.leaf (LArg.row 5))))
def n32 : Bool → V cxT.ty := fun t => (.inl (.inl (lv (.bool t))))
def dd32 : Bool := false
abbrev c32 (m : ((List Int) × (List Int)) → Option Bool) := fnT (cx := cxT) a32 n32 dd32 m
theorem hs32 : ∀ t, noRoV (n32 t) = true ∨ noOwnV (n32 t) = true := fun _ => .inl rfl
/-! loop.example/g00222/spec.WholeSum -/
def a33 : Args cxT.ty (List Int) := (Args.one (Arg.leaf (LArg.row 5)))
def n33 : Bool → V cxT.ty := fun t => (.inl (.inl (lv (.bool t))))
def dd33 : Bool := false
abbrev c33 (m : (List Int) → Option Bool) := fnT (cx := cxT) a33 n33 dd33 m
theorem hs33 : ∀ t, noRoV (n33 t) = true ∨ noOwnV (n33 t) = true := fun _ => .inl rfl
/-! loop.example/g00222/impl.isNumberSize -/
def a44 : Args cxT.ty Int := (Args.one (Arg.leaf (LArg.int .i64)))
def n44 : Bool → V cxT.ty := fun t => (.inl (.inl (lv (.bool t))))
def dd44 : Bool := false
abbrev c44 (m : Int → Option Bool) := fnT (cx := cxT) a44 n44 dd44 m
theorem hs44 : ∀ t, noRoV (n44 t) = true ∨ noOwnV (n44 t) = true := fun _ => .inl rfl
/-! loop.example/g00222/spec.l1In -/
def a47 : Args cxT.ty (Int × Int × Int) := (Args.cons (Arg.leaf (LArg.int .i64)) (Args.cons (Arg.leaf (LArg.int .i64)) (Args.one (Arg.leaf (LArg.int .i64)))))
def n47 : Bool → V cxT.ty := fun t => (.inl (.inl (lv (.bool t))))
def dd47 : Bool := false
abbrev c47 (m : (Int × Int × Int) → Option Bool) := fnT (cx := cxT) a47 n47 dd47 m
theorem hs47 : ∀ t, noRoV (n47 t) = true ∨ noOwnV (n47 t) = true := fun _ => .inl rfl
/-! loop.example/g00222/impl.wordAt -/
def a50 : Args cxT.ty ((List Int) × Int) := (Args.cons (Arg.leaf (LArg.row 5)) (Args.one (Arg.leaf (LArg.int .i64))))
def n50 : Int → V cxT.ty := fun t => (.inl (.inl (lv (.int .u64 t))))
def dd50 : Int := (0 : Int)
abbrev c50 (m : ((List Int) × Int) → Option Int) := fnT (cx := cxT) a50 n50 dd50 m
theorem hs50 : ∀ t, noRoV (n50 t) = true ∨ noOwnV (n50 t) = true := fun _ => .inl rfl
/-! loop.example/g00222/spec.l1Take -/
def a55 : Args cxT.ty ((List Int) × Int × Int) := (Args.cons (Arg.leaf (LArg.row 5)) (Args.cons (Arg.leaf (LArg.int .i64)) (Args.one (Arg.leaf (LArg.int .i64)))))
def n55 : Int → V cxT.ty := fun t => (.inl (.inl (lv (.int .i64 t))))
def dd55 : Int := (0 : Int)
abbrev c55 (m : ((List Int) × Int × Int) → Option Int) := fnT (cx := cxT) a55 n55 dd55 m
theorem hs55 : ∀ t, noRoV (n55 t) = true ∨ noOwnV (n55 t) = true := fun _ => .inl rfl
end Go.Proofs.Try
