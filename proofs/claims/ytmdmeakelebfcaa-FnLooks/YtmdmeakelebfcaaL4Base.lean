/- A part of the proof of FnLooks: L4Base, L4Con, L4ConB, L4ConC. -/
import Derived.Test.YtmdmeakelebfcaaVmJ
import Derived.Test.YtmdmeakelebfcaaProg
namespace Go.Proofs.Try
open Go Go.VM Go.RowKit

def tyT (e : Nat) : Type := if e = 2 then Int else if e = 5 then Int else if e = 31 then Int × Int else if e = 77 then Int × Int else Unit
def inhT (e : Nat) : tyT e := by unfold tyT; split <;> (try split) <;> (try split) <;> (try split) <;> first | exact (0 : Int) | exact ((0, 0) : Int × Int) | exact ()
def cd2 : Cd tyT (tyT 2) := cdInt .i64
def cd5 : Cd tyT (tyT 5) := cdInt .u8
def cd31 : Cd tyT (tyT 31) := cdPair (cdInt .i64) (cdInt .i64)
def cd77 : Cd tyT (tyT 77) := cdPair (cdInt .i64) (cdInt .i64)
def cdT (e : Nat) : Cd tyT (tyT e) :=
  if h : e = 2 then h.symm ▸ cd2 else if h : e = 5 then h.symm ▸ cd5 else if h : e = 31 then h.symm ▸ cd31 else if h : e = 77 then h.symm ▸ cd77 else cdNone (inhT e)
def cxT : Cx := Cx.of cdT
theorem cxT_ok : cxT.Ok := Cx.of_ok cdT
theorem dom_cases {e : Nat} (h : (cdT e).dom = true) : e = 2 ∨ e = 5 ∨ e = 31 ∨ e = 77 := by
  by_cases h1 : e = 2
  · exact .inl h1
  by_cases h2 : e = 5
  · exact .inr (.inl h2)
  by_cases h3 : e = 31
  · exact .inr (.inr (.inl h3))
  by_cases h4 : e = 77
  · exact .inr (.inr (.inr h4))
  · unfold cdT at h; rw [dif_neg h1, dif_neg h2, dif_neg h3, dif_neg h4] at h; exact Bool.noConfusion h

theorem cxT_pok : cxT.POk prog := by
  refine ⟨fun e he => ?_, fun e he hu o x => ?_⟩
  · rcases dom_cases he with rfl | rfl | rfl | rfl
    · exact ⟨_, _, rfl, rfl, rfl, by decide, rfl, by decide, rfl⟩
    · exact ⟨_, _, rfl, rfl, rfl, by decide, rfl, by decide, rfl⟩
    · exact ⟨_, _, rfl, rfl, rfl, by decide, rfl, by decide, rfl⟩
    · exact ⟨_, _, rfl, rfl, rfl, by decide, rfl, by decide, rfl⟩
  · rcases dom_cases he with rfl | rfl | rfl | rfl
    · rw [underlying2] at hu
      cases hu
    · exact ⟨x, rfl⟩
    · rw [show prog.underlying 31 = _ from rfl] at hu
      cases hu
    · rw [show prog.underlying 77 = _ from rfl] at hu
      cases hu
end Go.Proofs.Try

set_option linter.unusedVariables false
namespace Go.Proofs.Try
open Go Go.VM Go.RowKit
/-! loop.example/g00222/laws.FnTables -/
def a3 : Args cxT.ty (List Int) := (Args.one (Arg.leaf (LArg.row 5)))
def n3 : Bool → V cxT.ty := fun t => (.inl (.inl (lv (.bool t))))
def dd3 : Bool := false
abbrev c3 (m : (List Int) → Option Bool) := fnT (cx := cxT) a3 n3 dd3 m
theorem hs3 : ∀ t, noRoV (n3 t) = true ∨ noOwnV (n3 t) = true := fun _ => .inl rfl
/-! loop.example/g00222/laws.FnLooks -/
def a4 : Args cxT.ty (List Int) := (Args.one (Arg.leaf (LArg.row 5)))
def n4 : Bool → V cxT.ty := fun t => (.inl (.inl (lv (.bool t))))
def dd4 : Bool := false
abbrev c4 (m : (List Int) → Option Bool) := fnT (cx := cxT) a4 n4 dd4 m
theorem hs4 : ∀ t, noRoV (n4 t) = true ∨ noOwnV (n4 t) = true := fun _ => .inl rfl
/-! loop.example/g00222/laws.FnExactSharesFault -/
def a5 : Args cxT.ty (List (Int × Int)) := (Args.one (Arg.leaf (LArg.row 77)))
def n5 : Bool → V cxT.ty := fun t => (.inl (.inl (lv (.bool t))))
def dd5 : Bool := false
abbrev c5 (m : (List (Int × Int)) → Option Bool) := fnT (cx := cxT) a5 n5 dd5 m
theorem hs5 : ∀ t, noRoV (n5 t) = true ∨ noOwnV (n5 t) = true := fun _ => .inl rfl
/-! loop.example/g00222/laws.FnExactFillTable -/
def a6 : Args cxT.ty (List (Int × Int)) := (Args.one (Arg.leaf (LArg.row 77)))
def n6 : Bool → V cxT.ty := fun t => (.inl (.inl (lv (.bool t))))
def dd6 : Bool := false
abbrev c6 (m : (List (Int × Int)) → Option Bool) := fnT (cx := cxT) a6 n6 dd6 m
theorem hs6 : ∀ t, noRoV (n6 t) = true ∨ noOwnV (n6 t) = true := fun _ => .inl rfl
/-! loop.example/g00222/laws.FnExactCountOf -/
def a7 : Args cxT.ty ((List Int) × Int) := (Args.cons (Arg.leaf (LArg.row 2)) (Args.one (Arg.leaf (LArg.int .i64))))
def n7 : Bool → V cxT.ty := fun t => (.inl (.inl (lv (.bool t))))
def dd7 : Bool := false
abbrev c7 (m : ((List Int) × Int) → Option Bool) := fnT (cx := cxT) a7 n7 dd7 m
theorem hs7 : ∀ t, noRoV (n7 t) = true ∨ noOwnV (n7 t) = true := fun _ => .inl rfl
/-! loop.example/g00222/laws.FnExactSpreadOf -/
def a8 : Args cxT.ty ((List Int) × (List (Int × Int))) := (Args.cons (Arg.leaf (LArg.row 2)) (Args.one (Arg.leaf (LArg.row 77))))
def n8 : Bool → V cxT.ty := fun t => (.inl (.inl (lv (.bool t))))
def dd8 : Bool := false
abbrev c8 (m : ((List Int) × (List (Int × Int))) → Option Bool) := fnT (cx := cxT) a8 n8 dd8 m
theorem hs8 : ∀ t, noRoV (n8 t) = true ∨ noOwnV (n8 t) = true := fun _ => .inl rfl
/-! loop.example/g00222/laws.FnExactLookTable -/
def a9 : Args cxT.ty ((List Int) × Int) := (Args.cons (Arg.leaf (LArg.row 2)) (Args.one (Arg.leaf (LArg.int .i64))))
def n9 : Bool → V cxT.ty := fun t => (.inl (.inl (lv (.bool t))))
def dd9 : Bool := false
abbrev c9 (m : ((List Int) × Int) → Option Bool) := fnT (cx := cxT) a9 n9 dd9 m
theorem hs9 : ∀ t, noRoV (n9 t) = true ∨ noOwnV (n9 t) = true := fun _ => .inl rfl
/-! loop.example/g00222/laws.FnExactMovedOf -/
def a10 : Args cxT.ty ((List Int) × (List Int)) := (Args.cons (Arg.leaf (LArg.row 2)) (Args.one (Arg.leaf (LArg.row 2))))
def n10 : Bool → V cxT.ty := fun t => (.inl (.inl (lv (.bool t))))
def dd10 : Bool := false
abbrev c10 (m : ((List Int) × (List Int)) → Option Bool) := fnT (cx := cxT) a10 n10 dd10 m
theorem hs10 : ∀ t, noRoV (n10 t) = true ∨ noOwnV (n10 t) = true := fun _ => .inl rfl
/-! loop.example/g00222/laws.FnExactWithoutShare -/
def a11 : Args cxT.ty ((List (Int × Int)) × Int) := (Args.cons (Arg.leaf (LArg.row 77)) (Args.one (Arg.leaf (LArg.int .i64))))
def n11 : Bool → V cxT.ty := fun t => (.inl (.inl (lv (.bool t))))
def dd11 : Bool := false
abbrev c11 (m : ((List (Int × Int)) × Int) → Option Bool) := fnT (cx := cxT) a11 n11 dd11 m
theorem hs11 : ∀ t, noRoV (n11 t) = true ∨ noOwnV (n11 t) = true := fun _ => .inl rfl
/-! loop.example/g00222/laws.lwBig -/
def a12 : Args cxT.ty (List Int) := (Args.one (Arg.leaf (LArg.row 5)))
def n12 : Bool → V cxT.ty := fun t => (.inl (.inl (lv (.bool t))))
def dd12 : Bool := false
abbrev c12 (m : (List Int) → Option Bool) := fnT (cx := cxT) a12 n12 dd12 m
theorem hs12 : ∀ t, noRoV (n12 t) = true ∨ noOwnV (n12 t) = true := fun _ => .inl rfl
/-! loop.example/g00222/spec.DrawFillTable -/
def a13 : Args cxT.ty (List Int) := (Args.one (Arg.leaf (LArg.row 5)))
def n13 : (List (Int × Int)) → V cxT.ty := fun t => (.inl (.inl (ls { own := 2, nm := 0, e := 31, o := true, xs := t })))
def dd13 : (List (Int × Int)) := []
abbrev c13 (m : (List Int) → Option (List (Int × Int))) := fnT (cx := cxT) a13 n13 dd13 m
theorem hs13 : ∀ t, noRoV (n13 t) = true ∨ noOwnV (n13 t) = true := fun _ => .inl rfl
/-! loop.example/g00222/impl.FillTable -/
def a14 : Args cxT.ty (List (Int × Int)) := (Args.one (Arg.leaf (LArg.row 31)))
def n14 : (Int × (List Int)) → V cxT.ty := fun t => (.inl (.inr [(lv (.int .i64 t.1)), (ls { own := 2, nm := 0, e := 2, o := true, xs := t.2 })]))
def dd14 : (Int × (List Int)) := ((0 : Int), [])
abbrev c14 (m : (List (Int × Int)) → Option (Int × (List Int))) := fnT (cx := cxT) a14 n14 dd14 m
theorem hs14 : ∀ t, noRoV (n14 t) = true ∨ noOwnV (n14 t) = true := fun _ => .inl rfl
/-! loop.example/g00222/spec.FillTable -/
def a15 : Args cxT.ty (List (Int × Int)) := (Args.one (Arg.leaf (LArg.row 31)))
def n15 : (Int × (List Int)) → V cxT.ty := fun t => (.inl (.inr [(lv (.int .i64 t.1)), (ls { own := 2, nm := 0, e := 2, o := true, xs := t.2 })]))
def dd15 : (Int × (List Int)) := ((0 : Int), [])
abbrev c15 (m : (List (Int × Int)) → Option (Int × (List Int))) := fnT (cx := cxT) a15 n15 dd15 m
theorem hs15 : ∀ t, noRoV (n15 t) = true ∨ noOwnV (n15 t) = true := fun _ => .inl rfl
/-! loop.example/g00222/impl.SpreadOf -/
def a16 : Args cxT.ty ((List Int) × (List (Int × Int))) := (Args.cons (Arg.leaf (LArg.row 2)) (Args.one (Arg.leaf (LArg.row 31))))
def n16 : (Int × Int × Int × Int) → V cxT.ty := fun t => (.inl (.inr [(lv (.int .i64 t.1)), (lv (.int .i64 t.2.1)), (lv (.int .i64 t.2.2.1)), (lv (.int .i64 t.2.2.2))]))
def dd16 : (Int × Int × Int × Int) := ((0 : Int), (0 : Int), (0 : Int), (0 : Int))
abbrev c16 (m : ((List Int) × (List (Int × Int))) → Option (Int × Int × Int × Int)) := fnT (cx := cxT) a16 n16 dd16 m
theorem hs16 : ∀ t, noRoV (n16 t) = true ∨ noOwnV (n16 t) = true := fun _ => .inl rfl
/-! loop.example/g00222/impl.CountOf -/
def a17 : Args cxT.ty ((List Int) × Int) := (Args.cons (Arg.leaf (LArg.row 2)) (Args.one (Arg.leaf (LArg.int .i64))))
def n17 : Int → V cxT.ty := fun t => (.inl (.inl (lv (.int .i64 t))))
def dd17 : Int := (0 : Int)
abbrev c17 (m : ((List Int) × Int) → Option Int) := fnT (cx := cxT) a17 n17 dd17 m
theorem hs17 : ∀ t, noRoV (n17 t) = true ∨ noOwnV (n17 t) = true := fun _ => .inl rfl
/-! loop.example/g00222/spec.DrawWithoutShare -/
def a18 : Args cxT.ty (List Int) := (Args.one (Arg.leaf (LArg.row 5)))
def n18 : ((List (Int × Int)) × Int) → V cxT.ty := fun t => (.inr (.inl [(.inl (ls { own := 2, nm := 0, e := 31, o := true, xs := t.1 })), (.inl (lv (.int .i64 t.2)))]))
def dd18 : ((List (Int × Int)) × Int) := ([], (0 : Int))
abbrev c18 (m : (List Int) → Option ((List (Int × Int)) × Int)) := fnT (cx := cxT) a18 n18 dd18 m
theorem hs18 : ∀ t, noRoV (n18 t) = true ∨ noOwnV (n18 t) = true := fun _ => .inl rfl
/-! loop.example/g00222/impl.WithoutShare -/
def a19 : Args cxT.ty ((List (Int × Int)) × Int) := (Args.cons (Arg.leaf (LArg.row 31)) (Args.one (Arg.leaf (LArg.int .i64))))
def n19 : (Int × (List (Int × Int))) → V cxT.ty := fun t => (.inl (.inr [(lv (.int .i64 t.1)), (ls { own := 2, nm := 0, e := 31, o := true, xs := t.2 })]))
def dd19 : (Int × (List (Int × Int))) := ((0 : Int), [])
abbrev c19 (m : ((List (Int × Int)) × Int) → Option (Int × (List (Int × Int)))) := fnT (cx := cxT) a19 n19 dd19 m
theorem hs19 : ∀ t, noRoV (n19 t) = true ∨ noOwnV (n19 t) = true := fun _ => .inl rfl
/-! loop.example/g00222/spec.WithoutShare -/
def a20 : Args cxT.ty ((List (Int × Int)) × Int) := (Args.cons (Arg.leaf (LArg.row 31)) (Args.one (Arg.leaf (LArg.int .i64))))
def n20 : (Int × (List (Int × Int))) → V cxT.ty := fun t => (.inl (.inr [(lv (.int .i64 t.1)), (ls { own := 2, nm := 0, e := 31, o := true, xs := t.2 })]))
def dd20 : (Int × (List (Int × Int))) := ((0 : Int), [])
abbrev c20 (m : ((List (Int × Int)) × Int) → Option (Int × (List (Int × Int)))) := fnT (cx := cxT) a20 n20 dd20 m
theorem hs20 : ∀ t, noRoV (n20 t) = true ∨ noOwnV (n20 t) = true := fun _ => .inl rfl
/-! loop.example/g00222/impl.MovedOf -/
def a21 : Args cxT.ty ((List Int) × (List Int)) := (Args.cons (Arg.leaf (LArg.row 2)) (Args.one (Arg.leaf (LArg.row 2))))
def n21 : (Int × Int) → V cxT.ty := fun t => (.inl (.inr [(lv (.int .i64 t.1)), (lv (.int .i64 t.2))]))
def dd21 : (Int × Int) := ((0 : Int), (0 : Int))
abbrev c21 (m : ((List Int) × (List Int)) → Option (Int × Int)) := fnT (cx := cxT) a21 n21 dd21 m
theorem hs21 : ∀ t, noRoV (n21 t) = true ∨ noOwnV (n21 t) = true := fun _ => .inl rfl
/-! loop.example/g00222/impl.LookTable -/
def a22 : Args cxT.ty ((List Int) × Int) := (Args.cons (Arg.leaf (LArg.row 2)) (Args.one (Arg.leaf (LArg.int .i64))))
def n22 : (Int × Int) → V cxT.ty := fun t => (.inl (.inr [(lv (.int .i64 t.1)), (lv (.int .i64 t.2))]))
def dd22 : (Int × Int) := ((0 : Int), (0 : Int))
abbrev c22 (m : ((List Int) × Int) → Option (Int × Int)) := fnT (cx := cxT) a22 n22 dd22 m
theorem hs22 : ∀ t, noRoV (n22 t) = true ∨ noOwnV (n22 t) = true := fun _ => .inl rfl
/-! loop.example/g00222/laws.szShareS -/
def a23 : Args cxT.ty ((List (Int × Int)) × Int) := (Args.cons (Arg.leaf (LArg.row 77)) (Args.one (Arg.leaf (LArg.int .i64))))
def n23 : Int → V cxT.ty := fun t => (.inl (.inl (lv (.int .i64 t))))
def dd23 : Int := (0 : Int)
abbrev c23 (m : ((List (Int × Int)) × Int) → Option Int) := fnT (cx := cxT) a23 n23 dd23 m
theorem hs23 : ∀ t, noRoV (n23 t) = true ∨ noOwnV (n23 t) = true := fun _ => .inl rfl
/-! loop.example/g00222/spec.SharesFault -/
def a24 : Args cxT.ty (List (Int × Int)) := (Args.one (Arg.leaf (LArg.row 31)))
def n24 : Int → V cxT.ty := fun t => (.inl (.inl (lv (.int .i64 t))))
def dd24 : Int := (0 : Int)
abbrev c24 (m : (List (Int × Int)) → Option Int) := fnT (cx := cxT) a24 n24 dd24 m
theorem hs24 : ∀ t, noRoV (n24 t) = true ∨ noOwnV (n24 t) = true := fun _ => .inl rfl
/-! loop.example/g00222/laws.toShareS -/
def a25 : Args cxT.ty (List (Int × Int)) := (Args.one (Arg.leaf (LArg.row 77)))
def n25 : (List (Int × Int)) → V cxT.ty := fun t => (.inl (.inl (ls { own := 2, nm := 0, e := 31, o := true, xs := t })))
def dd25 : (List (Int × Int)) := []
abbrev c25 (m : (List (Int × Int)) → Option (List (Int × Int))) := fnT (cx := cxT) a25 n25 dd25 m
theorem hs25 : ∀ t, noRoV (n25 t) = true ∨ noOwnV (n25 t) = true := fun _ => .inl rfl
/-! loop.example/g00222/impl.SharesFault -/
def a26 : Args cxT.ty (List (Int × Int)) := (Args.one (Arg.leaf (LArg.row 31)))
def n26 : Int → V cxT.ty := fun t => (.inl (.inl (lv (.int .i64 t))))
def dd26 : Int := (0 : Int)
abbrev c26 (m : (List (Int × Int)) → Option Int) := fnT (cx := cxT) a26 n26 dd26 m
theorem hs26 : ∀ t, noRoV (n26 t) = true ∨ noOwnV (n26 t) = true := fun _ => .inl rfl
/-! loop.example/g00222/laws.eqShareS -/
def a27 : Args cxT.ty ((List (Int × Int)) × (List (Int × Int))) := (Args.cons (Arg.leaf (LArg.row 31)) (Args.one (Arg.leaf (LArg.row 31))))
def n27 : Bool → V cxT.ty := fun t => (.inl (.inl (lv (.bool t))))
def dd27 : Bool := false
abbrev c27 (m : ((List (Int × Int)) × (List (Int × Int))) → Option Bool) := fnT (cx := cxT) a27 n27 dd27 m
theorem hs27 : ∀ t, noRoV (n27 t) = true ∨ noOwnV (n27 t) = true := fun _ => .inl rfl
/-! loop.example/g00222/laws.eqIntsResult -/
def a28 : Args cxT.ty ((Int × (List Int)) × (Int × (List Int))) := (Args.cons (Arg.agg (SArg.cons (LArg.int .i64) (SArg.one (LArg.row 2)))) (Args.one (Arg.agg (SArg.cons (LArg.int .i64) (SArg.one (LArg.row 2))))))
def n28 : Bool → V cxT.ty := fun t => (.inl (.inl (lv (.bool t))))
def dd28 : Bool := false
abbrev c28 (m : ((Int × (List Int)) × (Int × (List Int))) → Option Bool) := fnT (cx := cxT) a28 n28 dd28 m
theorem hs28 : ∀ t, noRoV (n28 t) = true ∨ noOwnV (n28 t) = true := fun _ => .inl rfl
/-! loop.example/g00222/laws.markShareS -/
def a29 : Args cxT.ty ((List (Int × Int)) × Int) := (Args.cons (Arg.leaf (LArg.own 31)) (Args.one (Arg.leaf (LArg.int .i64))))
def n29 : (Int × (List (Int × Int))) → List (A cxT.ty) := fun t => [(.inl (lv (.int .i64 t.1))), (.inl (ls { own := 2, nm := 0, e := 31, o := true, xs := t.2 }))]
def dd29 : (Int × (List (Int × Int))) := ((0 : Int), [])
abbrev c29 (m : ((List (Int × Int)) × Int) → Option (Int × (List (Int × Int)))) : WFn cxT := { nres := 1, n := 1, F := fnW (cx := cxT) a29 n29 dd29 m }
theorem hs29 : ∀ t, noRoV (.inr (.inl (n29 t)) : V cxT.ty) = true := fun _ => rfl
/-! loop.example/g00222/laws.markIntsResult -/
def a30 : Args cxT.ty ((Int × (List Int)) × Int) := (Args.cons (Arg.agg (SArg.cons (LArg.int .i64) (SArg.one (LArg.own 2)))) (Args.one (Arg.leaf (LArg.int .i64))))
def n30 : (Int × Int × (List Int)) → List (A cxT.ty) := fun t => [(.inl (lv (.int .i64 t.1))), (.inr [(lv (.int .i64 t.2.1)), (ls { own := 2, nm := 0, e := 2, o := true, xs := t.2.2 })])]
def dd30 : (Int × Int × (List Int)) := ((0 : Int), (0 : Int), [])
abbrev c30 (m : ((Int × (List Int)) × Int) → Option (Int × Int × (List Int))) : WFn cxT := { nres := 1, n := 1, F := fnW (cx := cxT) a30 n30 dd30 m }
theorem hs30 : ∀ t, noRoV (.inr (.inl (n30 t)) : V cxT.ty) = true := fun _ => rfl
/-! loop.example/g00222/laws.heldIntsResult -/
def a31 : Args cxT.ty ((Int × (List Int)) × Int) := (Args.cons (Arg.agg (SArg.cons (LArg.int .i64) (SArg.one (LArg.row 2)))) (Args.one (Arg.leaf (LArg.int .i64))))
def n31 : Int → V cxT.ty := fun t => (.inl (.inl (lv (.int .i64 t))))
def dd31 : Int := (0 : Int)
abbrev c31 (m : ((Int × (List Int)) × Int) → Option Int) := fnT (cx := cxT) a31 n31 dd31 m
theorem hs31 : ∀ t, noRoV (n31 t) = true ∨ noOwnV (n31 t) = true := fun _ => .inl rfl
/-! loop.example/g00222/spec.CountOf -/
def a32 : Args cxT.ty ((List Int) × Int) := (Args.cons (Arg.leaf (LArg.row 2)) (Args.one (Arg.leaf (LArg.int .i64))))
def n32 : Int → V cxT.ty := fun t => (.inl (.inl (lv (.int .i64 t))))
def dd32 : Int := (0 : Int)
abbrev c32 (m : ((List Int) × Int) → Option Int) := fnT (cx := cxT) a32 n32 dd32 m
theorem hs32 : ∀ t, noRoV (n32 t) = true ∨ noOwnV (n32 t) = true := fun _ => .inl rfl
/-! loop.example/g00222/laws.toInt64S -/
def a33 : Args cxT.ty (List Int) := (Args.one (Arg.leaf (LArg.row 2)))
def n33 : (List Int) → V cxT.ty := fun t => (.inl (.inl (ls { own := 2, nm := 0, e := 2, o := true, xs := t })))
def dd33 : (List Int) := []
abbrev c33 (m : (List Int) → Option (List Int)) := fnT (cx := cxT) a33 n33 dd33 m
theorem hs33 : ∀ t, noRoV (n33 t) = true ∨ noOwnV (n33 t) = true := fun _ => .inl rfl
/-! loop.example/g00222/laws.eqInt64S -/
def a34 : Args cxT.ty ((List Int) × (List Int)) := (Args.cons (Arg.leaf (LArg.row 2)) (Args.one (Arg.leaf (LArg.row 2))))
def n34 : Bool → V cxT.ty := fun t => (.inl (.inl (lv (.bool t))))
def dd34 : Bool := false
abbrev c34 (m : ((List Int) × (List Int)) → Option Bool) := fnT (cx := cxT) a34 n34 dd34 m
theorem hs34 : ∀ t, noRoV (n34 t) = true ∨ noOwnV (n34 t) = true := fun _ => .inl rfl
/-! loop.example/g00222/spec.SpreadOf -/
def a35 : Args cxT.ty ((List Int) × (List (Int × Int))) := (Args.cons (Arg.leaf (LArg.row 2)) (Args.one (Arg.leaf (LArg.row 31))))
def n35 : (Int × Int × Int × Int) → V cxT.ty := fun t => (.inl (.inr [(lv (.int .i64 t.1)), (lv (.int .i64 t.2.1)), (lv (.int .i64 t.2.2.1)), (lv (.int .i64 t.2.2.2))]))
def dd35 : (Int × Int × Int × Int) := ((0 : Int), (0 : Int), (0 : Int), (0 : Int))
abbrev c35 (m : ((List Int) × (List (Int × Int))) → Option (Int × Int × Int × Int)) := fnT (cx := cxT) a35 n35 dd35 m
theorem hs35 : ∀ t, noRoV (n35 t) = true ∨ noOwnV (n35 t) = true := fun _ => .inl rfl
/-! loop.example/g00222/laws.eqSpread -/
def a36 : Args cxT.ty ((Int × Int × Int × Int) × (Int × Int × Int × Int)) := (Args.cons (Arg.agg (SArg.cons (LArg.int .i64) (SArg.cons (LArg.int .i64) (SArg.cons (LArg.int .i64) (SArg.one (LArg.int .i64)))))) (Args.one (Arg.agg (SArg.cons (LArg.int .i64) (SArg.cons (LArg.int .i64) (SArg.cons (LArg.int .i64) (SArg.one (LArg.int .i64))))))))
def n36 : Bool → V cxT.ty := fun t => (.inl (.inl (lv (.bool t))))
def dd36 : Bool := false
abbrev c36 (m : ((Int × Int × Int × Int) × (Int × Int × Int × Int)) → Option Bool) := fnT (cx := cxT) a36 n36 dd36 m
theorem hs36 : ∀ t, noRoV (n36 t) = true ∨ noOwnV (n36 t) = true := fun _ => .inl rfl
/-! loop.example/g00222/spec.LookTable -/
def a37 : Args cxT.ty ((List Int) × Int) := (Args.cons (Arg.leaf (LArg.row 2)) (Args.one (Arg.leaf (LArg.int .i64))))
def n37 : (Int × Int) → V cxT.ty := fun t => (.inl (.inr [(lv (.int .i64 t.1)), (lv (.int .i64 t.2))]))
def dd37 : (Int × Int) := ((0 : Int), (0 : Int))
abbrev c37 (m : ((List Int) × Int) → Option (Int × Int)) := fnT (cx := cxT) a37 n37 dd37 m
theorem hs37 : ∀ t, noRoV (n37 t) = true ∨ noOwnV (n37 t) = true := fun _ => .inl rfl
/-! loop.example/g00222/laws.eqIntResult -/
def a38 : Args cxT.ty ((Int × Int) × (Int × Int)) := (Args.cons (Arg.agg (SArg.cons (LArg.int .i64) (SArg.one (LArg.int .i64)))) (Args.one (Arg.agg (SArg.cons (LArg.int .i64) (SArg.one (LArg.int .i64))))))
def n38 : Bool → V cxT.ty := fun t => (.inl (.inl (lv (.bool t))))
def dd38 : Bool := false
abbrev c38 (m : ((Int × Int) × (Int × Int)) → Option Bool) := fnT (cx := cxT) a38 n38 dd38 m
theorem hs38 : ∀ t, noRoV (n38 t) = true ∨ noOwnV (n38 t) = true := fun _ => .inl rfl
/-! loop.example/g00222/spec.MovedOf -/
def a39 : Args cxT.ty ((List Int) × (List Int)) := (Args.cons (Arg.leaf (LArg.row 2)) (Args.one (Arg.leaf (LArg.row 2))))
def n39 : (Int × Int) → V cxT.ty := fun t => (.inl (.inr [(lv (.int .i64 t.1)), (lv (.int .i64 t.2))]))
def dd39 : (Int × Int) := ((0 : Int), (0 : Int))
abbrev c39 (m : ((List Int) × (List Int)) → Option (Int × Int)) := fnT (cx := cxT) a39 n39 dd39 m
theorem hs39 : ∀ t, noRoV (n39 t) = true ∨ noOwnV (n39 t) = true := fun _ => .inl rfl
/-! loop.example/g00222/laws.eqSharesResult -/
def a40 : Args cxT.ty ((Int × (List (Int × Int))) × (Int × (List (Int × Int)))) := (Args.cons (Arg.agg (SArg.cons (LArg.int .i64) (SArg.one (LArg.row 31)))) (Args.one (Arg.agg (SArg.cons (LArg.int .i64) (SArg.one (LArg.row 31))))))
def n40 : Bool → V cxT.ty := fun t => (.inl (.inl (lv (.bool t))))
def dd40 : Bool := false
abbrev c40 (m : ((Int × (List (Int × Int))) × (Int × (List (Int × Int)))) → Option Bool) := fnT (cx := cxT) a40 n40 dd40 m
theorem hs40 : ∀ t, noRoV (n40 t) = true ∨ noOwnV (n40 t) = true := fun _ => .inl rfl
/-! loop.example/g00222/laws.markSharesResult -/
def a41 : Args cxT.ty ((Int × (List (Int × Int))) × Int) := (Args.cons (Arg.agg (SArg.cons (LArg.int .i64) (SArg.one (LArg.own 31)))) (Args.one (Arg.leaf (LArg.int .i64))))
def n41 : (Int × Int × (List (Int × Int))) → List (A cxT.ty) := fun t => [(.inl (lv (.int .i64 t.1))), (.inr [(lv (.int .i64 t.2.1)), (ls { own := 2, nm := 0, e := 31, o := true, xs := t.2.2 })])]
def dd41 : (Int × Int × (List (Int × Int))) := ((0 : Int), (0 : Int), [])
abbrev c41 (m : ((Int × (List (Int × Int))) × Int) → Option (Int × Int × (List (Int × Int)))) : WFn cxT := { nres := 1, n := 1, F := fnW (cx := cxT) a41 n41 dd41 m }
theorem hs41 : ∀ t, noRoV (.inr (.inl (n41 t)) : V cxT.ty) = true := fun _ => rfl
/-! loop.example/g00222/laws.heldSharesResult -/
def a42 : Args cxT.ty ((Int × (List (Int × Int))) × Int) := (Args.cons (Arg.agg (SArg.cons (LArg.int .i64) (SArg.one (LArg.row 31)))) (Args.one (Arg.leaf (LArg.int .i64))))
def n42 : Int → V cxT.ty := fun t => (.inl (.inl (lv (.int .i64 t))))
def dd42 : Int := (0 : Int)
abbrev c42 (m : ((Int × (List (Int × Int))) × Int) → Option Int) := fnT (cx := cxT) a42 n42 dd42 m
theorem hs42 : ∀ t, noRoV (n42 t) = true ∨ noOwnV (n42 t) = true := fun _ => .inl rfl
/-! loop.example/g00222/impl.turnsOf -/
def a45 : Args cxT.ty ((List (Int × Int)) × (List Int)) := (Args.cons (Arg.leaf (LArg.row 31)) (Args.one (Arg.leaf (LArg.row 2))))
def n45 : (List PUnit) → V cxT.ty := fun t => (.inl (.inl (ls { own := 2, nm := 0, e := 68, o := true, xs := t })))
def dd45 : (List PUnit) := []
abbrev c45 (m : ((List (Int × Int)) × (List Int)) → Option (List PUnit)) := fnT (cx := cxT) a45 n45 dd45 m
theorem hs45 : ∀ t, noRoV (n45 t) = true ∨ noOwnV (n45 t) = true := fun _ => .inl rfl
/-! loop.example/g00222/spec.l4Fill -/
def a46 : Args cxT.ty (List (Int × Int)) := (Args.one (Arg.leaf (LArg.row 31)))
def n46 : (List Int) → V cxT.ty := fun t => (.inl (.inl (ls { own := 2, nm := 0, e := 2, o := true, xs := t })))
def dd46 : (List Int) := []
abbrev c46 (m : (List (Int × Int)) → Option (List Int)) := fnT (cx := cxT) a46 n46 dd46 m
theorem hs46 : ∀ t, noRoV (n46 t) = true ∨ noOwnV (n46 t) = true := fun _ => .inl rfl
/-! loop.example/g00222/impl.tableFault -/
def a47 : Args cxT.ty (List Int) := (Args.one (Arg.leaf (LArg.row 2)))
def n47 : Int → V cxT.ty := fun t => (.inl (.inl (lv (.int .i64 t))))
def dd47 : Int := (0 : Int)
abbrev c47 (m : (List Int) → Option Int) := fnT (cx := cxT) a47 n47 dd47 m
theorem hs47 : ∀ t, noRoV (n47 t) = true ∨ noOwnV (n47 t) = true := fun _ => .inl rfl
/-! loop.example/g00222/impl.countsOf -/
def a48 : Args cxT.ty ((List Int) × (List (Int × Int))) := (Args.cons (Arg.leaf (LArg.row 2)) (Args.one (Arg.leaf (LArg.row 31))))
def n48 : (List Int) → V cxT.ty := fun t => (.inl (.inl (ls { own := 2, nm := 0, e := 2, o := true, xs := t })))
def dd48 : (List Int) := []
abbrev c48 (m : ((List Int) × (List (Int × Int))) → Option (List Int)) := fnT (cx := cxT) a48 n48 dd48 m
theorem hs48 : ∀ t, noRoV (n48 t) = true ∨ noOwnV (n48 t) = true := fun _ => .inl rfl
/-! slices.Min[[]int64,int64] -/
def a49 : Args cxT.ty (List Int) := (Args.one (Arg.leaf (LArg.row 2)))
def n49 : Int → V cxT.ty := fun t => (.inl (.inl (lv (.int .i64 t))))
def dd49 : Int := (0 : Int)
abbrev c49 (m : (List Int) → Option Int) := fnT (cx := cxT) a49 n49 dd49 m
theorem hs49 : ∀ t, noRoV (n49 t) = true ∨ noOwnV (n49 t) = true := fun _ => .inl rfl
/-! slices.Max[[]int64,int64] -/
def a50 : Args cxT.ty (List Int) := (Args.one (Arg.leaf (LArg.row 2)))
def n50 : Int → V cxT.ty := fun t => (.inl (.inl (lv (.int .i64 t))))
def dd50 : Int := (0 : Int)
abbrev c50 (m : (List Int) → Option Int) := fnT (cx := cxT) a50 n50 dd50 m
theorem hs50 : ∀ t, noRoV (n50 t) = true ∨ noOwnV (n50 t) = true := fun _ => .inl rfl
/-! loop.example/g00222/spec.l3Name -/
def a53 : Args cxT.ty Int := (Args.one (Arg.leaf (LArg.int .i64)))
def n53 : Bool → V cxT.ty := fun t => (.inl (.inl (lv (.bool t))))
def dd53 : Bool := false
abbrev c53 (m : Int → Option Bool) := fnT (cx := cxT) a53 n53 dd53 m
theorem hs53 : ∀ t, noRoV (n53 t) = true ∨ noOwnV (n53 t) = true := fun _ => .inl rfl
/-! loop.example/g00222/spec.l1In -/
def a54 : Args cxT.ty (Int × Int × Int) := (Args.cons (Arg.leaf (LArg.int .i64)) (Args.cons (Arg.leaf (LArg.int .i64)) (Args.one (Arg.leaf (LArg.int .i64)))))
def n54 : Bool → V cxT.ty := fun t => (.inl (.inl (lv (.bool t))))
def dd54 : Bool := false
abbrev c54 (m : (Int × Int × Int) → Option Bool) := fnT (cx := cxT) a54 n54 dd54 m
theorem hs54 : ∀ t, noRoV (n54 t) = true ∨ noOwnV (n54 t) = true := fun _ => .inl rfl
/-! loop.example/g00222/laws.toShare -/
def a55 : Args cxT.ty (Int × Int) := (Args.one (Arg.agg (SArg.cons (LArg.int .i64) (SArg.one (LArg.int .i64)))))
def n55 : (Int × Int) → V cxT.ty := fun t => (.inl (.inr [(lv (.int .i64 t.1)), (lv (.int .i64 t.2))]))
def dd55 : (Int × Int) := ((0 : Int), (0 : Int))
abbrev c55 (m : (Int × Int) → Option (Int × Int)) := fnT (cx := cxT) a55 n55 dd55 m
theorem hs55 : ∀ t, noRoV (n55 t) = true ∨ noOwnV (n55 t) = true := fun _ => .inl rfl
/-! loop.example/g00222/impl.isName -/
def a56 : Args cxT.ty Int := (Args.one (Arg.leaf (LArg.int .i64)))
def n56 : Bool → V cxT.ty := fun t => (.inl (.inl (lv (.bool t))))
def dd56 : Bool := false
abbrev c56 (m : Int → Option Bool) := fnT (cx := cxT) a56 n56 dd56 m
theorem hs56 : ∀ t, noRoV (n56 t) = true ∨ noOwnV (n56 t) = true := fun _ => .inl rfl
/-! loop.example/g00222/impl.isWeight -/
def a57 : Args cxT.ty Int := (Args.one (Arg.leaf (LArg.int .i64)))
def n57 : Bool → V cxT.ty := fun t => (.inl (.inl (lv (.bool t))))
def dd57 : Bool := false
abbrev c57 (m : Int → Option Bool) := fnT (cx := cxT) a57 n57 dd57 m
theorem hs57 : ∀ t, noRoV (n57 t) = true ∨ noOwnV (n57 t) = true := fun _ => .inl rfl
/-! loop.example/g00222/laws.eqShare -/
def a58 : Args cxT.ty ((Int × Int) × (Int × Int)) := (Args.cons (Arg.agg (SArg.cons (LArg.int .i64) (SArg.one (LArg.int .i64)))) (Args.one (Arg.agg (SArg.cons (LArg.int .i64) (SArg.one (LArg.int .i64))))))
def n58 : Bool → V cxT.ty := fun t => (.inl (.inl (lv (.bool t))))
def dd58 : Bool := false
abbrev c58 (m : ((Int × Int) × (Int × Int)) → Option Bool) := fnT (cx := cxT) a58 n58 dd58 m
theorem hs58 : ∀ t, noRoV (n58 t) = true ∨ noOwnV (n58 t) = true := fun _ => .inl rfl
/-! loop.example/g00222/laws.markInt64S -/
def a59 : Args cxT.ty ((List Int) × Int) := (Args.cons (Arg.leaf (LArg.own 2)) (Args.one (Arg.leaf (LArg.int .i64))))
def n59 : (Int × (List Int)) → List (A cxT.ty) := fun t => [(.inl (lv (.int .i64 t.1))), (.inl (ls { own := 2, nm := 0, e := 2, o := true, xs := t.2 }))]
def dd59 : (Int × (List Int)) := ((0 : Int), [])
abbrev c59 (m : ((List Int) × Int) → Option (Int × (List Int))) : WFn cxT := { nres := 1, n := 1, F := fnW (cx := cxT) a59 n59 dd59 m }
theorem hs59 : ∀ t, noRoV (.inr (.inl (n59 t)) : V cxT.ty) = true := fun _ => rfl
/-! loop.example/g00222/laws.heldInt64S -/
def a60 : Args cxT.ty ((List Int) × Int) := (Args.cons (Arg.leaf (LArg.row 2)) (Args.one (Arg.leaf (LArg.int .i64))))
def n60 : Int → V cxT.ty := fun t => (.inl (.inl (lv (.int .i64 t))))
def dd60 : Int := (0 : Int)
abbrev c60 (m : ((List Int) × Int) → Option Int) := fnT (cx := cxT) a60 n60 dd60 m
theorem hs60 : ∀ t, noRoV (n60 t) = true ∨ noOwnV (n60 t) = true := fun _ => .inl rfl
/-! loop.example/g00222/spec.l1Min -/
def a61 : Args cxT.ty (Int × Int) := (Args.cons (Arg.leaf (LArg.int .i64)) (Args.one (Arg.leaf (LArg.int .i64))))
def n61 : Int → V cxT.ty := fun t => (.inl (.inl (lv (.int .i64 t))))
def dd61 : Int := (0 : Int)
abbrev c61 (m : (Int × Int) → Option Int) := fnT (cx := cxT) a61 n61 dd61 m
theorem hs61 : ∀ t, noRoV (n61 t) = true ∨ noOwnV (n61 t) = true := fun _ => .inl rfl
/-! loop.example/g00222/spec.l1Max -/
def a62 : Args cxT.ty (Int × Int) := (Args.cons (Arg.leaf (LArg.int .i64)) (Args.one (Arg.leaf (LArg.int .i64))))
def n62 : Int → V cxT.ty := fun t => (.inl (.inl (lv (.int .i64 t))))
def dd62 : Int := (0 : Int)
abbrev c62 (m : (Int × Int) → Option Int) := fnT (cx := cxT) a62 n62 dd62 m
theorem hs62 : ∀ t, noRoV (n62 t) = true ∨ noOwnV (n62 t) = true := fun _ => .inl rfl
/-! loop.example/g00222/laws.heldShareS -/
def a63 : Args cxT.ty ((List (Int × Int)) × Int) := (Args.cons (Arg.leaf (LArg.row 31)) (Args.one (Arg.leaf (LArg.int .i64))))
def n63 : Int → V cxT.ty := fun t => (.inl (.inl (lv (.int .i64 t))))
def dd63 : Int := (0 : Int)
abbrev c63 (m : ((List (Int × Int)) × Int) → Option Int) := fnT (cx := cxT) a63 n63 dd63 m
theorem hs63 : ∀ t, noRoV (n63 t) = true ∨ noOwnV (n63 t) = true := fun _ => .inl rfl
/-! loop.example/g00222/spec.l4Weights -/
def a67 : Args cxT.ty (List (Int × Int)) := (Args.one (Arg.leaf (LArg.row 31)))
def n67 : Int → V cxT.ty := fun t => (.inl (.inl (lv (.int .i64 t))))
def dd67 : Int := (0 : Int)
abbrev c67 (m : (List (Int × Int)) → Option Int) := fnT (cx := cxT) a67 n67 dd67 m
theorem hs67 : ∀ t, noRoV (n67 t) = true ∨ noOwnV (n67 t) = true := fun _ => .inl rfl
/-! loop.example/g00222/spec.l4Free -/
def a68 : Args cxT.ty ((List Int) × Int) := (Args.cons (Arg.leaf (LArg.row 2)) (Args.one (Arg.leaf (LArg.int .i64))))
def n68 : Int → V cxT.ty := fun t => (.inl (.inl (lv (.int .i64 t))))
def dd68 : Int := (0 : Int)
abbrev c68 (m : ((List Int) × Int) → Option Int) := fnT (cx := cxT) a68 n68 dd68 m
theorem hs68 : ∀ t, noRoV (n68 t) = true ∨ noOwnV (n68 t) = true := fun _ => .inl rfl
/-! loop.example/g00222/impl.turnOf$1 -/
def a70 : Args cxT.ty Unit := Args.nil
def n70 : Bool → V cxT.ty := fun t => (.inl (.inl (lv (.bool t))))
def dd70 : Bool := false
abbrev c70 (m : Unit → Option Bool) := fnT (cx := cxT) a70 n70 dd70 m
theorem hs70 : ∀ t, noRoV (n70 t) = true ∨ noOwnV (n70 t) = true := fun _ => .inl rfl
/-! loop.example/g00222/spec.l3Place -/
def a71 : Args cxT.ty (Int × Int) := (Args.cons (Arg.leaf (LArg.int .i64)) (Args.one (Arg.leaf (LArg.int .i64))))
def n71 : Int → V cxT.ty := fun t => (.inl (.inl (lv (.int .i64 t))))
def dd71 : Int := (0 : Int)
abbrev c71 (m : (Int × Int) → Option Int) := fnT (cx := cxT) a71 n71 dd71 m
theorem hs71 : ∀ t, noRoV (n71 t) = true ∨ noOwnV (n71 t) = true := fun _ => .inl rfl
/-! loop.example/g00222/impl.OffsetOf -/
def a72 : Args cxT.ty Int := (Args.one (Arg.leaf (LArg.int .i64)))
def n72 : (Int × Int) → V cxT.ty := fun t => (.inl (.inr [(lv (.int .i64 t.1)), (lv (.int .i64 t.2))]))
def dd72 : (Int × Int) := ((0 : Int), (0 : Int))
abbrev c72 (m : Int → Option (Int × Int)) := fnT (cx := cxT) a72 n72 dd72 m
theorem hs72 : ∀ t, noRoV (n72 t) = true ∨ noOwnV (n72 t) = true := fun _ => .inl rfl
/-! loop.example/g00222/impl.SkipOf -/
def a73 : Args cxT.ty Int := (Args.one (Arg.leaf (LArg.int .i64)))
def n73 : (Int × Int) → V cxT.ty := fun t => (.inl (.inr [(lv (.int .i64 t.1)), (lv (.int .i64 t.2))]))
def dd73 : (Int × Int) := ((0 : Int), (0 : Int))
abbrev c73 (m : Int → Option (Int × Int)) := fnT (cx := cxT) a73 n73 dd73 m
theorem hs73 : ∀ t, noRoV (n73 t) = true ∨ noOwnV (n73 t) = true := fun _ => .inl rfl
/-! loop.example/g00222/spec.l3Offset -/
def a75 : Args cxT.ty Int := (Args.one (Arg.leaf (LArg.int .i64)))
def n75 : Int → V cxT.ty := fun t => (.inl (.inl (lv (.int .i64 t))))
def dd75 : Int := (0 : Int)
abbrev c75 (m : Int → Option Int) := fnT (cx := cxT) a75 n75 dd75 m
theorem hs75 : ∀ t, noRoV (n75 t) = true ∨ noOwnV (n75 t) = true := fun _ => .inl rfl
/-! loop.example/g00222/spec.l3Skip -/
def a76 : Args cxT.ty Int := (Args.one (Arg.leaf (LArg.int .i64)))
def n76 : Int → V cxT.ty := fun t => (.inl (.inl (lv (.int .i64 t))))
def dd76 : Int := (0 : Int)
abbrev c76 (m : Int → Option Int) := fnT (cx := cxT) a76 n76 dd76 m
theorem hs76 : ∀ t, noRoV (n76 t) = true ∨ noOwnV (n76 t) = true := fun _ => .inl rfl
/-! loop.example/g00222/impl.MixNumber -/
def a77 : Args cxT.ty (Int × Int) := (Args.cons (Arg.leaf (LArg.int .i64)) (Args.one (Arg.leaf (LArg.int .i64))))
def n77 : Int → V cxT.ty := fun t => (.inl (.inl (lv (.int .i64 t))))
def dd77 : Int := (0 : Int)
abbrev c77 (m : (Int × Int) → Option Int) := fnT (cx := cxT) a77 n77 dd77 m
theorem hs77 : ∀ t, noRoV (n77 t) = true ∨ noOwnV (n77 t) = true := fun _ => .inl rfl
end Go.Proofs.Try

set_option linter.unusedVariables false
namespace Go.Proofs.Try
open Go Go.VM Go.RowKit
/-! loop.example/g00222/spec.MixNumber -/
def a78 : Args cxT.ty (Int × Int) := (Args.cons (Arg.leaf (LArg.int .i64)) (Args.one (Arg.leaf (LArg.int .i64))))
def n78 : Int → V cxT.ty := fun t => (.inl (.inl (lv (.int .i64 t))))
def dd78 : Int := (0 : Int)
abbrev c78 (m : (Int × Int) → Option Int) := fnT (cx := cxT) a78 n78 dd78 m
theorem hs78 : ∀ t, noRoV (n78 t) = true ∨ noOwnV (n78 t) = true := fun _ => .inl rfl
/-! loop.example/g00222/impl.leftBy -/
def a79 : Args cxT.ty (Int × Int) := (Args.cons (Arg.leaf (LArg.int .i64)) (Args.one (Arg.leaf (LArg.int .i64))))
def n79 : Int → V cxT.ty := fun t => (.inl (.inl (lv (.int .i64 t))))
def dd79 : Int := (0 : Int)
abbrev c79 (m : (Int × Int) → Option Int) := fnT (cx := cxT) a79 n79 dd79 m
theorem hs79 : ∀ t, noRoV (n79 t) = true ∨ noOwnV (n79 t) = true := fun _ => .inl rfl
/-! loop.example/g00222/spec.l3Mod -/
def a80 : Args cxT.ty (Int × Int) := (Args.cons (Arg.leaf (LArg.int .i64)) (Args.one (Arg.leaf (LArg.int .i64))))
def n80 : Int → V cxT.ty := fun t => (.inl (.inl (lv (.int .i64 t))))
def dd80 : Int := (0 : Int)
abbrev c80 (m : (Int × Int) → Option Int) := fnT (cx := cxT) a80 n80 dd80 m
theorem hs80 : ∀ t, noRoV (n80 t) = true ∨ noOwnV (n80 t) = true := fun _ => .inl rfl
end Go.Proofs.Try

set_option linter.unusedVariables false
namespace Go.Proofs.Try
open Go Go.VM Go.RowKit
/-! loop.example/g00222/spec.l4Bent -/
def a43 : Args cxT.ty ((List Int) × Int) := (Args.one (Arg.agg (SArg.cons (LArg.row 5) (SArg.one (LArg.int .i64)))))
def n43 : ((List (Int × Int)) × (List Int) × Int) → List (A cxT.ty) := fun t => [(.inl (ls { own := 2, nm := 0, e := 31, o := true, xs := t.1 })), (.inr [(ls (ro 5 t.2.1)), (lv (.int .i64 t.2.2))])]
def dd43 : ((List (Int × Int)) × (List Int) × Int) := ([], [], (0 : Int))
abbrev c43 (m : ((List Int) × Int) → Option ((List (Int × Int)) × (List Int) × Int)) : WFn cxT := { nres := 1, n := 0, F := fnW (cx := cxT) a43 n43 dd43 m, p := 1 }
/-! loop.example/g00222/spec.l1Source -/
def a44 : Args cxT.ty (List Int) := (Args.one (Arg.leaf (LArg.row 5)))
def n44 : ((List Int) × Int) → List (A cxT.ty) := fun t => [(.inr [(ls (ro 5 t.1)), (lv (.int .i64 t.2))])]
def dd44 : ((List Int) × Int) := ([], (0 : Int))
abbrev c44 (m : (List Int) → Option ((List Int) × Int)) : WFn cxT := { nres := 1, n := 0, F := fnW (cx := cxT) a44 n44 dd44 m, p := 2 }
/-! loop.example/g00222/spec.l1Chance -/
def a51 : Args cxT.ty (((List Int) × Int) × Int) := (Args.cons (Arg.agg (SArg.cons (LArg.row 5) (SArg.one (LArg.int .i64)))) (Args.one (Arg.leaf (LArg.int .i64))))
def n51 : (Bool × (List Int) × Int) → List (A cxT.ty) := fun t => [(.inl (lv (.bool t.1))), (.inr [(ls (ro 5 t.2.1)), (lv (.int .i64 t.2.2))])]
def dd51 : (Bool × (List Int) × Int) := (false, [], (0 : Int))
abbrev c51 (m : (((List Int) × Int) × Int) → Option (Bool × (List Int) × Int)) : WFn cxT := { nres := 1, n := 0, F := fnW (cx := cxT) a51 n51 dd51 m, p := 1 }
/-! loop.example/g00222/spec.l1Next -/
def a52 : Args cxT.ty (((List Int) × Int) × Int) := (Args.cons (Arg.agg (SArg.cons (LArg.row 5) (SArg.one (LArg.int .i64)))) (Args.one (Arg.leaf (LArg.int .i64))))
def n52 : (Int × (List Int) × Int) → List (A cxT.ty) := fun t => [(.inl (lv (.int .i64 t.1))), (.inr [(ls (ro 5 t.2.1)), (lv (.int .i64 t.2.2))])]
def dd52 : (Int × (List Int) × Int) := ((0 : Int), [], (0 : Int))
abbrev c52 (m : (((List Int) × Int) × Int) → Option (Int × (List Int) × Int)) : WFn cxT := { nres := 1, n := 0, F := fnW (cx := cxT) a52 n52 dd52 m, p := 1 }
/-! loop.example/g00222/spec.l4Shares -/
def a64 : Args cxT.ty ((List Int) × Int) := (Args.one (Arg.agg (SArg.cons (LArg.row 5) (SArg.one (LArg.int .i64)))))
def n64 : ((List (Int × Int)) × (List Int) × Int) → List (A cxT.ty) := fun t => [(.inl (ls { own := 2, nm := 0, e := 31, o := true, xs := t.1 })), (.inr [(ls (ro 5 t.2.1)), (lv (.int .i64 t.2.2))])]
def dd64 : ((List (Int × Int)) × (List Int) × Int) := ([], [], (0 : Int))
abbrev c64 (m : ((List Int) × Int) → Option ((List (Int × Int)) × (List Int) × Int)) : WFn cxT := { nres := 1, n := 0, F := fnW (cx := cxT) a64 n64 dd64 m, p := 1 }
/-! loop.example/g00222/spec.l1Pick -/
def a65 : Args cxT.ty (((List Int) × Int) × (List Int)) := (Args.cons (Arg.agg (SArg.cons (LArg.row 5) (SArg.one (LArg.int .i64)))) (Args.one (Arg.leaf (LArg.row 2))))
def n65 : (Int × (List Int) × Int) → List (A cxT.ty) := fun t => [(.inl (lv (.int .i64 t.1))), (.inr [(ls (ro 5 t.2.1)), (lv (.int .i64 t.2.2))])]
def dd65 : (Int × (List Int) × Int) := ((0 : Int), [], (0 : Int))
abbrev c65 (m : (((List Int) × Int) × (List Int)) → Option (Int × (List Int) × Int)) : WFn cxT := { nres := 1, n := 0, F := fnW (cx := cxT) a65 n65 dd65 m, p := 1 }
end Go.Proofs.Try
