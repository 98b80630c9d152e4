/- A part of the proof of FnExactTakeFrames: L1Base, L1Con. -/
import Derived.Test.YtggncacoajjjhaaVmJ
import Derived.Test.YtggncacoajjjhaaProg
namespace Go.Proofs.Try
open Go Go.VM Go.RowKit

def tyT (e : Nat) : Type := if e = 2 then Int else if e = 5 then Int else if e = 22 then List Int else Unit
def inhT (e : Nat) : tyT e := by unfold tyT; split <;> (try split) <;> (try split) <;> first | exact (0 : Int) | exact ([] : List Int) | exact ()
def cd2 : Cd tyT (tyT 2) := cdInt .i64
def cd5 : Cd tyT (tyT 5) := cdInt .u8
def cd22 : Cd tyT (tyT 22) := cdRow 5
def cdT (e : Nat) : Cd tyT (tyT e) :=
  if h : e = 2 then h.symm ▸ cd2 else if h : e = 5 then h.symm ▸ cd5 else if h : e = 22 then h.symm ▸ cd22 else cdNone (inhT e)
def cxT : Cx := Cx.of cdT
theorem cxT_ok : cxT.Ok := Cx.of_ok cdT
theorem dom_cases {e : Nat} (h : (cdT e).dom = true) : e = 2 ∨ e = 5 := by
  by_cases h1 : e = 2
  · exact .inl h1
  by_cases h2 : e = 5
  · exact .inr h2
  by_cases h3 : e = 22
  · subst h3; unfold cdT at h; rw [dif_neg h1, dif_neg h2, dif_pos rfl] at h; exact Bool.noConfusion h
  · unfold cdT at h; rw [dif_neg h1, dif_neg h2, dif_neg h3] at h; exact Bool.noConfusion h

theorem cxT_pok : cxT.POk prog := by
  refine ⟨fun e he => ?_, fun e he hu o x => ?_⟩
  · rcases dom_cases he with rfl | rfl
    · exact ⟨_, _, rfl, rfl, rfl, by decide, rfl, by decide, rfl⟩
    · exact ⟨_, _, rfl, rfl, rfl, by decide, rfl, by decide, rfl⟩
  · rcases dom_cases he with rfl | rfl
    · rw [underlying2] at hu
      cases hu
    · exact ⟨x, rfl⟩
end Go.Proofs.Try

set_option linter.unusedVariables false
namespace Go.Proofs.Try
open Go Go.VM Go.RowKit
/-! loop.example/g00222/laws.FnNumbers -/
def a3 : Args cxT.ty (List Int) := (Args.one (Arg.leaf (LArg.row 5)))
def n3 : Bool → V cxT.ty := fun t => (.inl (.inl (lv (.bool t))))
def dd3 : Bool := false
abbrev c3 (m : (List Int) → Option Bool) := fnT (cx := cxT) a3 n3 dd3 m
theorem hs3 : ∀ t, noRoV (n3 t) = true ∨ noOwnV (n3 t) = true := fun _ => .inl rfl
/-! loop.example/g00222/laws.FnSums -/
def a4 : Args cxT.ty (List Int) := (Args.one (Arg.leaf (LArg.row 5)))
def n4 : Bool → V cxT.ty := fun t => (.inl (.inl (lv (.bool t))))
def dd4 : Bool := false
abbrev c4 (m : (List Int) → Option Bool) := fnT (cx := cxT) a4 n4 dd4 m
theorem hs4 : ∀ t, noRoV (n4 t) = true ∨ noOwnV (n4 t) = true := fun _ => .inl rfl
/-! loop.example/g00222/laws.FnFrames -/
def a5 : Args cxT.ty (List Int) := (Args.one (Arg.leaf (LArg.row 5)))
def n5 : Bool → V cxT.ty := fun t => (.inl (.inl (lv (.bool t))))
def dd5 : Bool := false
abbrev c5 (m : (List Int) → Option Bool) := fnT (cx := cxT) a5 n5 dd5 m
theorem hs5 : ∀ t, noRoV (n5 t) = true ∨ noOwnV (n5 t) = true := fun _ => .inl rfl
/-! loop.example/g00222/laws.FnExactPutNumber -/
def a6 : Args cxT.ty (Int × Int) := (Args.cons (Arg.leaf (LArg.int .i64)) (Args.one (Arg.leaf (LArg.int .i64))))
def n6 : Bool → V cxT.ty := fun t => (.inl (.inl (lv (.bool t))))
def dd6 : Bool := false
abbrev c6 (m : (Int × Int) → Option Bool) := fnT (cx := cxT) a6 n6 dd6 m
theorem hs6 : ∀ t, noRoV (n6 t) = true ∨ noOwnV (n6 t) = true := fun _ => .inl rfl
/-! loop.example/g00222/laws.FnExactTakeNumber -/
def a7 : Args cxT.ty ((List Int) × Int × Int) := (Args.cons (Arg.leaf (LArg.row 5)) (Args.cons (Arg.leaf (LArg.int .i64)) (Args.one (Arg.leaf (LArg.int .i64)))))
def n7 : Bool → V cxT.ty := fun t => (.inl (.inl (lv (.bool t))))
def dd7 : Bool := false
abbrev c7 (m : ((List Int) × Int × Int) → Option Bool) := fnT (cx := cxT) a7 n7 dd7 m
theorem hs7 : ∀ t, noRoV (n7 t) = true ∨ noOwnV (n7 t) = true := fun _ => .inl rfl
/-! loop.example/g00222/laws.FnExactSumWords -/
def a8 : Args cxT.ty (List Int) := (Args.one (Arg.leaf (LArg.row 5)))
def n8 : Bool → V cxT.ty := fun t => (.inl (.inl (lv (.bool t))))
def dd8 : Bool := false
abbrev c8 (m : (List Int) → Option Bool) := fnT (cx := cxT) a8 n8 dd8 m
theorem hs8 : ∀ t, noRoV (n8 t) = true ∨ noOwnV (n8 t) = true := fun _ => .inl rfl
/-! loop.example/g00222/laws.FnExactWholeSum -/
def a9 : Args cxT.ty (List Int) := (Args.one (Arg.leaf (LArg.row 5)))
def n9 : Bool → V cxT.ty := fun t => (.inl (.inl (lv (.bool t))))
def dd9 : Bool := false
abbrev c9 (m : (List Int) → Option Bool) := fnT (cx := cxT) a9 n9 dd9 m
theorem hs9 : ∀ t, noRoV (n9 t) = true ∨ noOwnV (n9 t) = true := fun _ => .inl rfl
/-! loop.example/g00222/laws.FnExactPutFrame -/
def a10 : Args cxT.ty (List Int) := (Args.one (Arg.leaf (LArg.row 5)))
def n10 : Bool → V cxT.ty := fun t => (.inl (.inl (lv (.bool t))))
def dd10 : Bool := false
abbrev c10 (m : (List Int) → Option Bool) := fnT (cx := cxT) a10 n10 dd10 m
theorem hs10 : ∀ t, noRoV (n10 t) = true ∨ noOwnV (n10 t) = true := fun _ => .inl rfl
/-! loop.example/g00222/laws.FnExactTakeFrames -/
def a11 : Args cxT.ty (List Int) := (Args.one (Arg.leaf (LArg.row 5)))
def n11 : Bool → V cxT.ty := fun t => (.inl (.inl (lv (.bool t))))
def dd11 : Bool := false
abbrev c11 (m : (List Int) → Option Bool) := fnT (cx := cxT) a11 n11 dd11 m
theorem hs11 : ∀ t, noRoV (n11 t) = true ∨ noOwnV (n11 t) = true := fun _ => .inl rfl
/-! loop.example/g00222/laws.lwBig -/
def a12 : Args cxT.ty (List Int) := (Args.one (Arg.leaf (LArg.row 5)))
def n12 : Bool → V cxT.ty := fun t => (.inl (.inl (lv (.bool t))))
def dd12 : Bool := false
abbrev c12 (m : (List Int) → Option Bool) := fnT (cx := cxT) a12 n12 dd12 m
theorem hs12 : ∀ t, noRoV (n12 t) = true ∨ noOwnV (n12 t) = true := fun _ => .inl rfl
/-! loop.example/g00222/spec.DrawPutNumber -/
def a13 : Args cxT.ty (List Int) := (Args.one (Arg.leaf (LArg.row 5)))
def n13 : (Int × Int) → V cxT.ty := fun t => (.inr (.inl [(.inl (lv (.int .i64 t.1))), (.inl (lv (.int .i64 t.2)))]))
def dd13 : (Int × Int) := ((0 : Int), (0 : Int))
abbrev c13 (m : (List Int) → Option (Int × Int)) := fnT (cx := cxT) a13 n13 dd13 m
theorem hs13 : ∀ t, noRoV (n13 t) = true ∨ noOwnV (n13 t) = true := fun _ => .inl rfl
/-! loop.example/g00222/impl.PutNumber -/
def a14 : Args cxT.ty (Int × Int) := (Args.cons (Arg.leaf (LArg.int .i64)) (Args.one (Arg.leaf (LArg.int .i64))))
def n14 : (Int × (List Int)) → V cxT.ty := fun t => (.inl (.inr [(lv (.int .i64 t.1)), (ls { own := 2, nm := 0, e := 5, o := true, xs := t.2 })]))
def dd14 : (Int × (List Int)) := ((0 : Int), [])
abbrev c14 (m : (Int × Int) → Option (Int × (List Int))) := fnT (cx := cxT) a14 n14 dd14 m
theorem hs14 : ∀ t, noRoV (n14 t) = true ∨ noOwnV (n14 t) = true := fun _ => .inl rfl
/-! loop.example/g00222/spec.PutNumber -/
def a15 : Args cxT.ty (Int × Int) := (Args.cons (Arg.leaf (LArg.int .i64)) (Args.one (Arg.leaf (LArg.int .i64))))
def n15 : (Int × (List Int)) → V cxT.ty := fun t => (.inl (.inr [(lv (.int .i64 t.1)), (ls { own := 2, nm := 0, e := 5, o := true, xs := t.2 })]))
def dd15 : (Int × (List Int)) := ((0 : Int), [])
abbrev c15 (m : (Int × Int) → Option (Int × (List Int))) := fnT (cx := cxT) a15 n15 dd15 m
theorem hs15 : ∀ t, noRoV (n15 t) = true ∨ noOwnV (n15 t) = true := fun _ => .inl rfl
/-! loop.example/g00222/impl.TakeNumber -/
def a16 : Args cxT.ty ((List Int) × Int × Int) := (Args.cons (Arg.leaf (LArg.row 5)) (Args.cons (Arg.leaf (LArg.int .i64)) (Args.one (Arg.leaf (LArg.int .i64)))))
def n16 : (Int × Int) → V cxT.ty := fun t => (.inl (.inr [(lv (.int .i64 t.1)), (lv (.int .i64 t.2))]))
def dd16 : (Int × Int) := ((0 : Int), (0 : Int))
abbrev c16 (m : ((List Int) × Int × Int) → Option (Int × Int)) := fnT (cx := cxT) a16 n16 dd16 m
theorem hs16 : ∀ t, noRoV (n16 t) = true ∨ noOwnV (n16 t) = true := fun _ => .inl rfl
/-! loop.example/g00222/spec.DrawSumWords -/
def a17 : Args cxT.ty (List Int) := (Args.one (Arg.leaf (LArg.row 5)))
def n17 : (List Int) → V cxT.ty := fun t => (.inl (.inl (ls { own := 2, nm := 0, e := 5, o := true, xs := t })))
def dd17 : (List Int) := []
abbrev c17 (m : (List Int) → Option (List Int)) := fnT (cx := cxT) a17 n17 dd17 m
theorem hs17 : ∀ t, noRoV (n17 t) = true ∨ noOwnV (n17 t) = true := fun _ => .inl rfl
/-! loop.example/g00222/impl.SumWords -/
def a18 : Args cxT.ty (List Int) := (Args.one (Arg.leaf (LArg.row 5)))
def n18 : Int → V cxT.ty := fun t => (.inl (.inl (lv (.int .i64 t))))
def dd18 : Int := (0 : Int)
abbrev c18 (m : (List Int) → Option Int) := fnT (cx := cxT) a18 n18 dd18 m
theorem hs18 : ∀ t, noRoV (n18 t) = true ∨ noOwnV (n18 t) = true := fun _ => .inl rfl
/-! loop.example/g00222/impl.WholeSum -/
def a19 : Args cxT.ty (List Int) := (Args.one (Arg.leaf (LArg.row 5)))
def n19 : Bool → V cxT.ty := fun t => (.inl (.inl (lv (.bool t))))
def dd19 : Bool := false
abbrev c19 (m : (List Int) → Option Bool) := fnT (cx := cxT) a19 n19 dd19 m
theorem hs19 : ∀ t, noRoV (n19 t) = true ∨ noOwnV (n19 t) = true := fun _ => .inl rfl
/-! loop.example/g00222/spec.SumWords -/
def a20 : Args cxT.ty (List Int) := (Args.one (Arg.leaf (LArg.row 5)))
def n20 : Int → V cxT.ty := fun t => (.inl (.inl (lv (.int .i64 t))))
def dd20 : Int := (0 : Int)
abbrev c20 (m : (List Int) → Option Int) := fnT (cx := cxT) a20 n20 dd20 m
theorem hs20 : ∀ t, noRoV (n20 t) = true ∨ noOwnV (n20 t) = true := fun _ => .inl rfl
/-! loop.example/g00222/spec.DrawPutFrame -/
def a21 : Args cxT.ty (List Int) := (Args.one (Arg.leaf (LArg.row 5)))
def n21 : (List Int) → V cxT.ty := fun t => (.inl (.inl (ls { own := 2, nm := 0, e := 5, o := true, xs := t })))
def dd21 : (List Int) := []
abbrev c21 (m : (List Int) → Option (List Int)) := fnT (cx := cxT) a21 n21 dd21 m
theorem hs21 : ∀ t, noRoV (n21 t) = true ∨ noOwnV (n21 t) = true := fun _ => .inl rfl
/-! loop.example/g00222/impl.PutFrame -/
def a22 : Args cxT.ty (List Int) := (Args.one (Arg.leaf (LArg.row 5)))
def n22 : (Int × (List Int)) → V cxT.ty := fun t => (.inl (.inr [(lv (.int .i64 t.1)), (ls { own := 2, nm := 0, e := 5, o := true, xs := t.2 })]))
def dd22 : (Int × (List Int)) := ((0 : Int), [])
abbrev c22 (m : (List Int) → Option (Int × (List Int))) := fnT (cx := cxT) a22 n22 dd22 m
theorem hs22 : ∀ t, noRoV (n22 t) = true ∨ noOwnV (n22 t) = true := fun _ => .inl rfl
/-! loop.example/g00222/spec.PutFrame -/
def a23 : Args cxT.ty (List Int) := (Args.one (Arg.leaf (LArg.row 5)))
def n23 : (Int × (List Int)) → V cxT.ty := fun t => (.inl (.inr [(lv (.int .i64 t.1)), (ls { own := 2, nm := 0, e := 5, o := true, xs := t.2 })]))
def dd23 : (Int × (List Int)) := ((0 : Int), [])
abbrev c23 (m : (List Int) → Option (Int × (List Int))) := fnT (cx := cxT) a23 n23 dd23 m
theorem hs23 : ∀ t, noRoV (n23 t) = true ∨ noOwnV (n23 t) = true := fun _ => .inl rfl
/-! loop.example/g00222/laws.lwAt -/
def a24 : Args cxT.ty ((List Int) × Int × Int) := (Args.cons (Arg.leaf (LArg.row 5)) (Args.cons (Arg.leaf (LArg.int .i64)) (Args.one (Arg.leaf (LArg.int .i64)))))
def n24 : Int → V cxT.ty := fun t => (.inl (.inl (lv (.int .i64 t))))
def dd24 : Int := (0 : Int)
abbrev c24 (m : ((List Int) × Int × Int) → Option Int) := fnT (cx := cxT) a24 n24 dd24 m
theorem hs24 : ∀ t, noRoV (n24 t) = true ∨ noOwnV (n24 t) = true := fun _ => .inl rfl
/-! loop.example/g00222/impl.TakeFrames -/
def a25 : Args cxT.ty (List Int) := (Args.one (Arg.leaf (LArg.row 5)))
def n25 : (Int × Int × (List (List Int))) → V cxT.ty := fun t => (.inl (.inr [(lv (.int .i64 t.1)), (lv (.int .i64 t.2.1)), (ls { own := 2, nm := 0, e := 22, o := true, xs := t.2.2 })]))
def dd25 : (Int × Int × (List (List Int))) := ((0 : Int), (0 : Int), [])
abbrev c25 (m : (List Int) → Option (Int × Int × (List (List Int)))) := fnT (cx := cxT) a25 n25 dd25 m
theorem hs25 : ∀ t, noRoV (n25 t) = true ∨ noOwnV (n25 t) = true := fun _ => .inl rfl
/-! loop.example/g00222/laws.eqBytesResult -/
def a26 : Args cxT.ty ((Int × (List Int)) × (Int × (List Int))) := (Args.cons (Arg.agg (SArg.cons (LArg.int .i64) (SArg.one (LArg.row 5)))) (Args.one (Arg.agg (SArg.cons (LArg.int .i64) (SArg.one (LArg.row 5))))))
def n26 : Bool → V cxT.ty := fun t => (.inl (.inl (lv (.bool t))))
def dd26 : Bool := false
abbrev c26 (m : ((Int × (List Int)) × (Int × (List Int))) → Option Bool) := fnT (cx := cxT) a26 n26 dd26 m
theorem hs26 : ∀ t, noRoV (n26 t) = true ∨ noOwnV (n26 t) = true := fun _ => .inl rfl
/-! loop.example/g00222/laws.markBytesResult -/
def a27 : Args cxT.ty ((Int × (List Int)) × Int) := (Args.cons (Arg.agg (SArg.cons (LArg.int .i64) (SArg.one (LArg.own 5)))) (Args.one (Arg.leaf (LArg.int .i64))))
def n27 : (Int × Int × (List Int)) → List (A cxT.ty) := fun t => [(.inl (lv (.int .i64 t.1))), (.inr [(lv (.int .i64 t.2.1)), (ls { own := 2, nm := 0, e := 5, o := true, xs := t.2.2 })])]
def dd27 : (Int × Int × (List Int)) := ((0 : Int), (0 : Int), [])
abbrev c27 (m : ((Int × (List Int)) × Int) → Option (Int × Int × (List Int))) : WFn cxT := { nres := 1, n := 1, F := fnW (cx := cxT) a27 n27 dd27 m }
theorem hs27 : ∀ t, noRoV (.inr (.inl (n27 t)) : V cxT.ty) = true := fun _ => rfl
/-! loop.example/g00222/laws.heldBytesResult -/
def a28 : Args cxT.ty ((Int × (List Int)) × Int) := (Args.cons (Arg.agg (SArg.cons (LArg.int .i64) (SArg.one (LArg.row 5)))) (Args.one (Arg.leaf (LArg.int .i64))))
def n28 : Int → V cxT.ty := fun t => (.inl (.inl (lv (.int .i64 t))))
def dd28 : Int := (0 : Int)
abbrev c28 (m : ((Int × (List Int)) × Int) → Option Int) := fnT (cx := cxT) a28 n28 dd28 m
theorem hs28 : ∀ t, noRoV (n28 t) = true ∨ noOwnV (n28 t) = true := fun _ => .inl rfl
/-! loop.example/g00222/spec.TakeNumber -/
def a29 : Args cxT.ty ((List Int) × Int × Int) := (Args.cons (Arg.leaf (LArg.row 5)) (Args.cons (Arg.leaf (LArg.int .i64)) (Args.one (Arg.leaf (LArg.int .i64)))))
def n29 : (Int × Int) → V cxT.ty := fun t => (.inl (.inr [(lv (.int .i64 t.1)), (lv (.int .i64 t.2))]))
def dd29 : (Int × Int) := ((0 : Int), (0 : Int))
abbrev c29 (m : ((List Int) × Int × Int) → Option (Int × Int)) := fnT (cx := cxT) a29 n29 dd29 m
theorem hs29 : ∀ t, noRoV (n29 t) = true ∨ noOwnV (n29 t) = true := fun _ => .inl rfl
/-! loop.example/g00222/laws.toByteS -/
def a30 : Args cxT.ty (List Int) := (Args.one (Arg.leaf (LArg.row 5)))
def n30 : (List Int) → V cxT.ty := fun t => (.inl (.inl (ls { own := 2, nm := 0, e := 5, o := true, xs := t })))
def dd30 : (List Int) := []
abbrev c30 (m : (List Int) → Option (List Int)) := fnT (cx := cxT) a30 n30 dd30 m
theorem hs30 : ∀ t, noRoV (n30 t) = true ∨ noOwnV (n30 t) = true := fun _ => .inl rfl
/-! loop.example/g00222/laws.eqIntResult -/
def a31 : Args cxT.ty ((Int × Int) × (Int × Int)) := (Args.cons (Arg.agg (SArg.cons (LArg.int .i64) (SArg.one (LArg.int .i64)))) (Args.one (Arg.agg (SArg.cons (LArg.int .i64) (SArg.one (LArg.int .i64))))))
def n31 : Bool → V cxT.ty := fun t => (.inl (.inl (lv (.bool t))))
def dd31 : Bool := false
abbrev c31 (m : ((Int × Int) × (Int × Int)) → Option Bool) := fnT (cx := cxT) a31 n31 dd31 m
theorem hs31 : ∀ t, noRoV (n31 t) = true ∨ noOwnV (n31 t) = true := fun _ => .inl rfl
/-! loop.example/g00222/laws.eqByteS -/
def a32 : Args cxT.ty ((List Int) × (List Int)) := (Args.cons (Arg.leaf (LArg.row 5)) (Args.one (Arg.leaf (LArg.row 5))))
def n32 : Bool → V cxT.ty := fun t => (.inl (.inl (lv (.bool t))))
def dd32 : Bool := false
abbrev c32 (m : ((List Int) × (List Int)) → Option Bool) := fnT (cx := cxT) a32 n32 dd32 m
theorem hs32 : ∀ t, noRoV (n32 t) = true ∨ noOwnV (n32 t) = true := fun _ => .inl rfl
/-! loop.example/g00222/spec.WholeSum -/
def a33 : Args cxT.ty (List Int) := (Args.one (Arg.leaf (LArg.row 5)))
def n33 : Bool → V cxT.ty := fun t => (.inl (.inl (lv (.bool t))))
def dd33 : Bool := false
abbrev c33 (m : (List Int) → Option Bool) := fnT (cx := cxT) a33 n33 dd33 m
theorem hs33 : ∀ t, noRoV (n33 t) = true ∨ noOwnV (n33 t) = true := fun _ => .inl rfl
/-! loop.example/g00222/laws.markByteS -/
def a34 : Args cxT.ty ((List Int) × Int) := (Args.cons (Arg.leaf (LArg.own 5)) (Args.one (Arg.leaf (LArg.int .i64))))
def n34 : (Int × (List Int)) → List (A cxT.ty) := fun t => [(.inl (lv (.int .i64 t.1))), (.inl (ls { own := 2, nm := 0, e := 5, o := true, xs := t.2 }))]
def dd34 : (Int × (List Int)) := ((0 : Int), [])
abbrev c34 (m : ((List Int) × Int) → Option (Int × (List Int))) : WFn cxT := { nres := 1, n := 1, F := fnW (cx := cxT) a34 n34 dd34 m }
theorem hs34 : ∀ t, noRoV (.inr (.inl (n34 t)) : V cxT.ty) = true := fun _ => rfl
/-! loop.example/g00222/spec.TakeFrames -/
def a35 : Args cxT.ty (List Int) := (Args.one (Arg.leaf (LArg.row 5)))
def n35 : (Int × Int × (List (List Int))) → V cxT.ty := fun t => (.inl (.inr [(lv (.int .i64 t.1)), (lv (.int .i64 t.2.1)), (ls { own := 2, nm := 0, e := 22, o := true, xs := t.2.2 })]))
def dd35 : (Int × Int × (List (List Int))) := ((0 : Int), (0 : Int), [])
abbrev c35 (m : (List Int) → Option (Int × Int × (List (List Int)))) := fnT (cx := cxT) a35 n35 dd35 m
theorem hs35 : ∀ t, noRoV (n35 t) = true ∨ noOwnV (n35 t) = true := fun _ => .inl rfl
/-! loop.example/g00222/laws.eqFramesResult -/
def a36 : Args cxT.ty ((Int × Int × (List (List Int))) × (Int × Int × (List (List Int)))) := (Args.cons (Arg.agg (SArg.cons (LArg.int .i64) (SArg.cons (LArg.int .i64) (SArg.one (LArg.row 22))))) (Args.one (Arg.agg (SArg.cons (LArg.int .i64) (SArg.cons (LArg.int .i64) (SArg.one (LArg.row 22)))))))
def n36 : Bool → V cxT.ty := fun t => (.inl (.inl (lv (.bool t))))
def dd36 : Bool := false
abbrev c36 (m : ((Int × Int × (List (List Int))) × (Int × Int × (List (List Int)))) → Option Bool) := fnT (cx := cxT) a36 n36 dd36 m
theorem hs36 : ∀ t, noRoV (n36 t) = true ∨ noOwnV (n36 t) = true := fun _ => .inl rfl
/-! loop.example/g00222/laws.markFramesResult -/
def a37 : Args cxT.ty ((Int × Int × (List (List Int))) × Int) := (Args.cons (Arg.agg (SArg.cons (LArg.int .i64) (SArg.cons (LArg.int .i64) (SArg.one (LArg.own 22))))) (Args.one (Arg.leaf (LArg.int .i64))))
def n37 : (Int × Int × Int × (List (List Int))) → List (A cxT.ty) := fun t => [(.inl (lv (.int .i64 t.1))), (.inr [(lv (.int .i64 t.2.1)), (lv (.int .i64 t.2.2.1)), (ls { own := 2, nm := 0, e := 22, o := true, xs := t.2.2.2 })])]
def dd37 : (Int × Int × Int × (List (List Int))) := ((0 : Int), (0 : Int), (0 : Int), [])
abbrev c37 (m : ((Int × Int × (List (List Int))) × Int) → Option (Int × Int × Int × (List (List Int)))) : WFn cxT := { nres := 1, n := 1, F := fnW (cx := cxT) a37 n37 dd37 m, p := 4 }
theorem hs37 : ∀ t, noRoV (.inr (.inl (n37 t)) : V cxT.ty) = true := fun _ => rfl
/-! loop.example/g00222/laws.heldFramesResult -/
def a38 : Args cxT.ty ((Int × Int × (List (List Int))) × Int) := (Args.cons (Arg.agg (SArg.cons (LArg.int .i64) (SArg.cons (LArg.int .i64) (SArg.one (LArg.row 22))))) (Args.one (Arg.leaf (LArg.int .i64))))
def n38 : Int → V cxT.ty := fun t => (.inl (.inl (lv (.int .i64 t))))
def dd38 : Int := (0 : Int)
abbrev c38 (m : ((Int × Int × (List (List Int))) × Int) → Option Int) := fnT (cx := cxT) a38 n38 dd38 m
theorem hs38 : ∀ t, noRoV (n38 t) = true ∨ noOwnV (n38 t) = true := fun _ => .inl rfl
/-! loop.example/g00222/spec.l1Source -/
def a39 : Args cxT.ty (List Int) := (Args.one (Arg.leaf (LArg.row 5)))
def n39 : ((List Int) × Int) → List (A cxT.ty) := fun t => [(.inr [(ls (ro 5 t.1)), (lv (.int .i64 t.2))])]
def dd39 : ((List Int) × Int) := ([], (0 : Int))
abbrev c39 (m : (List Int) → Option ((List Int) × Int)) : WFn cxT := { nres := 1, n := 0, F := fnW (cx := cxT) a39 n39 dd39 m, p := 2 }
/-! loop.example/g00222/spec.l1Pick -/
def a40 : Args cxT.ty (((List Int) × Int) × (List Int)) := (Args.cons (Arg.agg (SArg.cons (LArg.row 5) (SArg.one (LArg.int .i64)))) (Args.one (Arg.leaf (LArg.row 2))))
def n40 : (Int × (List Int) × Int) → List (A cxT.ty) := fun t => [(.inl (lv (.int .i64 t.1))), (.inr [(ls (ro 5 t.2.1)), (lv (.int .i64 t.2.2))])]
def dd40 : (Int × (List Int) × Int) := ((0 : Int), [], (0 : Int))
abbrev c40 (m : (((List Int) × Int) × (List Int)) → Option (Int × (List Int) × Int)) : WFn cxT := { nres := 1, n := 0, F := fnW (cx := cxT) a40 n40 dd40 m, p := 1 }
/-! loop.example/g00222/spec.l1Max -/
def a41 : Args cxT.ty (Int × Int) := (Args.cons (Arg.leaf (LArg.int .i64)) (Args.one (Arg.leaf (LArg.int .i64))))
def n41 : Int → V cxT.ty := fun t => (.inl (.inl (lv (.int .i64 t))))
def dd41 : Int := (0 : Int)
abbrev c41 (m : (Int × Int) → Option Int) := fnT (cx := cxT) a41 n41 dd41 m
theorem hs41 : ∀ t, noRoV (n41 t) = true ∨ noOwnV (n41 t) = true := fun _ => .inl rfl
/-! loop.example/g00222/spec.l1Min -/
def a42 : Args cxT.ty (Int × Int) := (Args.cons (Arg.leaf (LArg.int .i64)) (Args.one (Arg.leaf (LArg.int .i64))))
def n42 : Int → V cxT.ty := fun t => (.inl (.inl (lv (.int .i64 t))))
def dd42 : Int := (0 : Int)
abbrev c42 (m : (Int × Int) → Option Int) := fnT (cx := cxT) a42 n42 dd42 m
theorem hs42 : ∀ t, noRoV (n42 t) = true ∨ noOwnV (n42 t) = true := fun _ => .inl rfl
/-! loop.example/g00222/spec.l1Next -/
def a43 : Args cxT.ty (((List Int) × Int) × Int) := (Args.cons (Arg.agg (SArg.cons (LArg.row 5) (SArg.one (LArg.int .i64)))) (Args.one (Arg.leaf (LArg.int .i64))))
def n43 : (Int × (List Int) × Int) → List (A cxT.ty) := fun t => [(.inl (lv (.int .i64 t.1))), (.inr [(ls (ro 5 t.2.1)), (lv (.int .i64 t.2.2))])]
def dd43 : (Int × (List Int) × Int) := ((0 : Int), [], (0 : Int))
abbrev c43 (m : (((List Int) × Int) × Int) → Option (Int × (List Int) × Int)) : WFn cxT := { nres := 1, n := 0, F := fnW (cx := cxT) a43 n43 dd43 m, p := 1 }
/-! loop.example/g00222/impl.isNumberSize -/
def a44 : Args cxT.ty Int := (Args.one (Arg.leaf (LArg.int .i64)))
def n44 : Bool → V cxT.ty := fun t => (.inl (.inl (lv (.bool t))))
def dd44 : Bool := false
abbrev c44 (m : Int → Option Bool) := fnT (cx := cxT) a44 n44 dd44 m
theorem hs44 : ∀ t, noRoV (n44 t) = true ∨ noOwnV (n44 t) = true := fun _ => .inl rfl
/-! loop.example/g00222/impl.greatestNumber -/
def a45 : Args cxT.ty Int := (Args.one (Arg.leaf (LArg.int .i64)))
def n45 : Int → V cxT.ty := fun t => (.inl (.inl (lv (.int .u64 t))))
def dd45 : Int := (0 : Int)
abbrev c45 (m : Int → Option Int) := fnT (cx := cxT) a45 n45 dd45 m
theorem hs45 : ∀ t, noRoV (n45 t) = true ∨ noOwnV (n45 t) = true := fun _ => .inl rfl
/-! loop.example/g00222/impl.numberBytes -/
def a46 : Args cxT.ty (Int × Int) := (Args.cons (Arg.leaf (LArg.int .u64)) (Args.one (Arg.leaf (LArg.int .i64))))
def n46 : (List Int) → V cxT.ty := fun t => (.inl (.inl (ls { own := 2, nm := 0, e := 5, o := true, xs := t })))
def dd46 : (List Int) := []
abbrev c46 (m : (Int × Int) → Option (List Int)) := fnT (cx := cxT) a46 n46 dd46 m
theorem hs46 : ∀ t, noRoV (n46 t) = true ∨ noOwnV (n46 t) = true := fun _ => .inl rfl
/-! loop.example/g00222/spec.l1In -/
def a47 : Args cxT.ty (Int × Int × Int) := (Args.cons (Arg.leaf (LArg.int .i64)) (Args.cons (Arg.leaf (LArg.int .i64)) (Args.one (Arg.leaf (LArg.int .i64)))))
def n47 : Bool → V cxT.ty := fun t => (.inl (.inl (lv (.bool t))))
def dd47 : Bool := false
abbrev c47 (m : (Int × Int × Int) → Option Bool) := fnT (cx := cxT) a47 n47 dd47 m
theorem hs47 : ∀ t, noRoV (n47 t) = true ∨ noOwnV (n47 t) = true := fun _ => .inl rfl
/-! loop.example/g00222/spec.l1Bytes -/
def a48 : Args cxT.ty (Int × Int) := (Args.cons (Arg.leaf (LArg.int .i64)) (Args.one (Arg.leaf (LArg.int .i64))))
def n48 : (List Int) → V cxT.ty := fun t => (.inl (.inl (ls { own := 2, nm := 0, e := 5, o := true, xs := t })))
def dd48 : (List Int) := []
abbrev c48 (m : (Int × Int) → Option (List Int)) := fnT (cx := cxT) a48 n48 dd48 m
theorem hs48 : ∀ t, noRoV (n48 t) = true ∨ noOwnV (n48 t) = true := fun _ => .inl rfl
/-! loop.example/g00222/spec.l1Some -/
def a49 : Args cxT.ty (((List Int) × Int) × Int) := (Args.cons (Arg.agg (SArg.cons (LArg.row 5) (SArg.one (LArg.int .i64)))) (Args.one (Arg.leaf (LArg.int .i64))))
def n49 : ((List Int) × (List Int) × Int) → List (A cxT.ty) := fun t => [(.inl (ls { own := 2, nm := 0, e := 5, o := true, xs := t.1 })), (.inr [(ls (ro 5 t.2.1)), (lv (.int .i64 t.2.2))])]
def dd49 : ((List Int) × (List Int) × Int) := ([], [], (0 : Int))
abbrev c49 (m : (((List Int) × Int) × Int) → Option ((List Int) × (List Int) × Int)) : WFn cxT := { nres := 1, n := 0, F := fnW (cx := cxT) a49 n49 dd49 m, p := 1 }
/-! loop.example/g00222/impl.wordAt -/
def a50 : Args cxT.ty ((List Int) × Int) := (Args.cons (Arg.leaf (LArg.row 5)) (Args.one (Arg.leaf (LArg.int .i64))))
def n50 : Int → V cxT.ty := fun t => (.inl (.inl (lv (.int .u64 t))))
def dd50 : Int := (0 : Int)
abbrev c50 (m : ((List Int) × Int) → Option Int) := fnT (cx := cxT) a50 n50 dd50 m
theorem hs50 : ∀ t, noRoV (n50 t) = true ∨ noOwnV (n50 t) = true := fun _ => .inl rfl
/-! loop.example/g00222/impl.joinPieces -/
def a51 : Args cxT.ty (List (List Int)) := (Args.one (Arg.leaf (LArg.row 22)))
def n51 : (List Int) → V cxT.ty := fun t => (.inl (.inl (ls { own := 2, nm := 0, e := 5, o := true, xs := t })))
def dd51 : (List Int) := []
abbrev c51 (m : (List (List Int)) → Option (List Int)) := fnT (cx := cxT) a51 n51 dd51 m
theorem hs51 : ∀ t, noRoV (n51 t) = true ∨ noOwnV (n51 t) = true := fun _ => .inl rfl
/-! loop.example/g00222/spec.l1Frame -/
def a52 : Args cxT.ty (List Int) := (Args.one (Arg.leaf (LArg.row 5)))
def n52 : (List Int) → V cxT.ty := fun t => (.inl (.inl (ls { own := 2, nm := 0, e := 5, o := true, xs := t })))
def dd52 : (List Int) := []
abbrev c52 (m : (List Int) → Option (List Int)) := fnT (cx := cxT) a52 n52 dd52 m
theorem hs52 : ∀ t, noRoV (n52 t) = true ∨ noOwnV (n52 t) = true := fun _ => .inl rfl
/-! loop.example/g00222/impl.firstFrame -/
def a53 : Args cxT.ty (List Int) := (Args.one (Arg.leaf (LArg.row 5)))
def n53 : ((List Int) × Bool) → V cxT.ty := fun t => (.inr (.inl [(.inl (ls (ro 5 t.1))), (.inl (lv (.bool t.2)))]))
def dd53 : ((List Int) × Bool) := ([], false)
abbrev c53 (m : (List Int) → Option ((List Int) × Bool)) := fnT (cx := cxT) a53 n53 dd53 m
theorem hs53 : ∀ t, noRoV (n53 t) = true ∨ noOwnV (n53 t) = true := fun _ => .inr rfl
/-! loop.example/g00222/laws.heldByteS -/
def a54 : Args cxT.ty ((List Int) × Int) := (Args.cons (Arg.leaf (LArg.row 5)) (Args.one (Arg.leaf (LArg.int .i64))))
def n54 : Int → V cxT.ty := fun t => (.inl (.inl (lv (.int .i64 t))))
def dd54 : Int := (0 : Int)
abbrev c54 (m : ((List Int) × Int) → Option Int) := fnT (cx := cxT) a54 n54 dd54 m
theorem hs54 : ∀ t, noRoV (n54 t) = true ∨ noOwnV (n54 t) = true := fun _ => .inl rfl
/-! loop.example/g00222/spec.l1Take -/
def a55 : Args cxT.ty ((List Int) × Int × Int) := (Args.cons (Arg.leaf (LArg.row 5)) (Args.cons (Arg.leaf (LArg.int .i64)) (Args.one (Arg.leaf (LArg.int .i64)))))
def n55 : Int → V cxT.ty := fun t => (.inl (.inl (lv (.int .i64 t))))
def dd55 : Int := (0 : Int)
abbrev c55 (m : ((List Int) × Int × Int) → Option Int) := fnT (cx := cxT) a55 n55 dd55 m
theorem hs55 : ∀ t, noRoV (n55 t) = true ∨ noOwnV (n55 t) = true := fun _ => .inl rfl
/-! loop.example/g00222/laws.eqByteSS -/
def a56 : Args cxT.ty ((List (List Int)) × (List (List Int))) := (Args.cons (Arg.leaf (LArg.row 22)) (Args.one (Arg.leaf (LArg.row 22))))
def n56 : Bool → V cxT.ty := fun t => (.inl (.inl (lv (.bool t))))
def dd56 : Bool := false
abbrev c56 (m : ((List (List Int)) × (List (List Int))) → Option Bool) := fnT (cx := cxT) a56 n56 dd56 m
theorem hs56 : ∀ t, noRoV (n56 t) = true ∨ noOwnV (n56 t) = true := fun _ => .inl rfl
/-! loop.example/g00222/laws.markByteSS -/
def a57 : Args cxT.ty ((List (List Int)) × Int) := (Args.cons (Arg.leaf (LArg.own 22)) (Args.one (Arg.leaf (LArg.int .i64))))
def n57 : (Int × (List (List Int))) → List (A cxT.ty) := fun t => [(.inl (lv (.int .i64 t.1))), (.inl (ls { own := 2, nm := 0, e := 22, o := true, xs := t.2 }))]
def dd57 : (Int × (List (List Int))) := ((0 : Int), [])
abbrev c57 (m : ((List (List Int)) × Int) → Option (Int × (List (List Int)))) : WFn cxT := { nres := 1, n := 1, F := fnW (cx := cxT) a57 n57 dd57 m, p := 4 }
theorem hs57 : ∀ t, noRoV (.inr (.inl (n57 t)) : V cxT.ty) = true := fun _ => rfl
/-! loop.example/g00222/laws.heldByteSS -/
def a58 : Args cxT.ty ((List (List Int)) × Int) := (Args.cons (Arg.leaf (LArg.row 22)) (Args.one (Arg.leaf (LArg.int .i64))))
def n58 : Int → V cxT.ty := fun t => (.inl (.inl (lv (.int .i64 t))))
def dd58 : Int := (0 : Int)
abbrev c58 (m : ((List (List Int)) × Int) → Option Int) := fnT (cx := cxT) a58 n58 dd58 m
theorem hs58 : ∀ t, noRoV (n58 t) = true ∨ noOwnV (n58 t) = true := fun _ => .inl rfl
/-! (runtime.boundsError).Error -/
def a59 : Args cxT.ty (Int × Int × Bool × Int) := (Args.one (Arg.agg (SArg.cons (LArg.int .i64) (SArg.cons (LArg.int .i64) (SArg.cons LArg.bool (SArg.one (LArg.int .u8)))))))
def n59 : ByteArray → V cxT.ty := fun t => (.inl (.inl (lv (.string t))))
def dd59 : ByteArray := ByteArray.empty
abbrev c59 (m : (Int × Int × Bool × Int) → Option ByteArray) := fnT (cx := cxT) a59 n59 dd59 m
theorem hs59 : ∀ t, noRoV (n59 t) = true ∨ noOwnV (n59 t) = true := fun _ => .inl rfl
/-! (runtime.boundsError).RuntimeError -/
def a60 : Args cxT.ty (Int × Int × Bool × Int) := (Args.one (Arg.agg (SArg.cons (LArg.int .i64) (SArg.cons (LArg.int .i64) (SArg.cons LArg.bool (SArg.one (LArg.int .u8)))))))
def n60 : Unit → V cxT.ty := fun t => (.inr (.inl []))
def dd60 : Unit := ()
abbrev c60 (m : (Int × Int × Bool × Int) → Option Unit) := fnT (cx := cxT) a60 n60 dd60 m
theorem hs60 : ∀ t, noRoV (n60 t) = true ∨ noOwnV (n60 t) = true := fun _ => .inl rfl
/-! (runtime.errorString).Error -/
def a61 : Args cxT.ty ByteArray := (Args.one (Arg.leaf LArg.str))
def n61 : ByteArray → V cxT.ty := fun t => (.inl (.inl (lv (.string t))))
def dd61 : ByteArray := ByteArray.empty
abbrev c61 (m : ByteArray → Option ByteArray) := fnT (cx := cxT) a61 n61 dd61 m
theorem hs61 : ∀ t, noRoV (n61 t) = true ∨ noOwnV (n61 t) = true := fun _ => .inl rfl
/-! (runtime.errorString).RuntimeError -/
def a62 : Args cxT.ty ByteArray := (Args.one (Arg.leaf LArg.str))
def n62 : Unit → V cxT.ty := fun t => (.inr (.inl []))
def dd62 : Unit := ()
abbrev c62 (m : ByteArray → Option Unit) := fnT (cx := cxT) a62 n62 dd62 m
theorem hs62 : ∀ t, noRoV (n62 t) = true ∨ noOwnV (n62 t) = true := fun _ => .inl rfl
/-! (runtime.plainError).Error -/
def a63 : Args cxT.ty ByteArray := (Args.one (Arg.leaf LArg.str))
def n63 : ByteArray → V cxT.ty := fun t => (.inl (.inl (lv (.string t))))
def dd63 : ByteArray := ByteArray.empty
abbrev c63 (m : ByteArray → Option ByteArray) := fnT (cx := cxT) a63 n63 dd63 m
theorem hs63 : ∀ t, noRoV (n63 t) = true ∨ noOwnV (n63 t) = true := fun _ => .inl rfl
/-! (runtime.plainError).RuntimeError -/
def a64 : Args cxT.ty ByteArray := (Args.one (Arg.leaf LArg.str))
def n64 : Unit → V cxT.ty := fun t => (.inr (.inl []))
def dd64 : Unit := ()
abbrev c64 (m : ByteArray → Option Unit) := fnT (cx := cxT) a64 n64 dd64 m
theorem hs64 : ∀ t, noRoV (n64 t) = true ∨ noOwnV (n64 t) = true := fun _ => .inl rfl
/-! (runtime.errorAddressString).Error -/
def a65 : Args cxT.ty (ByteArray × Int) := (Args.one (Arg.agg (SArg.cons LArg.str (SArg.one (LArg.int .u64)))))
def n65 : ByteArray → V cxT.ty := fun t => (.inl (.inl (lv (.string t))))
def dd65 : ByteArray := ByteArray.empty
abbrev c65 (m : (ByteArray × Int) → Option ByteArray) := fnT (cx := cxT) a65 n65 dd65 m
theorem hs65 : ∀ t, noRoV (n65 t) = true ∨ noOwnV (n65 t) = true := fun _ => .inl rfl
/-! (runtime.errorAddressString).RuntimeError -/
def a66 : Args cxT.ty (ByteArray × Int) := (Args.one (Arg.agg (SArg.cons LArg.str (SArg.one (LArg.int .u64)))))
def n66 : Unit → V cxT.ty := fun t => (.inr (.inl []))
def dd66 : Unit := ()
abbrev c66 (m : (ByteArray × Int) → Option Unit) := fnT (cx := cxT) a66 n66 dd66 m
theorem hs66 : ∀ t, noRoV (n66 t) = true ∨ noOwnV (n66 t) = true := fun _ => .inl rfl
/-! (internal/abi.Kind).String -/
def a74 : Args cxT.ty Int := (Args.one (Arg.leaf (LArg.int .u8)))
def n74 : ByteArray → V cxT.ty := fun t => (.inl (.inl (lv (.string t))))
def dd74 : ByteArray := ByteArray.empty
abbrev c74 (m : Int → Option ByteArray) := fnT (cx := cxT) a74 n74 dd74 m
theorem hs74 : ∀ t, noRoV (n74 t) = true ∨ noOwnV (n74 t) = true := fun _ => .inl rfl
end Go.Proofs.Try
