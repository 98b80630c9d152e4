/- A part of the proof of FnExactUnwrapGre: L2Base, L2Con. -/
import Derived.Test.YtaegcoihgnobiaaVmL
import Derived.Test.YtaegcoihgnobiaaProg
namespace Go.Proofs.Try
open Go Go.VM Go.RowKit

def tyT (e : Nat) : Type := if e = 2 then Int else if e = 5 then Int else if e = 22 then List Int else Unit
def inhT (e : Nat) : tyT e := by unfold tyT; split <;> (try split) <;> (try split) <;> first | exact (0 : Int) | exact ([] : List Int) | exact ()
def cd2 : Cd tyT (tyT 2) := cdInt .i64
def cd5 : Cd tyT (tyT 5) := cdInt .u8
def cd22 : Cd tyT (tyT 22) := cdRow 5
def cdT (e : Nat) : Cd tyT (tyT e) :=
  if h : e = 2 then h.symm ▸ cd2 else if h : e = 5 then h.symm ▸ cd5 else if h : e = 22 then h.symm ▸ cd22 else cdNone (inhT e)
def cxT : Cx := Cx.of cdT
theorem cxT_ok : cxT.Ok := Cx.of_ok cdT
theorem dom_cases {e : Nat} (h : (cdT e).dom = true) : e = 2 ∨ e = 5 := by
  by_cases h1 : e = 2
  · exact .inl h1
  by_cases h2 : e = 5
  · exact .inr h2
  by_cases h3 : e = 22
  · subst h3; unfold cdT at h; rw [dif_neg h1, dif_neg h2, dif_pos rfl] at h; exact Bool.noConfusion h
  · unfold cdT at h; rw [dif_neg h1, dif_neg h2, dif_neg h3] at h; exact Bool.noConfusion h

theorem cxT_pok : cxT.POk prog := by
  refine ⟨fun e he => ?_, fun e he hu o x => ?_⟩
  · rcases dom_cases he with rfl | rfl
    · exact ⟨_, _, rfl, rfl, rfl, by decide, rfl, by decide, rfl⟩
    · exact ⟨_, _, rfl, rfl, rfl, by decide, rfl, by decide, rfl⟩
  · rcases dom_cases he with rfl | rfl
    · rw [underlying2] at hu
      cases hu
    · exact ⟨x, rfl⟩
end Go.Proofs.Try

set_option linter.unusedVariables false
namespace Go.Proofs.Try
open Go Go.VM Go.RowKit
/-! loop.example/g00222/laws.FnWraps -/
def a3 : Args cxT.ty (List Int) := (Args.one (Arg.leaf (LArg.row 5)))
def n3 : Bool → V cxT.ty := fun t => (.inl (.inl (lv (.bool t))))
def dd3 : Bool := false
abbrev c3 (m : (List Int) → Option Bool) := fnT (cx := cxT) a3 n3 dd3 m
theorem hs3 : ∀ t, noRoV (n3 t) = true ∨ noOwnV (n3 t) = true := fun _ => .inl rfl
/-! loop.example/g00222/laws.FnExactPacketFault -/
def a4 : Args cxT.ty (Int × Int × Int × Int × Int × (List Int)) := (Args.one (Arg.agg (SArg.cons (LArg.int .i64) (SArg.cons (LArg.int .i64) (SArg.cons (LArg.int .i64) (SArg.cons (LArg.int .i64) (SArg.cons (LArg.int .i64) (SArg.one (LArg.row 5)))))))))
def n4 : Bool → V cxT.ty := fun t => (.inl (.inl (lv (.bool t))))
def dd4 : Bool := false
abbrev c4 (m : (Int × Int × Int × Int × Int × (List Int)) → Option Bool) := fnT (cx := cxT) a4 n4 dd4 m
theorem hs4 : ∀ t, noRoV (n4 t) = true ∨ noOwnV (n4 t) = true := fun _ => .inl rfl
/-! loop.example/g00222/laws.FnExactBuildPacket -/
def a5 : Args cxT.ty (Int × Int × Int × Int × Int × (List Int)) := (Args.one (Arg.agg (SArg.cons (LArg.int .i64) (SArg.cons (LArg.int .i64) (SArg.cons (LArg.int .i64) (SArg.cons (LArg.int .i64) (SArg.cons (LArg.int .i64) (SArg.one (LArg.row 5)))))))))
def n5 : Bool → V cxT.ty := fun t => (.inl (.inl (lv (.bool t))))
def dd5 : Bool := false
abbrev c5 (m : (Int × Int × Int × Int × Int × (List Int)) → Option Bool) := fnT (cx := cxT) a5 n5 dd5 m
theorem hs5 : ∀ t, noRoV (n5 t) = true ∨ noOwnV (n5 t) = true := fun _ => .inl rfl
/-! loop.example/g00222/laws.FnExactParsePacket -/
def a6 : Args cxT.ty (List Int) := (Args.one (Arg.leaf (LArg.row 5)))
def n6 : Bool → V cxT.ty := fun t => (.inl (.inl (lv (.bool t))))
def dd6 : Bool := false
abbrev c6 (m : (List Int) → Option Bool) := fnT (cx := cxT) a6 n6 dd6 m
theorem hs6 : ∀ t, noRoV (n6 t) = true ∨ noOwnV (n6 t) = true := fun _ => .inl rfl
/-! loop.example/g00222/laws.FnExactWrapGre -/
def a7 : Args cxT.ty (Int × Int × (List Int)) := (Args.cons (Arg.leaf (LArg.int .i64)) (Args.cons (Arg.leaf (LArg.int .i64)) (Args.one (Arg.leaf (LArg.row 5)))))
def n7 : Bool → V cxT.ty := fun t => (.inl (.inl (lv (.bool t))))
def dd7 : Bool := false
abbrev c7 (m : (Int × Int × (List Int)) → Option Bool) := fnT (cx := cxT) a7 n7 dd7 m
theorem hs7 : ∀ t, noRoV (n7 t) = true ∨ noOwnV (n7 t) = true := fun _ => .inl rfl
/-! loop.example/g00222/laws.FnExactUnwrapGre -/
def a8 : Args cxT.ty (List Int) := (Args.one (Arg.leaf (LArg.row 5)))
def n8 : Bool → V cxT.ty := fun t => (.inl (.inl (lv (.bool t))))
def dd8 : Bool := false
abbrev c8 (m : (List Int) → Option Bool) := fnT (cx := cxT) a8 n8 dd8 m
theorem hs8 : ∀ t, noRoV (n8 t) = true ∨ noOwnV (n8 t) = true := fun _ => .inl rfl
/-! loop.example/g00222/laws.FnExactSamePacket -/
def a9 : Args cxT.ty ((Int × Int × Int × Int × Int × (List Int)) × (Int × Int × Int × Int × Int × (List Int))) := (Args.cons (Arg.agg (SArg.cons (LArg.int .i64) (SArg.cons (LArg.int .i64) (SArg.cons (LArg.int .i64) (SArg.cons (LArg.int .i64) (SArg.cons (LArg.int .i64) (SArg.one (LArg.row 5)))))))) (Args.one (Arg.agg (SArg.cons (LArg.int .i64) (SArg.cons (LArg.int .i64) (SArg.cons (LArg.int .i64) (SArg.cons (LArg.int .i64) (SArg.cons (LArg.int .i64) (SArg.one (LArg.row 5))))))))))
def n9 : Bool → V cxT.ty := fun t => (.inl (.inl (lv (.bool t))))
def dd9 : Bool := false
abbrev c9 (m : ((Int × Int × Int × Int × Int × (List Int)) × (Int × Int × Int × Int × Int × (List Int))) → Option Bool) := fnT (cx := cxT) a9 n9 dd9 m
theorem hs9 : ∀ t, noRoV (n9 t) = true ∨ noOwnV (n9 t) = true := fun _ => .inl rfl
/-! loop.example/g00222/laws.lwBig -/
def a10 : Args cxT.ty (List Int) := (Args.one (Arg.leaf (LArg.row 5)))
def n10 : Bool → V cxT.ty := fun t => (.inl (.inl (lv (.bool t))))
def dd10 : Bool := false
abbrev c10 (m : (List Int) → Option Bool) := fnT (cx := cxT) a10 n10 dd10 m
theorem hs10 : ∀ t, noRoV (n10 t) = true ∨ noOwnV (n10 t) = true := fun _ => .inl rfl
/-! loop.example/g00222/spec.DrawUnwrapGre -/
def a11 : Args cxT.ty (List Int) := (Args.one (Arg.leaf (LArg.row 5)))
def n11 : (List Int) → V cxT.ty := fun t => (.inl (.inl (ls { own := 2, nm := 0, e := 5, o := true, xs := t })))
def dd11 : (List Int) := []
abbrev c11 (m : (List Int) → Option (List Int)) := fnT (cx := cxT) a11 n11 dd11 m
theorem hs11 : ∀ t, noRoV (n11 t) = true ∨ noOwnV (n11 t) = true := fun _ => .inl rfl
/-! loop.example/g00222/impl.UnwrapGre -/
def a12 : Args cxT.ty (List Int) := (Args.one (Arg.leaf (LArg.row 5)))
def n12 : (Int × Int × Int × (List Int)) → V cxT.ty := fun t => (.inl (.inr [(lv (.int .i64 t.1)), (lv (.int .i64 t.2.1)), (lv (.int .i64 t.2.2.1)), (ls { own := 2, nm := 0, e := 5, o := true, xs := t.2.2.2 })]))
def dd12 : (Int × Int × Int × (List Int)) := ((0 : Int), (0 : Int), (0 : Int), [])
abbrev c12 (m : (List Int) → Option (Int × Int × Int × (List Int))) := fnT (cx := cxT) a12 n12 dd12 m
theorem hs12 : ∀ t, noRoV (n12 t) = true ∨ noOwnV (n12 t) = true := fun _ => .inl rfl
/-! loop.example/g00222/spec.UnwrapGre -/
def a13 : Args cxT.ty (List Int) := (Args.one (Arg.leaf (LArg.row 5)))
def n13 : (Int × Int × Int × (List Int)) → V cxT.ty := fun t => (.inl (.inr [(lv (.int .i64 t.1)), (lv (.int .i64 t.2.1)), (lv (.int .i64 t.2.2.1)), (ls { own := 2, nm := 0, e := 5, o := true, xs := t.2.2.2 })]))
def dd13 : (Int × Int × Int × (List Int)) := ((0 : Int), (0 : Int), (0 : Int), [])
abbrev c13 (m : (List Int) → Option (Int × Int × Int × (List Int))) := fnT (cx := cxT) a13 n13 dd13 m
theorem hs13 : ∀ t, noRoV (n13 t) = true ∨ noOwnV (n13 t) = true := fun _ => .inl rfl
/-! loop.example/g00222/impl.WrapGre -/
def a14 : Args cxT.ty (Int × Int × (List Int)) := (Args.cons (Arg.leaf (LArg.int .i64)) (Args.cons (Arg.leaf (LArg.int .i64)) (Args.one (Arg.leaf (LArg.row 5)))))
def n14 : (Int × (List Int)) → V cxT.ty := fun t => (.inl (.inr [(lv (.int .i64 t.1)), (ls { own := 2, nm := 0, e := 5, o := true, xs := t.2 })]))
def dd14 : (Int × (List Int)) := ((0 : Int), [])
abbrev c14 (m : (Int × Int × (List Int)) → Option (Int × (List Int))) := fnT (cx := cxT) a14 n14 dd14 m
theorem hs14 : ∀ t, noRoV (n14 t) = true ∨ noOwnV (n14 t) = true := fun _ => .inl rfl
/-! loop.example/g00222/spec.DrawWrapGre -/
def a15 : Args cxT.ty (List Int) := (Args.one (Arg.leaf (LArg.row 5)))
def n15 : (Int × Int × (List Int)) → V cxT.ty := fun t => (.inr (.inl [(.inl (lv (.int .i64 t.1))), (.inl (lv (.int .i64 t.2.1))), (.inl (ls { own := 2, nm := 0, e := 5, o := true, xs := t.2.2 }))]))
def dd15 : (Int × Int × (List Int)) := ((0 : Int), (0 : Int), [])
abbrev c15 (m : (List Int) → Option (Int × Int × (List Int))) := fnT (cx := cxT) a15 n15 dd15 m
theorem hs15 : ∀ t, noRoV (n15 t) = true ∨ noOwnV (n15 t) = true := fun _ => .inl rfl
/-! loop.example/g00222/spec.WrapGre -/
def a16 : Args cxT.ty (Int × Int × (List Int)) := (Args.cons (Arg.leaf (LArg.int .i64)) (Args.cons (Arg.leaf (LArg.int .i64)) (Args.one (Arg.leaf (LArg.row 5)))))
def n16 : (Int × (List Int)) → V cxT.ty := fun t => (.inl (.inr [(lv (.int .i64 t.1)), (ls { own := 2, nm := 0, e := 5, o := true, xs := t.2 })]))
def dd16 : (Int × (List Int)) := ((0 : Int), [])
abbrev c16 (m : (Int × Int × (List Int)) → Option (Int × (List Int))) := fnT (cx := cxT) a16 n16 dd16 m
theorem hs16 : ∀ t, noRoV (n16 t) = true ∨ noOwnV (n16 t) = true := fun _ => .inl rfl
/-! loop.example/g00222/laws.szPacket -/
def a17 : Args cxT.ty ((Int × Int × Int × Int × Int × (List Int)) × Int) := (Args.cons (Arg.agg (SArg.cons (LArg.int .i64) (SArg.cons (LArg.int .i64) (SArg.cons (LArg.int .i64) (SArg.cons (LArg.int .i64) (SArg.cons (LArg.int .i64) (SArg.one (LArg.row 5)))))))) (Args.one (Arg.leaf (LArg.int .i64))))
def n17 : Int → V cxT.ty := fun t => (.inl (.inl (lv (.int .i64 t))))
def dd17 : Int := (0 : Int)
abbrev c17 (m : ((Int × Int × Int × Int × Int × (List Int)) × Int) → Option Int) := fnT (cx := cxT) a17 n17 dd17 m
theorem hs17 : ∀ t, noRoV (n17 t) = true ∨ noOwnV (n17 t) = true := fun _ => .inl rfl
/-! loop.example/g00222/spec.PacketFault -/
def a18 : Args cxT.ty (Int × Int × Int × Int × Int × (List Int)) := (Args.one (Arg.agg (SArg.cons (LArg.int .i64) (SArg.cons (LArg.int .i64) (SArg.cons (LArg.int .i64) (SArg.cons (LArg.int .i64) (SArg.cons (LArg.int .i64) (SArg.one (LArg.row 5)))))))))
def n18 : Int → V cxT.ty := fun t => (.inl (.inl (lv (.int .i64 t))))
def dd18 : Int := (0 : Int)
abbrev c18 (m : (Int × Int × Int × Int × Int × (List Int)) → Option Int) := fnT (cx := cxT) a18 n18 dd18 m
theorem hs18 : ∀ t, noRoV (n18 t) = true ∨ noOwnV (n18 t) = true := fun _ => .inl rfl
/-! loop.example/g00222/laws.toPacket -/
def a19 : Args cxT.ty (Int × Int × Int × Int × Int × (List Int)) := (Args.one (Arg.agg (SArg.cons (LArg.int .i64) (SArg.cons (LArg.int .i64) (SArg.cons (LArg.int .i64) (SArg.cons (LArg.int .i64) (SArg.cons (LArg.int .i64) (SArg.one (LArg.row 5)))))))))
def n19 : (Int × Int × Int × Int × Int × (List Int)) → V cxT.ty := fun t => (.inl (.inr [(lv (.int .i64 t.1)), (lv (.int .i64 t.2.1)), (lv (.int .i64 t.2.2.1)), (lv (.int .i64 t.2.2.2.1)), (lv (.int .i64 t.2.2.2.2.1)), (ls { own := 2, nm := 0, e := 5, o := true, xs := t.2.2.2.2.2 })]))
def dd19 : (Int × Int × Int × Int × Int × (List Int)) := ((0 : Int), (0 : Int), (0 : Int), (0 : Int), (0 : Int), [])
abbrev c19 (m : (Int × Int × Int × Int × Int × (List Int)) → Option (Int × Int × Int × Int × Int × (List Int))) := fnT (cx := cxT) a19 n19 dd19 m
theorem hs19 : ∀ t, noRoV (n19 t) = true ∨ noOwnV (n19 t) = true := fun _ => .inl rfl
/-! loop.example/g00222/impl.PacketFault -/
def a20 : Args cxT.ty (Int × Int × Int × Int × Int × (List Int)) := (Args.one (Arg.agg (SArg.cons (LArg.int .i64) (SArg.cons (LArg.int .i64) (SArg.cons (LArg.int .i64) (SArg.cons (LArg.int .i64) (SArg.cons (LArg.int .i64) (SArg.one (LArg.row 5)))))))))
def n20 : Int → V cxT.ty := fun t => (.inl (.inl (lv (.int .i64 t))))
def dd20 : Int := (0 : Int)
abbrev c20 (m : (Int × Int × Int × Int × Int × (List Int)) → Option Int) := fnT (cx := cxT) a20 n20 dd20 m
theorem hs20 : ∀ t, noRoV (n20 t) = true ∨ noOwnV (n20 t) = true := fun _ => .inl rfl
/-! loop.example/g00222/laws.eqPacket -/
def a21 : Args cxT.ty ((Int × Int × Int × Int × Int × (List Int)) × (Int × Int × Int × Int × Int × (List Int))) := (Args.cons (Arg.agg (SArg.cons (LArg.int .i64) (SArg.cons (LArg.int .i64) (SArg.cons (LArg.int .i64) (SArg.cons (LArg.int .i64) (SArg.cons (LArg.int .i64) (SArg.one (LArg.row 5)))))))) (Args.one (Arg.agg (SArg.cons (LArg.int .i64) (SArg.cons (LArg.int .i64) (SArg.cons (LArg.int .i64) (SArg.cons (LArg.int .i64) (SArg.cons (LArg.int .i64) (SArg.one (LArg.row 5))))))))))
def n21 : Bool → V cxT.ty := fun t => (.inl (.inl (lv (.bool t))))
def dd21 : Bool := false
abbrev c21 (m : ((Int × Int × Int × Int × Int × (List Int)) × (Int × Int × Int × Int × Int × (List Int))) → Option Bool) := fnT (cx := cxT) a21 n21 dd21 m
theorem hs21 : ∀ t, noRoV (n21 t) = true ∨ noOwnV (n21 t) = true := fun _ => .inl rfl
/-! loop.example/g00222/spec.BuildPacket -/
def a22 : Args cxT.ty (Int × Int × Int × Int × Int × (List Int)) := (Args.one (Arg.agg (SArg.cons (LArg.int .i64) (SArg.cons (LArg.int .i64) (SArg.cons (LArg.int .i64) (SArg.cons (LArg.int .i64) (SArg.cons (LArg.int .i64) (SArg.one (LArg.row 5)))))))))
def n22 : (Int × (List Int)) → V cxT.ty := fun t => (.inl (.inr [(lv (.int .i64 t.1)), (ls { own := 2, nm := 0, e := 5, o := true, xs := t.2 })]))
def dd22 : (Int × (List Int)) := ((0 : Int), [])
abbrev c22 (m : (Int × Int × Int × Int × Int × (List Int)) → Option (Int × (List Int))) := fnT (cx := cxT) a22 n22 dd22 m
theorem hs22 : ∀ t, noRoV (n22 t) = true ∨ noOwnV (n22 t) = true := fun _ => .inl rfl
/-! loop.example/g00222/impl.BuildPacket -/
def a23 : Args cxT.ty (Int × Int × Int × Int × Int × (List Int)) := (Args.one (Arg.agg (SArg.cons (LArg.int .i64) (SArg.cons (LArg.int .i64) (SArg.cons (LArg.int .i64) (SArg.cons (LArg.int .i64) (SArg.cons (LArg.int .i64) (SArg.one (LArg.row 5)))))))))
def n23 : (Int × (List Int)) → V cxT.ty := fun t => (.inl (.inr [(lv (.int .i64 t.1)), (ls { own := 2, nm := 0, e := 5, o := true, xs := t.2 })]))
def dd23 : (Int × (List Int)) := ((0 : Int), [])
abbrev c23 (m : (Int × Int × Int × Int × Int × (List Int)) → Option (Int × (List Int))) := fnT (cx := cxT) a23 n23 dd23 m
theorem hs23 : ∀ t, noRoV (n23 t) = true ∨ noOwnV (n23 t) = true := fun _ => .inl rfl
/-! loop.example/g00222/laws.eqBytesResult -/
def a24 : Args cxT.ty ((Int × (List Int)) × (Int × (List Int))) := (Args.cons (Arg.agg (SArg.cons (LArg.int .i64) (SArg.one (LArg.row 5)))) (Args.one (Arg.agg (SArg.cons (LArg.int .i64) (SArg.one (LArg.row 5))))))
def n24 : Bool → V cxT.ty := fun t => (.inl (.inl (lv (.bool t))))
def dd24 : Bool := false
abbrev c24 (m : ((Int × (List Int)) × (Int × (List Int))) → Option Bool) := fnT (cx := cxT) a24 n24 dd24 m
theorem hs24 : ∀ t, noRoV (n24 t) = true ∨ noOwnV (n24 t) = true := fun _ => .inl rfl
/-! loop.example/g00222/laws.markPacket -/
def a25 : Args cxT.ty ((Int × Int × Int × Int × Int × (List Int)) × Int) := (Args.cons (Arg.agg (SArg.cons (LArg.int .i64) (SArg.cons (LArg.int .i64) (SArg.cons (LArg.int .i64) (SArg.cons (LArg.int .i64) (SArg.cons (LArg.int .i64) (SArg.one (LArg.own 5)))))))) (Args.one (Arg.leaf (LArg.int .i64))))
def n25 : (Int × Int × Int × Int × Int × Int × (List Int)) → List (A cxT.ty) := fun t => [(.inl (lv (.int .i64 t.1))), (.inr [(lv (.int .i64 t.2.1)), (lv (.int .i64 t.2.2.1)), (lv (.int .i64 t.2.2.2.1)), (lv (.int .i64 t.2.2.2.2.1)), (lv (.int .i64 t.2.2.2.2.2.1)), (ls { own := 2, nm := 0, e := 5, o := true, xs := t.2.2.2.2.2.2 })])]
def dd25 : (Int × Int × Int × Int × Int × Int × (List Int)) := ((0 : Int), (0 : Int), (0 : Int), (0 : Int), (0 : Int), (0 : Int), [])
abbrev c25 (m : ((Int × Int × Int × Int × Int × (List Int)) × Int) → Option (Int × Int × Int × Int × Int × Int × (List Int))) : WFn cxT := { nres := 1, n := 1, F := fnW (cx := cxT) a25 n25 dd25 m }
theorem hs25 : ∀ t, noRoV (.inr (.inl (n25 t)) : V cxT.ty) = true := fun _ => rfl
/-! loop.example/g00222/laws.markBytesResult -/
def a26 : Args cxT.ty ((Int × (List Int)) × Int) := (Args.cons (Arg.agg (SArg.cons (LArg.int .i64) (SArg.one (LArg.own 5)))) (Args.one (Arg.leaf (LArg.int .i64))))
def n26 : (Int × Int × (List Int)) → List (A cxT.ty) := fun t => [(.inl (lv (.int .i64 t.1))), (.inr [(lv (.int .i64 t.2.1)), (ls { own := 2, nm := 0, e := 5, o := true, xs := t.2.2 })])]
def dd26 : (Int × Int × (List Int)) := ((0 : Int), (0 : Int), [])
abbrev c26 (m : ((Int × (List Int)) × Int) → Option (Int × Int × (List Int))) : WFn cxT := { nres := 1, n := 1, F := fnW (cx := cxT) a26 n26 dd26 m }
theorem hs26 : ∀ t, noRoV (.inr (.inl (n26 t)) : V cxT.ty) = true := fun _ => rfl
/-! loop.example/g00222/laws.heldBytesResult -/
def a27 : Args cxT.ty ((Int × (List Int)) × Int) := (Args.cons (Arg.agg (SArg.cons (LArg.int .i64) (SArg.one (LArg.row 5)))) (Args.one (Arg.leaf (LArg.int .i64))))
def n27 : Int → V cxT.ty := fun t => (.inl (.inl (lv (.int .i64 t))))
def dd27 : Int := (0 : Int)
abbrev c27 (m : ((Int × (List Int)) × Int) → Option Int) := fnT (cx := cxT) a27 n27 dd27 m
theorem hs27 : ∀ t, noRoV (n27 t) = true ∨ noOwnV (n27 t) = true := fun _ => .inl rfl
/-! loop.example/g00222/spec.ParsePacket -/
def a28 : Args cxT.ty (List Int) := (Args.one (Arg.leaf (LArg.row 5)))
def n28 : (Int × Int × Int × Int × Int × Int × (List Int)) → V cxT.ty := fun t => (.inl (.inr [(lv (.int .i64 t.1)), (lv (.int .i64 t.2.1)), (lv (.int .i64 t.2.2.1)), (lv (.int .i64 t.2.2.2.1)), (lv (.int .i64 t.2.2.2.2.1)), (lv (.int .i64 t.2.2.2.2.2.1)), (ls { own := 2, nm := 0, e := 5, o := true, xs := t.2.2.2.2.2.2 })]))
def dd28 : (Int × Int × Int × Int × Int × Int × (List Int)) := ((0 : Int), (0 : Int), (0 : Int), (0 : Int), (0 : Int), (0 : Int), [])
abbrev c28 (m : (List Int) → Option (Int × Int × Int × Int × Int × Int × (List Int))) := fnT (cx := cxT) a28 n28 dd28 m
theorem hs28 : ∀ t, noRoV (n28 t) = true ∨ noOwnV (n28 t) = true := fun _ => .inl rfl
/-! loop.example/g00222/laws.toByteS -/
def a29 : Args cxT.ty (List Int) := (Args.one (Arg.leaf (LArg.row 5)))
def n29 : (List Int) → V cxT.ty := fun t => (.inl (.inl (ls { own := 2, nm := 0, e := 5, o := true, xs := t })))
def dd29 : (List Int) := []
abbrev c29 (m : (List Int) → Option (List Int)) := fnT (cx := cxT) a29 n29 dd29 m
theorem hs29 : ∀ t, noRoV (n29 t) = true ∨ noOwnV (n29 t) = true := fun _ => .inl rfl
/-! loop.example/g00222/impl.ParsePacket -/
def a30 : Args cxT.ty (List Int) := (Args.one (Arg.leaf (LArg.row 5)))
def n30 : (Int × Int × Int × Int × Int × Int × (List Int)) → V cxT.ty := fun t => (.inl (.inr [(lv (.int .i64 t.1)), (lv (.int .i64 t.2.1)), (lv (.int .i64 t.2.2.1)), (lv (.int .i64 t.2.2.2.1)), (lv (.int .i64 t.2.2.2.2.1)), (lv (.int .i64 t.2.2.2.2.2.1)), (ls { own := 2, nm := 0, e := 5, o := true, xs := t.2.2.2.2.2.2 })]))
def dd30 : (Int × Int × Int × Int × Int × Int × (List Int)) := ((0 : Int), (0 : Int), (0 : Int), (0 : Int), (0 : Int), (0 : Int), [])
abbrev c30 (m : (List Int) → Option (Int × Int × Int × Int × Int × Int × (List Int))) := fnT (cx := cxT) a30 n30 dd30 m
theorem hs30 : ∀ t, noRoV (n30 t) = true ∨ noOwnV (n30 t) = true := fun _ => .inl rfl
/-! loop.example/g00222/laws.eqPacketResult -/
def a31 : Args cxT.ty ((Int × Int × Int × Int × Int × Int × (List Int)) × (Int × Int × Int × Int × Int × Int × (List Int))) := (Args.cons (Arg.agg (SArg.cons (LArg.int .i64) (SArg.cons (LArg.int .i64) (SArg.cons (LArg.int .i64) (SArg.cons (LArg.int .i64) (SArg.cons (LArg.int .i64) (SArg.cons (LArg.int .i64) (SArg.one (LArg.row 5))))))))) (Args.one (Arg.agg (SArg.cons (LArg.int .i64) (SArg.cons (LArg.int .i64) (SArg.cons (LArg.int .i64) (SArg.cons (LArg.int .i64) (SArg.cons (LArg.int .i64) (SArg.cons (LArg.int .i64) (SArg.one (LArg.row 5)))))))))))
def n31 : Bool → V cxT.ty := fun t => (.inl (.inl (lv (.bool t))))
def dd31 : Bool := false
abbrev c31 (m : ((Int × Int × Int × Int × Int × Int × (List Int)) × (Int × Int × Int × Int × Int × Int × (List Int))) → Option Bool) := fnT (cx := cxT) a31 n31 dd31 m
theorem hs31 : ∀ t, noRoV (n31 t) = true ∨ noOwnV (n31 t) = true := fun _ => .inl rfl
/-! loop.example/g00222/laws.eqByteS -/
def a32 : Args cxT.ty ((List Int) × (List Int)) := (Args.cons (Arg.leaf (LArg.row 5)) (Args.one (Arg.leaf (LArg.row 5))))
def n32 : Bool → V cxT.ty := fun t => (.inl (.inl (lv (.bool t))))
def dd32 : Bool := false
abbrev c32 (m : ((List Int) × (List Int)) → Option Bool) := fnT (cx := cxT) a32 n32 dd32 m
theorem hs32 : ∀ t, noRoV (n32 t) = true ∨ noOwnV (n32 t) = true := fun _ => .inl rfl
/-! loop.example/g00222/laws.markByteS -/
def a33 : Args cxT.ty ((List Int) × Int) := (Args.cons (Arg.leaf (LArg.own 5)) (Args.one (Arg.leaf (LArg.int .i64))))
def n33 : (Int × (List Int)) → List (A cxT.ty) := fun t => [(.inl (lv (.int .i64 t.1))), (.inl (ls { own := 2, nm := 0, e := 5, o := true, xs := t.2 }))]
def dd33 : (Int × (List Int)) := ((0 : Int), [])
abbrev c33 (m : ((List Int) × Int) → Option (Int × (List Int))) : WFn cxT := { nres := 1, n := 1, F := fnW (cx := cxT) a33 n33 dd33 m }
theorem hs33 : ∀ t, noRoV (.inr (.inl (n33 t)) : V cxT.ty) = true := fun _ => rfl
/-! loop.example/g00222/laws.markPacketResult -/
def a34 : Args cxT.ty ((Int × Int × Int × Int × Int × Int × (List Int)) × Int) := (Args.cons (Arg.agg (SArg.cons (LArg.int .i64) (SArg.cons (LArg.int .i64) (SArg.cons (LArg.int .i64) (SArg.cons (LArg.int .i64) (SArg.cons (LArg.int .i64) (SArg.cons (LArg.int .i64) (SArg.one (LArg.own 5))))))))) (Args.one (Arg.leaf (LArg.int .i64))))
def n34 : (Int × Int × Int × Int × Int × Int × Int × (List Int)) → List (A cxT.ty) := fun t => [(.inl (lv (.int .i64 t.1))), (.inr [(lv (.int .i64 t.2.1)), (lv (.int .i64 t.2.2.1)), (lv (.int .i64 t.2.2.2.1)), (lv (.int .i64 t.2.2.2.2.1)), (lv (.int .i64 t.2.2.2.2.2.1)), (lv (.int .i64 t.2.2.2.2.2.2.1)), (ls { own := 2, nm := 0, e := 5, o := true, xs := t.2.2.2.2.2.2.2 })])]
def dd34 : (Int × Int × Int × Int × Int × Int × Int × (List Int)) := ((0 : Int), (0 : Int), (0 : Int), (0 : Int), (0 : Int), (0 : Int), (0 : Int), [])
abbrev c34 (m : ((Int × Int × Int × Int × Int × Int × (List Int)) × Int) → Option (Int × Int × Int × Int × Int × Int × Int × (List Int))) : WFn cxT := { nres := 1, n := 1, F := fnW (cx := cxT) a34 n34 dd34 m }
theorem hs34 : ∀ t, noRoV (.inr (.inl (n34 t)) : V cxT.ty) = true := fun _ => rfl
/-! loop.example/g00222/laws.heldPacketResult -/
def a35 : Args cxT.ty ((Int × Int × Int × Int × Int × Int × (List Int)) × Int) := (Args.cons (Arg.agg (SArg.cons (LArg.int .i64) (SArg.cons (LArg.int .i64) (SArg.cons (LArg.int .i64) (SArg.cons (LArg.int .i64) (SArg.cons (LArg.int .i64) (SArg.cons (LArg.int .i64) (SArg.one (LArg.row 5))))))))) (Args.one (Arg.leaf (LArg.int .i64))))
def n35 : Int → V cxT.ty := fun t => (.inl (.inl (lv (.int .i64 t))))
def dd35 : Int := (0 : Int)
abbrev c35 (m : ((Int × Int × Int × Int × Int × Int × (List Int)) × Int) → Option Int) := fnT (cx := cxT) a35 n35 dd35 m
theorem hs35 : ∀ t, noRoV (n35 t) = true ∨ noOwnV (n35 t) = true := fun _ => .inl rfl
/-! loop.example/g00222/laws.eqGreResult -/
def a36 : Args cxT.ty ((Int × Int × Int × (List Int)) × (Int × Int × Int × (List Int))) := (Args.cons (Arg.agg (SArg.cons (LArg.int .i64) (SArg.cons (LArg.int .i64) (SArg.cons (LArg.int .i64) (SArg.one (LArg.row 5)))))) (Args.one (Arg.agg (SArg.cons (LArg.int .i64) (SArg.cons (LArg.int .i64) (SArg.cons (LArg.int .i64) (SArg.one (LArg.row 5))))))))
def n36 : Bool → V cxT.ty := fun t => (.inl (.inl (lv (.bool t))))
def dd36 : Bool := false
abbrev c36 (m : ((Int × Int × Int × (List Int)) × (Int × Int × Int × (List Int))) → Option Bool) := fnT (cx := cxT) a36 n36 dd36 m
theorem hs36 : ∀ t, noRoV (n36 t) = true ∨ noOwnV (n36 t) = true := fun _ => .inl rfl
/-! loop.example/g00222/laws.markGreResult -/
def a37 : Args cxT.ty ((Int × Int × Int × (List Int)) × Int) := (Args.cons (Arg.agg (SArg.cons (LArg.int .i64) (SArg.cons (LArg.int .i64) (SArg.cons (LArg.int .i64) (SArg.one (LArg.own 5)))))) (Args.one (Arg.leaf (LArg.int .i64))))
def n37 : (Int × Int × Int × Int × (List Int)) → List (A cxT.ty) := fun t => [(.inl (lv (.int .i64 t.1))), (.inr [(lv (.int .i64 t.2.1)), (lv (.int .i64 t.2.2.1)), (lv (.int .i64 t.2.2.2.1)), (ls { own := 2, nm := 0, e := 5, o := true, xs := t.2.2.2.2 })])]
def dd37 : (Int × Int × Int × Int × (List Int)) := ((0 : Int), (0 : Int), (0 : Int), (0 : Int), [])
abbrev c37 (m : ((Int × Int × Int × (List Int)) × Int) → Option (Int × Int × Int × Int × (List Int))) : WFn cxT := { nres := 1, n := 1, F := fnW (cx := cxT) a37 n37 dd37 m }
theorem hs37 : ∀ t, noRoV (.inr (.inl (n37 t)) : V cxT.ty) = true := fun _ => rfl
/-! loop.example/g00222/laws.heldGreResult -/
def a38 : Args cxT.ty ((Int × Int × Int × (List Int)) × Int) := (Args.cons (Arg.agg (SArg.cons (LArg.int .i64) (SArg.cons (LArg.int .i64) (SArg.cons (LArg.int .i64) (SArg.one (LArg.row 5)))))) (Args.one (Arg.leaf (LArg.int .i64))))
def n38 : Int → V cxT.ty := fun t => (.inl (.inl (lv (.int .i64 t))))
def dd38 : Int := (0 : Int)
abbrev c38 (m : ((Int × Int × Int × (List Int)) × Int) → Option Int) := fnT (cx := cxT) a38 n38 dd38 m
theorem hs38 : ∀ t, noRoV (n38 t) = true ∨ noOwnV (n38 t) = true := fun _ => .inl rfl
/-! loop.example/g00222/spec.SamePacket -/
def a39 : Args cxT.ty ((Int × Int × Int × Int × Int × (List Int)) × (Int × Int × Int × Int × Int × (List Int))) := (Args.cons (Arg.agg (SArg.cons (LArg.int .i64) (SArg.cons (LArg.int .i64) (SArg.cons (LArg.int .i64) (SArg.cons (LArg.int .i64) (SArg.cons (LArg.int .i64) (SArg.one (LArg.row 5)))))))) (Args.one (Arg.agg (SArg.cons (LArg.int .i64) (SArg.cons (LArg.int .i64) (SArg.cons (LArg.int .i64) (SArg.cons (LArg.int .i64) (SArg.cons (LArg.int .i64) (SArg.one (LArg.row 5))))))))))
def n39 : Bool → V cxT.ty := fun t => (.inl (.inl (lv (.bool t))))
def dd39 : Bool := false
abbrev c39 (m : ((Int × Int × Int × Int × Int × (List Int)) × (Int × Int × Int × Int × Int × (List Int))) → Option Bool) := fnT (cx := cxT) a39 n39 dd39 m
theorem hs39 : ∀ t, noRoV (n39 t) = true ∨ noOwnV (n39 t) = true := fun _ => .inl rfl
/-! loop.example/g00222/impl.SamePacket -/
def a40 : Args cxT.ty ((Int × Int × Int × Int × Int × (List Int)) × (Int × Int × Int × Int × Int × (List Int))) := (Args.cons (Arg.agg (SArg.cons (LArg.int .i64) (SArg.cons (LArg.int .i64) (SArg.cons (LArg.int .i64) (SArg.cons (LArg.int .i64) (SArg.cons (LArg.int .i64) (SArg.one (LArg.row 5)))))))) (Args.one (Arg.agg (SArg.cons (LArg.int .i64) (SArg.cons (LArg.int .i64) (SArg.cons (LArg.int .i64) (SArg.cons (LArg.int .i64) (SArg.cons (LArg.int .i64) (SArg.one (LArg.row 5))))))))))
def n40 : Bool → V cxT.ty := fun t => (.inl (.inl (lv (.bool t))))
def dd40 : Bool := false
abbrev c40 (m : ((Int × Int × Int × Int × Int × (List Int)) × (Int × Int × Int × Int × Int × (List Int))) → Option Bool) := fnT (cx := cxT) a40 n40 dd40 m
theorem hs40 : ∀ t, noRoV (n40 t) = true ∨ noOwnV (n40 t) = true := fun _ => .inl rfl
/-! loop.example/g00222/spec.l1Source -/
def a41 : Args cxT.ty (List Int) := (Args.one (Arg.leaf (LArg.row 5)))
def n41 : ((List Int) × Int) → List (A cxT.ty) := fun t => [(.inr [(ls (ro 5 t.1)), (lv (.int .i64 t.2))])]
def dd41 : ((List Int) × Int) := ([], (0 : Int))
abbrev c41 (m : (List Int) → Option ((List Int) × Int)) : WFn cxT := { nres := 1, n := 0, F := fnW (cx := cxT) a41 n41 dd41 m, p := 2 }
/-! loop.example/g00222/spec.l1Turn -/
def a42 : Args cxT.ty (((List Int) × Int) × (List Int)) := (Args.cons (Arg.agg (SArg.cons (LArg.row 5) (SArg.one (LArg.int .i64)))) (Args.one (Arg.leaf (LArg.row 5))))
def n42 : ((List Int) × (List Int) × Int) → List (A cxT.ty) := fun t => [(.inl (ls { own := 2, nm := 0, e := 5, o := true, xs := t.1 })), (.inr [(ls (ro 5 t.2.1)), (lv (.int .i64 t.2.2))])]
def dd42 : ((List Int) × (List Int) × Int) := ([], [], (0 : Int))
abbrev c42 (m : (((List Int) × Int) × (List Int)) → Option ((List Int) × (List Int) × Int)) : WFn cxT := { nres := 1, n := 0, F := fnW (cx := cxT) a42 n42 dd42 m, p := 1 }
/-! loop.example/g00222/spec.l2Wrap -/
def a43 : Args cxT.ty (Int × Int × (List Int)) := (Args.cons (Arg.leaf (LArg.int .i64)) (Args.cons (Arg.leaf (LArg.int .i64)) (Args.one (Arg.leaf (LArg.row 5)))))
def n43 : (List Int) → V cxT.ty := fun t => (.inl (.inl (ls { own := 2, nm := 0, e := 5, o := true, xs := t })))
def dd43 : (List Int) := []
abbrev c43 (m : (Int × Int × (List Int)) → Option (List Int)) := fnT (cx := cxT) a43 n43 dd43 m
theorem hs43 : ∀ t, noRoV (n43 t) = true ∨ noOwnV (n43 t) = true := fun _ => .inl rfl
/-! loop.example/g00222/spec.l2DrawAddress -/
def a44 : Args cxT.ty ((List Int) × Int) := (Args.one (Arg.agg (SArg.cons (LArg.row 5) (SArg.one (LArg.int .i64)))))
def n44 : (Int × (List Int) × Int) → List (A cxT.ty) := fun t => [(.inl (lv (.int .i64 t.1))), (.inr [(ls (ro 5 t.2.1)), (lv (.int .i64 t.2.2))])]
def dd44 : (Int × (List Int) × Int) := ((0 : Int), [], (0 : Int))
abbrev c44 (m : ((List Int) × Int) → Option (Int × (List Int) × Int)) : WFn cxT := { nres := 1, n := 0, F := fnW (cx := cxT) a44 n44 dd44 m, p := 1 }
/-! loop.example/g00222/spec.l2Wire -/
def a45 : Args cxT.ty ((List Int) × Int) := (Args.one (Arg.agg (SArg.cons (LArg.row 5) (SArg.one (LArg.int .i64)))))
def n45 : ((List Int) × (List Int) × Int) → List (A cxT.ty) := fun t => [(.inl (ls { own := 2, nm := 0, e := 5, o := true, xs := t.1 })), (.inr [(ls (ro 5 t.2.1)), (lv (.int .i64 t.2.2))])]
def dd45 : ((List Int) × (List Int) × Int) := ([], [], (0 : Int))
abbrev c45 (m : ((List Int) × Int) → Option ((List Int) × (List Int) × Int)) : WFn cxT := { nres := 1, n := 0, F := fnW (cx := cxT) a45 n45 dd45 m, p := 1 }
/-! loop.example/g00222/impl.UnwrapGre$1 -/
def a46 : Args cxT.ty Unit := Args.nil
def n46 : Unit → V cxT.ty := fun t => (.inr (.inl []))
def dd46 : Unit := ()
abbrev c46 (m : Unit → Option Unit) := fnT (cx := cxT) a46 n46 dd46 m
theorem hs46 : ∀ t, noRoV (n46 t) = true ∨ noOwnV (n46 t) = true := fun _ => .inl rfl
/-! loop.example/g00222/impl.readGre -/
def a48 : Args cxT.ty (List Int) := (Args.one (Arg.leaf (LArg.row 5)))
def n48 : (Bool × Int × Int × Int × Int × (List Int)) → List (A cxT.ty) := fun t => [(.inl (lv (.bool t.1))), (.inl (lv (.iface 85 (.agg #[.int .i64 t.2.1])))), (.inr [(lv (.int .i64 t.2.2.1)), (lv (.int .i64 t.2.2.2.1)), (lv (.int .i64 t.2.2.2.2.1)), (ls { own := 2, nm := 0, e := 5, o := true, xs := t.2.2.2.2.2 })])]
def dd48 : (Bool × Int × Int × Int × Int × (List Int)) := (false, (0 : Int), (0 : Int), (0 : Int), (0 : Int), [])
abbrev c48 (m : (List Int) → Option (Bool × Int × Int × Int × Int × (List Int))) : WFn cxT := { nres := 1, n := 0, F := fnW (cx := cxT) a48 n48 dd48 m, p := 3 }
/-! loop.example/g00222/spec.l1In -/
def a49 : Args cxT.ty (Int × Int × Int) := (Args.cons (Arg.leaf (LArg.int .i64)) (Args.cons (Arg.leaf (LArg.int .i64)) (Args.one (Arg.leaf (LArg.int .i64)))))
def n49 : Bool → V cxT.ty := fun t => (.inl (.inl (lv (.bool t))))
def dd49 : Bool := false
abbrev c49 (m : (Int × Int × Int) → Option Bool) := fnT (cx := cxT) a49 n49 dd49 m
theorem hs49 : ∀ t, noRoV (n49 t) = true ∨ noOwnV (n49 t) = true := fun _ => .inl rfl
/-! loop.example/g00222/spec.l1Take -/
def a50 : Args cxT.ty ((List Int) × Int × Int) := (Args.cons (Arg.leaf (LArg.row 5)) (Args.cons (Arg.leaf (LArg.int .i64)) (Args.one (Arg.leaf (LArg.int .i64)))))
def n50 : Int → V cxT.ty := fun t => (.inl (.inl (lv (.int .i64 t))))
def dd50 : Int := (0 : Int)
abbrev c50 (m : ((List Int) × Int × Int) → Option Int) := fnT (cx := cxT) a50 n50 dd50 m
theorem hs50 : ∀ t, noRoV (n50 t) = true ∨ noOwnV (n50 t) = true := fun _ => .inl rfl
/-! loop.example/g00222/impl.isAddress -/
def a51 : Args cxT.ty Int := (Args.one (Arg.leaf (LArg.int .i64)))
def n51 : Bool → V cxT.ty := fun t => (.inl (.inl (lv (.bool t))))
def dd51 : Bool := false
abbrev c51 (m : Int → Option Bool) := fnT (cx := cxT) a51 n51 dd51 m
theorem hs51 : ∀ t, noRoV (n51 t) = true ∨ noOwnV (n51 t) = true := fun _ => .inl rfl
/-! loop.example/g00222/impl.newHead -/
def a52 : Args cxT.ty (Int × Int × Int × Int) := (Args.cons (Arg.leaf (LArg.int .i64)) (Args.cons (Arg.leaf (LArg.int .i64)) (Args.cons (Arg.leaf (LArg.int .i64)) (Args.one (Arg.leaf (LArg.int .i64))))))
def n52 : (Int × Int × Int × Int × Int × Int × Int × Int × Int × Int × Int × Int × Int × Int × Int × Int × Int × Int × Int × Int) → V cxT.ty := fun t => (.inl (.inr [(lv (.int .u8 t.1)), (lv (.int .u8 t.2.1)), (lv (.int .u8 t.2.2.1)), (lv (.int .u8 t.2.2.2.1)), (lv (.int .u8 t.2.2.2.2.1)), (lv (.int .u8 t.2.2.2.2.2.1)), (lv (.int .u8 t.2.2.2.2.2.2.1)), (lv (.int .u8 t.2.2.2.2.2.2.2.1)), (lv (.int .u8 t.2.2.2.2.2.2.2.2.1)), (lv (.int .u8 t.2.2.2.2.2.2.2.2.2.1)), (lv (.int .u8 t.2.2.2.2.2.2.2.2.2.2.1)), (lv (.int .u8 t.2.2.2.2.2.2.2.2.2.2.2.1)), (lv (.int .u8 t.2.2.2.2.2.2.2.2.2.2.2.2.1)), (lv (.int .u8 t.2.2.2.2.2.2.2.2.2.2.2.2.2.1)), (lv (.int .u8 t.2.2.2.2.2.2.2.2.2.2.2.2.2.2.1)), (lv (.int .u8 t.2.2.2.2.2.2.2.2.2.2.2.2.2.2.2.1)), (lv (.int .u8 t.2.2.2.2.2.2.2.2.2.2.2.2.2.2.2.2.1)), (lv (.int .u8 t.2.2.2.2.2.2.2.2.2.2.2.2.2.2.2.2.2.1)), (lv (.int .u8 t.2.2.2.2.2.2.2.2.2.2.2.2.2.2.2.2.2.2.1)), (lv (.int .u8 t.2.2.2.2.2.2.2.2.2.2.2.2.2.2.2.2.2.2.2))]))
def dd52 : (Int × Int × Int × Int × Int × Int × Int × Int × Int × Int × Int × Int × Int × Int × Int × Int × Int × Int × Int × Int) := ((0 : Int), (0 : Int), (0 : Int), (0 : Int), (0 : Int), (0 : Int), (0 : Int), (0 : Int), (0 : Int), (0 : Int), (0 : Int), (0 : Int), (0 : Int), (0 : Int), (0 : Int), (0 : Int), (0 : Int), (0 : Int), (0 : Int), (0 : Int))
abbrev c52 (m : (Int × Int × Int × Int) → Option (Int × Int × Int × Int × Int × Int × Int × Int × Int × Int × Int × Int × Int × Int × Int × Int × Int × Int × Int × Int)) := fnT (cx := cxT) a52 n52 dd52 m
theorem hs52 : ∀ t, noRoV (n52 t) = true ∨ noOwnV (n52 t) = true := fun _ => .inl rfl
/-! loop.example/g00222/impl.greMark -/
def a53 : Args cxT.ty Unit := Args.nil
def n53 : (Int × Int × Int × Int) → V cxT.ty := fun t => (.inl (.inr [(lv (.int .u8 t.1)), (lv (.int .u8 t.2.1)), (lv (.int .u8 t.2.2.1)), (lv (.int .u8 t.2.2.2))]))
def dd53 : (Int × Int × Int × Int) := ((0 : Int), (0 : Int), (0 : Int), (0 : Int))
abbrev c53 (m : Unit → Option (Int × Int × Int × Int)) := fnT (cx := cxT) a53 n53 dd53 m
theorem hs53 : ∀ t, noRoV (n53 t) = true ∨ noOwnV (n53 t) = true := fun _ => .inl rfl
/-! loop.example/g00222/impl.joinPieces -/
def a54 : Args cxT.ty (List (List Int)) := (Args.one (Arg.leaf (LArg.row 22)))
def n54 : (List Int) → V cxT.ty := fun t => (.inl (.inl (ls { own := 2, nm := 0, e := 5, o := true, xs := t })))
def dd54 : (List Int) := []
abbrev c54 (m : (List (List Int)) → Option (List Int)) := fnT (cx := cxT) a54 n54 dd54 m
theorem hs54 : ∀ t, noRoV (n54 t) = true ∨ noOwnV (n54 t) = true := fun _ => .inl rfl
/-! loop.example/g00222/spec.l1Chance -/
def a55 : Args cxT.ty (((List Int) × Int) × Int) := (Args.cons (Arg.agg (SArg.cons (LArg.row 5) (SArg.one (LArg.int .i64)))) (Args.one (Arg.leaf (LArg.int .i64))))
def n55 : (Bool × (List Int) × Int) → List (A cxT.ty) := fun t => [(.inl (lv (.bool t.1))), (.inr [(ls (ro 5 t.2.1)), (lv (.int .i64 t.2.2))])]
def dd55 : (Bool × (List Int) × Int) := (false, [], (0 : Int))
abbrev c55 (m : (((List Int) × Int) × Int) → Option (Bool × (List Int) × Int)) : WFn cxT := { nres := 1, n := 0, F := fnW (cx := cxT) a55 n55 dd55 m, p := 1 }
/-! loop.example/g00222/spec.l1Next -/
def a56 : Args cxT.ty (((List Int) × Int) × Int) := (Args.cons (Arg.agg (SArg.cons (LArg.row 5) (SArg.one (LArg.int .i64)))) (Args.one (Arg.leaf (LArg.int .i64))))
def n56 : (Int × (List Int) × Int) → List (A cxT.ty) := fun t => [(.inl (lv (.int .i64 t.1))), (.inr [(ls (ro 5 t.2.1)), (lv (.int .i64 t.2.2))])]
def dd56 : (Int × (List Int) × Int) := ((0 : Int), [], (0 : Int))
abbrev c56 (m : (((List Int) × Int) × Int) → Option (Int × (List Int) × Int)) : WFn cxT := { nres := 1, n := 0, F := fnW (cx := cxT) a56 n56 dd56 m, p := 1 }
/-! loop.example/g00222/spec.l1Pick -/
def a57 : Args cxT.ty (((List Int) × Int) × (List Int)) := (Args.cons (Arg.agg (SArg.cons (LArg.row 5) (SArg.one (LArg.int .i64)))) (Args.one (Arg.leaf (LArg.row 2))))
def n57 : (Int × (List Int) × Int) → List (A cxT.ty) := fun t => [(.inl (lv (.int .i64 t.1))), (.inr [(ls (ro 5 t.2.1)), (lv (.int .i64 t.2.2))])]
def dd57 : (Int × (List Int) × Int) := ((0 : Int), [], (0 : Int))
abbrev c57 (m : (((List Int) × Int) × (List Int)) → Option (Int × (List Int) × Int)) : WFn cxT := { nres := 1, n := 0, F := fnW (cx := cxT) a57 n57 dd57 m, p := 1 }
/-! loop.example/g00222/spec.l2Address -/
def a58 : Args cxT.ty Int := (Args.one (Arg.leaf (LArg.int .i64)))
def n58 : Bool → V cxT.ty := fun t => (.inl (.inl (lv (.bool t))))
def dd58 : Bool := false
abbrev c58 (m : Int → Option Bool) := fnT (cx := cxT) a58 n58 dd58 m
theorem hs58 : ∀ t, noRoV (n58 t) = true ∨ noOwnV (n58 t) = true := fun _ => .inl rfl
/-! loop.example/g00222/laws.szByteS -/
def a59 : Args cxT.ty ((List Int) × Int) := (Args.cons (Arg.leaf (LArg.row 5)) (Args.one (Arg.leaf (LArg.int .i64))))
def n59 : Int → V cxT.ty := fun t => (.inl (.inl (lv (.int .i64 t))))
def dd59 : Int := (0 : Int)
abbrev c59 (m : ((List Int) × Int) → Option Int) := fnT (cx := cxT) a59 n59 dd59 m
theorem hs59 : ∀ t, noRoV (n59 t) = true ∨ noOwnV (n59 t) = true := fun _ => .inl rfl
/-! loop.example/g00222/spec.l2Port -/
def a60 : Args cxT.ty Int := (Args.one (Arg.leaf (LArg.int .i64)))
def n60 : Bool → V cxT.ty := fun t => (.inl (.inl (lv (.bool t))))
def dd60 : Bool := false
abbrev c60 (m : Int → Option Bool) := fnT (cx := cxT) a60 n60 dd60 m
theorem hs60 : ∀ t, noRoV (n60 t) = true ∨ noOwnV (n60 t) = true := fun _ => .inl rfl
/-! loop.example/g00222/impl.isProto -/
def a61 : Args cxT.ty Int := (Args.one (Arg.leaf (LArg.int .i64)))
def n61 : Bool → V cxT.ty := fun t => (.inl (.inl (lv (.bool t))))
def dd61 : Bool := false
abbrev c61 (m : Int → Option Bool) := fnT (cx := cxT) a61 n61 dd61 m
theorem hs61 : ∀ t, noRoV (n61 t) = true ∨ noOwnV (n61 t) = true := fun _ => .inl rfl
/-! loop.example/g00222/impl.isPort -/
def a62 : Args cxT.ty Int := (Args.one (Arg.leaf (LArg.int .i64)))
def n62 : Bool → V cxT.ty := fun t => (.inl (.inl (lv (.bool t))))
def dd62 : Bool := false
abbrev c62 (m : Int → Option Bool) := fnT (cx := cxT) a62 n62 dd62 m
theorem hs62 : ∀ t, noRoV (n62 t) = true ∨ noOwnV (n62 t) = true := fun _ => .inl rfl
/-! loop.example/g00222/spec.l2Build -/
def a63 : Args cxT.ty (Int × Int × Int × Int × Int × (List Int)) := (Args.one (Arg.agg (SArg.cons (LArg.int .i64) (SArg.cons (LArg.int .i64) (SArg.cons (LArg.int .i64) (SArg.cons (LArg.int .i64) (SArg.cons (LArg.int .i64) (SArg.one (LArg.row 5)))))))))
def n63 : (List Int) → V cxT.ty := fun t => (.inl (.inl (ls { own := 2, nm := 0, e := 5, o := true, xs := t })))
def dd63 : (List Int) := []
abbrev c63 (m : (Int × Int × Int × Int × Int × (List Int)) → Option (List Int)) := fnT (cx := cxT) a63 n63 dd63 m
theorem hs63 : ∀ t, noRoV (n63 t) = true ∨ noOwnV (n63 t) = true := fun _ => .inl rfl
/-! loop.example/g00222/impl.numberBytes -/
def a64 : Args cxT.ty (Int × Int) := (Args.cons (Arg.leaf (LArg.int .u64)) (Args.one (Arg.leaf (LArg.int .i64))))
def n64 : (List Int) → V cxT.ty := fun t => (.inl (.inl (ls { own := 2, nm := 0, e := 5, o := true, xs := t })))
def dd64 : (List Int) := []
abbrev c64 (m : (Int × Int) → Option (List Int)) := fnT (cx := cxT) a64 n64 dd64 m
theorem hs64 : ∀ t, noRoV (n64 t) = true ∨ noOwnV (n64 t) = true := fun _ => .inl rfl
/-! loop.example/g00222/laws.heldByteS -/
def a65 : Args cxT.ty ((List Int) × Int) := (Args.cons (Arg.leaf (LArg.row 5)) (Args.one (Arg.leaf (LArg.int .i64))))
def n65 : Int → V cxT.ty := fun t => (.inl (.inl (lv (.int .i64 t))))
def dd65 : Int := (0 : Int)
abbrev c65 (m : ((List Int) × Int) → Option Int) := fnT (cx := cxT) a65 n65 dd65 m
theorem hs65 : ∀ t, noRoV (n65 t) = true ∨ noOwnV (n65 t) = true := fun _ => .inl rfl
/-! loop.example/g00222/spec.WholeSum -/
def a66 : Args cxT.ty (List Int) := (Args.one (Arg.leaf (LArg.row 5)))
def n66 : Bool → V cxT.ty := fun t => (.inl (.inl (lv (.bool t))))
def dd66 : Bool := false
abbrev c66 (m : (List Int) → Option Bool) := fnT (cx := cxT) a66 n66 dd66 m
theorem hs66 : ∀ t, noRoV (n66 t) = true ∨ noOwnV (n66 t) = true := fun _ => .inl rfl
/-! loop.example/g00222/impl.ParsePacket$1 -/
def a67 : Args cxT.ty Unit := Args.nil
def n67 : Unit → V cxT.ty := fun t => (.inr (.inl []))
def dd67 : Unit := ()
abbrev c67 (m : Unit → Option Unit) := fnT (cx := cxT) a67 n67 dd67 m
theorem hs67 : ∀ t, noRoV (n67 t) = true ∨ noOwnV (n67 t) = true := fun _ => .inl rfl
/-! loop.example/g00222/impl.readPacket -/
def a68 : Args cxT.ty (List Int) := (Args.one (Arg.leaf (LArg.row 5)))
def n68 : (Bool × Int × Int × Int × Int × Int × Int × (List Int)) → List (A cxT.ty) := fun t => [(.inl (lv (.bool t.1))), (.inl (lv (.iface 85 (.agg #[.int .i64 t.2.1])))), (.inr [(lv (.int .i64 t.2.2.1)), (lv (.int .i64 t.2.2.2.1)), (lv (.int .i64 t.2.2.2.2.1)), (lv (.int .i64 t.2.2.2.2.2.1)), (lv (.int .i64 t.2.2.2.2.2.2.1)), (ls { own := 2, nm := 0, e := 5, o := true, xs := t.2.2.2.2.2.2.2 })])]
def dd68 : (Bool × Int × Int × Int × Int × Int × Int × (List Int)) := (false, (0 : Int), (0 : Int), (0 : Int), (0 : Int), (0 : Int), (0 : Int), [])
abbrev c68 (m : (List Int) → Option (Bool × Int × Int × Int × Int × Int × Int × (List Int))) : WFn cxT := { nres := 1, n := 0, F := fnW (cx := cxT) a68 n68 dd68 m, p := 3 }
/-! loop.example/g00222/laws.heldPacket -/
def a69 : Args cxT.ty ((Int × Int × Int × Int × Int × (List Int)) × Int) := (Args.cons (Arg.agg (SArg.cons (LArg.int .i64) (SArg.cons (LArg.int .i64) (SArg.cons (LArg.int .i64) (SArg.cons (LArg.int .i64) (SArg.cons (LArg.int .i64) (SArg.one (LArg.row 5)))))))) (Args.one (Arg.leaf (LArg.int .i64))))
def n69 : Int → V cxT.ty := fun t => (.inl (.inl (lv (.int .i64 t))))
def dd69 : Int := (0 : Int)
abbrev c69 (m : ((Int × Int × Int × Int × Int × (List Int)) × Int) → Option Int) := fnT (cx := cxT) a69 n69 dd69 m
theorem hs69 : ∀ t, noRoV (n69 t) = true ∨ noOwnV (n69 t) = true := fun _ => .inl rfl
/-! bytes.Equal -/
def a70 : Args cxT.ty ((List Int) × (List Int)) := (Args.cons (Arg.leaf (LArg.row 5)) (Args.one (Arg.leaf (LArg.row 5))))
def n70 : Bool → V cxT.ty := fun t => (.inl (.inl (lv (.bool t))))
def dd70 : Bool := false
abbrev c70 (m : ((List Int) × (List Int)) → Option Bool) := fnT (cx := cxT) a70 n70 dd70 m
theorem hs70 : ∀ t, noRoV (n70 t) = true ∨ noOwnV (n70 t) = true := fun _ => .inl rfl
/-! loop.example/g00222/spec.l2Head -/
def a71 : Args cxT.ty (Int × Int × Int × Int) := (Args.cons (Arg.leaf (LArg.int .i64)) (Args.cons (Arg.leaf (LArg.int .i64)) (Args.cons (Arg.leaf (LArg.int .i64)) (Args.one (Arg.leaf (LArg.int .i64))))))
def n71 : (List Int) → V cxT.ty := fun t => (.inl (.inl (ls { own := 2, nm := 0, e := 5, o := true, xs := t })))
def dd71 : (List Int) := []
abbrev c71 (m : (Int × Int × Int × Int) → Option (List Int)) := fnT (cx := cxT) a71 n71 dd71 m
theorem hs71 : ∀ t, noRoV (n71 t) = true ∨ noOwnV (n71 t) = true := fun _ => .inl rfl
/-! loop.example/g00222/spec.l2Packet -/
def a72 : Args cxT.ty ((List Int) × Int) := (Args.one (Arg.agg (SArg.cons (LArg.row 5) (SArg.one (LArg.int .i64)))))
def n72 : (Int × Int × Int × Int × Int × (List Int) × (List Int) × Int) → List (A cxT.ty) := fun t => [(.inr [(lv (.int .i64 t.1)), (lv (.int .i64 t.2.1)), (lv (.int .i64 t.2.2.1)), (lv (.int .i64 t.2.2.2.1)), (lv (.int .i64 t.2.2.2.2.1)), (ls { own := 2, nm := 0, e := 5, o := true, xs := t.2.2.2.2.2.1 })]), (.inr [(ls (ro 5 t.2.2.2.2.2.2.1)), (lv (.int .i64 t.2.2.2.2.2.2.2))])]
def dd72 : (Int × Int × Int × Int × Int × (List Int) × (List Int) × Int) := ((0 : Int), (0 : Int), (0 : Int), (0 : Int), (0 : Int), [], [], (0 : Int))
abbrev c72 (m : ((List Int) × Int) → Option (Int × Int × Int × Int × Int × (List Int) × (List Int) × Int)) : WFn cxT := { nres := 1, n := 0, F := fnW (cx := cxT) a72 n72 dd72 m, p := 1 }
/-! loop.example/g00222/spec.SumWords -/
def a73 : Args cxT.ty (List Int) := (Args.one (Arg.leaf (LArg.row 5)))
def n73 : Int → V cxT.ty := fun t => (.inl (.inl (lv (.int .i64 t))))
def dd73 : Int := (0 : Int)
abbrev c73 (m : (List Int) → Option Int) := fnT (cx := cxT) a73 n73 dd73 m
theorem hs73 : ∀ t, noRoV (n73 t) = true ∨ noOwnV (n73 t) = true := fun _ => .inl rfl
/-! loop.example/g00222/impl.readHead -/
def a74 : Args cxT.ty ((List Int) × Int × Int) := (Args.cons (Arg.leaf (LArg.row 5)) (Args.cons (Arg.leaf (LArg.int .i64)) (Args.one (Arg.leaf (LArg.int .i64)))))
def n74 : (Bool × Int × Int × Int × Int × Int × Int × Int × Int × Int × Int × Int × Int × Int × Int × Int × Int × Int × Int × Int × Int × Int) → List (A cxT.ty) := fun t => [(.inl (lv (.bool t.1))), (.inl (lv (.iface 85 (.agg #[.int .i64 t.2.1])))), (.inr [(lv (.int .u8 t.2.2.1)), (lv (.int .u8 t.2.2.2.1)), (lv (.int .u8 t.2.2.2.2.1)), (lv (.int .u8 t.2.2.2.2.2.1)), (lv (.int .u8 t.2.2.2.2.2.2.1)), (lv (.int .u8 t.2.2.2.2.2.2.2.1)), (lv (.int .u8 t.2.2.2.2.2.2.2.2.1)), (lv (.int .u8 t.2.2.2.2.2.2.2.2.2.1)), (lv (.int .u8 t.2.2.2.2.2.2.2.2.2.2.1)), (lv (.int .u8 t.2.2.2.2.2.2.2.2.2.2.2.1)), (lv (.int .u8 t.2.2.2.2.2.2.2.2.2.2.2.2.1)), (lv (.int .u8 t.2.2.2.2.2.2.2.2.2.2.2.2.2.1)), (lv (.int .u8 t.2.2.2.2.2.2.2.2.2.2.2.2.2.2.1)), (lv (.int .u8 t.2.2.2.2.2.2.2.2.2.2.2.2.2.2.2.1)), (lv (.int .u8 t.2.2.2.2.2.2.2.2.2.2.2.2.2.2.2.2.1)), (lv (.int .u8 t.2.2.2.2.2.2.2.2.2.2.2.2.2.2.2.2.2.1)), (lv (.int .u8 t.2.2.2.2.2.2.2.2.2.2.2.2.2.2.2.2.2.2.1)), (lv (.int .u8 t.2.2.2.2.2.2.2.2.2.2.2.2.2.2.2.2.2.2.2.1)), (lv (.int .u8 t.2.2.2.2.2.2.2.2.2.2.2.2.2.2.2.2.2.2.2.2.1)), (lv (.int .u8 t.2.2.2.2.2.2.2.2.2.2.2.2.2.2.2.2.2.2.2.2.2))])]
def dd74 : (Bool × Int × Int × Int × Int × Int × Int × Int × Int × Int × Int × Int × Int × Int × Int × Int × Int × Int × Int × Int × Int × Int) := (false, (0 : Int), (0 : Int), (0 : Int), (0 : Int), (0 : Int), (0 : Int), (0 : Int), (0 : Int), (0 : Int), (0 : Int), (0 : Int), (0 : Int), (0 : Int), (0 : Int), (0 : Int), (0 : Int), (0 : Int), (0 : Int), (0 : Int), (0 : Int), (0 : Int))
abbrev c74 (m : ((List Int) × Int × Int) → Option (Bool × Int × Int × Int × Int × Int × Int × Int × Int × Int × Int × Int × Int × Int × Int × Int × Int × Int × Int × Int × Int × Int)) : WFn cxT := { nres := 1, n := 0, F := fnW (cx := cxT) a74 n74 dd74 m, p := 3 }
/-! loop.example/g00222/impl.TakeNumber -/
def a75 : Args cxT.ty ((List Int) × Int × Int) := (Args.cons (Arg.leaf (LArg.row 5)) (Args.cons (Arg.leaf (LArg.int .i64)) (Args.one (Arg.leaf (LArg.int .i64)))))
def n75 : (Int × Int) → V cxT.ty := fun t => (.inl (.inr [(lv (.int .i64 t.1)), (lv (.int .i64 t.2))]))
def dd75 : (Int × Int) := ((0 : Int), (0 : Int))
abbrev c75 (m : ((List Int) × Int × Int) → Option (Int × Int)) := fnT (cx := cxT) a75 n75 dd75 m
theorem hs75 : ∀ t, noRoV (n75 t) = true ∨ noOwnV (n75 t) = true := fun _ => .inl rfl
/-! loop.example/g00222/impl.demand -/
def a76 : Args cxT.ty (Bool × Int) := (Args.cons (Arg.leaf LArg.bool) (Args.one (Arg.leaf (LArg.int .i64))))
def n76 : (Bool × Int) → List (A cxT.ty) := fun t => [(.inl (lv (.bool t.1))), (.inl (lv (.iface 85 (.agg #[.int .i64 t.2]))))]
def dd76 : (Bool × Int) := (false, (0 : Int))
abbrev c76 (m : (Bool × Int) → Option (Bool × Int)) : WFn cxT := { nres := 0, n := 0, F := fnW (cx := cxT) a76 n76 dd76 m, p := 3 }
/-! bytes.HasPrefix -/
def a77 : Args cxT.ty ((List Int) × (List Int)) := (Args.cons (Arg.leaf (LArg.row 5)) (Args.one (Arg.leaf (LArg.row 5))))
def n77 : Bool → V cxT.ty := fun t => (.inl (.inl (lv (.bool t))))
def dd77 : Bool := false
abbrev c77 (m : ((List Int) × (List Int)) → Option Bool) := fnT (cx := cxT) a77 n77 dd77 m
theorem hs77 : ∀ t, noRoV (n77 t) = true ∨ noOwnV (n77 t) = true := fun _ => .inl rfl
/-! loop.example/g00222/impl.summedHead -/
def a78 : Args cxT.ty (Int × Int × Int × Int × Int × Int × Int × Int × Int × Int × Int × Int × Int × Int × Int × Int × Int × Int × Int × Int) := (Args.one (Arg.agg (SArg.cons (LArg.int .u8) (SArg.cons (LArg.int .u8) (SArg.cons (LArg.int .u8) (SArg.cons (LArg.int .u8) (SArg.cons (LArg.int .u8) (SArg.cons (LArg.int .u8) (SArg.cons (LArg.int .u8) (SArg.cons (LArg.int .u8) (SArg.cons (LArg.int .u8) (SArg.cons (LArg.int .u8) (SArg.cons (LArg.int .u8) (SArg.cons (LArg.int .u8) (SArg.cons (LArg.int .u8) (SArg.cons (LArg.int .u8) (SArg.cons (LArg.int .u8) (SArg.cons (LArg.int .u8) (SArg.cons (LArg.int .u8) (SArg.cons (LArg.int .u8) (SArg.cons (LArg.int .u8) (SArg.one (LArg.int .u8)))))))))))))))))))))))
def n78 : (Int × Int × Int × Int × Int × Int × Int × Int × Int × Int × Int × Int × Int × Int × Int × Int × Int × Int × Int × Int) → V cxT.ty := fun t => (.inl (.inr [(lv (.int .u8 t.1)), (lv (.int .u8 t.2.1)), (lv (.int .u8 t.2.2.1)), (lv (.int .u8 t.2.2.2.1)), (lv (.int .u8 t.2.2.2.2.1)), (lv (.int .u8 t.2.2.2.2.2.1)), (lv (.int .u8 t.2.2.2.2.2.2.1)), (lv (.int .u8 t.2.2.2.2.2.2.2.1)), (lv (.int .u8 t.2.2.2.2.2.2.2.2.1)), (lv (.int .u8 t.2.2.2.2.2.2.2.2.2.1)), (lv (.int .u8 t.2.2.2.2.2.2.2.2.2.2.1)), (lv (.int .u8 t.2.2.2.2.2.2.2.2.2.2.2.1)), (lv (.int .u8 t.2.2.2.2.2.2.2.2.2.2.2.2.1)), (lv (.int .u8 t.2.2.2.2.2.2.2.2.2.2.2.2.2.1)), (lv (.int .u8 t.2.2.2.2.2.2.2.2.2.2.2.2.2.2.1)), (lv (.int .u8 t.2.2.2.2.2.2.2.2.2.2.2.2.2.2.2.1)), (lv (.int .u8 t.2.2.2.2.2.2.2.2.2.2.2.2.2.2.2.2.1)), (lv (.int .u8 t.2.2.2.2.2.2.2.2.2.2.2.2.2.2.2.2.2.1)), (lv (.int .u8 t.2.2.2.2.2.2.2.2.2.2.2.2.2.2.2.2.2.2.1)), (lv (.int .u8 t.2.2.2.2.2.2.2.2.2.2.2.2.2.2.2.2.2.2.2))]))
def dd78 : (Int × Int × Int × Int × Int × Int × Int × Int × Int × Int × Int × Int × Int × Int × Int × Int × Int × Int × Int × Int) := ((0 : Int), (0 : Int), (0 : Int), (0 : Int), (0 : Int), (0 : Int), (0 : Int), (0 : Int), (0 : Int), (0 : Int), (0 : Int), (0 : Int), (0 : Int), (0 : Int), (0 : Int), (0 : Int), (0 : Int), (0 : Int), (0 : Int), (0 : Int))
abbrev c78 (m : (Int × Int × Int × Int × Int × Int × Int × Int × Int × Int × Int × Int × Int × Int × Int × Int × Int × Int × Int × Int) → Option (Int × Int × Int × Int × Int × Int × Int × Int × Int × Int × Int × Int × Int × Int × Int × Int × Int × Int × Int × Int)) := fnT (cx := cxT) a78 n78 dd78 m
theorem hs78 : ∀ t, noRoV (n78 t) = true ∨ noOwnV (n78 t) = true := fun _ => .inl rfl
/-! loop.example/g00222/spec.l1Bytes -/
def a79 : Args cxT.ty (Int × Int) := (Args.cons (Arg.leaf (LArg.int .i64)) (Args.one (Arg.leaf (LArg.int .i64))))
def n79 : (List Int) → V cxT.ty := fun t => (.inl (.inl (ls { own := 2, nm := 0, e := 5, o := true, xs := t })))
def dd79 : (List Int) := []
abbrev c79 (m : (Int × Int) → Option (List Int)) := fnT (cx := cxT) a79 n79 dd79 m
theorem hs79 : ∀ t, noRoV (n79 t) = true ∨ noOwnV (n79 t) = true := fun _ => .inl rfl
/-! loop.example/g00222/impl.WholeSum -/
def a80 : Args cxT.ty (List Int) := (Args.one (Arg.leaf (LArg.row 5)))
def n80 : Bool → V cxT.ty := fun t => (.inl (.inl (lv (.bool t))))
def dd80 : Bool := false
abbrev c80 (m : (List Int) → Option Bool) := fnT (cx := cxT) a80 n80 dd80 m
theorem hs80 : ∀ t, noRoV (n80 t) = true ∨ noOwnV (n80 t) = true := fun _ => .inl rfl
/-! loop.example/g00222/spec.l1Some -/
def a81 : Args cxT.ty (((List Int) × Int) × Int) := (Args.cons (Arg.agg (SArg.cons (LArg.row 5) (SArg.one (LArg.int .i64)))) (Args.one (Arg.leaf (LArg.int .i64))))
def n81 : ((List Int) × (List Int) × Int) → List (A cxT.ty) := fun t => [(.inl (ls { own := 2, nm := 0, e := 5, o := true, xs := t.1 })), (.inr [(ls (ro 5 t.2.1)), (lv (.int .i64 t.2.2))])]
def dd81 : ((List Int) × (List Int) × Int) := ([], [], (0 : Int))
abbrev c81 (m : (((List Int) × Int) × Int) → Option ((List Int) × (List Int) × Int)) : WFn cxT := { nres := 1, n := 0, F := fnW (cx := cxT) a81 n81 dd81 m, p := 1 }
/-! loop.example/g00222/impl.isNumberSize -/
def a82 : Args cxT.ty Int := (Args.one (Arg.leaf (LArg.int .i64)))
def n82 : Bool → V cxT.ty := fun t => (.inl (.inl (lv (.bool t))))
def dd82 : Bool := false
abbrev c82 (m : Int → Option Bool) := fnT (cx := cxT) a82 n82 dd82 m
theorem hs82 : ∀ t, noRoV (n82 t) = true ∨ noOwnV (n82 t) = true := fun _ => .inl rfl
/-! loop.example/g00222/impl.SumWords -/
def a83 : Args cxT.ty (List Int) := (Args.one (Arg.leaf (LArg.row 5)))
def n83 : Int → V cxT.ty := fun t => (.inl (.inl (lv (.int .i64 t))))
def dd83 : Int := (0 : Int)
abbrev c83 (m : (List Int) → Option Int) := fnT (cx := cxT) a83 n83 dd83 m
theorem hs83 : ∀ t, noRoV (n83 t) = true ∨ noOwnV (n83 t) = true := fun _ => .inl rfl
/-! loop.example/g00222/impl.wordAt -/
def a84 : Args cxT.ty ((List Int) × Int) := (Args.cons (Arg.leaf (LArg.row 5)) (Args.one (Arg.leaf (LArg.int .i64))))
def n84 : Int → V cxT.ty := fun t => (.inl (.inl (lv (.int .u64 t))))
def dd84 : Int := (0 : Int)
abbrev c84 (m : ((List Int) × Int) → Option Int) := fnT (cx := cxT) a84 n84 dd84 m
theorem hs84 : ∀ t, noRoV (n84 t) = true ∨ noOwnV (n84 t) = true := fun _ => .inl rfl
/-! (runtime.boundsError).Error -/
def a85 : Args cxT.ty (Int × Int × Bool × Int) := (Args.one (Arg.agg (SArg.cons (LArg.int .i64) (SArg.cons (LArg.int .i64) (SArg.cons LArg.bool (SArg.one (LArg.int .u8)))))))
def n85 : ByteArray → V cxT.ty := fun t => (.inl (.inl (lv (.string t))))
def dd85 : ByteArray := ByteArray.empty
abbrev c85 (m : (Int × Int × Bool × Int) → Option ByteArray) := fnT (cx := cxT) a85 n85 dd85 m
theorem hs85 : ∀ t, noRoV (n85 t) = true ∨ noOwnV (n85 t) = true := fun _ => .inl rfl
/-! (runtime.boundsError).RuntimeError -/
def a86 : Args cxT.ty (Int × Int × Bool × Int) := (Args.one (Arg.agg (SArg.cons (LArg.int .i64) (SArg.cons (LArg.int .i64) (SArg.cons LArg.bool (SArg.one (LArg.int .u8)))))))
def n86 : Unit → V cxT.ty := fun t => (.inr (.inl []))
def dd86 : Unit := ()
abbrev c86 (m : (Int × Int × Bool × Int) → Option Unit) := fnT (cx := cxT) a86 n86 dd86 m
theorem hs86 : ∀ t, noRoV (n86 t) = true ∨ noOwnV (n86 t) = true := fun _ => .inl rfl
/-! (runtime.errorString).Error -/
def a87 : Args cxT.ty ByteArray := (Args.one (Arg.leaf LArg.str))
def n87 : ByteArray → V cxT.ty := fun t => (.inl (.inl (lv (.string t))))
def dd87 : ByteArray := ByteArray.empty
abbrev c87 (m : ByteArray → Option ByteArray) := fnT (cx := cxT) a87 n87 dd87 m
theorem hs87 : ∀ t, noRoV (n87 t) = true ∨ noOwnV (n87 t) = true := fun _ => .inl rfl
/-! (runtime.errorString).RuntimeError -/
def a88 : Args cxT.ty ByteArray := (Args.one (Arg.leaf LArg.str))
def n88 : Unit → V cxT.ty := fun t => (.inr (.inl []))
def dd88 : Unit := ()
abbrev c88 (m : ByteArray → Option Unit) := fnT (cx := cxT) a88 n88 dd88 m
theorem hs88 : ∀ t, noRoV (n88 t) = true ∨ noOwnV (n88 t) = true := fun _ => .inl rfl
/-! (runtime.plainError).Error -/
def a89 : Args cxT.ty ByteArray := (Args.one (Arg.leaf LArg.str))
def n89 : ByteArray → V cxT.ty := fun t => (.inl (.inl (lv (.string t))))
def dd89 : ByteArray := ByteArray.empty
abbrev c89 (m : ByteArray → Option ByteArray) := fnT (cx := cxT) a89 n89 dd89 m
theorem hs89 : ∀ t, noRoV (n89 t) = true ∨ noOwnV (n89 t) = true := fun _ => .inl rfl
/-! (runtime.plainError).RuntimeError -/
def a90 : Args cxT.ty ByteArray := (Args.one (Arg.leaf LArg.str))
def n90 : Unit → V cxT.ty := fun t => (.inr (.inl []))
def dd90 : Unit := ()
abbrev c90 (m : ByteArray → Option Unit) := fnT (cx := cxT) a90 n90 dd90 m
theorem hs90 : ∀ t, noRoV (n90 t) = true ∨ noOwnV (n90 t) = true := fun _ => .inl rfl
/-! (runtime.errorAddressString).Error -/
def a91 : Args cxT.ty (ByteArray × Int) := (Args.one (Arg.agg (SArg.cons LArg.str (SArg.one (LArg.int .u64)))))
def n91 : ByteArray → V cxT.ty := fun t => (.inl (.inl (lv (.string t))))
def dd91 : ByteArray := ByteArray.empty
abbrev c91 (m : (ByteArray × Int) → Option ByteArray) := fnT (cx := cxT) a91 n91 dd91 m
theorem hs91 : ∀ t, noRoV (n91 t) = true ∨ noOwnV (n91 t) = true := fun _ => .inl rfl
/-! (runtime.errorAddressString).RuntimeError -/
def a92 : Args cxT.ty (ByteArray × Int) := (Args.one (Arg.agg (SArg.cons LArg.str (SArg.one (LArg.int .u64)))))
def n92 : Unit → V cxT.ty := fun t => (.inr (.inl []))
def dd92 : Unit := ()
abbrev c92 (m : (ByteArray × Int) → Option Unit) := fnT (cx := cxT) a92 n92 dd92 m
theorem hs92 : ∀ t, noRoV (n92 t) = true ∨ noOwnV (n92 t) = true := fun _ => .inl rfl
end Go.Proofs.Try
