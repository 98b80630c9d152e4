/- A part of the proof of FnExactUnpackCmd: L6Base, L6Con, L6ConB. -/
import Derived.Test.YthfopihmealhkaaVmJ
import Derived.Test.YthfopihmealhkaaProg
namespace Go.Proofs.Try
open Go Go.VM Go.RowKit

def tyT (e : Nat) : Type := if e = 2 then Int else if e = 3 then Int else if e = 5 then Int else if e = 22 then List (Int) else if e = 35 then Int × Int × Int × Int × Bool else if e = 114 then Int × Int × Int × List (Int) else if e = 162 then Int × Int × Int × Int × Bool else if e = 160 then Int × Int × Int × List (Int) else if e = 27 then Int × List (Int × Int × Int × Int × Bool) × List (Int × Int × Int × List (Int)) else if e = 60 then Int × List (Int × Int × Int × Int × Bool) × List (Int × Int × Int × List (Int)) else if e = 121 then List (Int) × Int × Bool else if e = 127 then List (Int) × Int else Unit
def inhT (e : Nat) : tyT e := by
  unfold tyT
  repeat' split
  all_goals first | exact ((0 : Int) : Int) | exact ((0 : Int) : Int) | exact ((0 : Int) : Int) | exact ([] : List (Int)) | exact (((0 : Int), (0 : Int), (0 : Int), (0 : Int), false) : Int × Int × Int × Int × Bool) | exact (((0 : Int), (0 : Int), (0 : Int), []) : Int × Int × Int × List (Int)) | exact (((0 : Int), (0 : Int), (0 : Int), (0 : Int), false) : Int × Int × Int × Int × Bool) | exact (((0 : Int), (0 : Int), (0 : Int), []) : Int × Int × Int × List (Int)) | exact (((0 : Int), [], []) : Int × List (Int × Int × Int × Int × Bool) × List (Int × Int × Int × List (Int))) | exact (((0 : Int), [], []) : Int × List (Int × Int × Int × Int × Bool) × List (Int × Int × Int × List (Int))) | exact (([], (0 : Int), false) : List (Int) × Int × Bool) | exact (([], (0 : Int)) : List (Int) × Int) | exact ()
def cd2 : Cd tyT (tyT 2) := cdInt .i64
def cd3 : Cd tyT (tyT 3) := cdInt .i64
def cd5 : Cd tyT (tyT 5) := cdInt .u8
def cd22 : Cd tyT (tyT 22) := cdRow 5
def cd35 : Cd tyT (tyT 35) := cdPair (cdInt .i64) (cdPair (cdInt .i64) (cdPair (cdInt .i64) (cdPair (cdInt .i64) cdBool)))
def cd114 : Cd tyT (tyT 114) := cdPair (cdInt .i64) (cdPair (cdInt .i64) (cdPair (cdInt .i64) (cdRow 2)))
def cd162 : Cd tyT (tyT 162) := cdPair (cdInt .i64) (cdPair (cdInt .i64) (cdPair (cdInt .i64) (cdPair (cdInt .i64) cdBool)))
def cd160 : Cd tyT (tyT 160) := cdPair (cdInt .i64) (cdPair (cdInt .i64) (cdPair (cdInt .i64) (cdRow 2)))
def cd27 : Cd tyT (tyT 27) := cdPair (cdInt .i64) (cdPair (cdRow 35) (cdRow 114))
def cd60 : Cd tyT (tyT 60) := cdPair (cdInt .i64) (cdPair (cdRow 162) (cdRow 160))
def cd121 : Cd tyT (tyT 121) := cdPair (cdRow 5) (cdPair (cdInt .i64) cdBool)
def cd127 : Cd tyT (tyT 127) := cdPair (cdRow 5) (cdInt .i64)
def cdT (e : Nat) : Cd tyT (tyT e) :=
  if h : e = 2 then h.symm ▸ cd2 else if h : e = 3 then h.symm ▸ cd3 else if h : e = 5 then h.symm ▸ cd5 else if h : e = 22 then h.symm ▸ cd22 else if h : e = 35 then h.symm ▸ cd35 else if h : e = 114 then h.symm ▸ cd114 else if h : e = 162 then h.symm ▸ cd162 else if h : e = 160 then h.symm ▸ cd160 else if h : e = 27 then h.symm ▸ cd27 else if h : e = 60 then h.symm ▸ cd60 else if h : e = 121 then h.symm ▸ cd121 else if h : e = 127 then h.symm ▸ cd127 else cdNone (inhT e)
def cxT : Cx := Cx.of cdT
theorem cxT_ok : cxT.Ok := Cx.of_ok cdT
set_option maxRecDepth 100000 in
theorem dom_cases {e : Nat} (h : (cdT e).dom = true) : e = 2 ∨ e = 3 ∨ e = 5 ∨ e = 35 ∨ e = 162 := by
  by_cases h0 : e = 2
  · exact .inl h0
  by_cases h1 : e = 3
  · exact .inr (.inl h1)
  by_cases h2 : e = 5
  · exact .inr (.inr (.inl h2))
  by_cases h3 : e = 22
  · subst h3; exact absurd h (by intro hh; cases (show false = true from hh))
  by_cases h4 : e = 35
  · exact .inr (.inr (.inr (.inl h4)))
  by_cases h5 : e = 114
  · subst h5; exact absurd h (by intro hh; cases (show false = true from hh))
  by_cases h6 : e = 162
  · exact .inr (.inr (.inr (.inr (h6))))
  by_cases h7 : e = 160
  · subst h7; exact absurd h (by intro hh; cases (show false = true from hh))
  by_cases h8 : e = 27
  · subst h8; exact absurd h (by intro hh; cases (show false = true from hh))
  by_cases h9 : e = 60
  · subst h9; exact absurd h (by intro hh; cases (show false = true from hh))
  by_cases h10 : e = 121
  · subst h10; exact absurd h (by intro hh; cases (show false = true from hh))
  by_cases h11 : e = 127
  · subst h11; exact absurd h (by intro hh; cases (show false = true from hh))
  · unfold cdT at h; rw [dif_neg h0, dif_neg h1, dif_neg h2, dif_neg h3, dif_neg h4, dif_neg h5, dif_neg h6, dif_neg h7, dif_neg h8, dif_neg h9, dif_neg h10, dif_neg h11] at h; exact Bool.noConfusion h

set_option maxRecDepth 100000 in
theorem cxT_pok : cxT.POk prog := by
  refine ⟨fun e he => ?_, fun e he hu o x => ?_⟩
  · rcases dom_cases he with rfl | rfl | rfl | rfl | rfl <;>
    exact ⟨_, _, rfl, rfl, rfl, by decide, rfl, by decide, rfl⟩
  · rcases dom_cases he with rfl | rfl | rfl | rfl | rfl
    · rw [show prog.underlying 2 = _ from rfl] at hu; cases hu
    · rw [show prog.underlying 3 = _ from rfl] at hu; cases hu
    · exact ⟨x, rfl⟩
    · rw [show prog.underlying 35 = _ from rfl] at hu; cases hu
    · rw [show prog.underlying 162 = _ from rfl] at hu; cases hu
end Go.Proofs.Try

set_option linter.unusedVariables false
namespace Go.Proofs.Try
open Go Go.VM Go.RowKit
/-! loop.example/g00222/laws.FnDeltas -/
def a3 : Args cxT.ty (List Int) := (Args.one (Arg.leaf (LArg.row 5)))
def n3 : Bool → V cxT.ty := fun t => (.inl (.inl (lv (.bool t))))
def dd3 : Bool := false
abbrev c3 (m : (List Int) → Option Bool) := fnT (cx := cxT) a3 n3 dd3 m
theorem hs3 : ∀ t, noRoV (n3 t) = true ∨ noOwnV (n3 t) = true := fun _ => .inl rfl
/-! loop.example/g00222/laws.FnExactPackCmd -/
def a4 : Args cxT.ty (Int × Int × Int × Int × Int × Int) := (Args.one (Arg.agg (SArg.cons (LArg.int .i64) (SArg.cons (LArg.int .i64) (SArg.cons (LArg.int .i64) (SArg.cons (LArg.int .i64) (SArg.cons (LArg.int .i64) (SArg.one (LArg.int .i64)))))))))
def n4 : Bool → V cxT.ty := fun t => (.inl (.inl (lv (.bool t))))
def dd4 : Bool := false
abbrev c4 (m : (Int × Int × Int × Int × Int × Int) → Option Bool) := fnT (cx := cxT) a4 n4 dd4 m
/-! loop.example/g00222/laws.FnExactUnpackCmd -/
def a5 : Args cxT.ty (List Int) := (Args.one (Arg.leaf (LArg.row 5)))
def n5 : Bool → V cxT.ty := fun t => (.inl (.inl (lv (.bool t))))
def dd5 : Bool := false
abbrev c5 (m : (List Int) → Option Bool) := fnT (cx := cxT) a5 n5 dd5 m
theorem hs5 : ∀ t, noRoV (n5 t) = true ∨ noOwnV (n5 t) = true := fun _ => .inl rfl
/-! loop.example/g00222/laws.FnExactPackConfig -/
def a6 : Args cxT.ty (Int × (List (Int × (Int × (Int × (Int × Bool))))) × (List (Int × (Int × (Int × (List Int)))))) := (Args.one (Arg.agg (SArg.cons (LArg.int .i64) (SArg.cons (LArg.row 162) (SArg.one (LArg.row 160))))))
def n6 : Bool → V cxT.ty := fun t => (.inl (.inl (lv (.bool t))))
/-! loop.example/g00222/laws.FnExactUnpackConfig -/
def n7 : Bool → V cxT.ty := fun t => (.inl (.inl (lv (.bool t))))
/-! loop.example/g00222/laws.FnExactDeltaOf -/
def n8 : Bool → V cxT.ty := fun t => (.inl (.inl (lv (.bool t))))
/-! loop.example/g00222/laws.lwBig -/
def a9 : Args cxT.ty (List Int) := (Args.one (Arg.leaf (LArg.row 5)))
def n9 : Bool → V cxT.ty := fun t => (.inl (.inl (lv (.bool t))))
def dd9 : Bool := false
abbrev c9 (m : (List Int) → Option Bool) := fnT (cx := cxT) a9 n9 dd9 m
/-! loop.example/g00222/spec.DrawDeltaOf -/
def a10 : Args cxT.ty (List Int) := (Args.one (Arg.leaf (LArg.row 5)))
def n10 : (Int × (List (Int × (Int × (Int × (Int × Bool))))) × (List (Int × (Int × (Int × (List Int))))) × Int × (List (Int × (Int × (Int × (Int × Bool))))) × (List (Int × (Int × (Int × (List Int)))))) → V cxT.ty := fun t => (.inr (.inl [(.inr [(lv (.int .i64 t.1)), (ls { own := 2, nm := 0, e := 35, o := true, xs := t.2.1 }), (ls { own := 2, nm := 0, e := 114, o := true, xs := t.2.2.1 })]), (.inr [(lv (.int .i64 t.2.2.2.1)), (ls { own := 2, nm := 0, e := 35, o := true, xs := t.2.2.2.2.1 }), (ls { own := 2, nm := 0, e := 114, o := true, xs := t.2.2.2.2.2 })])]))
def dd10 : (Int × (List (Int × (Int × (Int × (Int × Bool))))) × (List (Int × (Int × (Int × (List Int))))) × Int × (List (Int × (Int × (Int × (Int × Bool))))) × (List (Int × (Int × (Int × (List Int)))))) := ((0 : Int), [], [], (0 : Int), [], [])
abbrev c10 (m : (List Int) → Option (Int × (List (Int × (Int × (Int × (Int × Bool))))) × (List (Int × (Int × (Int × (List Int))))) × Int × (List (Int × (Int × (Int × (Int × Bool))))) × (List (Int × (Int × (Int × (List Int))))))) := fnT (cx := cxT) a10 n10 dd10 m
/-! loop.example/g00222/impl.DeltaOf -/
def a11 : Args cxT.ty ((Int × (List (Int × (Int × (Int × (Int × Bool))))) × (List (Int × (Int × (Int × (List Int)))))) × (Int × (List (Int × (Int × (Int × (Int × Bool))))) × (List (Int × (Int × (Int × (List Int))))))) := (Args.cons (Arg.agg (SArg.cons (LArg.int .i64) (SArg.cons (LArg.row 35) (SArg.one (LArg.row 114))))) (Args.one (Arg.agg (SArg.cons (LArg.int .i64) (SArg.cons (LArg.row 35) (SArg.one (LArg.row 114)))))))
def n11 : (Int × (List Int)) → V cxT.ty := fun t => (.inl (.inr [(lv (.int .i64 t.1)), (ls { own := 2, nm := 0, e := 2, o := true, xs := t.2 })]))
def dd11 : (Int × (List Int)) := ((0 : Int), [])
abbrev c11 (m : ((Int × (List (Int × (Int × (Int × (Int × Bool))))) × (List (Int × (Int × (Int × (List Int)))))) × (Int × (List (Int × (Int × (Int × (Int × Bool))))) × (List (Int × (Int × (Int × (List Int))))))) → Option (Int × (List Int))) := fnT (cx := cxT) a11 n11 dd11 m
/-! loop.example/g00222/spec.DeltaOf -/
def a12 : Args cxT.ty ((Int × (List (Int × (Int × (Int × (Int × Bool))))) × (List (Int × (Int × (Int × (List Int)))))) × (Int × (List (Int × (Int × (Int × (Int × Bool))))) × (List (Int × (Int × (Int × (List Int))))))) := (Args.cons (Arg.agg (SArg.cons (LArg.int .i64) (SArg.cons (LArg.row 35) (SArg.one (LArg.row 114))))) (Args.one (Arg.agg (SArg.cons (LArg.int .i64) (SArg.cons (LArg.row 35) (SArg.one (LArg.row 114)))))))
def n12 : (Int × (List Int)) → V cxT.ty := fun t => (.inl (.inr [(lv (.int .i64 t.1)), (ls { own := 2, nm := 0, e := 2, o := true, xs := t.2 })]))
def dd12 : (Int × (List Int)) := ((0 : Int), [])
abbrev c12 (m : ((Int × (List (Int × (Int × (Int × (Int × Bool))))) × (List (Int × (Int × (Int × (List Int)))))) × (Int × (List (Int × (Int × (Int × (Int × Bool))))) × (List (Int × (Int × (Int × (List Int))))))) → Option (Int × (List Int))) := fnT (cx := cxT) a12 n12 dd12 m
/-! loop.example/g00222/impl.BackendAt -/
def a13 : Args cxT.ty ((Int × (List (Int × (Int × (Int × (Int × Bool))))) × (List (Int × (Int × (Int × (List Int)))))) × Int) := (Args.cons (Arg.agg (SArg.cons (LArg.int .i64) (SArg.cons (LArg.row 35) (SArg.one (LArg.row 114))))) (Args.one (Arg.leaf (LArg.int .i64))))
def n13 : (Int × Int × Int × Int × Int × Bool) → V cxT.ty := fun t => (.inl (.inr [(lv (.int .i64 t.1)), (lv (.int .i64 t.2.1)), (lv (.int .i64 t.2.2.1)), (lv (.int .i64 t.2.2.2.1)), (lv (.int .i64 t.2.2.2.2.1)), (lv (.bool t.2.2.2.2.2))]))
def dd13 : (Int × Int × Int × Int × Int × Bool) := ((0 : Int), (0 : Int), (0 : Int), (0 : Int), (0 : Int), false)
abbrev c13 (m : ((Int × (List (Int × (Int × (Int × (Int × Bool))))) × (List (Int × (Int × (Int × (List Int)))))) × Int) → Option (Int × Int × Int × Int × Int × Bool)) := fnT (cx := cxT) a13 n13 dd13 m
/-! loop.example/g00222/laws.lwHas -/
def a14 : Args cxT.ty ((List Int) × Int) := (Args.cons (Arg.leaf (LArg.row 2)) (Args.one (Arg.leaf (LArg.int .i64))))
def n14 : Bool → V cxT.ty := fun t => (.inl (.inl (lv (.bool t))))
def dd14 : Bool := false
abbrev c14 (m : ((List Int) × Int) → Option Bool) := fnT (cx := cxT) a14 n14 dd14 m
/-! loop.example/g00222/laws.lwNums -/
def a15 : Args cxT.ty ((List Int) × (List Int)) := (Args.cons (Arg.leaf (LArg.row 2)) (Args.one (Arg.leaf (LArg.row 2))))
def n15 : Bool → V cxT.ty := fun t => (.inl (.inl (lv (.bool t))))
def dd15 : Bool := false
abbrev c15 (m : ((List Int) × (List Int)) → Option Bool) := fnT (cx := cxT) a15 n15 dd15 m
/-! loop.example/g00222/spec.PackCmd -/
def a16 : Args cxT.ty (Int × Int × Int × Int × Int × Int) := (Args.one (Arg.agg (SArg.cons (LArg.int .i64) (SArg.cons (LArg.int .i64) (SArg.cons (LArg.int .i64) (SArg.cons (LArg.int .i64) (SArg.cons (LArg.int .i64) (SArg.one (LArg.int .i64)))))))))
def n16 : (Int × (List Int)) → V cxT.ty := fun t => (.inl (.inr [(lv (.int .i64 t.1)), (ls { own := 2, nm := 0, e := 5, o := true, xs := t.2 })]))
def dd16 : (Int × (List Int)) := ((0 : Int), [])
abbrev c16 (m : (Int × Int × Int × Int × Int × Int) → Option (Int × (List Int))) := fnT (cx := cxT) a16 n16 dd16 m
/-! loop.example/g00222/laws.toCmd -/
def a17 : Args cxT.ty (Int × Int × Int × Int × Int × Int) := (Args.one (Arg.agg (SArg.cons (LArg.int .i64) (SArg.cons (LArg.int .i64) (SArg.cons (LArg.int .i64) (SArg.cons (LArg.int .i64) (SArg.cons (LArg.int .i64) (SArg.one (LArg.int .i64)))))))))
def n17 : (Int × Int × Int × Int × Int × Int) → V cxT.ty := fun t => (.inl (.inr [(lv (.int .i64 t.1)), (lv (.int .i64 t.2.1)), (lv (.int .i64 t.2.2.1)), (lv (.int .i64 t.2.2.2.1)), (lv (.int .i64 t.2.2.2.2.1)), (lv (.int .i64 t.2.2.2.2.2))]))
def dd17 : (Int × Int × Int × Int × Int × Int) := ((0 : Int), (0 : Int), (0 : Int), (0 : Int), (0 : Int), (0 : Int))
abbrev c17 (m : (Int × Int × Int × Int × Int × Int) → Option (Int × Int × Int × Int × Int × Int)) := fnT (cx := cxT) a17 n17 dd17 m
/-! loop.example/g00222/impl.PackCmd -/
def a18 : Args cxT.ty (Int × Int × Int × Int × Int × Int) := (Args.one (Arg.agg (SArg.cons (LArg.int .i64) (SArg.cons (LArg.int .i64) (SArg.cons (LArg.int .i64) (SArg.cons (LArg.int .i64) (SArg.cons (LArg.int .i64) (SArg.one (LArg.int .i64)))))))))
def n18 : (Int × (List Int)) → V cxT.ty := fun t => (.inl (.inr [(lv (.int .i64 t.1)), (ls { own := 2, nm := 0, e := 5, o := true, xs := t.2 })]))
def dd18 : (Int × (List Int)) := ((0 : Int), [])
abbrev c18 (m : (Int × Int × Int × Int × Int × Int) → Option (Int × (List Int))) := fnT (cx := cxT) a18 n18 dd18 m
theorem hs18 : ∀ t, noRoV (n18 t) = true ∨ noOwnV (n18 t) = true := fun _ => .inl rfl
/-! loop.example/g00222/laws.eqBytesResult -/
def a19 : Args cxT.ty ((Int × (List Int)) × (Int × (List Int))) := (Args.cons (Arg.agg (SArg.cons (LArg.int .i64) (SArg.one (LArg.row 5)))) (Args.one (Arg.agg (SArg.cons (LArg.int .i64) (SArg.one (LArg.row 5))))))
def n19 : Bool → V cxT.ty := fun t => (.inl (.inl (lv (.bool t))))
def dd19 : Bool := false
abbrev c19 (m : ((Int × (List Int)) × (Int × (List Int))) → Option Bool) := fnT (cx := cxT) a19 n19 dd19 m
/-! loop.example/g00222/laws.markBytesResult -/
def a20 : Args cxT.ty ((Int × (List Int)) × Int) := (Args.cons (Arg.agg (SArg.cons (LArg.int .i64) (SArg.one (LArg.own 5)))) (Args.one (Arg.leaf (LArg.int .i64))))
def n20 : (Int × Int × (List Int)) → List (A cxT.ty) := fun t => [(.inl (lv (.int .i64 t.1))), (.inr [(lv (.int .i64 t.2.1)), (ls { own := 2, nm := 0, e := 5, o := true, xs := t.2.2 })])]
def dd20 : (Int × Int × (List Int)) := ((0 : Int), (0 : Int), [])
abbrev c20 (m : ((Int × (List Int)) × Int) → Option (Int × Int × (List Int))) : WFn cxT := { nres := 1, n := 1, F := fnW (cx := cxT) a20 n20 dd20 m }
/-! loop.example/g00222/laws.heldBytesResult -/
def a21 : Args cxT.ty ((Int × (List Int)) × Int) := (Args.cons (Arg.agg (SArg.cons (LArg.int .i64) (SArg.one (LArg.row 5)))) (Args.one (Arg.leaf (LArg.int .i64))))
def n21 : Int → V cxT.ty := fun t => (.inl (.inl (lv (.int .i64 t))))
def dd21 : Int := (0 : Int)
abbrev c21 (m : ((Int × (List Int)) × Int) → Option Int) := fnT (cx := cxT) a21 n21 dd21 m
/-! loop.example/g00222/spec.UnpackCmd -/
def a22 : Args cxT.ty (List Int) := (Args.one (Arg.leaf (LArg.row 5)))
def n22 : (Int × Int × Int × Int × Int × Int × Int) → V cxT.ty := fun t => (.inl (.inr [(lv (.int .i64 t.1)), (lv (.int .i64 t.2.1)), (lv (.int .i64 t.2.2.1)), (lv (.int .i64 t.2.2.2.1)), (lv (.int .i64 t.2.2.2.2.1)), (lv (.int .i64 t.2.2.2.2.2.1)), (lv (.int .i64 t.2.2.2.2.2.2))]))
def dd22 : (Int × Int × Int × Int × Int × Int × Int) := ((0 : Int), (0 : Int), (0 : Int), (0 : Int), (0 : Int), (0 : Int), (0 : Int))
abbrev c22 (m : (List Int) → Option (Int × Int × Int × Int × Int × Int × Int)) := fnT (cx := cxT) a22 n22 dd22 m
theorem hs22 : ∀ t, noRoV (n22 t) = true ∨ noOwnV (n22 t) = true := fun _ => .inl rfl
/-! loop.example/g00222/laws.toByteS -/
def a23 : Args cxT.ty (List Int) := (Args.one (Arg.leaf (LArg.row 5)))
def n23 : (List Int) → V cxT.ty := fun t => (.inl (.inl (ls { own := 2, nm := 0, e := 5, o := true, xs := t })))
def dd23 : (List Int) := []
abbrev c23 (m : (List Int) → Option (List Int)) := fnT (cx := cxT) a23 n23 dd23 m
theorem hs23 : ∀ t, noRoV (n23 t) = true ∨ noOwnV (n23 t) = true := fun _ => .inl rfl
/-! loop.example/g00222/impl.UnpackCmd -/
def a24 : Args cxT.ty (List Int) := (Args.one (Arg.leaf (LArg.row 5)))
def n24 : (Int × Int × Int × Int × Int × Int × Int) → V cxT.ty := fun t => (.inl (.inr [(lv (.int .i64 t.1)), (lv (.int .i64 t.2.1)), (lv (.int .i64 t.2.2.1)), (lv (.int .i64 t.2.2.2.1)), (lv (.int .i64 t.2.2.2.2.1)), (lv (.int .i64 t.2.2.2.2.2.1)), (lv (.int .i64 t.2.2.2.2.2.2))]))
def dd24 : (Int × Int × Int × Int × Int × Int × Int) := ((0 : Int), (0 : Int), (0 : Int), (0 : Int), (0 : Int), (0 : Int), (0 : Int))
abbrev c24 (m : (List Int) → Option (Int × Int × Int × Int × Int × Int × Int)) := fnT (cx := cxT) a24 n24 dd24 m
theorem hs24 : ∀ t, noRoV (n24 t) = true ∨ noOwnV (n24 t) = true := fun _ => .inl rfl
/-! loop.example/g00222/laws.eqCmdResult -/
def a25 : Args cxT.ty ((Int × Int × Int × Int × Int × Int × Int) × (Int × Int × Int × Int × Int × Int × Int)) := (Args.cons (Arg.agg (SArg.cons (LArg.int .i64) (SArg.cons (LArg.int .i64) (SArg.cons (LArg.int .i64) (SArg.cons (LArg.int .i64) (SArg.cons (LArg.int .i64) (SArg.cons (LArg.int .i64) (SArg.one (LArg.int .i64))))))))) (Args.one (Arg.agg (SArg.cons (LArg.int .i64) (SArg.cons (LArg.int .i64) (SArg.cons (LArg.int .i64) (SArg.cons (LArg.int .i64) (SArg.cons (LArg.int .i64) (SArg.cons (LArg.int .i64) (SArg.one (LArg.int .i64)))))))))))
def n25 : Bool → V cxT.ty := fun t => (.inl (.inl (lv (.bool t))))
def dd25 : Bool := false
abbrev c25 (m : ((Int × Int × Int × Int × Int × Int × Int) × (Int × Int × Int × Int × Int × Int × Int)) → Option Bool) := fnT (cx := cxT) a25 n25 dd25 m
theorem hs25 : ∀ t, noRoV (n25 t) = true ∨ noOwnV (n25 t) = true := fun _ => .inl rfl
/-! loop.example/g00222/laws.eqByteS -/
def a26 : Args cxT.ty ((List Int) × (List Int)) := (Args.cons (Arg.leaf (LArg.row 5)) (Args.one (Arg.leaf (LArg.row 5))))
def n26 : Bool → V cxT.ty := fun t => (.inl (.inl (lv (.bool t))))
def dd26 : Bool := false
abbrev c26 (m : ((List Int) × (List Int)) → Option Bool) := fnT (cx := cxT) a26 n26 dd26 m
theorem hs26 : ∀ t, noRoV (n26 t) = true ∨ noOwnV (n26 t) = true := fun _ => .inl rfl
/-! loop.example/g00222/laws.szConfig -/
def a27 : Args cxT.ty ((Int × (List (Int × (Int × (Int × (Int × Bool))))) × (List (Int × (Int × (Int × (List Int)))))) × Int) := (Args.cons (Arg.agg (SArg.cons (LArg.int .i64) (SArg.cons (LArg.row 162) (SArg.one (LArg.row 160))))) (Args.one (Arg.leaf (LArg.int .i64))))
def n27 : Int → V cxT.ty := fun t => (.inl (.inl (lv (.int .i64 t))))
def dd27 : Int := (0 : Int)
abbrev c27 (m : ((Int × (List (Int × (Int × (Int × (Int × Bool))))) × (List (Int × (Int × (Int × (List Int)))))) × Int) → Option Int) := fnT (cx := cxT) a27 n27 dd27 m
/-! loop.example/g00222/spec.PackConfig -/
def a28 : Args cxT.ty (Int × (List (Int × (Int × (Int × (Int × Bool))))) × (List (Int × (Int × (Int × (List Int)))))) := (Args.one (Arg.agg (SArg.cons (LArg.int .i64) (SArg.cons (LArg.row 35) (SArg.one (LArg.row 114))))))
def n28 : (Int × (List Int)) → V cxT.ty := fun t => (.inl (.inr [(lv (.int .i64 t.1)), (ls { own := 2, nm := 0, e := 5, o := true, xs := t.2 })]))
def dd28 : (Int × (List Int)) := ((0 : Int), [])
abbrev c28 (m : (Int × (List (Int × (Int × (Int × (Int × Bool))))) × (List (Int × (Int × (Int × (List Int)))))) → Option (Int × (List Int))) := fnT (cx := cxT) a28 n28 dd28 m
/-! loop.example/g00222/laws.toConfig -/
def a29 : Args cxT.ty (Int × (List (Int × (Int × (Int × (Int × Bool))))) × (List (Int × (Int × (Int × (List Int)))))) := (Args.one (Arg.agg (SArg.cons (LArg.int .i64) (SArg.cons (LArg.row 162) (SArg.one (LArg.row 160))))))
def n29 : (Int × (List (Int × (Int × (Int × (Int × Bool))))) × (List (Int × (Int × (Int × (List Int)))))) → V cxT.ty := fun t => (.inl (.inr [(lv (.int .i64 t.1)), (ls { own := 2, nm := 0, e := 35, o := true, xs := t.2.1 }), (ls { own := 2, nm := 0, e := 114, o := true, xs := t.2.2 })]))
def dd29 : (Int × (List (Int × (Int × (Int × (Int × Bool))))) × (List (Int × (Int × (Int × (List Int)))))) := ((0 : Int), [], [])
abbrev c29 (m : (Int × (List (Int × (Int × (Int × (Int × Bool))))) × (List (Int × (Int × (Int × (List Int)))))) → Option (Int × (List (Int × (Int × (Int × (Int × Bool))))) × (List (Int × (Int × (Int × (List Int))))))) := fnT (cx := cxT) a29 n29 dd29 m
/-! loop.example/g00222/impl.PackConfig -/
def a30 : Args cxT.ty (Int × (List (Int × (Int × (Int × (Int × Bool))))) × (List (Int × (Int × (Int × (List Int)))))) := (Args.one (Arg.agg (SArg.cons (LArg.int .i64) (SArg.cons (LArg.row 35) (SArg.one (LArg.row 114))))))
def n30 : (Int × (List Int)) → V cxT.ty := fun t => (.inl (.inr [(lv (.int .i64 t.1)), (ls { own := 2, nm := 0, e := 5, o := true, xs := t.2 })]))
def dd30 : (Int × (List Int)) := ((0 : Int), [])
abbrev c30 (m : (Int × (List (Int × (Int × (Int × (Int × Bool))))) × (List (Int × (Int × (Int × (List Int)))))) → Option (Int × (List Int))) := fnT (cx := cxT) a30 n30 dd30 m
/-! loop.example/g00222/laws.eqConfig -/
def a31 : Args cxT.ty ((Int × (List (Int × (Int × (Int × (Int × Bool))))) × (List (Int × (Int × (Int × (List Int)))))) × (Int × (List (Int × (Int × (Int × (Int × Bool))))) × (List (Int × (Int × (Int × (List Int))))))) := (Args.cons (Arg.agg (SArg.cons (LArg.int .i64) (SArg.cons (LArg.row 35) (SArg.one (LArg.row 114))))) (Args.one (Arg.agg (SArg.cons (LArg.int .i64) (SArg.cons (LArg.row 35) (SArg.one (LArg.row 114)))))))
def n31 : Bool → V cxT.ty := fun t => (.inl (.inl (lv (.bool t))))
def dd31 : Bool := false
abbrev c31 (m : ((Int × (List (Int × (Int × (Int × (Int × Bool))))) × (List (Int × (Int × (Int × (List Int)))))) × (Int × (List (Int × (Int × (Int × (Int × Bool))))) × (List (Int × (Int × (Int × (List Int))))))) → Option Bool) := fnT (cx := cxT) a31 n31 dd31 m
/-! loop.example/g00222/laws.markConfig -/
def a32 : Args cxT.ty ((Int × (List (Int × (Int × (Int × (Int × Bool))))) × (List (Int × (Int × (Int × (List Int)))))) × Int) := (Args.cons (Arg.agg (SArg.cons (LArg.int .i64) (SArg.cons (LArg.own 35) (SArg.one (LArg.own 114))))) (Args.one (Arg.leaf (LArg.int .i64))))
def n32 : (Int × Int × (List (Int × (Int × (Int × (Int × Bool))))) × (List (Int × (Int × (Int × (List Int)))))) → List (A cxT.ty) := fun t => [(.inl (lv (.int .i64 t.1))), (.inr [(lv (.int .i64 t.2.1)), (ls { own := 2, nm := 0, e := 35, o := true, xs := t.2.2.1 }), (ls { own := 2, nm := 0, e := 114, o := true, xs := t.2.2.2 })])]
def dd32 : (Int × Int × (List (Int × (Int × (Int × (Int × Bool))))) × (List (Int × (Int × (Int × (List Int)))))) := ((0 : Int), (0 : Int), [], [])
abbrev c32 (m : ((Int × (List (Int × (Int × (Int × (Int × Bool))))) × (List (Int × (Int × (Int × (List Int)))))) × Int) → Option (Int × Int × (List (Int × (Int × (Int × (Int × Bool))))) × (List (Int × (Int × (Int × (List Int))))))) : WFn cxT := { nres := 1, n := 1, F := fnW (cx := cxT) a32 n32 dd32 m, p := 4 }
/-! loop.example/g00222/spec.UnpackConfig -/
/-! loop.example/g00222/impl.UnpackConfig -/
/-! loop.example/g00222/laws.eqConfigResult -/
/-! loop.example/g00222/laws.markByteS -/
/-! loop.example/g00222/laws.markConfigResult -/
/-! loop.example/g00222/laws.heldConfigResult -/
/-! loop.example/g00222/laws.eqIntsResult -/
/-! loop.example/g00222/laws.markIntsResult -/
/-! loop.example/g00222/laws.heldIntsResult -/
/-! loop.example/g00222/spec.l1Source -/
/-! loop.example/g00222/spec.l5Bent -/
/-! loop.example/g00222/spec.l1Chance -/
/-! loop.example/g00222/spec.l5Copy -/
/-! loop.example/g00222/spec.ApplyCmd -/
/-! loop.example/g00222/spec.l5Cmd -/
/-! loop.example/g00222/impl.ConfigFault -/
/-! loop.example/g00222/impl.namesBeside -/
/-! slices.Sort[[]int64,int64] -/
/-! slices.Compact[[]int64,int64] -/
/-! loop.example/g00222/spec.l5Fault -/
/-! loop.example/g00222/spec.l5At -/
/-! loop.example/g00222/spec.l1Rise -/
/-! loop.example/g00222/impl.backendPlace -/
/-! loop.example/g00222/spec.CmdFault -/
def a56 : Args cxT.ty (Int × Int × Int × Int × Int × Int) := (Args.one (Arg.agg (SArg.cons (LArg.int .i64) (SArg.cons (LArg.int .i64) (SArg.cons (LArg.int .i64) (SArg.cons (LArg.int .i64) (SArg.cons (LArg.int .i64) (SArg.one (LArg.int .i64)))))))))
def n56 : Int → V cxT.ty := fun t => (.inl (.inl (lv (.int .i64 t))))
def dd56 : Int := (0 : Int)
abbrev c56 (m : (Int × Int × Int × Int × Int × Int) → Option Int) := fnT (cx := cxT) a56 n56 dd56 m
/-! loop.example/g00222/spec.l6Cmd -/
/-! loop.example/g00222/impl.CmdFault -/
def a58 : Args cxT.ty (Int × Int × Int × Int × Int × Int) := (Args.one (Arg.agg (SArg.cons (LArg.int .i64) (SArg.cons (LArg.int .i64) (SArg.cons (LArg.int .i64) (SArg.cons (LArg.int .i64) (SArg.cons (LArg.int .i64) (SArg.one (LArg.int .i64)))))))))
def n58 : Int → V cxT.ty := fun t => (.inl (.inl (lv (.int .i64 t))))
def dd58 : Int := (0 : Int)
abbrev c58 (m : (Int × Int × Int × Int × Int × Int) → Option Int) := fnT (cx := cxT) a58 n58 dd58 m
/-! loop.example/g00222/impl.joinPieces -/
def a59 : Args cxT.ty (List (List Int)) := (Args.one (Arg.leaf (LArg.row 22)))
def n59 : (List Int) → V cxT.ty := fun t => (.inl (.inl (ls { own := 2, nm := 0, e := 5, o := true, xs := t })))
def dd59 : (List Int) := []
abbrev c59 (m : (List (List Int)) → Option (List Int)) := fnT (cx := cxT) a59 n59 dd59 m
theorem hs59 : ∀ t, noRoV (n59 t) = true ∨ noOwnV (n59 t) = true := fun _ => .inl rfl
/-! loop.example/g00222/impl.packNumber -/
def a60 : Args cxT.ty (Int × Int) := (Args.cons (Arg.leaf (LArg.int .i64)) (Args.one (Arg.leaf (LArg.int .i64))))
def n60 : (List Int) → V cxT.ty := fun t => (.inl (.inl (ls { own := 2, nm := 0, e := 5, o := true, xs := t })))
def dd60 : (List Int) := []
abbrev c60 (m : (Int × Int) → Option (List Int)) := fnT (cx := cxT) a60 n60 dd60 m
theorem hs60 : ∀ t, noRoV (n60 t) = true ∨ noOwnV (n60 t) = true := fun _ => .inl rfl
/-! loop.example/g00222/impl.packName -/
def a61 : Args cxT.ty Int := (Args.one (Arg.leaf (LArg.int .i64)))
def n61 : (List Int) → V cxT.ty := fun t => (.inl (.inl (ls { own := 2, nm := 0, e := 5, o := true, xs := t })))
def dd61 : (List Int) := []
abbrev c61 (m : Int → Option (List Int)) := fnT (cx := cxT) a61 n61 dd61 m
theorem hs61 : ∀ t, noRoV (n61 t) = true ∨ noOwnV (n61 t) = true := fun _ => .inl rfl
/-! loop.example/g00222/laws.heldByteS -/
/-! loop.example/g00222/spec.l1Take -/
def a63 : Args cxT.ty ((List Int) × Int × Int) := (Args.cons (Arg.leaf (LArg.row 5)) (Args.cons (Arg.leaf (LArg.int .i64)) (Args.one (Arg.leaf (LArg.int .i64)))))
def n63 : Int → V cxT.ty := fun t => (.inl (.inl (lv (.int .i64 t))))
def dd63 : Int := (0 : Int)
abbrev c63 (m : ((List Int) × Int × Int) → Option Int) := fnT (cx := cxT) a63 n63 dd63 m
theorem hs63 : ∀ t, noRoV (n63 t) = true ∨ noOwnV (n63 t) = true := fun _ => .inl rfl
/-! loop.example/g00222/impl.isWritten -/
def a65 : Args cxT.ty ((Int × (List Int)) × (List Int)) := (Args.cons (Arg.agg (SArg.cons (LArg.int .i64) (SArg.one (LArg.row 5)))) (Args.one (Arg.leaf (LArg.row 5))))
def n65 : Bool → V cxT.ty := fun t => (.inl (.inl (lv (.bool t))))
def dd65 : Bool := false
abbrev c65 (m : ((Int × (List Int)) × (List Int)) → Option Bool) := fnT (cx := cxT) a65 n65 dd65 m
theorem hs65 : ∀ t, noRoV (n65 t) = true ∨ noOwnV (n65 t) = true := fun _ => .inl rfl
/-! loop.example/g00222/laws.eqCmd -/
def a66 : Args cxT.ty ((Int × Int × Int × Int × Int × Int) × (Int × Int × Int × Int × Int × Int)) := (Args.cons (Arg.agg (SArg.cons (LArg.int .i64) (SArg.cons (LArg.int .i64) (SArg.cons (LArg.int .i64) (SArg.cons (LArg.int .i64) (SArg.cons (LArg.int .i64) (SArg.one (LArg.int .i64)))))))) (Args.one (Arg.agg (SArg.cons (LArg.int .i64) (SArg.cons (LArg.int .i64) (SArg.cons (LArg.int .i64) (SArg.cons (LArg.int .i64) (SArg.cons (LArg.int .i64) (SArg.one (LArg.int .i64))))))))))
def n66 : Bool → V cxT.ty := fun t => (.inl (.inl (lv (.bool t))))
def dd66 : Bool := false
abbrev c66 (m : ((Int × Int × Int × Int × Int × Int) × (Int × Int × Int × Int × Int × Int)) → Option Bool) := fnT (cx := cxT) a66 n66 dd66 m
theorem hs66 : ∀ t, noRoV (n66 t) = true ∨ noOwnV (n66 t) = true := fun _ => .inl rfl
/-! loop.example/g00222/laws.szBackendS -/
/-! loop.example/g00222/laws.szVipS -/
/-! loop.example/g00222/spec.l6Config -/
/-! loop.example/g00222/laws.toBackendS -/
/-! loop.example/g00222/laws.toVipS -/
/-! loop.example/g00222/impl.packList[loop.example/g00222/impl.Backend] -/
/-! loop.example/g00222/impl.packBackend -/
/-! loop.example/g00222/impl.packList[loop.example/g00222/impl.Vip] -/
/-! loop.example/g00222/impl.packVip -/
/-! loop.example/g00222/laws.eqBackendS -/
/-! loop.example/g00222/laws.eqVipS -/
/-! loop.example/g00222/laws.markBackendS -/
/-! loop.example/g00222/laws.markVipS -/
/-! loop.example/g00222/spec.l6Next -/
/-! loop.example/g00222/laws.heldConfig -/
/-! loop.example/g00222/laws.eqInt64S -/
/-! loop.example/g00222/laws.markInt64S -/
/-! loop.example/g00222/laws.heldInt64S -/
/-! loop.example/g00222/spec.l5Right -/
/-! loop.example/g00222/spec.l1Next -/
/-! loop.example/g00222/spec.l1Pick -/
/-! loop.example/g00222/spec.l5Apply -/
/-! loop.example/g00222/spec.l5Needs -/
def a90 : Args cxT.ty Int := (Args.one (Arg.leaf (LArg.int .i64)))
def n90 : (Bool × Bool × Bool × Bool) → V cxT.ty := fun t => (.inr (.inl [(.inl (lv (.bool t.1))), (.inl (lv (.bool t.2.1))), (.inl (lv (.bool t.2.2.1))), (.inl (lv (.bool t.2.2.2)))]))
def dd90 : (Bool × Bool × Bool × Bool) := (false, false, false, false)
abbrev c90 (m : Int → Option (Bool × Bool × Bool × Bool)) := fnT (cx := cxT) a90 n90 dd90 m
theorem hs90 : ∀ t, noRoV (n90 t) = true ∨ noOwnV (n90 t) = true := fun _ => .inl rfl
/-! loop.example/g00222/impl.isVersion -/
def a91 : Args cxT.ty Int := (Args.one (Arg.leaf (LArg.int .i64)))
def n91 : Bool → V cxT.ty := fun t => (.inl (.inl (lv (.bool t))))
def dd91 : Bool := false
abbrev c91 (m : Int → Option Bool) := fnT (cx := cxT) a91 n91 dd91 m
theorem hs91 : ∀ t, noRoV (n91 t) = true ∨ noOwnV (n91 t) = true := fun _ => .inl rfl
/-! loop.example/g00222/impl.isBackend -/
/-! loop.example/g00222/impl.isServed -/
/-! loop.example/g00222/impl.compareVips -/
/-! loop.example/g00222/impl.namesFault -/
/-! slices.Contains[[]loop.example/g00222/impl.Backend,loop.example/g00222/impl.Backend] -/
/-! slices.pdqsortOrdered[int64] -/
/-! math/bits.Len -/
/-! loop.example/g00222/spec.l5Version -/
def a99 : Args cxT.ty Int := (Args.one (Arg.leaf (LArg.int .i64)))
def n99 : Bool → V cxT.ty := fun t => (.inl (.inl (lv (.bool t))))
def dd99 : Bool := false
abbrev c99 (m : Int → Option Bool) := fnT (cx := cxT) a99 n99 dd99 m
theorem hs99 : ∀ t, noRoV (n99 t) = true ∨ noOwnV (n99 t) = true := fun _ => .inl rfl
/-! loop.example/g00222/spec.l5Backend -/
/-! loop.example/g00222/spec.l5Vip -/
/-! slices.BinarySearchFunc[[]loop.example/g00222/impl.Backend,loop.example/g00222/impl.Backend,int64] -/
/-! loop.example/g00222/impl.backendPlace$1 -/
/-! cmp.Compare[int64] -/
/-! loop.example/g00222/spec.l1In -/
def a105 : Args cxT.ty (Int × Int × Int) := (Args.cons (Arg.leaf (LArg.int .i64)) (Args.cons (Arg.leaf (LArg.int .i64)) (Args.one (Arg.leaf (LArg.int .i64)))))
def n105 : Bool → V cxT.ty := fun t => (.inl (.inl (lv (.bool t))))
def dd105 : Bool := false
abbrev c105 (m : (Int × Int × Int) → Option Bool) := fnT (cx := cxT) a105 n105 dd105 m
theorem hs105 : ∀ t, noRoV (n105 t) = true ∨ noOwnV (n105 t) = true := fun _ => .inl rfl
/-! loop.example/g00222/spec.l3Name -/
def a106 : Args cxT.ty Int := (Args.one (Arg.leaf (LArg.int .i64)))
def n106 : Bool → V cxT.ty := fun t => (.inl (.inl (lv (.bool t))))
def dd106 : Bool := false
abbrev c106 (m : Int → Option Bool) := fnT (cx := cxT) a106 n106 dd106 m
theorem hs106 : ∀ t, noRoV (n106 t) = true ∨ noOwnV (n106 t) = true := fun _ => .inl rfl
/-! loop.example/g00222/spec.l2Address -/
def a107 : Args cxT.ty Int := (Args.one (Arg.leaf (LArg.int .i64)))
def n107 : Bool → V cxT.ty := fun t => (.inl (.inl (lv (.bool t))))
def dd107 : Bool := false
abbrev c107 (m : Int → Option Bool) := fnT (cx := cxT) a107 n107 dd107 m
theorem hs107 : ∀ t, noRoV (n107 t) = true ∨ noOwnV (n107 t) = true := fun _ => .inl rfl
/-! loop.example/g00222/spec.l5Number -/
def a108 : Args cxT.ty (Int × Int × Int × Int × Int × Int) := (Args.one (Arg.agg (SArg.cons (LArg.int .i64) (SArg.cons (LArg.int .i64) (SArg.cons (LArg.int .i64) (SArg.cons (LArg.int .i64) (SArg.cons (LArg.int .i64) (SArg.one (LArg.int .i64)))))))))
def n108 : Bool → V cxT.ty := fun t => (.inl (.inl (lv (.bool t))))
def dd108 : Bool := false
abbrev c108 (m : (Int × Int × Int × Int × Int × Int) → Option Bool) := fnT (cx := cxT) a108 n108 dd108 m
theorem hs108 : ∀ t, noRoV (n108 t) = true ∨ noOwnV (n108 t) = true := fun _ => .inl rfl
/-! loop.example/g00222/spec.l5Proto -/
def a109 : Args cxT.ty Int := (Args.one (Arg.leaf (LArg.int .i64)))
def n109 : Bool → V cxT.ty := fun t => (.inl (.inl (lv (.bool t))))
def dd109 : Bool := false
abbrev c109 (m : Int → Option Bool) := fnT (cx := cxT) a109 n109 dd109 m
theorem hs109 : ∀ t, noRoV (n109 t) = true ∨ noOwnV (n109 t) = true := fun _ => .inl rfl
/-! loop.example/g00222/spec.l1Bytes -/
/-! loop.example/g00222/impl.numberBytes -/
def a112 : Args cxT.ty (Int × Int) := (Args.cons (Arg.leaf (LArg.int .u64)) (Args.one (Arg.leaf (LArg.int .i64))))
def n112 : (List Int) → V cxT.ty := fun t => (.inl (.inl (ls { own := 2, nm := 0, e := 5, o := true, xs := t })))
def dd112 : (List Int) := []
abbrev c112 (m : (Int × Int) → Option (List Int)) := fnT (cx := cxT) a112 n112 dd112 m
theorem hs112 : ∀ t, noRoV (n112 t) = true ∨ noOwnV (n112 t) = true := fun _ => .inl rfl
/-! bytes.Equal -/
def a115 : Args cxT.ty ((List Int) × (List Int)) := (Args.cons (Arg.leaf (LArg.row 5)) (Args.one (Arg.leaf (LArg.row 5))))
def n115 : Bool → V cxT.ty := fun t => (.inl (.inl (lv (.bool t))))
def dd115 : Bool := false
abbrev c115 (m : ((List Int) × (List Int)) → Option Bool) := fnT (cx := cxT) a115 n115 dd115 m
theorem hs115 : ∀ t, noRoV (n115 t) = true ∨ noOwnV (n115 t) = true := fun _ => .inl rfl
/-! loop.example/g00222/laws.szVip -/
/-! loop.example/g00222/laws.toBackend -/
/-! loop.example/g00222/laws.toVip -/
/-! loop.example/g00222/impl.stateNumber -/
/-! loop.example/g00222/impl.packList[int64] -/
/-! loop.example/g00222/laws.eqBackend -/
/-! loop.example/g00222/laws.eqVip -/
/-! loop.example/g00222/laws.heldBackendS -/
/-! loop.example/g00222/laws.heldVipS -/
/-! loop.example/g00222/spec.l5TurnVip -/
/-! loop.example/g00222/spec.l5Turn -/
/-! loop.example/g00222/impl.isName -/
def a131 : Args cxT.ty Int := (Args.one (Arg.leaf (LArg.int .i64)))
def n131 : Bool → V cxT.ty := fun t => (.inl (.inl (lv (.bool t))))
def dd131 : Bool := false
abbrev c131 (m : Int → Option Bool) := fnT (cx := cxT) a131 n131 dd131 m
theorem hs131 : ∀ t, noRoV (n131 t) = true ∨ noOwnV (n131 t) = true := fun _ => .inl rfl
/-! loop.example/g00222/impl.isAddress -/
def a132 : Args cxT.ty Int := (Args.one (Arg.leaf (LArg.int .i64)))
def n132 : Bool → V cxT.ty := fun t => (.inl (.inl (lv (.bool t))))
def dd132 : Bool := false
abbrev c132 (m : Int → Option Bool) := fnT (cx := cxT) a132 n132 dd132 m
theorem hs132 : ∀ t, noRoV (n132 t) = true ∨ noOwnV (n132 t) = true := fun _ => .inl rfl
/-! loop.example/g00222/impl.isWeight -/
def a133 : Args cxT.ty Int := (Args.one (Arg.leaf (LArg.int .i64)))
def n133 : Bool → V cxT.ty := fun t => (.inl (.inl (lv (.bool t))))
def dd133 : Bool := false
abbrev c133 (m : Int → Option Bool) := fnT (cx := cxT) a133 n133 dd133 m
theorem hs133 : ∀ t, noRoV (n133 t) = true ∨ noOwnV (n133 t) = true := fun _ => .inl rfl
/-! loop.example/g00222/impl.isStage -/
def a134 : Args cxT.ty Int := (Args.one (Arg.leaf (LArg.int .i64)))
def n134 : Bool → V cxT.ty := fun t => (.inl (.inl (lv (.bool t))))
def dd134 : Bool := false
abbrev c134 (m : Int → Option Bool) := fnT (cx := cxT) a134 n134 dd134 m
theorem hs134 : ∀ t, noRoV (n134 t) = true ∨ noOwnV (n134 t) = true := fun _ => .inl rfl
/-! loop.example/g00222/impl.isPort -/
def a135 : Args cxT.ty Int := (Args.one (Arg.leaf (LArg.int .i64)))
def n135 : Bool → V cxT.ty := fun t => (.inl (.inl (lv (.bool t))))
def dd135 : Bool := false
abbrev c135 (m : Int → Option Bool) := fnT (cx := cxT) a135 n135 dd135 m
theorem hs135 : ∀ t, noRoV (n135 t) = true ∨ noOwnV (n135 t) = true := fun _ => .inl rfl
/-! loop.example/g00222/impl.isProto -/
def a136 : Args cxT.ty Int := (Args.one (Arg.leaf (LArg.int .i64)))
def n136 : Bool → V cxT.ty := fun t => (.inl (.inl (lv (.bool t))))
def dd136 : Bool := false
abbrev c136 (m : Int → Option Bool) := fnT (cx := cxT) a136 n136 dd136 m
theorem hs136 : ∀ t, noRoV (n136 t) = true ∨ noOwnV (n136 t) = true := fun _ => .inl rfl
/-! cmp.Or[int] -/
/-! slices.Index[[]loop.example/g00222/impl.Backend,loop.example/g00222/impl.Backend] -/
/-! slices.insertionSortOrdered[int64] -/
/-! slices.heapSortOrdered[int64] -/
/-! slices.breakPatternsOrdered[int64] -/
/-! slices.choosePivotOrdered[int64] -/
/-! slices.reverseRangeOrdered[int64] -/
/-! slices.partialInsertionSortOrdered[int64] -/
/-! cmp.Less[int64] -/
/-! slices.partitionEqualOrdered[int64] -/
/-! slices.partitionOrdered[int64] -/
/-! math/bits.Len32 -/
/-! math/bits.Len64 -/
/-! loop.example/g00222/spec.l2Port -/
def a150 : Args cxT.ty Int := (Args.one (Arg.leaf (LArg.int .i64)))
def n150 : Bool → V cxT.ty := fun t => (.inl (.inl (lv (.bool t))))
def dd150 : Bool := false
abbrev c150 (m : Int → Option Bool) := fnT (cx := cxT) a150 n150 dd150 m
theorem hs150 : ∀ t, noRoV (n150 t) = true ∨ noOwnV (n150 t) = true := fun _ => .inl rfl
/-! loop.example/g00222/spec.l5Behind -/
/-! cmp.isNaN[int64] -/
/-! loop.example/g00222/impl.isYesOrNo -/
def a161 : Args cxT.ty Int := (Args.one (Arg.leaf (LArg.int .i64)))
def n161 : Bool → V cxT.ty := fun t => (.inl (.inl (lv (.bool t))))
def dd161 : Bool := false
abbrev c161 (m : Int → Option Bool) := fnT (cx := cxT) a161 n161 dd161 m
theorem hs161 : ∀ t, noRoV (n161 t) = true ∨ noOwnV (n161 t) = true := fun _ => .inl rfl
/-! loop.example/g00222/impl.TakeNumber -/
def a163 : Args cxT.ty ((List Int) × Int × Int) := (Args.cons (Arg.leaf (LArg.row 5)) (Args.cons (Arg.leaf (LArg.int .i64)) (Args.one (Arg.leaf (LArg.int .i64)))))
def n163 : (Int × Int) → V cxT.ty := fun t => (.inl (.inr [(lv (.int .i64 t.1)), (lv (.int .i64 t.2))]))
def dd163 : (Int × Int) := ((0 : Int), (0 : Int))
abbrev c163 (m : ((List Int) × Int × Int) → Option (Int × Int)) := fnT (cx := cxT) a163 n163 dd163 m
theorem hs163 : ∀ t, noRoV (n163 t) = true ∨ noOwnV (n163 t) = true := fun _ => .inl rfl
/-! loop.example/g00222/laws.szInt64S -/
/-! loop.example/g00222/laws.toInt64S -/
/-! loop.example/g00222/spec.l5Find -/
/-! loop.example/g00222/spec.l1Has -/
/-! loop.example/g00222/spec.l5Serves -/
/-! slices.siftDownOrdered[int64] -/
/-! slices.nextPowerOfTwo -/
/-! slices.Insert[[]loop.example/g00222/impl.Backend,loop.example/g00222/impl.Backend] -/
/-! slices.Contains[[]int64,int64] -/
/-! slices.Delete[[]loop.example/g00222/impl.Backend,loop.example/g00222/impl.Backend] -/
/-! loop.example/g00222/impl.vipPlace -/
/-! slices.Insert[[]loop.example/g00222/impl.Vip,loop.example/g00222/impl.Vip] -/
/-! slices.Delete[[]loop.example/g00222/impl.Vip,loop.example/g00222/impl.Vip] -/
/-! slices.BinarySearch[[]int64,int64] -/
/-! slices.Insert[[]int64,int64] -/
/-! slices.Delete[[]int64,int64] -/
/-! loop.example/g00222/impl.isNumberSize -/
def a188 : Args cxT.ty Int := (Args.one (Arg.leaf (LArg.int .i64)))
def n188 : Bool → V cxT.ty := fun t => (.inl (.inl (lv (.bool t))))
def dd188 : Bool := false
abbrev c188 (m : Int → Option Bool) := fnT (cx := cxT) a188 n188 dd188 m
theorem hs188 : ∀ t, noRoV (n188 t) = true ∨ noOwnV (n188 t) = true := fun _ => .inl rfl
/-! slices.overlaps[loop.example/g00222/impl.Backend] -/
/-! slices.rotateRight[loop.example/g00222/impl.Backend] -/
/-! slices.Index[[]int64,int64] -/
/-! slices.BinarySearchFunc[[]loop.example/g00222/impl.Vip,loop.example/g00222/impl.Vip,loop.example/g00222/impl.Vip] -/
/-! slices.overlaps[loop.example/g00222/impl.Vip] -/
/-! slices.rotateRight[loop.example/g00222/impl.Vip] -/
/-! slices.isNaN[int64] -/
/-! slices.overlaps[int64] -/
/-! slices.rotateRight[int64] -/
/-! slices.rotateLeft[loop.example/g00222/impl.Backend] -/
/-! slices.rotateLeft[loop.example/g00222/impl.Vip] -/
/-! slices.rotateLeft[int64] -/
/-! slices.Reverse[[]loop.example/g00222/impl.Backend,loop.example/g00222/impl.Backend] -/
/-! slices.Reverse[[]loop.example/g00222/impl.Vip,loop.example/g00222/impl.Vip] -/
/-! slices.Reverse[[]int64,int64] -/
end Go.Proofs.Try

set_option linter.unusedVariables false
namespace Go.Proofs.Try
open Go Go.VM Go.RowKit
/-! (*loop.example/g00222/impl.unread).number -/
def a113 : Args cxT.ty ((List Int) × Int) := (Args.cons (Arg.agg (SArg.one (LArg.row 5))) (Args.one (Arg.leaf (LArg.int .i64))))
def n113 : (Int × (List Int)) → List (A cxT.ty) := fun t => [(.inl (lv (.int .i64 t.1))), (.inr [(ls (ro 5 t.2))])]
def dd113 : (Int × (List Int)) := ((0 : Int), [])
abbrev c113 (m : ((List Int) × Int) → Option (Int × (List Int))) : WFn cxT := { nres := 1, n := 0, F := fnW (cx := cxT) a113 n113 dd113 m, p := 1 }
/-! (*loop.example/g00222/impl.reader).name -/
def a114 : Args cxT.ty (List Int) := (Args.one (Arg.agg (SArg.one (LArg.row 5))))
def n114 : (Int × (List Int)) → List (A cxT.ty) := fun t => [(.inl (lv (.int .i64 t.1))), (.inr [(ls (ro 5 t.2))])]
def dd114 : (Int × (List Int)) := ((0 : Int), [])
abbrev c114 (m : (List Int) → Option (Int × (List Int))) : WFn cxT := { nres := 1, n := 0, F := fnW (cx := cxT) a114 n114 dd114 m, p := 1 }
/-! (*loop.example/g00222/impl.reader).cmd -/
def a64 : Args cxT.ty (List Int) := (Args.one (Arg.agg (SArg.one (LArg.row 5))))
def n64 : (Int × Int × Int × Int × Int × Int × (List Int)) → List (A cxT.ty) := fun t => [(.inr [(lv (.int .i64 t.1)), (lv (.int .i64 t.2.1)), (lv (.int .i64 t.2.2.1)), (lv (.int .i64 t.2.2.2.1)), (lv (.int .i64 t.2.2.2.2.1)), (lv (.int .i64 t.2.2.2.2.2.1))]), (.inr [(ls (ro 5 t.2.2.2.2.2.2))])]
def dd64 : (Int × Int × Int × Int × Int × Int × (List Int)) := ((0 : Int), (0 : Int), (0 : Int), (0 : Int), (0 : Int), (0 : Int), [])
abbrev c64 (m : (List Int) → Option (Int × Int × Int × Int × Int × Int × (List Int))) : WFn cxT := { nres := 1, n := 0, F := fnW (cx := cxT) a64 n64 dd64 m, p := 1 }
end Go.Proofs.Try
