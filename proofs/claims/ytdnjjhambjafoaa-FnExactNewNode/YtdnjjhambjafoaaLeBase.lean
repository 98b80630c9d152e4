/- A part of the proof of FnExactNewNode: LeBase, LeCon. -/
import Derived.Test.YtdnjjhambjafoaaVmJ
import Derived.Test.YtdnjjhambjafoaaProg
namespace Go.Proofs.Try
open Go Go.VM Go.RowKit

def tyT (e : Nat) : Type := if e = 2 then Int else if e = 3 then Int else if e = 5 then Int else if e = 51 then Int × Int × Int × Int × Int × Int × Int × Int × Int else if e = 44 then Int × Int × Int × Int × Int × Int × Int × Bool × List (Int × Int × Int × Int × Int × Int × Int × Int × Int) else if e = 25 then Int × Int × Int × Int × List (Int × Int × Int × Int × Int × Int × Int × Int × Int) × Int × Int × List (Int) × List (Int) × List (Int) else Unit
def inhT (e : Nat) : tyT e := by
  unfold tyT
  repeat' split
  all_goals first | exact ((0 : Int) : Int) | exact ((0 : Int) : Int) | exact ((0 : Int) : Int) | exact (((0 : Int), (0 : Int), (0 : Int), (0 : Int), (0 : Int), (0 : Int), (0 : Int), (0 : Int), (0 : Int)) : Int × Int × Int × Int × Int × Int × Int × Int × Int) | exact (((0 : Int), (0 : Int), (0 : Int), (0 : Int), (0 : Int), (0 : Int), (0 : Int), false, []) : Int × Int × Int × Int × Int × Int × Int × Bool × List (Int × Int × Int × Int × Int × Int × Int × Int × Int)) | exact (((0 : Int), (0 : Int), (0 : Int), (0 : Int), [], (0 : Int), (0 : Int), [], [], []) : Int × Int × Int × Int × List (Int × Int × Int × Int × Int × Int × Int × Int × Int) × Int × Int × List (Int) × List (Int) × List (Int)) | exact ()
def cd2 : Cd tyT (tyT 2) := cdInt .i64
def cd3 : Cd tyT (tyT 3) := cdInt .i64
def cd5 : Cd tyT (tyT 5) := cdInt .u8
def cd51 : Cd tyT (tyT 51) := cdPair (cdInt .i64) (cdPair (cdInt .i64) (cdPair (cdInt .i64) (cdPair (cdInt .i64) (cdPair (cdInt .i64) (cdPair (cdInt .i64) (cdPair (cdInt .i64) (cdPair (cdInt .i64) (cdInt .i64))))))))
def cd44 : Cd tyT (tyT 44) := cdPair (cdInt .i64) (cdPair (cdInt .i64) (cdPair (cdInt .i64) (cdPair (cdInt .i64) (cdPair (cdInt .i64) (cdPair (cdInt .i64) (cdPair (cdInt .i64) (cdPair cdBool (cdRow 51))))))))
def cd25 : Cd tyT (tyT 25) := cdPair (cdInt .i64) (cdPair (cdInt .i64) (cdPair (cdInt .i64) (cdPair (cdInt .i64) (cdPair (cdRow 51) (cdPair (cdInt .i64) (cdPair (cdInt .i64) (cdPair (cdRow 2) (cdPair (cdRow 2) (cdRow 2)))))))))
def cdT (e : Nat) : Cd tyT (tyT e) :=
  if h : e = 2 then h.symm ▸ cd2 else if h : e = 3 then h.symm ▸ cd3 else if h : e = 5 then h.symm ▸ cd5 else if h : e = 51 then h.symm ▸ cd51 else if h : e = 44 then h.symm ▸ cd44 else if h : e = 25 then h.symm ▸ cd25 else cdNone (inhT e)
def cxT : Cx := Cx.of cdT
theorem cxT_ok : cxT.Ok := Cx.of_ok cdT
set_option maxRecDepth 100000 in
theorem dom_cases {e : Nat} (h : (cdT e).dom = true) : e = 2 ∨ e = 3 ∨ e = 5 ∨ e = 51 := by
  by_cases h0 : e = 2
  · exact .inl h0
  by_cases h1 : e = 3
  · exact .inr (.inl h1)
  by_cases h2 : e = 5
  · exact .inr (.inr (.inl h2))
  by_cases h3 : e = 51
  · exact .inr (.inr (.inr (h3)))
  by_cases h4 : e = 44
  · subst h4; exact absurd h (by intro hh; cases (show false = true from hh))
  by_cases h5 : e = 25
  · subst h5; exact absurd h (by intro hh; cases (show false = true from hh))
  · unfold cdT at h; rw [dif_neg h0, dif_neg h1, dif_neg h2, dif_neg h3, dif_neg h4, dif_neg h5] at h; exact Bool.noConfusion h

set_option maxRecDepth 100000 in
theorem cxT_pok : cxT.POk prog := by
  refine ⟨fun e he => ?_, fun e he hu o x => ?_⟩
  · rcases dom_cases he with rfl | rfl | rfl | rfl <;>
    exact ⟨_, _, rfl, rfl, rfl, by decide, rfl, by decide, rfl⟩
  · rcases dom_cases he with rfl | rfl | rfl | rfl
    · rw [show prog.underlying 2 = _ from rfl] at hu; cases hu
    · rw [show prog.underlying 3 = _ from rfl] at hu; cases hu
    · exact ⟨x, rfl⟩
    · rw [show prog.underlying 51 = _ from rfl] at hu; cases hu
end Go.Proofs.Try

set_option linter.unusedVariables false
namespace Go.Proofs.Try
open Go Go.VM Go.RowKit
/-! loop.example/g00222/laws.FnExactNewNode -/
def a3 : Args cxT.ty (Int × Int) := (Args.cons (Arg.leaf (LArg.int .i64)) (Args.one (Arg.leaf (LArg.int .i64))))
def n3 : Bool → V cxT.ty := fun t => (.inl (.inl (lv (.bool t))))
def dd3 : Bool := false
abbrev c3 (m : (Int × Int) → Option Bool) := fnT (cx := cxT) a3 n3 dd3 m
theorem hs3 : ∀ t, noRoV (n3 t) = true ∨ noOwnV (n3 t) = true := fun _ => .inl rfl
/-! loop.example/g00222/spec.NewNode -/
def a4 : Args cxT.ty (Int × Int) := (Args.cons (Arg.leaf (LArg.int .i64)) (Args.one (Arg.leaf (LArg.int .i64))))
def n4 : (Int × Int × Int × Int × Int × (List (Int × (Int × (Int × (Int × (Int × (Int × (Int × (Int × Int))))))))) × Int × Int × (List Int) × (List Int) × (List Int) × (List (Int × (Int × (Int × (Int × (Int × (Int × (Int × (Bool × (List (Int × (Int × (Int × (Int × (Int × (Int × (Int × (Int × Int))))))))))))))))))) → V cxT.ty := fun t => (.inl (.inr [(lv (.int .i64 t.1)), (lv (.int .i64 t.2.1)), (lv (.int .i64 t.2.2.1)), (lv (.int .i64 t.2.2.2.1)), (lv (.int .i64 t.2.2.2.2.1)), (ls { own := 2, nm := 0, e := 51, o := true, xs := t.2.2.2.2.2.1 }), (lv (.int .i64 t.2.2.2.2.2.2.1)), (lv (.int .i64 t.2.2.2.2.2.2.2.1)), (ls { own := 2, nm := 0, e := 2, o := true, xs := t.2.2.2.2.2.2.2.2.1 }), (ls { own := 2, nm := 0, e := 2, o := true, xs := t.2.2.2.2.2.2.2.2.2.1 }), (ls { own := 2, nm := 0, e := 2, o := true, xs := t.2.2.2.2.2.2.2.2.2.2.1 }), (ls { own := 2, nm := 0, e := 44, o := true, xs := t.2.2.2.2.2.2.2.2.2.2.2 })]))
def dd4 : (Int × Int × Int × Int × Int × (List (Int × (Int × (Int × (Int × (Int × (Int × (Int × (Int × Int))))))))) × Int × Int × (List Int) × (List Int) × (List Int) × (List (Int × (Int × (Int × (Int × (Int × (Int × (Int × (Bool × (List (Int × (Int × (Int × (Int × (Int × (Int × (Int × (Int × Int))))))))))))))))))) := ((0 : Int), (0 : Int), (0 : Int), (0 : Int), (0 : Int), [], (0 : Int), (0 : Int), [], [], [], [])
abbrev c4 (m : (Int × Int) → Option (Int × Int × Int × Int × Int × (List (Int × (Int × (Int × (Int × (Int × (Int × (Int × (Int × Int))))))))) × Int × Int × (List Int) × (List Int) × (List Int) × (List (Int × (Int × (Int × (Int × (Int × (Int × (Int × (Bool × (List (Int × (Int × (Int × (Int × (Int × (Int × (Int × (Int × Int)))))))))))))))))))) := fnT (cx := cxT) a4 n4 dd4 m
theorem hs4 : ∀ t, noRoV (n4 t) = true ∨ noOwnV (n4 t) = true := fun _ => .inl rfl
/-! loop.example/g00222/impl.NewNode -/
def a5 : Args cxT.ty (Int × Int) := (Args.cons (Arg.leaf (LArg.int .i64)) (Args.one (Arg.leaf (LArg.int .i64))))
def n5 : (Int × Int × Int × Int × Int × (List (Int × (Int × (Int × (Int × (Int × (Int × (Int × (Int × Int))))))))) × Int × Int × (List Int) × (List Int) × (List Int) × (List (Int × (Int × (Int × (Int × (Int × (Int × (Int × (Bool × (List (Int × (Int × (Int × (Int × (Int × (Int × (Int × (Int × Int))))))))))))))))))) → V cxT.ty := fun t => (.inl (.inr [(lv (.int .i64 t.1)), (lv (.int .i64 t.2.1)), (lv (.int .i64 t.2.2.1)), (lv (.int .i64 t.2.2.2.1)), (lv (.int .i64 t.2.2.2.2.1)), (ls { own := 2, nm := 0, e := 51, o := true, xs := t.2.2.2.2.2.1 }), (lv (.int .i64 t.2.2.2.2.2.2.1)), (lv (.int .i64 t.2.2.2.2.2.2.2.1)), (ls { own := 2, nm := 0, e := 2, o := true, xs := t.2.2.2.2.2.2.2.2.1 }), (ls { own := 2, nm := 0, e := 2, o := true, xs := t.2.2.2.2.2.2.2.2.2.1 }), (ls { own := 2, nm := 0, e := 2, o := true, xs := t.2.2.2.2.2.2.2.2.2.2.1 }), (ls { own := 2, nm := 0, e := 44, o := true, xs := t.2.2.2.2.2.2.2.2.2.2.2 })]))
def dd5 : (Int × Int × Int × Int × Int × (List (Int × (Int × (Int × (Int × (Int × (Int × (Int × (Int × Int))))))))) × Int × Int × (List Int) × (List Int) × (List Int) × (List (Int × (Int × (Int × (Int × (Int × (Int × (Int × (Bool × (List (Int × (Int × (Int × (Int × (Int × (Int × (Int × (Int × Int))))))))))))))))))) := ((0 : Int), (0 : Int), (0 : Int), (0 : Int), (0 : Int), [], (0 : Int), (0 : Int), [], [], [], [])
abbrev c5 (m : (Int × Int) → Option (Int × Int × Int × Int × Int × (List (Int × (Int × (Int × (Int × (Int × (Int × (Int × (Int × Int))))))))) × Int × Int × (List Int) × (List Int) × (List Int) × (List (Int × (Int × (Int × (Int × (Int × (Int × (Int × (Bool × (List (Int × (Int × (Int × (Int × (Int × (Int × (Int × (Int × Int)))))))))))))))))))) := fnT (cx := cxT) a5 n5 dd5 m
theorem hs5 : ∀ t, noRoV (n5 t) = true ∨ noOwnV (n5 t) = true := fun _ => .inl rfl
/-! loop.example/g00222/laws.eqNodeResult -/
def a6 : Args cxT.ty ((Int × Int × Int × Int × Int × (List (Int × (Int × (Int × (Int × (Int × (Int × (Int × (Int × Int))))))))) × Int × Int × (List Int) × (List Int) × (List Int) × (List (Int × (Int × (Int × (Int × (Int × (Int × (Int × (Bool × (List (Int × (Int × (Int × (Int × (Int × (Int × (Int × (Int × Int))))))))))))))))))) × (Int × Int × Int × Int × Int × (List (Int × (Int × (Int × (Int × (Int × (Int × (Int × (Int × Int))))))))) × Int × Int × (List Int) × (List Int) × (List Int) × (List (Int × (Int × (Int × (Int × (Int × (Int × (Int × (Bool × (List (Int × (Int × (Int × (Int × (Int × (Int × (Int × (Int × Int)))))))))))))))))))) := (Args.cons (Arg.agg (SArg.cons (LArg.int .i64) (SArg.cons (LArg.int .i64) (SArg.cons (LArg.int .i64) (SArg.cons (LArg.int .i64) (SArg.cons (LArg.int .i64) (SArg.cons (LArg.row 51) (SArg.cons (LArg.int .i64) (SArg.cons (LArg.int .i64) (SArg.cons (LArg.row 2) (SArg.cons (LArg.row 2) (SArg.cons (LArg.row 2) (SArg.one (LArg.row 44)))))))))))))) (Args.one (Arg.agg (SArg.cons (LArg.int .i64) (SArg.cons (LArg.int .i64) (SArg.cons (LArg.int .i64) (SArg.cons (LArg.int .i64) (SArg.cons (LArg.int .i64) (SArg.cons (LArg.row 51) (SArg.cons (LArg.int .i64) (SArg.cons (LArg.int .i64) (SArg.cons (LArg.row 2) (SArg.cons (LArg.row 2) (SArg.cons (LArg.row 2) (SArg.one (LArg.row 44))))))))))))))))
def n6 : Bool → V cxT.ty := fun t => (.inl (.inl (lv (.bool t))))
def dd6 : Bool := false
abbrev c6 (m : ((Int × Int × Int × Int × Int × (List (Int × (Int × (Int × (Int × (Int × (Int × (Int × (Int × Int))))))))) × Int × Int × (List Int) × (List Int) × (List Int) × (List (Int × (Int × (Int × (Int × (Int × (Int × (Int × (Bool × (List (Int × (Int × (Int × (Int × (Int × (Int × (Int × (Int × Int))))))))))))))))))) × (Int × Int × Int × Int × Int × (List (Int × (Int × (Int × (Int × (Int × (Int × (Int × (Int × Int))))))))) × Int × Int × (List Int) × (List Int) × (List Int) × (List (Int × (Int × (Int × (Int × (Int × (Int × (Int × (Bool × (List (Int × (Int × (Int × (Int × (Int × (Int × (Int × (Int × Int)))))))))))))))))))) → Option Bool) := fnT (cx := cxT) a6 n6 dd6 m
theorem hs6 : ∀ t, noRoV (n6 t) = true ∨ noOwnV (n6 t) = true := fun _ => .inl rfl
/-! loop.example/g00222/laws.markNodeResult -/
def a7 : Args cxT.ty ((Int × Int × Int × Int × Int × (List (Int × (Int × (Int × (Int × (Int × (Int × (Int × (Int × Int))))))))) × Int × Int × (List Int) × (List Int) × (List Int) × (List (Int × (Int × (Int × (Int × (Int × (Int × (Int × (Bool × (List (Int × (Int × (Int × (Int × (Int × (Int × (Int × (Int × Int))))))))))))))))))) × Int) := (Args.cons (Arg.agg (SArg.cons (LArg.int .i64) (SArg.cons (LArg.int .i64) (SArg.cons (LArg.int .i64) (SArg.cons (LArg.int .i64) (SArg.cons (LArg.int .i64) (SArg.cons (LArg.own 51) (SArg.cons (LArg.int .i64) (SArg.cons (LArg.int .i64) (SArg.cons (LArg.own 2) (SArg.cons (LArg.own 2) (SArg.cons (LArg.own 2) (SArg.one (LArg.own 44)))))))))))))) (Args.one (Arg.leaf (LArg.int .i64))))
def n7 : (Int × Int × Int × Int × Int × Int × (List (Int × (Int × (Int × (Int × (Int × (Int × (Int × (Int × Int))))))))) × Int × Int × (List Int) × (List Int) × (List Int) × (List (Int × (Int × (Int × (Int × (Int × (Int × (Int × (Bool × (List (Int × (Int × (Int × (Int × (Int × (Int × (Int × (Int × Int))))))))))))))))))) → List (A cxT.ty) := fun t => [(.inl (lv (.int .i64 t.1))), (.inr [(lv (.int .i64 t.2.1)), (lv (.int .i64 t.2.2.1)), (lv (.int .i64 t.2.2.2.1)), (lv (.int .i64 t.2.2.2.2.1)), (lv (.int .i64 t.2.2.2.2.2.1)), (ls { own := 2, nm := 0, e := 51, o := true, xs := t.2.2.2.2.2.2.1 }), (lv (.int .i64 t.2.2.2.2.2.2.2.1)), (lv (.int .i64 t.2.2.2.2.2.2.2.2.1)), (ls { own := 2, nm := 0, e := 2, o := true, xs := t.2.2.2.2.2.2.2.2.2.1 }), (ls { own := 2, nm := 0, e := 2, o := true, xs := t.2.2.2.2.2.2.2.2.2.2.1 }), (ls { own := 2, nm := 0, e := 2, o := true, xs := t.2.2.2.2.2.2.2.2.2.2.2.1 }), (ls { own := 2, nm := 0, e := 44, o := true, xs := t.2.2.2.2.2.2.2.2.2.2.2.2 })])]
def dd7 : (Int × Int × Int × Int × Int × Int × (List (Int × (Int × (Int × (Int × (Int × (Int × (Int × (Int × Int))))))))) × Int × Int × (List Int) × (List Int) × (List Int) × (List (Int × (Int × (Int × (Int × (Int × (Int × (Int × (Bool × (List (Int × (Int × (Int × (Int × (Int × (Int × (Int × (Int × Int))))))))))))))))))) := ((0 : Int), (0 : Int), (0 : Int), (0 : Int), (0 : Int), (0 : Int), [], (0 : Int), (0 : Int), [], [], [], [])
abbrev c7 (m : ((Int × Int × Int × Int × Int × (List (Int × (Int × (Int × (Int × (Int × (Int × (Int × (Int × Int))))))))) × Int × Int × (List Int) × (List Int) × (List Int) × (List (Int × (Int × (Int × (Int × (Int × (Int × (Int × (Bool × (List (Int × (Int × (Int × (Int × (Int × (Int × (Int × (Int × Int))))))))))))))))))) × Int) → Option (Int × Int × Int × Int × Int × Int × (List (Int × (Int × (Int × (Int × (Int × (Int × (Int × (Int × Int))))))))) × Int × Int × (List Int) × (List Int) × (List Int) × (List (Int × (Int × (Int × (Int × (Int × (Int × (Int × (Bool × (List (Int × (Int × (Int × (Int × (Int × (Int × (Int × (Int × Int)))))))))))))))))))) : WFn cxT := { nres := 1, n := 1, F := fnW (cx := cxT) a7 n7 dd7 m, p := 4 }
theorem hs7 : ∀ t, noRoV (.inr (.inl (n7 t)) : V cxT.ty) = true := fun _ => rfl
/-! loop.example/g00222/laws.heldNodeResult -/
def a8 : Args cxT.ty ((Int × Int × Int × Int × Int × (List (Int × (Int × (Int × (Int × (Int × (Int × (Int × (Int × Int))))))))) × Int × Int × (List Int) × (List Int) × (List Int) × (List (Int × (Int × (Int × (Int × (Int × (Int × (Int × (Bool × (List (Int × (Int × (Int × (Int × (Int × (Int × (Int × (Int × Int))))))))))))))))))) × Int) := (Args.cons (Arg.agg (SArg.cons (LArg.int .i64) (SArg.cons (LArg.int .i64) (SArg.cons (LArg.int .i64) (SArg.cons (LArg.int .i64) (SArg.cons (LArg.int .i64) (SArg.cons (LArg.row 51) (SArg.cons (LArg.int .i64) (SArg.cons (LArg.int .i64) (SArg.cons (LArg.row 2) (SArg.cons (LArg.row 2) (SArg.cons (LArg.row 2) (SArg.one (LArg.row 44)))))))))))))) (Args.one (Arg.leaf (LArg.int .i64))))
def n8 : Int → V cxT.ty := fun t => (.inl (.inl (lv (.int .i64 t))))
def dd8 : Int := (0 : Int)
abbrev c8 (m : ((Int × Int × Int × Int × Int × (List (Int × (Int × (Int × (Int × (Int × (Int × (Int × (Int × Int))))))))) × Int × Int × (List Int) × (List Int) × (List Int) × (List (Int × (Int × (Int × (Int × (Int × (Int × (Int × (Bool × (List (Int × (Int × (Int × (Int × (Int × (Int × (Int × (Int × Int))))))))))))))))))) × Int) → Option Int) := fnT (cx := cxT) a8 n8 dd8 m
theorem hs8 : ∀ t, noRoV (n8 t) = true ∨ noOwnV (n8 t) = true := fun _ => .inl rfl
/-! loop.example/g00222/spec.l1In -/
def a9 : Args cxT.ty (Int × Int × Int) := (Args.cons (Arg.leaf (LArg.int .i64)) (Args.cons (Arg.leaf (LArg.int .i64)) (Args.one (Arg.leaf (LArg.int .i64)))))
def n9 : Bool → V cxT.ty := fun t => (.inl (.inl (lv (.bool t))))
def dd9 : Bool := false
abbrev c9 (m : (Int × Int × Int) → Option Bool) := fnT (cx := cxT) a9 n9 dd9 m
theorem hs9 : ∀ t, noRoV (n9 t) = true ∨ noOwnV (n9 t) = true := fun _ => .inl rfl
/-! loop.example/g00222/spec.l8Bad -/
def a10 : Args cxT.ty Int := (Args.one (Arg.leaf (LArg.int .i64)))
def n10 : (Int × Int × Int × Int × Int × (List (Int × (Int × (Int × (Int × (Int × (Int × (Int × (Int × Int))))))))) × Int × Int × (List Int) × (List Int) × (List Int) × (List (Int × (Int × (Int × (Int × (Int × (Int × (Int × (Bool × (List (Int × (Int × (Int × (Int × (Int × (Int × (Int × (Int × Int))))))))))))))))))) → V cxT.ty := fun t => (.inl (.inr [(lv (.int .i64 t.1)), (lv (.int .i64 t.2.1)), (lv (.int .i64 t.2.2.1)), (lv (.int .i64 t.2.2.2.1)), (lv (.int .i64 t.2.2.2.2.1)), (ls { own := 2, nm := 0, e := 51, o := true, xs := t.2.2.2.2.2.1 }), (lv (.int .i64 t.2.2.2.2.2.2.1)), (lv (.int .i64 t.2.2.2.2.2.2.2.1)), (ls { own := 2, nm := 0, e := 2, o := true, xs := t.2.2.2.2.2.2.2.2.1 }), (ls { own := 2, nm := 0, e := 2, o := true, xs := t.2.2.2.2.2.2.2.2.2.1 }), (ls { own := 2, nm := 0, e := 2, o := true, xs := t.2.2.2.2.2.2.2.2.2.2.1 }), (ls { own := 2, nm := 0, e := 44, o := true, xs := t.2.2.2.2.2.2.2.2.2.2.2 })]))
def dd10 : (Int × Int × Int × Int × Int × (List (Int × (Int × (Int × (Int × (Int × (Int × (Int × (Int × Int))))))))) × Int × Int × (List Int) × (List Int) × (List Int) × (List (Int × (Int × (Int × (Int × (Int × (Int × (Int × (Bool × (List (Int × (Int × (Int × (Int × (Int × (Int × (Int × (Int × Int))))))))))))))))))) := ((0 : Int), (0 : Int), (0 : Int), (0 : Int), (0 : Int), [], (0 : Int), (0 : Int), [], [], [], [])
abbrev c10 (m : Int → Option (Int × Int × Int × Int × Int × (List (Int × (Int × (Int × (Int × (Int × (Int × (Int × (Int × Int))))))))) × Int × Int × (List Int) × (List Int) × (List Int) × (List (Int × (Int × (Int × (Int × (Int × (Int × (Int × (Bool × (List (Int × (Int × (Int × (Int × (Int × (Int × (Int × (Int × Int)))))))))))))))))))) := fnT (cx := cxT) a10 n10 dd10 m
theorem hs10 : ∀ t, noRoV (n10 t) = true ∨ noOwnV (n10 t) = true := fun _ => .inl rfl
/-! loop.example/g00222/impl.isPeers -/
def a11 : Args cxT.ty Int := (Args.one (Arg.leaf (LArg.int .i64)))
def n11 : Bool → V cxT.ty := fun t => (.inl (.inl (lv (.bool t))))
def dd11 : Bool := false
abbrev c11 (m : Int → Option Bool) := fnT (cx := cxT) a11 n11 dd11 m
theorem hs11 : ∀ t, noRoV (n11 t) = true ∨ noOwnV (n11 t) = true := fun _ => .inl rfl
/-! loop.example/g00222/impl.isId -/
def a12 : Args cxT.ty (Int × Int) := (Args.cons (Arg.leaf (LArg.int .i64)) (Args.one (Arg.leaf (LArg.int .i64))))
def n12 : Bool → V cxT.ty := fun t => (.inl (.inl (lv (.bool t))))
def dd12 : Bool := false
abbrev c12 (m : (Int × Int) → Option Bool) := fnT (cx := cxT) a12 n12 dd12 m
theorem hs12 : ∀ t, noRoV (n12 t) = true ∨ noOwnV (n12 t) = true := fun _ => .inl rfl
/-! loop.example/g00222/laws.eqNode -/
def a13 : Args cxT.ty ((Int × Int × Int × Int × (List (Int × (Int × (Int × (Int × (Int × (Int × (Int × (Int × Int))))))))) × Int × Int × (List Int) × (List Int) × (List Int)) × (Int × Int × Int × Int × (List (Int × (Int × (Int × (Int × (Int × (Int × (Int × (Int × Int))))))))) × Int × Int × (List Int) × (List Int) × (List Int))) := (Args.cons (Arg.agg (SArg.cons (LArg.int .i64) (SArg.cons (LArg.int .i64) (SArg.cons (LArg.int .i64) (SArg.cons (LArg.int .i64) (SArg.cons (LArg.row 51) (SArg.cons (LArg.int .i64) (SArg.cons (LArg.int .i64) (SArg.cons (LArg.row 2) (SArg.cons (LArg.row 2) (SArg.one (LArg.row 2)))))))))))) (Args.one (Arg.agg (SArg.cons (LArg.int .i64) (SArg.cons (LArg.int .i64) (SArg.cons (LArg.int .i64) (SArg.cons (LArg.int .i64) (SArg.cons (LArg.row 51) (SArg.cons (LArg.int .i64) (SArg.cons (LArg.int .i64) (SArg.cons (LArg.row 2) (SArg.cons (LArg.row 2) (SArg.one (LArg.row 2))))))))))))))
def n13 : Bool → V cxT.ty := fun t => (.inl (.inl (lv (.bool t))))
def dd13 : Bool := false
abbrev c13 (m : ((Int × Int × Int × Int × (List (Int × (Int × (Int × (Int × (Int × (Int × (Int × (Int × Int))))))))) × Int × Int × (List Int) × (List Int) × (List Int)) × (Int × Int × Int × Int × (List (Int × (Int × (Int × (Int × (Int × (Int × (Int × (Int × Int))))))))) × Int × Int × (List Int) × (List Int) × (List Int))) → Option Bool) := fnT (cx := cxT) a13 n13 dd13 m
theorem hs13 : ∀ t, noRoV (n13 t) = true ∨ noOwnV (n13 t) = true := fun _ => .inl rfl
/-! loop.example/g00222/laws.eqMailS -/
def a14 : Args cxT.ty ((List (Int × (Int × (Int × (Int × (Int × (Int × (Int × (Bool × (List (Int × (Int × (Int × (Int × (Int × (Int × (Int × (Int × Int)))))))))))))))))) × (List (Int × (Int × (Int × (Int × (Int × (Int × (Int × (Bool × (List (Int × (Int × (Int × (Int × (Int × (Int × (Int × (Int × Int))))))))))))))))))) := (Args.cons (Arg.leaf (LArg.row 44)) (Args.one (Arg.leaf (LArg.row 44))))
def n14 : Bool → V cxT.ty := fun t => (.inl (.inl (lv (.bool t))))
def dd14 : Bool := false
abbrev c14 (m : ((List (Int × (Int × (Int × (Int × (Int × (Int × (Int × (Bool × (List (Int × (Int × (Int × (Int × (Int × (Int × (Int × (Int × Int)))))))))))))))))) × (List (Int × (Int × (Int × (Int × (Int × (Int × (Int × (Bool × (List (Int × (Int × (Int × (Int × (Int × (Int × (Int × (Int × Int))))))))))))))))))) → Option Bool) := fnT (cx := cxT) a14 n14 dd14 m
theorem hs14 : ∀ t, noRoV (n14 t) = true ∨ noOwnV (n14 t) = true := fun _ => .inl rfl
/-! loop.example/g00222/laws.markNode -/
def a15 : Args cxT.ty ((Int × Int × Int × Int × (List (Int × (Int × (Int × (Int × (Int × (Int × (Int × (Int × Int))))))))) × Int × Int × (List Int) × (List Int) × (List Int)) × Int) := (Args.cons (Arg.agg (SArg.cons (LArg.int .i64) (SArg.cons (LArg.int .i64) (SArg.cons (LArg.int .i64) (SArg.cons (LArg.int .i64) (SArg.cons (LArg.own 51) (SArg.cons (LArg.int .i64) (SArg.cons (LArg.int .i64) (SArg.cons (LArg.own 2) (SArg.cons (LArg.own 2) (SArg.one (LArg.own 2)))))))))))) (Args.one (Arg.leaf (LArg.int .i64))))
def n15 : (Int × Int × Int × Int × Int × (List (Int × (Int × (Int × (Int × (Int × (Int × (Int × (Int × Int))))))))) × Int × Int × (List Int) × (List Int) × (List Int)) → List (A cxT.ty) := fun t => [(.inl (lv (.int .i64 t.1))), (.inr [(lv (.int .i64 t.2.1)), (lv (.int .i64 t.2.2.1)), (lv (.int .i64 t.2.2.2.1)), (lv (.int .i64 t.2.2.2.2.1)), (ls { own := 2, nm := 0, e := 51, o := true, xs := t.2.2.2.2.2.1 }), (lv (.int .i64 t.2.2.2.2.2.2.1)), (lv (.int .i64 t.2.2.2.2.2.2.2.1)), (ls { own := 2, nm := 0, e := 2, o := true, xs := t.2.2.2.2.2.2.2.2.1 }), (ls { own := 2, nm := 0, e := 2, o := true, xs := t.2.2.2.2.2.2.2.2.2.1 }), (ls { own := 2, nm := 0, e := 2, o := true, xs := t.2.2.2.2.2.2.2.2.2.2 })])]
def dd15 : (Int × Int × Int × Int × Int × (List (Int × (Int × (Int × (Int × (Int × (Int × (Int × (Int × Int))))))))) × Int × Int × (List Int) × (List Int) × (List Int)) := ((0 : Int), (0 : Int), (0 : Int), (0 : Int), (0 : Int), [], (0 : Int), (0 : Int), [], [], [])
abbrev c15 (m : ((Int × Int × Int × Int × (List (Int × (Int × (Int × (Int × (Int × (Int × (Int × (Int × Int))))))))) × Int × Int × (List Int) × (List Int) × (List Int)) × Int) → Option (Int × Int × Int × Int × Int × (List (Int × (Int × (Int × (Int × (Int × (Int × (Int × (Int × Int))))))))) × Int × Int × (List Int) × (List Int) × (List Int))) : WFn cxT := { nres := 1, n := 1, F := fnW (cx := cxT) a15 n15 dd15 m }
theorem hs15 : ∀ t, noRoV (.inr (.inl (n15 t)) : V cxT.ty) = true := fun _ => rfl
/-! loop.example/g00222/laws.markMailS -/
def a16 : Args cxT.ty ((List (Int × (Int × (Int × (Int × (Int × (Int × (Int × (Bool × (List (Int × (Int × (Int × (Int × (Int × (Int × (Int × (Int × Int)))))))))))))))))) × Int) := (Args.cons (Arg.leaf (LArg.own 44)) (Args.one (Arg.leaf (LArg.int .i64))))
def n16 : (Int × (List (Int × (Int × (Int × (Int × (Int × (Int × (Int × (Bool × (List (Int × (Int × (Int × (Int × (Int × (Int × (Int × (Int × Int))))))))))))))))))) → List (A cxT.ty) := fun t => [(.inl (lv (.int .i64 t.1))), (.inl (ls { own := 2, nm := 0, e := 44, o := true, xs := t.2 }))]
def dd16 : (Int × (List (Int × (Int × (Int × (Int × (Int × (Int × (Int × (Bool × (List (Int × (Int × (Int × (Int × (Int × (Int × (Int × (Int × Int))))))))))))))))))) := ((0 : Int), [])
abbrev c16 (m : ((List (Int × (Int × (Int × (Int × (Int × (Int × (Int × (Bool × (List (Int × (Int × (Int × (Int × (Int × (Int × (Int × (Int × Int)))))))))))))))))) × Int) → Option (Int × (List (Int × (Int × (Int × (Int × (Int × (Int × (Int × (Bool × (List (Int × (Int × (Int × (Int × (Int × (Int × (Int × (Int × Int)))))))))))))))))))) : WFn cxT := { nres := 1, n := 1, F := fnW (cx := cxT) a16 n16 dd16 m, p := 4 }
theorem hs16 : ∀ t, noRoV (.inr (.inl (n16 t)) : V cxT.ty) = true := fun _ => rfl
/-! loop.example/g00222/laws.heldNode -/
def a17 : Args cxT.ty ((Int × Int × Int × Int × (List (Int × (Int × (Int × (Int × (Int × (Int × (Int × (Int × Int))))))))) × Int × Int × (List Int) × (List Int) × (List Int)) × Int) := (Args.cons (Arg.agg (SArg.cons (LArg.int .i64) (SArg.cons (LArg.int .i64) (SArg.cons (LArg.int .i64) (SArg.cons (LArg.int .i64) (SArg.cons (LArg.row 51) (SArg.cons (LArg.int .i64) (SArg.cons (LArg.int .i64) (SArg.cons (LArg.row 2) (SArg.cons (LArg.row 2) (SArg.one (LArg.row 2)))))))))))) (Args.one (Arg.leaf (LArg.int .i64))))
def n17 : Int → V cxT.ty := fun t => (.inl (.inl (lv (.int .i64 t))))
def dd17 : Int := (0 : Int)
abbrev c17 (m : ((Int × Int × Int × Int × (List (Int × (Int × (Int × (Int × (Int × (Int × (Int × (Int × Int))))))))) × Int × Int × (List Int) × (List Int) × (List Int)) × Int) → Option Int) := fnT (cx := cxT) a17 n17 dd17 m
theorem hs17 : ∀ t, noRoV (n17 t) = true ∨ noOwnV (n17 t) = true := fun _ => .inl rfl
/-! loop.example/g00222/laws.heldMailS -/
def a18 : Args cxT.ty ((List (Int × (Int × (Int × (Int × (Int × (Int × (Int × (Bool × (List (Int × (Int × (Int × (Int × (Int × (Int × (Int × (Int × Int)))))))))))))))))) × Int) := (Args.cons (Arg.leaf (LArg.row 44)) (Args.one (Arg.leaf (LArg.int .i64))))
def n18 : Int → V cxT.ty := fun t => (.inl (.inl (lv (.int .i64 t))))
def dd18 : Int := (0 : Int)
abbrev c18 (m : ((List (Int × (Int × (Int × (Int × (Int × (Int × (Int × (Bool × (List (Int × (Int × (Int × (Int × (Int × (Int × (Int × (Int × Int)))))))))))))))))) × Int) → Option Int) := fnT (cx := cxT) a18 n18 dd18 m
theorem hs18 : ∀ t, noRoV (n18 t) = true ∨ noOwnV (n18 t) = true := fun _ => .inl rfl
/-! loop.example/g00222/impl.isFromTo -/
def a19 : Args cxT.ty (Int × Int × Int) := (Args.cons (Arg.leaf (LArg.int .i64)) (Args.cons (Arg.leaf (LArg.int .i64)) (Args.one (Arg.leaf (LArg.int .i64)))))
def n19 : Bool → V cxT.ty := fun t => (.inl (.inl (lv (.bool t))))
def dd19 : Bool := false
abbrev c19 (m : (Int × Int × Int) → Option Bool) := fnT (cx := cxT) a19 n19 dd19 m
theorem hs19 : ∀ t, noRoV (n19 t) = true ∨ noOwnV (n19 t) = true := fun _ => .inl rfl
/-! loop.example/g00222/laws.eqEntryS -/
def a20 : Args cxT.ty ((List (Int × (Int × (Int × (Int × (Int × (Int × (Int × (Int × Int))))))))) × (List (Int × (Int × (Int × (Int × (Int × (Int × (Int × (Int × Int)))))))))) := (Args.cons (Arg.leaf (LArg.row 51)) (Args.one (Arg.leaf (LArg.row 51))))
def n20 : Bool → V cxT.ty := fun t => (.inl (.inl (lv (.bool t))))
def dd20 : Bool := false
abbrev c20 (m : ((List (Int × (Int × (Int × (Int × (Int × (Int × (Int × (Int × Int))))))))) × (List (Int × (Int × (Int × (Int × (Int × (Int × (Int × (Int × Int)))))))))) → Option Bool) := fnT (cx := cxT) a20 n20 dd20 m
theorem hs20 : ∀ t, noRoV (n20 t) = true ∨ noOwnV (n20 t) = true := fun _ => .inl rfl
/-! loop.example/g00222/laws.eqInt64S -/
def a21 : Args cxT.ty ((List Int) × (List Int)) := (Args.cons (Arg.leaf (LArg.row 2)) (Args.one (Arg.leaf (LArg.row 2))))
def n21 : Bool → V cxT.ty := fun t => (.inl (.inl (lv (.bool t))))
def dd21 : Bool := false
abbrev c21 (m : ((List Int) × (List Int)) → Option Bool) := fnT (cx := cxT) a21 n21 dd21 m
theorem hs21 : ∀ t, noRoV (n21 t) = true ∨ noOwnV (n21 t) = true := fun _ => .inl rfl
/-! loop.example/g00222/laws.eqMail -/
def a22 : Args cxT.ty ((Int × Int × Int × Int × Int × Int × Int × Bool × (List (Int × (Int × (Int × (Int × (Int × (Int × (Int × (Int × Int)))))))))) × (Int × Int × Int × Int × Int × Int × Int × Bool × (List (Int × (Int × (Int × (Int × (Int × (Int × (Int × (Int × Int))))))))))) := (Args.cons (Arg.agg (SArg.cons (LArg.int .i64) (SArg.cons (LArg.int .i64) (SArg.cons (LArg.int .i64) (SArg.cons (LArg.int .i64) (SArg.cons (LArg.int .i64) (SArg.cons (LArg.int .i64) (SArg.cons (LArg.int .i64) (SArg.cons LArg.bool (SArg.one (LArg.row 51))))))))))) (Args.one (Arg.agg (SArg.cons (LArg.int .i64) (SArg.cons (LArg.int .i64) (SArg.cons (LArg.int .i64) (SArg.cons (LArg.int .i64) (SArg.cons (LArg.int .i64) (SArg.cons (LArg.int .i64) (SArg.cons (LArg.int .i64) (SArg.cons LArg.bool (SArg.one (LArg.row 51)))))))))))))
def n22 : Bool → V cxT.ty := fun t => (.inl (.inl (lv (.bool t))))
def dd22 : Bool := false
abbrev c22 (m : ((Int × Int × Int × Int × Int × Int × Int × Bool × (List (Int × (Int × (Int × (Int × (Int × (Int × (Int × (Int × Int)))))))))) × (Int × Int × Int × Int × Int × Int × Int × Bool × (List (Int × (Int × (Int × (Int × (Int × (Int × (Int × (Int × Int))))))))))) → Option Bool) := fnT (cx := cxT) a22 n22 dd22 m
theorem hs22 : ∀ t, noRoV (n22 t) = true ∨ noOwnV (n22 t) = true := fun _ => .inl rfl
/-! loop.example/g00222/laws.markEntryS -/
def a23 : Args cxT.ty ((List (Int × (Int × (Int × (Int × (Int × (Int × (Int × (Int × Int))))))))) × Int) := (Args.cons (Arg.leaf (LArg.own 51)) (Args.one (Arg.leaf (LArg.int .i64))))
def n23 : (Int × (List (Int × (Int × (Int × (Int × (Int × (Int × (Int × (Int × Int)))))))))) → List (A cxT.ty) := fun t => [(.inl (lv (.int .i64 t.1))), (.inl (ls { own := 2, nm := 0, e := 51, o := true, xs := t.2 }))]
def dd23 : (Int × (List (Int × (Int × (Int × (Int × (Int × (Int × (Int × (Int × Int)))))))))) := ((0 : Int), [])
abbrev c23 (m : ((List (Int × (Int × (Int × (Int × (Int × (Int × (Int × (Int × Int))))))))) × Int) → Option (Int × (List (Int × (Int × (Int × (Int × (Int × (Int × (Int × (Int × Int))))))))))) : WFn cxT := { nres := 1, n := 1, F := fnW (cx := cxT) a23 n23 dd23 m }
theorem hs23 : ∀ t, noRoV (.inr (.inl (n23 t)) : V cxT.ty) = true := fun _ => rfl
/-! loop.example/g00222/laws.markInt64S -/
def a24 : Args cxT.ty ((List Int) × Int) := (Args.cons (Arg.leaf (LArg.own 2)) (Args.one (Arg.leaf (LArg.int .i64))))
def n24 : (Int × (List Int)) → List (A cxT.ty) := fun t => [(.inl (lv (.int .i64 t.1))), (.inl (ls { own := 2, nm := 0, e := 2, o := true, xs := t.2 }))]
def dd24 : (Int × (List Int)) := ((0 : Int), [])
abbrev c24 (m : ((List Int) × Int) → Option (Int × (List Int))) : WFn cxT := { nres := 1, n := 1, F := fnW (cx := cxT) a24 n24 dd24 m }
theorem hs24 : ∀ t, noRoV (.inr (.inl (n24 t)) : V cxT.ty) = true := fun _ => rfl
/-! loop.example/g00222/laws.heldEntryS -/
def a25 : Args cxT.ty ((List (Int × (Int × (Int × (Int × (Int × (Int × (Int × (Int × Int))))))))) × Int) := (Args.cons (Arg.leaf (LArg.row 51)) (Args.one (Arg.leaf (LArg.int .i64))))
def n25 : Int → V cxT.ty := fun t => (.inl (.inl (lv (.int .i64 t))))
def dd25 : Int := (0 : Int)
abbrev c25 (m : ((List (Int × (Int × (Int × (Int × (Int × (Int × (Int × (Int × Int))))))))) × Int) → Option Int) := fnT (cx := cxT) a25 n25 dd25 m
theorem hs25 : ∀ t, noRoV (n25 t) = true ∨ noOwnV (n25 t) = true := fun _ => .inl rfl
/-! loop.example/g00222/laws.heldInt64S -/
def a26 : Args cxT.ty ((List Int) × Int) := (Args.cons (Arg.leaf (LArg.row 2)) (Args.one (Arg.leaf (LArg.int .i64))))
def n26 : Int → V cxT.ty := fun t => (.inl (.inl (lv (.int .i64 t))))
def dd26 : Int := (0 : Int)
abbrev c26 (m : ((List Int) × Int) → Option Int) := fnT (cx := cxT) a26 n26 dd26 m
theorem hs26 : ∀ t, noRoV (n26 t) = true ∨ noOwnV (n26 t) = true := fun _ => .inl rfl
/-! loop.example/g00222/laws.eqEntry -/
def a27 : Args cxT.ty ((Int × Int × Int × Int × Int × Int × Int × Int × Int) × (Int × Int × Int × Int × Int × Int × Int × Int × Int)) := (Args.cons (Arg.agg (SArg.cons (LArg.int .i64) (SArg.cons (LArg.int .i64) (SArg.cons (LArg.int .i64) (SArg.cons (LArg.int .i64) (SArg.cons (LArg.int .i64) (SArg.cons (LArg.int .i64) (SArg.cons (LArg.int .i64) (SArg.cons (LArg.int .i64) (SArg.one (LArg.int .i64))))))))))) (Args.one (Arg.agg (SArg.cons (LArg.int .i64) (SArg.cons (LArg.int .i64) (SArg.cons (LArg.int .i64) (SArg.cons (LArg.int .i64) (SArg.cons (LArg.int .i64) (SArg.cons (LArg.int .i64) (SArg.cons (LArg.int .i64) (SArg.cons (LArg.int .i64) (SArg.one (LArg.int .i64)))))))))))))
def n27 : Bool → V cxT.ty := fun t => (.inl (.inl (lv (.bool t))))
def dd27 : Bool := false
abbrev c27 (m : ((Int × Int × Int × Int × Int × Int × Int × Int × Int) × (Int × Int × Int × Int × Int × Int × Int × Int × Int)) → Option Bool) := fnT (cx := cxT) a27 n27 dd27 m
theorem hs27 : ∀ t, noRoV (n27 t) = true ∨ noOwnV (n27 t) = true := fun _ => .inl rfl
/-! loop.example/g00222/laws.eqCmd -/
def a28 : Args cxT.ty ((Int × Int × Int × Int × Int × Int) × (Int × Int × Int × Int × Int × Int)) := (Args.cons (Arg.agg (SArg.cons (LArg.int .i64) (SArg.cons (LArg.int .i64) (SArg.cons (LArg.int .i64) (SArg.cons (LArg.int .i64) (SArg.cons (LArg.int .i64) (SArg.one (LArg.int .i64)))))))) (Args.one (Arg.agg (SArg.cons (LArg.int .i64) (SArg.cons (LArg.int .i64) (SArg.cons (LArg.int .i64) (SArg.cons (LArg.int .i64) (SArg.cons (LArg.int .i64) (SArg.one (LArg.int .i64))))))))))
def n28 : Bool → V cxT.ty := fun t => (.inl (.inl (lv (.bool t))))
def dd28 : Bool := false
abbrev c28 (m : ((Int × Int × Int × Int × Int × Int) × (Int × Int × Int × Int × Int × Int)) → Option Bool) := fnT (cx := cxT) a28 n28 dd28 m
theorem hs28 : ∀ t, noRoV (n28 t) = true ∨ noOwnV (n28 t) = true := fun _ => .inl rfl
end Go.Proofs.Try
