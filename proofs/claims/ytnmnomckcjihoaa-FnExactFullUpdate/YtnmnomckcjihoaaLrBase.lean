/- A part of the proof of FnExactFullUpdate: LrBase, LrCon. -/
import Derived.Test.YtnmnomckcjihoaaVmJ
import Derived.Test.YtnmnomckcjihoaaProg
set_option linter.unusedVariables false
namespace Go.Proofs.Try
open Go Go.VM Go.RowKit

abbrev Bk := Int × Int × Int × Int × Bool
abbrev Vp := Int × Int × Int × List Int
abbrev Cm := Int × Int × Int × Int × Int × Int
abbrev Cg := Int × List Bk × List Vp
def tyT (e : Nat) : Type := if e = 2 then Int else if e = 3 then Int else if e = 5 then Int else if e = 71 then Int × Int × Int × Int × Bool else if e = 82 then Int × Int × Int × Int × Bool else if e = 75 then Int × Int × Int × List (Int) else if e = 80 then Int × Int × Int × List (Int) else if e = 99 then Int × Int × Int × Int × Int × Int else if e = 33 then Int × List (Int × Int × Int × Int × Bool) × List (Int × Int × Int × List (Int)) else if e = 25 then Int × List (Int × Int × Int × Int × Bool) × List (Int × Int × Int × List (Int)) else Unit
def inhT (e : Nat) : tyT e := by
  unfold tyT
  repeat' split
  all_goals first | exact ((0 : Int) : Int) | exact ((0 : Int) : Int) | exact ((0 : Int) : Int) | exact (((0 : Int), (0 : Int), (0 : Int), (0 : Int), false) : Int × Int × Int × Int × Bool) | exact (((0 : Int), (0 : Int), (0 : Int), (0 : Int), false) : Int × Int × Int × Int × Bool) | exact (((0 : Int), (0 : Int), (0 : Int), []) : Int × Int × Int × List (Int)) | exact (((0 : Int), (0 : Int), (0 : Int), []) : Int × Int × Int × List (Int)) | exact (((0 : Int), (0 : Int), (0 : Int), (0 : Int), (0 : Int), (0 : Int)) : Int × Int × Int × Int × Int × Int) | exact (((0 : Int), [], []) : Int × List (Int × Int × Int × Int × Bool) × List (Int × Int × Int × List (Int))) | exact (((0 : Int), [], []) : Int × List (Int × Int × Int × Int × Bool) × List (Int × Int × Int × List (Int))) | exact ()
def cd2 : Cd tyT (tyT 2) := cdInt .i64
def cd3 : Cd tyT (tyT 3) := cdInt .i64
def cd5 : Cd tyT (tyT 5) := cdInt .u8
def cd71 : Cd tyT (tyT 71) := cdPair (cdInt .i64) (cdPair (cdInt .i64) (cdPair (cdInt .i64) (cdPair (cdInt .i64) cdBool)))
def cd82 : Cd tyT (tyT 82) := cdPair (cdInt .i64) (cdPair (cdInt .i64) (cdPair (cdInt .i64) (cdPair (cdInt .i64) cdBool)))
def cd75 : Cd tyT (tyT 75) := cdPair (cdInt .i64) (cdPair (cdInt .i64) (cdPair (cdInt .i64) (cdRow 2)))
def cd80 : Cd tyT (tyT 80) := cdPair (cdInt .i64) (cdPair (cdInt .i64) (cdPair (cdInt .i64) (cdRow 2)))
def cd99 : Cd tyT (tyT 99) := cdPair (cdInt .i64) (cdPair (cdInt .i64) (cdPair (cdInt .i64) (cdPair (cdInt .i64) (cdPair (cdInt .i64) (cdInt .i64)))))
def cd33 : Cd tyT (tyT 33) := cdPair (cdInt .i64) (cdPair (cdRow 71) (cdRow 75))
def cd25 : Cd tyT (tyT 25) := cdPair (cdInt .i64) (cdPair (cdRow 82) (cdRow 80))
def cdT (e : Nat) : Cd tyT (tyT e) :=
  if h : e = 2 then h.symm ▸ cd2 else if h : e = 3 then h.symm ▸ cd3 else if h : e = 5 then h.symm ▸ cd5 else if h : e = 71 then h.symm ▸ cd71 else if h : e = 82 then h.symm ▸ cd82 else if h : e = 75 then h.symm ▸ cd75 else if h : e = 80 then h.symm ▸ cd80 else if h : e = 99 then h.symm ▸ cd99 else if h : e = 33 then h.symm ▸ cd33 else if h : e = 25 then h.symm ▸ cd25 else cdNone (inhT e)
def cxT : Cx := Cx.of cdT
theorem cxT_ok : cxT.Ok := Cx.of_ok cdT
set_option maxRecDepth 100000 in
theorem dom_cases {e : Nat} (h : (cdT e).dom = true) : e = 2 ∨ e = 3 ∨ e = 5 ∨ e = 71 ∨ e = 82 ∨ e = 99 := by
  by_cases h0 : e = 2
  · exact .inl h0
  by_cases h1 : e = 3
  · exact .inr (.inl h1)
  by_cases h2 : e = 5
  · exact .inr (.inr (.inl h2))
  by_cases h3 : e = 71
  · exact .inr (.inr (.inr (.inl h3)))
  by_cases h4 : e = 82
  · exact .inr (.inr (.inr (.inr (.inl h4))))
  by_cases h5 : e = 75
  · subst h5; exact absurd h (by intro hh; cases (show false = true from hh))
  by_cases h6 : e = 80
  · subst h6; exact absurd h (by intro hh; cases (show false = true from hh))
  by_cases h7 : e = 99
  · exact .inr (.inr (.inr (.inr (.inr (h7)))))
  by_cases h8 : e = 33
  · subst h8; exact absurd h (by intro hh; cases (show false = true from hh))
  by_cases h9 : e = 25
  · subst h9; exact absurd h (by intro hh; cases (show false = true from hh))
  · unfold cdT at h; rw [dif_neg h0, dif_neg h1, dif_neg h2, dif_neg h3, dif_neg h4, dif_neg h5, dif_neg h6, dif_neg h7, dif_neg h8, dif_neg h9] at h; exact Bool.noConfusion h

set_option maxRecDepth 100000 in
theorem cxT_pok : cxT.POk prog := by
  refine ⟨fun e he => ?_, fun e he hu o x => ?_⟩
  · rcases dom_cases he with rfl | rfl | rfl | rfl | rfl | rfl <;>
    exact ⟨_, _, rfl, rfl, rfl, by decide, rfl, by decide, rfl⟩
  · rcases dom_cases he with rfl | rfl | rfl | rfl | rfl | rfl
    · rw [show prog.underlying 2 = _ from rfl] at hu; cases hu
    · rw [show prog.underlying 3 = _ from rfl] at hu; cases hu
    · exact ⟨x, rfl⟩
    · rw [show prog.underlying 71 = _ from rfl] at hu; cases hu
    · rw [show prog.underlying 82 = _ from rfl] at hu; cases hu
    · rw [show prog.underlying 99 = _ from rfl] at hu; cases hu
end Go.Proofs.Try

set_option linter.unusedVariables false
namespace Go.Proofs.Try
open Go Go.VM Go.RowKit
/-! loop.example/g00222/laws.FnExactWatchFault -/
def a3 : Args cxT.ty (Bool × Int × (List (Int × (Int × (Int × (Int × Bool))))) × (List (Int × (Int × (Int × (List Int)))))) := (Args.one (Arg.agg (SArg.cons LArg.bool (SArg.cons (LArg.int .i64) (SArg.cons (LArg.row 82) (SArg.one (LArg.row 80)))))))
def n3 : Bool → V cxT.ty := fun t => (.inl (.inl (lv (.bool t))))
def dd3 : Bool := false
abbrev c3 (m : (Bool × Int × (List (Int × (Int × (Int × (Int × Bool))))) × (List (Int × (Int × (Int × (List Int)))))) → Option Bool) := fnT (cx := cxT) a3 n3 dd3 m
theorem hs3 : ∀ t, noRoV (n3 t) = true ∨ noOwnV (n3 t) = true := fun _ => .inl rfl
/-! loop.example/g00222/laws.FnExactFullUpdate -/
def a4 : Args cxT.ty (Int × (List (Int × (Int × (Int × (Int × Bool))))) × (List (Int × (Int × (Int × (List Int)))))) := (Args.one (Arg.agg (SArg.cons (LArg.int .i64) (SArg.cons (LArg.row 82) (SArg.one (LArg.row 80))))))
def n4 : Bool → V cxT.ty := fun t => (.inl (.inl (lv (.bool t))))
def dd4 : Bool := false
abbrev c4 (m : (Int × (List (Int × (Int × (Int × (Int × Bool))))) × (List (Int × (Int × (Int × (List Int)))))) → Option Bool) := fnT (cx := cxT) a4 n4 dd4 m
theorem hs4 : ∀ t, noRoV (n4 t) = true ∨ noOwnV (n4 t) = true := fun _ => .inl rfl
/-! loop.example/g00222/laws.szWatch -/
def a5 : Args cxT.ty ((Bool × Int × (List (Int × (Int × (Int × (Int × Bool))))) × (List (Int × (Int × (Int × (List Int)))))) × Int) := (Args.cons (Arg.agg (SArg.cons LArg.bool (SArg.cons (LArg.int .i64) (SArg.cons (LArg.row 82) (SArg.one (LArg.row 80)))))) (Args.one (Arg.leaf (LArg.int .i64))))
def n5 : Int → V cxT.ty := fun t => (.inl (.inl (lv (.int .i64 t))))
def dd5 : Int := (0 : Int)
abbrev c5 (m : ((Bool × Int × (List (Int × (Int × (Int × (Int × Bool))))) × (List (Int × (Int × (Int × (List Int)))))) × Int) → Option Int) := fnT (cx := cxT) a5 n5 dd5 m
/-! loop.example/g00222/spec.WatchFault -/
def a6 : Args cxT.ty (Bool × Int × (List (Int × (Int × (Int × (Int × Bool))))) × (List (Int × (Int × (Int × (List Int)))))) := (Args.one (Arg.agg (SArg.cons LArg.bool (SArg.cons (LArg.int .i64) (SArg.cons (LArg.row 71) (SArg.one (LArg.row 75)))))))
def n6 : Int → V cxT.ty := fun t => (.inl (.inl (lv (.int .i64 t))))
def dd6 : Int := (0 : Int)
abbrev c6 (m : (Bool × Int × (List (Int × (Int × (Int × (Int × Bool))))) × (List (Int × (Int × (Int × (List Int)))))) → Option Int) := fnT (cx := cxT) a6 n6 dd6 m
/-! loop.example/g00222/laws.toWatch -/
def a7 : Args cxT.ty (Bool × Int × (List (Int × (Int × (Int × (Int × Bool))))) × (List (Int × (Int × (Int × (List Int)))))) := (Args.one (Arg.agg (SArg.cons LArg.bool (SArg.cons (LArg.int .i64) (SArg.cons (LArg.row 82) (SArg.one (LArg.row 80)))))))
def n7 : (Bool × Int × (List (Int × (Int × (Int × (Int × Bool))))) × (List (Int × (Int × (Int × (List Int)))))) → V cxT.ty := fun t => (.inl (.inr [(lv (.bool t.1)), (lv (.int .i64 t.2.1)), (ls { own := 2, nm := 0, e := 71, o := true, xs := t.2.2.1 }), (ls { own := 2, nm := 0, e := 75, o := true, xs := t.2.2.2 })]))
def dd7 : (Bool × Int × (List (Int × (Int × (Int × (Int × Bool))))) × (List (Int × (Int × (Int × (List Int)))))) := (false, (0 : Int), [], [])
abbrev c7 (m : (Bool × Int × (List (Int × (Int × (Int × (Int × Bool))))) × (List (Int × (Int × (Int × (List Int)))))) → Option (Bool × Int × (List (Int × (Int × (Int × (Int × Bool))))) × (List (Int × (Int × (Int × (List Int))))))) := fnT (cx := cxT) a7 n7 dd7 m
/-! loop.example/g00222/impl.WatchFault -/
def a8 : Args cxT.ty (Bool × Int × (List (Int × (Int × (Int × (Int × Bool))))) × (List (Int × (Int × (Int × (List Int)))))) := (Args.one (Arg.agg (SArg.cons LArg.bool (SArg.cons (LArg.int .i64) (SArg.cons (LArg.row 71) (SArg.one (LArg.row 75)))))))
def n8 : Int → V cxT.ty := fun t => (.inl (.inl (lv (.int .i64 t))))
def dd8 : Int := (0 : Int)
abbrev c8 (m : (Bool × Int × (List (Int × (Int × (Int × (Int × Bool))))) × (List (Int × (Int × (Int × (List Int)))))) → Option Int) := fnT (cx := cxT) a8 n8 dd8 m
/-! loop.example/g00222/laws.eqWatch -/
def a9 : Args cxT.ty ((Bool × Int × (List (Int × (Int × (Int × (Int × Bool))))) × (List (Int × (Int × (Int × (List Int)))))) × (Bool × Int × (List (Int × (Int × (Int × (Int × Bool))))) × (List (Int × (Int × (Int × (List Int))))))) := (Args.cons (Arg.agg (SArg.cons LArg.bool (SArg.cons (LArg.int .i64) (SArg.cons (LArg.row 71) (SArg.one (LArg.row 75)))))) (Args.one (Arg.agg (SArg.cons LArg.bool (SArg.cons (LArg.int .i64) (SArg.cons (LArg.row 71) (SArg.one (LArg.row 75))))))))
def n9 : Bool → V cxT.ty := fun t => (.inl (.inl (lv (.bool t))))
def dd9 : Bool := false
abbrev c9 (m : ((Bool × Int × (List (Int × (Int × (Int × (Int × Bool))))) × (List (Int × (Int × (Int × (List Int)))))) × (Bool × Int × (List (Int × (Int × (Int × (Int × Bool))))) × (List (Int × (Int × (Int × (List Int))))))) → Option Bool) := fnT (cx := cxT) a9 n9 dd9 m
/-! loop.example/g00222/laws.szConfig -/
def a10 : Args cxT.ty ((Int × (List (Int × (Int × (Int × (Int × Bool))))) × (List (Int × (Int × (Int × (List Int)))))) × Int) := (Args.cons (Arg.agg (SArg.cons (LArg.int .i64) (SArg.cons (LArg.row 82) (SArg.one (LArg.row 80))))) (Args.one (Arg.leaf (LArg.int .i64))))
def n10 : Int → V cxT.ty := fun t => (.inl (.inl (lv (.int .i64 t))))
def dd10 : Int := (0 : Int)
abbrev c10 (m : ((Int × (List (Int × (Int × (Int × (Int × Bool))))) × (List (Int × (Int × (Int × (List Int)))))) × Int) → Option Int) := fnT (cx := cxT) a10 n10 dd10 m
theorem hs10 : ∀ t, noRoV (n10 t) = true ∨ noOwnV (n10 t) = true := fun _ => .inl rfl
/-! loop.example/g00222/spec.FullUpdate -/
def a11 : Args cxT.ty (Int × (List (Int × (Int × (Int × (Int × Bool))))) × (List (Int × (Int × (Int × (List Int)))))) := (Args.one (Arg.agg (SArg.cons (LArg.int .i64) (SArg.cons (LArg.row 71) (SArg.one (LArg.row 75))))))
def n11 : (Int × Int × Int × Bool × Int × (List (Int × (Int × (Int × (Int × Bool))))) × (List (Int × (Int × (Int × (List Int))))) × (List (Int × (Int × (Int × (Int × (Int × Int))))))) → V cxT.ty := fun t => (.inl (.inr [(lv (.int .i64 t.1)), (lv (.int .i64 t.2.1)), (lv (.int .i64 t.2.2.1)), (lv (.bool t.2.2.2.1)), (lv (.int .i64 t.2.2.2.2.1)), (ls { own := 2, nm := 0, e := 71, o := true, xs := t.2.2.2.2.2.1 }), (ls { own := 2, nm := 0, e := 75, o := true, xs := t.2.2.2.2.2.2.1 }), (ls { own := 2, nm := 0, e := 99, o := true, xs := t.2.2.2.2.2.2.2 })]))
def dd11 : (Int × Int × Int × Bool × Int × (List (Int × (Int × (Int × (Int × Bool))))) × (List (Int × (Int × (Int × (List Int))))) × (List (Int × (Int × (Int × (Int × (Int × Int))))))) := ((0 : Int), (0 : Int), (0 : Int), false, (0 : Int), [], [], [])
abbrev c11 (m : (Int × (List (Int × (Int × (Int × (Int × Bool))))) × (List (Int × (Int × (Int × (List Int)))))) → Option (Int × Int × Int × Bool × Int × (List (Int × (Int × (Int × (Int × Bool))))) × (List (Int × (Int × (Int × (List Int))))) × (List (Int × (Int × (Int × (Int × (Int × Int)))))))) := fnT (cx := cxT) a11 n11 dd11 m
theorem hs11 : ∀ t, noRoV (n11 t) = true ∨ noOwnV (n11 t) = true := fun _ => .inl rfl
/-! loop.example/g00222/laws.toConfig -/
def a12 : Args cxT.ty (Int × (List (Int × (Int × (Int × (Int × Bool))))) × (List (Int × (Int × (Int × (List Int)))))) := (Args.one (Arg.agg (SArg.cons (LArg.int .i64) (SArg.cons (LArg.row 82) (SArg.one (LArg.row 80))))))
def n12 : (Int × (List (Int × (Int × (Int × (Int × Bool))))) × (List (Int × (Int × (Int × (List Int)))))) → V cxT.ty := fun t => (.inl (.inr [(lv (.int .i64 t.1)), (ls { own := 2, nm := 0, e := 71, o := true, xs := t.2.1 }), (ls { own := 2, nm := 0, e := 75, o := true, xs := t.2.2 })]))
def dd12 : (Int × (List (Int × (Int × (Int × (Int × Bool))))) × (List (Int × (Int × (Int × (List Int)))))) := ((0 : Int), [], [])
abbrev c12 (m : (Int × (List (Int × (Int × (Int × (Int × Bool))))) × (List (Int × (Int × (Int × (List Int)))))) → Option (Int × (List (Int × (Int × (Int × (Int × Bool))))) × (List (Int × (Int × (Int × (List Int))))))) := fnT (cx := cxT) a12 n12 dd12 m
theorem hs12 : ∀ t, noRoV (n12 t) = true ∨ noOwnV (n12 t) = true := fun _ => .inl rfl
/-! loop.example/g00222/impl.FullUpdate -/
def a13 : Args cxT.ty (Int × (List (Int × (Int × (Int × (Int × Bool))))) × (List (Int × (Int × (Int × (List Int)))))) := (Args.one (Arg.agg (SArg.cons (LArg.int .i64) (SArg.cons (LArg.row 71) (SArg.one (LArg.row 75))))))
def n13 : (Int × Int × Int × Bool × Int × (List (Int × (Int × (Int × (Int × Bool))))) × (List (Int × (Int × (Int × (List Int))))) × (List (Int × (Int × (Int × (Int × (Int × Int))))))) → V cxT.ty := fun t => (.inl (.inr [(lv (.int .i64 t.1)), (lv (.int .i64 t.2.1)), (lv (.int .i64 t.2.2.1)), (lv (.bool t.2.2.2.1)), (lv (.int .i64 t.2.2.2.2.1)), (ls { own := 2, nm := 0, e := 71, o := true, xs := t.2.2.2.2.2.1 }), (ls { own := 2, nm := 0, e := 75, o := true, xs := t.2.2.2.2.2.2.1 }), (ls { own := 2, nm := 0, e := 99, o := true, xs := t.2.2.2.2.2.2.2 })]))
def dd13 : (Int × Int × Int × Bool × Int × (List (Int × (Int × (Int × (Int × Bool))))) × (List (Int × (Int × (Int × (List Int))))) × (List (Int × (Int × (Int × (Int × (Int × Int))))))) := ((0 : Int), (0 : Int), (0 : Int), false, (0 : Int), [], [], [])
abbrev c13 (m : (Int × (List (Int × (Int × (Int × (Int × Bool))))) × (List (Int × (Int × (Int × (List Int)))))) → Option (Int × Int × Int × Bool × Int × (List (Int × (Int × (Int × (Int × Bool))))) × (List (Int × (Int × (Int × (List Int))))) × (List (Int × (Int × (Int × (Int × (Int × Int)))))))) := fnT (cx := cxT) a13 n13 dd13 m
theorem hs13 : ∀ t, noRoV (n13 t) = true ∨ noOwnV (n13 t) = true := fun _ => .inl rfl
/-! loop.example/g00222/laws.eqUpdateResult -/
def a14 : Args cxT.ty ((Int × Int × Int × Bool × Int × (List (Int × (Int × (Int × (Int × Bool))))) × (List (Int × (Int × (Int × (List Int))))) × (List (Int × (Int × (Int × (Int × (Int × Int))))))) × (Int × Int × Int × Bool × Int × (List (Int × (Int × (Int × (Int × Bool))))) × (List (Int × (Int × (Int × (List Int))))) × (List (Int × (Int × (Int × (Int × (Int × Int)))))))) := (Args.cons (Arg.agg (SArg.cons (LArg.int .i64) (SArg.cons (LArg.int .i64) (SArg.cons (LArg.int .i64) (SArg.cons LArg.bool (SArg.cons (LArg.int .i64) (SArg.cons (LArg.row 71) (SArg.cons (LArg.row 75) (SArg.one (LArg.row 99)))))))))) (Args.one (Arg.agg (SArg.cons (LArg.int .i64) (SArg.cons (LArg.int .i64) (SArg.cons (LArg.int .i64) (SArg.cons LArg.bool (SArg.cons (LArg.int .i64) (SArg.cons (LArg.row 71) (SArg.cons (LArg.row 75) (SArg.one (LArg.row 99))))))))))))
def n14 : Bool → V cxT.ty := fun t => (.inl (.inl (lv (.bool t))))
def dd14 : Bool := false
abbrev c14 (m : ((Int × Int × Int × Bool × Int × (List (Int × (Int × (Int × (Int × Bool))))) × (List (Int × (Int × (Int × (List Int))))) × (List (Int × (Int × (Int × (Int × (Int × Int))))))) × (Int × Int × Int × Bool × Int × (List (Int × (Int × (Int × (Int × Bool))))) × (List (Int × (Int × (Int × (List Int))))) × (List (Int × (Int × (Int × (Int × (Int × Int)))))))) → Option Bool) := fnT (cx := cxT) a14 n14 dd14 m
theorem hs14 : ∀ t, noRoV (n14 t) = true ∨ noOwnV (n14 t) = true := fun _ => .inl rfl
/-! loop.example/g00222/laws.eqConfig -/
def a15 : Args cxT.ty ((Int × (List (Int × (Int × (Int × (Int × Bool))))) × (List (Int × (Int × (Int × (List Int)))))) × (Int × (List (Int × (Int × (Int × (Int × Bool))))) × (List (Int × (Int × (Int × (List Int))))))) := (Args.cons (Arg.agg (SArg.cons (LArg.int .i64) (SArg.cons (LArg.row 71) (SArg.one (LArg.row 75))))) (Args.one (Arg.agg (SArg.cons (LArg.int .i64) (SArg.cons (LArg.row 71) (SArg.one (LArg.row 75)))))))
def n15 : Bool → V cxT.ty := fun t => (.inl (.inl (lv (.bool t))))
def dd15 : Bool := false
abbrev c15 (m : ((Int × (List (Int × (Int × (Int × (Int × Bool))))) × (List (Int × (Int × (Int × (List Int)))))) × (Int × (List (Int × (Int × (Int × (Int × Bool))))) × (List (Int × (Int × (Int × (List Int))))))) → Option Bool) := fnT (cx := cxT) a15 n15 dd15 m
theorem hs15 : ∀ t, noRoV (n15 t) = true ∨ noOwnV (n15 t) = true := fun _ => .inl rfl
/-! loop.example/g00222/laws.markConfig -/
def a16 : Args cxT.ty ((Int × (List (Int × (Int × (Int × (Int × Bool))))) × (List (Int × (Int × (Int × (List Int)))))) × Int) := (Args.cons (Arg.agg (SArg.cons (LArg.int .i64) (SArg.cons (LArg.own 71) (SArg.one (LArg.own 75))))) (Args.one (Arg.leaf (LArg.int .i64))))
def n16 : (Int × Int × (List (Int × (Int × (Int × (Int × Bool))))) × (List (Int × (Int × (Int × (List Int)))))) → List (A cxT.ty) := fun t => [(.inl (lv (.int .i64 t.1))), (.inr [(lv (.int .i64 t.2.1)), (ls { own := 2, nm := 0, e := 71, o := true, xs := t.2.2.1 }), (ls { own := 2, nm := 0, e := 75, o := true, xs := t.2.2.2 })])]
def dd16 : (Int × Int × (List (Int × (Int × (Int × (Int × Bool))))) × (List (Int × (Int × (Int × (List Int)))))) := ((0 : Int), (0 : Int), [], [])
abbrev c16 (m : ((Int × (List (Int × (Int × (Int × (Int × Bool))))) × (List (Int × (Int × (Int × (List Int)))))) × Int) → Option (Int × Int × (List (Int × (Int × (Int × (Int × Bool))))) × (List (Int × (Int × (Int × (List Int))))))) : WFn cxT := { nres := 1, n := 1, F := fnW (cx := cxT) a16 n16 dd16 m, p := 4 }
theorem hs16 : ∀ t, noRoV (.inr (.inl (n16 t)) : V cxT.ty) = true := fun _ => rfl
/-! loop.example/g00222/laws.markUpdateResult -/
def a17 : Args cxT.ty ((Int × Int × Int × Bool × Int × (List (Int × (Int × (Int × (Int × Bool))))) × (List (Int × (Int × (Int × (List Int))))) × (List (Int × (Int × (Int × (Int × (Int × Int))))))) × Int) := (Args.cons (Arg.agg (SArg.cons (LArg.int .i64) (SArg.cons (LArg.int .i64) (SArg.cons (LArg.int .i64) (SArg.cons LArg.bool (SArg.cons (LArg.int .i64) (SArg.cons (LArg.own 71) (SArg.cons (LArg.own 75) (SArg.one (LArg.own 99)))))))))) (Args.one (Arg.leaf (LArg.int .i64))))
def n17 : (Int × Int × Int × Int × Bool × Int × (List (Int × (Int × (Int × (Int × Bool))))) × (List (Int × (Int × (Int × (List Int))))) × (List (Int × (Int × (Int × (Int × (Int × Int))))))) → List (A cxT.ty) := fun t => [(.inl (lv (.int .i64 t.1))), (.inr [(lv (.int .i64 t.2.1)), (lv (.int .i64 t.2.2.1)), (lv (.int .i64 t.2.2.2.1)), (lv (.bool t.2.2.2.2.1)), (lv (.int .i64 t.2.2.2.2.2.1)), (ls { own := 2, nm := 0, e := 71, o := true, xs := t.2.2.2.2.2.2.1 }), (ls { own := 2, nm := 0, e := 75, o := true, xs := t.2.2.2.2.2.2.2.1 }), (ls { own := 2, nm := 0, e := 99, o := true, xs := t.2.2.2.2.2.2.2.2 })])]
def dd17 : (Int × Int × Int × Int × Bool × Int × (List (Int × (Int × (Int × (Int × Bool))))) × (List (Int × (Int × (Int × (List Int))))) × (List (Int × (Int × (Int × (Int × (Int × Int))))))) := ((0 : Int), (0 : Int), (0 : Int), (0 : Int), false, (0 : Int), [], [], [])
abbrev c17 (m : ((Int × Int × Int × Bool × Int × (List (Int × (Int × (Int × (Int × Bool))))) × (List (Int × (Int × (Int × (List Int))))) × (List (Int × (Int × (Int × (Int × (Int × Int))))))) × Int) → Option (Int × Int × Int × Int × Bool × Int × (List (Int × (Int × (Int × (Int × Bool))))) × (List (Int × (Int × (Int × (List Int))))) × (List (Int × (Int × (Int × (Int × (Int × Int)))))))) : WFn cxT := { nres := 1, n := 1, F := fnW (cx := cxT) a17 n17 dd17 m, p := 4 }
theorem hs17 : ∀ t, noRoV (.inr (.inl (n17 t)) : V cxT.ty) = true := fun _ => rfl
/-! loop.example/g00222/laws.heldUpdateResult -/
def a18 : Args cxT.ty ((Int × Int × Int × Bool × Int × (List (Int × (Int × (Int × (Int × Bool))))) × (List (Int × (Int × (Int × (List Int))))) × (List (Int × (Int × (Int × (Int × (Int × Int))))))) × Int) := (Args.cons (Arg.agg (SArg.cons (LArg.int .i64) (SArg.cons (LArg.int .i64) (SArg.cons (LArg.int .i64) (SArg.cons LArg.bool (SArg.cons (LArg.int .i64) (SArg.cons (LArg.row 71) (SArg.cons (LArg.row 75) (SArg.one (LArg.row 99)))))))))) (Args.one (Arg.leaf (LArg.int .i64))))
def n18 : Int → V cxT.ty := fun t => (.inl (.inl (lv (.int .i64 t))))
def dd18 : Int := (0 : Int)
abbrev c18 (m : ((Int × Int × Int × Bool × Int × (List (Int × (Int × (Int × (Int × Bool))))) × (List (Int × (Int × (Int × (List Int))))) × (List (Int × (Int × (Int × (Int × (Int × Int))))))) × Int) → Option Int) := fnT (cx := cxT) a18 n18 dd18 m
theorem hs18 : ∀ t, noRoV (n18 t) = true ∨ noOwnV (n18 t) = true := fun _ => .inl rfl
/-! loop.example/g00222/spec.l5Fault -/
def a19 : Args cxT.ty (Int × ((List (Int × (Int × (Int × (Int × Bool))))) × (List (Int × (Int × (Int × (List Int))))))) := (Args.one (Arg.leaf (LArg.ptr 33)))
def n19 : Int → V cxT.ty := fun t => (.inl (.inl (lv (.int .i64 t))))
def dd19 : Int := (0 : Int)
abbrev c19 (m : (Int × ((List (Int × (Int × (Int × (Int × Bool))))) × (List (Int × (Int × (Int × (List Int))))))) → Option Int) := fnT (cx := cxT) a19 n19 dd19 m
theorem hs19 : ∀ t, noRoV (n19 t) = true ∨ noOwnV (n19 t) = true := fun _ => .inl rfl
/-! loop.example/g00222/spec.l13Empty -/
/-! loop.example/g00222/impl.ConfigFault -/
def a21 : Args cxT.ty (Int × (List (Int × (Int × (Int × (Int × Bool))))) × (List (Int × (Int × (Int × (List Int)))))) := (Args.one (Arg.agg (SArg.cons (LArg.int .i64) (SArg.cons (LArg.row 71) (SArg.one (LArg.row 75))))))
def n21 : Int → V cxT.ty := fun t => (.inl (.inl (lv (.int .i64 t))))
def dd21 : Int := (0 : Int)
abbrev c21 (m : (Int × (List (Int × (Int × (Int × (Int × Bool))))) × (List (Int × (Int × (Int × (List Int)))))) → Option Int) := fnT (cx := cxT) a21 n21 dd21 m
theorem hs21 : ∀ t, noRoV (n21 t) = true ∨ noOwnV (n21 t) = true := fun _ => .inl rfl
/-! loop.example/g00222/impl.isNothing -/
/-! loop.example/g00222/laws.szBackendS -/
def a23 : Args cxT.ty ((List (Int × (Int × (Int × (Int × Bool))))) × Int) := (Args.cons (Arg.leaf (LArg.row 82)) (Args.one (Arg.leaf (LArg.int .i64))))
def n23 : Int → V cxT.ty := fun t => (.inl (.inl (lv (.int .i64 t))))
def dd23 : Int := (0 : Int)
abbrev c23 (m : ((List (Int × (Int × (Int × (Int × Bool))))) × Int) → Option Int) := fnT (cx := cxT) a23 n23 dd23 m
theorem hs23 : ∀ t, noRoV (n23 t) = true ∨ noOwnV (n23 t) = true := fun _ => .inl rfl
/-! loop.example/g00222/laws.szVipS -/
def a24 : Args cxT.ty ((List (Int × (Int × (Int × (List Int))))) × Int) := (Args.cons (Arg.leaf (LArg.row 80)) (Args.one (Arg.leaf (LArg.int .i64))))
def n24 : Int → V cxT.ty := fun t => (.inl (.inl (lv (.int .i64 t))))
def dd24 : Int := (0 : Int)
abbrev c24 (m : ((List (Int × (Int × (Int × (List Int))))) × Int) → Option Int) := fnT (cx := cxT) a24 n24 dd24 m
theorem hs24 : ∀ t, noRoV (n24 t) = true ∨ noOwnV (n24 t) = true := fun _ => .inl rfl
/-! loop.example/g00222/spec.l5Copy -/
def a25 : Args cxT.ty (Int × (List (Int × (Int × (Int × (Int × Bool))))) × (List (Int × (Int × (Int × (List Int)))))) := (Args.one (Arg.agg (SArg.cons (LArg.int .i64) (SArg.cons (LArg.row 71) (SArg.one (LArg.row 75))))))
def n25 : (Int × (List (Int × (Int × (Int × (Int × Bool))))) × (List (Int × (Int × (Int × (List Int)))))) → V cxT.ty := fun t => (.inl (.inr [(lv (.int .i64 t.1)), (ls { own := 2, nm := 0, e := 71, o := true, xs := t.2.1 }), (ls { own := 2, nm := 0, e := 75, o := true, xs := t.2.2 })]))
def dd25 : (Int × (List (Int × (Int × (Int × (Int × Bool))))) × (List (Int × (Int × (Int × (List Int)))))) := ((0 : Int), [], [])
abbrev c25 (m : (Int × (List (Int × (Int × (Int × (Int × Bool))))) × (List (Int × (Int × (Int × (List Int)))))) → Option (Int × (List (Int × (Int × (Int × (Int × Bool))))) × (List (Int × (Int × (Int × (List Int))))))) := fnT (cx := cxT) a25 n25 dd25 m
theorem hs25 : ∀ t, noRoV (n25 t) = true ∨ noOwnV (n25 t) = true := fun _ => .inl rfl
/-! loop.example/g00222/laws.toBackendS -/
def a26 : Args cxT.ty (List (Int × (Int × (Int × (Int × Bool))))) := (Args.one (Arg.leaf (LArg.row 82)))
def n26 : (List (Int × (Int × (Int × (Int × Bool))))) → V cxT.ty := fun t => (.inl (.inl (ls { own := 2, nm := 0, e := 71, o := true, xs := t })))
def dd26 : (List (Int × (Int × (Int × (Int × Bool))))) := []
abbrev c26 (m : (List (Int × (Int × (Int × (Int × Bool))))) → Option (List (Int × (Int × (Int × (Int × Bool)))))) := fnT (cx := cxT) a26 n26 dd26 m
theorem hs26 : ∀ t, noRoV (n26 t) = true ∨ noOwnV (n26 t) = true := fun _ => .inl rfl
/-! loop.example/g00222/laws.toVipS -/
def a27 : Args cxT.ty (List (Int × (Int × (Int × (List Int))))) := (Args.one (Arg.leaf (LArg.row 80)))
def n27 : (List (Int × (Int × (Int × (List Int))))) → V cxT.ty := fun t => (.inl (.inl (ls { own := 2, nm := 0, e := 75, o := true, xs := t })))
def dd27 : (List (Int × (Int × (Int × (List Int))))) := []
abbrev c27 (m : (List (Int × (Int × (Int × (List Int))))) → Option (List (Int × (Int × (Int × (List Int)))))) := fnT (cx := cxT) a27 n27 dd27 m
theorem hs27 : ∀ t, noRoV (n27 t) = true ∨ noOwnV (n27 t) = true := fun _ => .inl rfl
/-! loop.example/g00222/impl.newConfig -/
def a28 : Args cxT.ty (Int × (List (Int × (Int × (Int × (Int × Bool))))) × (List (Int × (Int × (Int × (List Int)))))) := (Args.one (Arg.agg (SArg.cons (LArg.int .i64) (SArg.cons (LArg.row 71) (SArg.one (LArg.row 75))))))
def n28 : (Int × (List (Int × (Int × (Int × (Int × Bool))))) × (List (Int × (Int × (Int × (List Int)))))) → V cxT.ty := fun t => (.inl (.inr [(lv (.int .i64 t.1)), (ls { own := 2, nm := 0, e := 71, o := true, xs := t.2.1 }), (ls { own := 2, nm := 0, e := 75, o := true, xs := t.2.2 })]))
def dd28 : (Int × (List (Int × (Int × (Int × (Int × Bool))))) × (List (Int × (Int × (Int × (List Int)))))) := ((0 : Int), [], [])
abbrev c28 (m : (Int × (List (Int × (Int × (Int × (Int × Bool))))) × (List (Int × (Int × (Int × (List Int)))))) → Option (Int × (List (Int × (Int × (Int × (Int × Bool))))) × (List (Int × (Int × (Int × (List Int))))))) := fnT (cx := cxT) a28 n28 dd28 m
theorem hs28 : ∀ t, noRoV (n28 t) = true ∨ noOwnV (n28 t) = true := fun _ => .inl rfl
/-! loop.example/g00222/laws.eqUpdate -/
def a29 : Args cxT.ty ((Int × Int × Bool × Int × (List (Int × (Int × (Int × (Int × Bool))))) × (List (Int × (Int × (Int × (List Int))))) × (List (Int × (Int × (Int × (Int × (Int × Int))))))) × (Int × Int × Bool × Int × (List (Int × (Int × (Int × (Int × Bool))))) × (List (Int × (Int × (Int × (List Int))))) × (List (Int × (Int × (Int × (Int × (Int × Int)))))))) := (Args.cons (Arg.agg (SArg.cons (LArg.int .i64) (SArg.cons (LArg.int .i64) (SArg.cons LArg.bool (SArg.cons (LArg.int .i64) (SArg.cons (LArg.row 71) (SArg.cons (LArg.row 75) (SArg.one (LArg.row 99))))))))) (Args.one (Arg.agg (SArg.cons (LArg.int .i64) (SArg.cons (LArg.int .i64) (SArg.cons LArg.bool (SArg.cons (LArg.int .i64) (SArg.cons (LArg.row 71) (SArg.cons (LArg.row 75) (SArg.one (LArg.row 99)))))))))))
def n29 : Bool → V cxT.ty := fun t => (.inl (.inl (lv (.bool t))))
def dd29 : Bool := false
abbrev c29 (m : ((Int × Int × Bool × Int × (List (Int × (Int × (Int × (Int × Bool))))) × (List (Int × (Int × (Int × (List Int))))) × (List (Int × (Int × (Int × (Int × (Int × Int))))))) × (Int × Int × Bool × Int × (List (Int × (Int × (Int × (Int × Bool))))) × (List (Int × (Int × (Int × (List Int))))) × (List (Int × (Int × (Int × (Int × (Int × Int)))))))) → Option Bool) := fnT (cx := cxT) a29 n29 dd29 m
theorem hs29 : ∀ t, noRoV (n29 t) = true ∨ noOwnV (n29 t) = true := fun _ => .inl rfl
/-! loop.example/g00222/laws.eqBackendS -/
def a30 : Args cxT.ty ((List (Int × (Int × (Int × (Int × Bool))))) × (List (Int × (Int × (Int × (Int × Bool)))))) := (Args.cons (Arg.leaf (LArg.row 71)) (Args.one (Arg.leaf (LArg.row 71))))
def n30 : Bool → V cxT.ty := fun t => (.inl (.inl (lv (.bool t))))
def dd30 : Bool := false
abbrev c30 (m : ((List (Int × (Int × (Int × (Int × Bool))))) × (List (Int × (Int × (Int × (Int × Bool)))))) → Option Bool) := fnT (cx := cxT) a30 n30 dd30 m
theorem hs30 : ∀ t, noRoV (n30 t) = true ∨ noOwnV (n30 t) = true := fun _ => .inl rfl
/-! loop.example/g00222/laws.eqVipS -/
def a31 : Args cxT.ty ((List (Int × (Int × (Int × (List Int))))) × (List (Int × (Int × (Int × (List Int)))))) := (Args.cons (Arg.leaf (LArg.row 75)) (Args.one (Arg.leaf (LArg.row 75))))
def n31 : Bool → V cxT.ty := fun t => (.inl (.inl (lv (.bool t))))
def dd31 : Bool := false
abbrev c31 (m : ((List (Int × (Int × (Int × (List Int))))) × (List (Int × (Int × (Int × (List Int)))))) → Option Bool) := fnT (cx := cxT) a31 n31 dd31 m
theorem hs31 : ∀ t, noRoV (n31 t) = true ∨ noOwnV (n31 t) = true := fun _ => .inl rfl
/-! loop.example/g00222/laws.markBackendS -/
def a32 : Args cxT.ty ((List (Int × (Int × (Int × (Int × Bool))))) × Int) := (Args.cons (Arg.leaf (LArg.own 71)) (Args.one (Arg.leaf (LArg.int .i64))))
def n32 : (Int × (List (Int × (Int × (Int × (Int × Bool)))))) → List (A cxT.ty) := fun t => [(.inl (lv (.int .i64 t.1))), (.inl (ls { own := 2, nm := 0, e := 71, o := true, xs := t.2 }))]
def dd32 : (Int × (List (Int × (Int × (Int × (Int × Bool)))))) := ((0 : Int), [])
abbrev c32 (m : ((List (Int × (Int × (Int × (Int × Bool))))) × Int) → Option (Int × (List (Int × (Int × (Int × (Int × Bool))))))) : WFn cxT := { nres := 1, n := 1, F := fnW (cx := cxT) a32 n32 dd32 m }
theorem hs32 : ∀ t, noRoV (.inr (.inl (n32 t)) : V cxT.ty) = true := fun _ => rfl
/-! loop.example/g00222/laws.markVipS -/
def a33 : Args cxT.ty ((List (Int × (Int × (Int × (List Int))))) × Int) := (Args.cons (Arg.leaf (LArg.own 75)) (Args.one (Arg.leaf (LArg.int .i64))))
def n33 : (Int × (List (Int × (Int × (Int × (List Int)))))) → List (A cxT.ty) := fun t => [(.inl (lv (.int .i64 t.1))), (.inl (ls { own := 2, nm := 0, e := 75, o := true, xs := t.2 }))]
def dd33 : (Int × (List (Int × (Int × (Int × (List Int)))))) := ((0 : Int), [])
abbrev c33 (m : ((List (Int × (Int × (Int × (List Int))))) × Int) → Option (Int × (List (Int × (Int × (Int × (List Int))))))) : WFn cxT := { nres := 1, n := 1, F := fnW (cx := cxT) a33 n33 dd33 m, p := 4 }
theorem hs33 : ∀ t, noRoV (.inr (.inl (n33 t)) : V cxT.ty) = true := fun _ => rfl
/-! loop.example/g00222/laws.markUpdate -/
def a34 : Args cxT.ty ((Int × Int × Bool × Int × (List (Int × (Int × (Int × (Int × Bool))))) × (List (Int × (Int × (Int × (List Int))))) × (List (Int × (Int × (Int × (Int × (Int × Int))))))) × Int) := (Args.cons (Arg.agg (SArg.cons (LArg.int .i64) (SArg.cons (LArg.int .i64) (SArg.cons LArg.bool (SArg.cons (LArg.int .i64) (SArg.cons (LArg.own 71) (SArg.cons (LArg.own 75) (SArg.one (LArg.own 99))))))))) (Args.one (Arg.leaf (LArg.int .i64))))
def n34 : (Int × Int × Int × Bool × Int × (List (Int × (Int × (Int × (Int × Bool))))) × (List (Int × (Int × (Int × (List Int))))) × (List (Int × (Int × (Int × (Int × (Int × Int))))))) → List (A cxT.ty) := fun t => [(.inl (lv (.int .i64 t.1))), (.inr [(lv (.int .i64 t.2.1)), (lv (.int .i64 t.2.2.1)), (lv (.bool t.2.2.2.1)), (lv (.int .i64 t.2.2.2.2.1)), (ls { own := 2, nm := 0, e := 71, o := true, xs := t.2.2.2.2.2.1 }), (ls { own := 2, nm := 0, e := 75, o := true, xs := t.2.2.2.2.2.2.1 }), (ls { own := 2, nm := 0, e := 99, o := true, xs := t.2.2.2.2.2.2.2 })])]
def dd34 : (Int × Int × Int × Bool × Int × (List (Int × (Int × (Int × (Int × Bool))))) × (List (Int × (Int × (Int × (List Int))))) × (List (Int × (Int × (Int × (Int × (Int × Int))))))) := ((0 : Int), (0 : Int), (0 : Int), false, (0 : Int), [], [], [])
abbrev c34 (m : ((Int × Int × Bool × Int × (List (Int × (Int × (Int × (Int × Bool))))) × (List (Int × (Int × (Int × (List Int))))) × (List (Int × (Int × (Int × (Int × (Int × Int))))))) × Int) → Option (Int × Int × Int × Bool × Int × (List (Int × (Int × (Int × (Int × Bool))))) × (List (Int × (Int × (Int × (List Int))))) × (List (Int × (Int × (Int × (Int × (Int × Int)))))))) : WFn cxT := { nres := 1, n := 1, F := fnW (cx := cxT) a34 n34 dd34 m, p := 4 }
theorem hs34 : ∀ t, noRoV (.inr (.inl (n34 t)) : V cxT.ty) = true := fun _ => rfl
/-! loop.example/g00222/laws.heldUpdate -/
def a35 : Args cxT.ty ((Int × Int × Bool × Int × (List (Int × (Int × (Int × (Int × Bool))))) × (List (Int × (Int × (Int × (List Int))))) × (List (Int × (Int × (Int × (Int × (Int × Int))))))) × Int) := (Args.cons (Arg.agg (SArg.cons (LArg.int .i64) (SArg.cons (LArg.int .i64) (SArg.cons LArg.bool (SArg.cons (LArg.int .i64) (SArg.cons (LArg.row 71) (SArg.cons (LArg.row 75) (SArg.one (LArg.row 99))))))))) (Args.one (Arg.leaf (LArg.int .i64))))
def n35 : Int → V cxT.ty := fun t => (.inl (.inl (lv (.int .i64 t))))
def dd35 : Int := (0 : Int)
abbrev c35 (m : ((Int × Int × Bool × Int × (List (Int × (Int × (Int × (Int × Bool))))) × (List (Int × (Int × (Int × (List Int))))) × (List (Int × (Int × (Int × (Int × (Int × Int))))))) × Int) → Option Int) := fnT (cx := cxT) a35 n35 dd35 m
theorem hs35 : ∀ t, noRoV (n35 t) = true ∨ noOwnV (n35 t) = true := fun _ => .inl rfl
/-! loop.example/g00222/spec.l5Version -/
def a36 : Args cxT.ty Int := (Args.one (Arg.leaf (LArg.int .i64)))
def n36 : Bool → V cxT.ty := fun t => (.inl (.inl (lv (.bool t))))
def dd36 : Bool := false
abbrev c36 (m : Int → Option Bool) := fnT (cx := cxT) a36 n36 dd36 m
theorem hs36 : ∀ t, noRoV (n36 t) = true ∨ noOwnV (n36 t) = true := fun _ => .inl rfl
/-! loop.example/g00222/spec.l5Backend -/
def a37 : Args cxT.ty (Int × Int × Int × Int × Bool) := (Args.one (Arg.agg (SArg.cons (LArg.int .i64) (SArg.cons (LArg.int .i64) (SArg.cons (LArg.int .i64) (SArg.cons (LArg.int .i64) (SArg.one LArg.bool)))))))
def n37 : Bool → V cxT.ty := fun t => (.inl (.inl (lv (.bool t))))
def dd37 : Bool := false
abbrev c37 (m : (Int × Int × Int × Int × Bool) → Option Bool) := fnT (cx := cxT) a37 n37 dd37 m
theorem hs37 : ∀ t, noRoV (n37 t) = true ∨ noOwnV (n37 t) = true := fun _ => .inl rfl
/-! loop.example/g00222/spec.l5Vip -/
def a38 : Args cxT.ty ((Int × ((List (Int × (Int × (Int × (Int × Bool))))) × (List (Int × (Int × (Int × (List Int))))))) × Int) := (Args.cons (Arg.leaf (LArg.ptr 33)) (Args.one (Arg.leaf (LArg.int .i64))))
def n38 : Int → V cxT.ty := fun t => (.inl (.inl (lv (.int .i64 t))))
def dd38 : Int := (0 : Int)
abbrev c38 (m : ((Int × ((List (Int × (Int × (Int × (Int × Bool))))) × (List (Int × (Int × (Int × (List Int))))))) × Int) → Option Int) := fnT (cx := cxT) a38 n38 dd38 m
theorem hs38 : ∀ t, noRoV (n38 t) = true ∨ noOwnV (n38 t) = true := fun _ => .inl rfl
/-! loop.example/g00222/impl.isVersion -/
def a39 : Args cxT.ty Int := (Args.one (Arg.leaf (LArg.int .i64)))
def n39 : Bool → V cxT.ty := fun t => (.inl (.inl (lv (.bool t))))
def dd39 : Bool := false
abbrev c39 (m : Int → Option Bool) := fnT (cx := cxT) a39 n39 dd39 m
theorem hs39 : ∀ t, noRoV (n39 t) = true ∨ noOwnV (n39 t) = true := fun _ => .inl rfl
/-! loop.example/g00222/impl.isBackend -/
def a40 : Args cxT.ty (Int × Int × Int × Int × Bool) := (Args.one (Arg.agg (SArg.cons (LArg.int .i64) (SArg.cons (LArg.int .i64) (SArg.cons (LArg.int .i64) (SArg.cons (LArg.int .i64) (SArg.one LArg.bool)))))))
def n40 : Bool → V cxT.ty := fun t => (.inl (.inl (lv (.bool t))))
def dd40 : Bool := false
abbrev c40 (m : (Int × Int × Int × Int × Bool) → Option Bool) := fnT (cx := cxT) a40 n40 dd40 m
theorem hs40 : ∀ t, noRoV (n40 t) = true ∨ noOwnV (n40 t) = true := fun _ => .inl rfl
/-! loop.example/g00222/impl.isServed -/
def a41 : Args cxT.ty (Int × Int × Int × (List Int)) := (Args.one (Arg.agg (SArg.cons (LArg.int .i64) (SArg.cons (LArg.int .i64) (SArg.cons (LArg.int .i64) (SArg.one (LArg.row 2)))))))
def n41 : Bool → V cxT.ty := fun t => (.inl (.inl (lv (.bool t))))
def dd41 : Bool := false
abbrev c41 (m : (Int × Int × Int × (List Int)) → Option Bool) := fnT (cx := cxT) a41 n41 dd41 m
theorem hs41 : ∀ t, noRoV (n41 t) = true ∨ noOwnV (n41 t) = true := fun _ => .inl rfl
/-! loop.example/g00222/impl.compareVips -/
def a42 : Args cxT.ty ((Int × Int × Int × (List Int)) × (Int × Int × Int × (List Int))) := (Args.cons (Arg.agg (SArg.cons (LArg.int .i64) (SArg.cons (LArg.int .i64) (SArg.cons (LArg.int .i64) (SArg.one (LArg.row 2)))))) (Args.one (Arg.agg (SArg.cons (LArg.int .i64) (SArg.cons (LArg.int .i64) (SArg.cons (LArg.int .i64) (SArg.one (LArg.row 2))))))))
def n42 : Int → V cxT.ty := fun t => (.inl (.inl (lv (.int .i64 t))))
def dd42 : Int := (0 : Int)
abbrev c42 (m : ((Int × Int × Int × (List Int)) × (Int × Int × Int × (List Int))) → Option Int) := fnT (cx := cxT) a42 n42 dd42 m
theorem hs42 : ∀ t, noRoV (n42 t) = true ∨ noOwnV (n42 t) = true := fun _ => .inl rfl
/-! loop.example/g00222/impl.namesFault -/
def a43 : Args cxT.ty ((List Int) × (List (Int × (Int × (Int × (Int × Bool)))))) := (Args.cons (Arg.leaf (LArg.row 2)) (Args.one (Arg.leaf (LArg.row 71))))
def n43 : Int → V cxT.ty := fun t => (.inl (.inl (lv (.int .i64 t))))
def dd43 : Int := (0 : Int)
abbrev c43 (m : ((List Int) × (List (Int × (Int × (Int × (Int × Bool)))))) → Option Int) := fnT (cx := cxT) a43 n43 dd43 m
theorem hs43 : ∀ t, noRoV (n43 t) = true ∨ noOwnV (n43 t) = true := fun _ => .inl rfl
/-! loop.example/g00222/impl.SameConfigs -/
/-! loop.example/g00222/laws.szVip -/
def a45 : Args cxT.ty ((Int × Int × Int × (List Int)) × Int) := (Args.cons (Arg.agg (SArg.cons (LArg.int .i64) (SArg.cons (LArg.int .i64) (SArg.cons (LArg.int .i64) (SArg.one (LArg.row 2)))))) (Args.one (Arg.leaf (LArg.int .i64))))
def n45 : Int → V cxT.ty := fun t => (.inl (.inl (lv (.int .i64 t))))
def dd45 : Int := (0 : Int)
abbrev c45 (m : ((Int × Int × Int × (List Int)) × Int) → Option Int) := fnT (cx := cxT) a45 n45 dd45 m
theorem hs45 : ∀ t, noRoV (n45 t) = true ∨ noOwnV (n45 t) = true := fun _ => .inl rfl
/-! loop.example/g00222/laws.toBackend -/
def a46 : Args cxT.ty (Int × Int × Int × Int × Bool) := (Args.one (Arg.agg (SArg.cons (LArg.int .i64) (SArg.cons (LArg.int .i64) (SArg.cons (LArg.int .i64) (SArg.cons (LArg.int .i64) (SArg.one LArg.bool)))))))
def n46 : (Int × Int × Int × Int × Bool) → V cxT.ty := fun t => (.inl (.inr [(lv (.int .i64 t.1)), (lv (.int .i64 t.2.1)), (lv (.int .i64 t.2.2.1)), (lv (.int .i64 t.2.2.2.1)), (lv (.bool t.2.2.2.2))]))
def dd46 : (Int × Int × Int × Int × Bool) := ((0 : Int), (0 : Int), (0 : Int), (0 : Int), false)
abbrev c46 (m : (Int × Int × Int × Int × Bool) → Option (Int × Int × Int × Int × Bool)) := fnT (cx := cxT) a46 n46 dd46 m
theorem hs46 : ∀ t, noRoV (n46 t) = true ∨ noOwnV (n46 t) = true := fun _ => .inl rfl
/-! loop.example/g00222/laws.toVip -/
def a47 : Args cxT.ty (Int × Int × Int × (List Int)) := (Args.one (Arg.agg (SArg.cons (LArg.int .i64) (SArg.cons (LArg.int .i64) (SArg.cons (LArg.int .i64) (SArg.one (LArg.row 2)))))))
def n47 : (Int × Int × Int × (List Int)) → V cxT.ty := fun t => (.inl (.inr [(lv (.int .i64 t.1)), (lv (.int .i64 t.2.1)), (lv (.int .i64 t.2.2.1)), (ls { own := 2, nm := 0, e := 2, o := true, xs := t.2.2.2 })]))
def dd47 : (Int × Int × Int × (List Int)) := ((0 : Int), (0 : Int), (0 : Int), [])
abbrev c47 (m : (Int × Int × Int × (List Int)) → Option (Int × Int × Int × (List Int))) := fnT (cx := cxT) a47 n47 dd47 m
theorem hs47 : ∀ t, noRoV (n47 t) = true ∨ noOwnV (n47 t) = true := fun _ => .inl rfl
/-! loop.example/g00222/laws.eqCmdS -/
def a48 : Args cxT.ty ((List (Int × (Int × (Int × (Int × (Int × Int)))))) × (List (Int × (Int × (Int × (Int × (Int × Int))))))) := (Args.cons (Arg.leaf (LArg.row 99)) (Args.one (Arg.leaf (LArg.row 99))))
def n48 : Bool → V cxT.ty := fun t => (.inl (.inl (lv (.bool t))))
def dd48 : Bool := false
abbrev c48 (m : ((List (Int × (Int × (Int × (Int × (Int × Int)))))) × (List (Int × (Int × (Int × (Int × (Int × Int))))))) → Option Bool) := fnT (cx := cxT) a48 n48 dd48 m
theorem hs48 : ∀ t, noRoV (n48 t) = true ∨ noOwnV (n48 t) = true := fun _ => .inl rfl
/-! loop.example/g00222/laws.eqBackend -/
def a49 : Args cxT.ty ((Int × Int × Int × Int × Bool) × (Int × Int × Int × Int × Bool)) := (Args.cons (Arg.agg (SArg.cons (LArg.int .i64) (SArg.cons (LArg.int .i64) (SArg.cons (LArg.int .i64) (SArg.cons (LArg.int .i64) (SArg.one LArg.bool)))))) (Args.one (Arg.agg (SArg.cons (LArg.int .i64) (SArg.cons (LArg.int .i64) (SArg.cons (LArg.int .i64) (SArg.cons (LArg.int .i64) (SArg.one LArg.bool))))))))
def n49 : Bool → V cxT.ty := fun t => (.inl (.inl (lv (.bool t))))
def dd49 : Bool := false
abbrev c49 (m : ((Int × Int × Int × Int × Bool) × (Int × Int × Int × Int × Bool)) → Option Bool) := fnT (cx := cxT) a49 n49 dd49 m
theorem hs49 : ∀ t, noRoV (n49 t) = true ∨ noOwnV (n49 t) = true := fun _ => .inl rfl
/-! loop.example/g00222/laws.eqVip -/
def a50 : Args cxT.ty ((Int × Int × Int × (List Int)) × (Int × Int × Int × (List Int))) := (Args.cons (Arg.agg (SArg.cons (LArg.int .i64) (SArg.cons (LArg.int .i64) (SArg.cons (LArg.int .i64) (SArg.one (LArg.row 2)))))) (Args.one (Arg.agg (SArg.cons (LArg.int .i64) (SArg.cons (LArg.int .i64) (SArg.cons (LArg.int .i64) (SArg.one (LArg.row 2))))))))
def n50 : Bool → V cxT.ty := fun t => (.inl (.inl (lv (.bool t))))
def dd50 : Bool := false
abbrev c50 (m : ((Int × Int × Int × (List Int)) × (Int × Int × Int × (List Int))) → Option Bool) := fnT (cx := cxT) a50 n50 dd50 m
theorem hs50 : ∀ t, noRoV (n50 t) = true ∨ noOwnV (n50 t) = true := fun _ => .inl rfl
/-! loop.example/g00222/laws.markInt64S -/
def a51 : Args cxT.ty ((List Int) × Int) := (Args.cons (Arg.leaf (LArg.own 2)) (Args.one (Arg.leaf (LArg.int .i64))))
def n51 : (Int × (List Int)) → List (A cxT.ty) := fun t => [(.inl (lv (.int .i64 t.1))), (.inl (ls { own := 2, nm := 0, e := 2, o := true, xs := t.2 }))]
def dd51 : (Int × (List Int)) := ((0 : Int), [])
abbrev c51 (m : ((List Int) × Int) → Option (Int × (List Int))) : WFn cxT := { nres := 1, n := 1, F := fnW (cx := cxT) a51 n51 dd51 m }
theorem hs51 : ∀ t, noRoV (.inr (.inl (n51 t)) : V cxT.ty) = true := fun _ => rfl
/-! loop.example/g00222/laws.markCmdS -/
def a52 : Args cxT.ty ((List (Int × (Int × (Int × (Int × (Int × Int)))))) × Int) := (Args.cons (Arg.leaf (LArg.own 99)) (Args.one (Arg.leaf (LArg.int .i64))))
def n52 : (Int × (List (Int × (Int × (Int × (Int × (Int × Int))))))) → List (A cxT.ty) := fun t => [(.inl (lv (.int .i64 t.1))), (.inl (ls { own := 2, nm := 0, e := 99, o := true, xs := t.2 }))]
def dd52 : (Int × (List (Int × (Int × (Int × (Int × (Int × Int))))))) := ((0 : Int), [])
abbrev c52 (m : ((List (Int × (Int × (Int × (Int × (Int × Int)))))) × Int) → Option (Int × (List (Int × (Int × (Int × (Int × (Int × Int)))))))) : WFn cxT := { nres := 1, n := 1, F := fnW (cx := cxT) a52 n52 dd52 m }
theorem hs52 : ∀ t, noRoV (.inr (.inl (n52 t)) : V cxT.ty) = true := fun _ => rfl
/-! loop.example/g00222/laws.heldConfig -/
def a53 : Args cxT.ty ((Int × (List (Int × (Int × (Int × (Int × Bool))))) × (List (Int × (Int × (Int × (List Int)))))) × Int) := (Args.cons (Arg.agg (SArg.cons (LArg.int .i64) (SArg.cons (LArg.row 71) (SArg.one (LArg.row 75))))) (Args.one (Arg.leaf (LArg.int .i64))))
def n53 : Int → V cxT.ty := fun t => (.inl (.inl (lv (.int .i64 t))))
def dd53 : Int := (0 : Int)
abbrev c53 (m : ((Int × (List (Int × (Int × (Int × (Int × Bool))))) × (List (Int × (Int × (Int × (List Int)))))) × Int) → Option Int) := fnT (cx := cxT) a53 n53 dd53 m
theorem hs53 : ∀ t, noRoV (n53 t) = true ∨ noOwnV (n53 t) = true := fun _ => .inl rfl
/-! loop.example/g00222/laws.heldCmdS -/
def a54 : Args cxT.ty ((List (Int × (Int × (Int × (Int × (Int × Int)))))) × Int) := (Args.cons (Arg.leaf (LArg.row 99)) (Args.one (Arg.leaf (LArg.int .i64))))
def n54 : Int → V cxT.ty := fun t => (.inl (.inl (lv (.int .i64 t))))
def dd54 : Int := (0 : Int)
abbrev c54 (m : ((List (Int × (Int × (Int × (Int × (Int × Int)))))) × Int) → Option Int) := fnT (cx := cxT) a54 n54 dd54 m
theorem hs54 : ∀ t, noRoV (n54 t) = true ∨ noOwnV (n54 t) = true := fun _ => .inl rfl
/-! loop.example/g00222/spec.l1In -/
def a55 : Args cxT.ty (Int × Int × Int) := (Args.cons (Arg.leaf (LArg.int .i64)) (Args.cons (Arg.leaf (LArg.int .i64)) (Args.one (Arg.leaf (LArg.int .i64)))))
def n55 : Bool → V cxT.ty := fun t => (.inl (.inl (lv (.bool t))))
def dd55 : Bool := false
abbrev c55 (m : (Int × Int × Int) → Option Bool) := fnT (cx := cxT) a55 n55 dd55 m
theorem hs55 : ∀ t, noRoV (n55 t) = true ∨ noOwnV (n55 t) = true := fun _ => .inl rfl
/-! loop.example/g00222/spec.l3Name -/
def a56 : Args cxT.ty Int := (Args.one (Arg.leaf (LArg.int .i64)))
def n56 : Bool → V cxT.ty := fun t => (.inl (.inl (lv (.bool t))))
def dd56 : Bool := false
abbrev c56 (m : Int → Option Bool) := fnT (cx := cxT) a56 n56 dd56 m
theorem hs56 : ∀ t, noRoV (n56 t) = true ∨ noOwnV (n56 t) = true := fun _ => .inl rfl
/-! loop.example/g00222/spec.l2Address -/
def a57 : Args cxT.ty Int := (Args.one (Arg.leaf (LArg.int .i64)))
def n57 : Bool → V cxT.ty := fun t => (.inl (.inl (lv (.bool t))))
def dd57 : Bool := false
abbrev c57 (m : Int → Option Bool) := fnT (cx := cxT) a57 n57 dd57 m
theorem hs57 : ∀ t, noRoV (n57 t) = true ∨ noOwnV (n57 t) = true := fun _ => .inl rfl
/-! loop.example/g00222/spec.l2Port -/
def a58 : Args cxT.ty Int := (Args.one (Arg.leaf (LArg.int .i64)))
def n58 : Bool → V cxT.ty := fun t => (.inl (.inl (lv (.bool t))))
def dd58 : Bool := false
abbrev c58 (m : Int → Option Bool) := fnT (cx := cxT) a58 n58 dd58 m
theorem hs58 : ∀ t, noRoV (n58 t) = true ∨ noOwnV (n58 t) = true := fun _ => .inl rfl
/-! loop.example/g00222/spec.l5Proto -/
def a59 : Args cxT.ty Int := (Args.one (Arg.leaf (LArg.int .i64)))
def n59 : Bool → V cxT.ty := fun t => (.inl (.inl (lv (.bool t))))
def dd59 : Bool := false
abbrev c59 (m : Int → Option Bool) := fnT (cx := cxT) a59 n59 dd59 m
theorem hs59 : ∀ t, noRoV (n59 t) = true ∨ noOwnV (n59 t) = true := fun _ => .inl rfl
/-! loop.example/g00222/spec.l5Behind -/
def a60 : Args cxT.ty ((Int × Int × Int × (List Int)) × (Int × Int × Int × (List Int))) := (Args.cons (Arg.agg (SArg.cons (LArg.int .i64) (SArg.cons (LArg.int .i64) (SArg.cons (LArg.int .i64) (SArg.one (LArg.row 2)))))) (Args.one (Arg.agg (SArg.cons (LArg.int .i64) (SArg.cons (LArg.int .i64) (SArg.cons (LArg.int .i64) (SArg.one (LArg.row 2))))))))
def n60 : Bool → V cxT.ty := fun t => (.inl (.inl (lv (.bool t))))
def dd60 : Bool := false
abbrev c60 (m : ((Int × Int × Int × (List Int)) × (Int × Int × Int × (List Int))) → Option Bool) := fnT (cx := cxT) a60 n60 dd60 m
theorem hs60 : ∀ t, noRoV (n60 t) = true ∨ noOwnV (n60 t) = true := fun _ => .inl rfl
/-! loop.example/g00222/spec.l5At -/
def a61 : Args cxT.ty ((Int × ((List (Int × (Int × (Int × (Int × Bool))))) × (List (Int × (Int × (Int × (List Int))))))) × Int) := (Args.cons (Arg.leaf (LArg.ptr 33)) (Args.one (Arg.leaf (LArg.int .i64))))
def n61 : Int → V cxT.ty := fun t => (.inl (.inl (lv (.int .i64 t))))
def dd61 : Int := (0 : Int)
abbrev c61 (m : ((Int × ((List (Int × (Int × (Int × (Int × Bool))))) × (List (Int × (Int × (Int × (List Int))))))) × Int) → Option Int) := fnT (cx := cxT) a61 n61 dd61 m
theorem hs61 : ∀ t, noRoV (n61 t) = true ∨ noOwnV (n61 t) = true := fun _ => .inl rfl
/-! loop.example/g00222/impl.isName -/
def a62 : Args cxT.ty Int := (Args.one (Arg.leaf (LArg.int .i64)))
def n62 : Bool → V cxT.ty := fun t => (.inl (.inl (lv (.bool t))))
def dd62 : Bool := false
abbrev c62 (m : Int → Option Bool) := fnT (cx := cxT) a62 n62 dd62 m
theorem hs62 : ∀ t, noRoV (n62 t) = true ∨ noOwnV (n62 t) = true := fun _ => .inl rfl
/-! loop.example/g00222/impl.isAddress -/
def a63 : Args cxT.ty Int := (Args.one (Arg.leaf (LArg.int .i64)))
def n63 : Bool → V cxT.ty := fun t => (.inl (.inl (lv (.bool t))))
def dd63 : Bool := false
abbrev c63 (m : Int → Option Bool) := fnT (cx := cxT) a63 n63 dd63 m
theorem hs63 : ∀ t, noRoV (n63 t) = true ∨ noOwnV (n63 t) = true := fun _ => .inl rfl
/-! loop.example/g00222/impl.isWeight -/
def a64 : Args cxT.ty Int := (Args.one (Arg.leaf (LArg.int .i64)))
def n64 : Bool → V cxT.ty := fun t => (.inl (.inl (lv (.bool t))))
def dd64 : Bool := false
abbrev c64 (m : Int → Option Bool) := fnT (cx := cxT) a64 n64 dd64 m
theorem hs64 : ∀ t, noRoV (n64 t) = true ∨ noOwnV (n64 t) = true := fun _ => .inl rfl
/-! loop.example/g00222/impl.isStage -/
def a65 : Args cxT.ty Int := (Args.one (Arg.leaf (LArg.int .i64)))
def n65 : Bool → V cxT.ty := fun t => (.inl (.inl (lv (.bool t))))
def dd65 : Bool := false
abbrev c65 (m : Int → Option Bool) := fnT (cx := cxT) a65 n65 dd65 m
theorem hs65 : ∀ t, noRoV (n65 t) = true ∨ noOwnV (n65 t) = true := fun _ => .inl rfl
/-! loop.example/g00222/impl.isPort -/
def a66 : Args cxT.ty Int := (Args.one (Arg.leaf (LArg.int .i64)))
def n66 : Bool → V cxT.ty := fun t => (.inl (.inl (lv (.bool t))))
def dd66 : Bool := false
abbrev c66 (m : Int → Option Bool) := fnT (cx := cxT) a66 n66 dd66 m
theorem hs66 : ∀ t, noRoV (n66 t) = true ∨ noOwnV (n66 t) = true := fun _ => .inl rfl
/-! loop.example/g00222/impl.isProto -/
def a67 : Args cxT.ty Int := (Args.one (Arg.leaf (LArg.int .i64)))
def n67 : Bool → V cxT.ty := fun t => (.inl (.inl (lv (.bool t))))
def dd67 : Bool := false
abbrev c67 (m : Int → Option Bool) := fnT (cx := cxT) a67 n67 dd67 m
theorem hs67 : ∀ t, noRoV (n67 t) = true ∨ noOwnV (n67 t) = true := fun _ => .inl rfl
/-! cmp.Or[int] -/
def a68 : Args cxT.ty (List Int) := (Args.one (Arg.leaf (LArg.row 3)))
def n68 : Int → V cxT.ty := fun t => (.inl (.inl (lv (.int .i64 t))))
def dd68 : Int := (0 : Int)
abbrev c68 (m : (List Int) → Option Int) := fnT (cx := cxT) a68 n68 dd68 m
theorem hs68 : ∀ t, noRoV (n68 t) = true ∨ noOwnV (n68 t) = true := fun _ => .inl rfl
/-! cmp.Compare[int64] -/
def a69 : Args cxT.ty (Int × Int) := (Args.cons (Arg.leaf (LArg.int .i64)) (Args.one (Arg.leaf (LArg.int .i64))))
def n69 : Int → V cxT.ty := fun t => (.inl (.inl (lv (.int .i64 t))))
def dd69 : Int := (0 : Int)
abbrev c69 (m : (Int × Int) → Option Int) := fnT (cx := cxT) a69 n69 dd69 m
theorem hs69 : ∀ t, noRoV (n69 t) = true ∨ noOwnV (n69 t) = true := fun _ => .inl rfl
/-! loop.example/g00222/impl.backendPlace -/
def a70 : Args cxT.ty ((List (Int × (Int × (Int × (Int × Bool))))) × Int) := (Args.cons (Arg.leaf (LArg.row 71)) (Args.one (Arg.leaf (LArg.int .i64))))
def n70 : (Int × Bool) → V cxT.ty := fun t => (.inr (.inl [(.inl (lv (.int .i64 t.1))), (.inl (lv (.bool t.2)))]))
def dd70 : (Int × Bool) := ((0 : Int), false)
abbrev c70 (m : ((List (Int × (Int × (Int × (Int × Bool))))) × Int) → Option (Int × Bool)) := fnT (cx := cxT) a70 n70 dd70 m
theorem hs70 : ∀ t, noRoV (n70 t) = true ∨ noOwnV (n70 t) = true := fun _ => .inl rfl
/-! slices.Equal[[]loop.example/g00222/impl.Backend,loop.example/g00222/impl.Backend] -/
/-! slices.EqualFunc[[]loop.example/g00222/impl.Vip,[]loop.example/g00222/impl.Vip,loop.example/g00222/impl.Vip,loop.example/g00222/impl.Vip] -/
/-! loop.example/g00222/impl.sameVip -/
/-! loop.example/g00222/laws.szInt64S -/
def a74 : Args cxT.ty ((List Int) × Int) := (Args.cons (Arg.leaf (LArg.row 2)) (Args.one (Arg.leaf (LArg.int .i64))))
def n74 : Int → V cxT.ty := fun t => (.inl (.inl (lv (.int .i64 t))))
def dd74 : Int := (0 : Int)
abbrev c74 (m : ((List Int) × Int) → Option Int) := fnT (cx := cxT) a74 n74 dd74 m
theorem hs74 : ∀ t, noRoV (n74 t) = true ∨ noOwnV (n74 t) = true := fun _ => .inl rfl
/-! loop.example/g00222/laws.toInt64S -/
def a75 : Args cxT.ty (List Int) := (Args.one (Arg.leaf (LArg.row 2)))
def n75 : (List Int) → V cxT.ty := fun t => (.inl (.inl (ls { own := 2, nm := 0, e := 2, o := true, xs := t })))
def dd75 : (List Int) := []
abbrev c75 (m : (List Int) → Option (List Int)) := fnT (cx := cxT) a75 n75 dd75 m
theorem hs75 : ∀ t, noRoV (n75 t) = true ∨ noOwnV (n75 t) = true := fun _ => .inl rfl
/-! loop.example/g00222/laws.eqCmd -/
def a76 : Args cxT.ty ((Int × Int × Int × Int × Int × Int) × (Int × Int × Int × Int × Int × Int)) := (Args.cons (Arg.agg (SArg.cons (LArg.int .i64) (SArg.cons (LArg.int .i64) (SArg.cons (LArg.int .i64) (SArg.cons (LArg.int .i64) (SArg.cons (LArg.int .i64) (SArg.one (LArg.int .i64)))))))) (Args.one (Arg.agg (SArg.cons (LArg.int .i64) (SArg.cons (LArg.int .i64) (SArg.cons (LArg.int .i64) (SArg.cons (LArg.int .i64) (SArg.cons (LArg.int .i64) (SArg.one (LArg.int .i64))))))))))
def n76 : Bool → V cxT.ty := fun t => (.inl (.inl (lv (.bool t))))
def dd76 : Bool := false
abbrev c76 (m : ((Int × Int × Int × Int × Int × Int) × (Int × Int × Int × Int × Int × Int)) → Option Bool) := fnT (cx := cxT) a76 n76 dd76 m
theorem hs76 : ∀ t, noRoV (n76 t) = true ∨ noOwnV (n76 t) = true := fun _ => .inl rfl
/-! loop.example/g00222/laws.eqInt64S -/
def a77 : Args cxT.ty ((List Int) × (List Int)) := (Args.cons (Arg.leaf (LArg.row 2)) (Args.one (Arg.leaf (LArg.row 2))))
def n77 : Bool → V cxT.ty := fun t => (.inl (.inl (lv (.bool t))))
def dd77 : Bool := false
abbrev c77 (m : ((List Int) × (List Int)) → Option Bool) := fnT (cx := cxT) a77 n77 dd77 m
theorem hs77 : ∀ t, noRoV (n77 t) = true ∨ noOwnV (n77 t) = true := fun _ => .inl rfl
/-! loop.example/g00222/laws.heldBackendS -/
def a78 : Args cxT.ty ((List (Int × (Int × (Int × (Int × Bool))))) × Int) := (Args.cons (Arg.leaf (LArg.row 71)) (Args.one (Arg.leaf (LArg.int .i64))))
def n78 : Int → V cxT.ty := fun t => (.inl (.inl (lv (.int .i64 t))))
def dd78 : Int := (0 : Int)
abbrev c78 (m : ((List (Int × (Int × (Int × (Int × Bool))))) × Int) → Option Int) := fnT (cx := cxT) a78 n78 dd78 m
theorem hs78 : ∀ t, noRoV (n78 t) = true ∨ noOwnV (n78 t) = true := fun _ => .inl rfl
/-! loop.example/g00222/laws.heldVipS -/
def a79 : Args cxT.ty ((List (Int × (Int × (Int × (List Int))))) × Int) := (Args.cons (Arg.leaf (LArg.row 75)) (Args.one (Arg.leaf (LArg.int .i64))))
def n79 : Int → V cxT.ty := fun t => (.inl (.inl (lv (.int .i64 t))))
def dd79 : Int := (0 : Int)
abbrev c79 (m : ((List (Int × (Int × (Int × (List Int))))) × Int) → Option Int) := fnT (cx := cxT) a79 n79 dd79 m
theorem hs79 : ∀ t, noRoV (n79 t) = true ∨ noOwnV (n79 t) = true := fun _ => .inl rfl
/-! cmp.isNaN[int64] -/
def a80 : Args cxT.ty Int := (Args.one (Arg.leaf (LArg.int .i64)))
def n80 : Bool → V cxT.ty := fun t => (.inl (.inl (lv (.bool t))))
def dd80 : Bool := false
abbrev c80 (m : Int → Option Bool) := fnT (cx := cxT) a80 n80 dd80 m
theorem hs80 : ∀ t, noRoV (n80 t) = true ∨ noOwnV (n80 t) = true := fun _ => .inl rfl
/-! slices.BinarySearchFunc[[]loop.example/g00222/impl.Backend,loop.example/g00222/impl.Backend,int64] -/
def a81 : Args cxT.ty ((List (Int × (Int × (Int × (Int × Bool))))) × Int × Unit) := (Args.cons (Arg.leaf (LArg.row 71)) (Args.cons (Arg.leaf (LArg.int .i64)) (Args.one (Arg.leaf (LArg.fn 82)))))
def n81 : (Int × Bool) → V cxT.ty := fun t => (.inr (.inl [(.inl (lv (.int .i64 t.1))), (.inl (lv (.bool t.2)))]))
def dd81 : (Int × Bool) := ((0 : Int), false)
abbrev c81 (m : ((List (Int × (Int × (Int × (Int × Bool))))) × Int × Unit) → Option (Int × Bool)) := fnT (cx := cxT) a81 n81 dd81 m
theorem hs81 : ∀ t, noRoV (n81 t) = true ∨ noOwnV (n81 t) = true := fun _ => .inl rfl
/-! loop.example/g00222/impl.backendPlace$1 -/
def a82 : Args cxT.ty ((Int × Int × Int × Int × Bool) × Int) := (Args.cons (Arg.agg (SArg.cons (LArg.int .i64) (SArg.cons (LArg.int .i64) (SArg.cons (LArg.int .i64) (SArg.cons (LArg.int .i64) (SArg.one LArg.bool)))))) (Args.one (Arg.leaf (LArg.int .i64))))
def n82 : Int → V cxT.ty := fun t => (.inl (.inl (lv (.int .i64 t))))
def dd82 : Int := (0 : Int)
abbrev c82 (m : ((Int × Int × Int × Int × Bool) × Int) → Option Int) := fnT (cx := cxT) a82 n82 dd82 m
theorem hs82 : ∀ t, noRoV (n82 t) = true ∨ noOwnV (n82 t) = true := fun _ => .inl rfl
/-! slices.Equal[[]int64,int64] -/
/-! loop.example/g00222/laws.heldInt64S -/
def a84 : Args cxT.ty ((List Int) × Int) := (Args.cons (Arg.leaf (LArg.row 2)) (Args.one (Arg.leaf (LArg.int .i64))))
def n84 : Int → V cxT.ty := fun t => (.inl (.inl (lv (.int .i64 t))))
def dd84 : Int := (0 : Int)
abbrev c84 (m : ((List Int) × Int) → Option Int) := fnT (cx := cxT) a84 n84 dd84 m
theorem hs84 : ∀ t, noRoV (n84 t) = true ∨ noOwnV (n84 t) = true := fun _ => .inl rfl
end Go.Proofs.Try
