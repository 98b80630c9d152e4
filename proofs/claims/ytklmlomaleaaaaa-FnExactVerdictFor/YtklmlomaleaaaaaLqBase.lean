/- A part of the proof of FnExactVerdictFor: LqBase, LqCon. -/
import Derived.Test.YtklmlomaleaaaaaVmJ
import Derived.Test.YtklmlomaleaaaaaProg
set_option linter.unusedVariables false
namespace Go.Proofs.Try
open Go Go.VM Go.RowKit

abbrev Bk := Int × Int × Int × Int × Bool
abbrev Vp := Int × Int × Int × List Int
abbrev Vd := Int × Int × Bool × Int
abbrev Cg := Int × List Bk × List Vp
def tyT (e : Nat) : Type := if e = 2 then Int else if e = 3 then Int else if e = 4 then Bool else if e = 5 then Int else if e = 80 then Int × Int × Bool × Int else if e = 82 then Int × Int × Bool × Int else if e = 96 then Int × Int × Int × Int × Bool else if e = 121 then Int × Int × Int × Int × Bool else if e = 122 then Int × Int × Int × List (Int) else if e = 117 then Int × Int × Int × List (Int) else if e = 97 then Int × Int × Int × Int × Int × Int else if e = 98 then Int × Int × Int × Int × Int × Int else if e = 53 then Int × List (Int × Int × Int × Int × Bool) × List (Int × Int × Int × List (Int)) else if e = 62 then Int × List (Int × Int × Int × Int × Bool) × List (Int × Int × Int × List (Int)) else if e = 132 then List (Int) × Int else Unit
def inhT (e : Nat) : tyT e :=
  if h2 : e = 2 then h2.symm ▸ (((0 : Int) : Int) : tyT 2) else if h3 : e = 3 then h3.symm ▸ (((0 : Int) : Int) : tyT 3) else if h4 : e = 4 then h4.symm ▸ ((false : Bool) : tyT 4) else if h5 : e = 5 then h5.symm ▸ (((0 : Int) : Int) : tyT 5) else if h80 : e = 80 then h80.symm ▸ ((((0 : Int), (0 : Int), false, (0 : Int)) : Int × Int × Bool × Int) : tyT 80) else if h82 : e = 82 then h82.symm ▸ ((((0 : Int), (0 : Int), false, (0 : Int)) : Int × Int × Bool × Int) : tyT 82) else if h96 : e = 96 then h96.symm ▸ ((((0 : Int), (0 : Int), (0 : Int), (0 : Int), false) : Int × Int × Int × Int × Bool) : tyT 96) else if h121 : e = 121 then h121.symm ▸ ((((0 : Int), (0 : Int), (0 : Int), (0 : Int), false) : Int × Int × Int × Int × Bool) : tyT 121) else if h122 : e = 122 then h122.symm ▸ ((((0 : Int), (0 : Int), (0 : Int), []) : Int × Int × Int × List (Int)) : tyT 122) else if h117 : e = 117 then h117.symm ▸ ((((0 : Int), (0 : Int), (0 : Int), []) : Int × Int × Int × List (Int)) : tyT 117) else if h97 : e = 97 then h97.symm ▸ ((((0 : Int), (0 : Int), (0 : Int), (0 : Int), (0 : Int), (0 : Int)) : Int × Int × Int × Int × Int × Int) : tyT 97) else if h98 : e = 98 then h98.symm ▸ ((((0 : Int), (0 : Int), (0 : Int), (0 : Int), (0 : Int), (0 : Int)) : Int × Int × Int × Int × Int × Int) : tyT 98) else if h53 : e = 53 then h53.symm ▸ ((((0 : Int), [], []) : Int × List (Int × Int × Int × Int × Bool) × List (Int × Int × Int × List (Int))) : tyT 53) else if h62 : e = 62 then h62.symm ▸ ((((0 : Int), [], []) : Int × List (Int × Int × Int × Int × Bool) × List (Int × Int × Int × List (Int))) : tyT 62) else if h132 : e = 132 then h132.symm ▸ ((([], (0 : Int)) : List (Int) × Int) : tyT 132) else (by unfold tyT; simp only [*, if_false]; exact ())
def cd2 : Cd tyT (tyT 2) := cdInt .i64
def cd3 : Cd tyT (tyT 3) := cdInt .i64
def cd4 : Cd tyT (tyT 4) := cdBool
def cd5 : Cd tyT (tyT 5) := cdInt .u8
def cd80 : Cd tyT (tyT 80) := cdPair (cdInt .i64) (cdPair (cdInt .i64) (cdPair cdBool (cdInt .i64)))
def cd82 : Cd tyT (tyT 82) := cdPair (cdInt .i64) (cdPair (cdInt .i64) (cdPair cdBool (cdInt .i64)))
def cd96 : Cd tyT (tyT 96) := cdPair (cdInt .i64) (cdPair (cdInt .i64) (cdPair (cdInt .i64) (cdPair (cdInt .i64) cdBool)))
def cd121 : Cd tyT (tyT 121) := cdPair (cdInt .i64) (cdPair (cdInt .i64) (cdPair (cdInt .i64) (cdPair (cdInt .i64) cdBool)))
def cd122 : Cd tyT (tyT 122) := cdPair (cdInt .i64) (cdPair (cdInt .i64) (cdPair (cdInt .i64) (cdRow 2)))
def cd117 : Cd tyT (tyT 117) := cdPair (cdInt .i64) (cdPair (cdInt .i64) (cdPair (cdInt .i64) (cdRow 2)))
def cd97 : Cd tyT (tyT 97) := cdPair (cdInt .i64) (cdPair (cdInt .i64) (cdPair (cdInt .i64) (cdPair (cdInt .i64) (cdPair (cdInt .i64) (cdInt .i64)))))
def cd98 : Cd tyT (tyT 98) := cdPair (cdInt .i64) (cdPair (cdInt .i64) (cdPair (cdInt .i64) (cdPair (cdInt .i64) (cdPair (cdInt .i64) (cdInt .i64)))))
def cd53 : Cd tyT (tyT 53) := cdPair (cdInt .i64) (cdPair (cdRow 121) (cdRow 117))
def cd62 : Cd tyT (tyT 62) := cdPair (cdInt .i64) (cdPair (cdRow 96) (cdRow 122))
def cd132 : Cd tyT (tyT 132) := cdPair (cdRow 5) (cdInt .i64)
def cdT (e : Nat) : Cd tyT (tyT e) :=
  if h : e = 2 then h.symm ▸ cd2 else if h : e = 3 then h.symm ▸ cd3 else if h : e = 4 then h.symm ▸ cd4 else if h : e = 5 then h.symm ▸ cd5 else if h : e = 80 then h.symm ▸ cd80 else if h : e = 82 then h.symm ▸ cd82 else if h : e = 96 then h.symm ▸ cd96 else if h : e = 121 then h.symm ▸ cd121 else if h : e = 122 then h.symm ▸ cd122 else if h : e = 117 then h.symm ▸ cd117 else if h : e = 97 then h.symm ▸ cd97 else if h : e = 98 then h.symm ▸ cd98 else if h : e = 53 then h.symm ▸ cd53 else if h : e = 62 then h.symm ▸ cd62 else if h : e = 132 then h.symm ▸ cd132 else cdNone (inhT e)
def cxT : Cx := Cx.of cdT
theorem cxT_ok : cxT.Ok := Cx.of_ok cdT
set_option maxRecDepth 100000 in
theorem dom_cases {e : Nat} (h : (cdT e).dom = true) : e = 2 ∨ e = 3 ∨ e = 4 ∨ e = 5 ∨ e = 80 ∨ e = 82 ∨ e = 96 ∨ e = 121 ∨ e = 97 ∨ e = 98 := by
  by_cases h0 : e = 2
  · exact .inl h0
  by_cases h1 : e = 3
  · exact .inr (.inl h1)
  by_cases h2 : e = 4
  · exact .inr (.inr (.inl h2))
  by_cases h3 : e = 5
  · exact .inr (.inr (.inr (.inl h3)))
  by_cases h4 : e = 80
  · exact .inr (.inr (.inr (.inr (.inl h4))))
  by_cases h5 : e = 82
  · exact .inr (.inr (.inr (.inr (.inr (.inl h5)))))
  by_cases h6 : e = 96
  · exact .inr (.inr (.inr (.inr (.inr (.inr (.inl h6))))))
  by_cases h7 : e = 121
  · exact .inr (.inr (.inr (.inr (.inr (.inr (.inr (.inl h7)))))))
  by_cases h8 : e = 122
  · subst h8; exact absurd h (by intro hh; cases (show false = true from hh))
  by_cases h9 : e = 117
  · subst h9; exact absurd h (by intro hh; cases (show false = true from hh))
  by_cases h10 : e = 97
  · exact .inr (.inr (.inr (.inr (.inr (.inr (.inr (.inr (.inl h10))))))))
  by_cases h11 : e = 98
  · exact .inr (.inr (.inr (.inr (.inr (.inr (.inr (.inr (.inr (h11)))))))))
  by_cases h12 : e = 53
  · subst h12; exact absurd h (by intro hh; cases (show false = true from hh))
  by_cases h13 : e = 62
  · subst h13; exact absurd h (by intro hh; cases (show false = true from hh))
  by_cases h14 : e = 132
  · subst h14; exact absurd h (by intro hh; cases (show false = true from hh))
  · unfold cdT at h; rw [dif_neg h0, dif_neg h1, dif_neg h2, dif_neg h3, dif_neg h4, dif_neg h5, dif_neg h6, dif_neg h7, dif_neg h8, dif_neg h9, dif_neg h10, dif_neg h11, dif_neg h12, dif_neg h13, dif_neg h14] at h; exact Bool.noConfusion h

set_option maxRecDepth 100000 in
theorem cxT_pok : cxT.POk prog := by
  refine ⟨fun e he => ?_, fun e he hu o x => ?_⟩
  · rcases dom_cases he with rfl | rfl | rfl | rfl | rfl | rfl | rfl | rfl | rfl | rfl <;>
    exact ⟨_, _, rfl, rfl, rfl, by decide, rfl, by decide, rfl⟩
  · rcases dom_cases he with rfl | rfl | rfl | rfl | rfl | rfl | rfl | rfl | rfl | rfl
    · rw [show prog.underlying 2 = _ from rfl] at hu; cases hu
    · rw [show prog.underlying 3 = _ from rfl] at hu; cases hu
    · rw [show prog.underlying 4 = _ from rfl] at hu; cases hu
    · exact ⟨x, rfl⟩
    · rw [show prog.underlying 80 = _ from rfl] at hu; cases hu
    · rw [show prog.underlying 82 = _ from rfl] at hu; cases hu
    · rw [show prog.underlying 96 = _ from rfl] at hu; cases hu
    · rw [show prog.underlying 121 = _ from rfl] at hu; cases hu
    · rw [show prog.underlying 97 = _ from rfl] at hu; cases hu
    · rw [show prog.underlying 98 = _ from rfl] at hu; cases hu
end Go.Proofs.Try

set_option linter.unusedVariables false
namespace Go.Proofs.Try
open Go Go.VM Go.RowKit
/-! loop.example/g00222/laws.FnExactHealthFault -/
def a3 : Args cxT.ty (Int × Bool × Int) := (Args.one (Arg.agg (SArg.cons (LArg.int .i64) (SArg.cons LArg.bool (SArg.one (LArg.int .i64))))))
def n3 : Bool → V cxT.ty := fun t => (.inl (.inl (lv (.bool t))))
def dd3 : Bool := false
abbrev c3 (m : (Int × Bool × Int) → Option Bool) := fnT (cx := cxT) a3 n3 dd3 m
theorem hs3 : ∀ t, noRoV (n3 t) = true ∨ noOwnV (n3 t) = true := fun _ => .inl rfl
/-! loop.example/g00222/laws.FnExactProbeHealth -/
def a4 : Args cxT.ty ((Int × Bool × Int) × Bool) := (Args.cons (Arg.agg (SArg.cons (LArg.int .i64) (SArg.cons LArg.bool (SArg.one (LArg.int .i64))))) (Args.one (Arg.leaf LArg.bool)))
def n4 : Bool → V cxT.ty := fun t => (.inl (.inl (lv (.bool t))))
theorem hs4 : ∀ t, noRoV (n4 t) = true ∨ noOwnV (n4 t) = true := fun _ => .inl rfl
/-! loop.example/g00222/laws.FnExactProbeMany -/
def a5 : Args cxT.ty ((Int × Bool × Int) × (List Bool)) := (Args.cons (Arg.agg (SArg.cons (LArg.int .i64) (SArg.cons LArg.bool (SArg.one (LArg.int .i64))))) (Args.one (Arg.leaf (LArg.row 4))))
def n5 : Bool → V cxT.ty := fun t => (.inl (.inl (lv (.bool t))))
/-! loop.example/g00222/laws.FnExactVerdictsFault -/
def a6 : Args cxT.ty (List (Int × (Int × (Bool × Int)))) := (Args.one (Arg.leaf (LArg.row 82)))
def n6 : Bool → V cxT.ty := fun t => (.inl (.inl (lv (.bool t))))
/-! loop.example/g00222/laws.FnExactVerdictFor -/
def a7 : Args cxT.ty ((List (Int × (Int × (Bool × Int)))) × Int × Int) := (Args.cons (Arg.leaf (LArg.row 82)) (Args.cons (Arg.leaf (LArg.int .i64)) (Args.one (Arg.leaf (LArg.int .i64)))))
def n7 : Bool → V cxT.ty := fun t => (.inl (.inl (lv (.bool t))))
def dd7 : Bool := false
abbrev c7 (m : ((List (Int × (Int × (Bool × Int)))) × Int × Int) → Option Bool) := fnT (cx := cxT) a7 n7 dd7 m
theorem hs7 : ∀ t, noRoV (n7 t) = true ∨ noOwnV (n7 t) = true := fun _ => .inl rfl
/-! loop.example/g00222/laws.FnExactUpCmds -/
def n8 : Bool → V cxT.ty := fun t => (.inl (.inl (lv (.bool t))))
/-! loop.example/g00222/laws.FnHealths -/
def n9 : Bool → V cxT.ty := fun t => (.inl (.inl (lv (.bool t))))
/-! loop.example/g00222/spec.HealthFault -/
def a10 : Args cxT.ty (Int × Bool × Int) := (Args.one (Arg.agg (SArg.cons (LArg.int .i64) (SArg.cons LArg.bool (SArg.one (LArg.int .i64))))))
def n10 : Int → V cxT.ty := fun t => (.inl (.inl (lv (.int .i64 t))))
def dd10 : Int := (0 : Int)
abbrev c10 (m : (Int × Bool × Int) → Option Int) := fnT (cx := cxT) a10 n10 dd10 m
/-! loop.example/g00222/laws.toHealth -/
def a11 : Args cxT.ty (Int × Bool × Int) := (Args.one (Arg.agg (SArg.cons (LArg.int .i64) (SArg.cons LArg.bool (SArg.one (LArg.int .i64))))))
def n11 : (Int × Bool × Int) → V cxT.ty := fun t => (.inl (.inr [(lv (.int .i64 t.1)), (lv (.bool t.2.1)), (lv (.int .i64 t.2.2))]))
def dd11 : (Int × Bool × Int) := ((0 : Int), false, (0 : Int))
abbrev c11 (m : (Int × Bool × Int) → Option (Int × Bool × Int)) := fnT (cx := cxT) a11 n11 dd11 m
/-! loop.example/g00222/impl.HealthFault -/
def a12 : Args cxT.ty (Int × Bool × Int) := (Args.one (Arg.agg (SArg.cons (LArg.int .i64) (SArg.cons LArg.bool (SArg.one (LArg.int .i64))))))
def n12 : Int → V cxT.ty := fun t => (.inl (.inl (lv (.int .i64 t))))
def dd12 : Int := (0 : Int)
abbrev c12 (m : (Int × Bool × Int) → Option Int) := fnT (cx := cxT) a12 n12 dd12 m
/-! loop.example/g00222/spec.ProbeHealth -/
def a13 : Args cxT.ty ((Int × Bool × Int) × Bool) := (Args.cons (Arg.agg (SArg.cons (LArg.int .i64) (SArg.cons LArg.bool (SArg.one (LArg.int .i64))))) (Args.one (Arg.leaf LArg.bool)))
def n13 : (Int × Bool × Int × Bool × Int) → V cxT.ty := fun t => (.inl (.inr [(lv (.int .i64 t.1)), (lv (.bool t.2.1)), (lv (.int .i64 t.2.2.1)), (lv (.bool t.2.2.2.1)), (lv (.int .i64 t.2.2.2.2))]))
def dd13 : (Int × Bool × Int × Bool × Int) := ((0 : Int), false, (0 : Int), false, (0 : Int))
abbrev c13 (m : ((Int × Bool × Int) × Bool) → Option (Int × Bool × Int × Bool × Int)) := fnT (cx := cxT) a13 n13 dd13 m
/-! loop.example/g00222/impl.ProbeHealth -/
def a14 : Args cxT.ty ((Int × Bool × Int) × Bool) := (Args.cons (Arg.agg (SArg.cons (LArg.int .i64) (SArg.cons LArg.bool (SArg.one (LArg.int .i64))))) (Args.one (Arg.leaf LArg.bool)))
def n14 : (Int × Bool × Int × Bool × Int) → V cxT.ty := fun t => (.inl (.inr [(lv (.int .i64 t.1)), (lv (.bool t.2.1)), (lv (.int .i64 t.2.2.1)), (lv (.bool t.2.2.2.1)), (lv (.int .i64 t.2.2.2.2))]))
def dd14 : (Int × Bool × Int × Bool × Int) := ((0 : Int), false, (0 : Int), false, (0 : Int))
abbrev c14 (m : ((Int × Bool × Int) × Bool) → Option (Int × Bool × Int × Bool × Int)) := fnT (cx := cxT) a14 n14 dd14 m
/-! loop.example/g00222/laws.eqHealthResult -/
def a15 : Args cxT.ty ((Int × Bool × Int × Bool × Int) × (Int × Bool × Int × Bool × Int)) := (Args.cons (Arg.agg (SArg.cons (LArg.int .i64) (SArg.cons LArg.bool (SArg.cons (LArg.int .i64) (SArg.cons LArg.bool (SArg.one (LArg.int .i64))))))) (Args.one (Arg.agg (SArg.cons (LArg.int .i64) (SArg.cons LArg.bool (SArg.cons (LArg.int .i64) (SArg.cons LArg.bool (SArg.one (LArg.int .i64)))))))))
def n15 : Bool → V cxT.ty := fun t => (.inl (.inl (lv (.bool t))))
def dd15 : Bool := false
abbrev c15 (m : ((Int × Bool × Int × Bool × Int) × (Int × Bool × Int × Bool × Int)) → Option Bool) := fnT (cx := cxT) a15 n15 dd15 m
/-! loop.example/g00222/spec.ProbeMany -/
def a16 : Args cxT.ty ((Int × Bool × Int) × (List Bool)) := (Args.cons (Arg.agg (SArg.cons (LArg.int .i64) (SArg.cons LArg.bool (SArg.one (LArg.int .i64))))) (Args.one (Arg.leaf (LArg.row 4))))
def n16 : (Int × Bool × Int × Bool × Int) → V cxT.ty := fun t => (.inl (.inr [(lv (.int .i64 t.1)), (lv (.bool t.2.1)), (lv (.int .i64 t.2.2.1)), (lv (.bool t.2.2.2.1)), (lv (.int .i64 t.2.2.2.2))]))
def dd16 : (Int × Bool × Int × Bool × Int) := ((0 : Int), false, (0 : Int), false, (0 : Int))
abbrev c16 (m : ((Int × Bool × Int) × (List Bool)) → Option (Int × Bool × Int × Bool × Int)) := fnT (cx := cxT) a16 n16 dd16 m
/-! loop.example/g00222/laws.toBoolS -/
def a17 : Args cxT.ty (List Bool) := (Args.one (Arg.leaf (LArg.row 4)))
def n17 : (List Bool) → V cxT.ty := fun t => (.inl (.inl (ls { own := 2, nm := 0, e := 4, o := true, xs := t })))
def dd17 : (List Bool) := []
abbrev c17 (m : (List Bool) → Option (List Bool)) := fnT (cx := cxT) a17 n17 dd17 m
/-! loop.example/g00222/impl.ProbeMany -/
def a18 : Args cxT.ty ((Int × Bool × Int) × (List Bool)) := (Args.cons (Arg.agg (SArg.cons (LArg.int .i64) (SArg.cons LArg.bool (SArg.one (LArg.int .i64))))) (Args.one (Arg.leaf (LArg.row 4))))
def n18 : (Int × Bool × Int × Bool × Int) → V cxT.ty := fun t => (.inl (.inr [(lv (.int .i64 t.1)), (lv (.bool t.2.1)), (lv (.int .i64 t.2.2.1)), (lv (.bool t.2.2.2.1)), (lv (.int .i64 t.2.2.2.2))]))
def dd18 : (Int × Bool × Int × Bool × Int) := ((0 : Int), false, (0 : Int), false, (0 : Int))
abbrev c18 (m : ((Int × Bool × Int) × (List Bool)) → Option (Int × Bool × Int × Bool × Int)) := fnT (cx := cxT) a18 n18 dd18 m
/-! loop.example/g00222/laws.eqBoolS -/
def a19 : Args cxT.ty ((List Bool) × (List Bool)) := (Args.cons (Arg.leaf (LArg.row 4)) (Args.one (Arg.leaf (LArg.row 4))))
def n19 : Bool → V cxT.ty := fun t => (.inl (.inl (lv (.bool t))))
def dd19 : Bool := false
abbrev c19 (m : ((List Bool) × (List Bool)) → Option Bool) := fnT (cx := cxT) a19 n19 dd19 m
/-! loop.example/g00222/laws.szVerdictS -/
def a20 : Args cxT.ty ((List (Int × (Int × (Bool × Int)))) × Int) := (Args.cons (Arg.leaf (LArg.row 82)) (Args.one (Arg.leaf (LArg.int .i64))))
def n20 : Int → V cxT.ty := fun t => (.inl (.inl (lv (.int .i64 t))))
def dd20 : Int := (0 : Int)
abbrev c20 (m : ((List (Int × (Int × (Bool × Int)))) × Int) → Option Int) := fnT (cx := cxT) a20 n20 dd20 m
theorem hs20 : ∀ t, noRoV (n20 t) = true ∨ noOwnV (n20 t) = true := fun _ => .inl rfl
/-! loop.example/g00222/spec.VerdictsFault -/
def a21 : Args cxT.ty (List (Int × (Int × (Bool × Int)))) := (Args.one (Arg.leaf (LArg.row 80)))
def n21 : Int → V cxT.ty := fun t => (.inl (.inl (lv (.int .i64 t))))
def dd21 : Int := (0 : Int)
abbrev c21 (m : (List (Int × (Int × (Bool × Int)))) → Option Int) := fnT (cx := cxT) a21 n21 dd21 m
theorem hs21 : ∀ t, noRoV (n21 t) = true ∨ noOwnV (n21 t) = true := fun _ => .inl rfl
/-! loop.example/g00222/laws.toVerdictS -/
def a22 : Args cxT.ty (List (Int × (Int × (Bool × Int)))) := (Args.one (Arg.leaf (LArg.row 82)))
def n22 : (List (Int × (Int × (Bool × Int)))) → V cxT.ty := fun t => (.inl (.inl (ls { own := 2, nm := 0, e := 80, o := true, xs := t })))
def dd22 : (List (Int × (Int × (Bool × Int)))) := []
abbrev c22 (m : (List (Int × (Int × (Bool × Int)))) → Option (List (Int × (Int × (Bool × Int))))) := fnT (cx := cxT) a22 n22 dd22 m
theorem hs22 : ∀ t, noRoV (n22 t) = true ∨ noOwnV (n22 t) = true := fun _ => .inl rfl
/-! loop.example/g00222/impl.VerdictsFault -/
def a23 : Args cxT.ty (List (Int × (Int × (Bool × Int)))) := (Args.one (Arg.leaf (LArg.row 80)))
def n23 : Int → V cxT.ty := fun t => (.inl (.inl (lv (.int .i64 t))))
def dd23 : Int := (0 : Int)
abbrev c23 (m : (List (Int × (Int × (Bool × Int)))) → Option Int) := fnT (cx := cxT) a23 n23 dd23 m
theorem hs23 : ∀ t, noRoV (n23 t) = true ∨ noOwnV (n23 t) = true := fun _ => .inl rfl
/-! loop.example/g00222/laws.eqVerdictS -/
def a24 : Args cxT.ty ((List (Int × (Int × (Bool × Int)))) × (List (Int × (Int × (Bool × Int))))) := (Args.cons (Arg.leaf (LArg.row 80)) (Args.one (Arg.leaf (LArg.row 80))))
def n24 : Bool → V cxT.ty := fun t => (.inl (.inl (lv (.bool t))))
def dd24 : Bool := false
abbrev c24 (m : ((List (Int × (Int × (Bool × Int)))) × (List (Int × (Int × (Bool × Int))))) → Option Bool) := fnT (cx := cxT) a24 n24 dd24 m
theorem hs24 : ∀ t, noRoV (n24 t) = true ∨ noOwnV (n24 t) = true := fun _ => .inl rfl
/-! loop.example/g00222/spec.VerdictFor -/
def a25 : Args cxT.ty ((List (Int × (Int × (Bool × Int)))) × Int × Int) := (Args.cons (Arg.leaf (LArg.row 80)) (Args.cons (Arg.leaf (LArg.int .i64)) (Args.one (Arg.leaf (LArg.int .i64)))))
def n25 : (Int × Int) → V cxT.ty := fun t => (.inl (.inr [(lv (.int .i64 t.1)), (lv (.int .i64 t.2))]))
def dd25 : (Int × Int) := ((0 : Int), (0 : Int))
abbrev c25 (m : ((List (Int × (Int × (Bool × Int)))) × Int × Int) → Option (Int × Int)) := fnT (cx := cxT) a25 n25 dd25 m
theorem hs25 : ∀ t, noRoV (n25 t) = true ∨ noOwnV (n25 t) = true := fun _ => .inl rfl
/-! loop.example/g00222/impl.VerdictFor -/
def a26 : Args cxT.ty ((List (Int × (Int × (Bool × Int)))) × Int × Int) := (Args.cons (Arg.leaf (LArg.row 80)) (Args.cons (Arg.leaf (LArg.int .i64)) (Args.one (Arg.leaf (LArg.int .i64)))))
def n26 : (Int × Int) → V cxT.ty := fun t => (.inl (.inr [(lv (.int .i64 t.1)), (lv (.int .i64 t.2))]))
def dd26 : (Int × Int) := ((0 : Int), (0 : Int))
abbrev c26 (m : ((List (Int × (Int × (Bool × Int)))) × Int × Int) → Option (Int × Int)) := fnT (cx := cxT) a26 n26 dd26 m
/-! loop.example/g00222/laws.eqIntResult -/
def a27 : Args cxT.ty ((Int × Int) × (Int × Int)) := (Args.cons (Arg.agg (SArg.cons (LArg.int .i64) (SArg.one (LArg.int .i64)))) (Args.one (Arg.agg (SArg.cons (LArg.int .i64) (SArg.one (LArg.int .i64))))))
def n27 : Bool → V cxT.ty := fun t => (.inl (.inl (lv (.bool t))))
def dd27 : Bool := false
abbrev c27 (m : ((Int × Int) × (Int × Int)) → Option Bool) := fnT (cx := cxT) a27 n27 dd27 m
theorem hs27 : ∀ t, noRoV (n27 t) = true ∨ noOwnV (n27 t) = true := fun _ => .inl rfl
/-! loop.example/g00222/laws.szConfig -/
/-! loop.example/g00222/spec.UpCmds -/
/-! loop.example/g00222/laws.toConfig -/
/-! loop.example/g00222/impl.UpCmds -/
/-! loop.example/g00222/laws.eqCmdsResult -/
/-! loop.example/g00222/laws.eqConfig -/
/-! loop.example/g00222/laws.markConfig -/
/-! loop.example/g00222/laws.markVerdictS -/
/-! loop.example/g00222/laws.markCmdsResult -/
/-! loop.example/g00222/laws.heldCmdsResult -/
/-! loop.example/g00222/laws.lwBig -/
/-! loop.example/g00222/spec.DrawProbeHealth -/
/-! loop.example/g00222/spec.l3Name -/
def a40 : Args cxT.ty Int := (Args.one (Arg.leaf (LArg.int .i64)))
def n40 : Bool → V cxT.ty := fun t => (.inl (.inl (lv (.bool t))))
def dd40 : Bool := false
abbrev c40 (m : Int → Option Bool) := fnT (cx := cxT) a40 n40 dd40 m
theorem hs40 : ∀ t, noRoV (n40 t) = true ∨ noOwnV (n40 t) = true := fun _ => .inl rfl
/-! loop.example/g00222/spec.l1In -/
def a41 : Args cxT.ty (Int × Int × Int) := (Args.cons (Arg.leaf (LArg.int .i64)) (Args.cons (Arg.leaf (LArg.int .i64)) (Args.one (Arg.leaf (LArg.int .i64)))))
def n41 : Bool → V cxT.ty := fun t => (.inl (.inl (lv (.bool t))))
def dd41 : Bool := false
abbrev c41 (m : (Int × Int × Int) → Option Bool) := fnT (cx := cxT) a41 n41 dd41 m
theorem hs41 : ∀ t, noRoV (n41 t) = true ∨ noOwnV (n41 t) = true := fun _ => .inl rfl
/-! loop.example/g00222/spec.l12Bound -/
/-! loop.example/g00222/impl.isName -/
def a43 : Args cxT.ty Int := (Args.one (Arg.leaf (LArg.int .i64)))
def n43 : Bool → V cxT.ty := fun t => (.inl (.inl (lv (.bool t))))
def dd43 : Bool := false
abbrev c43 (m : Int → Option Bool) := fnT (cx := cxT) a43 n43 dd43 m
theorem hs43 : ∀ t, noRoV (n43 t) = true ∨ noOwnV (n43 t) = true := fun _ => .inl rfl
/-! loop.example/g00222/impl.isFromTo -/
def a44 : Args cxT.ty (Int × Int × Int) := (Args.cons (Arg.leaf (LArg.int .i64)) (Args.cons (Arg.leaf (LArg.int .i64)) (Args.one (Arg.leaf (LArg.int .i64)))))
def n44 : Bool → V cxT.ty := fun t => (.inl (.inl (lv (.bool t))))
def dd44 : Bool := false
abbrev c44 (m : (Int × Int × Int) → Option Bool) := fnT (cx := cxT) a44 n44 dd44 m
theorem hs44 : ∀ t, noRoV (n44 t) = true ∨ noOwnV (n44 t) = true := fun _ => .inl rfl
/-! loop.example/g00222/impl.turnsAfter -/
/-! loop.example/g00222/spec.l12Probe -/
def a46 : Args cxT.ty ((Int × Bool × Int) × Bool) := (Args.cons (Arg.agg (SArg.cons (LArg.int .i64) (SArg.cons LArg.bool (SArg.one (LArg.int .i64))))) (Args.one (Arg.leaf LArg.bool)))
def n46 : (Int × Bool × Int × Bool) → V cxT.ty := fun t => (.inr (.inl [(.inr [(lv (.int .i64 t.1)), (lv (.bool t.2.1)), (lv (.int .i64 t.2.2.1))]), (.inl (lv (.bool t.2.2.2)))]))
def dd46 : (Int × Bool × Int × Bool) := ((0 : Int), false, (0 : Int), false)
abbrev c46 (m : ((Int × Bool × Int) × Bool) → Option (Int × Bool × Int × Bool)) := fnT (cx := cxT) a46 n46 dd46 m
/-! loop.example/g00222/laws.eqHealth -/
/-! loop.example/g00222/laws.toVerdict -/
def a48 : Args cxT.ty (Int × Int × Bool × Int) := (Args.one (Arg.agg (SArg.cons (LArg.int .i64) (SArg.cons (LArg.int .i64) (SArg.cons LArg.bool (SArg.one (LArg.int .i64)))))))
def n48 : (Int × Int × Bool × Int) → V cxT.ty := fun t => (.inl (.inr [(lv (.int .i64 t.1)), (lv (.int .i64 t.2.1)), (lv (.bool t.2.2.1)), (lv (.int .i64 t.2.2.2))]))
def dd48 : (Int × Int × Bool × Int) := ((0 : Int), (0 : Int), false, (0 : Int))
abbrev c48 (m : (Int × Int × Bool × Int) → Option (Int × Int × Bool × Int)) := fnT (cx := cxT) a48 n48 dd48 m
theorem hs48 : ∀ t, noRoV (n48 t) = true ∨ noOwnV (n48 t) = true := fun _ => .inl rfl
/-! loop.example/g00222/impl.isVerdict -/
def a49 : Args cxT.ty (Int × Int × Bool × Int) := (Args.one (Arg.agg (SArg.cons (LArg.int .i64) (SArg.cons (LArg.int .i64) (SArg.cons LArg.bool (SArg.one (LArg.int .i64)))))))
def n49 : Bool → V cxT.ty := fun t => (.inl (.inl (lv (.bool t))))
def dd49 : Bool := false
abbrev c49 (m : (Int × Int × Bool × Int) → Option Bool) := fnT (cx := cxT) a49 n49 dd49 m
theorem hs49 : ∀ t, noRoV (n49 t) = true ∨ noOwnV (n49 t) = true := fun _ => .inl rfl
/-! loop.example/g00222/laws.eqVerdict -/
def a50 : Args cxT.ty ((Int × Int × Bool × Int) × (Int × Int × Bool × Int)) := (Args.cons (Arg.agg (SArg.cons (LArg.int .i64) (SArg.cons (LArg.int .i64) (SArg.cons LArg.bool (SArg.one (LArg.int .i64)))))) (Args.one (Arg.agg (SArg.cons (LArg.int .i64) (SArg.cons (LArg.int .i64) (SArg.cons LArg.bool (SArg.one (LArg.int .i64))))))))
def n50 : Bool → V cxT.ty := fun t => (.inl (.inl (lv (.bool t))))
def dd50 : Bool := false
abbrev c50 (m : ((Int × Int × Bool × Int) × (Int × Int × Bool × Int)) → Option Bool) := fnT (cx := cxT) a50 n50 dd50 m
theorem hs50 : ∀ t, noRoV (n50 t) = true ∨ noOwnV (n50 t) = true := fun _ => .inl rfl
/-! loop.example/g00222/spec.l12Verdict -/
def a51 : Args cxT.ty ((List (Int × (Int × (Bool × Int)))) × Int × Int) := (Args.cons (Arg.leaf (LArg.row 80)) (Args.cons (Arg.leaf (LArg.int .i64)) (Args.one (Arg.leaf (LArg.int .i64)))))
def n51 : Int → V cxT.ty := fun t => (.inl (.inl (lv (.int .i64 t))))
def dd51 : Int := (0 : Int)
abbrev c51 (m : ((List (Int × (Int × (Bool × Int)))) × Int × Int) → Option Int) := fnT (cx := cxT) a51 n51 dd51 m
theorem hs51 : ∀ t, noRoV (n51 t) = true ∨ noOwnV (n51 t) = true := fun _ => .inl rfl
/-! loop.example/g00222/impl.saidFault -/
def a52 : Args cxT.ty ((List (Int × (Int × (Bool × Int)))) × Int) := (Args.cons (Arg.leaf (LArg.row 80)) (Args.one (Arg.leaf (LArg.int .i64))))
def n52 : Int → V cxT.ty := fun t => (.inl (.inl (lv (.int .i64 t))))
def dd52 : Int := (0 : Int)
abbrev c52 (m : ((List (Int × (Int × (Bool × Int)))) × Int) → Option Int) := fnT (cx := cxT) a52 n52 dd52 m
theorem hs52 : ∀ t, noRoV (n52 t) = true ∨ noOwnV (n52 t) = true := fun _ => .inl rfl
/-! loop.example/g00222/laws.szBackendS -/
/-! loop.example/g00222/laws.szVipS -/
/-! loop.example/g00222/spec.l5Fault -/
/-! loop.example/g00222/laws.toBackendS -/
/-! loop.example/g00222/laws.toVipS -/
/-! loop.example/g00222/impl.ConfigFault -/
/-! loop.example/g00222/laws.eqCmdS -/
/-! loop.example/g00222/laws.eqBackendS -/
/-! loop.example/g00222/laws.eqVipS -/
/-! loop.example/g00222/laws.markBackendS -/
/-! loop.example/g00222/laws.markVipS -/
/-! loop.example/g00222/laws.markCmdS -/
/-! loop.example/g00222/laws.heldCmdS -/
/-! loop.example/g00222/spec.l1Source -/
/-! loop.example/g00222/spec.l12Health -/
/-! loop.example/g00222/spec.l1Chance -/
/-! loop.example/g00222/spec.l12Says -/
def a71 : Args cxT.ty ((List (Int × (Int × (Bool × Int)))) × Int × Int) := (Args.cons (Arg.leaf (LArg.row 80)) (Args.cons (Arg.leaf (LArg.int .i64)) (Args.one (Arg.leaf (LArg.int .i64)))))
def n71 : Int → V cxT.ty := fun t => (.inl (.inl (lv (.int .i64 t))))
def dd71 : Int := (0 : Int)
abbrev c71 (m : ((List (Int × (Int × (Bool × Int)))) × Int × Int) → Option Int) := fnT (cx := cxT) a71 n71 dd71 m
theorem hs71 : ∀ t, noRoV (n71 t) = true ∨ noOwnV (n71 t) = true := fun _ => .inl rfl
/-! loop.example/g00222/impl.isQuorum -/
def a73 : Args cxT.ty (Int × Int) := (Args.cons (Arg.leaf (LArg.int .i64)) (Args.one (Arg.leaf (LArg.int .i64))))
def n73 : Bool → V cxT.ty := fun t => (.inl (.inl (lv (.bool t))))
def dd73 : Bool := false
abbrev c73 (m : (Int × Int) → Option Bool) := fnT (cx := cxT) a73 n73 dd73 m
theorem hs73 : ∀ t, noRoV (n73 t) = true ∨ noOwnV (n73 t) = true := fun _ => .inl rfl
/-! loop.example/g00222/laws.szVip -/
/-! loop.example/g00222/spec.l5Version -/
/-! loop.example/g00222/spec.l5Backend -/
/-! loop.example/g00222/spec.l5Vip -/
/-! loop.example/g00222/laws.toBackend -/
/-! loop.example/g00222/laws.toVip -/
/-! loop.example/g00222/impl.isVersion -/
/-! loop.example/g00222/impl.isBackend -/
/-! loop.example/g00222/impl.isServed -/
/-! loop.example/g00222/impl.compareVips -/
/-! loop.example/g00222/impl.namesFault -/
/-! loop.example/g00222/laws.eqCmd -/
/-! loop.example/g00222/laws.eqBackend -/
/-! loop.example/g00222/laws.eqVip -/
/-! loop.example/g00222/laws.markInt64S -/
/-! loop.example/g00222/spec.l1Next -/
/-! loop.example/g00222/spec.l1Pick -/
/-! loop.example/g00222/laws.szInt64S -/
/-! loop.example/g00222/spec.l2Address -/
/-! loop.example/g00222/spec.l2Port -/
/-! loop.example/g00222/spec.l5Proto -/
/-! loop.example/g00222/spec.l5Behind -/
/-! loop.example/g00222/spec.l5At -/
/-! loop.example/g00222/laws.toInt64S -/
/-! loop.example/g00222/impl.isAddress -/
/-! loop.example/g00222/impl.isWeight -/
/-! loop.example/g00222/impl.isStage -/
/-! loop.example/g00222/impl.isPort -/
/-! loop.example/g00222/impl.isProto -/
/-! cmp.Or[int] -/
/-! cmp.Compare[int64] -/
/-! loop.example/g00222/impl.backendPlace -/
/-! loop.example/g00222/laws.eqInt64S -/
/-! cmp.isNaN[int64] -/
/-! slices.BinarySearchFunc[[]loop.example/g00222/impl.Backend,loop.example/g00222/impl.Backend,int64] -/
/-! loop.example/g00222/impl.backendPlace$1 -/
end Go.Proofs.Try
