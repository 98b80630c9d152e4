/- A part of the proof of FnExactUpdateFault: LtBase, LtCon. -/
import Derived.Test.YtnmnomckcjihoaaGreatVmJ
import Derived.Test.YtnmnomckcjihoaaGreatProg
set_option linter.unusedVariables false
namespace Go.Proofs.Tryz
open Go Go.VM Go.RowKit

abbrev Bk := Int × Int × Int × Int × Bool
abbrev Vp := Int × Int × Int × List Int
def tyT (e : Nat) : Type := if e = 2 then Int else if e = 3 then Int else if e = 5 then Int else if e = 83 then Int × Int × Int × Int × Bool else if e = 104 then Int × Int × Int × Int × Bool else if e = 96 then Int × Int × Int × List (Int) else if e = 100 then Int × Int × Int × List (Int) else if e = 64 then Int × Int × Int × Int × Int × Int else if e = 72 then Int × Int × Int × Int × Int × Int else if e = 34 then Int × List (Int × Int × Int × Int × Bool) × List (Int × Int × Int × List (Int)) else if e = 25 then Int × List (Int × Int × Int × Int × Bool) × List (Int × Int × Int × List (Int)) else Unit
def inhT (e : Nat) : tyT e := by
  unfold tyT
  repeat' split
  all_goals first | exact ((0 : Int) : Int) | exact ((0 : Int) : Int) | exact ((0 : Int) : Int) | exact (((0 : Int), (0 : Int), (0 : Int), (0 : Int), false) : Int × Int × Int × Int × Bool) | exact (((0 : Int), (0 : Int), (0 : Int), (0 : Int), false) : Int × Int × Int × Int × Bool) | exact (((0 : Int), (0 : Int), (0 : Int), []) : Int × Int × Int × List (Int)) | exact (((0 : Int), (0 : Int), (0 : Int), []) : Int × Int × Int × List (Int)) | exact (((0 : Int), (0 : Int), (0 : Int), (0 : Int), (0 : Int), (0 : Int)) : Int × Int × Int × Int × Int × Int) | exact (((0 : Int), (0 : Int), (0 : Int), (0 : Int), (0 : Int), (0 : Int)) : Int × Int × Int × Int × Int × Int) | exact (((0 : Int), [], []) : Int × List (Int × Int × Int × Int × Bool) × List (Int × Int × Int × List (Int))) | exact (((0 : Int), [], []) : Int × List (Int × Int × Int × Int × Bool) × List (Int × Int × Int × List (Int))) | exact ()
def cd2 : Cd tyT (tyT 2) := cdInt .i64
def cd3 : Cd tyT (tyT 3) := cdInt .i64
def cd5 : Cd tyT (tyT 5) := cdInt .u8
def cd83 : Cd tyT (tyT 83) := cdPair (cdInt .i64) (cdPair (cdInt .i64) (cdPair (cdInt .i64) (cdPair (cdInt .i64) cdBool)))
def cd104 : Cd tyT (tyT 104) := cdPair (cdInt .i64) (cdPair (cdInt .i64) (cdPair (cdInt .i64) (cdPair (cdInt .i64) cdBool)))
def cd96 : Cd tyT (tyT 96) := cdPair (cdInt .i64) (cdPair (cdInt .i64) (cdPair (cdInt .i64) (cdRow 2)))
def cd100 : Cd tyT (tyT 100) := cdPair (cdInt .i64) (cdPair (cdInt .i64) (cdPair (cdInt .i64) (cdRow 2)))
def cd64 : Cd tyT (tyT 64) := cdPair (cdInt .i64) (cdPair (cdInt .i64) (cdPair (cdInt .i64) (cdPair (cdInt .i64) (cdPair (cdInt .i64) (cdInt .i64)))))
def cd72 : Cd tyT (tyT 72) := cdPair (cdInt .i64) (cdPair (cdInt .i64) (cdPair (cdInt .i64) (cdPair (cdInt .i64) (cdPair (cdInt .i64) (cdInt .i64)))))
def cd34 : Cd tyT (tyT 34) := cdPair (cdInt .i64) (cdPair (cdRow 83) (cdRow 96))
def cd25 : Cd tyT (tyT 25) := cdPair (cdInt .i64) (cdPair (cdRow 104) (cdRow 100))
def cdT (e : Nat) : Cd tyT (tyT e) :=
  if h : e = 2 then h.symm ▸ cd2 else if h : e = 3 then h.symm ▸ cd3 else if h : e = 5 then h.symm ▸ cd5 else if h : e = 83 then h.symm ▸ cd83 else if h : e = 104 then h.symm ▸ cd104 else if h : e = 96 then h.symm ▸ cd96 else if h : e = 100 then h.symm ▸ cd100 else if h : e = 64 then h.symm ▸ cd64 else if h : e = 72 then h.symm ▸ cd72 else if h : e = 34 then h.symm ▸ cd34 else if h : e = 25 then h.symm ▸ cd25 else cdNone (inhT e)
def cxT : Cx := Cx.of cdT
theorem cxT_ok : cxT.Ok := Cx.of_ok cdT
set_option maxRecDepth 100000 in
theorem dom_cases {e : Nat} (h : (cdT e).dom = true) : e = 2 ∨ e = 3 ∨ e = 5 ∨ e = 83 ∨ e = 104 ∨ e = 64 ∨ e = 72 := by
  by_cases h0 : e = 2
  · exact .inl h0
  by_cases h1 : e = 3
  · exact .inr (.inl h1)
  by_cases h2 : e = 5
  · exact .inr (.inr (.inl h2))
  by_cases h3 : e = 83
  · exact .inr (.inr (.inr (.inl h3)))
  by_cases h4 : e = 104
  · exact .inr (.inr (.inr (.inr (.inl h4))))
  by_cases h5 : e = 96
  · subst h5; exact absurd h (by intro hh; cases (show false = true from hh))
  by_cases h6 : e = 100
  · subst h6; exact absurd h (by intro hh; cases (show false = true from hh))
  by_cases h7 : e = 64
  · exact .inr (.inr (.inr (.inr (.inr (.inl h7)))))
  by_cases h8 : e = 72
  · exact .inr (.inr (.inr (.inr (.inr (.inr (h8))))))
  by_cases h9 : e = 34
  · subst h9; exact absurd h (by intro hh; cases (show false = true from hh))
  by_cases h10 : e = 25
  · subst h10; exact absurd h (by intro hh; cases (show false = true from hh))
  · unfold cdT at h; rw [dif_neg h0, dif_neg h1, dif_neg h2, dif_neg h3, dif_neg h4, dif_neg h5, dif_neg h6, dif_neg h7, dif_neg h8, dif_neg h9, dif_neg h10] at h; exact Bool.noConfusion h

set_option maxRecDepth 100000 in
theorem cxT_pok : cxT.POk prog := by
  refine ⟨fun e he => ?_, fun e he hu o x => ?_⟩
  · rcases dom_cases he with rfl | rfl | rfl | rfl | rfl | rfl | rfl <;>
    exact ⟨_, _, rfl, rfl, rfl, by decide, rfl, by decide, rfl⟩
  · rcases dom_cases he with rfl | rfl | rfl | rfl | rfl | rfl | rfl
    · rw [show prog.underlying 2 = _ from rfl] at hu; cases hu
    · rw [show prog.underlying 3 = _ from rfl] at hu; cases hu
    · exact ⟨x, rfl⟩
    · rw [show prog.underlying 83 = _ from rfl] at hu; cases hu
    · rw [show prog.underlying 104 = _ from rfl] at hu; cases hu
    · rw [show prog.underlying 64 = _ from rfl] at hu; cases hu
    · rw [show prog.underlying 72 = _ from rfl] at hu; cases hu
end Go.Proofs.Tryz

set_option linter.unusedVariables false
namespace Go.Proofs.Tryz
open Go Go.VM Go.RowKit
/-! loop.example/g00222/laws.FnExactUpdateFault -/
def a3 : Args cxT.ty (Int × Int × Bool × Int × (List (Int × (Int × (Int × (Int × Bool))))) × (List (Int × (Int × (Int × (List Int))))) × (List (Int × (Int × (Int × (Int × (Int × Int))))))) := (Args.one (Arg.agg (SArg.cons (LArg.int .i64) (SArg.cons (LArg.int .i64) (SArg.cons LArg.bool (SArg.cons (LArg.int .i64) (SArg.cons (LArg.row 104) (SArg.cons (LArg.row 100) (SArg.one (LArg.row 72))))))))))
def n3 : Bool → V cxT.ty := fun t => (.inl (.inl (lv (.bool t))))
def dd3 : Bool := false
abbrev c3 (m : (Int × Int × Bool × Int × (List (Int × (Int × (Int × (Int × Bool))))) × (List (Int × (Int × (Int × (List Int))))) × (List (Int × (Int × (Int × (Int × (Int × Int))))))) → Option Bool) := fnT (cx := cxT) a3 n3 dd3 m
theorem hs3 : ∀ t, noRoV (n3 t) = true ∨ noOwnV (n3 t) = true := fun _ => .inl rfl
/-! loop.example/g00222/laws.szUpdate -/
def a5 : Args cxT.ty ((Int × Int × Bool × Int × (List (Int × (Int × (Int × (Int × Bool))))) × (List (Int × (Int × (Int × (List Int))))) × (List (Int × (Int × (Int × (Int × (Int × Int))))))) × Int) := (Args.cons (Arg.agg (SArg.cons (LArg.int .i64) (SArg.cons (LArg.int .i64) (SArg.cons LArg.bool (SArg.cons (LArg.int .i64) (SArg.cons (LArg.row 104) (SArg.cons (LArg.row 100) (SArg.one (LArg.row 72))))))))) (Args.one (Arg.leaf (LArg.int .i64))))
def n5 : Int → V cxT.ty := fun t => (.inl (.inl (lv (.int .i64 t))))
def dd5 : Int := (0 : Int)
abbrev c5 (m : ((Int × Int × Bool × Int × (List (Int × (Int × (Int × (Int × Bool))))) × (List (Int × (Int × (Int × (List Int))))) × (List (Int × (Int × (Int × (Int × (Int × Int))))))) × Int) → Option Int) := fnT (cx := cxT) a5 n5 dd5 m
theorem hs5 : ∀ t, noRoV (n5 t) = true ∨ noOwnV (n5 t) = true := fun _ => .inl rfl
/-! loop.example/g00222/spec.UpdateFault -/
def a6 : Args cxT.ty (Int × Int × Bool × Int × (List (Int × (Int × (Int × (Int × Bool))))) × (List (Int × (Int × (Int × (List Int))))) × (List (Int × (Int × (Int × (Int × (Int × Int))))))) := (Args.one (Arg.agg (SArg.cons (LArg.int .i64) (SArg.cons (LArg.int .i64) (SArg.cons LArg.bool (SArg.cons (LArg.int .i64) (SArg.cons (LArg.row 83) (SArg.cons (LArg.row 96) (SArg.one (LArg.row 64))))))))))
def n6 : Int → V cxT.ty := fun t => (.inl (.inl (lv (.int .i64 t))))
def dd6 : Int := (0 : Int)
abbrev c6 (m : (Int × Int × Bool × Int × (List (Int × (Int × (Int × (Int × Bool))))) × (List (Int × (Int × (Int × (List Int))))) × (List (Int × (Int × (Int × (Int × (Int × Int))))))) → Option Int) := fnT (cx := cxT) a6 n6 dd6 m
theorem hs6 : ∀ t, noRoV (n6 t) = true ∨ noOwnV (n6 t) = true := fun _ => .inl rfl
/-! loop.example/g00222/laws.toUpdate -/
def a7 : Args cxT.ty (Int × Int × Bool × Int × (List (Int × (Int × (Int × (Int × Bool))))) × (List (Int × (Int × (Int × (List Int))))) × (List (Int × (Int × (Int × (Int × (Int × Int))))))) := (Args.one (Arg.agg (SArg.cons (LArg.int .i64) (SArg.cons (LArg.int .i64) (SArg.cons LArg.bool (SArg.cons (LArg.int .i64) (SArg.cons (LArg.row 104) (SArg.cons (LArg.row 100) (SArg.one (LArg.row 72))))))))))
def n7 : (Int × Int × Bool × Int × (List (Int × (Int × (Int × (Int × Bool))))) × (List (Int × (Int × (Int × (List Int))))) × (List (Int × (Int × (Int × (Int × (Int × Int))))))) → V cxT.ty := fun t => (.inl (.inr [(lv (.int .i64 t.1)), (lv (.int .i64 t.2.1)), (lv (.bool t.2.2.1)), (lv (.int .i64 t.2.2.2.1)), (ls { own := 2, nm := 0, e := 83, o := true, xs := t.2.2.2.2.1 }), (ls { own := 2, nm := 0, e := 96, o := true, xs := t.2.2.2.2.2.1 }), (ls { own := 2, nm := 0, e := 64, o := true, xs := t.2.2.2.2.2.2 })]))
def dd7 : (Int × Int × Bool × Int × (List (Int × (Int × (Int × (Int × Bool))))) × (List (Int × (Int × (Int × (List Int))))) × (List (Int × (Int × (Int × (Int × (Int × Int))))))) := ((0 : Int), (0 : Int), false, (0 : Int), [], [], [])
abbrev c7 (m : (Int × Int × Bool × Int × (List (Int × (Int × (Int × (Int × Bool))))) × (List (Int × (Int × (Int × (List Int))))) × (List (Int × (Int × (Int × (Int × (Int × Int))))))) → Option (Int × Int × Bool × Int × (List (Int × (Int × (Int × (Int × Bool))))) × (List (Int × (Int × (Int × (List Int))))) × (List (Int × (Int × (Int × (Int × (Int × Int)))))))) := fnT (cx := cxT) a7 n7 dd7 m
theorem hs7 : ∀ t, noRoV (n7 t) = true ∨ noOwnV (n7 t) = true := fun _ => .inl rfl
/-! loop.example/g00222/impl.UpdateFault -/
def a8 : Args cxT.ty (Int × Int × Bool × Int × (List (Int × (Int × (Int × (Int × Bool))))) × (List (Int × (Int × (Int × (List Int))))) × (List (Int × (Int × (Int × (Int × (Int × Int))))))) := (Args.one (Arg.agg (SArg.cons (LArg.int .i64) (SArg.cons (LArg.int .i64) (SArg.cons LArg.bool (SArg.cons (LArg.int .i64) (SArg.cons (LArg.row 83) (SArg.cons (LArg.row 96) (SArg.one (LArg.row 64))))))))))
def n8 : Int → V cxT.ty := fun t => (.inl (.inl (lv (.int .i64 t))))
def dd8 : Int := (0 : Int)
abbrev c8 (m : (Int × Int × Bool × Int × (List (Int × (Int × (Int × (Int × Bool))))) × (List (Int × (Int × (Int × (List Int))))) × (List (Int × (Int × (Int × (Int × (Int × Int))))))) → Option Int) := fnT (cx := cxT) a8 n8 dd8 m
theorem hs8 : ∀ t, noRoV (n8 t) = true ∨ noOwnV (n8 t) = true := fun _ => .inl rfl
/-! loop.example/g00222/laws.eqUpdate -/
def a9 : Args cxT.ty ((Int × Int × Bool × Int × (List (Int × (Int × (Int × (Int × Bool))))) × (List (Int × (Int × (Int × (List Int))))) × (List (Int × (Int × (Int × (Int × (Int × Int))))))) × (Int × Int × Bool × Int × (List (Int × (Int × (Int × (Int × Bool))))) × (List (Int × (Int × (Int × (List Int))))) × (List (Int × (Int × (Int × (Int × (Int × Int)))))))) := (Args.cons (Arg.agg (SArg.cons (LArg.int .i64) (SArg.cons (LArg.int .i64) (SArg.cons LArg.bool (SArg.cons (LArg.int .i64) (SArg.cons (LArg.row 83) (SArg.cons (LArg.row 96) (SArg.one (LArg.row 64))))))))) (Args.one (Arg.agg (SArg.cons (LArg.int .i64) (SArg.cons (LArg.int .i64) (SArg.cons LArg.bool (SArg.cons (LArg.int .i64) (SArg.cons (LArg.row 83) (SArg.cons (LArg.row 96) (SArg.one (LArg.row 64)))))))))))
def n9 : Bool → V cxT.ty := fun t => (.inl (.inl (lv (.bool t))))
def dd9 : Bool := false
abbrev c9 (m : ((Int × Int × Bool × Int × (List (Int × (Int × (Int × (Int × Bool))))) × (List (Int × (Int × (Int × (List Int))))) × (List (Int × (Int × (Int × (Int × (Int × Int))))))) × (Int × Int × Bool × Int × (List (Int × (Int × (Int × (Int × Bool))))) × (List (Int × (Int × (Int × (List Int))))) × (List (Int × (Int × (Int × (Int × (Int × Int)))))))) → Option Bool) := fnT (cx := cxT) a9 n9 dd9 m
theorem hs9 : ∀ t, noRoV (n9 t) = true ∨ noOwnV (n9 t) = true := fun _ => .inl rfl
/-! loop.example/g00222/laws.szCmdS -/
def a11 : Args cxT.ty ((List (Int × (Int × (Int × (Int × (Int × Int)))))) × Int) := (Args.cons (Arg.leaf (LArg.row 72)) (Args.one (Arg.leaf (LArg.int .i64))))
def n11 : Int → V cxT.ty := fun t => (.inl (.inl (lv (.int .i64 t))))
def dd11 : Int := (0 : Int)
abbrev c11 (m : ((List (Int × (Int × (Int × (Int × (Int × Int)))))) × Int) → Option Int) := fnT (cx := cxT) a11 n11 dd11 m
theorem hs11 : ∀ t, noRoV (n11 t) = true ∨ noOwnV (n11 t) = true := fun _ => .inl rfl
/-! loop.example/g00222/laws.toCmdS -/
def a14 : Args cxT.ty (List (Int × (Int × (Int × (Int × (Int × Int)))))) := (Args.one (Arg.leaf (LArg.row 72)))
def n14 : (List (Int × (Int × (Int × (Int × (Int × Int)))))) → V cxT.ty := fun t => (.inl (.inl (ls { own := 2, nm := 0, e := 64, o := true, xs := t })))
def dd14 : (List (Int × (Int × (Int × (Int × (Int × Int)))))) := []
abbrev c14 (m : (List (Int × (Int × (Int × (Int × (Int × Int)))))) → Option (List (Int × (Int × (Int × (Int × (Int × Int))))))) := fnT (cx := cxT) a14 n14 dd14 m
theorem hs14 : ∀ t, noRoV (n14 t) = true ∨ noOwnV (n14 t) = true := fun _ => .inl rfl
/-! loop.example/g00222/laws.eqCmdS -/
def a18 : Args cxT.ty ((List (Int × (Int × (Int × (Int × (Int × Int)))))) × (List (Int × (Int × (Int × (Int × (Int × Int))))))) := (Args.cons (Arg.leaf (LArg.row 64)) (Args.one (Arg.leaf (LArg.row 64))))
def n18 : Bool → V cxT.ty := fun t => (.inl (.inl (lv (.bool t))))
def dd18 : Bool := false
abbrev c18 (m : ((List (Int × (Int × (Int × (Int × (Int × Int)))))) × (List (Int × (Int × (Int × (Int × (Int × Int))))))) → Option Bool) := fnT (cx := cxT) a18 n18 dd18 m
theorem hs18 : ∀ t, noRoV (n18 t) = true ∨ noOwnV (n18 t) = true := fun _ => .inl rfl
/-! loop.example/g00222/laws.szConfig -/
def a23 : Args cxT.ty ((Int × (List (Int × (Int × (Int × (Int × Bool))))) × (List (Int × (Int × (Int × (List Int)))))) × Int) := (Args.cons (Arg.agg (SArg.cons (LArg.int .i64) (SArg.cons (LArg.row 104) (SArg.one (LArg.row 100))))) (Args.one (Arg.leaf (LArg.int .i64))))
def n23 : Int → V cxT.ty := fun t => (.inl (.inl (lv (.int .i64 t))))
def dd23 : Int := (0 : Int)
abbrev c23 (m : ((Int × (List (Int × (Int × (Int × (Int × Bool))))) × (List (Int × (Int × (Int × (List Int)))))) × Int) → Option Int) := fnT (cx := cxT) a23 n23 dd23 m
theorem hs23 : ∀ t, noRoV (n23 t) = true ∨ noOwnV (n23 t) = true := fun _ => .inl rfl
/-! loop.example/g00222/spec.l5Version -/
def a24 : Args cxT.ty Int := (Args.one (Arg.leaf (LArg.int .i64)))
def n24 : Bool → V cxT.ty := fun t => (.inl (.inl (lv (.bool t))))
def dd24 : Bool := false
abbrev c24 (m : Int → Option Bool) := fnT (cx := cxT) a24 n24 dd24 m
theorem hs24 : ∀ t, noRoV (n24 t) = true ∨ noOwnV (n24 t) = true := fun _ => .inl rfl
/-! loop.example/g00222/spec.l5Fault -/
def a25 : Args cxT.ty (Int × ((List (Int × (Int × (Int × (Int × Bool))))) × (List (Int × (Int × (Int × (List Int))))))) := (Args.one (Arg.leaf (LArg.ptr 34)))
def n25 : Int → V cxT.ty := fun t => (.inl (.inl (lv (.int .i64 t))))
def dd25 : Int := (0 : Int)
abbrev c25 (m : (Int × ((List (Int × (Int × (Int × (Int × Bool))))) × (List (Int × (Int × (Int × (List Int))))))) → Option Int) := fnT (cx := cxT) a25 n25 dd25 m
theorem hs25 : ∀ t, noRoV (n25 t) = true ∨ noOwnV (n25 t) = true := fun _ => .inl rfl
/-! loop.example/g00222/spec.l13Empty -/
def a26 : Args cxT.ty (Int × ((List (Int × (Int × (Int × (Int × Bool))))) × (List (Int × (Int × (Int × (List Int))))))) := (Args.one (Arg.leaf (LArg.ptr 34)))
def n26 : Bool → V cxT.ty := fun t => (.inl (.inl (lv (.bool t))))
def dd26 : Bool := false
abbrev c26 (m : (Int × ((List (Int × (Int × (Int × (Int × Bool))))) × (List (Int × (Int × (Int × (List Int))))))) → Option Bool) := fnT (cx := cxT) a26 n26 dd26 m
theorem hs26 : ∀ t, noRoV (n26 t) = true ∨ noOwnV (n26 t) = true := fun _ => .inl rfl
/-! loop.example/g00222/spec.CmdFault -/
def a27 : Args cxT.ty (Int × Int × Int × Int × Int × Int) := (Args.one (Arg.agg (SArg.cons (LArg.int .i64) (SArg.cons (LArg.int .i64) (SArg.cons (LArg.int .i64) (SArg.cons (LArg.int .i64) (SArg.cons (LArg.int .i64) (SArg.one (LArg.int .i64)))))))))
def n27 : Int → V cxT.ty := fun t => (.inl (.inl (lv (.int .i64 t))))
def dd27 : Int := (0 : Int)
abbrev c27 (m : (Int × Int × Int × Int × Int × Int) → Option Int) := fnT (cx := cxT) a27 n27 dd27 m
/-! loop.example/g00222/laws.toConfig -/
def a28 : Args cxT.ty (Int × (List (Int × (Int × (Int × (Int × Bool))))) × (List (Int × (Int × (Int × (List Int)))))) := (Args.one (Arg.agg (SArg.cons (LArg.int .i64) (SArg.cons (LArg.row 104) (SArg.one (LArg.row 100))))))
def n28 : (Int × (List (Int × (Int × (Int × (Int × Bool))))) × (List (Int × (Int × (Int × (List Int)))))) → V cxT.ty := fun t => (.inl (.inr [(lv (.int .i64 t.1)), (ls { own := 2, nm := 0, e := 83, o := true, xs := t.2.1 }), (ls { own := 2, nm := 0, e := 96, o := true, xs := t.2.2 })]))
def dd28 : (Int × (List (Int × (Int × (Int × (Int × Bool))))) × (List (Int × (Int × (Int × (List Int)))))) := ((0 : Int), [], [])
abbrev c28 (m : (Int × (List (Int × (Int × (Int × (Int × Bool))))) × (List (Int × (Int × (Int × (List Int)))))) → Option (Int × (List (Int × (Int × (Int × (Int × Bool))))) × (List (Int × (Int × (Int × (List Int))))))) := fnT (cx := cxT) a28 n28 dd28 m
theorem hs28 : ∀ t, noRoV (n28 t) = true ∨ noOwnV (n28 t) = true := fun _ => .inl rfl
/-! loop.example/g00222/impl.isVersion -/
def a29 : Args cxT.ty Int := (Args.one (Arg.leaf (LArg.int .i64)))
def n29 : Bool → V cxT.ty := fun t => (.inl (.inl (lv (.bool t))))
def dd29 : Bool := false
abbrev c29 (m : Int → Option Bool) := fnT (cx := cxT) a29 n29 dd29 m
theorem hs29 : ∀ t, noRoV (n29 t) = true ∨ noOwnV (n29 t) = true := fun _ => .inl rfl
/-! loop.example/g00222/impl.fullFault -/
def a30 : Args cxT.ty (Int × Int × Bool × Int × (List (Int × (Int × (Int × (Int × Bool))))) × (List (Int × (Int × (Int × (List Int))))) × (List (Int × (Int × (Int × (Int × (Int × Int))))))) := (Args.one (Arg.agg (SArg.cons (LArg.int .i64) (SArg.cons (LArg.int .i64) (SArg.cons LArg.bool (SArg.cons (LArg.int .i64) (SArg.cons (LArg.row 83) (SArg.cons (LArg.row 96) (SArg.one (LArg.row 64))))))))))
def n30 : Int → V cxT.ty := fun t => (.inl (.inl (lv (.int .i64 t))))
def dd30 : Int := (0 : Int)
abbrev c30 (m : (Int × Int × Bool × Int × (List (Int × (Int × (Int × (Int × Bool))))) × (List (Int × (Int × (Int × (List Int))))) × (List (Int × (Int × (Int × (Int × (Int × Int))))))) → Option Int) := fnT (cx := cxT) a30 n30 dd30 m
theorem hs30 : ∀ t, noRoV (n30 t) = true ∨ noOwnV (n30 t) = true := fun _ => .inl rfl
/-! loop.example/g00222/impl.stepsFault -/
def a31 : Args cxT.ty (Int × Int × Bool × Int × (List (Int × (Int × (Int × (Int × Bool))))) × (List (Int × (Int × (Int × (List Int))))) × (List (Int × (Int × (Int × (Int × (Int × Int))))))) := (Args.one (Arg.agg (SArg.cons (LArg.int .i64) (SArg.cons (LArg.int .i64) (SArg.cons LArg.bool (SArg.cons (LArg.int .i64) (SArg.cons (LArg.row 83) (SArg.cons (LArg.row 96) (SArg.one (LArg.row 64))))))))))
def n31 : Int → V cxT.ty := fun t => (.inl (.inl (lv (.int .i64 t))))
def dd31 : Int := (0 : Int)
abbrev c31 (m : (Int × Int × Bool × Int × (List (Int × (Int × (Int × (Int × Bool))))) × (List (Int × (Int × (Int × (List Int))))) × (List (Int × (Int × (Int × (Int × (Int × Int))))))) → Option Int) := fnT (cx := cxT) a31 n31 dd31 m
theorem hs31 : ∀ t, noRoV (n31 t) = true ∨ noOwnV (n31 t) = true := fun _ => .inl rfl
/-! loop.example/g00222/laws.eqConfig -/
def a32 : Args cxT.ty ((Int × (List (Int × (Int × (Int × (Int × Bool))))) × (List (Int × (Int × (Int × (List Int)))))) × (Int × (List (Int × (Int × (Int × (Int × Bool))))) × (List (Int × (Int × (Int × (List Int))))))) := (Args.cons (Arg.agg (SArg.cons (LArg.int .i64) (SArg.cons (LArg.row 83) (SArg.one (LArg.row 96))))) (Args.one (Arg.agg (SArg.cons (LArg.int .i64) (SArg.cons (LArg.row 83) (SArg.one (LArg.row 96)))))))
def n32 : Bool → V cxT.ty := fun t => (.inl (.inl (lv (.bool t))))
def dd32 : Bool := false
abbrev c32 (m : ((Int × (List (Int × (Int × (Int × (Int × Bool))))) × (List (Int × (Int × (Int × (List Int)))))) × (Int × (List (Int × (Int × (Int × (Int × Bool))))) × (List (Int × (Int × (Int × (List Int))))))) → Option Bool) := fnT (cx := cxT) a32 n32 dd32 m
theorem hs32 : ∀ t, noRoV (n32 t) = true ∨ noOwnV (n32 t) = true := fun _ => .inl rfl
/-! loop.example/g00222/spec.l1In -/
def a34 : Args cxT.ty (Int × Int × Int) := (Args.cons (Arg.leaf (LArg.int .i64)) (Args.cons (Arg.leaf (LArg.int .i64)) (Args.one (Arg.leaf (LArg.int .i64)))))
def n34 : Bool → V cxT.ty := fun t => (.inl (.inl (lv (.bool t))))
def dd34 : Bool := false
abbrev c34 (m : (Int × Int × Int) → Option Bool) := fnT (cx := cxT) a34 n34 dd34 m
theorem hs34 : ∀ t, noRoV (n34 t) = true ∨ noOwnV (n34 t) = true := fun _ => .inl rfl
/-! loop.example/g00222/laws.toCmd -/
def a37 : Args cxT.ty (Int × Int × Int × Int × Int × Int) := (Args.one (Arg.agg (SArg.cons (LArg.int .i64) (SArg.cons (LArg.int .i64) (SArg.cons (LArg.int .i64) (SArg.cons (LArg.int .i64) (SArg.cons (LArg.int .i64) (SArg.one (LArg.int .i64)))))))))
def n37 : (Int × Int × Int × Int × Int × Int) → V cxT.ty := fun t => (.inl (.inr [(lv (.int .i64 t.1)), (lv (.int .i64 t.2.1)), (lv (.int .i64 t.2.2.1)), (lv (.int .i64 t.2.2.2.1)), (lv (.int .i64 t.2.2.2.2.1)), (lv (.int .i64 t.2.2.2.2.2))]))
def dd37 : (Int × Int × Int × Int × Int × Int) := ((0 : Int), (0 : Int), (0 : Int), (0 : Int), (0 : Int), (0 : Int))
abbrev c37 (m : (Int × Int × Int × Int × Int × Int) → Option (Int × Int × Int × Int × Int × Int)) := fnT (cx := cxT) a37 n37 dd37 m
theorem hs37 : ∀ t, noRoV (n37 t) = true ∨ noOwnV (n37 t) = true := fun _ => .inl rfl
/-! loop.example/g00222/laws.eqCmd -/
def a41 : Args cxT.ty ((Int × Int × Int × Int × Int × Int) × (Int × Int × Int × Int × Int × Int)) := (Args.cons (Arg.agg (SArg.cons (LArg.int .i64) (SArg.cons (LArg.int .i64) (SArg.cons (LArg.int .i64) (SArg.cons (LArg.int .i64) (SArg.cons (LArg.int .i64) (SArg.one (LArg.int .i64)))))))) (Args.one (Arg.agg (SArg.cons (LArg.int .i64) (SArg.cons (LArg.int .i64) (SArg.cons (LArg.int .i64) (SArg.cons (LArg.int .i64) (SArg.cons (LArg.int .i64) (SArg.one (LArg.int .i64))))))))))
def n41 : Bool → V cxT.ty := fun t => (.inl (.inl (lv (.bool t))))
def dd41 : Bool := false
abbrev c41 (m : ((Int × Int × Int × Int × Int × Int) × (Int × Int × Int × Int × Int × Int)) → Option Bool) := fnT (cx := cxT) a41 n41 dd41 m
theorem hs41 : ∀ t, noRoV (n41 t) = true ∨ noOwnV (n41 t) = true := fun _ => .inl rfl
/-! loop.example/g00222/laws.szBackendS -/
def a46 : Args cxT.ty ((List (Int × (Int × (Int × (Int × Bool))))) × Int) := (Args.cons (Arg.leaf (LArg.row 104)) (Args.one (Arg.leaf (LArg.int .i64))))
def n46 : Int → V cxT.ty := fun t => (.inl (.inl (lv (.int .i64 t))))
def dd46 : Int := (0 : Int)
abbrev c46 (m : ((List (Int × (Int × (Int × (Int × Bool))))) × Int) → Option Int) := fnT (cx := cxT) a46 n46 dd46 m
theorem hs46 : ∀ t, noRoV (n46 t) = true ∨ noOwnV (n46 t) = true := fun _ => .inl rfl
/-! loop.example/g00222/laws.szVipS -/
def a47 : Args cxT.ty ((List (Int × (Int × (Int × (List Int))))) × Int) := (Args.cons (Arg.leaf (LArg.row 100)) (Args.one (Arg.leaf (LArg.int .i64))))
def n47 : Int → V cxT.ty := fun t => (.inl (.inl (lv (.int .i64 t))))
def dd47 : Int := (0 : Int)
abbrev c47 (m : ((List (Int × (Int × (Int × (List Int))))) × Int) → Option Int) := fnT (cx := cxT) a47 n47 dd47 m
theorem hs47 : ∀ t, noRoV (n47 t) = true ∨ noOwnV (n47 t) = true := fun _ => .inl rfl
/-! loop.example/g00222/spec.l5Backend -/
def a48 : Args cxT.ty (Int × Int × Int × Int × Bool) := (Args.one (Arg.agg (SArg.cons (LArg.int .i64) (SArg.cons (LArg.int .i64) (SArg.cons (LArg.int .i64) (SArg.cons (LArg.int .i64) (SArg.one LArg.bool)))))))
def n48 : Bool → V cxT.ty := fun t => (.inl (.inl (lv (.bool t))))
def dd48 : Bool := false
abbrev c48 (m : (Int × Int × Int × Int × Bool) → Option Bool) := fnT (cx := cxT) a48 n48 dd48 m
theorem hs48 : ∀ t, noRoV (n48 t) = true ∨ noOwnV (n48 t) = true := fun _ => .inl rfl
/-! loop.example/g00222/spec.l5Vip -/
def a49 : Args cxT.ty ((Int × ((List (Int × (Int × (Int × (Int × Bool))))) × (List (Int × (Int × (Int × (List Int))))))) × Int) := (Args.cons (Arg.leaf (LArg.ptr 34)) (Args.one (Arg.leaf (LArg.int .i64))))
def n49 : Int → V cxT.ty := fun t => (.inl (.inl (lv (.int .i64 t))))
def dd49 : Int := (0 : Int)
abbrev c49 (m : ((Int × ((List (Int × (Int × (Int × (Int × Bool))))) × (List (Int × (Int × (Int × (List Int))))))) × Int) → Option Int) := fnT (cx := cxT) a49 n49 dd49 m
theorem hs49 : ∀ t, noRoV (n49 t) = true ∨ noOwnV (n49 t) = true := fun _ => .inl rfl
/-! loop.example/g00222/spec.l5Needs -/
def a50 : Args cxT.ty Int := (Args.one (Arg.leaf (LArg.int .i64)))
def n50 : (Bool × Bool × Bool × Bool) → V cxT.ty := fun t => (.inr (.inl [(.inl (lv (.bool t.1))), (.inl (lv (.bool t.2.1))), (.inl (lv (.bool t.2.2.1))), (.inl (lv (.bool t.2.2.2)))]))
def dd50 : (Bool × Bool × Bool × Bool) := (false, false, false, false)
abbrev c50 (m : Int → Option (Bool × Bool × Bool × Bool)) := fnT (cx := cxT) a50 n50 dd50 m
theorem hs50 : ∀ t, noRoV (n50 t) = true ∨ noOwnV (n50 t) = true := fun _ => .inl rfl
/-! loop.example/g00222/spec.l3Name -/
def a51 : Args cxT.ty Int := (Args.one (Arg.leaf (LArg.int .i64)))
def n51 : Bool → V cxT.ty := fun t => (.inl (.inl (lv (.bool t))))
def dd51 : Bool := false
abbrev c51 (m : Int → Option Bool) := fnT (cx := cxT) a51 n51 dd51 m
theorem hs51 : ∀ t, noRoV (n51 t) = true ∨ noOwnV (n51 t) = true := fun _ => .inl rfl
/-! loop.example/g00222/spec.l2Address -/
def a52 : Args cxT.ty Int := (Args.one (Arg.leaf (LArg.int .i64)))
def n52 : Bool → V cxT.ty := fun t => (.inl (.inl (lv (.bool t))))
def dd52 : Bool := false
abbrev c52 (m : Int → Option Bool) := fnT (cx := cxT) a52 n52 dd52 m
theorem hs52 : ∀ t, noRoV (n52 t) = true ∨ noOwnV (n52 t) = true := fun _ => .inl rfl
/-! loop.example/g00222/spec.l5Number -/
def a53 : Args cxT.ty (Int × Int × Int × Int × Int × Int) := (Args.one (Arg.agg (SArg.cons (LArg.int .i64) (SArg.cons (LArg.int .i64) (SArg.cons (LArg.int .i64) (SArg.cons (LArg.int .i64) (SArg.cons (LArg.int .i64) (SArg.one (LArg.int .i64)))))))))
def n53 : Bool → V cxT.ty := fun t => (.inl (.inl (lv (.bool t))))
def dd53 : Bool := false
abbrev c53 (m : (Int × Int × Int × Int × Int × Int) → Option Bool) := fnT (cx := cxT) a53 n53 dd53 m
theorem hs53 : ∀ t, noRoV (n53 t) = true ∨ noOwnV (n53 t) = true := fun _ => .inl rfl
/-! loop.example/g00222/spec.l5Proto -/
def a54 : Args cxT.ty Int := (Args.one (Arg.leaf (LArg.int .i64)))
def n54 : Bool → V cxT.ty := fun t => (.inl (.inl (lv (.bool t))))
def dd54 : Bool := false
abbrev c54 (m : Int → Option Bool) := fnT (cx := cxT) a54 n54 dd54 m
theorem hs54 : ∀ t, noRoV (n54 t) = true ∨ noOwnV (n54 t) = true := fun _ => .inl rfl
/-! loop.example/g00222/laws.toBackendS -/
def a55 : Args cxT.ty (List (Int × (Int × (Int × (Int × Bool))))) := (Args.one (Arg.leaf (LArg.row 104)))
def n55 : (List (Int × (Int × (Int × (Int × Bool))))) → V cxT.ty := fun t => (.inl (.inl (ls { own := 2, nm := 0, e := 83, o := true, xs := t })))
def dd55 : (List (Int × (Int × (Int × (Int × Bool))))) := []
abbrev c55 (m : (List (Int × (Int × (Int × (Int × Bool))))) → Option (List (Int × (Int × (Int × (Int × Bool)))))) := fnT (cx := cxT) a55 n55 dd55 m
theorem hs55 : ∀ t, noRoV (n55 t) = true ∨ noOwnV (n55 t) = true := fun _ => .inl rfl
/-! loop.example/g00222/laws.toVipS -/
def a56 : Args cxT.ty (List (Int × (Int × (Int × (List Int))))) := (Args.one (Arg.leaf (LArg.row 100)))
def n56 : (List (Int × (Int × (Int × (List Int))))) → V cxT.ty := fun t => (.inl (.inl (ls { own := 2, nm := 0, e := 96, o := true, xs := t })))
def dd56 : (List (Int × (Int × (Int × (List Int))))) := []
abbrev c56 (m : (List (Int × (Int × (Int × (List Int))))) → Option (List (Int × (Int × (Int × (List Int)))))) := fnT (cx := cxT) a56 n56 dd56 m
theorem hs56 : ∀ t, noRoV (n56 t) = true ∨ noOwnV (n56 t) = true := fun _ => .inl rfl
/-! loop.example/g00222/impl.ConfigFault -/
def a57 : Args cxT.ty (Int × (List (Int × (Int × (Int × (Int × Bool))))) × (List (Int × (Int × (Int × (List Int)))))) := (Args.one (Arg.agg (SArg.cons (LArg.int .i64) (SArg.cons (LArg.row 83) (SArg.one (LArg.row 96))))))
def n57 : Int → V cxT.ty := fun t => (.inl (.inl (lv (.int .i64 t))))
def dd57 : Int := (0 : Int)
abbrev c57 (m : (Int × (List (Int × (Int × (Int × (Int × Bool))))) × (List (Int × (Int × (Int × (List Int)))))) → Option Int) := fnT (cx := cxT) a57 n57 dd57 m
theorem hs57 : ∀ t, noRoV (n57 t) = true ∨ noOwnV (n57 t) = true := fun _ => .inl rfl
/-! loop.example/g00222/impl.isNothing -/
def a58 : Args cxT.ty (Int × (List (Int × (Int × (Int × (Int × Bool))))) × (List (Int × (Int × (Int × (List Int)))))) := (Args.one (Arg.agg (SArg.cons (LArg.int .i64) (SArg.cons (LArg.row 83) (SArg.one (LArg.row 96))))))
def n58 : Bool → V cxT.ty := fun t => (.inl (.inl (lv (.bool t))))
def dd58 : Bool := false
abbrev c58 (m : (Int × (List (Int × (Int × (Int × (Int × Bool))))) × (List (Int × (Int × (Int × (List Int)))))) → Option Bool) := fnT (cx := cxT) a58 n58 dd58 m
theorem hs58 : ∀ t, noRoV (n58 t) = true ∨ noOwnV (n58 t) = true := fun _ => .inl rfl
/-! loop.example/g00222/impl.CmdFault -/
def a59 : Args cxT.ty (Int × Int × Int × Int × Int × Int) := (Args.one (Arg.agg (SArg.cons (LArg.int .i64) (SArg.cons (LArg.int .i64) (SArg.cons (LArg.int .i64) (SArg.cons (LArg.int .i64) (SArg.cons (LArg.int .i64) (SArg.one (LArg.int .i64)))))))))
def n59 : Int → V cxT.ty := fun t => (.inl (.inl (lv (.int .i64 t))))
def dd59 : Int := (0 : Int)
abbrev c59 (m : (Int × Int × Int × Int × Int × Int) → Option Int) := fnT (cx := cxT) a59 n59 dd59 m
/-! loop.example/g00222/laws.eqBackendS -/
def a60 : Args cxT.ty ((List (Int × (Int × (Int × (Int × Bool))))) × (List (Int × (Int × (Int × (Int × Bool)))))) := (Args.cons (Arg.leaf (LArg.row 83)) (Args.one (Arg.leaf (LArg.row 83))))
def n60 : Bool → V cxT.ty := fun t => (.inl (.inl (lv (.bool t))))
def dd60 : Bool := false
abbrev c60 (m : ((List (Int × (Int × (Int × (Int × Bool))))) × (List (Int × (Int × (Int × (Int × Bool)))))) → Option Bool) := fnT (cx := cxT) a60 n60 dd60 m
theorem hs60 : ∀ t, noRoV (n60 t) = true ∨ noOwnV (n60 t) = true := fun _ => .inl rfl
/-! loop.example/g00222/laws.eqVipS -/
def a61 : Args cxT.ty ((List (Int × (Int × (Int × (List Int))))) × (List (Int × (Int × (Int × (List Int)))))) := (Args.cons (Arg.leaf (LArg.row 96)) (Args.one (Arg.leaf (LArg.row 96))))
def n61 : Bool → V cxT.ty := fun t => (.inl (.inl (lv (.bool t))))
def dd61 : Bool := false
abbrev c61 (m : ((List (Int × (Int × (Int × (List Int))))) × (List (Int × (Int × (Int × (List Int)))))) → Option Bool) := fnT (cx := cxT) a61 n61 dd61 m
theorem hs61 : ∀ t, noRoV (n61 t) = true ∨ noOwnV (n61 t) = true := fun _ => .inl rfl
/-! loop.example/g00222/laws.szVip -/
def a67 : Args cxT.ty ((Int × Int × Int × (List Int)) × Int) := (Args.cons (Arg.agg (SArg.cons (LArg.int .i64) (SArg.cons (LArg.int .i64) (SArg.cons (LArg.int .i64) (SArg.one (LArg.row 2)))))) (Args.one (Arg.leaf (LArg.int .i64))))
def n67 : Int → V cxT.ty := fun t => (.inl (.inl (lv (.int .i64 t))))
def dd67 : Int := (0 : Int)
abbrev c67 (m : ((Int × Int × Int × (List Int)) × Int) → Option Int) := fnT (cx := cxT) a67 n67 dd67 m
theorem hs67 : ∀ t, noRoV (n67 t) = true ∨ noOwnV (n67 t) = true := fun _ => .inl rfl
/-! loop.example/g00222/spec.l2Port -/
def a68 : Args cxT.ty Int := (Args.one (Arg.leaf (LArg.int .i64)))
def n68 : Bool → V cxT.ty := fun t => (.inl (.inl (lv (.bool t))))
def dd68 : Bool := false
abbrev c68 (m : Int → Option Bool) := fnT (cx := cxT) a68 n68 dd68 m
theorem hs68 : ∀ t, noRoV (n68 t) = true ∨ noOwnV (n68 t) = true := fun _ => .inl rfl
/-! loop.example/g00222/spec.l5Behind -/
def a69 : Args cxT.ty ((Int × Int × Int × (List Int)) × (Int × Int × Int × (List Int))) := (Args.cons (Arg.agg (SArg.cons (LArg.int .i64) (SArg.cons (LArg.int .i64) (SArg.cons (LArg.int .i64) (SArg.one (LArg.row 2)))))) (Args.one (Arg.agg (SArg.cons (LArg.int .i64) (SArg.cons (LArg.int .i64) (SArg.cons (LArg.int .i64) (SArg.one (LArg.row 2))))))))
def n69 : Bool → V cxT.ty := fun t => (.inl (.inl (lv (.bool t))))
def dd69 : Bool := false
abbrev c69 (m : ((Int × Int × Int × (List Int)) × (Int × Int × Int × (List Int))) → Option Bool) := fnT (cx := cxT) a69 n69 dd69 m
theorem hs69 : ∀ t, noRoV (n69 t) = true ∨ noOwnV (n69 t) = true := fun _ => .inl rfl
/-! loop.example/g00222/spec.l5At -/
def a70 : Args cxT.ty ((Int × ((List (Int × (Int × (Int × (Int × Bool))))) × (List (Int × (Int × (Int × (List Int))))))) × Int) := (Args.cons (Arg.leaf (LArg.ptr 34)) (Args.one (Arg.leaf (LArg.int .i64))))
def n70 : Int → V cxT.ty := fun t => (.inl (.inl (lv (.int .i64 t))))
def dd70 : Int := (0 : Int)
abbrev c70 (m : ((Int × ((List (Int × (Int × (Int × (Int × Bool))))) × (List (Int × (Int × (Int × (List Int))))))) × Int) → Option Int) := fnT (cx := cxT) a70 n70 dd70 m
theorem hs70 : ∀ t, noRoV (n70 t) = true ∨ noOwnV (n70 t) = true := fun _ => .inl rfl
/-! loop.example/g00222/laws.toBackend -/
def a71 : Args cxT.ty (Int × Int × Int × Int × Bool) := (Args.one (Arg.agg (SArg.cons (LArg.int .i64) (SArg.cons (LArg.int .i64) (SArg.cons (LArg.int .i64) (SArg.cons (LArg.int .i64) (SArg.one LArg.bool)))))))
def n71 : (Int × Int × Int × Int × Bool) → V cxT.ty := fun t => (.inl (.inr [(lv (.int .i64 t.1)), (lv (.int .i64 t.2.1)), (lv (.int .i64 t.2.2.1)), (lv (.int .i64 t.2.2.2.1)), (lv (.bool t.2.2.2.2))]))
def dd71 : (Int × Int × Int × Int × Bool) := ((0 : Int), (0 : Int), (0 : Int), (0 : Int), false)
abbrev c71 (m : (Int × Int × Int × Int × Bool) → Option (Int × Int × Int × Int × Bool)) := fnT (cx := cxT) a71 n71 dd71 m
theorem hs71 : ∀ t, noRoV (n71 t) = true ∨ noOwnV (n71 t) = true := fun _ => .inl rfl
/-! loop.example/g00222/laws.toVip -/
def a72 : Args cxT.ty (Int × Int × Int × (List Int)) := (Args.one (Arg.agg (SArg.cons (LArg.int .i64) (SArg.cons (LArg.int .i64) (SArg.cons (LArg.int .i64) (SArg.one (LArg.row 2)))))))
def n72 : (Int × Int × Int × (List Int)) → V cxT.ty := fun t => (.inl (.inr [(lv (.int .i64 t.1)), (lv (.int .i64 t.2.1)), (lv (.int .i64 t.2.2.1)), (ls { own := 2, nm := 0, e := 2, o := true, xs := t.2.2.2 })]))
def dd72 : (Int × Int × Int × (List Int)) := ((0 : Int), (0 : Int), (0 : Int), [])
abbrev c72 (m : (Int × Int × Int × (List Int)) → Option (Int × Int × Int × (List Int))) := fnT (cx := cxT) a72 n72 dd72 m
theorem hs72 : ∀ t, noRoV (n72 t) = true ∨ noOwnV (n72 t) = true := fun _ => .inl rfl
/-! loop.example/g00222/impl.isBackend -/
def a73 : Args cxT.ty (Int × Int × Int × Int × Bool) := (Args.one (Arg.agg (SArg.cons (LArg.int .i64) (SArg.cons (LArg.int .i64) (SArg.cons (LArg.int .i64) (SArg.cons (LArg.int .i64) (SArg.one LArg.bool)))))))
def n73 : Bool → V cxT.ty := fun t => (.inl (.inl (lv (.bool t))))
def dd73 : Bool := false
abbrev c73 (m : (Int × Int × Int × Int × Bool) → Option Bool) := fnT (cx := cxT) a73 n73 dd73 m
theorem hs73 : ∀ t, noRoV (n73 t) = true ∨ noOwnV (n73 t) = true := fun _ => .inl rfl
/-! loop.example/g00222/impl.isServed -/
def a74 : Args cxT.ty (Int × Int × Int × (List Int)) := (Args.one (Arg.agg (SArg.cons (LArg.int .i64) (SArg.cons (LArg.int .i64) (SArg.cons (LArg.int .i64) (SArg.one (LArg.row 2)))))))
def n74 : Bool → V cxT.ty := fun t => (.inl (.inl (lv (.bool t))))
def dd74 : Bool := false
abbrev c74 (m : (Int × Int × Int × (List Int)) → Option Bool) := fnT (cx := cxT) a74 n74 dd74 m
theorem hs74 : ∀ t, noRoV (n74 t) = true ∨ noOwnV (n74 t) = true := fun _ => .inl rfl
/-! loop.example/g00222/impl.compareVips -/
def a75 : Args cxT.ty ((Int × Int × Int × (List Int)) × (Int × Int × Int × (List Int))) := (Args.cons (Arg.agg (SArg.cons (LArg.int .i64) (SArg.cons (LArg.int .i64) (SArg.cons (LArg.int .i64) (SArg.one (LArg.row 2)))))) (Args.one (Arg.agg (SArg.cons (LArg.int .i64) (SArg.cons (LArg.int .i64) (SArg.cons (LArg.int .i64) (SArg.one (LArg.row 2))))))))
def n75 : Int → V cxT.ty := fun t => (.inl (.inl (lv (.int .i64 t))))
def dd75 : Int := (0 : Int)
abbrev c75 (m : ((Int × Int × Int × (List Int)) × (Int × Int × Int × (List Int))) → Option Int) := fnT (cx := cxT) a75 n75 dd75 m
theorem hs75 : ∀ t, noRoV (n75 t) = true ∨ noOwnV (n75 t) = true := fun _ => .inl rfl
/-! loop.example/g00222/impl.namesFault -/
def a76 : Args cxT.ty ((List Int) × (List (Int × (Int × (Int × (Int × Bool)))))) := (Args.cons (Arg.leaf (LArg.row 2)) (Args.one (Arg.leaf (LArg.row 83))))
def n76 : Int → V cxT.ty := fun t => (.inl (.inl (lv (.int .i64 t))))
def dd76 : Int := (0 : Int)
abbrev c76 (m : ((List Int) × (List (Int × (Int × (Int × (Int × Bool)))))) → Option Int) := fnT (cx := cxT) a76 n76 dd76 m
theorem hs76 : ∀ t, noRoV (n76 t) = true ∨ noOwnV (n76 t) = true := fun _ => .inl rfl
/-! loop.example/g00222/impl.SameConfigs -/
def a77 : Args cxT.ty ((Int × (List (Int × (Int × (Int × (Int × Bool))))) × (List (Int × (Int × (Int × (List Int)))))) × (Int × (List (Int × (Int × (Int × (Int × Bool))))) × (List (Int × (Int × (Int × (List Int))))))) := (Args.cons (Arg.agg (SArg.cons (LArg.int .i64) (SArg.cons (LArg.row 83) (SArg.one (LArg.row 96))))) (Args.one (Arg.agg (SArg.cons (LArg.int .i64) (SArg.cons (LArg.row 83) (SArg.one (LArg.row 96)))))))
def n77 : Bool → V cxT.ty := fun t => (.inl (.inl (lv (.bool t))))
def dd77 : Bool := false
abbrev c77 (m : ((Int × (List (Int × (Int × (Int × (Int × Bool))))) × (List (Int × (Int × (Int × (List Int)))))) × (Int × (List (Int × (Int × (Int × (Int × Bool))))) × (List (Int × (Int × (Int × (List Int))))))) → Option Bool) := fnT (cx := cxT) a77 n77 dd77 m
theorem hs77 : ∀ t, noRoV (n77 t) = true ∨ noOwnV (n77 t) = true := fun _ => .inl rfl
/-! loop.example/g00222/laws.eqBackend -/
def a79 : Args cxT.ty ((Int × Int × Int × Int × Bool) × (Int × Int × Int × Int × Bool)) := (Args.cons (Arg.agg (SArg.cons (LArg.int .i64) (SArg.cons (LArg.int .i64) (SArg.cons (LArg.int .i64) (SArg.cons (LArg.int .i64) (SArg.one LArg.bool)))))) (Args.one (Arg.agg (SArg.cons (LArg.int .i64) (SArg.cons (LArg.int .i64) (SArg.cons (LArg.int .i64) (SArg.cons (LArg.int .i64) (SArg.one LArg.bool))))))))
def n79 : Bool → V cxT.ty := fun t => (.inl (.inl (lv (.bool t))))
def dd79 : Bool := false
abbrev c79 (m : ((Int × Int × Int × Int × Bool) × (Int × Int × Int × Int × Bool)) → Option Bool) := fnT (cx := cxT) a79 n79 dd79 m
theorem hs79 : ∀ t, noRoV (n79 t) = true ∨ noOwnV (n79 t) = true := fun _ => .inl rfl
/-! loop.example/g00222/laws.eqVip -/
def a80 : Args cxT.ty ((Int × Int × Int × (List Int)) × (Int × Int × Int × (List Int))) := (Args.cons (Arg.agg (SArg.cons (LArg.int .i64) (SArg.cons (LArg.int .i64) (SArg.cons (LArg.int .i64) (SArg.one (LArg.row 2)))))) (Args.one (Arg.agg (SArg.cons (LArg.int .i64) (SArg.cons (LArg.int .i64) (SArg.cons (LArg.int .i64) (SArg.one (LArg.row 2))))))))
def n80 : Bool → V cxT.ty := fun t => (.inl (.inl (lv (.bool t))))
def dd80 : Bool := false
abbrev c80 (m : ((Int × Int × Int × (List Int)) × (Int × Int × Int × (List Int))) → Option Bool) := fnT (cx := cxT) a80 n80 dd80 m
theorem hs80 : ∀ t, noRoV (n80 t) = true ∨ noOwnV (n80 t) = true := fun _ => .inl rfl
/-! loop.example/g00222/laws.szInt64S -/
def a83 : Args cxT.ty ((List Int) × Int) := (Args.cons (Arg.leaf (LArg.row 2)) (Args.one (Arg.leaf (LArg.int .i64))))
def n83 : Int → V cxT.ty := fun t => (.inl (.inl (lv (.int .i64 t))))
def dd83 : Int := (0 : Int)
abbrev c83 (m : ((List Int) × Int) → Option Int) := fnT (cx := cxT) a83 n83 dd83 m
theorem hs83 : ∀ t, noRoV (n83 t) = true ∨ noOwnV (n83 t) = true := fun _ => .inl rfl
/-! loop.example/g00222/laws.toInt64S -/
def a84 : Args cxT.ty (List Int) := (Args.one (Arg.leaf (LArg.row 2)))
def n84 : (List Int) → V cxT.ty := fun t => (.inl (.inl (ls { own := 2, nm := 0, e := 2, o := true, xs := t })))
def dd84 : (List Int) := []
abbrev c84 (m : (List Int) → Option (List Int)) := fnT (cx := cxT) a84 n84 dd84 m
theorem hs84 : ∀ t, noRoV (n84 t) = true ∨ noOwnV (n84 t) = true := fun _ => .inl rfl
/-! loop.example/g00222/impl.isName -/
def a85 : Args cxT.ty Int := (Args.one (Arg.leaf (LArg.int .i64)))
def n85 : Bool → V cxT.ty := fun t => (.inl (.inl (lv (.bool t))))
def dd85 : Bool := false
abbrev c85 (m : Int → Option Bool) := fnT (cx := cxT) a85 n85 dd85 m
theorem hs85 : ∀ t, noRoV (n85 t) = true ∨ noOwnV (n85 t) = true := fun _ => .inl rfl
/-! loop.example/g00222/impl.isAddress -/
def a86 : Args cxT.ty Int := (Args.one (Arg.leaf (LArg.int .i64)))
def n86 : Bool → V cxT.ty := fun t => (.inl (.inl (lv (.bool t))))
def dd86 : Bool := false
abbrev c86 (m : Int → Option Bool) := fnT (cx := cxT) a86 n86 dd86 m
theorem hs86 : ∀ t, noRoV (n86 t) = true ∨ noOwnV (n86 t) = true := fun _ => .inl rfl
/-! loop.example/g00222/impl.isWeight -/
def a87 : Args cxT.ty Int := (Args.one (Arg.leaf (LArg.int .i64)))
def n87 : Bool → V cxT.ty := fun t => (.inl (.inl (lv (.bool t))))
def dd87 : Bool := false
abbrev c87 (m : Int → Option Bool) := fnT (cx := cxT) a87 n87 dd87 m
theorem hs87 : ∀ t, noRoV (n87 t) = true ∨ noOwnV (n87 t) = true := fun _ => .inl rfl
/-! loop.example/g00222/impl.isStage -/
def a88 : Args cxT.ty Int := (Args.one (Arg.leaf (LArg.int .i64)))
def n88 : Bool → V cxT.ty := fun t => (.inl (.inl (lv (.bool t))))
def dd88 : Bool := false
abbrev c88 (m : Int → Option Bool) := fnT (cx := cxT) a88 n88 dd88 m
theorem hs88 : ∀ t, noRoV (n88 t) = true ∨ noOwnV (n88 t) = true := fun _ => .inl rfl
/-! loop.example/g00222/impl.isPort -/
def a89 : Args cxT.ty Int := (Args.one (Arg.leaf (LArg.int .i64)))
def n89 : Bool → V cxT.ty := fun t => (.inl (.inl (lv (.bool t))))
def dd89 : Bool := false
abbrev c89 (m : Int → Option Bool) := fnT (cx := cxT) a89 n89 dd89 m
theorem hs89 : ∀ t, noRoV (n89 t) = true ∨ noOwnV (n89 t) = true := fun _ => .inl rfl
/-! loop.example/g00222/impl.isProto -/
def a90 : Args cxT.ty Int := (Args.one (Arg.leaf (LArg.int .i64)))
def n90 : Bool → V cxT.ty := fun t => (.inl (.inl (lv (.bool t))))
def dd90 : Bool := false
abbrev c90 (m : Int → Option Bool) := fnT (cx := cxT) a90 n90 dd90 m
theorem hs90 : ∀ t, noRoV (n90 t) = true ∨ noOwnV (n90 t) = true := fun _ => .inl rfl
/-! cmp.Or[int] -/
def a91 : Args cxT.ty (List Int) := (Args.one (Arg.leaf (LArg.row 3)))
def n91 : Int → V cxT.ty := fun t => (.inl (.inl (lv (.int .i64 t))))
def dd91 : Int := (0 : Int)
abbrev c91 (m : (List Int) → Option Int) := fnT (cx := cxT) a91 n91 dd91 m
theorem hs91 : ∀ t, noRoV (n91 t) = true ∨ noOwnV (n91 t) = true := fun _ => .inl rfl
/-! cmp.Compare[int64] -/
def a92 : Args cxT.ty (Int × Int) := (Args.cons (Arg.leaf (LArg.int .i64)) (Args.one (Arg.leaf (LArg.int .i64))))
def n92 : Int → V cxT.ty := fun t => (.inl (.inl (lv (.int .i64 t))))
def dd92 : Int := (0 : Int)
abbrev c92 (m : (Int × Int) → Option Int) := fnT (cx := cxT) a92 n92 dd92 m
theorem hs92 : ∀ t, noRoV (n92 t) = true ∨ noOwnV (n92 t) = true := fun _ => .inl rfl
/-! loop.example/g00222/impl.backendPlace -/
def a93 : Args cxT.ty ((List (Int × (Int × (Int × (Int × Bool))))) × Int) := (Args.cons (Arg.leaf (LArg.row 83)) (Args.one (Arg.leaf (LArg.int .i64))))
def n93 : (Int × Bool) → V cxT.ty := fun t => (.inr (.inl [(.inl (lv (.int .i64 t.1))), (.inl (lv (.bool t.2)))]))
def dd93 : (Int × Bool) := ((0 : Int), false)
abbrev c93 (m : ((List (Int × (Int × (Int × (Int × Bool))))) × Int) → Option (Int × Bool)) := fnT (cx := cxT) a93 n93 dd93 m
theorem hs93 : ∀ t, noRoV (n93 t) = true ∨ noOwnV (n93 t) = true := fun _ => .inl rfl
/-! slices.Equal[[]loop.example/g00222/impl.Backend,loop.example/g00222/impl.Backend] -/
def a94 : Args cxT.ty ((List (Int × (Int × (Int × (Int × Bool))))) × (List (Int × (Int × (Int × (Int × Bool)))))) := (Args.cons (Arg.leaf (LArg.row 83)) (Args.one (Arg.leaf (LArg.row 83))))
def n94 : Bool → V cxT.ty := fun t => (.inl (.inl (lv (.bool t))))
def dd94 : Bool := false
abbrev c94 (m : ((List (Int × (Int × (Int × (Int × Bool))))) × (List (Int × (Int × (Int × (Int × Bool)))))) → Option Bool) := fnT (cx := cxT) a94 n94 dd94 m
theorem hs94 : ∀ t, noRoV (n94 t) = true ∨ noOwnV (n94 t) = true := fun _ => .inl rfl
/-! slices.EqualFunc[[]loop.example/g00222/impl.Vip,[]loop.example/g00222/impl.Vip,loop.example/g00222/impl.Vip,loop.example/g00222/impl.Vip] -/
def a95 : Args cxT.ty ((List (Int × (Int × (Int × (List Int))))) × (List (Int × (Int × (Int × (List Int))))) × Unit) := (Args.cons (Arg.leaf (LArg.row 96)) (Args.cons (Arg.leaf (LArg.row 96)) (Args.one (Arg.leaf (LArg.fn 96)))))
def n95 : Bool → V cxT.ty := fun t => (.inl (.inl (lv (.bool t))))
def dd95 : Bool := false
abbrev c95 (m : ((List (Int × (Int × (Int × (List Int))))) × (List (Int × (Int × (Int × (List Int))))) × Unit) → Option Bool) := fnT (cx := cxT) a95 n95 dd95 m
theorem hs95 : ∀ t, noRoV (n95 t) = true ∨ noOwnV (n95 t) = true := fun _ => .inl rfl
/-! loop.example/g00222/impl.sameVip -/
def a96 : Args cxT.ty ((Int × Int × Int × (List Int)) × (Int × Int × Int × (List Int))) := (Args.cons (Arg.agg (SArg.cons (LArg.int .i64) (SArg.cons (LArg.int .i64) (SArg.cons (LArg.int .i64) (SArg.one (LArg.row 2)))))) (Args.one (Arg.agg (SArg.cons (LArg.int .i64) (SArg.cons (LArg.int .i64) (SArg.cons (LArg.int .i64) (SArg.one (LArg.row 2))))))))
def n96 : Bool → V cxT.ty := fun t => (.inl (.inl (lv (.bool t))))
def dd96 : Bool := false
abbrev c96 (m : ((Int × Int × Int × (List Int)) × (Int × Int × Int × (List Int))) → Option Bool) := fnT (cx := cxT) a96 n96 dd96 m
theorem hs96 : ∀ t, noRoV (n96 t) = true ∨ noOwnV (n96 t) = true := fun _ => .inl rfl
/-! loop.example/g00222/impl.isYesOrNo -/
def a105 : Args cxT.ty Int := (Args.one (Arg.leaf (LArg.int .i64)))
def n105 : Bool → V cxT.ty := fun t => (.inl (.inl (lv (.bool t))))
def dd105 : Bool := false
abbrev c105 (m : Int → Option Bool) := fnT (cx := cxT) a105 n105 dd105 m
theorem hs105 : ∀ t, noRoV (n105 t) = true ∨ noOwnV (n105 t) = true := fun _ => .inl rfl
/-! loop.example/g00222/laws.eqInt64S -/
def a107 : Args cxT.ty ((List Int) × (List Int)) := (Args.cons (Arg.leaf (LArg.row 2)) (Args.one (Arg.leaf (LArg.row 2))))
def n107 : Bool → V cxT.ty := fun t => (.inl (.inl (lv (.bool t))))
def dd107 : Bool := false
abbrev c107 (m : ((List Int) × (List Int)) → Option Bool) := fnT (cx := cxT) a107 n107 dd107 m
theorem hs107 : ∀ t, noRoV (n107 t) = true ∨ noOwnV (n107 t) = true := fun _ => .inl rfl
/-! cmp.isNaN[int64] -/
def a109 : Args cxT.ty Int := (Args.one (Arg.leaf (LArg.int .i64)))
def n109 : Bool → V cxT.ty := fun t => (.inl (.inl (lv (.bool t))))
def dd109 : Bool := false
abbrev c109 (m : Int → Option Bool) := fnT (cx := cxT) a109 n109 dd109 m
theorem hs109 : ∀ t, noRoV (n109 t) = true ∨ noOwnV (n109 t) = true := fun _ => .inl rfl
/-! slices.BinarySearchFunc[[]loop.example/g00222/impl.Backend,loop.example/g00222/impl.Backend,int64] -/
def a110 : Args cxT.ty ((List (Int × (Int × (Int × (Int × Bool))))) × Int × Unit) := (Args.cons (Arg.leaf (LArg.row 83)) (Args.cons (Arg.leaf (LArg.int .i64)) (Args.one (Arg.leaf (LArg.fn 111)))))
def n110 : (Int × Bool) → V cxT.ty := fun t => (.inr (.inl [(.inl (lv (.int .i64 t.1))), (.inl (lv (.bool t.2)))]))
def dd110 : (Int × Bool) := ((0 : Int), false)
abbrev c110 (m : ((List (Int × (Int × (Int × (Int × Bool))))) × Int × Unit) → Option (Int × Bool)) := fnT (cx := cxT) a110 n110 dd110 m
theorem hs110 : ∀ t, noRoV (n110 t) = true ∨ noOwnV (n110 t) = true := fun _ => .inl rfl
/-! loop.example/g00222/impl.backendPlace$1 -/
def a111 : Args cxT.ty ((Int × Int × Int × Int × Bool) × Int) := (Args.cons (Arg.agg (SArg.cons (LArg.int .i64) (SArg.cons (LArg.int .i64) (SArg.cons (LArg.int .i64) (SArg.cons (LArg.int .i64) (SArg.one LArg.bool)))))) (Args.one (Arg.leaf (LArg.int .i64))))
def n111 : Int → V cxT.ty := fun t => (.inl (.inl (lv (.int .i64 t))))
def dd111 : Int := (0 : Int)
abbrev c111 (m : ((Int × Int × Int × Int × Bool) × Int) → Option Int) := fnT (cx := cxT) a111 n111 dd111 m
theorem hs111 : ∀ t, noRoV (n111 t) = true ∨ noOwnV (n111 t) = true := fun _ => .inl rfl
/-! slices.Equal[[]int64,int64] -/
def a112 : Args cxT.ty ((List Int) × (List Int)) := (Args.cons (Arg.leaf (LArg.row 2)) (Args.one (Arg.leaf (LArg.row 2))))
def n112 : Bool → V cxT.ty := fun t => (.inl (.inl (lv (.bool t))))
def dd112 : Bool := false
abbrev c112 (m : ((List Int) × (List Int)) → Option Bool) := fnT (cx := cxT) a112 n112 dd112 m
theorem hs112 : ∀ t, noRoV (n112 t) = true ∨ noOwnV (n112 t) = true := fun _ => .inl rfl
end Go.Proofs.Tryz
