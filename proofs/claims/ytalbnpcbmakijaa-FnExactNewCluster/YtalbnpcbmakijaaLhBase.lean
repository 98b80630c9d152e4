/- A part of the proof of FnExactNewCluster: LhBase, LhCon. -/
import Derived.Test.YtalbnpcbmakijaaVmJ
import Derived.Test.YtalbnpcbmakijaaProg
namespace Go.Proofs.Try
open Go Go.VM Go.RowKit

abbrev E9 : Type := Int × Int × Int × Int × Int × Int × Int × Int × Int
abbrev N10 : Type := Int × Int × Int × Int × (List E9) × Int × Int × (List Int) × (List Int) × (List Int)
abbrev M9 : Type := Int × Int × Int × Int × Int × Int × Int × Bool × (List E9)
abbrev S10 : Type := Int × E9
abbrev W2 : Type := Int × Int
abbrev C4 : Type := (List N10) × (List M9) × (List W2) × (List S10)
abbrev R5 : Type := Int × C4
def tyT (e : Nat) : Type := if e = 2 then Int else if e = 3 then Int else if e = 5 then Int else if e = 64 then E9 else if e = 56 then M9 else if e = 38 then N10 else if e = 59 then Int × Int else if e = 66 then S10 else if e = 27 then C4 else Unit
def inhT (e : Nat) : tyT e := by
  unfold tyT
  repeat' split
  all_goals first | exact ((0 : Int) : Int) | exact ((0 : Int) : Int) | exact ((0 : Int) : Int) | exact (((0 : Int), (0 : Int), (0 : Int), (0 : Int), (0 : Int), (0 : Int), (0 : Int), (0 : Int), (0 : Int)) : E9) | exact (((0 : Int), (0 : Int), (0 : Int), (0 : Int), (0 : Int), (0 : Int), (0 : Int), false, []) : M9) | exact (((0 : Int), (0 : Int), (0 : Int), (0 : Int), [], (0 : Int), (0 : Int), [], [], []) : N10) | exact (((0 : Int), (0 : Int)) : Int × Int) | exact (((0 : Int), (0 : Int), (0 : Int), (0 : Int), (0 : Int), (0 : Int), (0 : Int), (0 : Int), (0 : Int), (0 : Int)) : S10) | exact (([], [], [], []) : C4) | exact ()
def cd2 : Cd tyT (tyT 2) := cdInt .i64
def cd3 : Cd tyT (tyT 3) := cdInt .i64
def cd5 : Cd tyT (tyT 5) := cdInt .u8
def cd64 : Cd tyT (tyT 64) := cdPair (cdInt .i64) (cdPair (cdInt .i64) (cdPair (cdInt .i64) (cdPair (cdInt .i64) (cdPair (cdInt .i64) (cdPair (cdInt .i64) (cdPair (cdInt .i64) (cdPair (cdInt .i64) (cdInt .i64))))))))
def cd56 : Cd tyT (tyT 56) := cdPair (cdInt .i64) (cdPair (cdInt .i64) (cdPair (cdInt .i64) (cdPair (cdInt .i64) (cdPair (cdInt .i64) (cdPair (cdInt .i64) (cdPair (cdInt .i64) (cdPair cdBool (cdRow 64))))))))
def cd38 : Cd tyT (tyT 38) := cdPair (cdInt .i64) (cdPair (cdInt .i64) (cdPair (cdInt .i64) (cdPair (cdInt .i64) (cdPair (cdRow 64) (cdPair (cdInt .i64) (cdPair (cdInt .i64) (cdPair (cdRow 2) (cdPair (cdRow 2) (cdRow 2)))))))))
def cd59 : Cd tyT (tyT 59) := cdPair (cdInt .i64) (cdInt .i64)
def cd66 : Cd tyT (tyT 66) := cdPair (cdInt .i64) (cdPair (cdInt .i64) (cdPair (cdInt .i64) (cdPair (cdInt .i64) (cdPair (cdInt .i64) (cdPair (cdInt .i64) (cdPair (cdInt .i64) (cdPair (cdInt .i64) (cdPair (cdInt .i64) (cdInt .i64)))))))))
def cd27 : Cd tyT (tyT 27) := cdPair (cdRow 38) (cdPair (cdRow 56) (cdPair (cdRow 59) (cdRow 66)))
def cdT (e : Nat) : Cd tyT (tyT e) :=
  if h : e = 2 then h.symm ▸ cd2 else if h : e = 3 then h.symm ▸ cd3 else if h : e = 5 then h.symm ▸ cd5 else if h : e = 64 then h.symm ▸ cd64 else if h : e = 56 then h.symm ▸ cd56 else if h : e = 38 then h.symm ▸ cd38 else if h : e = 59 then h.symm ▸ cd59 else if h : e = 66 then h.symm ▸ cd66 else if h : e = 27 then h.symm ▸ cd27 else cdNone (inhT e)
def cxT : Cx := Cx.of cdT
theorem cxT_ok : cxT.Ok := Cx.of_ok cdT
set_option maxRecDepth 100000 in
theorem dom_cases {e : Nat} (h : (cdT e).dom = true) : e = 2 ∨ e = 3 ∨ e = 5 ∨ e = 64 ∨ e = 59 ∨ e = 66 := by
  by_cases h0 : e = 2
  · exact .inl h0
  by_cases h1 : e = 3
  · exact .inr (.inl h1)
  by_cases h2 : e = 5
  · exact .inr (.inr (.inl h2))
  by_cases h3 : e = 64
  · exact .inr (.inr (.inr (.inl h3)))
  by_cases h4 : e = 56
  · subst h4; exact absurd h (by intro hh; cases (show false = true from hh))
  by_cases h5 : e = 38
  · subst h5; exact absurd h (by intro hh; cases (show false = true from hh))
  by_cases h6 : e = 59
  · exact .inr (.inr (.inr (.inr (.inl h6))))
  by_cases h7 : e = 66
  · exact .inr (.inr (.inr (.inr (.inr (h7)))))
  by_cases h8 : e = 27
  · subst h8; exact absurd h (by intro hh; cases (show false = true from hh))
  · unfold cdT at h; rw [dif_neg h0, dif_neg h1, dif_neg h2, dif_neg h3, dif_neg h4, dif_neg h5, dif_neg h6, dif_neg h7, dif_neg h8] at h; exact Bool.noConfusion h

set_option maxRecDepth 100000 in
theorem cxT_pok : cxT.POk prog := by
  refine ⟨fun e he => ?_, fun e he hu o x => ?_⟩
  · rcases dom_cases he with rfl | rfl | rfl | rfl | rfl | rfl <;>
    exact ⟨_, _, rfl, rfl, rfl, by decide, rfl, by decide, rfl⟩
  · rcases dom_cases he with rfl | rfl | rfl | rfl | rfl | rfl
    · rw [show prog.underlying 2 = _ from rfl] at hu; cases hu
    · rw [show prog.underlying 3 = _ from rfl] at hu; cases hu
    · exact ⟨x, rfl⟩
    · rw [show prog.underlying 64 = _ from rfl] at hu; cases hu
    · rw [show prog.underlying 59 = _ from rfl] at hu; cases hu
    · rw [show prog.underlying 66 = _ from rfl] at hu; cases hu
end Go.Proofs.Try

set_option linter.unusedVariables false
namespace Go.Proofs.Try
open Go Go.VM Go.RowKit
/-! loop.example/g00222/laws.FnExactNewCluster -/
abbrev Y3 := Int → Option Bool
def a3 : Args cxT.ty Int := (Args.one (Arg.leaf (LArg.int .i64)))
def n3 : Bool → V cxT.ty := fun t => (.inl (.inl (lv (.bool t))))
def dd3 : Bool := false
abbrev c3 (m : Y3) := fnT (cx := cxT) a3 n3 dd3 m
theorem hs3 : ∀ t, noRoV (n3 t) = true ∨ noOwnV (n3 t) = true := fun _ => .inl rfl
/-! loop.example/g00222/spec.NewCluster -/
abbrev Y4 := Int → Option R5
def a4 : Args cxT.ty Int := (Args.one (Arg.leaf (LArg.int .i64)))
def n4 : R5 → V cxT.ty := fun t => (.inl (.inr [(lv (.int .i64 t.1)), (ls { own := 2, nm := 0, e := 38, o := true, xs := t.2.1 }), (ls { own := 2, nm := 0, e := 56, o := true, xs := t.2.2.1 }), (ls { own := 2, nm := 0, e := 59, o := true, xs := t.2.2.2.1 }), (ls { own := 2, nm := 0, e := 66, o := true, xs := t.2.2.2.2 })]))
def dd4 : R5 := ((0 : Int), [], [], [], [])
abbrev c4 (m : Y4) := fnT (cx := cxT) a4 n4 dd4 m
theorem hs4 : ∀ t, noRoV (n4 t) = true ∨ noOwnV (n4 t) = true := fun _ => .inl rfl
/-! loop.example/g00222/impl.NewCluster -/
abbrev Y5 := Int → Option R5
def a5 : Args cxT.ty Int := (Args.one (Arg.leaf (LArg.int .i64)))
def n5 : R5 → V cxT.ty := fun t => (.inl (.inr [(lv (.int .i64 t.1)), (ls { own := 2, nm := 0, e := 38, o := true, xs := t.2.1 }), (ls { own := 2, nm := 0, e := 56, o := true, xs := t.2.2.1 }), (ls { own := 2, nm := 0, e := 59, o := true, xs := t.2.2.2.1 }), (ls { own := 2, nm := 0, e := 66, o := true, xs := t.2.2.2.2 })]))
def dd5 : R5 := ((0 : Int), [], [], [], [])
abbrev c5 (m : Y5) := fnT (cx := cxT) a5 n5 dd5 m
theorem hs5 : ∀ t, noRoV (n5 t) = true ∨ noOwnV (n5 t) = true := fun _ => .inl rfl
/-! loop.example/g00222/laws.eqClusterResult -/
abbrev Y6 := (R5 × R5) → Option Bool
def a6 : Args cxT.ty (R5 × R5) := (Args.cons (Arg.agg (SArg.cons (LArg.int .i64) (SArg.cons (LArg.row 38) (SArg.cons (LArg.row 56) (SArg.cons (LArg.row 59) (SArg.one (LArg.row 66))))))) (Args.one (Arg.agg (SArg.cons (LArg.int .i64) (SArg.cons (LArg.row 38) (SArg.cons (LArg.row 56) (SArg.cons (LArg.row 59) (SArg.one (LArg.row 66)))))))))
def n6 : Bool → V cxT.ty := fun t => (.inl (.inl (lv (.bool t))))
def dd6 : Bool := false
abbrev c6 (m : Y6) := fnT (cx := cxT) a6 n6 dd6 m
theorem hs6 : ∀ t, noRoV (n6 t) = true ∨ noOwnV (n6 t) = true := fun _ => .inl rfl
/-! loop.example/g00222/laws.markClusterResult -/
abbrev Y7 := (R5 × Int) → Option (Int × Int × (List N10) × (List M9) × (List W2) × (List S10))
def a7 : Args cxT.ty (R5 × Int) := (Args.cons (Arg.agg (SArg.cons (LArg.int .i64) (SArg.cons (LArg.own 38) (SArg.cons (LArg.own 56) (SArg.cons (LArg.own 59) (SArg.one (LArg.own 66))))))) (Args.one (Arg.leaf (LArg.int .i64))))
def n7 : (Int × Int × (List N10) × (List M9) × (List W2) × (List S10)) → List (A cxT.ty) := fun t => [(.inl (lv (.int .i64 t.1))), (.inr [(lv (.int .i64 t.2.1)), (ls { own := 2, nm := 0, e := 38, o := true, xs := t.2.2.1 }), (ls { own := 2, nm := 0, e := 56, o := true, xs := t.2.2.2.1 }), (ls { own := 2, nm := 0, e := 59, o := true, xs := t.2.2.2.2.1 }), (ls { own := 2, nm := 0, e := 66, o := true, xs := t.2.2.2.2.2 })])]
def dd7 : (Int × Int × (List N10) × (List M9) × (List W2) × (List S10)) := ((0 : Int), (0 : Int), [], [], [], [])
abbrev c7 (m : Y7) : WFn cxT := { nres := 1, n := 1, F := fnW (cx := cxT) a7 n7 dd7 m, p := 4 }
theorem hs7 : ∀ t, noRoV (.inr (.inl (n7 t)) : V cxT.ty) = true := fun _ => rfl
/-! loop.example/g00222/laws.heldClusterResult -/
abbrev Y8 := (R5 × Int) → Option Int
def a8 : Args cxT.ty (R5 × Int) := (Args.cons (Arg.agg (SArg.cons (LArg.int .i64) (SArg.cons (LArg.row 38) (SArg.cons (LArg.row 56) (SArg.cons (LArg.row 59) (SArg.one (LArg.row 66))))))) (Args.one (Arg.leaf (LArg.int .i64))))
def n8 : Int → V cxT.ty := fun t => (.inl (.inl (lv (.int .i64 t))))
def dd8 : Int := (0 : Int)
abbrev c8 (m : Y8) := fnT (cx := cxT) a8 n8 dd8 m
theorem hs8 : ∀ t, noRoV (n8 t) = true ∨ noOwnV (n8 t) = true := fun _ => .inl rfl
/-! loop.example/g00222/spec.l1In -/
abbrev Y9 := (Int × Int × Int) → Option Bool
def a9 : Args cxT.ty (Int × Int × Int) := (Args.cons (Arg.leaf (LArg.int .i64)) (Args.cons (Arg.leaf (LArg.int .i64)) (Args.one (Arg.leaf (LArg.int .i64)))))
def n9 : Bool → V cxT.ty := fun t => (.inl (.inl (lv (.bool t))))
def dd9 : Bool := false
abbrev c9 (m : Y9) := fnT (cx := cxT) a9 n9 dd9 m
theorem hs9 : ∀ t, noRoV (n9 t) = true ∨ noOwnV (n9 t) = true := fun _ => .inl rfl
/-! loop.example/g00222/spec.l9Bad -/
abbrev Y10 := Int → Option R5
def a10 : Args cxT.ty Int := (Args.one (Arg.leaf (LArg.int .i64)))
def n10 : R5 → V cxT.ty := fun t => (.inl (.inr [(lv (.int .i64 t.1)), (ls { own := 2, nm := 0, e := 38, o := true, xs := t.2.1 }), (ls { own := 2, nm := 0, e := 56, o := true, xs := t.2.2.1 }), (ls { own := 2, nm := 0, e := 59, o := true, xs := t.2.2.2.1 }), (ls { own := 2, nm := 0, e := 66, o := true, xs := t.2.2.2.2 })]))
def dd10 : R5 := ((0 : Int), [], [], [], [])
abbrev c10 (m : Y10) := fnT (cx := cxT) a10 n10 dd10 m
theorem hs10 : ∀ t, noRoV (n10 t) = true ∨ noOwnV (n10 t) = true := fun _ => .inl rfl
/-! loop.example/g00222/impl.isPeers -/
abbrev Y11 := Int → Option Bool
def a11 : Args cxT.ty Int := (Args.one (Arg.leaf (LArg.int .i64)))
def n11 : Bool → V cxT.ty := fun t => (.inl (.inl (lv (.bool t))))
def dd11 : Bool := false
abbrev c11 (m : Y11) := fnT (cx := cxT) a11 n11 dd11 m
theorem hs11 : ∀ t, noRoV (n11 t) = true ∨ noOwnV (n11 t) = true := fun _ => .inl rfl
/-! loop.example/g00222/impl.NewNode -/
abbrev Y12 := (Int × Int) → Option (Int × Int × Int × Int × Int × (List E9) × Int × Int × (List Int) × (List Int) × (List Int) × (List M9))
def a12 : Args cxT.ty (Int × Int) := (Args.cons (Arg.leaf (LArg.int .i64)) (Args.one (Arg.leaf (LArg.int .i64))))
def n12 : (Int × Int × Int × Int × Int × (List E9) × Int × Int × (List Int) × (List Int) × (List Int) × (List M9)) → V cxT.ty := fun t => (.inl (.inr [(lv (.int .i64 t.1)), (lv (.int .i64 t.2.1)), (lv (.int .i64 t.2.2.1)), (lv (.int .i64 t.2.2.2.1)), (lv (.int .i64 t.2.2.2.2.1)), (ls { own := 2, nm := 0, e := 64, o := true, xs := t.2.2.2.2.2.1 }), (lv (.int .i64 t.2.2.2.2.2.2.1)), (lv (.int .i64 t.2.2.2.2.2.2.2.1)), (ls { own := 2, nm := 0, e := 2, o := true, xs := t.2.2.2.2.2.2.2.2.1 }), (ls { own := 2, nm := 0, e := 2, o := true, xs := t.2.2.2.2.2.2.2.2.2.1 }), (ls { own := 2, nm := 0, e := 2, o := true, xs := t.2.2.2.2.2.2.2.2.2.2.1 }), (ls { own := 2, nm := 0, e := 56, o := true, xs := t.2.2.2.2.2.2.2.2.2.2.2 })]))
def dd12 : (Int × Int × Int × Int × Int × (List E9) × Int × Int × (List Int) × (List Int) × (List Int) × (List M9)) := ((0 : Int), (0 : Int), (0 : Int), (0 : Int), (0 : Int), [], (0 : Int), (0 : Int), [], [], [], [])
abbrev c12 (m : Y12) := fnT (cx := cxT) a12 n12 dd12 m
theorem hs12 : ∀ t, noRoV (n12 t) = true ∨ noOwnV (n12 t) = true := fun _ => .inl rfl
/-! loop.example/g00222/laws.eqCluster -/
abbrev Y13 := (C4 × C4) → Option Bool
def a13 : Args cxT.ty (C4 × C4) := (Args.cons (Arg.agg (SArg.cons (LArg.row 38) (SArg.cons (LArg.row 56) (SArg.cons (LArg.row 59) (SArg.one (LArg.row 66)))))) (Args.one (Arg.agg (SArg.cons (LArg.row 38) (SArg.cons (LArg.row 56) (SArg.cons (LArg.row 59) (SArg.one (LArg.row 66))))))))
def n13 : Bool → V cxT.ty := fun t => (.inl (.inl (lv (.bool t))))
def dd13 : Bool := false
abbrev c13 (m : Y13) := fnT (cx := cxT) a13 n13 dd13 m
theorem hs13 : ∀ t, noRoV (n13 t) = true ∨ noOwnV (n13 t) = true := fun _ => .inl rfl
/-! loop.example/g00222/laws.markCluster -/
abbrev Y14 := (C4 × Int) → Option R5
def a14 : Args cxT.ty (C4 × Int) := (Args.cons (Arg.agg (SArg.cons (LArg.own 38) (SArg.cons (LArg.own 56) (SArg.cons (LArg.own 59) (SArg.one (LArg.own 66)))))) (Args.one (Arg.leaf (LArg.int .i64))))
def n14 : R5 → List (A cxT.ty) := fun t => [(.inl (lv (.int .i64 t.1))), (.inr [(ls { own := 2, nm := 0, e := 38, o := true, xs := t.2.1 }), (ls { own := 2, nm := 0, e := 56, o := true, xs := t.2.2.1 }), (ls { own := 2, nm := 0, e := 59, o := true, xs := t.2.2.2.1 }), (ls { own := 2, nm := 0, e := 66, o := true, xs := t.2.2.2.2 })])]
def dd14 : R5 := ((0 : Int), [], [], [], [])
abbrev c14 (m : Y14) : WFn cxT := { nres := 1, n := 1, F := fnW (cx := cxT) a14 n14 dd14 m, p := 4 }
theorem hs14 : ∀ t, noRoV (.inr (.inl (n14 t)) : V cxT.ty) = true := fun _ => rfl
/-! loop.example/g00222/laws.heldCluster -/
abbrev Y15 := (C4 × Int) → Option Int
def a15 : Args cxT.ty (C4 × Int) := (Args.cons (Arg.agg (SArg.cons (LArg.row 38) (SArg.cons (LArg.row 56) (SArg.cons (LArg.row 59) (SArg.one (LArg.row 66)))))) (Args.one (Arg.leaf (LArg.int .i64))))
def n15 : Int → V cxT.ty := fun t => (.inl (.inl (lv (.int .i64 t))))
def dd15 : Int := (0 : Int)
abbrev c15 (m : Y15) := fnT (cx := cxT) a15 n15 dd15 m
theorem hs15 : ∀ t, noRoV (n15 t) = true ∨ noOwnV (n15 t) = true := fun _ => .inl rfl
/-! loop.example/g00222/impl.isFromTo -/
abbrev Y16 := (Int × Int × Int) → Option Bool
def a16 : Args cxT.ty (Int × Int × Int) := (Args.cons (Arg.leaf (LArg.int .i64)) (Args.cons (Arg.leaf (LArg.int .i64)) (Args.one (Arg.leaf (LArg.int .i64)))))
def n16 : Bool → V cxT.ty := fun t => (.inl (.inl (lv (.bool t))))
def dd16 : Bool := false
abbrev c16 (m : Y16) := fnT (cx := cxT) a16 n16 dd16 m
theorem hs16 : ∀ t, noRoV (n16 t) = true ∨ noOwnV (n16 t) = true := fun _ => .inl rfl
/-! loop.example/g00222/impl.isId -/
abbrev Y17 := (Int × Int) → Option Bool
def a17 : Args cxT.ty (Int × Int) := (Args.cons (Arg.leaf (LArg.int .i64)) (Args.one (Arg.leaf (LArg.int .i64))))
def n17 : Bool → V cxT.ty := fun t => (.inl (.inl (lv (.bool t))))
def dd17 : Bool := false
abbrev c17 (m : Y17) := fnT (cx := cxT) a17 n17 dd17 m
theorem hs17 : ∀ t, noRoV (n17 t) = true ∨ noOwnV (n17 t) = true := fun _ => .inl rfl
/-! loop.example/g00222/laws.eqNodeS -/
abbrev Y18 := ((List N10) × (List N10)) → Option Bool
def a18 : Args cxT.ty ((List N10) × (List N10)) := (Args.cons (Arg.leaf (LArg.row 38)) (Args.one (Arg.leaf (LArg.row 38))))
def n18 : Bool → V cxT.ty := fun t => (.inl (.inl (lv (.bool t))))
def dd18 : Bool := false
abbrev c18 (m : Y18) := fnT (cx := cxT) a18 n18 dd18 m
theorem hs18 : ∀ t, noRoV (n18 t) = true ∨ noOwnV (n18 t) = true := fun _ => .inl rfl
/-! loop.example/g00222/laws.eqMailS -/
abbrev Y19 := ((List M9) × (List M9)) → Option Bool
def a19 : Args cxT.ty ((List M9) × (List M9)) := (Args.cons (Arg.leaf (LArg.row 56)) (Args.one (Arg.leaf (LArg.row 56))))
def n19 : Bool → V cxT.ty := fun t => (.inl (.inl (lv (.bool t))))
def dd19 : Bool := false
abbrev c19 (m : Y19) := fnT (cx := cxT) a19 n19 dd19 m
theorem hs19 : ∀ t, noRoV (n19 t) = true ∨ noOwnV (n19 t) = true := fun _ => .inl rfl
/-! loop.example/g00222/laws.eqWonS -/
abbrev Y20 := ((List W2) × (List W2)) → Option Bool
def a20 : Args cxT.ty ((List W2) × (List W2)) := (Args.cons (Arg.leaf (LArg.row 59)) (Args.one (Arg.leaf (LArg.row 59))))
def n20 : Bool → V cxT.ty := fun t => (.inl (.inl (lv (.bool t))))
def dd20 : Bool := false
abbrev c20 (m : Y20) := fnT (cx := cxT) a20 n20 dd20 m
theorem hs20 : ∀ t, noRoV (n20 t) = true ∨ noOwnV (n20 t) = true := fun _ => .inl rfl
/-! loop.example/g00222/laws.eqSealS -/
abbrev Y21 := ((List S10) × (List S10)) → Option Bool
def a21 : Args cxT.ty ((List S10) × (List S10)) := (Args.cons (Arg.leaf (LArg.row 66)) (Args.one (Arg.leaf (LArg.row 66))))
def n21 : Bool → V cxT.ty := fun t => (.inl (.inl (lv (.bool t))))
def dd21 : Bool := false
abbrev c21 (m : Y21) := fnT (cx := cxT) a21 n21 dd21 m
theorem hs21 : ∀ t, noRoV (n21 t) = true ∨ noOwnV (n21 t) = true := fun _ => .inl rfl
/-! loop.example/g00222/laws.markNodeS -/
abbrev Y22 := ((List N10) × Int) → Option (Int × (List N10))
def a22 : Args cxT.ty ((List N10) × Int) := (Args.cons (Arg.leaf (LArg.own 38)) (Args.one (Arg.leaf (LArg.int .i64))))
def n22 : (Int × (List N10)) → List (A cxT.ty) := fun t => [(.inl (lv (.int .i64 t.1))), (.inl (ls { own := 2, nm := 0, e := 38, o := true, xs := t.2 }))]
def dd22 : (Int × (List N10)) := ((0 : Int), [])
abbrev c22 (m : Y22) : WFn cxT := { nres := 1, n := 1, F := fnW (cx := cxT) a22 n22 dd22 m, p := 4 }
theorem hs22 : ∀ t, noRoV (.inr (.inl (n22 t)) : V cxT.ty) = true := fun _ => rfl
/-! loop.example/g00222/laws.markMailS -/
abbrev Y23 := ((List M9) × Int) → Option (Int × (List M9))
def a23 : Args cxT.ty ((List M9) × Int) := (Args.cons (Arg.leaf (LArg.own 56)) (Args.one (Arg.leaf (LArg.int .i64))))
def n23 : (Int × (List M9)) → List (A cxT.ty) := fun t => [(.inl (lv (.int .i64 t.1))), (.inl (ls { own := 2, nm := 0, e := 56, o := true, xs := t.2 }))]
def dd23 : (Int × (List M9)) := ((0 : Int), [])
abbrev c23 (m : Y23) : WFn cxT := { nres := 1, n := 1, F := fnW (cx := cxT) a23 n23 dd23 m, p := 4 }
theorem hs23 : ∀ t, noRoV (.inr (.inl (n23 t)) : V cxT.ty) = true := fun _ => rfl
/-! loop.example/g00222/laws.markWonS -/
abbrev Y24 := ((List W2) × Int) → Option (Int × (List W2))
def a24 : Args cxT.ty ((List W2) × Int) := (Args.cons (Arg.leaf (LArg.own 59)) (Args.one (Arg.leaf (LArg.int .i64))))
def n24 : (Int × (List W2)) → List (A cxT.ty) := fun t => [(.inl (lv (.int .i64 t.1))), (.inl (ls { own := 2, nm := 0, e := 59, o := true, xs := t.2 }))]
def dd24 : (Int × (List W2)) := ((0 : Int), [])
abbrev c24 (m : Y24) : WFn cxT := { nres := 1, n := 1, F := fnW (cx := cxT) a24 n24 dd24 m }
theorem hs24 : ∀ t, noRoV (.inr (.inl (n24 t)) : V cxT.ty) = true := fun _ => rfl
/-! loop.example/g00222/laws.markSealS -/
abbrev Y25 := ((List S10) × Int) → Option (Int × (List S10))
def a25 : Args cxT.ty ((List S10) × Int) := (Args.cons (Arg.leaf (LArg.own 66)) (Args.one (Arg.leaf (LArg.int .i64))))
def n25 : (Int × (List S10)) → List (A cxT.ty) := fun t => [(.inl (lv (.int .i64 t.1))), (.inl (ls { own := 2, nm := 0, e := 66, o := true, xs := t.2 }))]
def dd25 : (Int × (List S10)) := ((0 : Int), [])
abbrev c25 (m : Y25) : WFn cxT := { nres := 1, n := 1, F := fnW (cx := cxT) a25 n25 dd25 m }
theorem hs25 : ∀ t, noRoV (.inr (.inl (n25 t)) : V cxT.ty) = true := fun _ => rfl
/-! loop.example/g00222/laws.heldNodeS -/
abbrev Y26 := ((List N10) × Int) → Option Int
def a26 : Args cxT.ty ((List N10) × Int) := (Args.cons (Arg.leaf (LArg.row 38)) (Args.one (Arg.leaf (LArg.int .i64))))
def n26 : Int → V cxT.ty := fun t => (.inl (.inl (lv (.int .i64 t))))
def dd26 : Int := (0 : Int)
abbrev c26 (m : Y26) := fnT (cx := cxT) a26 n26 dd26 m
theorem hs26 : ∀ t, noRoV (n26 t) = true ∨ noOwnV (n26 t) = true := fun _ => .inl rfl
/-! loop.example/g00222/laws.heldMailS -/
abbrev Y27 := ((List M9) × Int) → Option Int
def a27 : Args cxT.ty ((List M9) × Int) := (Args.cons (Arg.leaf (LArg.row 56)) (Args.one (Arg.leaf (LArg.int .i64))))
def n27 : Int → V cxT.ty := fun t => (.inl (.inl (lv (.int .i64 t))))
def dd27 : Int := (0 : Int)
abbrev c27 (m : Y27) := fnT (cx := cxT) a27 n27 dd27 m
theorem hs27 : ∀ t, noRoV (n27 t) = true ∨ noOwnV (n27 t) = true := fun _ => .inl rfl
/-! loop.example/g00222/laws.heldWonS -/
abbrev Y28 := ((List W2) × Int) → Option Int
def a28 : Args cxT.ty ((List W2) × Int) := (Args.cons (Arg.leaf (LArg.row 59)) (Args.one (Arg.leaf (LArg.int .i64))))
def n28 : Int → V cxT.ty := fun t => (.inl (.inl (lv (.int .i64 t))))
def dd28 : Int := (0 : Int)
abbrev c28 (m : Y28) := fnT (cx := cxT) a28 n28 dd28 m
theorem hs28 : ∀ t, noRoV (n28 t) = true ∨ noOwnV (n28 t) = true := fun _ => .inl rfl
/-! loop.example/g00222/laws.heldSealS -/
abbrev Y29 := ((List S10) × Int) → Option Int
def a29 : Args cxT.ty ((List S10) × Int) := (Args.cons (Arg.leaf (LArg.row 66)) (Args.one (Arg.leaf (LArg.int .i64))))
def n29 : Int → V cxT.ty := fun t => (.inl (.inl (lv (.int .i64 t))))
def dd29 : Int := (0 : Int)
abbrev c29 (m : Y29) := fnT (cx := cxT) a29 n29 dd29 m
theorem hs29 : ∀ t, noRoV (n29 t) = true ∨ noOwnV (n29 t) = true := fun _ => .inl rfl
/-! loop.example/g00222/laws.eqNode -/
abbrev Y30 := (N10 × N10) → Option Bool
def a30 : Args cxT.ty (N10 × N10) := (Args.cons (Arg.agg (SArg.cons (LArg.int .i64) (SArg.cons (LArg.int .i64) (SArg.cons (LArg.int .i64) (SArg.cons (LArg.int .i64) (SArg.cons (LArg.row 64) (SArg.cons (LArg.int .i64) (SArg.cons (LArg.int .i64) (SArg.cons (LArg.row 2) (SArg.cons (LArg.row 2) (SArg.one (LArg.row 2)))))))))))) (Args.one (Arg.agg (SArg.cons (LArg.int .i64) (SArg.cons (LArg.int .i64) (SArg.cons (LArg.int .i64) (SArg.cons (LArg.int .i64) (SArg.cons (LArg.row 64) (SArg.cons (LArg.int .i64) (SArg.cons (LArg.int .i64) (SArg.cons (LArg.row 2) (SArg.cons (LArg.row 2) (SArg.one (LArg.row 2))))))))))))))
def n30 : Bool → V cxT.ty := fun t => (.inl (.inl (lv (.bool t))))
def dd30 : Bool := false
abbrev c30 (m : Y30) := fnT (cx := cxT) a30 n30 dd30 m
theorem hs30 : ∀ t, noRoV (n30 t) = true ∨ noOwnV (n30 t) = true := fun _ => .inl rfl
/-! loop.example/g00222/laws.eqMail -/
abbrev Y31 := (M9 × M9) → Option Bool
def a31 : Args cxT.ty (M9 × M9) := (Args.cons (Arg.agg (SArg.cons (LArg.int .i64) (SArg.cons (LArg.int .i64) (SArg.cons (LArg.int .i64) (SArg.cons (LArg.int .i64) (SArg.cons (LArg.int .i64) (SArg.cons (LArg.int .i64) (SArg.cons (LArg.int .i64) (SArg.cons LArg.bool (SArg.one (LArg.row 64))))))))))) (Args.one (Arg.agg (SArg.cons (LArg.int .i64) (SArg.cons (LArg.int .i64) (SArg.cons (LArg.int .i64) (SArg.cons (LArg.int .i64) (SArg.cons (LArg.int .i64) (SArg.cons (LArg.int .i64) (SArg.cons (LArg.int .i64) (SArg.cons LArg.bool (SArg.one (LArg.row 64)))))))))))))
def n31 : Bool → V cxT.ty := fun t => (.inl (.inl (lv (.bool t))))
def dd31 : Bool := false
abbrev c31 (m : Y31) := fnT (cx := cxT) a31 n31 dd31 m
theorem hs31 : ∀ t, noRoV (n31 t) = true ∨ noOwnV (n31 t) = true := fun _ => .inl rfl
/-! loop.example/g00222/laws.eqWon -/
abbrev Y32 := ((Int × Int) × (Int × Int)) → Option Bool
def a32 : Args cxT.ty ((Int × Int) × (Int × Int)) := (Args.cons (Arg.agg (SArg.cons (LArg.int .i64) (SArg.one (LArg.int .i64)))) (Args.one (Arg.agg (SArg.cons (LArg.int .i64) (SArg.one (LArg.int .i64))))))
def n32 : Bool → V cxT.ty := fun t => (.inl (.inl (lv (.bool t))))
def dd32 : Bool := false
abbrev c32 (m : Y32) := fnT (cx := cxT) a32 n32 dd32 m
theorem hs32 : ∀ t, noRoV (n32 t) = true ∨ noOwnV (n32 t) = true := fun _ => .inl rfl
/-! loop.example/g00222/laws.eqSeal -/
abbrev Y33 := (S10 × S10) → Option Bool
def a33 : Args cxT.ty (S10 × S10) := (Args.cons (Arg.agg (SArg.cons (LArg.int .i64) (SArg.cons (LArg.int .i64) (SArg.cons (LArg.int .i64) (SArg.cons (LArg.int .i64) (SArg.cons (LArg.int .i64) (SArg.cons (LArg.int .i64) (SArg.cons (LArg.int .i64) (SArg.cons (LArg.int .i64) (SArg.cons (LArg.int .i64) (SArg.one (LArg.int .i64)))))))))))) (Args.one (Arg.agg (SArg.cons (LArg.int .i64) (SArg.cons (LArg.int .i64) (SArg.cons (LArg.int .i64) (SArg.cons (LArg.int .i64) (SArg.cons (LArg.int .i64) (SArg.cons (LArg.int .i64) (SArg.cons (LArg.int .i64) (SArg.cons (LArg.int .i64) (SArg.cons (LArg.int .i64) (SArg.one (LArg.int .i64))))))))))))))
def n33 : Bool → V cxT.ty := fun t => (.inl (.inl (lv (.bool t))))
def dd33 : Bool := false
abbrev c33 (m : Y33) := fnT (cx := cxT) a33 n33 dd33 m
theorem hs33 : ∀ t, noRoV (n33 t) = true ∨ noOwnV (n33 t) = true := fun _ => .inl rfl
/-! loop.example/g00222/laws.markEntryS -/
abbrev Y34 := ((List E9) × Int) → Option (Int × (List E9))
def a34 : Args cxT.ty ((List E9) × Int) := (Args.cons (Arg.leaf (LArg.own 64)) (Args.one (Arg.leaf (LArg.int .i64))))
def n34 : (Int × (List E9)) → List (A cxT.ty) := fun t => [(.inl (lv (.int .i64 t.1))), (.inl (ls { own := 2, nm := 0, e := 64, o := true, xs := t.2 }))]
def dd34 : (Int × (List E9)) := ((0 : Int), [])
abbrev c34 (m : Y34) : WFn cxT := { nres := 1, n := 1, F := fnW (cx := cxT) a34 n34 dd34 m }
theorem hs34 : ∀ t, noRoV (.inr (.inl (n34 t)) : V cxT.ty) = true := fun _ => rfl
/-! loop.example/g00222/laws.markInt64S -/
abbrev Y35 := ((List Int) × Int) → Option (Int × (List Int))
def a35 : Args cxT.ty ((List Int) × Int) := (Args.cons (Arg.leaf (LArg.own 2)) (Args.one (Arg.leaf (LArg.int .i64))))
def n35 : (Int × (List Int)) → List (A cxT.ty) := fun t => [(.inl (lv (.int .i64 t.1))), (.inl (ls { own := 2, nm := 0, e := 2, o := true, xs := t.2 }))]
def dd35 : (Int × (List Int)) := ((0 : Int), [])
abbrev c35 (m : Y35) : WFn cxT := { nres := 1, n := 1, F := fnW (cx := cxT) a35 n35 dd35 m }
theorem hs35 : ∀ t, noRoV (.inr (.inl (n35 t)) : V cxT.ty) = true := fun _ => rfl
/-! loop.example/g00222/laws.heldEntryS -/
abbrev Y36 := ((List E9) × Int) → Option Int
def a36 : Args cxT.ty ((List E9) × Int) := (Args.cons (Arg.leaf (LArg.row 64)) (Args.one (Arg.leaf (LArg.int .i64))))
def n36 : Int → V cxT.ty := fun t => (.inl (.inl (lv (.int .i64 t))))
def dd36 : Int := (0 : Int)
abbrev c36 (m : Y36) := fnT (cx := cxT) a36 n36 dd36 m
theorem hs36 : ∀ t, noRoV (n36 t) = true ∨ noOwnV (n36 t) = true := fun _ => .inl rfl
/-! loop.example/g00222/laws.heldInt64S -/
abbrev Y37 := ((List Int) × Int) → Option Int
def a37 : Args cxT.ty ((List Int) × Int) := (Args.cons (Arg.leaf (LArg.row 2)) (Args.one (Arg.leaf (LArg.int .i64))))
def n37 : Int → V cxT.ty := fun t => (.inl (.inl (lv (.int .i64 t))))
def dd37 : Int := (0 : Int)
abbrev c37 (m : Y37) := fnT (cx := cxT) a37 n37 dd37 m
theorem hs37 : ∀ t, noRoV (n37 t) = true ∨ noOwnV (n37 t) = true := fun _ => .inl rfl
/-! loop.example/g00222/laws.eqEntryS -/
abbrev Y38 := ((List E9) × (List E9)) → Option Bool
def a38 : Args cxT.ty ((List E9) × (List E9)) := (Args.cons (Arg.leaf (LArg.row 64)) (Args.one (Arg.leaf (LArg.row 64))))
def n38 : Bool → V cxT.ty := fun t => (.inl (.inl (lv (.bool t))))
def dd38 : Bool := false
abbrev c38 (m : Y38) := fnT (cx := cxT) a38 n38 dd38 m
theorem hs38 : ∀ t, noRoV (n38 t) = true ∨ noOwnV (n38 t) = true := fun _ => .inl rfl
/-! loop.example/g00222/laws.eqInt64S -/
abbrev Y39 := ((List Int) × (List Int)) → Option Bool
def a39 : Args cxT.ty ((List Int) × (List Int)) := (Args.cons (Arg.leaf (LArg.row 2)) (Args.one (Arg.leaf (LArg.row 2))))
def n39 : Bool → V cxT.ty := fun t => (.inl (.inl (lv (.bool t))))
def dd39 : Bool := false
abbrev c39 (m : Y39) := fnT (cx := cxT) a39 n39 dd39 m
theorem hs39 : ∀ t, noRoV (n39 t) = true ∨ noOwnV (n39 t) = true := fun _ => .inl rfl
/-! loop.example/g00222/laws.eqEntry -/
abbrev Y40 := (E9 × E9) → Option Bool
def a40 : Args cxT.ty (E9 × E9) := (Args.cons (Arg.agg (SArg.cons (LArg.int .i64) (SArg.cons (LArg.int .i64) (SArg.cons (LArg.int .i64) (SArg.cons (LArg.int .i64) (SArg.cons (LArg.int .i64) (SArg.cons (LArg.int .i64) (SArg.cons (LArg.int .i64) (SArg.cons (LArg.int .i64) (SArg.one (LArg.int .i64))))))))))) (Args.one (Arg.agg (SArg.cons (LArg.int .i64) (SArg.cons (LArg.int .i64) (SArg.cons (LArg.int .i64) (SArg.cons (LArg.int .i64) (SArg.cons (LArg.int .i64) (SArg.cons (LArg.int .i64) (SArg.cons (LArg.int .i64) (SArg.cons (LArg.int .i64) (SArg.one (LArg.int .i64)))))))))))))
def n40 : Bool → V cxT.ty := fun t => (.inl (.inl (lv (.bool t))))
def dd40 : Bool := false
abbrev c40 (m : Y40) := fnT (cx := cxT) a40 n40 dd40 m
theorem hs40 : ∀ t, noRoV (n40 t) = true ∨ noOwnV (n40 t) = true := fun _ => .inl rfl
/-! loop.example/g00222/laws.eqCmd -/
abbrev Y41 := ((Int × Int × Int × Int × Int × Int) × (Int × Int × Int × Int × Int × Int)) → Option Bool
def a41 : Args cxT.ty ((Int × Int × Int × Int × Int × Int) × (Int × Int × Int × Int × Int × Int)) := (Args.cons (Arg.agg (SArg.cons (LArg.int .i64) (SArg.cons (LArg.int .i64) (SArg.cons (LArg.int .i64) (SArg.cons (LArg.int .i64) (SArg.cons (LArg.int .i64) (SArg.one (LArg.int .i64)))))))) (Args.one (Arg.agg (SArg.cons (LArg.int .i64) (SArg.cons (LArg.int .i64) (SArg.cons (LArg.int .i64) (SArg.cons (LArg.int .i64) (SArg.cons (LArg.int .i64) (SArg.one (LArg.int .i64))))))))))
def n41 : Bool → V cxT.ty := fun t => (.inl (.inl (lv (.bool t))))
def dd41 : Bool := false
abbrev c41 (m : Y41) := fnT (cx := cxT) a41 n41 dd41 m
theorem hs41 : ∀ t, noRoV (n41 t) = true ∨ noOwnV (n41 t) = true := fun _ => .inl rfl
end Go.Proofs.Try
