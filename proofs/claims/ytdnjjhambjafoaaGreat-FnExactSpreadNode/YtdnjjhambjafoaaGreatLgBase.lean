/- A part of the proof of FnExactSpreadNode: LgBase, LgCon. -/
import Derived.Test.YtdnjjhambjafoaaGreatVmJ
import Derived.Test.YtdnjjhambjafoaaGreatProg
set_option linter.unusedVariables false
namespace Go.Proofs.Tryz
open Go Go.VM Go.RowKit
abbrev E9 : Type := (Int × (Int × (Int × (Int × (Int × (Int × (Int × (Int × Int))))))))
abbrev N10 : Type := Int × Int × Int × Int × (List E9) × Int × Int × (List Int) × (List Int) × (List Int)
abbrev M9 : Type := Int × Int × Int × Int × Int × Int × Int × Bool × (List E9)
abbrev R12 : Type := Int × Int × Int × Int × Int × (List E9) × Int × Int × (List Int) × (List Int) × (List Int) × (List M9)
def tyT (e : Nat) : Type := if e = 2 then Int else if e = 3 then Int else if e = 5 then Int else if e = 57 then Int × Int × Int × Int × Int × Int × Int × Int × Int else if e = 53 then Int × Int × Int × Int × Int × Int × Int × Int × Int else if e = 39 then Int × Int × Int × Int × Int × Int × Int × Bool × List E9 else if e = 35 then Int × Int × Int × Int × Int × Int × Int × Bool × List E9 else if e = 30 then Int × Int × Int × Int × List E9 × Int × Int × List (Int) × List (Int) × List (Int) else if e = 25 then Int × Int × Int × Int × List E9 × Int × Int × List (Int) × List (Int) × List (Int) else if e = 104 then List E9 else Unit
def inhT (e : Nat) : tyT e := by
  unfold tyT
  repeat' split
  all_goals first | exact ((0 : Int) : Int) | exact ((0 : Int) : Int) | exact ((0 : Int) : Int) | exact (((0 : Int), (0 : Int), (0 : Int), (0 : Int), (0 : Int), (0 : Int), (0 : Int), (0 : Int), (0 : Int)) : Int × Int × Int × Int × Int × Int × Int × Int × Int) | exact (((0 : Int), (0 : Int), (0 : Int), (0 : Int), (0 : Int), (0 : Int), (0 : Int), (0 : Int), (0 : Int)) : Int × Int × Int × Int × Int × Int × Int × Int × Int) | exact (((0 : Int), (0 : Int), (0 : Int), (0 : Int), (0 : Int), (0 : Int), (0 : Int), false, []) : Int × Int × Int × Int × Int × Int × Int × Bool × List E9) | exact (((0 : Int), (0 : Int), (0 : Int), (0 : Int), (0 : Int), (0 : Int), (0 : Int), false, []) : Int × Int × Int × Int × Int × Int × Int × Bool × List E9) | exact (((0 : Int), (0 : Int), (0 : Int), (0 : Int), [], (0 : Int), (0 : Int), [], [], []) : Int × Int × Int × Int × List E9 × Int × Int × List (Int) × List (Int) × List (Int)) | exact (((0 : Int), (0 : Int), (0 : Int), (0 : Int), [], (0 : Int), (0 : Int), [], [], []) : Int × Int × Int × Int × List E9 × Int × Int × List (Int) × List (Int) × List (Int)) | exact ([] : List E9) | exact ()
def cd2 : Cd tyT (tyT 2) := cdInt .i64
def cd3 : Cd tyT (tyT 3) := cdInt .i64
def cd5 : Cd tyT (tyT 5) := cdInt .u8
def cd57 : Cd tyT (tyT 57) := cdPair (cdInt .i64) (cdPair (cdInt .i64) (cdPair (cdInt .i64) (cdPair (cdInt .i64) (cdPair (cdInt .i64) (cdPair (cdInt .i64) (cdPair (cdInt .i64) (cdPair (cdInt .i64) (cdInt .i64))))))))
def cd53 : Cd tyT (tyT 53) := cdPair (cdInt .i64) (cdPair (cdInt .i64) (cdPair (cdInt .i64) (cdPair (cdInt .i64) (cdPair (cdInt .i64) (cdPair (cdInt .i64) (cdPair (cdInt .i64) (cdPair (cdInt .i64) (cdInt .i64))))))))
def cd39 : Cd tyT (tyT 39) := cdPair (cdInt .i64) (cdPair (cdInt .i64) (cdPair (cdInt .i64) (cdPair (cdInt .i64) (cdPair (cdInt .i64) (cdPair (cdInt .i64) (cdPair (cdInt .i64) (cdPair cdBool (cdRow 57))))))))
def cd35 : Cd tyT (tyT 35) := cdPair (cdInt .i64) (cdPair (cdInt .i64) (cdPair (cdInt .i64) (cdPair (cdInt .i64) (cdPair (cdInt .i64) (cdPair (cdInt .i64) (cdPair (cdInt .i64) (cdPair cdBool (cdRow 53))))))))
def cd30 : Cd tyT (tyT 30) := cdPair (cdInt .i64) (cdPair (cdInt .i64) (cdPair (cdInt .i64) (cdPair (cdInt .i64) (cdPair (cdRow 57) (cdPair (cdInt .i64) (cdPair (cdInt .i64) (cdPair (cdRow 2) (cdPair (cdRow 2) (cdRow 2)))))))))
def cd25 : Cd tyT (tyT 25) := cdPair (cdInt .i64) (cdPair (cdInt .i64) (cdPair (cdInt .i64) (cdPair (cdInt .i64) (cdPair (cdRow 53) (cdPair (cdInt .i64) (cdPair (cdInt .i64) (cdPair (cdRow 2) (cdPair (cdRow 2) (cdRow 2)))))))))
def cd104 : Cd tyT (tyT 104) := cdRow 57
def cdT (e : Nat) : Cd tyT (tyT e) :=
  if h : e = 2 then h.symm ▸ cd2 else if h : e = 3 then h.symm ▸ cd3 else if h : e = 5 then h.symm ▸ cd5 else if h : e = 57 then h.symm ▸ cd57 else if h : e = 53 then h.symm ▸ cd53 else if h : e = 39 then h.symm ▸ cd39 else if h : e = 35 then h.symm ▸ cd35 else if h : e = 30 then h.symm ▸ cd30 else if h : e = 25 then h.symm ▸ cd25 else if h : e = 104 then h.symm ▸ cd104 else cdNone (inhT e)
def cxT : Cx := Cx.of cdT
theorem cxT_ok : cxT.Ok := Cx.of_ok cdT
set_option maxRecDepth 100000 in
theorem dom_cases {e : Nat} (h : (cdT e).dom = true) : e = 2 ∨ e = 3 ∨ e = 5 ∨ e = 57 ∨ e = 53 := by
  by_cases h0 : e = 2
  · exact .inl h0
  by_cases h1 : e = 3
  · exact .inr (.inl h1)
  by_cases h2 : e = 5
  · exact .inr (.inr (.inl h2))
  by_cases h3 : e = 57
  · exact .inr (.inr (.inr (.inl h3)))
  by_cases h4 : e = 53
  · exact .inr (.inr (.inr (.inr (h4))))
  by_cases h5 : e = 39
  · subst h5; exact absurd h (by intro hh; cases (show false = true from hh))
  by_cases h6 : e = 35
  · subst h6; exact absurd h (by intro hh; cases (show false = true from hh))
  by_cases h7 : e = 30
  · subst h7; exact absurd h (by intro hh; cases (show false = true from hh))
  by_cases h8 : e = 25
  · subst h8; exact absurd h (by intro hh; cases (show false = true from hh))
  by_cases h9 : e = 104
  · subst h9; exact absurd h (by intro hh; cases (show false = true from hh))
  · unfold cdT at h; rw [dif_neg h0, dif_neg h1, dif_neg h2, dif_neg h3, dif_neg h4, dif_neg h5, dif_neg h6, dif_neg h7, dif_neg h8, dif_neg h9] at h; exact Bool.noConfusion h
set_option maxRecDepth 100000 in
theorem cxT_pok : cxT.POk prog := by
  refine ⟨fun e he => ?_, fun e he hu o x => ?_⟩
  · rcases dom_cases he with rfl | rfl | rfl | rfl | rfl <;>
    exact ⟨_, _, rfl, rfl, rfl, by decide, rfl, by decide, rfl⟩
  · rcases dom_cases he with rfl | rfl | rfl | rfl | rfl
    · rw [show prog.underlying 2 = _ from rfl] at hu; cases hu
    · rw [show prog.underlying 3 = _ from rfl] at hu; cases hu
    · exact ⟨x, rfl⟩
    · rw [show prog.underlying 57 = _ from rfl] at hu; cases hu
    · rw [show prog.underlying 53 = _ from rfl] at hu; cases hu
end Go.Proofs.Tryz

namespace Go.Proofs.Tryz
open Go Go.VM Go.RowKit
abbrev ag1 : Arg cxT.ty (Int × Int × Int × Int × List E9 × Int × Int × List Int × List Int × List Int) := (Arg.agg (SArg.cons (LArg.int .i64) (SArg.cons (LArg.int .i64) (SArg.cons (LArg.int .i64) (SArg.cons (LArg.int .i64) (SArg.cons (LArg.row 57) (SArg.cons (LArg.int .i64) (SArg.cons (LArg.int .i64) (SArg.cons (LArg.row 2) (SArg.cons (LArg.row 2) (SArg.one (LArg.row 2))))))))))))
abbrev ag2 : Arg cxT.ty (Int × Int × Int × Int × List E9 × Int × Int × List Int × List Int × List Int) := (Arg.agg (SArg.cons (LArg.int .i64) (SArg.cons (LArg.int .i64) (SArg.cons (LArg.int .i64) (SArg.cons (LArg.int .i64) (SArg.cons (LArg.row 53) (SArg.cons (LArg.int .i64) (SArg.cons (LArg.int .i64) (SArg.cons (LArg.row 2) (SArg.cons (LArg.row 2) (SArg.one (LArg.row 2))))))))))))
abbrev ag3 : Arg cxT.ty (Int × Int × Int × Int × Int × Int × Int × Int × Int) := (Arg.agg (SArg.cons (LArg.int .i64) (SArg.cons (LArg.int .i64) (SArg.cons (LArg.int .i64) (SArg.cons (LArg.int .i64) (SArg.cons (LArg.int .i64) (SArg.cons (LArg.int .i64) (SArg.cons (LArg.int .i64) (SArg.cons (LArg.int .i64) (SArg.one (LArg.int .i64)))))))))))
abbrev ag4 : Arg cxT.ty (Int × Int × Int × Int × Int × Int) := (Arg.agg (SArg.cons (LArg.int .i64) (SArg.cons (LArg.int .i64) (SArg.cons (LArg.int .i64) (SArg.cons (LArg.int .i64) (SArg.cons (LArg.int .i64) (SArg.one (LArg.int .i64))))))))
abbrev ag5 : Arg cxT.ty (Int × Int × Int × Int × Int × List E9 × Int × Int × List Int × List Int × List Int × List M9) := (Arg.agg (SArg.cons (LArg.int .i64) (SArg.cons (LArg.int .i64) (SArg.cons (LArg.int .i64) (SArg.cons (LArg.int .i64) (SArg.cons (LArg.int .i64) (SArg.cons (LArg.row 57) (SArg.cons (LArg.int .i64) (SArg.cons (LArg.int .i64) (SArg.cons (LArg.row 2) (SArg.cons (LArg.row 2) (SArg.cons (LArg.row 2) (SArg.one (LArg.row 39))))))))))))))
abbrev ag6 : Arg cxT.ty (Int × Int × Int × Int × Int × Int × Int × Bool × List E9) := (Arg.agg (SArg.cons (LArg.int .i64) (SArg.cons (LArg.int .i64) (SArg.cons (LArg.int .i64) (SArg.cons (LArg.int .i64) (SArg.cons (LArg.int .i64) (SArg.cons (LArg.int .i64) (SArg.cons (LArg.int .i64) (SArg.cons LArg.bool (SArg.one (LArg.row 53)))))))))))
abbrev ag7 : Arg cxT.ty (Int × Int × Int × Int × Int × Int × Int × Bool × List E9) := (Arg.agg (SArg.cons (LArg.int .i64) (SArg.cons (LArg.int .i64) (SArg.cons (LArg.int .i64) (SArg.cons (LArg.int .i64) (SArg.cons (LArg.int .i64) (SArg.cons (LArg.int .i64) (SArg.cons (LArg.int .i64) (SArg.cons LArg.bool (SArg.one (LArg.row 57)))))))))))
abbrev HS {α : Type} (n : α → V cxT.ty) : Prop := ∀ t, noRoV (n t) = true ∨ noOwnV (n t) = true
def a3 : Args cxT.ty N10 := (Args.one ag2)
def n3 : Bool → V cxT.ty := fun t => (.inl (.inl (lv (.bool t))))
def dd3 : Bool := false
abbrev c3 (m : N10 → Option Bool) := fnT (cx := cxT) a3 n3 dd3 m
theorem hs3 : HS n3 := fun _ => .inl rfl
def a4 : Args cxT.ty (N10 × M9) := (Args.cons ag2 (Args.one ag6))
def n4 : Bool → V cxT.ty := fun t => (.inl (.inl (lv (.bool t))))
def dd4 : Bool := false
abbrev c4 (m : (N10 × M9) → Option Bool) := fnT (cx := cxT) a4 n4 dd4 m
def a5 : Args cxT.ty N10 := (Args.one ag2)
def n5 : Bool → V cxT.ty := fun t => (.inl (.inl (lv (.bool t))))
def dd5 : Bool := false
abbrev c5 (m : N10 → Option Bool) := fnT (cx := cxT) a5 n5 dd5 m
def a6 : Args cxT.ty N10 := (Args.one ag2)
def n6 : Bool → V cxT.ty := fun t => (.inl (.inl (lv (.bool t))))
def dd6 : Bool := false
abbrev c6 (m : N10 → Option Bool) := fnT (cx := cxT) a6 n6 dd6 m
theorem hs6 : HS n6 := fun _ => .inl rfl
def a7 : Args cxT.ty (N10 × E9) := (Args.cons ag2 (Args.one ag3))
def n7 : Bool → V cxT.ty := fun t => (.inl (.inl (lv (.bool t))))
def a8 : Args cxT.ty (N10 × M9) := (Args.cons ag2 (Args.one ag6))
def n8 : Bool → V cxT.ty := fun t => (.inl (.inl (lv (.bool t))))
def a9 : Args cxT.ty N10 := (Args.one ag2)
def n9 : Bool → V cxT.ty := fun t => (.inl (.inl (lv (.bool t))))
def a11 : Args cxT.ty (N10 × Int) := (Args.cons ag2 (Args.one (Arg.leaf (LArg.int .i64))))
def n11 : Int → V cxT.ty := fun t => (.inl (.inl (lv (.int .i64 t))))
def dd11 : Int := (0 : Int)
abbrev c11 (m : (N10 × Int) → Option Int) := fnT (cx := cxT) a11 n11 dd11 m
theorem hs11 : HS n11 := fun _ => .inl rfl
def a13 : Args cxT.ty N10 := (Args.one ag2)
abbrev nn2 : N10 → V cxT.ty := fun t => (.inl (.inr [(lv (.int .i64 t.1)), (lv (.int .i64 t.2.1)), (lv (.int .i64 t.2.2.1)), (lv (.int .i64 t.2.2.2.1)), (ls { own := 2, nm := 0, e := 57, o := true, xs := t.2.2.2.2.1 }), (lv (.int .i64 t.2.2.2.2.2.1)), (lv (.int .i64 t.2.2.2.2.2.2.1)), (ls { own := 2, nm := 0, e := 2, o := true, xs := t.2.2.2.2.2.2.2.1 }), (ls { own := 2, nm := 0, e := 2, o := true, xs := t.2.2.2.2.2.2.2.2.1 }), (ls { own := 2, nm := 0, e := 2, o := true, xs := t.2.2.2.2.2.2.2.2.2 })]))
def n13 : N10 → V cxT.ty := nn2
def dd13 : N10 := ((0 : Int), (0 : Int), (0 : Int), (0 : Int), [], (0 : Int), (0 : Int), [], [], [])
abbrev c13 (m : N10 → Option N10) := fnT (cx := cxT) a13 n13 dd13 m
theorem hs13 : HS n13 := fun _ => .inl rfl
def a14 : Args cxT.ty N10 := (Args.one ag1)
def n14 : Int → V cxT.ty := fun t => (.inl (.inl (lv (.int .i64 t))))
def dd14 : Int := (0 : Int)
abbrev c14 (m : N10 → Option Int) := fnT (cx := cxT) a14 n14 dd14 m
theorem hs14 : HS n14 := fun _ => .inl rfl
def a15 : Args cxT.ty (N10 × N10) := (Args.cons ag1 (Args.one ag1))
def n15 : Bool → V cxT.ty := fun t => (.inl (.inl (lv (.bool t))))
def dd15 : Bool := false
abbrev c15 (m : (N10 × N10) → Option Bool) := fnT (cx := cxT) a15 n15 dd15 m
theorem hs15 : HS n15 := fun _ => .inl rfl
def a20 : Args cxT.ty (M9 × M9) := (Args.cons ag7 (Args.one ag7))
def n20 : Bool → V cxT.ty := fun t => (.inl (.inl (lv (.bool t))))
def dd20 : Bool := false
abbrev c20 (m : (M9 × M9) → Option Bool) := fnT (cx := cxT) a20 n20 dd20 m
theorem hs20 : HS n20 := fun _ => .inl rfl
def a23 : Args cxT.ty (R12 × R12) := (Args.cons ag5 (Args.one ag5))
def n23 : Bool → V cxT.ty := fun t => (.inl (.inl (lv (.bool t))))
def dd23 : Bool := false
abbrev c23 (m : (R12 × R12) → Option Bool) := fnT (cx := cxT) a23 n23 dd23 m
theorem hs23 : HS n23 := fun _ => .inl rfl
def a24 : Args cxT.ty (N10 × Int) := (Args.cons (Arg.agg (SArg.cons (LArg.int .i64) (SArg.cons (LArg.int .i64) (SArg.cons (LArg.int .i64) (SArg.cons (LArg.int .i64) (SArg.cons (LArg.own 57) (SArg.cons (LArg.int .i64) (SArg.cons (LArg.int .i64) (SArg.cons (LArg.own 2) (SArg.cons (LArg.own 2) (SArg.one (LArg.own 2)))))))))))) (Args.one (Arg.leaf (LArg.int .i64))))
def n24 : (Int × Int × Int × Int × Int × (List E9) × Int × Int × (List Int) × (List Int) × (List Int)) → List (A cxT.ty) := fun t => [(.inl (lv (.int .i64 t.1))), (.inr [(lv (.int .i64 t.2.1)), (lv (.int .i64 t.2.2.1)), (lv (.int .i64 t.2.2.2.1)), (lv (.int .i64 t.2.2.2.2.1)), (ls { own := 2, nm := 0, e := 57, o := true, xs := t.2.2.2.2.2.1 }), (lv (.int .i64 t.2.2.2.2.2.2.1)), (lv (.int .i64 t.2.2.2.2.2.2.2.1)), (ls { own := 2, nm := 0, e := 2, o := true, xs := t.2.2.2.2.2.2.2.2.1 }), (ls { own := 2, nm := 0, e := 2, o := true, xs := t.2.2.2.2.2.2.2.2.2.1 }), (ls { own := 2, nm := 0, e := 2, o := true, xs := t.2.2.2.2.2.2.2.2.2.2 })])]
def dd24 : (Int × Int × Int × Int × Int × (List E9) × Int × Int × (List Int) × (List Int) × (List Int)) := ((0 : Int), (0 : Int), (0 : Int), (0 : Int), (0 : Int), [], (0 : Int), (0 : Int), [], [], [])
abbrev c24 (m : (N10 × Int) → Option (Int × Int × Int × Int × Int × (List E9) × Int × Int × (List Int) × (List Int) × (List Int))) : WFn cxT := { nres := 1, n := 1, F := fnW (cx := cxT) a24 n24 dd24 m }
theorem hs24 : ∀ t, noRoV (.inr (.inl (n24 t)) : V cxT.ty) = true := fun _ => rfl
def a25 : Args cxT.ty (R12 × Int) := (Args.cons (Arg.agg (SArg.cons (LArg.int .i64) (SArg.cons (LArg.int .i64) (SArg.cons (LArg.int .i64) (SArg.cons (LArg.int .i64) (SArg.cons (LArg.int .i64) (SArg.cons (LArg.own 57) (SArg.cons (LArg.int .i64) (SArg.cons (LArg.int .i64) (SArg.cons (LArg.own 2) (SArg.cons (LArg.own 2) (SArg.cons (LArg.own 2) (SArg.one (LArg.own 39)))))))))))))) (Args.one (Arg.leaf (LArg.int .i64))))
def n25 : (Int × Int × Int × Int × Int × Int × (List E9) × Int × Int × (List Int) × (List Int) × (List Int) × (List M9)) → List (A cxT.ty) := fun t => [(.inl (lv (.int .i64 t.1))), (.inr [(lv (.int .i64 t.2.1)), (lv (.int .i64 t.2.2.1)), (lv (.int .i64 t.2.2.2.1)), (lv (.int .i64 t.2.2.2.2.1)), (lv (.int .i64 t.2.2.2.2.2.1)), (ls { own := 2, nm := 0, e := 57, o := true, xs := t.2.2.2.2.2.2.1 }), (lv (.int .i64 t.2.2.2.2.2.2.2.1)), (lv (.int .i64 t.2.2.2.2.2.2.2.2.1)), (ls { own := 2, nm := 0, e := 2, o := true, xs := t.2.2.2.2.2.2.2.2.2.1 }), (ls { own := 2, nm := 0, e := 2, o := true, xs := t.2.2.2.2.2.2.2.2.2.2.1 }), (ls { own := 2, nm := 0, e := 2, o := true, xs := t.2.2.2.2.2.2.2.2.2.2.2.1 }), (ls { own := 2, nm := 0, e := 39, o := true, xs := t.2.2.2.2.2.2.2.2.2.2.2.2 })])]
def dd25 : (Int × Int × Int × Int × Int × Int × (List E9) × Int × Int × (List Int) × (List Int) × (List Int) × (List M9)) := ((0 : Int), (0 : Int), (0 : Int), (0 : Int), (0 : Int), (0 : Int), [], (0 : Int), (0 : Int), [], [], [], [])
abbrev c25 (m : (R12 × Int) → Option (Int × Int × Int × Int × Int × Int × (List E9) × Int × Int × (List Int) × (List Int) × (List Int) × (List M9))) : WFn cxT := { nres := 1, n := 1, F := fnW (cx := cxT) a25 n25 dd25 m, p := 4 }
theorem hs25 : ∀ t, noRoV (.inr (.inl (n25 t)) : V cxT.ty) = true := fun _ => rfl
def a26 : Args cxT.ty (R12 × Int) := (Args.cons ag5 (Args.one (Arg.leaf (LArg.int .i64))))
def n26 : Int → V cxT.ty := fun t => (.inl (.inl (lv (.int .i64 t))))
def dd26 : Int := (0 : Int)
abbrev c26 (m : (R12 × Int) → Option Int) := fnT (cx := cxT) a26 n26 dd26 m
theorem hs26 : HS n26 := fun _ => .inl rfl
def a27 : Args cxT.ty N10 := (Args.one ag1)
abbrev nn1 : R12 → V cxT.ty := fun t => (.inl (.inr [(lv (.int .i64 t.1)), (lv (.int .i64 t.2.1)), (lv (.int .i64 t.2.2.1)), (lv (.int .i64 t.2.2.2.1)), (lv (.int .i64 t.2.2.2.2.1)), (ls { own := 2, nm := 0, e := 57, o := true, xs := t.2.2.2.2.2.1 }), (lv (.int .i64 t.2.2.2.2.2.2.1)), (lv (.int .i64 t.2.2.2.2.2.2.2.1)), (ls { own := 2, nm := 0, e := 2, o := true, xs := t.2.2.2.2.2.2.2.2.1 }), (ls { own := 2, nm := 0, e := 2, o := true, xs := t.2.2.2.2.2.2.2.2.2.1 }), (ls { own := 2, nm := 0, e := 2, o := true, xs := t.2.2.2.2.2.2.2.2.2.2.1 }), (ls { own := 2, nm := 0, e := 39, o := true, xs := t.2.2.2.2.2.2.2.2.2.2.2 })]))
def n27 : R12 → V cxT.ty := nn1
def dd27 : R12 := ((0 : Int), (0 : Int), (0 : Int), (0 : Int), (0 : Int), [], (0 : Int), (0 : Int), [], [], [], [])
abbrev c27 (m : N10 → Option R12) := fnT (cx := cxT) a27 n27 dd27 m
theorem hs27 : HS n27 := fun _ => .inl rfl
def a28 : Args cxT.ty N10 := (Args.one ag1)
def n28 : R12 → V cxT.ty := nn1
def dd28 : R12 := ((0 : Int), (0 : Int), (0 : Int), (0 : Int), (0 : Int), [], (0 : Int), (0 : Int), [], [], [], [])
abbrev c28 (m : N10 → Option R12) := fnT (cx := cxT) a28 n28 dd28 m
theorem hs28 : HS n28 := fun _ => .inl rfl
def a29 : Args cxT.ty (N10 × E9) := (Args.cons ag1 (Args.one ag3))
def n29 : R12 → V cxT.ty := nn1
def dd29 : R12 := ((0 : Int), (0 : Int), (0 : Int), (0 : Int), (0 : Int), [], (0 : Int), (0 : Int), [], [], [], [])
abbrev c29 (m : (N10 × E9) → Option R12) := fnT (cx := cxT) a29 n29 dd29 m
def a30 : Args cxT.ty E9 := (Args.one ag3)
abbrev nn3 : E9 → V cxT.ty := fun t => (.inl (.inr [(lv (.int .i64 t.1)), (lv (.int .i64 t.2.1)), (lv (.int .i64 t.2.2.1)), (lv (.int .i64 t.2.2.2.1)), (lv (.int .i64 t.2.2.2.2.1)), (lv (.int .i64 t.2.2.2.2.2.1)), (lv (.int .i64 t.2.2.2.2.2.2.1)), (lv (.int .i64 t.2.2.2.2.2.2.2.1)), (lv (.int .i64 t.2.2.2.2.2.2.2.2))]))
def n30 : E9 → V cxT.ty := nn3
def dd30 : E9 := ((0 : Int), (0 : Int), (0 : Int), (0 : Int), (0 : Int), (0 : Int), (0 : Int), (0 : Int), (0 : Int))
abbrev c30 (m : E9 → Option E9) := fnT (cx := cxT) a30 n30 dd30 m
theorem hs30 : HS n30 := fun _ => .inl rfl
def a31 : Args cxT.ty (N10 × E9) := (Args.cons ag1 (Args.one ag3))
def n31 : R12 → V cxT.ty := nn1
def dd31 : R12 := ((0 : Int), (0 : Int), (0 : Int), (0 : Int), (0 : Int), [], (0 : Int), (0 : Int), [], [], [], [])
abbrev c31 (m : (N10 × E9) → Option R12) := fnT (cx := cxT) a31 n31 dd31 m
def a35 : Args cxT.ty N10 := (Args.one ag1)
def n35 : R12 → V cxT.ty := nn1
def dd35 : R12 := ((0 : Int), (0 : Int), (0 : Int), (0 : Int), (0 : Int), [], (0 : Int), (0 : Int), [], [], [], [])
abbrev c35 (m : N10 → Option R12) := fnT (cx := cxT) a35 n35 dd35 m
def a36 : Args cxT.ty N10 := (Args.one ag1)
def n36 : R12 → V cxT.ty := nn1
def dd36 : R12 := ((0 : Int), (0 : Int), (0 : Int), (0 : Int), (0 : Int), [], (0 : Int), (0 : Int), [], [], [], [])
abbrev c36 (m : N10 → Option R12) := fnT (cx := cxT) a36 n36 dd36 m
def a40 : Args cxT.ty ((List E9) × Int) := (Args.cons (Arg.leaf (LArg.row 53)) (Args.one (Arg.leaf (LArg.int .i64))))
def n40 : Int → V cxT.ty := fun t => (.inl (.inl (lv (.int .i64 t))))
def dd40 : Int := (0 : Int)
abbrev c40 (m : ((List E9) × Int) → Option Int) := fnT (cx := cxT) a40 n40 dd40 m
theorem hs40 : HS n40 := fun _ => .inl rfl
def a41 : Args cxT.ty ((List Int) × Int) := (Args.cons (Arg.leaf (LArg.row 2)) (Args.one (Arg.leaf (LArg.int .i64))))
def n41 : Int → V cxT.ty := fun t => (.inl (.inl (lv (.int .i64 t))))
def dd41 : Int := (0 : Int)
abbrev c41 (m : ((List Int) × Int) → Option Int) := fnT (cx := cxT) a41 n41 dd41 m
theorem hs41 : HS n41 := fun _ => .inl rfl
def a42 : Args cxT.ty N10 := (Args.one (Arg.leaf (LArg.ptr 30)))
def n42 : Int → V cxT.ty := fun t => (.inl (.inl (lv (.int .i64 t))))
def dd42 : Int := (0 : Int)
abbrev c42 (m : N10 → Option Int) := fnT (cx := cxT) a42 n42 dd42 m
theorem hs42 : HS n42 := fun _ => .inl rfl
def a43 : Args cxT.ty (List E9) := (Args.one (Arg.leaf (LArg.row 53)))
def n43 : (List E9) → V cxT.ty := fun t => (.inl (.inl (ls { own := 2, nm := 0, e := 57, o := true, xs := t })))
def dd43 : (List E9) := []
abbrev c43 (m : (List E9) → Option (List E9)) := fnT (cx := cxT) a43 n43 dd43 m
theorem hs43 : HS n43 := fun _ => .inl rfl
def a44 : Args cxT.ty (List Int) := (Args.one (Arg.leaf (LArg.row 2)))
def n44 : (List Int) → V cxT.ty := fun t => (.inl (.inl (ls { own := 2, nm := 0, e := 2, o := true, xs := t })))
def dd44 : (List Int) := []
abbrev c44 (m : (List Int) → Option (List Int)) := fnT (cx := cxT) a44 n44 dd44 m
theorem hs44 : HS n44 := fun _ => .inl rfl
def a45 : Args cxT.ty Int := (Args.one (Arg.leaf (LArg.int .i64)))
def n45 : Bool → V cxT.ty := fun t => (.inl (.inl (lv (.bool t))))
def dd45 : Bool := false
abbrev c45 (m : Int → Option Bool) := fnT (cx := cxT) a45 n45 dd45 m
theorem hs45 : HS n45 := fun _ => .inl rfl
def a46 : Args cxT.ty (Int × Int) := (Args.cons (Arg.leaf (LArg.int .i64)) (Args.one (Arg.leaf (LArg.int .i64))))
def n46 : Bool → V cxT.ty := fun t => (.inl (.inl (lv (.bool t))))
def dd46 : Bool := false
abbrev c46 (m : (Int × Int) → Option Bool) := fnT (cx := cxT) a46 n46 dd46 m
theorem hs46 : HS n46 := fun _ => .inl rfl
def a47 : Args cxT.ty Int := (Args.one (Arg.leaf (LArg.int .i64)))
def n47 : Bool → V cxT.ty := fun t => (.inl (.inl (lv (.bool t))))
def dd47 : Bool := false
abbrev c47 (m : Int → Option Bool) := fnT (cx := cxT) a47 n47 dd47 m
theorem hs47 : HS n47 := fun _ => .inl rfl
def a48 : Args cxT.ty (Int × Int) := (Args.cons (Arg.leaf (LArg.int .i64)) (Args.one (Arg.leaf (LArg.int .i64))))
def n48 : Bool → V cxT.ty := fun t => (.inl (.inl (lv (.bool t))))
def dd48 : Bool := false
abbrev c48 (m : (Int × Int) → Option Bool) := fnT (cx := cxT) a48 n48 dd48 m
theorem hs48 : HS n48 := fun _ => .inl rfl
def a49 : Args cxT.ty Int := (Args.one (Arg.leaf (LArg.int .i64)))
def n49 : Bool → V cxT.ty := fun t => (.inl (.inl (lv (.bool t))))
def dd49 : Bool := false
abbrev c49 (m : Int → Option Bool) := fnT (cx := cxT) a49 n49 dd49 m
theorem hs49 : HS n49 := fun _ => .inl rfl
def a50 : Args cxT.ty (List E9) := (Args.one (Arg.leaf (LArg.row 57)))
def n50 : Int → V cxT.ty := fun t => (.inl (.inl (lv (.int .i64 t))))
def dd50 : Int := (0 : Int)
abbrev c50 (m : (List E9) → Option Int) := fnT (cx := cxT) a50 n50 dd50 m
theorem hs50 : HS n50 := fun _ => .inl rfl
def a51 : Args cxT.ty (List E9) := (Args.one (Arg.leaf (LArg.row 57)))
def n51 : E9 → V cxT.ty := nn3
def dd51 : E9 := ((0 : Int), (0 : Int), (0 : Int), (0 : Int), (0 : Int), (0 : Int), (0 : Int), (0 : Int), (0 : Int))
abbrev c51 (m : (List E9) → Option E9) := fnT (cx := cxT) a51 n51 dd51 m
theorem hs51 : HS n51 := fun _ => .inl rfl
def a52 : Args cxT.ty (Int × Int × Int) := (Args.cons (Arg.leaf (LArg.int .i64)) (Args.cons (Arg.leaf (LArg.int .i64)) (Args.one (Arg.leaf (LArg.int .i64)))))
def n52 : Bool → V cxT.ty := fun t => (.inl (.inl (lv (.bool t))))
def dd52 : Bool := false
abbrev c52 (m : (Int × Int × Int) → Option Bool) := fnT (cx := cxT) a52 n52 dd52 m
theorem hs52 : HS n52 := fun _ => .inl rfl
def a53 : Args cxT.ty N10 := (Args.one (Arg.leaf (LArg.ptr 30)))
def n53 : Int → V cxT.ty := fun t => (.inl (.inl (lv (.int .i64 t))))
def dd53 : Int := (0 : Int)
abbrev c53 (m : N10 → Option Int) := fnT (cx := cxT) a53 n53 dd53 m
theorem hs53 : HS n53 := fun _ => .inl rfl
def a54 : Args cxT.ty N10 := (Args.one (Arg.leaf (LArg.ptr 30)))
def n54 : Bool → V cxT.ty := fun t => (.inl (.inl (lv (.bool t))))
def dd54 : Bool := false
abbrev c54 (m : N10 → Option Bool) := fnT (cx := cxT) a54 n54 dd54 m
theorem hs54 : HS n54 := fun _ => .inl rfl
def a55 : Args cxT.ty N10 := (Args.one (Arg.leaf (LArg.ptr 30)))
def n55 : Bool → V cxT.ty := fun t => (.inl (.inl (lv (.bool t))))
def dd55 : Bool := false
abbrev c55 (m : N10 → Option Bool) := fnT (cx := cxT) a55 n55 dd55 m
theorem hs55 : HS n55 := fun _ => .inl rfl
def a56 : Args cxT.ty ((List Int) × Int × Int) := (Args.cons (Arg.leaf (LArg.row 2)) (Args.cons (Arg.leaf (LArg.int .i64)) (Args.one (Arg.leaf (LArg.int .i64)))))
def n56 : Bool → V cxT.ty := fun t => (.inl (.inl (lv (.bool t))))
def dd56 : Bool := false
abbrev c56 (m : ((List Int) × Int × Int) → Option Bool) := fnT (cx := cxT) a56 n56 dd56 m
theorem hs56 : HS n56 := fun _ => .inl rfl
def a57 : Args cxT.ty ((List E9) × (List E9)) := (Args.cons (Arg.leaf (LArg.row 57)) (Args.one (Arg.leaf (LArg.row 57))))
def n57 : Bool → V cxT.ty := fun t => (.inl (.inl (lv (.bool t))))
def dd57 : Bool := false
abbrev c57 (m : ((List E9) × (List E9)) → Option Bool) := fnT (cx := cxT) a57 n57 dd57 m
theorem hs57 : HS n57 := fun _ => .inl rfl
def a58 : Args cxT.ty ((List Int) × (List Int)) := (Args.cons (Arg.leaf (LArg.row 2)) (Args.one (Arg.leaf (LArg.row 2))))
def n58 : Bool → V cxT.ty := fun t => (.inl (.inl (lv (.bool t))))
def dd58 : Bool := false
abbrev c58 (m : ((List Int) × (List Int)) → Option Bool) := fnT (cx := cxT) a58 n58 dd58 m
theorem hs58 : HS n58 := fun _ => .inl rfl
def a60 : Args cxT.ty Int := (Args.one (Arg.leaf (LArg.int .i64)))
def n60 : Bool → V cxT.ty := fun t => (.inl (.inl (lv (.bool t))))
def dd60 : Bool := false
abbrev c60 (m : Int → Option Bool) := fnT (cx := cxT) a60 n60 dd60 m
theorem hs60 : HS n60 := fun _ => .inl rfl
def a64 : Args cxT.ty Int := (Args.one (Arg.leaf (LArg.int .i64)))
def n64 : R12 → V cxT.ty := nn1
def dd64 : R12 := ((0 : Int), (0 : Int), (0 : Int), (0 : Int), (0 : Int), [], (0 : Int), (0 : Int), [], [], [], [])
abbrev c64 (m : Int → Option R12) := fnT (cx := cxT) a64 n64 dd64 m
theorem hs64 : HS n64 := fun _ => .inl rfl
def a65 : Args cxT.ty N10 := (Args.one ag1)
def n65 : N10 → V cxT.ty := nn2
def dd65 : N10 := ((0 : Int), (0 : Int), (0 : Int), (0 : Int), [], (0 : Int), (0 : Int), [], [], [])
abbrev c65 (m : N10 → Option N10) := fnT (cx := cxT) a65 n65 dd65 m
theorem hs65 : HS n65 := fun _ => .inl rfl
def a66 : Args cxT.ty (List E9) := (Args.one (Arg.leaf (LArg.row 57)))
def n66 : E9 → V cxT.ty := nn3
def dd66 : E9 := ((0 : Int), (0 : Int), (0 : Int), (0 : Int), (0 : Int), (0 : Int), (0 : Int), (0 : Int), (0 : Int))
abbrev c66 (m : (List E9) → Option E9) := fnT (cx := cxT) a66 n66 dd66 m
theorem hs66 : HS n66 := fun _ => .inl rfl
def a69 : Args cxT.ty N10 := (Args.one ag1)
def n69 : N10 → V cxT.ty := nn2
def dd69 : N10 := ((0 : Int), (0 : Int), (0 : Int), (0 : Int), [], (0 : Int), (0 : Int), [], [], [])
abbrev c69 (m : N10 → Option N10) := fnT (cx := cxT) a69 n69 dd69 m
theorem hs69 : HS n69 := fun _ => .inl rfl
def a74 : Args cxT.ty ((List M9) × (List M9)) := (Args.cons (Arg.leaf (LArg.row 39)) (Args.one (Arg.leaf (LArg.row 39))))
def n74 : Bool → V cxT.ty := fun t => (.inl (.inl (lv (.bool t))))
def dd74 : Bool := false
abbrev c74 (m : ((List M9) × (List M9)) → Option Bool) := fnT (cx := cxT) a74 n74 dd74 m
theorem hs74 : HS n74 := fun _ => .inl rfl
def a75 : Args cxT.ty ((List E9) × Int) := (Args.cons (Arg.leaf (LArg.own 57)) (Args.one (Arg.leaf (LArg.int .i64))))
def n75 : (Int × (List E9)) → List (A cxT.ty) := fun t => [(.inl (lv (.int .i64 t.1))), (.inl (ls { own := 2, nm := 0, e := 57, o := true, xs := t.2 }))]
def dd75 : (Int × (List E9)) := ((0 : Int), [])
abbrev c75 (m : ((List E9) × Int) → Option (Int × (List E9))) : WFn cxT := { nres := 1, n := 1, F := fnW (cx := cxT) a75 n75 dd75 m }
theorem hs75 : ∀ t, noRoV (.inr (.inl (n75 t)) : V cxT.ty) = true := fun _ => rfl
def a76 : Args cxT.ty ((List Int) × Int) := (Args.cons (Arg.leaf (LArg.own 2)) (Args.one (Arg.leaf (LArg.int .i64))))
def n76 : (Int × (List Int)) → List (A cxT.ty) := fun t => [(.inl (lv (.int .i64 t.1))), (.inl (ls { own := 2, nm := 0, e := 2, o := true, xs := t.2 }))]
def dd76 : (Int × (List Int)) := ((0 : Int), [])
abbrev c76 (m : ((List Int) × Int) → Option (Int × (List Int))) : WFn cxT := { nres := 1, n := 1, F := fnW (cx := cxT) a76 n76 dd76 m }
theorem hs76 : ∀ t, noRoV (.inr (.inl (n76 t)) : V cxT.ty) = true := fun _ => rfl
def a77 : Args cxT.ty ((List M9) × Int) := (Args.cons (Arg.leaf (LArg.own 39)) (Args.one (Arg.leaf (LArg.int .i64))))
def n77 : (Int × (List M9)) → List (A cxT.ty) := fun t => [(.inl (lv (.int .i64 t.1))), (.inl (ls { own := 2, nm := 0, e := 39, o := true, xs := t.2 }))]
def dd77 : (Int × (List M9)) := ((0 : Int), [])
abbrev c77 (m : ((List M9) × Int) → Option (Int × (List M9))) : WFn cxT := { nres := 1, n := 1, F := fnW (cx := cxT) a77 n77 dd77 m, p := 4 }
theorem hs77 : ∀ t, noRoV (.inr (.inl (n77 t)) : V cxT.ty) = true := fun _ => rfl
def a78 : Args cxT.ty (N10 × Int) := (Args.cons ag1 (Args.one (Arg.leaf (LArg.int .i64))))
def n78 : Int → V cxT.ty := fun t => (.inl (.inl (lv (.int .i64 t))))
def dd78 : Int := (0 : Int)
abbrev c78 (m : (N10 × Int) → Option Int) := fnT (cx := cxT) a78 n78 dd78 m
theorem hs78 : HS n78 := fun _ => .inl rfl
def a79 : Args cxT.ty ((List M9) × Int) := (Args.cons (Arg.leaf (LArg.row 39)) (Args.one (Arg.leaf (LArg.int .i64))))
def n79 : Int → V cxT.ty := fun t => (.inl (.inl (lv (.int .i64 t))))
def dd79 : Int := (0 : Int)
abbrev c79 (m : ((List M9) × Int) → Option Int) := fnT (cx := cxT) a79 n79 dd79 m
theorem hs79 : HS n79 := fun _ => .inl rfl
def a80 : Args cxT.ty (N10 × Int) := (Args.cons (Arg.leaf (LArg.ptr 30)) (Args.one (Arg.leaf (LArg.int .i64))))
abbrev nn4 : M9 → V cxT.ty := fun t => (.inl (.inr [(lv (.int .i64 t.1)), (lv (.int .i64 t.2.1)), (lv (.int .i64 t.2.2.1)), (lv (.int .i64 t.2.2.2.1)), (lv (.int .i64 t.2.2.2.2.1)), (lv (.int .i64 t.2.2.2.2.2.1)), (lv (.int .i64 t.2.2.2.2.2.2.1)), (lv (.bool t.2.2.2.2.2.2.2.1)), (ls { own := 2, nm := 0, e := 57, o := true, xs := t.2.2.2.2.2.2.2.2 })]))
def n80 : M9 → V cxT.ty := nn4
def dd80 : M9 := ((0 : Int), (0 : Int), (0 : Int), (0 : Int), (0 : Int), (0 : Int), (0 : Int), false, [])
abbrev c80 (m : (N10 × Int) → Option M9) := fnT (cx := cxT) a80 n80 dd80 m
theorem hs80 : HS n80 := fun _ => .inl rfl
def a81 : Args cxT.ty N10 := (Args.one ag1)
def n81 : Int → V cxT.ty := fun t => (.inl (.inl (lv (.int .i64 t))))
def dd81 : Int := (0 : Int)
abbrev c81 (m : N10 → Option Int) := fnT (cx := cxT) a81 n81 dd81 m
theorem hs81 : HS n81 := fun _ => .inl rfl
def a82 : Args cxT.ty (N10 × Int) := (Args.cons (Arg.leaf (LArg.ptr 30)) (Args.one (Arg.leaf (LArg.int .i64))))
def n82 : M9 → V cxT.ty := nn4
def dd82 : M9 := ((0 : Int), (0 : Int), (0 : Int), (0 : Int), (0 : Int), (0 : Int), (0 : Int), false, [])
abbrev c82 (m : (N10 × Int) → Option M9) := fnT (cx := cxT) a82 n82 dd82 m
theorem hs82 : HS n82 := fun _ => .inl rfl
def a83 : Args cxT.ty E9 := (Args.one ag3)
def n83 : Int → V cxT.ty := fun t => (.inl (.inl (lv (.int .i64 t))))
def dd83 : Int := (0 : Int)
abbrev c83 (m : E9 → Option Int) := fnT (cx := cxT) a83 n83 dd83 m
theorem hs83 : HS n83 := fun _ => .inl rfl
def a85 : Args cxT.ty (Int × Int × Int × Int × Int × Int) := (Args.one ag4)
def n85 : (Int × Int × Int × Int × Int × Int) → V cxT.ty := fun t => (.inl (.inr [(lv (.int .i64 t.1)), (lv (.int .i64 t.2.1)), (lv (.int .i64 t.2.2.1)), (lv (.int .i64 t.2.2.2.1)), (lv (.int .i64 t.2.2.2.2.1)), (lv (.int .i64 t.2.2.2.2.2))]))
def dd85 : (Int × Int × Int × Int × Int × Int) := ((0 : Int), (0 : Int), (0 : Int), (0 : Int), (0 : Int), (0 : Int))
abbrev c85 (m : (Int × Int × Int × Int × Int × Int) → Option (Int × Int × Int × Int × Int × Int)) := fnT (cx := cxT) a85 n85 dd85 m
theorem hs85 : HS n85 := fun _ => .inl rfl
def a86 : Args cxT.ty E9 := (Args.one ag3)
def n86 : Int → V cxT.ty := fun t => (.inl (.inl (lv (.int .i64 t))))
def dd86 : Int := (0 : Int)
abbrev c86 (m : E9 → Option Int) := fnT (cx := cxT) a86 n86 dd86 m
theorem hs86 : HS n86 := fun _ => .inl rfl
def a93 : Args cxT.ty (List E9) := (Args.one (Arg.leaf (LArg.row 57)))
def n93 : (List E9) → V cxT.ty := fun t => (.inl (.inl (ls { own := 2, nm := 0, e := 57, o := true, xs := t })))
def dd93 : (List E9) := []
abbrev c93 (m : (List E9) → Option (List E9)) := fnT (cx := cxT) a93 n93 dd93 m
theorem hs93 : HS n93 := fun _ => .inl rfl
def a94 : Args cxT.ty (Int × Int × Int) := (Args.cons (Arg.leaf (LArg.int .i64)) (Args.cons (Arg.leaf (LArg.int .i64)) (Args.one (Arg.leaf (LArg.int .i64)))))
def n94 : Bool → V cxT.ty := fun t => (.inl (.inl (lv (.bool t))))
def dd94 : Bool := false
abbrev c94 (m : (Int × Int × Int) → Option Bool) := fnT (cx := cxT) a94 n94 dd94 m
theorem hs94 : HS n94 := fun _ => .inl rfl
def a95 : Args cxT.ty (N10 × Int) := (Args.cons (Arg.leaf (LArg.ptr 30)) (Args.one (Arg.leaf (LArg.int .i64))))
def n95 : Bool → V cxT.ty := fun t => (.inl (.inl (lv (.bool t))))
def dd95 : Bool := false
abbrev c95 (m : (N10 × Int) → Option Bool) := fnT (cx := cxT) a95 n95 dd95 m
theorem hs95 : HS n95 := fun _ => .inl rfl
def a96 : Args cxT.ty (List E9) := (Args.one (Arg.leaf (LArg.row 57)))
def n96 : Int → V cxT.ty := fun t => (.inl (.inl (lv (.int .i64 t))))
def dd96 : Int := (0 : Int)
abbrev c96 (m : (List E9) → Option Int) := fnT (cx := cxT) a96 n96 dd96 m
theorem hs96 : HS n96 := fun _ => .inl rfl
def a97 : Args cxT.ty N10 := (Args.one (Arg.leaf (LArg.ptr 30)))
def n97 : Bool → V cxT.ty := fun t => (.inl (.inl (lv (.bool t))))
def dd97 : Bool := false
abbrev c97 (m : N10 → Option Bool) := fnT (cx := cxT) a97 n97 dd97 m
theorem hs97 : HS n97 := fun _ => .inl rfl
def a98 : Args cxT.ty ((List E9) × Int) := (Args.cons (Arg.leaf (LArg.row 57)) (Args.one (Arg.leaf (LArg.int .i64))))
def n98 : (Int × Int × Int × Int × Int × Int × Int × Int × Int × Bool) → V cxT.ty := fun t => (.inr (.inl [(.inr [(lv (.int .i64 t.1)), (lv (.int .i64 t.2.1)), (lv (.int .i64 t.2.2.1)), (lv (.int .i64 t.2.2.2.1)), (lv (.int .i64 t.2.2.2.2.1)), (lv (.int .i64 t.2.2.2.2.2.1)), (lv (.int .i64 t.2.2.2.2.2.2.1)), (lv (.int .i64 t.2.2.2.2.2.2.2.1)), (lv (.int .i64 t.2.2.2.2.2.2.2.2.1))]), (.inl (lv (.bool t.2.2.2.2.2.2.2.2.2)))]))
def dd98 : (Int × Int × Int × Int × Int × Int × Int × Int × Int × Bool) := ((0 : Int), (0 : Int), (0 : Int), (0 : Int), (0 : Int), (0 : Int), (0 : Int), (0 : Int), (0 : Int), false)
abbrev c98 (m : ((List E9) × Int) → Option (Int × Int × Int × Int × Int × Int × Int × Int × Int × Bool)) := fnT (cx := cxT) a98 n98 dd98 m
theorem hs98 : HS n98 := fun _ => .inl rfl
def a99 : Args cxT.ty (List E9) := (Args.one (Arg.leaf (LArg.row 57)))
def n99 : Int → V cxT.ty := fun t => (.inl (.inl (lv (.int .i64 t))))
def dd99 : Int := (0 : Int)
abbrev c99 (m : (List E9) → Option Int) := fnT (cx := cxT) a99 n99 dd99 m
theorem hs99 : HS n99 := fun _ => .inl rfl
def a100 : Args cxT.ty (E9 × E9) := (Args.cons ag3 (Args.one ag3))
def n100 : Bool → V cxT.ty := fun t => (.inl (.inl (lv (.bool t))))
def dd100 : Bool := false
abbrev c100 (m : (E9 × E9) → Option Bool) := fnT (cx := cxT) a100 n100 dd100 m
theorem hs100 : HS n100 := fun _ => .inl rfl
def a108 : Args cxT.ty (N10 × Int × Int) := (Args.cons (Arg.leaf (LArg.ptr 30)) (Args.cons (Arg.leaf (LArg.int .i64)) (Args.one (Arg.leaf (LArg.int .i64)))))
def n108 : M9 → V cxT.ty := nn4
def dd108 : M9 := ((0 : Int), (0 : Int), (0 : Int), (0 : Int), (0 : Int), (0 : Int), (0 : Int), false, [])
abbrev c108 (m : (N10 × Int × Int) → Option M9) := fnT (cx := cxT) a108 n108 dd108 m
theorem hs108 : HS n108 := fun _ => .inl rfl
def a109 : Args cxT.ty ((List E9) × Int) := (Args.cons (Arg.leaf (LArg.row 57)) (Args.one (Arg.leaf (LArg.int .i64))))
def n109 : Int → V cxT.ty := fun t => (.inl (.inl (lv (.int .i64 t))))
def dd109 : Int := (0 : Int)
abbrev c109 (m : ((List E9) × Int) → Option Int) := fnT (cx := cxT) a109 n109 dd109 m
theorem hs109 : HS n109 := fun _ => .inl rfl
def a110 : Args cxT.ty ((List Int) × Int) := (Args.cons (Arg.leaf (LArg.row 2)) (Args.one (Arg.leaf (LArg.int .i64))))
def n110 : Int → V cxT.ty := fun t => (.inl (.inl (lv (.int .i64 t))))
def dd110 : Int := (0 : Int)
abbrev c110 (m : ((List Int) × Int) → Option Int) := fnT (cx := cxT) a110 n110 dd110 m
theorem hs110 : HS n110 := fun _ => .inl rfl
def a111 : Args cxT.ty (Int × Int) := (Args.cons (Arg.leaf (LArg.int .i64)) (Args.one (Arg.leaf (LArg.int .i64))))
def n111 : Int → V cxT.ty := fun t => (.inl (.inl (lv (.int .i64 t))))
def dd111 : Int := (0 : Int)
abbrev c111 (m : (Int × Int) → Option Int) := fnT (cx := cxT) a111 n111 dd111 m
theorem hs111 : HS n111 := fun _ => .inl rfl
def a112 : Args cxT.ty (N10 × Int) := (Args.cons (Arg.leaf (LArg.ptr 30)) (Args.one (Arg.leaf (LArg.int .i64))))
def n112 : Int → V cxT.ty := fun t => (.inl (.inl (lv (.int .i64 t))))
def dd112 : Int := (0 : Int)
abbrev c112 (m : (N10 × Int) → Option Int) := fnT (cx := cxT) a112 n112 dd112 m
theorem hs112 : HS n112 := fun _ => .inl rfl
def a113 : Args cxT.ty ((List E9) × Int) := (Args.cons (Arg.leaf (LArg.row 57)) (Args.one (Arg.leaf (LArg.int .i64))))
def n113 : (List E9) → V cxT.ty := fun t => (.inl (.inl (ls (ro 57 t))))
def dd113 : (List E9) := []
abbrev c113 (m : ((List E9) × Int) → Option (List E9)) := fnT (cx := cxT) a113 n113 dd113 m
theorem hs113 : HS n113 := fun _ => .inr rfl
def a114 : Args cxT.ty ((List E9) × Int × (List E9)) := (Args.cons (Arg.leaf (LArg.row 57)) (Args.cons (Arg.leaf (LArg.int .i64)) (Args.one (Arg.leaf (LArg.row 57)))))
def n114 : (List E9) → V cxT.ty := fun t => (.inl (.inl (ls { own := 2, nm := 0, e := 57, o := true, xs := t })))
def dd114 : (List E9) := []
abbrev c114 (m : ((List E9) × Int × (List E9)) → Option (List E9)) := fnT (cx := cxT) a114 n114 dd114 m
theorem hs114 : HS n114 := fun _ => .inl rfl
def a115 : Args cxT.ty (Int × Int × Int × Int × Int × Int) := (Args.one ag4)
def n115 : Int → V cxT.ty := fun t => (.inl (.inl (lv (.int .i64 t))))
def dd115 : Int := (0 : Int)
abbrev c115 (m : (Int × Int × Int × Int × Int × Int) → Option Int) := fnT (cx := cxT) a115 n115 dd115 m
def a116 : Args cxT.ty Int := (Args.one (Arg.leaf (LArg.int .i64)))
def n116 : Bool → V cxT.ty := fun t => (.inl (.inl (lv (.bool t))))
def dd116 : Bool := false
abbrev c116 (m : Int → Option Bool) := fnT (cx := cxT) a116 n116 dd116 m
theorem hs116 : HS n116 := fun _ => .inl rfl
def a117 : Args cxT.ty Int := (Args.one (Arg.leaf (LArg.int .i64)))
def n117 : Bool → V cxT.ty := fun t => (.inl (.inl (lv (.bool t))))
def dd117 : Bool := false
abbrev c117 (m : Int → Option Bool) := fnT (cx := cxT) a117 n117 dd117 m
theorem hs117 : HS n117 := fun _ => .inl rfl
def a118 : Args cxT.ty (Int × Int × Int × Int × Int × Int) := (Args.one ag4)
def n118 : Int → V cxT.ty := fun t => (.inl (.inl (lv (.int .i64 t))))
def dd118 : Int := (0 : Int)
abbrev c118 (m : (Int × Int × Int × Int × Int × Int) → Option Int) := fnT (cx := cxT) a118 n118 dd118 m
def a128 : Args cxT.ty (List Int) := (Args.one (Arg.leaf (LArg.row 2)))
def n128 : Bool → V cxT.ty := fun t => (.inl (.inl (lv (.bool t))))
def dd128 : Bool := false
abbrev c128 (m : (List Int) → Option Bool) := fnT (cx := cxT) a128 n128 dd128 m
theorem hs128 : HS n128 := fun _ => .inl rfl
def a129 : Args cxT.ty ((Int × Int × Int × Int × Int × Int) × (Int × Int × Int × Int × Int × Int)) := (Args.cons ag4 (Args.one ag4))
def n129 : Bool → V cxT.ty := fun t => (.inl (.inl (lv (.bool t))))
def dd129 : Bool := false
abbrev c129 (m : ((Int × Int × Int × Int × Int × Int) × (Int × Int × Int × Int × Int × Int)) → Option Bool) := fnT (cx := cxT) a129 n129 dd129 m
theorem hs129 : HS n129 := fun _ => .inl rfl
def a134 : Args cxT.ty (List (List E9)) := (Args.one (Arg.leaf (LArg.row 104)))
def n134 : (List E9) → V cxT.ty := fun t => (.inl (.inl (ls { own := 2, nm := 0, e := 57, o := true, xs := t })))
def dd134 : (List E9) := []
abbrev c134 (m : (List (List E9)) → Option (List E9)) := fnT (cx := cxT) a134 n134 dd134 m
def a135 : Args cxT.ty Int := (Args.one (Arg.leaf (LArg.int .i64)))
def n135 : (Bool × Bool × Bool × Bool) → V cxT.ty := fun t => (.inr (.inl [(.inl (lv (.bool t.1))), (.inl (lv (.bool t.2.1))), (.inl (lv (.bool t.2.2.1))), (.inl (lv (.bool t.2.2.2)))]))
def dd135 : (Bool × Bool × Bool × Bool) := (false, false, false, false)
abbrev c135 (m : Int → Option (Bool × Bool × Bool × Bool)) := fnT (cx := cxT) a135 n135 dd135 m
theorem hs135 : HS n135 := fun _ => .inl rfl
def a136 : Args cxT.ty Int := (Args.one (Arg.leaf (LArg.int .i64)))
def n136 : Bool → V cxT.ty := fun t => (.inl (.inl (lv (.bool t))))
def dd136 : Bool := false
abbrev c136 (m : Int → Option Bool) := fnT (cx := cxT) a136 n136 dd136 m
theorem hs136 : HS n136 := fun _ => .inl rfl
def a137 : Args cxT.ty Int := (Args.one (Arg.leaf (LArg.int .i64)))
def n137 : Bool → V cxT.ty := fun t => (.inl (.inl (lv (.bool t))))
def dd137 : Bool := false
abbrev c137 (m : Int → Option Bool) := fnT (cx := cxT) a137 n137 dd137 m
theorem hs137 : HS n137 := fun _ => .inl rfl
def a138 : Args cxT.ty Int := (Args.one (Arg.leaf (LArg.int .i64)))
def n138 : Bool → V cxT.ty := fun t => (.inl (.inl (lv (.bool t))))
def dd138 : Bool := false
abbrev c138 (m : Int → Option Bool) := fnT (cx := cxT) a138 n138 dd138 m
theorem hs138 : HS n138 := fun _ => .inl rfl
def a139 : Args cxT.ty (Int × Int × Int × Int × Int × Int) := (Args.one ag4)
def n139 : Bool → V cxT.ty := fun t => (.inl (.inl (lv (.bool t))))
def dd139 : Bool := false
abbrev c139 (m : (Int × Int × Int × Int × Int × Int) → Option Bool) := fnT (cx := cxT) a139 n139 dd139 m
theorem hs139 : HS n139 := fun _ => .inl rfl
def a140 : Args cxT.ty Int := (Args.one (Arg.leaf (LArg.int .i64)))
def n140 : Bool → V cxT.ty := fun t => (.inl (.inl (lv (.bool t))))
def dd140 : Bool := false
abbrev c140 (m : Int → Option Bool) := fnT (cx := cxT) a140 n140 dd140 m
theorem hs140 : HS n140 := fun _ => .inl rfl
def a141 : Args cxT.ty Int := (Args.one (Arg.leaf (LArg.int .i64)))
def n141 : Bool → V cxT.ty := fun t => (.inl (.inl (lv (.bool t))))
def dd141 : Bool := false
abbrev c141 (m : Int → Option Bool) := fnT (cx := cxT) a141 n141 dd141 m
theorem hs141 : HS n141 := fun _ => .inl rfl
def a156 : Args cxT.ty Int := (Args.one (Arg.leaf (LArg.int .i64)))
def n156 : Bool → V cxT.ty := fun t => (.inl (.inl (lv (.bool t))))
def dd156 : Bool := false
abbrev c156 (m : Int → Option Bool) := fnT (cx := cxT) a156 n156 dd156 m
theorem hs156 : HS n156 := fun _ => .inl rfl
def a157 : Args cxT.ty Int := (Args.one (Arg.leaf (LArg.int .i64)))
def n157 : Bool → V cxT.ty := fun t => (.inl (.inl (lv (.bool t))))
def dd157 : Bool := false
abbrev c157 (m : Int → Option Bool) := fnT (cx := cxT) a157 n157 dd157 m
theorem hs157 : HS n157 := fun _ => .inl rfl
def a158 : Args cxT.ty Int := (Args.one (Arg.leaf (LArg.int .i64)))
def n158 : Bool → V cxT.ty := fun t => (.inl (.inl (lv (.bool t))))
def dd158 : Bool := false
abbrev c158 (m : Int → Option Bool) := fnT (cx := cxT) a158 n158 dd158 m
theorem hs158 : HS n158 := fun _ => .inl rfl
def a159 : Args cxT.ty Int := (Args.one (Arg.leaf (LArg.int .i64)))
def n159 : Bool → V cxT.ty := fun t => (.inl (.inl (lv (.bool t))))
def dd159 : Bool := false
abbrev c159 (m : Int → Option Bool) := fnT (cx := cxT) a159 n159 dd159 m
theorem hs159 : HS n159 := fun _ => .inl rfl
def a162 : Args cxT.ty Int := (Args.one (Arg.leaf (LArg.int .i64)))
def n162 : Bool → V cxT.ty := fun t => (.inl (.inl (lv (.bool t))))
def dd162 : Bool := false
abbrev c162 (m : Int → Option Bool) := fnT (cx := cxT) a162 n162 dd162 m
theorem hs162 : HS n162 := fun _ => .inl rfl
def a165 : Args cxT.ty Int := (Args.one (Arg.leaf (LArg.int .i64)))
def n165 : Bool → V cxT.ty := fun t => (.inl (.inl (lv (.bool t))))
def dd165 : Bool := false
abbrev c165 (m : Int → Option Bool) := fnT (cx := cxT) a165 n165 dd165 m
theorem hs165 : HS n165 := fun _ => .inl rfl
def a166 : Args cxT.ty Int := (Args.one (Arg.leaf (LArg.int .i64)))
def n166 : Bool → V cxT.ty := fun t => (.inl (.inl (lv (.bool t))))
def dd166 : Bool := false
abbrev c166 (m : Int → Option Bool) := fnT (cx := cxT) a166 n166 dd166 m
theorem hs166 : HS n166 := fun _ => .inl rfl
def a171 : Args cxT.ty Int := (Args.one (Arg.leaf (LArg.int .i64)))
def n171 : Bool → V cxT.ty := fun t => (.inl (.inl (lv (.bool t))))
def dd171 : Bool := false
abbrev c171 (m : Int → Option Bool) := fnT (cx := cxT) a171 n171 dd171 m
theorem hs171 : HS n171 := fun _ => .inl rfl
def a72 : Args cxT.ty (N10 × N10) := (Args.cons (Arg.leaf (LArg.ptr 30)) (Args.one (Arg.leaf (LArg.mv 30 82))))
def n72 : (List M9) → V cxT.ty := fun t => (.inl (.inl (ls { own := 2, nm := 0, e := 39, o := true, xs := t })))
def dd72 : (List M9) := []
abbrev c72 (m : (N10 × N10) → Option (List M9)) := fnT (cx := cxT) a72 n72 dd72 m
theorem hs72 : HS n72 := fun _ => .inl rfl
end Go.Proofs.Tryz
