/- A part of the proof of FnExactBackendAt: L5Base, L5Con. -/
import Derived.Test.YtfncedbejffggaaVmJ
import Derived.Test.YtfncedbejffggaaProg
namespace Go.Proofs.Try
open Go Go.VM Go.RowKit

abbrev Bk := Int × Int × Int × Int × Bool
abbrev Vp := Int × Int × Int × List Int
def tyT (e : Nat) : Type := if e = 2 then Int else if e = 3 then Int else if e = 5 then Int else if e = 38 then Bk else if e = 36 then Vp else if e = 44 then Int × Int else if e = 129 then Bk else if e = 127 then Vp else Unit
def inhT (e : Nat) : tyT e := by
  unfold tyT
  repeat' split
  all_goals first | exact (0 : Int) | exact ((0, 0) : Int × Int) | exact ((0, 0, 0, 0, false) : Bk) | exact ((0, 0, 0, []) : Vp) | exact ()
def cd2 : Cd tyT (tyT 2) := cdInt .i64
def cd3 : Cd tyT (tyT 3) := cdInt .i64
def cd5 : Cd tyT (tyT 5) := cdInt .u8
def cdBk : Cd tyT Bk := cdPair (cdInt .i64) (cdPair (cdInt .i64) (cdPair (cdInt .i64) (cdPair (cdInt .i64) cdBool)))
def cdVp : Cd tyT Vp := cdPair (cdInt .i64) (cdPair (cdInt .i64) (cdPair (cdInt .i64) (cdRow 2)))
def cd38 : Cd tyT (tyT 38) := cdBk
def cd36 : Cd tyT (tyT 36) := cdVp
def cd44 : Cd tyT (tyT 44) := cdPair (cdInt .i64) (cdInt .i64)
def cd129 : Cd tyT (tyT 129) := cdBk
def cd127 : Cd tyT (tyT 127) := cdVp
def cdT (e : Nat) : Cd tyT (tyT e) :=
  if h : e = 2 then h.symm ▸ cd2 else if h : e = 3 then h.symm ▸ cd3 else if h : e = 5 then h.symm ▸ cd5 else if h : e = 38 then h.symm ▸ cd38 else if h : e = 36 then h.symm ▸ cd36 else if h : e = 44 then h.symm ▸ cd44 else if h : e = 129 then h.symm ▸ cd129 else if h : e = 127 then h.symm ▸ cd127 else cdNone (inhT e)
def cxT : Cx := Cx.of cdT
theorem cxT_ok : cxT.Ok := Cx.of_ok cdT
set_option maxRecDepth 100000 in
theorem dom_cases {e : Nat} (h : (cdT e).dom = true) : e = 2 ∨ e = 3 ∨ e = 5 ∨ e = 38 ∨ e = 44 ∨ e = 129 := by
  by_cases h1 : e = 2
  · exact .inl h1
  by_cases h2 : e = 3
  · exact .inr (.inl h2)
  by_cases h3 : e = 5
  · exact .inr (.inr (.inl h3))
  by_cases h4 : e = 38
  · exact .inr (.inr (.inr (.inl h4)))
  by_cases h5 : e = 36
  · subst h5; exact absurd h (by intro hh; cases (show false = true from hh))
  by_cases h6 : e = 44
  · exact .inr (.inr (.inr (.inr (.inl h6))))
  by_cases h7 : e = 129
  · exact .inr (.inr (.inr (.inr (.inr h7))))
  by_cases h8 : e = 127
  · subst h8; exact absurd h (by intro hh; cases (show false = true from hh))
  · unfold cdT at h; rw [dif_neg h1, dif_neg h2, dif_neg h3, dif_neg h4, dif_neg h5, dif_neg h6, dif_neg h7, dif_neg h8] at h; exact Bool.noConfusion h

set_option maxRecDepth 100000 in
theorem cxT_pok : cxT.POk prog := by
  refine ⟨fun e he => ?_, fun e he hu o x => ?_⟩
  · rcases dom_cases he with rfl | rfl | rfl | rfl | rfl | rfl <;>
    exact ⟨_, _, rfl, rfl, rfl, by decide, rfl, by decide, rfl⟩
  · rcases dom_cases he with rfl | rfl | rfl | rfl | rfl | rfl
    · rw [underlying2] at hu; cases hu
    · rw [show prog.underlying 3 = _ from rfl] at hu; cases hu
    · exact ⟨x, rfl⟩
    · rw [show prog.underlying 38 = _ from rfl] at hu; cases hu
    · rw [show prog.underlying 44 = _ from rfl] at hu; cases hu
    · rw [show prog.underlying 129 = _ from rfl] at hu; cases hu
end Go.Proofs.Try

set_option linter.unusedVariables false
namespace Go.Proofs.Try
open Go Go.VM Go.RowKit
/-! loop.example/g00222/laws.FnDrained -/
def a3 : Args cxT.ty (List Int) := (Args.one (Arg.leaf (LArg.row 5)))
def n3 : Bool → V cxT.ty := fun t => (.inl (.inl (lv (.bool t))))
def dd3 : Bool := false
abbrev c3 (m : (List Int) → Option Bool) := fnT (cx := cxT) a3 n3 dd3 m
theorem hs3 : ∀ t, noRoV (n3 t) = true ∨ noOwnV (n3 t) = true := fun _ => .inl rfl
/-! loop.example/g00222/laws.FnExactConfigFault -/
def a4 : Args cxT.ty (Int × (List (Int × (Int × (Int × (Int × Bool))))) × (List (Int × (Int × (Int × (List Int)))))) := (Args.one (Arg.agg (SArg.cons (LArg.int .i64) (SArg.cons (LArg.row 129) (SArg.one (LArg.row 127))))))
def n4 : Bool → V cxT.ty := fun t => (.inl (.inl (lv (.bool t))))
def dd4 : Bool := false
abbrev c4 (m : (Int × (List (Int × (Int × (Int × (Int × Bool))))) × (List (Int × (Int × (Int × (List Int)))))) → Option Bool) := fnT (cx := cxT) a4 n4 dd4 m
theorem hs4 : ∀ t, noRoV (n4 t) = true ∨ noOwnV (n4 t) = true := fun _ => .inl rfl
/-! loop.example/g00222/laws.FnExactCmdFault -/
def a5 : Args cxT.ty (Int × Int × Int × Int × Int × Int) := (Args.one (Arg.agg (SArg.cons (LArg.int .i64) (SArg.cons (LArg.int .i64) (SArg.cons (LArg.int .i64) (SArg.cons (LArg.int .i64) (SArg.cons (LArg.int .i64) (SArg.one (LArg.int .i64)))))))))
def n5 : Bool → V cxT.ty := fun t => (.inl (.inl (lv (.bool t))))
def dd5 : Bool := false
abbrev c5 (m : (Int × Int × Int × Int × Int × Int) → Option Bool) := fnT (cx := cxT) a5 n5 dd5 m
theorem hs5 : ∀ t, noRoV (n5 t) = true ∨ noOwnV (n5 t) = true := fun _ => .inl rfl
/-! loop.example/g00222/laws.FnExactBackendAt -/
def a6 : Args cxT.ty ((Int × (List (Int × (Int × (Int × (Int × Bool))))) × (List (Int × (Int × (Int × (List Int)))))) × Int) := (Args.cons (Arg.agg (SArg.cons (LArg.int .i64) (SArg.cons (LArg.row 129) (SArg.one (LArg.row 127))))) (Args.one (Arg.leaf (LArg.int .i64))))
def n6 : Bool → V cxT.ty := fun t => (.inl (.inl (lv (.bool t))))
def dd6 : Bool := false
abbrev c6 (m : ((Int × (List (Int × (Int × (Int × (Int × Bool))))) × (List (Int × (Int × (Int × (List Int)))))) × Int) → Option Bool) := fnT (cx := cxT) a6 n6 dd6 m
theorem hs6 : ∀ t, noRoV (n6 t) = true ∨ noOwnV (n6 t) = true := fun _ => .inl rfl
/-! loop.example/g00222/laws.FnExactVipFor -/
def a7 : Args cxT.ty ((Int × (List (Int × (Int × (Int × (Int × Bool))))) × (List (Int × (Int × (Int × (List Int)))))) × (Int × Int × Int × Int × Int)) := (Args.cons (Arg.agg (SArg.cons (LArg.int .i64) (SArg.cons (LArg.row 129) (SArg.one (LArg.row 127))))) (Args.one (Arg.agg (SArg.cons (LArg.int .i64) (SArg.cons (LArg.int .i64) (SArg.cons (LArg.int .i64) (SArg.cons (LArg.int .i64) (SArg.one (LArg.int .i64)))))))))
def n7 : Bool → V cxT.ty := fun t => (.inl (.inl (lv (.bool t))))
def dd7 : Bool := false
abbrev c7 (m : ((Int × (List (Int × (Int × (Int × (Int × Bool))))) × (List (Int × (Int × (Int × (List Int)))))) × (Int × Int × Int × Int × Int)) → Option Bool) := fnT (cx := cxT) a7 n7 dd7 m
theorem hs7 : ∀ t, noRoV (n7 t) = true ∨ noOwnV (n7 t) = true := fun _ => .inl rfl
/-! loop.example/g00222/laws.FnExactSharesFor -/
def a8 : Args cxT.ty ((Int × (List (Int × (Int × (Int × (Int × Bool))))) × (List (Int × (Int × (Int × (List Int)))))) × Int) := (Args.cons (Arg.agg (SArg.cons (LArg.int .i64) (SArg.cons (LArg.row 129) (SArg.one (LArg.row 127))))) (Args.one (Arg.leaf (LArg.int .i64))))
def n8 : Bool → V cxT.ty := fun t => (.inl (.inl (lv (.bool t))))
def dd8 : Bool := false
abbrev c8 (m : ((Int × (List (Int × (Int × (Int × (Int × Bool))))) × (List (Int × (Int × (Int × (List Int)))))) × Int) → Option Bool) := fnT (cx := cxT) a8 n8 dd8 m
theorem hs8 : ∀ t, noRoV (n8 t) = true ∨ noOwnV (n8 t) = true := fun _ => .inl rfl
/-! loop.example/g00222/laws.FnExactSameConfigs -/
def a9 : Args cxT.ty ((Int × (List (Int × (Int × (Int × (Int × Bool))))) × (List (Int × (Int × (Int × (List Int)))))) × (Int × (List (Int × (Int × (Int × (Int × Bool))))) × (List (Int × (Int × (Int × (List Int))))))) := (Args.cons (Arg.agg (SArg.cons (LArg.int .i64) (SArg.cons (LArg.row 129) (SArg.one (LArg.row 127))))) (Args.one (Arg.agg (SArg.cons (LArg.int .i64) (SArg.cons (LArg.row 129) (SArg.one (LArg.row 127)))))))
def n9 : Bool → V cxT.ty := fun t => (.inl (.inl (lv (.bool t))))
def dd9 : Bool := false
abbrev c9 (m : ((Int × (List (Int × (Int × (Int × (Int × Bool))))) × (List (Int × (Int × (Int × (List Int)))))) × (Int × (List (Int × (Int × (Int × (Int × Bool))))) × (List (Int × (Int × (Int × (List Int))))))) → Option Bool) := fnT (cx := cxT) a9 n9 dd9 m
theorem hs9 : ∀ t, noRoV (n9 t) = true ∨ noOwnV (n9 t) = true := fun _ => .inl rfl
/-! loop.example/g00222/laws.lwBig -/
def a10 : Args cxT.ty (List Int) := (Args.one (Arg.leaf (LArg.row 5)))
def n10 : Bool → V cxT.ty := fun t => (.inl (.inl (lv (.bool t))))
def dd10 : Bool := false
abbrev c10 (m : (List Int) → Option Bool) := fnT (cx := cxT) a10 n10 dd10 m
theorem hs10 : ∀ t, noRoV (n10 t) = true ∨ noOwnV (n10 t) = true := fun _ => .inl rfl
/-! loop.example/g00222/spec.DrawSharesFor -/
def a11 : Args cxT.ty (List Int) := (Args.one (Arg.leaf (LArg.row 5)))
def n11 : (Int × (List (Int × (Int × (Int × (Int × Bool))))) × (List (Int × (Int × (Int × (List Int))))) × Int) → V cxT.ty := fun t => (.inr (.inl [(.inr [(lv (.int .i64 t.1)), (ls { own := 2, nm := 0, e := 38, o := true, xs := t.2.1 }), (ls { own := 2, nm := 0, e := 36, o := true, xs := t.2.2.1 })]), (.inl (lv (.int .i64 t.2.2.2)))]))
def dd11 : (Int × (List (Int × (Int × (Int × (Int × Bool))))) × (List (Int × (Int × (Int × (List Int))))) × Int) := ((0 : Int), [], [], (0 : Int))
abbrev c11 (m : (List Int) → Option (Int × (List (Int × (Int × (Int × (Int × Bool))))) × (List (Int × (Int × (Int × (List Int))))) × Int)) := fnT (cx := cxT) a11 n11 dd11 m
theorem hs11 : ∀ t, noRoV (n11 t) = true ∨ noOwnV (n11 t) = true := fun _ => .inl rfl
/-! loop.example/g00222/impl.SharesFor -/
def a12 : Args cxT.ty ((Int × (List (Int × (Int × (Int × (Int × Bool))))) × (List (Int × (Int × (Int × (List Int)))))) × Int) := (Args.cons (Arg.agg (SArg.cons (LArg.int .i64) (SArg.cons (LArg.row 38) (SArg.one (LArg.row 36))))) (Args.one (Arg.leaf (LArg.int .i64))))
def n12 : (Int × (List (Int × Int))) → V cxT.ty := fun t => (.inl (.inr [(lv (.int .i64 t.1)), (ls { own := 2, nm := 0, e := 44, o := true, xs := t.2 })]))
def dd12 : (Int × (List (Int × Int))) := ((0 : Int), [])
abbrev c12 (m : ((Int × (List (Int × (Int × (Int × (Int × Bool))))) × (List (Int × (Int × (Int × (List Int)))))) × Int) → Option (Int × (List (Int × Int)))) := fnT (cx := cxT) a12 n12 dd12 m
theorem hs12 : ∀ t, noRoV (n12 t) = true ∨ noOwnV (n12 t) = true := fun _ => .inl rfl
/-! loop.example/g00222/spec.SharesFor -/
def a13 : Args cxT.ty ((Int × (List (Int × (Int × (Int × (Int × Bool))))) × (List (Int × (Int × (Int × (List Int)))))) × Int) := (Args.cons (Arg.agg (SArg.cons (LArg.int .i64) (SArg.cons (LArg.row 38) (SArg.one (LArg.row 36))))) (Args.one (Arg.leaf (LArg.int .i64))))
def n13 : (Int × (List (Int × Int))) → V cxT.ty := fun t => (.inl (.inr [(lv (.int .i64 t.1)), (ls { own := 2, nm := 0, e := 44, o := true, xs := t.2 })]))
def dd13 : (Int × (List (Int × Int))) := ((0 : Int), [])
abbrev c13 (m : ((Int × (List (Int × (Int × (Int × (Int × Bool))))) × (List (Int × (Int × (Int × (List Int)))))) × Int) → Option (Int × (List (Int × Int)))) := fnT (cx := cxT) a13 n13 dd13 m
theorem hs13 : ∀ t, noRoV (n13 t) = true ∨ noOwnV (n13 t) = true := fun _ => .inl rfl
/-! loop.example/g00222/impl.BackendAt -/
def a14 : Args cxT.ty ((Int × (List (Int × (Int × (Int × (Int × Bool))))) × (List (Int × (Int × (Int × (List Int)))))) × Int) := (Args.cons (Arg.agg (SArg.cons (LArg.int .i64) (SArg.cons (LArg.row 38) (SArg.one (LArg.row 36))))) (Args.one (Arg.leaf (LArg.int .i64))))
def n14 : (Int × Int × Int × Int × Int × Bool) → V cxT.ty := fun t => (.inl (.inr [(lv (.int .i64 t.1)), (lv (.int .i64 t.2.1)), (lv (.int .i64 t.2.2.1)), (lv (.int .i64 t.2.2.2.1)), (lv (.int .i64 t.2.2.2.2.1)), (lv (.bool t.2.2.2.2.2))]))
def dd14 : (Int × Int × Int × Int × Int × Bool) := ((0 : Int), (0 : Int), (0 : Int), (0 : Int), (0 : Int), false)
abbrev c14 (m : ((Int × (List (Int × (Int × (Int × (Int × Bool))))) × (List (Int × (Int × (Int × (List Int)))))) × Int) → Option (Int × Int × Int × Int × Int × Bool)) := fnT (cx := cxT) a14 n14 dd14 m
theorem hs14 : ∀ t, noRoV (n14 t) = true ∨ noOwnV (n14 t) = true := fun _ => .inl rfl
/-! loop.example/g00222/laws.lwHas -/
def a15 : Args cxT.ty ((List Int) × Int) := (Args.cons (Arg.leaf (LArg.row 2)) (Args.one (Arg.leaf (LArg.int .i64))))
def n15 : Bool → V cxT.ty := fun t => (.inl (.inl (lv (.bool t))))
def dd15 : Bool := false
abbrev c15 (m : ((List Int) × Int) → Option Bool) := fnT (cx := cxT) a15 n15 dd15 m
theorem hs15 : ∀ t, noRoV (n15 t) = true ∨ noOwnV (n15 t) = true := fun _ => .inl rfl
/-! loop.example/g00222/impl.SharesFault -/
def a16 : Args cxT.ty (List (Int × Int)) := (Args.one (Arg.leaf (LArg.row 44)))
def n16 : Int → V cxT.ty := fun t => (.inl (.inl (lv (.int .i64 t))))
def dd16 : Int := (0 : Int)
abbrev c16 (m : (List (Int × Int)) → Option Int) := fnT (cx := cxT) a16 n16 dd16 m
theorem hs16 : ∀ t, noRoV (n16 t) = true ∨ noOwnV (n16 t) = true := fun _ => .inl rfl
/-! loop.example/g00222/laws.szConfig -/
def a17 : Args cxT.ty ((Int × (List (Int × (Int × (Int × (Int × Bool))))) × (List (Int × (Int × (Int × (List Int)))))) × Int) := (Args.cons (Arg.agg (SArg.cons (LArg.int .i64) (SArg.cons (LArg.row 129) (SArg.one (LArg.row 127))))) (Args.one (Arg.leaf (LArg.int .i64))))
def n17 : Int → V cxT.ty := fun t => (.inl (.inl (lv (.int .i64 t))))
def dd17 : Int := (0 : Int)
abbrev c17 (m : ((Int × (List (Int × (Int × (Int × (Int × Bool))))) × (List (Int × (Int × (Int × (List Int)))))) × Int) → Option Int) := fnT (cx := cxT) a17 n17 dd17 m
theorem hs17 : ∀ t, noRoV (n17 t) = true ∨ noOwnV (n17 t) = true := fun _ => .inl rfl
/-! loop.example/g00222/spec.ConfigFault -/
def a18 : Args cxT.ty (Int × (List (Int × (Int × (Int × (Int × Bool))))) × (List (Int × (Int × (Int × (List Int)))))) := (Args.one (Arg.agg (SArg.cons (LArg.int .i64) (SArg.cons (LArg.row 38) (SArg.one (LArg.row 36))))))
def n18 : Int → V cxT.ty := fun t => (.inl (.inl (lv (.int .i64 t))))
def dd18 : Int := (0 : Int)
abbrev c18 (m : (Int × (List (Int × (Int × (Int × (Int × Bool))))) × (List (Int × (Int × (Int × (List Int)))))) → Option Int) := fnT (cx := cxT) a18 n18 dd18 m
theorem hs18 : ∀ t, noRoV (n18 t) = true ∨ noOwnV (n18 t) = true := fun _ => .inl rfl
/-! loop.example/g00222/laws.toConfig -/
def a19 : Args cxT.ty (Int × (List (Int × (Int × (Int × (Int × Bool))))) × (List (Int × (Int × (Int × (List Int)))))) := (Args.one (Arg.agg (SArg.cons (LArg.int .i64) (SArg.cons (LArg.row 129) (SArg.one (LArg.row 127))))))
def n19 : (Int × (List (Int × (Int × (Int × (Int × Bool))))) × (List (Int × (Int × (Int × (List Int)))))) → V cxT.ty := fun t => (.inl (.inr [(lv (.int .i64 t.1)), (ls { own := 2, nm := 0, e := 38, o := true, xs := t.2.1 }), (ls { own := 2, nm := 0, e := 36, o := true, xs := t.2.2 })]))
def dd19 : (Int × (List (Int × (Int × (Int × (Int × Bool))))) × (List (Int × (Int × (Int × (List Int)))))) := ((0 : Int), [], [])
abbrev c19 (m : (Int × (List (Int × (Int × (Int × (Int × Bool))))) × (List (Int × (Int × (Int × (List Int)))))) → Option (Int × (List (Int × (Int × (Int × (Int × Bool))))) × (List (Int × (Int × (Int × (List Int))))))) := fnT (cx := cxT) a19 n19 dd19 m
theorem hs19 : ∀ t, noRoV (n19 t) = true ∨ noOwnV (n19 t) = true := fun _ => .inl rfl
/-! loop.example/g00222/impl.ConfigFault -/
def a20 : Args cxT.ty (Int × (List (Int × (Int × (Int × (Int × Bool))))) × (List (Int × (Int × (Int × (List Int)))))) := (Args.one (Arg.agg (SArg.cons (LArg.int .i64) (SArg.cons (LArg.row 38) (SArg.one (LArg.row 36))))))
def n20 : Int → V cxT.ty := fun t => (.inl (.inl (lv (.int .i64 t))))
def dd20 : Int := (0 : Int)
abbrev c20 (m : (Int × (List (Int × (Int × (Int × (Int × Bool))))) × (List (Int × (Int × (Int × (List Int)))))) → Option Int) := fnT (cx := cxT) a20 n20 dd20 m
theorem hs20 : ∀ t, noRoV (n20 t) = true ∨ noOwnV (n20 t) = true := fun _ => .inl rfl
/-! loop.example/g00222/laws.eqConfig -/
def a21 : Args cxT.ty ((Int × (List (Int × (Int × (Int × (Int × Bool))))) × (List (Int × (Int × (Int × (List Int)))))) × (Int × (List (Int × (Int × (Int × (Int × Bool))))) × (List (Int × (Int × (Int × (List Int))))))) := (Args.cons (Arg.agg (SArg.cons (LArg.int .i64) (SArg.cons (LArg.row 38) (SArg.one (LArg.row 36))))) (Args.one (Arg.agg (SArg.cons (LArg.int .i64) (SArg.cons (LArg.row 38) (SArg.one (LArg.row 36)))))))
def n21 : Bool → V cxT.ty := fun t => (.inl (.inl (lv (.bool t))))
def dd21 : Bool := false
abbrev c21 (m : ((Int × (List (Int × (Int × (Int × (Int × Bool))))) × (List (Int × (Int × (Int × (List Int)))))) × (Int × (List (Int × (Int × (Int × (Int × Bool))))) × (List (Int × (Int × (Int × (List Int))))))) → Option Bool) := fnT (cx := cxT) a21 n21 dd21 m
theorem hs21 : ∀ t, noRoV (n21 t) = true ∨ noOwnV (n21 t) = true := fun _ => .inl rfl
/-! loop.example/g00222/spec.CmdFault -/
def a22 : Args cxT.ty (Int × Int × Int × Int × Int × Int) := (Args.one (Arg.agg (SArg.cons (LArg.int .i64) (SArg.cons (LArg.int .i64) (SArg.cons (LArg.int .i64) (SArg.cons (LArg.int .i64) (SArg.cons (LArg.int .i64) (SArg.one (LArg.int .i64)))))))))
def n22 : Int → V cxT.ty := fun t => (.inl (.inl (lv (.int .i64 t))))
def dd22 : Int := (0 : Int)
abbrev c22 (m : (Int × Int × Int × Int × Int × Int) → Option Int) := fnT (cx := cxT) a22 n22 dd22 m
theorem hs22 : ∀ t, noRoV (n22 t) = true ∨ noOwnV (n22 t) = true := fun _ => .inl rfl
/-! loop.example/g00222/laws.toCmd -/
def a23 : Args cxT.ty (Int × Int × Int × Int × Int × Int) := (Args.one (Arg.agg (SArg.cons (LArg.int .i64) (SArg.cons (LArg.int .i64) (SArg.cons (LArg.int .i64) (SArg.cons (LArg.int .i64) (SArg.cons (LArg.int .i64) (SArg.one (LArg.int .i64)))))))))
def n23 : (Int × Int × Int × Int × Int × Int) → V cxT.ty := fun t => (.inl (.inr [(lv (.int .i64 t.1)), (lv (.int .i64 t.2.1)), (lv (.int .i64 t.2.2.1)), (lv (.int .i64 t.2.2.2.1)), (lv (.int .i64 t.2.2.2.2.1)), (lv (.int .i64 t.2.2.2.2.2))]))
def dd23 : (Int × Int × Int × Int × Int × Int) := ((0 : Int), (0 : Int), (0 : Int), (0 : Int), (0 : Int), (0 : Int))
abbrev c23 (m : (Int × Int × Int × Int × Int × Int) → Option (Int × Int × Int × Int × Int × Int)) := fnT (cx := cxT) a23 n23 dd23 m
theorem hs23 : ∀ t, noRoV (n23 t) = true ∨ noOwnV (n23 t) = true := fun _ => .inl rfl
/-! loop.example/g00222/impl.CmdFault -/
def a24 : Args cxT.ty (Int × Int × Int × Int × Int × Int) := (Args.one (Arg.agg (SArg.cons (LArg.int .i64) (SArg.cons (LArg.int .i64) (SArg.cons (LArg.int .i64) (SArg.cons (LArg.int .i64) (SArg.cons (LArg.int .i64) (SArg.one (LArg.int .i64)))))))))
def n24 : Int → V cxT.ty := fun t => (.inl (.inl (lv (.int .i64 t))))
def dd24 : Int := (0 : Int)
abbrev c24 (m : (Int × Int × Int × Int × Int × Int) → Option Int) := fnT (cx := cxT) a24 n24 dd24 m
theorem hs24 : ∀ t, noRoV (n24 t) = true ∨ noOwnV (n24 t) = true := fun _ => .inl rfl
/-! loop.example/g00222/spec.BackendAt -/
def a25 : Args cxT.ty ((Int × (List (Int × (Int × (Int × (Int × Bool))))) × (List (Int × (Int × (Int × (List Int)))))) × Int) := (Args.cons (Arg.agg (SArg.cons (LArg.int .i64) (SArg.cons (LArg.row 38) (SArg.one (LArg.row 36))))) (Args.one (Arg.leaf (LArg.int .i64))))
def n25 : (Int × Int × Int × Int × Int × Bool) → V cxT.ty := fun t => (.inl (.inr [(lv (.int .i64 t.1)), (lv (.int .i64 t.2.1)), (lv (.int .i64 t.2.2.1)), (lv (.int .i64 t.2.2.2.1)), (lv (.int .i64 t.2.2.2.2.1)), (lv (.bool t.2.2.2.2.2))]))
def dd25 : (Int × Int × Int × Int × Int × Bool) := ((0 : Int), (0 : Int), (0 : Int), (0 : Int), (0 : Int), false)
abbrev c25 (m : ((Int × (List (Int × (Int × (Int × (Int × Bool))))) × (List (Int × (Int × (Int × (List Int)))))) × Int) → Option (Int × Int × Int × Int × Int × Bool)) := fnT (cx := cxT) a25 n25 dd25 m
theorem hs25 : ∀ t, noRoV (n25 t) = true ∨ noOwnV (n25 t) = true := fun _ => .inl rfl
/-! loop.example/g00222/laws.eqBackendResult -/
def a26 : Args cxT.ty ((Int × Int × Int × Int × Int × Bool) × (Int × Int × Int × Int × Int × Bool)) := (Args.cons (Arg.agg (SArg.cons (LArg.int .i64) (SArg.cons (LArg.int .i64) (SArg.cons (LArg.int .i64) (SArg.cons (LArg.int .i64) (SArg.cons (LArg.int .i64) (SArg.one LArg.bool))))))) (Args.one (Arg.agg (SArg.cons (LArg.int .i64) (SArg.cons (LArg.int .i64) (SArg.cons (LArg.int .i64) (SArg.cons (LArg.int .i64) (SArg.cons (LArg.int .i64) (SArg.one LArg.bool)))))))))
def n26 : Bool → V cxT.ty := fun t => (.inl (.inl (lv (.bool t))))
def dd26 : Bool := false
abbrev c26 (m : ((Int × Int × Int × Int × Int × Bool) × (Int × Int × Int × Int × Int × Bool)) → Option Bool) := fnT (cx := cxT) a26 n26 dd26 m
theorem hs26 : ∀ t, noRoV (n26 t) = true ∨ noOwnV (n26 t) = true := fun _ => .inl rfl
/-! loop.example/g00222/spec.VipFor -/
def a27 : Args cxT.ty ((Int × (List (Int × (Int × (Int × (Int × Bool))))) × (List (Int × (Int × (Int × (List Int)))))) × (Int × Int × Int × Int × Int)) := (Args.cons (Arg.agg (SArg.cons (LArg.int .i64) (SArg.cons (LArg.row 38) (SArg.one (LArg.row 36))))) (Args.one (Arg.agg (SArg.cons (LArg.int .i64) (SArg.cons (LArg.int .i64) (SArg.cons (LArg.int .i64) (SArg.cons (LArg.int .i64) (SArg.one (LArg.int .i64)))))))))
def n27 : (Int × Int) → V cxT.ty := fun t => (.inl (.inr [(lv (.int .i64 t.1)), (lv (.int .i64 t.2))]))
def dd27 : (Int × Int) := ((0 : Int), (0 : Int))
abbrev c27 (m : ((Int × (List (Int × (Int × (Int × (Int × Bool))))) × (List (Int × (Int × (Int × (List Int)))))) × (Int × Int × Int × Int × Int)) → Option (Int × Int)) := fnT (cx := cxT) a27 n27 dd27 m
theorem hs27 : ∀ t, noRoV (n27 t) = true ∨ noOwnV (n27 t) = true := fun _ => .inl rfl
/-! loop.example/g00222/laws.toFlow -/
def a28 : Args cxT.ty (Int × Int × Int × Int × Int) := (Args.one (Arg.agg (SArg.cons (LArg.int .i64) (SArg.cons (LArg.int .i64) (SArg.cons (LArg.int .i64) (SArg.cons (LArg.int .i64) (SArg.one (LArg.int .i64))))))))
def n28 : (Int × Int × Int × Int × Int) → V cxT.ty := fun t => (.inl (.inr [(lv (.int .i64 t.1)), (lv (.int .i64 t.2.1)), (lv (.int .i64 t.2.2.1)), (lv (.int .i64 t.2.2.2.1)), (lv (.int .i64 t.2.2.2.2))]))
def dd28 : (Int × Int × Int × Int × Int) := ((0 : Int), (0 : Int), (0 : Int), (0 : Int), (0 : Int))
abbrev c28 (m : (Int × Int × Int × Int × Int) → Option (Int × Int × Int × Int × Int)) := fnT (cx := cxT) a28 n28 dd28 m
theorem hs28 : ∀ t, noRoV (n28 t) = true ∨ noOwnV (n28 t) = true := fun _ => .inl rfl
/-! loop.example/g00222/impl.VipFor -/
def a29 : Args cxT.ty ((Int × (List (Int × (Int × (Int × (Int × Bool))))) × (List (Int × (Int × (Int × (List Int)))))) × (Int × Int × Int × Int × Int)) := (Args.cons (Arg.agg (SArg.cons (LArg.int .i64) (SArg.cons (LArg.row 38) (SArg.one (LArg.row 36))))) (Args.one (Arg.agg (SArg.cons (LArg.int .i64) (SArg.cons (LArg.int .i64) (SArg.cons (LArg.int .i64) (SArg.cons (LArg.int .i64) (SArg.one (LArg.int .i64)))))))))
def n29 : (Int × Int) → V cxT.ty := fun t => (.inl (.inr [(lv (.int .i64 t.1)), (lv (.int .i64 t.2))]))
def dd29 : (Int × Int) := ((0 : Int), (0 : Int))
abbrev c29 (m : ((Int × (List (Int × (Int × (Int × (Int × Bool))))) × (List (Int × (Int × (Int × (List Int)))))) × (Int × Int × Int × Int × Int)) → Option (Int × Int)) := fnT (cx := cxT) a29 n29 dd29 m
theorem hs29 : ∀ t, noRoV (n29 t) = true ∨ noOwnV (n29 t) = true := fun _ => .inl rfl
/-! loop.example/g00222/laws.eqIntResult -/
def a30 : Args cxT.ty ((Int × Int) × (Int × Int)) := (Args.cons (Arg.agg (SArg.cons (LArg.int .i64) (SArg.one (LArg.int .i64)))) (Args.one (Arg.agg (SArg.cons (LArg.int .i64) (SArg.one (LArg.int .i64))))))
def n30 : Bool → V cxT.ty := fun t => (.inl (.inl (lv (.bool t))))
def dd30 : Bool := false
abbrev c30 (m : ((Int × Int) × (Int × Int)) → Option Bool) := fnT (cx := cxT) a30 n30 dd30 m
theorem hs30 : ∀ t, noRoV (n30 t) = true ∨ noOwnV (n30 t) = true := fun _ => .inl rfl
/-! loop.example/g00222/laws.eqSharesResult -/
def a31 : Args cxT.ty ((Int × (List (Int × Int))) × (Int × (List (Int × Int)))) := (Args.cons (Arg.agg (SArg.cons (LArg.int .i64) (SArg.one (LArg.row 44)))) (Args.one (Arg.agg (SArg.cons (LArg.int .i64) (SArg.one (LArg.row 44))))))
def n31 : Bool → V cxT.ty := fun t => (.inl (.inl (lv (.bool t))))
def dd31 : Bool := false
abbrev c31 (m : ((Int × (List (Int × Int))) × (Int × (List (Int × Int)))) → Option Bool) := fnT (cx := cxT) a31 n31 dd31 m
theorem hs31 : ∀ t, noRoV (n31 t) = true ∨ noOwnV (n31 t) = true := fun _ => .inl rfl
/-! loop.example/g00222/laws.markConfig -/
def a32 : Args cxT.ty ((Int × (List (Int × (Int × (Int × (Int × Bool))))) × (List (Int × (Int × (Int × (List Int)))))) × Int) := (Args.cons (Arg.agg (SArg.cons (LArg.int .i64) (SArg.cons (LArg.own 38) (SArg.one (LArg.own 36))))) (Args.one (Arg.leaf (LArg.int .i64))))
def n32 : (Int × Int × (List (Int × (Int × (Int × (Int × Bool))))) × (List (Int × (Int × (Int × (List Int)))))) → List (A cxT.ty) := fun t => [(.inl (lv (.int .i64 t.1))), (.inr [(lv (.int .i64 t.2.1)), (ls { own := 2, nm := 0, e := 38, o := true, xs := t.2.2.1 }), (ls { own := 2, nm := 0, e := 36, o := true, xs := t.2.2.2 })])]
def dd32 : (Int × Int × (List (Int × (Int × (Int × (Int × Bool))))) × (List (Int × (Int × (Int × (List Int)))))) := ((0 : Int), (0 : Int), [], [])
abbrev c32 (m : ((Int × (List (Int × (Int × (Int × (Int × Bool))))) × (List (Int × (Int × (Int × (List Int)))))) × Int) → Option (Int × Int × (List (Int × (Int × (Int × (Int × Bool))))) × (List (Int × (Int × (Int × (List Int))))))) : WFn cxT := { nres := 1, n := 1, F := fnW (cx := cxT) a32 n32 dd32 m, p := 4 }
theorem hs32 : ∀ t, noRoV (.inr (.inl (n32 t)) : V cxT.ty) = true := fun _ => rfl
/-! loop.example/g00222/laws.markSharesResult -/
def a33 : Args cxT.ty ((Int × (List (Int × Int))) × Int) := (Args.cons (Arg.agg (SArg.cons (LArg.int .i64) (SArg.one (LArg.own 44)))) (Args.one (Arg.leaf (LArg.int .i64))))
def n33 : (Int × Int × (List (Int × Int))) → List (A cxT.ty) := fun t => [(.inl (lv (.int .i64 t.1))), (.inr [(lv (.int .i64 t.2.1)), (ls { own := 2, nm := 0, e := 44, o := true, xs := t.2.2 })])]
def dd33 : (Int × Int × (List (Int × Int))) := ((0 : Int), (0 : Int), [])
abbrev c33 (m : ((Int × (List (Int × Int))) × Int) → Option (Int × Int × (List (Int × Int)))) : WFn cxT := { nres := 1, n := 1, F := fnW (cx := cxT) a33 n33 dd33 m }
theorem hs33 : ∀ t, noRoV (.inr (.inl (n33 t)) : V cxT.ty) = true := fun _ => rfl
/-! loop.example/g00222/laws.heldSharesResult -/
def a34 : Args cxT.ty ((Int × (List (Int × Int))) × Int) := (Args.cons (Arg.agg (SArg.cons (LArg.int .i64) (SArg.one (LArg.row 44)))) (Args.one (Arg.leaf (LArg.int .i64))))
def n34 : Int → V cxT.ty := fun t => (.inl (.inl (lv (.int .i64 t))))
def dd34 : Int := (0 : Int)
abbrev c34 (m : ((Int × (List (Int × Int))) × Int) → Option Int) := fnT (cx := cxT) a34 n34 dd34 m
theorem hs34 : ∀ t, noRoV (n34 t) = true ∨ noOwnV (n34 t) = true := fun _ => .inl rfl
/-! loop.example/g00222/spec.SameConfigs -/
def a35 : Args cxT.ty ((Int × (List (Int × (Int × (Int × (Int × Bool))))) × (List (Int × (Int × (Int × (List Int)))))) × (Int × (List (Int × (Int × (Int × (Int × Bool))))) × (List (Int × (Int × (Int × (List Int))))))) := (Args.cons (Arg.agg (SArg.cons (LArg.int .i64) (SArg.cons (LArg.row 38) (SArg.one (LArg.row 36))))) (Args.one (Arg.agg (SArg.cons (LArg.int .i64) (SArg.cons (LArg.row 38) (SArg.one (LArg.row 36)))))))
def n35 : Bool → V cxT.ty := fun t => (.inl (.inl (lv (.bool t))))
def dd35 : Bool := false
abbrev c35 (m : ((Int × (List (Int × (Int × (Int × (Int × Bool))))) × (List (Int × (Int × (Int × (List Int)))))) × (Int × (List (Int × (Int × (Int × (Int × Bool))))) × (List (Int × (Int × (Int × (List Int))))))) → Option Bool) := fnT (cx := cxT) a35 n35 dd35 m
theorem hs35 : ∀ t, noRoV (n35 t) = true ∨ noOwnV (n35 t) = true := fun _ => .inl rfl
/-! loop.example/g00222/impl.SameConfigs -/
def a36 : Args cxT.ty ((Int × (List (Int × (Int × (Int × (Int × Bool))))) × (List (Int × (Int × (Int × (List Int)))))) × (Int × (List (Int × (Int × (Int × (Int × Bool))))) × (List (Int × (Int × (Int × (List Int))))))) := (Args.cons (Arg.agg (SArg.cons (LArg.int .i64) (SArg.cons (LArg.row 38) (SArg.one (LArg.row 36))))) (Args.one (Arg.agg (SArg.cons (LArg.int .i64) (SArg.cons (LArg.row 38) (SArg.one (LArg.row 36)))))))
def n36 : Bool → V cxT.ty := fun t => (.inl (.inl (lv (.bool t))))
def dd36 : Bool := false
abbrev c36 (m : ((Int × (List (Int × (Int × (Int × (Int × Bool))))) × (List (Int × (Int × (Int × (List Int)))))) × (Int × (List (Int × (Int × (Int × (Int × Bool))))) × (List (Int × (Int × (Int × (List Int))))))) → Option Bool) := fnT (cx := cxT) a36 n36 dd36 m
theorem hs36 : ∀ t, noRoV (n36 t) = true ∨ noOwnV (n36 t) = true := fun _ => .inl rfl
/-! loop.example/g00222/spec.l1Source -/
def a37 : Args cxT.ty (List Int) := (Args.one (Arg.leaf (LArg.row 5)))
def n37 : ((List Int) × Int) → List (A cxT.ty) := fun t => [(.inr [(ls (ro 5 t.1)), (lv (.int .i64 t.2))])]
def dd37 : ((List Int) × Int) := ([], (0 : Int))
abbrev c37 (m : (List Int) → Option ((List Int) × Int)) : WFn cxT := { nres := 1, n := 0, F := fnW (cx := cxT) a37 n37 dd37 m, p := 2 }
/-! loop.example/g00222/spec.l5Bent -/
def a38 : Args cxT.ty ((List Int) × Int) := (Args.one (Arg.agg (SArg.cons (LArg.row 5) (SArg.one (LArg.int .i64)))))
def n38 : (Int × (List (Int × (Int × (Int × (Int × Bool))))) × (List (Int × (Int × (Int × (List Int))))) × (List Int) × Int) → List (A cxT.ty) := fun t => [(.inr [(lv (.int .i64 t.1)), (ls { own := 2, nm := 0, e := 38, o := true, xs := t.2.1 }), (ls { own := 2, nm := 0, e := 36, o := true, xs := t.2.2.1 })]), (.inr [(ls (ro 5 t.2.2.2.1)), (lv (.int .i64 t.2.2.2.2))])]
def dd38 : (Int × (List (Int × (Int × (Int × (Int × Bool))))) × (List (Int × (Int × (Int × (List Int))))) × (List Int) × Int) := ((0 : Int), [], [], [], (0 : Int))
abbrev c38 (m : ((List Int) × Int) → Option (Int × (List (Int × (Int × (Int × (Int × Bool))))) × (List (Int × (Int × (Int × (List Int))))) × (List Int) × Int)) : WFn cxT := { nres := 1, n := 0, F := fnW (cx := cxT) a38 n38 dd38 m, p := 1 }
/-! loop.example/g00222/spec.l1Pick -/
def a39 : Args cxT.ty (((List Int) × Int) × (List Int)) := (Args.cons (Arg.agg (SArg.cons (LArg.row 5) (SArg.one (LArg.int .i64)))) (Args.one (Arg.leaf (LArg.row 2))))
def n39 : (Int × (List Int) × Int) → List (A cxT.ty) := fun t => [(.inl (lv (.int .i64 t.1))), (.inr [(ls (ro 5 t.2.1)), (lv (.int .i64 t.2.2))])]
def dd39 : (Int × (List Int) × Int) := ((0 : Int), [], (0 : Int))
abbrev c39 (m : (((List Int) × Int) × (List Int)) → Option (Int × (List Int) × Int)) : WFn cxT := { nres := 1, n := 0, F := fnW (cx := cxT) a39 n39 dd39 m, p := 1 }
/-! loop.example/g00222/spec.l5Fault -/
def a40 : Args cxT.ty (Int × (List (Int × (Int × (Int × (Int × Bool))))) × (List (Int × (Int × (Int × (List Int)))))) := (Args.one (Arg.agg (SArg.cons (LArg.int .i64) (SArg.cons (LArg.row 38) (SArg.one (LArg.row 36))))))
def n40 : (Int × Int × (List (Int × (Int × (Int × (Int × Bool))))) × (List (Int × (Int × (Int × (List Int)))))) → List (A cxT.ty) := fun t => [(.inl (lv (.int .i64 t.1))), (.inr [(lv (.int .i64 t.2.1)), (ls (ro 38 t.2.2.1)), (ls (ro 36 t.2.2.2))])]
def dd40 : (Int × Int × (List (Int × (Int × (Int × (Int × Bool))))) × (List (Int × (Int × (Int × (List Int)))))) := ((0 : Int), (0 : Int), [], [])
abbrev c40 (m : (Int × (List (Int × (Int × (Int × (Int × Bool))))) × (List (Int × (Int × (Int × (List Int)))))) → Option (Int × Int × (List (Int × (Int × (Int × (Int × Bool))))) × (List (Int × (Int × (Int × (List Int))))))) : WFn cxT := { nres := 1, n := 0, F := fnW (cx := cxT) a40 n40 dd40 m, p := 1 }
/-! loop.example/g00222/spec.l1In -/
def a41 : Args cxT.ty (Int × Int × Int) := (Args.cons (Arg.leaf (LArg.int .i64)) (Args.cons (Arg.leaf (LArg.int .i64)) (Args.one (Arg.leaf (LArg.int .i64)))))
def n41 : Bool → V cxT.ty := fun t => (.inl (.inl (lv (.bool t))))
def dd41 : Bool := false
abbrev c41 (m : (Int × Int × Int) → Option Bool) := fnT (cx := cxT) a41 n41 dd41 m
theorem hs41 : ∀ t, noRoV (n41 t) = true ∨ noOwnV (n41 t) = true := fun _ => .inl rfl
/-! loop.example/g00222/spec.l5Shares -/
def a42 : Args cxT.ty ((Int × (List (Int × (Int × (Int × (Int × Bool))))) × (List (Int × (Int × (Int × (List Int)))))) × Int) := (Args.cons (Arg.agg (SArg.cons (LArg.int .i64) (SArg.cons (LArg.row 38) (SArg.one (LArg.row 36))))) (Args.one (Arg.leaf (LArg.int .i64))))
def n42 : ((List (Int × Int)) × Int × (List (Int × (Int × (Int × (Int × Bool))))) × (List (Int × (Int × (Int × (List Int)))))) → List (A cxT.ty) := fun t => [(.inl (ls { own := 2, nm := 0, e := 44, o := true, xs := t.1 })), (.inr [(lv (.int .i64 t.2.1)), (ls (ro 38 t.2.2.1)), (ls (ro 36 t.2.2.2))])]
def dd42 : ((List (Int × Int)) × Int × (List (Int × (Int × (Int × (Int × Bool))))) × (List (Int × (Int × (Int × (List Int)))))) := ([], (0 : Int), [], [])
abbrev c42 (m : ((Int × (List (Int × (Int × (Int × (Int × Bool))))) × (List (Int × (Int × (Int × (List Int)))))) × Int) → Option ((List (Int × Int)) × Int × (List (Int × (Int × (Int × (Int × Bool))))) × (List (Int × (Int × (Int × (List Int))))))) : WFn cxT := { nres := 1, n := 0, F := fnW (cx := cxT) a42 n42 dd42 m, p := 1 }
/-! loop.example/g00222/impl.backendPlace -/
def a43 : Args cxT.ty ((List (Int × (Int × (Int × (Int × Bool))))) × Int) := (Args.cons (Arg.leaf (LArg.row 38)) (Args.one (Arg.leaf (LArg.int .i64))))
def n43 : (Int × Bool) → V cxT.ty := fun t => (.inr (.inl [(.inl (lv (.int .i64 t.1))), (.inl (lv (.bool t.2)))]))
def dd43 : (Int × Bool) := ((0 : Int), false)
abbrev c43 (m : ((List (Int × (Int × (Int × (Int × Bool))))) × Int) → Option (Int × Bool)) := fnT (cx := cxT) a43 n43 dd43 m
theorem hs43 : ∀ t, noRoV (n43 t) = true ∨ noOwnV (n43 t) = true := fun _ => .inl rfl
/-! loop.example/g00222/impl.isName -/
def a44 : Args cxT.ty Int := (Args.one (Arg.leaf (LArg.int .i64)))
def n44 : Bool → V cxT.ty := fun t => (.inl (.inl (lv (.bool t))))
def dd44 : Bool := false
abbrev c44 (m : Int → Option Bool) := fnT (cx := cxT) a44 n44 dd44 m
theorem hs44 : ∀ t, noRoV (n44 t) = true ∨ noOwnV (n44 t) = true := fun _ => .inl rfl
/-! loop.example/g00222/impl.isWeight -/
def a45 : Args cxT.ty Int := (Args.one (Arg.leaf (LArg.int .i64)))
def n45 : Bool → V cxT.ty := fun t => (.inl (.inl (lv (.bool t))))
def dd45 : Bool := false
abbrev c45 (m : Int → Option Bool) := fnT (cx := cxT) a45 n45 dd45 m
theorem hs45 : ∀ t, noRoV (n45 t) = true ∨ noOwnV (n45 t) = true := fun _ => .inl rfl
/-! loop.example/g00222/laws.szBackendS -/
def a46 : Args cxT.ty ((List (Int × (Int × (Int × (Int × Bool))))) × Int) := (Args.cons (Arg.leaf (LArg.row 129)) (Args.one (Arg.leaf (LArg.int .i64))))
def n46 : Int → V cxT.ty := fun t => (.inl (.inl (lv (.int .i64 t))))
def dd46 : Int := (0 : Int)
abbrev c46 (m : ((List (Int × (Int × (Int × (Int × Bool))))) × Int) → Option Int) := fnT (cx := cxT) a46 n46 dd46 m
theorem hs46 : ∀ t, noRoV (n46 t) = true ∨ noOwnV (n46 t) = true := fun _ => .inl rfl
/-! loop.example/g00222/laws.szVipS -/
def a47 : Args cxT.ty ((List (Int × (Int × (Int × (List Int))))) × Int) := (Args.cons (Arg.leaf (LArg.row 127)) (Args.one (Arg.leaf (LArg.int .i64))))
def n47 : Int → V cxT.ty := fun t => (.inl (.inl (lv (.int .i64 t))))
def dd47 : Int := (0 : Int)
abbrev c47 (m : ((List (Int × (Int × (Int × (List Int))))) × Int) → Option Int) := fnT (cx := cxT) a47 n47 dd47 m
theorem hs47 : ∀ t, noRoV (n47 t) = true ∨ noOwnV (n47 t) = true := fun _ => .inl rfl
/-! loop.example/g00222/laws.toBackendS -/
def a48 : Args cxT.ty (List (Int × (Int × (Int × (Int × Bool))))) := (Args.one (Arg.leaf (LArg.row 129)))
def n48 : (List (Int × (Int × (Int × (Int × Bool))))) → V cxT.ty := fun t => (.inl (.inl (ls { own := 2, nm := 0, e := 38, o := true, xs := t })))
def dd48 : (List (Int × (Int × (Int × (Int × Bool))))) := []
abbrev c48 (m : (List (Int × (Int × (Int × (Int × Bool))))) → Option (List (Int × (Int × (Int × (Int × Bool)))))) := fnT (cx := cxT) a48 n48 dd48 m
theorem hs48 : ∀ t, noRoV (n48 t) = true ∨ noOwnV (n48 t) = true := fun _ => .inl rfl
/-! loop.example/g00222/laws.toVipS -/
def a49 : Args cxT.ty (List (Int × (Int × (Int × (List Int))))) := (Args.one (Arg.leaf (LArg.row 127)))
def n49 : (List (Int × (Int × (Int × (List Int))))) → V cxT.ty := fun t => (.inl (.inl (ls { own := 2, nm := 0, e := 36, o := true, xs := t })))
def dd49 : (List (Int × (Int × (Int × (List Int))))) := []
abbrev c49 (m : (List (Int × (Int × (Int × (List Int))))) → Option (List (Int × (Int × (Int × (List Int)))))) := fnT (cx := cxT) a49 n49 dd49 m
theorem hs49 : ∀ t, noRoV (n49 t) = true ∨ noOwnV (n49 t) = true := fun _ => .inl rfl
/-! loop.example/g00222/impl.isVersion -/
def a50 : Args cxT.ty Int := (Args.one (Arg.leaf (LArg.int .i64)))
def n50 : Bool → V cxT.ty := fun t => (.inl (.inl (lv (.bool t))))
def dd50 : Bool := false
abbrev c50 (m : Int → Option Bool) := fnT (cx := cxT) a50 n50 dd50 m
theorem hs50 : ∀ t, noRoV (n50 t) = true ∨ noOwnV (n50 t) = true := fun _ => .inl rfl
/-! loop.example/g00222/impl.isBackend -/
def a51 : Args cxT.ty (Int × Int × Int × Int × Bool) := (Args.one (Arg.agg (SArg.cons (LArg.int .i64) (SArg.cons (LArg.int .i64) (SArg.cons (LArg.int .i64) (SArg.cons (LArg.int .i64) (SArg.one LArg.bool)))))))
def n51 : Bool → V cxT.ty := fun t => (.inl (.inl (lv (.bool t))))
def dd51 : Bool := false
abbrev c51 (m : (Int × Int × Int × Int × Bool) → Option Bool) := fnT (cx := cxT) a51 n51 dd51 m
theorem hs51 : ∀ t, noRoV (n51 t) = true ∨ noOwnV (n51 t) = true := fun _ => .inl rfl
/-! loop.example/g00222/impl.isServed -/
def a52 : Args cxT.ty (Int × Int × Int × (List Int)) := (Args.one (Arg.agg (SArg.cons (LArg.int .i64) (SArg.cons (LArg.int .i64) (SArg.cons (LArg.int .i64) (SArg.one (LArg.row 2)))))))
def n52 : Bool → V cxT.ty := fun t => (.inl (.inl (lv (.bool t))))
def dd52 : Bool := false
abbrev c52 (m : (Int × Int × Int × (List Int)) → Option Bool) := fnT (cx := cxT) a52 n52 dd52 m
theorem hs52 : ∀ t, noRoV (n52 t) = true ∨ noOwnV (n52 t) = true := fun _ => .inl rfl
/-! loop.example/g00222/impl.compareVips -/
def a53 : Args cxT.ty ((Int × Int × Int × (List Int)) × (Int × Int × Int × (List Int))) := (Args.cons (Arg.agg (SArg.cons (LArg.int .i64) (SArg.cons (LArg.int .i64) (SArg.cons (LArg.int .i64) (SArg.one (LArg.row 2)))))) (Args.one (Arg.agg (SArg.cons (LArg.int .i64) (SArg.cons (LArg.int .i64) (SArg.cons (LArg.int .i64) (SArg.one (LArg.row 2))))))))
def n53 : Int → V cxT.ty := fun t => (.inl (.inl (lv (.int .i64 t))))
def dd53 : Int := (0 : Int)
abbrev c53 (m : ((Int × Int × Int × (List Int)) × (Int × Int × Int × (List Int))) → Option Int) := fnT (cx := cxT) a53 n53 dd53 m
theorem hs53 : ∀ t, noRoV (n53 t) = true ∨ noOwnV (n53 t) = true := fun _ => .inl rfl
/-! loop.example/g00222/impl.namesFault -/
def a54 : Args cxT.ty ((List Int) × (List (Int × (Int × (Int × (Int × Bool)))))) := (Args.cons (Arg.leaf (LArg.row 2)) (Args.one (Arg.leaf (LArg.row 38))))
def n54 : Int → V cxT.ty := fun t => (.inl (.inl (lv (.int .i64 t))))
def dd54 : Int := (0 : Int)
abbrev c54 (m : ((List Int) × (List (Int × (Int × (Int × (Int × Bool)))))) → Option Int) := fnT (cx := cxT) a54 n54 dd54 m
theorem hs54 : ∀ t, noRoV (n54 t) = true ∨ noOwnV (n54 t) = true := fun _ => .inl rfl
/-! loop.example/g00222/laws.eqBackendS -/
def a55 : Args cxT.ty ((List (Int × (Int × (Int × (Int × Bool))))) × (List (Int × (Int × (Int × (Int × Bool)))))) := (Args.cons (Arg.leaf (LArg.row 38)) (Args.one (Arg.leaf (LArg.row 38))))
def n55 : Bool → V cxT.ty := fun t => (.inl (.inl (lv (.bool t))))
def dd55 : Bool := false
abbrev c55 (m : ((List (Int × (Int × (Int × (Int × Bool))))) × (List (Int × (Int × (Int × (Int × Bool)))))) → Option Bool) := fnT (cx := cxT) a55 n55 dd55 m
theorem hs55 : ∀ t, noRoV (n55 t) = true ∨ noOwnV (n55 t) = true := fun _ => .inl rfl
/-! loop.example/g00222/laws.eqVipS -/
def a56 : Args cxT.ty ((List (Int × (Int × (Int × (List Int))))) × (List (Int × (Int × (Int × (List Int)))))) := (Args.cons (Arg.leaf (LArg.row 36)) (Args.one (Arg.leaf (LArg.row 36))))
def n56 : Bool → V cxT.ty := fun t => (.inl (.inl (lv (.bool t))))
def dd56 : Bool := false
abbrev c56 (m : ((List (Int × (Int × (Int × (List Int))))) × (List (Int × (Int × (Int × (List Int)))))) → Option Bool) := fnT (cx := cxT) a56 n56 dd56 m
theorem hs56 : ∀ t, noRoV (n56 t) = true ∨ noOwnV (n56 t) = true := fun _ => .inl rfl
/-! loop.example/g00222/spec.l5Needs -/
def a57 : Args cxT.ty Int := (Args.one (Arg.leaf (LArg.int .i64)))
def n57 : (Bool × Bool × Bool × Bool) → V cxT.ty := fun t => (.inr (.inl [(.inl (lv (.bool t.1))), (.inl (lv (.bool t.2.1))), (.inl (lv (.bool t.2.2.1))), (.inl (lv (.bool t.2.2.2)))]))
def dd57 : (Bool × Bool × Bool × Bool) := (false, false, false, false)
abbrev c57 (m : Int → Option (Bool × Bool × Bool × Bool)) := fnT (cx := cxT) a57 n57 dd57 m
theorem hs57 : ∀ t, noRoV (n57 t) = true ∨ noOwnV (n57 t) = true := fun _ => .inl rfl
/-! loop.example/g00222/spec.l5Version -/
def a58 : Args cxT.ty Int := (Args.one (Arg.leaf (LArg.int .i64)))
def n58 : Bool → V cxT.ty := fun t => (.inl (.inl (lv (.bool t))))
def dd58 : Bool := false
abbrev c58 (m : Int → Option Bool) := fnT (cx := cxT) a58 n58 dd58 m
theorem hs58 : ∀ t, noRoV (n58 t) = true ∨ noOwnV (n58 t) = true := fun _ => .inl rfl
/-! loop.example/g00222/spec.l3Name -/
def a59 : Args cxT.ty Int := (Args.one (Arg.leaf (LArg.int .i64)))
def n59 : Bool → V cxT.ty := fun t => (.inl (.inl (lv (.bool t))))
def dd59 : Bool := false
abbrev c59 (m : Int → Option Bool) := fnT (cx := cxT) a59 n59 dd59 m
theorem hs59 : ∀ t, noRoV (n59 t) = true ∨ noOwnV (n59 t) = true := fun _ => .inl rfl
/-! loop.example/g00222/spec.l2Address -/
def a60 : Args cxT.ty Int := (Args.one (Arg.leaf (LArg.int .i64)))
def n60 : Bool → V cxT.ty := fun t => (.inl (.inl (lv (.bool t))))
def dd60 : Bool := false
abbrev c60 (m : Int → Option Bool) := fnT (cx := cxT) a60 n60 dd60 m
theorem hs60 : ∀ t, noRoV (n60 t) = true ∨ noOwnV (n60 t) = true := fun _ => .inl rfl
/-! loop.example/g00222/spec.l5Number -/
def a61 : Args cxT.ty (Int × Int × Int × Int × Int × Int) := (Args.one (Arg.agg (SArg.cons (LArg.int .i64) (SArg.cons (LArg.int .i64) (SArg.cons (LArg.int .i64) (SArg.cons (LArg.int .i64) (SArg.cons (LArg.int .i64) (SArg.one (LArg.int .i64)))))))))
def n61 : Bool → V cxT.ty := fun t => (.inl (.inl (lv (.bool t))))
def dd61 : Bool := false
abbrev c61 (m : (Int × Int × Int × Int × Int × Int) → Option Bool) := fnT (cx := cxT) a61 n61 dd61 m
theorem hs61 : ∀ t, noRoV (n61 t) = true ∨ noOwnV (n61 t) = true := fun _ => .inl rfl
/-! loop.example/g00222/spec.l5Proto -/
def a62 : Args cxT.ty Int := (Args.one (Arg.leaf (LArg.int .i64)))
def n62 : Bool → V cxT.ty := fun t => (.inl (.inl (lv (.bool t))))
def dd62 : Bool := false
abbrev c62 (m : Int → Option Bool) := fnT (cx := cxT) a62 n62 dd62 m
theorem hs62 : ∀ t, noRoV (n62 t) = true ∨ noOwnV (n62 t) = true := fun _ => .inl rfl
/-! loop.example/g00222/spec.l5At -/
def a64 : Args cxT.ty ((Int × (List (Int × (Int × (Int × (Int × Bool))))) × (List (Int × (Int × (Int × (List Int)))))) × Int) := (Args.cons (Arg.agg (SArg.cons (LArg.int .i64) (SArg.cons (LArg.row 38) (SArg.one (LArg.row 36))))) (Args.one (Arg.leaf (LArg.int .i64))))
def n64 : (Int × Int × (List (Int × (Int × (Int × (Int × Bool))))) × (List (Int × (Int × (Int × (List Int)))))) → List (A cxT.ty) := fun t => [(.inl (lv (.int .i64 t.1))), (.inr [(lv (.int .i64 t.2.1)), (ls (ro 38 t.2.2.1)), (ls (ro 36 t.2.2.2))])]
def dd64 : (Int × Int × (List (Int × (Int × (Int × (Int × Bool))))) × (List (Int × (Int × (Int × (List Int)))))) := ((0 : Int), (0 : Int), [], [])
abbrev c64 (m : ((Int × (List (Int × (Int × (Int × (Int × Bool))))) × (List (Int × (Int × (Int × (List Int)))))) × Int) → Option (Int × Int × (List (Int × (Int × (Int × (Int × Bool))))) × (List (Int × (Int × (Int × (List Int))))))) : WFn cxT := { nres := 1, n := 0, F := fnW (cx := cxT) a64 n64 dd64 m, p := 1 }
/-! loop.example/g00222/laws.eqBackend -/
def a65 : Args cxT.ty ((Int × Int × Int × Int × Bool) × (Int × Int × Int × Int × Bool)) := (Args.cons (Arg.agg (SArg.cons (LArg.int .i64) (SArg.cons (LArg.int .i64) (SArg.cons (LArg.int .i64) (SArg.cons (LArg.int .i64) (SArg.one LArg.bool)))))) (Args.one (Arg.agg (SArg.cons (LArg.int .i64) (SArg.cons (LArg.int .i64) (SArg.cons (LArg.int .i64) (SArg.cons (LArg.int .i64) (SArg.one LArg.bool))))))))
def n65 : Bool → V cxT.ty := fun t => (.inl (.inl (lv (.bool t))))
def dd65 : Bool := false
abbrev c65 (m : ((Int × Int × Int × Int × Bool) × (Int × Int × Int × Int × Bool)) → Option Bool) := fnT (cx := cxT) a65 n65 dd65 m
theorem hs65 : ∀ t, noRoV (n65 t) = true ∨ noOwnV (n65 t) = true := fun _ => .inl rfl
/-! loop.example/g00222/spec.l3Flow -/
def a66 : Args cxT.ty (Int × Int × Int × Int × Int) := (Args.one (Arg.agg (SArg.cons (LArg.int .i64) (SArg.cons (LArg.int .i64) (SArg.cons (LArg.int .i64) (SArg.cons (LArg.int .i64) (SArg.one (LArg.int .i64))))))))
def n66 : Bool → V cxT.ty := fun t => (.inl (.inl (lv (.bool t))))
def dd66 : Bool := false
abbrev c66 (m : (Int × Int × Int × Int × Int) → Option Bool) := fnT (cx := cxT) a66 n66 dd66 m
theorem hs66 : ∀ t, noRoV (n66 t) = true ∨ noOwnV (n66 t) = true := fun _ => .inl rfl
/-! loop.example/g00222/spec.l5For -/
def a67 : Args cxT.ty ((Int × (List (Int × (Int × (Int × (Int × Bool))))) × (List (Int × (Int × (Int × (List Int)))))) × (Int × Int × Int × Int × Int)) := (Args.cons (Arg.agg (SArg.cons (LArg.int .i64) (SArg.cons (LArg.row 38) (SArg.one (LArg.row 36))))) (Args.one (Arg.agg (SArg.cons (LArg.int .i64) (SArg.cons (LArg.int .i64) (SArg.cons (LArg.int .i64) (SArg.cons (LArg.int .i64) (SArg.one (LArg.int .i64)))))))))
def n67 : (Int × Int × (List (Int × (Int × (Int × (Int × Bool))))) × (List (Int × (Int × (Int × (List Int)))))) → List (A cxT.ty) := fun t => [(.inl (lv (.int .i64 t.1))), (.inr [(lv (.int .i64 t.2.1)), (ls (ro 38 t.2.2.1)), (ls (ro 36 t.2.2.2))])]
def dd67 : (Int × Int × (List (Int × (Int × (Int × (Int × Bool))))) × (List (Int × (Int × (Int × (List Int)))))) := ((0 : Int), (0 : Int), [], [])
abbrev c67 (m : ((Int × (List (Int × (Int × (Int × (Int × Bool))))) × (List (Int × (Int × (Int × (List Int)))))) × (Int × Int × Int × Int × Int)) → Option (Int × Int × (List (Int × (Int × (Int × (Int × Bool))))) × (List (Int × (Int × (Int × (List Int))))))) : WFn cxT := { nres := 1, n := 0, F := fnW (cx := cxT) a67 n67 dd67 m, p := 1 }
/-! loop.example/g00222/impl.flowFault -/
def a68 : Args cxT.ty (Int × Int × Int × Int × Int) := (Args.one (Arg.agg (SArg.cons (LArg.int .i64) (SArg.cons (LArg.int .i64) (SArg.cons (LArg.int .i64) (SArg.cons (LArg.int .i64) (SArg.one (LArg.int .i64))))))))
def n68 : Int → V cxT.ty := fun t => (.inl (.inl (lv (.int .i64 t))))
def dd68 : Int := (0 : Int)
abbrev c68 (m : (Int × Int × Int × Int × Int) → Option Int) := fnT (cx := cxT) a68 n68 dd68 m
theorem hs68 : ∀ t, noRoV (n68 t) = true ∨ noOwnV (n68 t) = true := fun _ => .inl rfl
/-! loop.example/g00222/impl.vipPlace -/
def a69 : Args cxT.ty ((List (Int × (Int × (Int × (List Int))))) × Int × Int × Int) := (Args.cons (Arg.leaf (LArg.row 36)) (Args.cons (Arg.leaf (LArg.int .i64)) (Args.cons (Arg.leaf (LArg.int .i64)) (Args.one (Arg.leaf (LArg.int .i64))))))
def n69 : (Int × Bool) → V cxT.ty := fun t => (.inr (.inl [(.inl (lv (.int .i64 t.1))), (.inl (lv (.bool t.2)))]))
def dd69 : (Int × Bool) := ((0 : Int), false)
abbrev c69 (m : ((List (Int × (Int × (Int × (List Int))))) × Int × Int × Int) → Option (Int × Bool)) := fnT (cx := cxT) a69 n69 dd69 m
theorem hs69 : ∀ t, noRoV (n69 t) = true ∨ noOwnV (n69 t) = true := fun _ => .inl rfl
/-! loop.example/g00222/laws.eqShareS -/
def a70 : Args cxT.ty ((List (Int × Int)) × (List (Int × Int))) := (Args.cons (Arg.leaf (LArg.row 44)) (Args.one (Arg.leaf (LArg.row 44))))
def n70 : Bool → V cxT.ty := fun t => (.inl (.inl (lv (.bool t))))
def dd70 : Bool := false
abbrev c70 (m : ((List (Int × Int)) × (List (Int × Int))) → Option Bool) := fnT (cx := cxT) a70 n70 dd70 m
theorem hs70 : ∀ t, noRoV (n70 t) = true ∨ noOwnV (n70 t) = true := fun _ => .inl rfl
/-! loop.example/g00222/laws.markBackendS -/
def a71 : Args cxT.ty ((List (Int × (Int × (Int × (Int × Bool))))) × Int) := (Args.cons (Arg.leaf (LArg.own 38)) (Args.one (Arg.leaf (LArg.int .i64))))
def n71 : (Int × (List (Int × (Int × (Int × (Int × Bool)))))) → List (A cxT.ty) := fun t => [(.inl (lv (.int .i64 t.1))), (.inl (ls { own := 2, nm := 0, e := 38, o := true, xs := t.2 }))]
def dd71 : (Int × (List (Int × (Int × (Int × (Int × Bool)))))) := ((0 : Int), [])
abbrev c71 (m : ((List (Int × (Int × (Int × (Int × Bool))))) × Int) → Option (Int × (List (Int × (Int × (Int × (Int × Bool))))))) : WFn cxT := { nres := 1, n := 1, F := fnW (cx := cxT) a71 n71 dd71 m }
theorem hs71 : ∀ t, noRoV (.inr (.inl (n71 t)) : V cxT.ty) = true := fun _ => rfl
/-! loop.example/g00222/laws.markVipS -/
def a72 : Args cxT.ty ((List (Int × (Int × (Int × (List Int))))) × Int) := (Args.cons (Arg.leaf (LArg.own 36)) (Args.one (Arg.leaf (LArg.int .i64))))
def n72 : (Int × (List (Int × (Int × (Int × (List Int)))))) → List (A cxT.ty) := fun t => [(.inl (lv (.int .i64 t.1))), (.inl (ls { own := 2, nm := 0, e := 36, o := true, xs := t.2 }))]
def dd72 : (Int × (List (Int × (Int × (Int × (List Int)))))) := ((0 : Int), [])
abbrev c72 (m : ((List (Int × (Int × (Int × (List Int))))) × Int) → Option (Int × (List (Int × (Int × (Int × (List Int))))))) : WFn cxT := { nres := 1, n := 1, F := fnW (cx := cxT) a72 n72 dd72 m, p := 4 }
theorem hs72 : ∀ t, noRoV (.inr (.inl (n72 t)) : V cxT.ty) = true := fun _ => rfl
/-! loop.example/g00222/laws.markShareS -/
def a73 : Args cxT.ty ((List (Int × Int)) × Int) := (Args.cons (Arg.leaf (LArg.own 44)) (Args.one (Arg.leaf (LArg.int .i64))))
def n73 : (Int × (List (Int × Int))) → List (A cxT.ty) := fun t => [(.inl (lv (.int .i64 t.1))), (.inl (ls { own := 2, nm := 0, e := 44, o := true, xs := t.2 }))]
def dd73 : (Int × (List (Int × Int))) := ((0 : Int), [])
abbrev c73 (m : ((List (Int × Int)) × Int) → Option (Int × (List (Int × Int)))) : WFn cxT := { nres := 1, n := 1, F := fnW (cx := cxT) a73 n73 dd73 m }
theorem hs73 : ∀ t, noRoV (.inr (.inl (n73 t)) : V cxT.ty) = true := fun _ => rfl
/-! loop.example/g00222/laws.heldShareS -/
def a74 : Args cxT.ty ((List (Int × Int)) × Int) := (Args.cons (Arg.leaf (LArg.row 44)) (Args.one (Arg.leaf (LArg.int .i64))))
def n74 : Int → V cxT.ty := fun t => (.inl (.inl (lv (.int .i64 t))))
def dd74 : Int := (0 : Int)
abbrev c74 (m : ((List (Int × Int)) × Int) → Option Int) := fnT (cx := cxT) a74 n74 dd74 m
theorem hs74 : ∀ t, noRoV (n74 t) = true ∨ noOwnV (n74 t) = true := fun _ => .inl rfl
/-! loop.example/g00222/spec.l5Nums -/
def a75 : Args cxT.ty ((List Int) × (List Int)) := (Args.cons (Arg.leaf (LArg.row 2)) (Args.one (Arg.leaf (LArg.row 2))))
def n75 : Bool → V cxT.ty := fun t => (.inl (.inl (lv (.bool t))))
def dd75 : Bool := false
abbrev c75 (m : ((List Int) × (List Int)) → Option Bool) := fnT (cx := cxT) a75 n75 dd75 m
theorem hs75 : ∀ t, noRoV (n75 t) = true ∨ noOwnV (n75 t) = true := fun _ => .inl rfl
/-! slices.Equal[[]loop.example/g00222/impl.Backend,loop.example/g00222/impl.Backend] -/
def a76 : Args cxT.ty ((List (Int × (Int × (Int × (Int × Bool))))) × (List (Int × (Int × (Int × (Int × Bool)))))) := (Args.cons (Arg.leaf (LArg.row 38)) (Args.one (Arg.leaf (LArg.row 38))))
def n76 : Bool → V cxT.ty := fun t => (.inl (.inl (lv (.bool t))))
def dd76 : Bool := false
abbrev c76 (m : ((List (Int × (Int × (Int × (Int × Bool))))) × (List (Int × (Int × (Int × (Int × Bool)))))) → Option Bool) := fnT (cx := cxT) a76 n76 dd76 m
theorem hs76 : ∀ t, noRoV (n76 t) = true ∨ noOwnV (n76 t) = true := fun _ => .inl rfl
/-! slices.EqualFunc[[]loop.example/g00222/impl.Vip,[]loop.example/g00222/impl.Vip,loop.example/g00222/impl.Vip,loop.example/g00222/impl.Vip] -/
def a77 : Args cxT.ty ((List (Int × (Int × (Int × (List Int))))) × (List (Int × (Int × (Int × (List Int))))) × Unit) := (Args.cons (Arg.leaf (LArg.row 36)) (Args.cons (Arg.leaf (LArg.row 36)) (Args.one (Arg.leaf (LArg.fn 78)))))
def n77 : Bool → V cxT.ty := fun t => (.inl (.inl (lv (.bool t))))
def dd77 : Bool := false
abbrev c77 (m : ((List (Int × (Int × (Int × (List Int))))) × (List (Int × (Int × (Int × (List Int))))) × Unit) → Option Bool) := fnT (cx := cxT) a77 n77 dd77 m
theorem hs77 : ∀ t, noRoV (n77 t) = true ∨ noOwnV (n77 t) = true := fun _ => .inl rfl
/-! loop.example/g00222/impl.sameVip -/
def a78 : Args cxT.ty ((Int × Int × Int × (List Int)) × (Int × Int × Int × (List Int))) := (Args.cons (Arg.agg (SArg.cons (LArg.int .i64) (SArg.cons (LArg.int .i64) (SArg.cons (LArg.int .i64) (SArg.one (LArg.row 2)))))) (Args.one (Arg.agg (SArg.cons (LArg.int .i64) (SArg.cons (LArg.int .i64) (SArg.cons (LArg.int .i64) (SArg.one (LArg.row 2))))))))
def n78 : Bool → V cxT.ty := fun t => (.inl (.inl (lv (.bool t))))
def dd78 : Bool := false
abbrev c78 (m : ((Int × Int × Int × (List Int)) × (Int × Int × Int × (List Int))) → Option Bool) := fnT (cx := cxT) a78 n78 dd78 m
theorem hs78 : ∀ t, noRoV (n78 t) = true ∨ noOwnV (n78 t) = true := fun _ => .inl rfl
/-! loop.example/g00222/spec.l5Right -/
def a79 : Args cxT.ty ((List Int) × Int) := (Args.one (Arg.agg (SArg.cons (LArg.row 5) (SArg.one (LArg.int .i64)))))
def n79 : (Int × (List (Int × (Int × (Int × (Int × Bool))))) × (List (Int × (Int × (Int × (List Int))))) × (List Int) × Int) → List (A cxT.ty) := fun t => [(.inr [(lv (.int .i64 t.1)), (ls { own := 2, nm := 0, e := 38, o := true, xs := t.2.1 }), (ls { own := 2, nm := 0, e := 36, o := true, xs := t.2.2.1 })]), (.inr [(ls (ro 5 t.2.2.2.1)), (lv (.int .i64 t.2.2.2.2))])]
def dd79 : (Int × (List (Int × (Int × (Int × (Int × Bool))))) × (List (Int × (Int × (Int × (List Int))))) × (List Int) × Int) := ((0 : Int), [], [], [], (0 : Int))
abbrev c79 (m : ((List Int) × Int) → Option (Int × (List (Int × (Int × (Int × (Int × Bool))))) × (List (Int × (Int × (Int × (List Int))))) × (List Int) × Int)) : WFn cxT := { nres := 1, n := 0, F := fnW (cx := cxT) a79 n79 dd79 m, p := 1 }
/-! loop.example/g00222/spec.l1Next -/
def a80 : Args cxT.ty (((List Int) × Int) × Int) := (Args.cons (Arg.agg (SArg.cons (LArg.row 5) (SArg.one (LArg.int .i64)))) (Args.one (Arg.leaf (LArg.int .i64))))
def n80 : (Int × (List Int) × Int) → List (A cxT.ty) := fun t => [(.inl (lv (.int .i64 t.1))), (.inr [(ls (ro 5 t.2.1)), (lv (.int .i64 t.2.2))])]
def dd80 : (Int × (List Int) × Int) := ((0 : Int), [], (0 : Int))
abbrev c80 (m : (((List Int) × Int) × Int) → Option (Int × (List Int) × Int)) : WFn cxT := { nres := 1, n := 0, F := fnW (cx := cxT) a80 n80 dd80 m, p := 1 }
/-! loop.example/g00222/spec.l5Backend -/
def a81 : Args cxT.ty (Int × Int × Int × Int × Bool) := (Args.one (Arg.agg (SArg.cons (LArg.int .i64) (SArg.cons (LArg.int .i64) (SArg.cons (LArg.int .i64) (SArg.cons (LArg.int .i64) (SArg.one LArg.bool)))))))
def n81 : Bool → V cxT.ty := fun t => (.inl (.inl (lv (.bool t))))
def dd81 : Bool := false
abbrev c81 (m : (Int × Int × Int × Int × Bool) → Option Bool) := fnT (cx := cxT) a81 n81 dd81 m
theorem hs81 : ∀ t, noRoV (n81 t) = true ∨ noOwnV (n81 t) = true := fun _ => .inl rfl
/-! loop.example/g00222/spec.l5Vip -/
def a82 : Args cxT.ty ((Int × (List (Int × (Int × (Int × (Int × Bool))))) × (List (Int × (Int × (Int × (List Int)))))) × Int) := (Args.cons (Arg.agg (SArg.cons (LArg.int .i64) (SArg.cons (LArg.row 38) (SArg.one (LArg.row 36))))) (Args.one (Arg.leaf (LArg.int .i64))))
def n82 : (Int × Int × (List (Int × (Int × (Int × (Int × Bool))))) × (List (Int × (Int × (Int × (List Int)))))) → List (A cxT.ty) := fun t => [(.inl (lv (.int .i64 t.1))), (.inr [(lv (.int .i64 t.2.1)), (ls (ro 38 t.2.2.1)), (ls (ro 36 t.2.2.2))])]
def dd82 : (Int × Int × (List (Int × (Int × (Int × (Int × Bool))))) × (List (Int × (Int × (Int × (List Int)))))) := ((0 : Int), (0 : Int), [], [])
abbrev c82 (m : ((Int × (List (Int × (Int × (Int × (Int × Bool))))) × (List (Int × (Int × (Int × (List Int)))))) × Int) → Option (Int × Int × (List (Int × (Int × (Int × (Int × Bool))))) × (List (Int × (Int × (Int × (List Int))))))) : WFn cxT := { nres := 1, n := 0, F := fnW (cx := cxT) a82 n82 dd82 m, p := 1 }
/-! slices.BinarySearchFunc[[]loop.example/g00222/impl.Backend,loop.example/g00222/impl.Backend,int64] -/
def a83 : Args cxT.ty ((List (Int × (Int × (Int × (Int × Bool))))) × Int × Unit) := (Args.cons (Arg.leaf (LArg.row 38)) (Args.cons (Arg.leaf (LArg.int .i64)) (Args.one (Arg.leaf (LArg.fn 84)))))
def n83 : (Int × Bool) → V cxT.ty := fun t => (.inr (.inl [(.inl (lv (.int .i64 t.1))), (.inl (lv (.bool t.2)))]))
def dd83 : (Int × Bool) := ((0 : Int), false)
abbrev c83 (m : ((List (Int × (Int × (Int × (Int × Bool))))) × Int × Unit) → Option (Int × Bool)) := fnT (cx := cxT) a83 n83 dd83 m
theorem hs83 : ∀ t, noRoV (n83 t) = true ∨ noOwnV (n83 t) = true := fun _ => .inl rfl
/-! loop.example/g00222/impl.backendPlace$1 -/
def a84 : Args cxT.ty ((Int × Int × Int × Int × Bool) × Int) := (Args.cons (Arg.agg (SArg.cons (LArg.int .i64) (SArg.cons (LArg.int .i64) (SArg.cons (LArg.int .i64) (SArg.cons (LArg.int .i64) (SArg.one LArg.bool)))))) (Args.one (Arg.leaf (LArg.int .i64))))
def n84 : Int → V cxT.ty := fun t => (.inl (.inl (lv (.int .i64 t))))
def dd84 : Int := (0 : Int)
abbrev c84 (m : ((Int × Int × Int × Int × Bool) × Int) → Option Int) := fnT (cx := cxT) a84 n84 dd84 m
theorem hs84 : ∀ t, noRoV (n84 t) = true ∨ noOwnV (n84 t) = true := fun _ => .inl rfl
/-! cmp.Compare[int64] -/
def a85 : Args cxT.ty (Int × Int) := (Args.cons (Arg.leaf (LArg.int .i64)) (Args.one (Arg.leaf (LArg.int .i64))))
def n85 : Int → V cxT.ty := fun t => (.inl (.inl (lv (.int .i64 t))))
def dd85 : Int := (0 : Int)
abbrev c85 (m : (Int × Int) → Option Int) := fnT (cx := cxT) a85 n85 dd85 m
theorem hs85 : ∀ t, noRoV (n85 t) = true ∨ noOwnV (n85 t) = true := fun _ => .inl rfl
/-! loop.example/g00222/laws.szVip -/
def a86 : Args cxT.ty ((Int × Int × Int × (List Int)) × Int) := (Args.cons (Arg.agg (SArg.cons (LArg.int .i64) (SArg.cons (LArg.int .i64) (SArg.cons (LArg.int .i64) (SArg.one (LArg.row 2)))))) (Args.one (Arg.leaf (LArg.int .i64))))
def n86 : Int → V cxT.ty := fun t => (.inl (.inl (lv (.int .i64 t))))
def dd86 : Int := (0 : Int)
abbrev c86 (m : ((Int × Int × Int × (List Int)) × Int) → Option Int) := fnT (cx := cxT) a86 n86 dd86 m
theorem hs86 : ∀ t, noRoV (n86 t) = true ∨ noOwnV (n86 t) = true := fun _ => .inl rfl
/-! loop.example/g00222/laws.toBackend -/
def a87 : Args cxT.ty (Int × Int × Int × Int × Bool) := (Args.one (Arg.agg (SArg.cons (LArg.int .i64) (SArg.cons (LArg.int .i64) (SArg.cons (LArg.int .i64) (SArg.cons (LArg.int .i64) (SArg.one LArg.bool)))))))
def n87 : (Int × Int × Int × Int × Bool) → V cxT.ty := fun t => (.inl (.inr [(lv (.int .i64 t.1)), (lv (.int .i64 t.2.1)), (lv (.int .i64 t.2.2.1)), (lv (.int .i64 t.2.2.2.1)), (lv (.bool t.2.2.2.2))]))
def dd87 : (Int × Int × Int × Int × Bool) := ((0 : Int), (0 : Int), (0 : Int), (0 : Int), false)
abbrev c87 (m : (Int × Int × Int × Int × Bool) → Option (Int × Int × Int × Int × Bool)) := fnT (cx := cxT) a87 n87 dd87 m
theorem hs87 : ∀ t, noRoV (n87 t) = true ∨ noOwnV (n87 t) = true := fun _ => .inl rfl
/-! loop.example/g00222/laws.toVip -/
def a88 : Args cxT.ty (Int × Int × Int × (List Int)) := (Args.one (Arg.agg (SArg.cons (LArg.int .i64) (SArg.cons (LArg.int .i64) (SArg.cons (LArg.int .i64) (SArg.one (LArg.row 2)))))))
def n88 : (Int × Int × Int × (List Int)) → V cxT.ty := fun t => (.inl (.inr [(lv (.int .i64 t.1)), (lv (.int .i64 t.2.1)), (lv (.int .i64 t.2.2.1)), (ls { own := 2, nm := 0, e := 2, o := true, xs := t.2.2.2 })]))
def dd88 : (Int × Int × Int × (List Int)) := ((0 : Int), (0 : Int), (0 : Int), [])
abbrev c88 (m : (Int × Int × Int × (List Int)) → Option (Int × Int × Int × (List Int))) := fnT (cx := cxT) a88 n88 dd88 m
theorem hs88 : ∀ t, noRoV (n88 t) = true ∨ noOwnV (n88 t) = true := fun _ => .inl rfl
/-! loop.example/g00222/impl.isAddress -/
def a89 : Args cxT.ty Int := (Args.one (Arg.leaf (LArg.int .i64)))
def n89 : Bool → V cxT.ty := fun t => (.inl (.inl (lv (.bool t))))
def dd89 : Bool := false
abbrev c89 (m : Int → Option Bool) := fnT (cx := cxT) a89 n89 dd89 m
theorem hs89 : ∀ t, noRoV (n89 t) = true ∨ noOwnV (n89 t) = true := fun _ => .inl rfl
/-! loop.example/g00222/impl.isStage -/
def a90 : Args cxT.ty Int := (Args.one (Arg.leaf (LArg.int .i64)))
def n90 : Bool → V cxT.ty := fun t => (.inl (.inl (lv (.bool t))))
def dd90 : Bool := false
abbrev c90 (m : Int → Option Bool) := fnT (cx := cxT) a90 n90 dd90 m
theorem hs90 : ∀ t, noRoV (n90 t) = true ∨ noOwnV (n90 t) = true := fun _ => .inl rfl
/-! loop.example/g00222/impl.isPort -/
def a91 : Args cxT.ty Int := (Args.one (Arg.leaf (LArg.int .i64)))
def n91 : Bool → V cxT.ty := fun t => (.inl (.inl (lv (.bool t))))
def dd91 : Bool := false
abbrev c91 (m : Int → Option Bool) := fnT (cx := cxT) a91 n91 dd91 m
theorem hs91 : ∀ t, noRoV (n91 t) = true ∨ noOwnV (n91 t) = true := fun _ => .inl rfl
/-! loop.example/g00222/impl.isProto -/
def a92 : Args cxT.ty Int := (Args.one (Arg.leaf (LArg.int .i64)))
def n92 : Bool → V cxT.ty := fun t => (.inl (.inl (lv (.bool t))))
def dd92 : Bool := false
abbrev c92 (m : Int → Option Bool) := fnT (cx := cxT) a92 n92 dd92 m
theorem hs92 : ∀ t, noRoV (n92 t) = true ∨ noOwnV (n92 t) = true := fun _ => .inl rfl
/-! cmp.Or[int] -/
def a93 : Args cxT.ty (List Int) := (Args.one (Arg.leaf (LArg.row 3)))
def n93 : Int → V cxT.ty := fun t => (.inl (.inl (lv (.int .i64 t))))
def dd93 : Int := (0 : Int)
abbrev c93 (m : (List Int) → Option Int) := fnT (cx := cxT) a93 n93 dd93 m
theorem hs93 : ∀ t, noRoV (n93 t) = true ∨ noOwnV (n93 t) = true := fun _ => .inl rfl
/-! loop.example/g00222/laws.eqVip -/
def a94 : Args cxT.ty ((Int × Int × Int × (List Int)) × (Int × Int × Int × (List Int))) := (Args.cons (Arg.agg (SArg.cons (LArg.int .i64) (SArg.cons (LArg.int .i64) (SArg.cons (LArg.int .i64) (SArg.one (LArg.row 2)))))) (Args.one (Arg.agg (SArg.cons (LArg.int .i64) (SArg.cons (LArg.int .i64) (SArg.cons (LArg.int .i64) (SArg.one (LArg.row 2))))))))
def n94 : Bool → V cxT.ty := fun t => (.inl (.inl (lv (.bool t))))
def dd94 : Bool := false
abbrev c94 (m : ((Int × Int × Int × (List Int)) × (Int × Int × Int × (List Int))) → Option Bool) := fnT (cx := cxT) a94 n94 dd94 m
theorem hs94 : ∀ t, noRoV (n94 t) = true ∨ noOwnV (n94 t) = true := fun _ => .inl rfl
/-! loop.example/g00222/spec.l2Port -/
def a95 : Args cxT.ty Int := (Args.one (Arg.leaf (LArg.int .i64)))
def n95 : Bool → V cxT.ty := fun t => (.inl (.inl (lv (.bool t))))
def dd95 : Bool := false
abbrev c95 (m : Int → Option Bool) := fnT (cx := cxT) a95 n95 dd95 m
theorem hs95 : ∀ t, noRoV (n95 t) = true ∨ noOwnV (n95 t) = true := fun _ => .inl rfl
/-! loop.example/g00222/impl.isYesOrNo -/
def a104 : Args cxT.ty Int := (Args.one (Arg.leaf (LArg.int .i64)))
def n104 : Bool → V cxT.ty := fun t => (.inl (.inl (lv (.bool t))))
def dd104 : Bool := false
abbrev c104 (m : Int → Option Bool) := fnT (cx := cxT) a104 n104 dd104 m
theorem hs104 : ∀ t, noRoV (n104 t) = true ∨ noOwnV (n104 t) = true := fun _ => .inl rfl
/-! loop.example/g00222/impl.PacketFault -/
def a106 : Args cxT.ty (Int × Int × Int × Int × Int × (List Int)) := (Args.one (Arg.agg (SArg.cons (LArg.int .i64) (SArg.cons (LArg.int .i64) (SArg.cons (LArg.int .i64) (SArg.cons (LArg.int .i64) (SArg.cons (LArg.int .i64) (SArg.one (LArg.row 5)))))))))
def n106 : Int → V cxT.ty := fun t => (.inl (.inl (lv (.int .i64 t))))
def dd106 : Int := (0 : Int)
abbrev c106 (m : (Int × Int × Int × Int × Int × (List Int)) → Option Int) := fnT (cx := cxT) a106 n106 dd106 m
theorem hs106 : ∀ t, noRoV (n106 t) = true ∨ noOwnV (n106 t) = true := fun _ => .inl rfl
/-! slices.BinarySearchFunc[[]loop.example/g00222/impl.Vip,loop.example/g00222/impl.Vip,loop.example/g00222/impl.Vip] -/
def a107 : Args cxT.ty ((List (Int × (Int × (Int × (List Int))))) × (Int × Int × Int × (List Int)) × Unit) := (Args.cons (Arg.leaf (LArg.row 36)) (Args.cons (Arg.agg (SArg.cons (LArg.int .i64) (SArg.cons (LArg.int .i64) (SArg.cons (LArg.int .i64) (SArg.one (LArg.row 2)))))) (Args.one (Arg.leaf (LArg.fn 53)))))
def n107 : (Int × Bool) → V cxT.ty := fun t => (.inr (.inl [(.inl (lv (.int .i64 t.1))), (.inl (lv (.bool t.2)))]))
def dd107 : (Int × Bool) := ((0 : Int), false)
abbrev c107 (m : ((List (Int × (Int × (Int × (List Int))))) × (Int × Int × Int × (List Int)) × Unit) → Option (Int × Bool)) := fnT (cx := cxT) a107 n107 dd107 m
theorem hs107 : ∀ t, noRoV (n107 t) = true ∨ noOwnV (n107 t) = true := fun _ => .inl rfl
/-! loop.example/g00222/laws.eqShare -/
def a108 : Args cxT.ty ((Int × Int) × (Int × Int)) := (Args.cons (Arg.agg (SArg.cons (LArg.int .i64) (SArg.one (LArg.int .i64)))) (Args.one (Arg.agg (SArg.cons (LArg.int .i64) (SArg.one (LArg.int .i64))))))
def n108 : Bool → V cxT.ty := fun t => (.inl (.inl (lv (.bool t))))
def dd108 : Bool := false
abbrev c108 (m : ((Int × Int) × (Int × Int)) → Option Bool) := fnT (cx := cxT) a108 n108 dd108 m
theorem hs108 : ∀ t, noRoV (n108 t) = true ∨ noOwnV (n108 t) = true := fun _ => .inl rfl
/-! loop.example/g00222/laws.markInt64S -/
def a109 : Args cxT.ty ((List Int) × Int) := (Args.cons (Arg.leaf (LArg.own 2)) (Args.one (Arg.leaf (LArg.int .i64))))
def n109 : (Int × (List Int)) → List (A cxT.ty) := fun t => [(.inl (lv (.int .i64 t.1))), (.inl (ls { own := 2, nm := 0, e := 2, o := true, xs := t.2 }))]
def dd109 : (Int × (List Int)) := ((0 : Int), [])
abbrev c109 (m : ((List Int) × Int) → Option (Int × (List Int))) : WFn cxT := { nres := 1, n := 1, F := fnW (cx := cxT) a109 n109 dd109 m }
theorem hs109 : ∀ t, noRoV (.inr (.inl (n109 t)) : V cxT.ty) = true := fun _ => rfl
/-! slices.Equal[[]int64,int64] -/
def a110 : Args cxT.ty ((List Int) × (List Int)) := (Args.cons (Arg.leaf (LArg.row 2)) (Args.one (Arg.leaf (LArg.row 2))))
def n110 : Bool → V cxT.ty := fun t => (.inl (.inl (lv (.bool t))))
def dd110 : Bool := false
abbrev c110 (m : ((List Int) × (List Int)) → Option Bool) := fnT (cx := cxT) a110 n110 dd110 m
theorem hs110 : ∀ t, noRoV (n110 t) = true ∨ noOwnV (n110 t) = true := fun _ => .inl rfl
/-! loop.example/g00222/spec.l5Apply -/
def a111 : Args cxT.ty ((Int × (List (Int × (Int × (Int × (Int × Bool))))) × (List (Int × (Int × (Int × (List Int)))))) × (Int × Int × Int × Int × Int × Int)) := (Args.cons (Arg.agg (SArg.cons (LArg.int .i64) (SArg.cons (LArg.row 38) (SArg.one (LArg.row 36))))) (Args.one (Arg.agg (SArg.cons (LArg.int .i64) (SArg.cons (LArg.int .i64) (SArg.cons (LArg.int .i64) (SArg.cons (LArg.int .i64) (SArg.cons (LArg.int .i64) (SArg.one (LArg.int .i64))))))))))
def n111 : (Int × Int × (List (Int × (Int × (Int × (Int × Bool))))) × (List (Int × (Int × (Int × (List Int)))))) → V cxT.ty := fun t => (.inl (.inr [(lv (.int .i64 t.1)), (lv (.int .i64 t.2.1)), (ls { own := 2, nm := 0, e := 38, o := true, xs := t.2.2.1 }), (ls { own := 2, nm := 0, e := 36, o := true, xs := t.2.2.2 })]))
def dd111 : (Int × Int × (List (Int × (Int × (Int × (Int × Bool))))) × (List (Int × (Int × (Int × (List Int)))))) := ((0 : Int), (0 : Int), [], [])
abbrev c111 (m : ((Int × (List (Int × (Int × (Int × (Int × Bool))))) × (List (Int × (Int × (Int × (List Int)))))) × (Int × Int × Int × Int × Int × Int)) → Option (Int × Int × (List (Int × (Int × (Int × (Int × Bool))))) × (List (Int × (Int × (Int × (List Int))))))) := fnT (cx := cxT) a111 n111 dd111 m
theorem hs111 : ∀ t, noRoV (n111 t) = true ∨ noOwnV (n111 t) = true := fun _ => .inl rfl
/-! loop.example/g00222/spec.l5Cmd -/
def a112 : Args cxT.ty ((List Int) × Int) := (Args.one (Arg.agg (SArg.cons (LArg.row 5) (SArg.one (LArg.int .i64)))))
def n112 : (Int × Int × Int × Int × Int × Int × (List Int) × Int) → List (A cxT.ty) := fun t => [(.inr [(lv (.int .i64 t.1)), (lv (.int .i64 t.2.1)), (lv (.int .i64 t.2.2.1)), (lv (.int .i64 t.2.2.2.1)), (lv (.int .i64 t.2.2.2.2.1)), (lv (.int .i64 t.2.2.2.2.2.1))]), (.inr [(ls (ro 5 t.2.2.2.2.2.2.1)), (lv (.int .i64 t.2.2.2.2.2.2.2))])]
def dd112 : (Int × Int × Int × Int × Int × Int × (List Int) × Int) := ((0 : Int), (0 : Int), (0 : Int), (0 : Int), (0 : Int), (0 : Int), [], (0 : Int))
abbrev c112 (m : ((List Int) × Int) → Option (Int × Int × Int × Int × Int × Int × (List Int) × Int)) : WFn cxT := { nres := 1, n := 0, F := fnW (cx := cxT) a112 n112 dd112 m, p := 1 }
/-! loop.example/g00222/spec.l5Behind -/
def a113 : Args cxT.ty ((Int × Int × Int × (List Int)) × (Int × Int × Int × (List Int))) := (Args.cons (Arg.agg (SArg.cons (LArg.int .i64) (SArg.cons (LArg.int .i64) (SArg.cons (LArg.int .i64) (SArg.one (LArg.row 2)))))) (Args.one (Arg.agg (SArg.cons (LArg.int .i64) (SArg.cons (LArg.int .i64) (SArg.cons (LArg.int .i64) (SArg.one (LArg.row 2))))))))
def n113 : Bool → V cxT.ty := fun t => (.inl (.inl (lv (.bool t))))
def dd113 : Bool := false
abbrev c113 (m : ((Int × Int × Int × (List Int)) × (Int × Int × Int × (List Int))) → Option Bool) := fnT (cx := cxT) a113 n113 dd113 m
theorem hs113 : ∀ t, noRoV (n113 t) = true ∨ noOwnV (n113 t) = true := fun _ => .inl rfl
/-! cmp.isNaN[int64] -/
def a114 : Args cxT.ty Int := (Args.one (Arg.leaf (LArg.int .i64)))
def n114 : Bool → V cxT.ty := fun t => (.inl (.inl (lv (.bool t))))
def dd114 : Bool := false
abbrev c114 (m : Int → Option Bool) := fnT (cx := cxT) a114 n114 dd114 m
theorem hs114 : ∀ t, noRoV (n114 t) = true ∨ noOwnV (n114 t) = true := fun _ => .inl rfl
/-! loop.example/g00222/laws.szInt64S -/
def a115 : Args cxT.ty ((List Int) × Int) := (Args.cons (Arg.leaf (LArg.row 2)) (Args.one (Arg.leaf (LArg.int .i64))))
def n115 : Int → V cxT.ty := fun t => (.inl (.inl (lv (.int .i64 t))))
def dd115 : Int := (0 : Int)
abbrev c115 (m : ((List Int) × Int) → Option Int) := fnT (cx := cxT) a115 n115 dd115 m
theorem hs115 : ∀ t, noRoV (n115 t) = true ∨ noOwnV (n115 t) = true := fun _ => .inl rfl
/-! loop.example/g00222/laws.toInt64S -/
def a116 : Args cxT.ty (List Int) := (Args.one (Arg.leaf (LArg.row 2)))
def n116 : (List Int) → V cxT.ty := fun t => (.inl (.inl (ls { own := 2, nm := 0, e := 2, o := true, xs := t })))
def dd116 : (List Int) := []
abbrev c116 (m : (List Int) → Option (List Int)) := fnT (cx := cxT) a116 n116 dd116 m
theorem hs116 : ∀ t, noRoV (n116 t) = true ∨ noOwnV (n116 t) = true := fun _ => .inl rfl
/-! loop.example/g00222/laws.eqInt64S -/
def a117 : Args cxT.ty ((List Int) × (List Int)) := (Args.cons (Arg.leaf (LArg.row 2)) (Args.one (Arg.leaf (LArg.row 2))))
def n117 : Bool → V cxT.ty := fun t => (.inl (.inl (lv (.bool t))))
def dd117 : Bool := false
abbrev c117 (m : ((List Int) × (List Int)) → Option Bool) := fnT (cx := cxT) a117 n117 dd117 m
theorem hs117 : ∀ t, noRoV (n117 t) = true ∨ noOwnV (n117 t) = true := fun _ => .inl rfl
/-! slices.Insert[[]loop.example/g00222/impl.Backend,loop.example/g00222/impl.Backend] -/
def a118 : Args cxT.ty ((List (Int × (Int × (Int × (Int × Bool))))) × Int × (List (Int × (Int × (Int × (Int × Bool)))))) := (Args.cons (Arg.leaf (LArg.row 38)) (Args.cons (Arg.leaf (LArg.int .i64)) (Args.one (Arg.leaf (LArg.row 38)))))
def n118 : (List (Int × (Int × (Int × (Int × Bool))))) → V cxT.ty := fun t => (.inl (.inl (ls { own := 2, nm := 0, e := 38, o := true, xs := t })))
def dd118 : (List (Int × (Int × (Int × (Int × Bool))))) := []
abbrev c118 (m : ((List (Int × (Int × (Int × (Int × Bool))))) × Int × (List (Int × (Int × (Int × (Int × Bool)))))) → Option (List (Int × (Int × (Int × (Int × Bool)))))) := fnT (cx := cxT) a118 n118 dd118 m
theorem hs118 : ∀ t, noRoV (n118 t) = true ∨ noOwnV (n118 t) = true := fun _ => .inl rfl
/-! slices.Contains[[]int64,int64] -/
def a122 : Args cxT.ty ((List Int) × Int) := (Args.cons (Arg.leaf (LArg.row 2)) (Args.one (Arg.leaf (LArg.int .i64))))
def n122 : Bool → V cxT.ty := fun t => (.inl (.inl (lv (.bool t))))
def dd122 : Bool := false
abbrev c122 (m : ((List Int) × Int) → Option Bool) := fnT (cx := cxT) a122 n122 dd122 m
theorem hs122 : ∀ t, noRoV (n122 t) = true ∨ noOwnV (n122 t) = true := fun _ => .inl rfl
/-! slices.Delete[[]loop.example/g00222/impl.Backend,loop.example/g00222/impl.Backend] -/
def a123 : Args cxT.ty ((List (Int × (Int × (Int × (Int × Bool))))) × Int × Int) := (Args.cons (Arg.leaf (LArg.row 38)) (Args.cons (Arg.leaf (LArg.int .i64)) (Args.one (Arg.leaf (LArg.int .i64)))))
def n123 : (List (Int × (Int × (Int × (Int × Bool))))) → V cxT.ty := fun t => (.inl (.inl (ls { own := 2, nm := 0, e := 38, o := true, xs := t })))
def dd123 : (List (Int × (Int × (Int × (Int × Bool))))) := []
abbrev c123 (m : ((List (Int × (Int × (Int × (Int × Bool))))) × Int × Int) → Option (List (Int × (Int × (Int × (Int × Bool)))))) := fnT (cx := cxT) a123 n123 dd123 m
theorem hs123 : ∀ t, noRoV (n123 t) = true ∨ noOwnV (n123 t) = true := fun _ => .inl rfl
/-! slices.Insert[[]loop.example/g00222/impl.Vip,loop.example/g00222/impl.Vip] -/
def a124 : Args cxT.ty ((List (Int × (Int × (Int × (List Int))))) × Int × (List (Int × (Int × (Int × (List Int)))))) := (Args.cons (Arg.leaf (LArg.row 36)) (Args.cons (Arg.leaf (LArg.int .i64)) (Args.one (Arg.leaf (LArg.row 36)))))
def n124 : (List (Int × (Int × (Int × (List Int))))) → V cxT.ty := fun t => (.inl (.inl (ls { own := 2, nm := 0, e := 36, o := true, xs := t })))
def dd124 : (List (Int × (Int × (Int × (List Int))))) := []
abbrev c124 (m : ((List (Int × (Int × (Int × (List Int))))) × Int × (List (Int × (Int × (Int × (List Int)))))) → Option (List (Int × (Int × (Int × (List Int)))))) := fnT (cx := cxT) a124 n124 dd124 m
theorem hs124 : ∀ t, noRoV (n124 t) = true ∨ noOwnV (n124 t) = true := fun _ => .inl rfl
/-! slices.Delete[[]loop.example/g00222/impl.Vip,loop.example/g00222/impl.Vip] -/
def a125 : Args cxT.ty ((List (Int × (Int × (Int × (List Int))))) × Int × Int) := (Args.cons (Arg.leaf (LArg.row 36)) (Args.cons (Arg.leaf (LArg.int .i64)) (Args.one (Arg.leaf (LArg.int .i64)))))
def n125 : (List (Int × (Int × (Int × (List Int))))) → V cxT.ty := fun t => (.inl (.inl (ls { own := 2, nm := 0, e := 36, o := true, xs := t })))
def dd125 : (List (Int × (Int × (Int × (List Int))))) := []
abbrev c125 (m : ((List (Int × (Int × (Int × (List Int))))) × Int × Int) → Option (List (Int × (Int × (Int × (List Int)))))) := fnT (cx := cxT) a125 n125 dd125 m
theorem hs125 : ∀ t, noRoV (n125 t) = true ∨ noOwnV (n125 t) = true := fun _ => .inl rfl
/-! slices.BinarySearch[[]int64,int64] -/
def a126 : Args cxT.ty ((List Int) × Int) := (Args.cons (Arg.leaf (LArg.row 2)) (Args.one (Arg.leaf (LArg.int .i64))))
def n126 : (Int × Bool) → V cxT.ty := fun t => (.inr (.inl [(.inl (lv (.int .i64 t.1))), (.inl (lv (.bool t.2)))]))
def dd126 : (Int × Bool) := ((0 : Int), false)
abbrev c126 (m : ((List Int) × Int) → Option (Int × Bool)) := fnT (cx := cxT) a126 n126 dd126 m
theorem hs126 : ∀ t, noRoV (n126 t) = true ∨ noOwnV (n126 t) = true := fun _ => .inl rfl
/-! slices.Insert[[]int64,int64] -/
def a127 : Args cxT.ty ((List Int) × Int × (List Int)) := (Args.cons (Arg.leaf (LArg.row 2)) (Args.cons (Arg.leaf (LArg.int .i64)) (Args.one (Arg.leaf (LArg.row 2)))))
def n127 : (List Int) → V cxT.ty := fun t => (.inl (.inl (ls { own := 2, nm := 0, e := 2, o := true, xs := t })))
def dd127 : (List Int) := []
abbrev c127 (m : ((List Int) × Int × (List Int)) → Option (List Int)) := fnT (cx := cxT) a127 n127 dd127 m
theorem hs127 : ∀ t, noRoV (n127 t) = true ∨ noOwnV (n127 t) = true := fun _ => .inl rfl
/-! slices.Delete[[]int64,int64] -/
def a128 : Args cxT.ty ((List Int) × Int × Int) := (Args.cons (Arg.leaf (LArg.row 2)) (Args.cons (Arg.leaf (LArg.int .i64)) (Args.one (Arg.leaf (LArg.int .i64)))))
def n128 : (List Int) → V cxT.ty := fun t => (.inl (.inl (ls { own := 2, nm := 0, e := 2, o := true, xs := t })))
def dd128 : (List Int) := []
abbrev c128 (m : ((List Int) × Int × Int) → Option (List Int)) := fnT (cx := cxT) a128 n128 dd128 m
theorem hs128 : ∀ t, noRoV (n128 t) = true ∨ noOwnV (n128 t) = true := fun _ => .inl rfl
/-! loop.example/g00222/spec.l5Copy -/
def a130 : Args cxT.ty (Int × (List (Int × (Int × (Int × (Int × Bool))))) × (List (Int × (Int × (Int × (List Int)))))) := (Args.one (Arg.agg (SArg.cons (LArg.int .i64) (SArg.cons (LArg.row 38) (SArg.one (LArg.row 36))))))
def n130 : (Int × (List (Int × (Int × (Int × (Int × Bool))))) × (List (Int × (Int × (Int × (List Int)))))) → V cxT.ty := fun t => (.inl (.inr [(lv (.int .i64 t.1)), (ls { own := 2, nm := 0, e := 38, o := true, xs := t.2.1 }), (ls { own := 2, nm := 0, e := 36, o := true, xs := t.2.2 })]))
def dd130 : (Int × (List (Int × (Int × (Int × (Int × Bool))))) × (List (Int × (Int × (Int × (List Int)))))) := ((0 : Int), [], [])
abbrev c130 (m : (Int × (List (Int × (Int × (Int × (Int × Bool))))) × (List (Int × (Int × (Int × (List Int)))))) → Option (Int × (List (Int × (Int × (Int × (Int × Bool))))) × (List (Int × (Int × (Int × (List Int))))))) := fnT (cx := cxT) a130 n130 dd130 m
theorem hs130 : ∀ t, noRoV (n130 t) = true ∨ noOwnV (n130 t) = true := fun _ => .inl rfl
/-! loop.example/g00222/spec.l5TurnVip -/
def a131 : Args cxT.ty ((Int × (List (Int × (Int × (Int × (Int × Bool))))) × (List (Int × (Int × (Int × (List Int)))))) × (Int × Int × Int × Int × Int × Int)) := (Args.cons (Arg.agg (SArg.cons (LArg.int .i64) (SArg.cons (LArg.row 38) (SArg.one (LArg.row 36))))) (Args.one (Arg.agg (SArg.cons (LArg.int .i64) (SArg.cons (LArg.int .i64) (SArg.cons (LArg.int .i64) (SArg.cons (LArg.int .i64) (SArg.cons (LArg.int .i64) (SArg.one (LArg.int .i64))))))))))
def n131 : (Int × Int × (List (Int × (Int × (Int × (Int × Bool))))) × (List (Int × (Int × (Int × (List Int)))))) → List (A cxT.ty) := fun t => [(.inl (lv (.int .i64 t.1))), (.inr [(lv (.int .i64 t.2.1)), (ls (ro 38 t.2.2.1)), (ls (ro 36 t.2.2.2))])]
def dd131 : (Int × Int × (List (Int × (Int × (Int × (Int × Bool))))) × (List (Int × (Int × (Int × (List Int)))))) := ((0 : Int), (0 : Int), [], [])
abbrev c131 (m : ((Int × (List (Int × (Int × (Int × (Int × Bool))))) × (List (Int × (Int × (Int × (List Int)))))) × (Int × Int × Int × Int × Int × Int)) → Option (Int × Int × (List (Int × (Int × (Int × (Int × Bool))))) × (List (Int × (Int × (Int × (List Int))))))) : WFn cxT := { nres := 1, n := 0, F := fnW (cx := cxT) a131 n131 dd131 m, p := 1 }
/-! loop.example/g00222/spec.l5Turn -/
def a132 : Args cxT.ty ((Int × (List (Int × (Int × (Int × (Int × Bool))))) × (List (Int × (Int × (Int × (List Int)))))) × (Int × Int × Int × Int × Int × Int)) := (Args.cons (Arg.agg (SArg.cons (LArg.int .i64) (SArg.cons (LArg.row 38) (SArg.one (LArg.row 36))))) (Args.one (Arg.agg (SArg.cons (LArg.int .i64) (SArg.cons (LArg.int .i64) (SArg.cons (LArg.int .i64) (SArg.cons (LArg.int .i64) (SArg.cons (LArg.int .i64) (SArg.one (LArg.int .i64))))))))))
def n132 : (Int × Int × (List (Int × (Int × (Int × (Int × Bool))))) × (List (Int × (Int × (Int × (List Int)))))) → List (A cxT.ty) := fun t => [(.inl (lv (.int .i64 t.1))), (.inr [(lv (.int .i64 t.2.1)), (ls (ro 38 t.2.2.1)), (ls (ro 36 t.2.2.2))])]
def dd132 : (Int × Int × (List (Int × (Int × (Int × (Int × Bool))))) × (List (Int × (Int × (Int × (List Int)))))) := ((0 : Int), (0 : Int), [], [])
abbrev c132 (m : ((Int × (List (Int × (Int × (Int × (Int × Bool))))) × (List (Int × (Int × (Int × (List Int)))))) × (Int × Int × Int × Int × Int × Int)) → Option (Int × Int × (List (Int × (Int × (Int × (Int × Bool))))) × (List (Int × (Int × (Int × (List Int))))))) : WFn cxT := { nres := 1, n := 0, F := fnW (cx := cxT) a132 n132 dd132 m, p := 1 }
/-! loop.example/g00222/spec.l1Chance -/
def a133 : Args cxT.ty (((List Int) × Int) × Int) := (Args.cons (Arg.agg (SArg.cons (LArg.row 5) (SArg.one (LArg.int .i64)))) (Args.one (Arg.leaf (LArg.int .i64))))
def n133 : (Bool × (List Int) × Int) → List (A cxT.ty) := fun t => [(.inl (lv (.bool t.1))), (.inr [(ls (ro 5 t.2.1)), (lv (.int .i64 t.2.2))])]
def dd133 : (Bool × (List Int) × Int) := (false, [], (0 : Int))
abbrev c133 (m : (((List Int) × Int) × Int) → Option (Bool × (List Int) × Int)) : WFn cxT := { nres := 1, n := 0, F := fnW (cx := cxT) a133 n133 dd133 m, p := 1 }
/-! slices.overlaps[loop.example/g00222/impl.Backend] -/
def a134 : Args cxT.ty ((List (Int × (Int × (Int × (Int × Bool))))) × (List (Int × (Int × (Int × (Int × Bool)))))) := (Args.cons (Arg.leaf (LArg.row 38)) (Args.one (Arg.leaf (LArg.row 38))))
def n134 : Bool → V cxT.ty := fun t => (.inl (.inl (lv (.bool t))))
def dd134 : Bool := false
abbrev c134 (m : ((List (Int × (Int × (Int × (Int × Bool))))) × (List (Int × (Int × (Int × (Int × Bool)))))) → Option Bool) := fnT (cx := cxT) a134 n134 dd134 m
theorem hs134 : ∀ t, noRoV (n134 t) = true ∨ noOwnV (n134 t) = true := fun _ => .inl rfl
/-! slices.rotateRight[loop.example/g00222/impl.Backend] -/
def a135 : Args cxT.ty ((List (Int × (Int × (Int × (Int × Bool))))) × Int) := (Args.cons (Arg.leaf (LArg.row 38)) (Args.one (Arg.leaf (LArg.int .i64))))
def n135 : Unit → V cxT.ty := fun t => (.inr (.inl []))
def dd135 : Unit := ()
abbrev c135 (m : ((List (Int × (Int × (Int × (Int × Bool))))) × Int) → Option Unit) := fnT (cx := cxT) a135 n135 dd135 m
theorem hs135 : ∀ t, noRoV (n135 t) = true ∨ noOwnV (n135 t) = true := fun _ => .inl rfl
/-! slices.Index[[]int64,int64] -/
def a136 : Args cxT.ty ((List Int) × Int) := (Args.cons (Arg.leaf (LArg.row 2)) (Args.one (Arg.leaf (LArg.int .i64))))
def n136 : Int → V cxT.ty := fun t => (.inl (.inl (lv (.int .i64 t))))
def dd136 : Int := (0 : Int)
abbrev c136 (m : ((List Int) × Int) → Option Int) := fnT (cx := cxT) a136 n136 dd136 m
theorem hs136 : ∀ t, noRoV (n136 t) = true ∨ noOwnV (n136 t) = true := fun _ => .inl rfl
/-! slices.overlaps[loop.example/g00222/impl.Vip] -/
def a137 : Args cxT.ty ((List (Int × (Int × (Int × (List Int))))) × (List (Int × (Int × (Int × (List Int)))))) := (Args.cons (Arg.leaf (LArg.row 36)) (Args.one (Arg.leaf (LArg.row 36))))
def n137 : Bool → V cxT.ty := fun t => (.inl (.inl (lv (.bool t))))
def dd137 : Bool := false
abbrev c137 (m : ((List (Int × (Int × (Int × (List Int))))) × (List (Int × (Int × (Int × (List Int)))))) → Option Bool) := fnT (cx := cxT) a137 n137 dd137 m
theorem hs137 : ∀ t, noRoV (n137 t) = true ∨ noOwnV (n137 t) = true := fun _ => .inl rfl
/-! slices.rotateRight[loop.example/g00222/impl.Vip] -/
def a138 : Args cxT.ty ((List (Int × (Int × (Int × (List Int))))) × Int) := (Args.cons (Arg.leaf (LArg.row 36)) (Args.one (Arg.leaf (LArg.int .i64))))
def n138 : Unit → V cxT.ty := fun t => (.inr (.inl []))
def dd138 : Unit := ()
abbrev c138 (m : ((List (Int × (Int × (Int × (List Int))))) × Int) → Option Unit) := fnT (cx := cxT) a138 n138 dd138 m
theorem hs138 : ∀ t, noRoV (n138 t) = true ∨ noOwnV (n138 t) = true := fun _ => .inl rfl
/-! cmp.Less[int64] -/
def a139 : Args cxT.ty (Int × Int) := (Args.cons (Arg.leaf (LArg.int .i64)) (Args.one (Arg.leaf (LArg.int .i64))))
def n139 : Bool → V cxT.ty := fun t => (.inl (.inl (lv (.bool t))))
def dd139 : Bool := false
abbrev c139 (m : (Int × Int) → Option Bool) := fnT (cx := cxT) a139 n139 dd139 m
theorem hs139 : ∀ t, noRoV (n139 t) = true ∨ noOwnV (n139 t) = true := fun _ => .inl rfl
/-! slices.isNaN[int64] -/
def a140 : Args cxT.ty Int := (Args.one (Arg.leaf (LArg.int .i64)))
def n140 : Bool → V cxT.ty := fun t => (.inl (.inl (lv (.bool t))))
def dd140 : Bool := false
abbrev c140 (m : Int → Option Bool) := fnT (cx := cxT) a140 n140 dd140 m
theorem hs140 : ∀ t, noRoV (n140 t) = true ∨ noOwnV (n140 t) = true := fun _ => .inl rfl
/-! slices.overlaps[int64] -/
def a141 : Args cxT.ty ((List Int) × (List Int)) := (Args.cons (Arg.leaf (LArg.row 2)) (Args.one (Arg.leaf (LArg.row 2))))
def n141 : Bool → V cxT.ty := fun t => (.inl (.inl (lv (.bool t))))
def dd141 : Bool := false
abbrev c141 (m : ((List Int) × (List Int)) → Option Bool) := fnT (cx := cxT) a141 n141 dd141 m
theorem hs141 : ∀ t, noRoV (n141 t) = true ∨ noOwnV (n141 t) = true := fun _ => .inl rfl
/-! slices.rotateRight[int64] -/
def a142 : Args cxT.ty ((List Int) × Int) := (Args.cons (Arg.leaf (LArg.row 2)) (Args.one (Arg.leaf (LArg.int .i64))))
def n142 : Unit → V cxT.ty := fun t => (.inr (.inl []))
def dd142 : Unit := ()
abbrev c142 (m : ((List Int) × Int) → Option Unit) := fnT (cx := cxT) a142 n142 dd142 m
theorem hs142 : ∀ t, noRoV (n142 t) = true ∨ noOwnV (n142 t) = true := fun _ => .inl rfl
/-! loop.example/g00222/spec.l5Find -/
def a143 : Args cxT.ty ((Int × (List (Int × (Int × (Int × (Int × Bool))))) × (List (Int × (Int × (Int × (List Int)))))) × (Int × Int × Int × Int × Int × Int)) := (Args.cons (Arg.agg (SArg.cons (LArg.int .i64) (SArg.cons (LArg.row 38) (SArg.one (LArg.row 36))))) (Args.one (Arg.agg (SArg.cons (LArg.int .i64) (SArg.cons (LArg.int .i64) (SArg.cons (LArg.int .i64) (SArg.cons (LArg.int .i64) (SArg.cons (LArg.int .i64) (SArg.one (LArg.int .i64))))))))))
def n143 : (Int × Int × (List (Int × (Int × (Int × (Int × Bool))))) × (List (Int × (Int × (Int × (List Int)))))) → List (A cxT.ty) := fun t => [(.inl (lv (.int .i64 t.1))), (.inr [(lv (.int .i64 t.2.1)), (ls (ro 38 t.2.2.1)), (ls (ro 36 t.2.2.2))])]
def dd143 : (Int × Int × (List (Int × (Int × (Int × (Int × Bool))))) × (List (Int × (Int × (Int × (List Int)))))) := ((0 : Int), (0 : Int), [], [])
abbrev c143 (m : ((Int × (List (Int × (Int × (Int × (Int × Bool))))) × (List (Int × (Int × (Int × (List Int)))))) × (Int × Int × Int × Int × Int × Int)) → Option (Int × Int × (List (Int × (Int × (Int × (Int × Bool))))) × (List (Int × (Int × (Int × (List Int))))))) : WFn cxT := { nres := 1, n := 0, F := fnW (cx := cxT) a143 n143 dd143 m, p := 1 }
/-! loop.example/g00222/spec.l1Has -/
def a144 : Args cxT.ty ((List Int) × Int) := (Args.cons (Arg.leaf (LArg.row 2)) (Args.one (Arg.leaf (LArg.int .i64))))
def n144 : Bool → V cxT.ty := fun t => (.inl (.inl (lv (.bool t))))
def dd144 : Bool := false
abbrev c144 (m : ((List Int) × Int) → Option Bool) := fnT (cx := cxT) a144 n144 dd144 m
theorem hs144 : ∀ t, noRoV (n144 t) = true ∨ noOwnV (n144 t) = true := fun _ => .inl rfl
/-! loop.example/g00222/spec.l1Rise -/
def a145 : Args cxT.ty ((List Int) × Int) := (Args.cons (Arg.leaf (LArg.row 2)) (Args.one (Arg.leaf (LArg.int .i64))))
def n145 : (List Int) → V cxT.ty := fun t => (.inl (.inl (ls { own := 2, nm := 0, e := 2, o := true, xs := t })))
def dd145 : (List Int) := []
abbrev c145 (m : ((List Int) × Int) → Option (List Int)) := fnT (cx := cxT) a145 n145 dd145 m
theorem hs145 : ∀ t, noRoV (n145 t) = true ∨ noOwnV (n145 t) = true := fun _ => .inl rfl
/-! loop.example/g00222/spec.l5Serves -/
def a146 : Args cxT.ty ((Int × (List (Int × (Int × (Int × (Int × Bool))))) × (List (Int × (Int × (Int × (List Int)))))) × Int) := (Args.cons (Arg.agg (SArg.cons (LArg.int .i64) (SArg.cons (LArg.row 38) (SArg.one (LArg.row 36))))) (Args.one (Arg.leaf (LArg.int .i64))))
def n146 : (Bool × Int × (List (Int × (Int × (Int × (Int × Bool))))) × (List (Int × (Int × (Int × (List Int)))))) → List (A cxT.ty) := fun t => [(.inl (lv (.bool t.1))), (.inr [(lv (.int .i64 t.2.1)), (ls (ro 38 t.2.2.1)), (ls (ro 36 t.2.2.2))])]
def dd146 : (Bool × Int × (List (Int × (Int × (Int × (Int × Bool))))) × (List (Int × (Int × (Int × (List Int)))))) := (false, (0 : Int), [], [])
abbrev c146 (m : ((Int × (List (Int × (Int × (Int × (Int × Bool))))) × (List (Int × (Int × (Int × (List Int)))))) × Int) → Option (Bool × Int × (List (Int × (Int × (Int × (Int × Bool))))) × (List (Int × (Int × (Int × (List Int))))))) : WFn cxT := { nres := 1, n := 0, F := fnW (cx := cxT) a146 n146 dd146 m, p := 1 }
/-! slices.rotateLeft[loop.example/g00222/impl.Backend] -/
def a147 : Args cxT.ty ((List (Int × (Int × (Int × (Int × Bool))))) × Int) := (Args.cons (Arg.leaf (LArg.row 38)) (Args.one (Arg.leaf (LArg.int .i64))))
def n147 : Unit → V cxT.ty := fun t => (.inr (.inl []))
def dd147 : Unit := ()
abbrev c147 (m : ((List (Int × (Int × (Int × (Int × Bool))))) × Int) → Option Unit) := fnT (cx := cxT) a147 n147 dd147 m
theorem hs147 : ∀ t, noRoV (n147 t) = true ∨ noOwnV (n147 t) = true := fun _ => .inl rfl
/-! slices.rotateLeft[loop.example/g00222/impl.Vip] -/
def a148 : Args cxT.ty ((List (Int × (Int × (Int × (List Int))))) × Int) := (Args.cons (Arg.leaf (LArg.row 36)) (Args.one (Arg.leaf (LArg.int .i64))))
def n148 : Unit → V cxT.ty := fun t => (.inr (.inl []))
def dd148 : Unit := ()
abbrev c148 (m : ((List (Int × (Int × (Int × (List Int))))) × Int) → Option Unit) := fnT (cx := cxT) a148 n148 dd148 m
theorem hs148 : ∀ t, noRoV (n148 t) = true ∨ noOwnV (n148 t) = true := fun _ => .inl rfl
/-! slices.rotateLeft[int64] -/
def a149 : Args cxT.ty ((List Int) × Int) := (Args.cons (Arg.leaf (LArg.row 2)) (Args.one (Arg.leaf (LArg.int .i64))))
def n149 : Unit → V cxT.ty := fun t => (.inr (.inl []))
def dd149 : Unit := ()
abbrev c149 (m : ((List Int) × Int) → Option Unit) := fnT (cx := cxT) a149 n149 dd149 m
theorem hs149 : ∀ t, noRoV (n149 t) = true ∨ noOwnV (n149 t) = true := fun _ => .inl rfl
/-! slices.Reverse[[]loop.example/g00222/impl.Backend,loop.example/g00222/impl.Backend] -/
def a150 : Args cxT.ty (List (Int × (Int × (Int × (Int × Bool))))) := (Args.one (Arg.leaf (LArg.row 38)))
def n150 : Unit → V cxT.ty := fun t => (.inr (.inl []))
def dd150 : Unit := ()
abbrev c150 (m : (List (Int × (Int × (Int × (Int × Bool))))) → Option Unit) := fnT (cx := cxT) a150 n150 dd150 m
theorem hs150 : ∀ t, noRoV (n150 t) = true ∨ noOwnV (n150 t) = true := fun _ => .inl rfl
/-! slices.Reverse[[]loop.example/g00222/impl.Vip,loop.example/g00222/impl.Vip] -/
def a151 : Args cxT.ty (List (Int × (Int × (Int × (List Int))))) := (Args.one (Arg.leaf (LArg.row 36)))
def n151 : Unit → V cxT.ty := fun t => (.inr (.inl []))
def dd151 : Unit := ()
abbrev c151 (m : (List (Int × (Int × (Int × (List Int))))) → Option Unit) := fnT (cx := cxT) a151 n151 dd151 m
theorem hs151 : ∀ t, noRoV (n151 t) = true ∨ noOwnV (n151 t) = true := fun _ => .inl rfl
/-! slices.Reverse[[]int64,int64] -/
def a152 : Args cxT.ty (List Int) := (Args.one (Arg.leaf (LArg.row 2)))
def n152 : Unit → V cxT.ty := fun t => (.inr (.inl []))
def dd152 : Unit := ()
abbrev c152 (m : (List Int) → Option Unit) := fnT (cx := cxT) a152 n152 dd152 m
theorem hs152 : ∀ t, noRoV (n152 t) = true ∨ noOwnV (n152 t) = true := fun _ => .inl rfl
end Go.Proofs.Try
