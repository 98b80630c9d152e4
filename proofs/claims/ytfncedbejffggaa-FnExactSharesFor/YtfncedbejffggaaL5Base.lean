/- A part of the proof of FnExactSharesFor: L5Base, L5Con. -/
import Derived.Test.YtfncedbejffggaaVmJ
import Derived.Test.YtfncedbejffggaaProg
namespace Go.Proofs.Try
open Go Go.VM Go.RowKit

abbrev Bk := Int × Int × Int × Int × Bool
abbrev Vp := Int × Int × Int × List Int
def tyT (e : Nat) : Type := if e = 2 then Int else if e = 3 then Int else if e = 5 then Int else if e = 38 then Bk else if e = 36 then Vp else if e = 44 then Int × Int else if e = 129 then Bk else if e = 127 then Vp else if e = 49 then Int × List Bk × List Vp else if e = 27 then Int × List Bk × List Vp else Unit
def inhT (e : Nat) : tyT e := by
  unfold tyT
  repeat' split
  all_goals first | exact (0 : Int) | exact ((0, 0) : Int × Int) | exact ((0, 0, 0, 0, false) : Bk) | exact ((0, 0, 0, []) : Vp) | exact ((0, [], []) : Int × List Bk × List Vp) | exact ()
def cd2 : Cd tyT (tyT 2) := cdInt .i64
def cd3 : Cd tyT (tyT 3) := cdInt .i64
def cd5 : Cd tyT (tyT 5) := cdInt .u8
def cdBk : Cd tyT Bk := cdPair (cdInt .i64) (cdPair (cdInt .i64) (cdPair (cdInt .i64) (cdPair (cdInt .i64) cdBool)))
def cdVp : Cd tyT Vp := cdPair (cdInt .i64) (cdPair (cdInt .i64) (cdPair (cdInt .i64) (cdRow 2)))
def cd38 : Cd tyT (tyT 38) := cdBk
def cd36 : Cd tyT (tyT 36) := cdVp
def cd44 : Cd tyT (tyT 44) := cdPair (cdInt .i64) (cdInt .i64)
def cd129 : Cd tyT (tyT 129) := cdBk
def cd127 : Cd tyT (tyT 127) := cdVp
def cd49 : Cd tyT (tyT 49) := cdPair (cdInt .i64) (cdPair (cdRow 129) (cdRow 127))
def cd27 : Cd tyT (tyT 27) := cdPair (cdInt .i64) (cdPair (cdRow 38) (cdRow 36))
def cdT (e : Nat) : Cd tyT (tyT e) :=
  if h : e = 2 then h.symm ▸ cd2 else if h : e = 3 then h.symm ▸ cd3 else if h : e = 5 then h.symm ▸ cd5 else if h : e = 38 then h.symm ▸ cd38 else if h : e = 36 then h.symm ▸ cd36 else if h : e = 44 then h.symm ▸ cd44 else if h : e = 129 then h.symm ▸ cd129 else if h : e = 127 then h.symm ▸ cd127 else if h : e = 49 then h.symm ▸ cd49 else if h : e = 27 then h.symm ▸ cd27 else cdNone (inhT e)
def cxT : Cx := Cx.of cdT
theorem cxT_ok : cxT.Ok := Cx.of_ok cdT
set_option maxRecDepth 100000 in
theorem dom_cases {e : Nat} (h : (cdT e).dom = true) : e = 2 ∨ e = 3 ∨ e = 5 ∨ e = 38 ∨ e = 44 ∨ e = 129 := by
  by_cases h1 : e = 2
  · exact .inl h1
  by_cases h2 : e = 3
  · exact .inr (.inl h2)
  by_cases h3 : e = 5
  · exact .inr (.inr (.inl h3))
  by_cases h4 : e = 38
  · exact .inr (.inr (.inr (.inl h4)))
  by_cases h5 : e = 36
  · subst h5; exact absurd h (by intro hh; cases (show false = true from hh))
  by_cases h6 : e = 44
  · exact .inr (.inr (.inr (.inr (.inl h6))))
  by_cases h7 : e = 129
  · exact .inr (.inr (.inr (.inr (.inr h7))))
  by_cases h8 : e = 127
  · subst h8; exact absurd h (by intro hh; cases (show false = true from hh))
  by_cases h9 : e = 49
  · subst h9; exact absurd h (by intro hh; cases (show false = true from hh))
  by_cases h10 : e = 27
  · subst h10; exact absurd h (by intro hh; cases (show false = true from hh))
  · unfold cdT at h; rw [dif_neg h1, dif_neg h2, dif_neg h3, dif_neg h4, dif_neg h5, dif_neg h6, dif_neg h7, dif_neg h8, dif_neg h9, dif_neg h10] at h; exact Bool.noConfusion h

set_option maxRecDepth 100000 in
theorem cxT_pok : cxT.POk prog := by
  refine ⟨fun e he => ?_, fun e he hu o x => ?_⟩
  · rcases dom_cases he with rfl | rfl | rfl | rfl | rfl | rfl <;>
    exact ⟨_, _, rfl, rfl, rfl, by decide, rfl, by decide, rfl⟩
  · rcases dom_cases he with rfl | rfl | rfl | rfl | rfl | rfl
    · rw [underlying2] at hu; cases hu
    · rw [show prog.underlying 3 = _ from rfl] at hu; cases hu
    · exact ⟨x, rfl⟩
    · rw [show prog.underlying 38 = _ from rfl] at hu; cases hu
    · rw [show prog.underlying 44 = _ from rfl] at hu; cases hu
    · rw [show prog.underlying 129 = _ from rfl] at hu; cases hu
end Go.Proofs.Try

set_option linter.unusedVariables false
namespace Go.Proofs.Try
open Go Go.VM Go.RowKit
/-! loop.example/g00222/laws.FnDrained -/
def a3 : Args cxT.ty (List Int) := (Args.one (Arg.leaf (LArg.row 5)))
def n3 : Bool → V cxT.ty := fun t => (.inl (.inl (lv (.bool t))))
/-! loop.example/g00222/laws.FnExactConfigFault -/
def a4 : Args cxT.ty (Int × (List (Int × (Int × (Int × (Int × Bool))))) × (List (Int × (Int × (Int × (List Int)))))) := (Args.one (Arg.agg (SArg.cons (LArg.int .i64) (SArg.cons (LArg.row 129) (SArg.one (LArg.row 127))))))
def n4 : Bool → V cxT.ty := fun t => (.inl (.inl (lv (.bool t))))
/-! loop.example/g00222/laws.FnExactCmdFault -/
def a5 : Args cxT.ty (Int × Int × Int × Int × Int × Int) := (Args.one (Arg.agg (SArg.cons (LArg.int .i64) (SArg.cons (LArg.int .i64) (SArg.cons (LArg.int .i64) (SArg.cons (LArg.int .i64) (SArg.cons (LArg.int .i64) (SArg.one (LArg.int .i64)))))))))
def n5 : Bool → V cxT.ty := fun t => (.inl (.inl (lv (.bool t))))
/-! loop.example/g00222/laws.FnExactBackendAt -/
def a6 : Args cxT.ty ((Int × (List (Int × (Int × (Int × (Int × Bool))))) × (List (Int × (Int × (Int × (List Int)))))) × Int) := (Args.cons (Arg.agg (SArg.cons (LArg.int .i64) (SArg.cons (LArg.row 129) (SArg.one (LArg.row 127))))) (Args.one (Arg.leaf (LArg.int .i64))))
def n6 : Bool → V cxT.ty := fun t => (.inl (.inl (lv (.bool t))))
/-! loop.example/g00222/laws.FnExactVipFor -/
def n7 : Bool → V cxT.ty := fun t => (.inl (.inl (lv (.bool t))))
/-! loop.example/g00222/laws.FnExactSharesFor -/
def a8 : Args cxT.ty ((Int × (List (Int × (Int × (Int × (Int × Bool))))) × (List (Int × (Int × (Int × (List Int)))))) × Int) := (Args.cons (Arg.agg (SArg.cons (LArg.int .i64) (SArg.cons (LArg.row 129) (SArg.one (LArg.row 127))))) (Args.one (Arg.leaf (LArg.int .i64))))
def n8 : Bool → V cxT.ty := fun t => (.inl (.inl (lv (.bool t))))
def dd8 : Bool := false
abbrev c8 (m : ((Int × (List (Int × (Int × (Int × (Int × Bool))))) × (List (Int × (Int × (Int × (List Int)))))) × Int) → Option Bool) := fnT (cx := cxT) a8 n8 dd8 m
theorem hs8 : ∀ t, noRoV (n8 t) = true ∨ noOwnV (n8 t) = true := fun _ => .inl rfl
/-! loop.example/g00222/laws.FnExactSameConfigs -/
def n9 : Bool → V cxT.ty := fun t => (.inl (.inl (lv (.bool t))))
/-! loop.example/g00222/laws.lwBig -/
/-! loop.example/g00222/spec.DrawSharesFor -/
/-! loop.example/g00222/impl.SharesFor -/
def a12 : Args cxT.ty ((Int × (List (Int × (Int × (Int × (Int × Bool))))) × (List (Int × (Int × (Int × (List Int)))))) × Int) := (Args.cons (Arg.agg (SArg.cons (LArg.int .i64) (SArg.cons (LArg.row 38) (SArg.one (LArg.row 36))))) (Args.one (Arg.leaf (LArg.int .i64))))
def n12 : (Int × (List (Int × Int))) → V cxT.ty := fun t => (.inl (.inr [(lv (.int .i64 t.1)), (ls { own := 2, nm := 0, e := 44, o := true, xs := t.2 })]))
def dd12 : (Int × (List (Int × Int))) := ((0 : Int), [])
abbrev c12 (m : ((Int × (List (Int × (Int × (Int × (Int × Bool))))) × (List (Int × (Int × (Int × (List Int)))))) × Int) → Option (Int × (List (Int × Int)))) := fnT (cx := cxT) a12 n12 dd12 m
theorem hs12 : ∀ t, noRoV (n12 t) = true ∨ noOwnV (n12 t) = true := fun _ => .inl rfl
/-! loop.example/g00222/spec.SharesFor -/
def a13 : Args cxT.ty ((Int × (List (Int × (Int × (Int × (Int × Bool))))) × (List (Int × (Int × (Int × (List Int)))))) × Int) := (Args.cons (Arg.agg (SArg.cons (LArg.int .i64) (SArg.cons (LArg.row 38) (SArg.one (LArg.row 36))))) (Args.one (Arg.leaf (LArg.int .i64))))
def n13 : (Int × (List (Int × Int))) → V cxT.ty := fun t => (.inl (.inr [(lv (.int .i64 t.1)), (ls { own := 2, nm := 0, e := 44, o := true, xs := t.2 })]))
def dd13 : (Int × (List (Int × Int))) := ((0 : Int), [])
abbrev c13 (m : ((Int × (List (Int × (Int × (Int × (Int × Bool))))) × (List (Int × (Int × (Int × (List Int)))))) × Int) → Option (Int × (List (Int × Int)))) := fnT (cx := cxT) a13 n13 dd13 m
theorem hs13 : ∀ t, noRoV (n13 t) = true ∨ noOwnV (n13 t) = true := fun _ => .inl rfl
/-! loop.example/g00222/impl.BackendAt -/
def a14 : Args cxT.ty ((Int × (List (Int × (Int × (Int × (Int × Bool))))) × (List (Int × (Int × (Int × (List Int)))))) × Int) := (Args.cons (Arg.agg (SArg.cons (LArg.int .i64) (SArg.cons (LArg.row 38) (SArg.one (LArg.row 36))))) (Args.one (Arg.leaf (LArg.int .i64))))
def n14 : (Int × Int × Int × Int × Int × Bool) → V cxT.ty := fun t => (.inl (.inr [(lv (.int .i64 t.1)), (lv (.int .i64 t.2.1)), (lv (.int .i64 t.2.2.1)), (lv (.int .i64 t.2.2.2.1)), (lv (.int .i64 t.2.2.2.2.1)), (lv (.bool t.2.2.2.2.2))]))
def dd14 : (Int × Int × Int × Int × Int × Bool) := ((0 : Int), (0 : Int), (0 : Int), (0 : Int), (0 : Int), false)
abbrev c14 (m : ((Int × (List (Int × (Int × (Int × (Int × Bool))))) × (List (Int × (Int × (Int × (List Int)))))) × Int) → Option (Int × Int × Int × Int × Int × Bool)) := fnT (cx := cxT) a14 n14 dd14 m
theorem hs14 : ∀ t, noRoV (n14 t) = true ∨ noOwnV (n14 t) = true := fun _ => .inl rfl
/-! loop.example/g00222/laws.lwHas -/
/-! loop.example/g00222/impl.SharesFault -/
/-! loop.example/g00222/laws.szConfig -/
def a17 : Args cxT.ty ((Int × (List (Int × (Int × (Int × (Int × Bool))))) × (List (Int × (Int × (Int × (List Int)))))) × Int) := (Args.cons (Arg.agg (SArg.cons (LArg.int .i64) (SArg.cons (LArg.row 129) (SArg.one (LArg.row 127))))) (Args.one (Arg.leaf (LArg.int .i64))))
def n17 : Int → V cxT.ty := fun t => (.inl (.inl (lv (.int .i64 t))))
def dd17 : Int := (0 : Int)
abbrev c17 (m : ((Int × (List (Int × (Int × (Int × (Int × Bool))))) × (List (Int × (Int × (Int × (List Int)))))) × Int) → Option Int) := fnT (cx := cxT) a17 n17 dd17 m
theorem hs17 : ∀ t, noRoV (n17 t) = true ∨ noOwnV (n17 t) = true := fun _ => .inl rfl
/-! loop.example/g00222/spec.ConfigFault -/
def a18 : Args cxT.ty (Int × (List (Int × (Int × (Int × (Int × Bool))))) × (List (Int × (Int × (Int × (List Int)))))) := (Args.one (Arg.agg (SArg.cons (LArg.int .i64) (SArg.cons (LArg.row 38) (SArg.one (LArg.row 36))))))
def n18 : Int → V cxT.ty := fun t => (.inl (.inl (lv (.int .i64 t))))
def dd18 : Int := (0 : Int)
abbrev c18 (m : (Int × (List (Int × (Int × (Int × (Int × Bool))))) × (List (Int × (Int × (Int × (List Int)))))) → Option Int) := fnT (cx := cxT) a18 n18 dd18 m
/-! loop.example/g00222/laws.toConfig -/
def a19 : Args cxT.ty (Int × (List (Int × (Int × (Int × (Int × Bool))))) × (List (Int × (Int × (Int × (List Int)))))) := (Args.one (Arg.agg (SArg.cons (LArg.int .i64) (SArg.cons (LArg.row 129) (SArg.one (LArg.row 127))))))
def n19 : (Int × (List (Int × (Int × (Int × (Int × Bool))))) × (List (Int × (Int × (Int × (List Int)))))) → V cxT.ty := fun t => (.inl (.inr [(lv (.int .i64 t.1)), (ls { own := 2, nm := 0, e := 38, o := true, xs := t.2.1 }), (ls { own := 2, nm := 0, e := 36, o := true, xs := t.2.2 })]))
def dd19 : (Int × (List (Int × (Int × (Int × (Int × Bool))))) × (List (Int × (Int × (Int × (List Int)))))) := ((0 : Int), [], [])
abbrev c19 (m : (Int × (List (Int × (Int × (Int × (Int × Bool))))) × (List (Int × (Int × (Int × (List Int)))))) → Option (Int × (List (Int × (Int × (Int × (Int × Bool))))) × (List (Int × (Int × (Int × (List Int))))))) := fnT (cx := cxT) a19 n19 dd19 m
theorem hs19 : ∀ t, noRoV (n19 t) = true ∨ noOwnV (n19 t) = true := fun _ => .inl rfl
/-! loop.example/g00222/impl.ConfigFault -/
def a20 : Args cxT.ty (Int × (List (Int × (Int × (Int × (Int × Bool))))) × (List (Int × (Int × (Int × (List Int)))))) := (Args.one (Arg.agg (SArg.cons (LArg.int .i64) (SArg.cons (LArg.row 38) (SArg.one (LArg.row 36))))))
def n20 : Int → V cxT.ty := fun t => (.inl (.inl (lv (.int .i64 t))))
def dd20 : Int := (0 : Int)
abbrev c20 (m : (Int × (List (Int × (Int × (Int × (Int × Bool))))) × (List (Int × (Int × (Int × (List Int)))))) → Option Int) := fnT (cx := cxT) a20 n20 dd20 m
theorem hs20 : ∀ t, noRoV (n20 t) = true ∨ noOwnV (n20 t) = true := fun _ => .inl rfl
/-! loop.example/g00222/laws.eqConfig -/
def a21 : Args cxT.ty ((Int × (List (Int × (Int × (Int × (Int × Bool))))) × (List (Int × (Int × (Int × (List Int)))))) × (Int × (List (Int × (Int × (Int × (Int × Bool))))) × (List (Int × (Int × (Int × (List Int))))))) := (Args.cons (Arg.agg (SArg.cons (LArg.int .i64) (SArg.cons (LArg.row 38) (SArg.one (LArg.row 36))))) (Args.one (Arg.agg (SArg.cons (LArg.int .i64) (SArg.cons (LArg.row 38) (SArg.one (LArg.row 36)))))))
def n21 : Bool → V cxT.ty := fun t => (.inl (.inl (lv (.bool t))))
def dd21 : Bool := false
abbrev c21 (m : ((Int × (List (Int × (Int × (Int × (Int × Bool))))) × (List (Int × (Int × (Int × (List Int)))))) × (Int × (List (Int × (Int × (Int × (Int × Bool))))) × (List (Int × (Int × (Int × (List Int))))))) → Option Bool) := fnT (cx := cxT) a21 n21 dd21 m
theorem hs21 : ∀ t, noRoV (n21 t) = true ∨ noOwnV (n21 t) = true := fun _ => .inl rfl
/-! loop.example/g00222/spec.CmdFault -/
/-! loop.example/g00222/laws.toCmd -/
/-! loop.example/g00222/impl.CmdFault -/
/-! loop.example/g00222/spec.BackendAt -/
/-! loop.example/g00222/laws.eqBackendResult -/
/-! loop.example/g00222/spec.VipFor -/
/-! loop.example/g00222/laws.toFlow -/
/-! loop.example/g00222/impl.VipFor -/
/-! loop.example/g00222/laws.eqIntResult -/
/-! loop.example/g00222/laws.eqSharesResult -/
def a31 : Args cxT.ty ((Int × (List (Int × Int))) × (Int × (List (Int × Int)))) := (Args.cons (Arg.agg (SArg.cons (LArg.int .i64) (SArg.one (LArg.row 44)))) (Args.one (Arg.agg (SArg.cons (LArg.int .i64) (SArg.one (LArg.row 44))))))
def n31 : Bool → V cxT.ty := fun t => (.inl (.inl (lv (.bool t))))
def dd31 : Bool := false
abbrev c31 (m : ((Int × (List (Int × Int))) × (Int × (List (Int × Int)))) → Option Bool) := fnT (cx := cxT) a31 n31 dd31 m
theorem hs31 : ∀ t, noRoV (n31 t) = true ∨ noOwnV (n31 t) = true := fun _ => .inl rfl
/-! loop.example/g00222/laws.markConfig -/
def a32 : Args cxT.ty ((Int × (List (Int × (Int × (Int × (Int × Bool))))) × (List (Int × (Int × (Int × (List Int)))))) × Int) := (Args.cons (Arg.agg (SArg.cons (LArg.int .i64) (SArg.cons (LArg.own 38) (SArg.one (LArg.own 36))))) (Args.one (Arg.leaf (LArg.int .i64))))
def n32 : (Int × Int × (List (Int × (Int × (Int × (Int × Bool))))) × (List (Int × (Int × (Int × (List Int)))))) → List (A cxT.ty) := fun t => [(.inl (lv (.int .i64 t.1))), (.inr [(lv (.int .i64 t.2.1)), (ls { own := 2, nm := 0, e := 38, o := true, xs := t.2.2.1 }), (ls { own := 2, nm := 0, e := 36, o := true, xs := t.2.2.2 })])]
def dd32 : (Int × Int × (List (Int × (Int × (Int × (Int × Bool))))) × (List (Int × (Int × (Int × (List Int)))))) := ((0 : Int), (0 : Int), [], [])
abbrev c32 (m : ((Int × (List (Int × (Int × (Int × (Int × Bool))))) × (List (Int × (Int × (Int × (List Int)))))) × Int) → Option (Int × Int × (List (Int × (Int × (Int × (Int × Bool))))) × (List (Int × (Int × (Int × (List Int))))))) : WFn cxT := { nres := 1, n := 1, F := fnW (cx := cxT) a32 n32 dd32 m, p := 4 }
theorem hs32 : ∀ t, noRoV (.inr (.inl (n32 t)) : V cxT.ty) = true := fun _ => rfl
/-! loop.example/g00222/laws.markSharesResult -/
def a33 : Args cxT.ty ((Int × (List (Int × Int))) × Int) := (Args.cons (Arg.agg (SArg.cons (LArg.int .i64) (SArg.one (LArg.own 44)))) (Args.one (Arg.leaf (LArg.int .i64))))
def n33 : (Int × Int × (List (Int × Int))) → List (A cxT.ty) := fun t => [(.inl (lv (.int .i64 t.1))), (.inr [(lv (.int .i64 t.2.1)), (ls { own := 2, nm := 0, e := 44, o := true, xs := t.2.2 })])]
def dd33 : (Int × Int × (List (Int × Int))) := ((0 : Int), (0 : Int), [])
abbrev c33 (m : ((Int × (List (Int × Int))) × Int) → Option (Int × Int × (List (Int × Int)))) : WFn cxT := { nres := 1, n := 1, F := fnW (cx := cxT) a33 n33 dd33 m }
theorem hs33 : ∀ t, noRoV (.inr (.inl (n33 t)) : V cxT.ty) = true := fun _ => rfl
/-! loop.example/g00222/laws.heldSharesResult -/
def a34 : Args cxT.ty ((Int × (List (Int × Int))) × Int) := (Args.cons (Arg.agg (SArg.cons (LArg.int .i64) (SArg.one (LArg.row 44)))) (Args.one (Arg.leaf (LArg.int .i64))))
def n34 : Int → V cxT.ty := fun t => (.inl (.inl (lv (.int .i64 t))))
def dd34 : Int := (0 : Int)
abbrev c34 (m : ((Int × (List (Int × Int))) × Int) → Option Int) := fnT (cx := cxT) a34 n34 dd34 m
theorem hs34 : ∀ t, noRoV (n34 t) = true ∨ noOwnV (n34 t) = true := fun _ => .inl rfl
/-! loop.example/g00222/spec.SameConfigs -/
/-! loop.example/g00222/impl.SameConfigs -/
/-! loop.example/g00222/spec.l1Source -/
/-! loop.example/g00222/spec.l5Bent -/
/-! loop.example/g00222/spec.l1Pick -/
/-! loop.example/g00222/spec.l5Fault -/
def a40 : Args cxT.ty (Int × ((List (Int × (Int × (Int × (Int × Bool))))) × (List (Int × (Int × (Int × (List Int))))))) := (Args.one (Arg.leaf (LArg.ptr 27)))
def n40 : Int → V cxT.ty := fun t => (.inl (.inl (lv (.int .i64 t))))
def dd40 : Int := (0 : Int)
abbrev c40 (m : (Int × ((List (Int × (Int × (Int × (Int × Bool))))) × (List (Int × (Int × (Int × (List Int))))))) → Option Int) := fnT (cx := cxT) a40 n40 dd40 m
theorem hs40 : ∀ t, noRoV (n40 t) = true ∨ noOwnV (n40 t) = true := fun _ => .inl rfl
/-! loop.example/g00222/spec.l1In -/
def a41 : Args cxT.ty (Int × Int × Int) := (Args.cons (Arg.leaf (LArg.int .i64)) (Args.cons (Arg.leaf (LArg.int .i64)) (Args.one (Arg.leaf (LArg.int .i64)))))
def n41 : Bool → V cxT.ty := fun t => (.inl (.inl (lv (.bool t))))
def dd41 : Bool := false
abbrev c41 (m : (Int × Int × Int) → Option Bool) := fnT (cx := cxT) a41 n41 dd41 m
theorem hs41 : ∀ t, noRoV (n41 t) = true ∨ noOwnV (n41 t) = true := fun _ => .inl rfl
/-! loop.example/g00222/spec.l5Shares -/
def a42 : Args cxT.ty ((Int × ((List (Int × (Int × (Int × (Int × Bool))))) × (List (Int × (Int × (Int × (List Int))))))) × Int) := (Args.cons (Arg.leaf (LArg.ptr 27)) (Args.one (Arg.leaf (LArg.int .i64))))
def n42 : (List (Int × Int)) → V cxT.ty := fun t => (.inl (.inl (ls { own := 2, nm := 0, e := 44, o := true, xs := t })))
def dd42 : (List (Int × Int)) := []
abbrev c42 (m : ((Int × ((List (Int × (Int × (Int × (Int × Bool))))) × (List (Int × (Int × (Int × (List Int))))))) × Int) → Option (List (Int × Int))) := fnT (cx := cxT) a42 n42 dd42 m
theorem hs42 : ∀ t, noRoV (n42 t) = true ∨ noOwnV (n42 t) = true := fun _ => .inl rfl
/-! loop.example/g00222/impl.backendPlace -/
def a43 : Args cxT.ty ((List (Int × (Int × (Int × (Int × Bool))))) × Int) := (Args.cons (Arg.leaf (LArg.row 38)) (Args.one (Arg.leaf (LArg.int .i64))))
def n43 : (Int × Bool) → V cxT.ty := fun t => (.inr (.inl [(.inl (lv (.int .i64 t.1))), (.inl (lv (.bool t.2)))]))
def dd43 : (Int × Bool) := ((0 : Int), false)
abbrev c43 (m : ((List (Int × (Int × (Int × (Int × Bool))))) × Int) → Option (Int × Bool)) := fnT (cx := cxT) a43 n43 dd43 m
theorem hs43 : ∀ t, noRoV (n43 t) = true ∨ noOwnV (n43 t) = true := fun _ => .inl rfl
/-! loop.example/g00222/impl.isName -/
def a44 : Args cxT.ty Int := (Args.one (Arg.leaf (LArg.int .i64)))
def n44 : Bool → V cxT.ty := fun t => (.inl (.inl (lv (.bool t))))
def dd44 : Bool := false
abbrev c44 (m : Int → Option Bool) := fnT (cx := cxT) a44 n44 dd44 m
theorem hs44 : ∀ t, noRoV (n44 t) = true ∨ noOwnV (n44 t) = true := fun _ => .inl rfl
/-! loop.example/g00222/impl.isWeight -/
def a45 : Args cxT.ty Int := (Args.one (Arg.leaf (LArg.int .i64)))
def n45 : Bool → V cxT.ty := fun t => (.inl (.inl (lv (.bool t))))
def dd45 : Bool := false
abbrev c45 (m : Int → Option Bool) := fnT (cx := cxT) a45 n45 dd45 m
theorem hs45 : ∀ t, noRoV (n45 t) = true ∨ noOwnV (n45 t) = true := fun _ => .inl rfl
/-! loop.example/g00222/laws.szBackendS -/
def a46 : Args cxT.ty ((List (Int × (Int × (Int × (Int × Bool))))) × Int) := (Args.cons (Arg.leaf (LArg.row 129)) (Args.one (Arg.leaf (LArg.int .i64))))
def n46 : Int → V cxT.ty := fun t => (.inl (.inl (lv (.int .i64 t))))
def dd46 : Int := (0 : Int)
abbrev c46 (m : ((List (Int × (Int × (Int × (Int × Bool))))) × Int) → Option Int) := fnT (cx := cxT) a46 n46 dd46 m
theorem hs46 : ∀ t, noRoV (n46 t) = true ∨ noOwnV (n46 t) = true := fun _ => .inl rfl
/-! loop.example/g00222/laws.szVipS -/
def a47 : Args cxT.ty ((List (Int × (Int × (Int × (List Int))))) × Int) := (Args.cons (Arg.leaf (LArg.row 127)) (Args.one (Arg.leaf (LArg.int .i64))))
def n47 : Int → V cxT.ty := fun t => (.inl (.inl (lv (.int .i64 t))))
def dd47 : Int := (0 : Int)
abbrev c47 (m : ((List (Int × (Int × (Int × (List Int))))) × Int) → Option Int) := fnT (cx := cxT) a47 n47 dd47 m
theorem hs47 : ∀ t, noRoV (n47 t) = true ∨ noOwnV (n47 t) = true := fun _ => .inl rfl
/-! loop.example/g00222/laws.toBackendS -/
def a48 : Args cxT.ty (List (Int × (Int × (Int × (Int × Bool))))) := (Args.one (Arg.leaf (LArg.row 129)))
def n48 : (List (Int × (Int × (Int × (Int × Bool))))) → V cxT.ty := fun t => (.inl (.inl (ls { own := 2, nm := 0, e := 38, o := true, xs := t })))
def dd48 : (List (Int × (Int × (Int × (Int × Bool))))) := []
abbrev c48 (m : (List (Int × (Int × (Int × (Int × Bool))))) → Option (List (Int × (Int × (Int × (Int × Bool)))))) := fnT (cx := cxT) a48 n48 dd48 m
theorem hs48 : ∀ t, noRoV (n48 t) = true ∨ noOwnV (n48 t) = true := fun _ => .inl rfl
/-! loop.example/g00222/laws.toVipS -/
def a49 : Args cxT.ty (List (Int × (Int × (Int × (List Int))))) := (Args.one (Arg.leaf (LArg.row 127)))
def n49 : (List (Int × (Int × (Int × (List Int))))) → V cxT.ty := fun t => (.inl (.inl (ls { own := 2, nm := 0, e := 36, o := true, xs := t })))
def dd49 : (List (Int × (Int × (Int × (List Int))))) := []
abbrev c49 (m : (List (Int × (Int × (Int × (List Int))))) → Option (List (Int × (Int × (Int × (List Int)))))) := fnT (cx := cxT) a49 n49 dd49 m
theorem hs49 : ∀ t, noRoV (n49 t) = true ∨ noOwnV (n49 t) = true := fun _ => .inl rfl
/-! loop.example/g00222/impl.isVersion -/
def a50 : Args cxT.ty Int := (Args.one (Arg.leaf (LArg.int .i64)))
def n50 : Bool → V cxT.ty := fun t => (.inl (.inl (lv (.bool t))))
def dd50 : Bool := false
abbrev c50 (m : Int → Option Bool) := fnT (cx := cxT) a50 n50 dd50 m
theorem hs50 : ∀ t, noRoV (n50 t) = true ∨ noOwnV (n50 t) = true := fun _ => .inl rfl
/-! loop.example/g00222/impl.isBackend -/
def a51 : Args cxT.ty (Int × Int × Int × Int × Bool) := (Args.one (Arg.agg (SArg.cons (LArg.int .i64) (SArg.cons (LArg.int .i64) (SArg.cons (LArg.int .i64) (SArg.cons (LArg.int .i64) (SArg.one LArg.bool)))))))
def n51 : Bool → V cxT.ty := fun t => (.inl (.inl (lv (.bool t))))
def dd51 : Bool := false
abbrev c51 (m : (Int × Int × Int × Int × Bool) → Option Bool) := fnT (cx := cxT) a51 n51 dd51 m
theorem hs51 : ∀ t, noRoV (n51 t) = true ∨ noOwnV (n51 t) = true := fun _ => .inl rfl
/-! loop.example/g00222/impl.isServed -/
def a52 : Args cxT.ty (Int × Int × Int × (List Int)) := (Args.one (Arg.agg (SArg.cons (LArg.int .i64) (SArg.cons (LArg.int .i64) (SArg.cons (LArg.int .i64) (SArg.one (LArg.row 2)))))))
def n52 : Bool → V cxT.ty := fun t => (.inl (.inl (lv (.bool t))))
def dd52 : Bool := false
abbrev c52 (m : (Int × Int × Int × (List Int)) → Option Bool) := fnT (cx := cxT) a52 n52 dd52 m
theorem hs52 : ∀ t, noRoV (n52 t) = true ∨ noOwnV (n52 t) = true := fun _ => .inl rfl
/-! loop.example/g00222/impl.compareVips -/
def a53 : Args cxT.ty ((Int × Int × Int × (List Int)) × (Int × Int × Int × (List Int))) := (Args.cons (Arg.agg (SArg.cons (LArg.int .i64) (SArg.cons (LArg.int .i64) (SArg.cons (LArg.int .i64) (SArg.one (LArg.row 2)))))) (Args.one (Arg.agg (SArg.cons (LArg.int .i64) (SArg.cons (LArg.int .i64) (SArg.cons (LArg.int .i64) (SArg.one (LArg.row 2))))))))
def n53 : Int → V cxT.ty := fun t => (.inl (.inl (lv (.int .i64 t))))
def dd53 : Int := (0 : Int)
abbrev c53 (m : ((Int × Int × Int × (List Int)) × (Int × Int × Int × (List Int))) → Option Int) := fnT (cx := cxT) a53 n53 dd53 m
theorem hs53 : ∀ t, noRoV (n53 t) = true ∨ noOwnV (n53 t) = true := fun _ => .inl rfl
/-! loop.example/g00222/impl.namesFault -/
def a54 : Args cxT.ty ((List Int) × (List (Int × (Int × (Int × (Int × Bool)))))) := (Args.cons (Arg.leaf (LArg.row 2)) (Args.one (Arg.leaf (LArg.row 38))))
def n54 : Int → V cxT.ty := fun t => (.inl (.inl (lv (.int .i64 t))))
def dd54 : Int := (0 : Int)
abbrev c54 (m : ((List Int) × (List (Int × (Int × (Int × (Int × Bool)))))) → Option Int) := fnT (cx := cxT) a54 n54 dd54 m
theorem hs54 : ∀ t, noRoV (n54 t) = true ∨ noOwnV (n54 t) = true := fun _ => .inl rfl
/-! loop.example/g00222/laws.eqBackendS -/
def a55 : Args cxT.ty ((List (Int × (Int × (Int × (Int × Bool))))) × (List (Int × (Int × (Int × (Int × Bool)))))) := (Args.cons (Arg.leaf (LArg.row 38)) (Args.one (Arg.leaf (LArg.row 38))))
def n55 : Bool → V cxT.ty := fun t => (.inl (.inl (lv (.bool t))))
def dd55 : Bool := false
abbrev c55 (m : ((List (Int × (Int × (Int × (Int × Bool))))) × (List (Int × (Int × (Int × (Int × Bool)))))) → Option Bool) := fnT (cx := cxT) a55 n55 dd55 m
theorem hs55 : ∀ t, noRoV (n55 t) = true ∨ noOwnV (n55 t) = true := fun _ => .inl rfl
/-! loop.example/g00222/laws.eqVipS -/
def a56 : Args cxT.ty ((List (Int × (Int × (Int × (List Int))))) × (List (Int × (Int × (Int × (List Int)))))) := (Args.cons (Arg.leaf (LArg.row 36)) (Args.one (Arg.leaf (LArg.row 36))))
def n56 : Bool → V cxT.ty := fun t => (.inl (.inl (lv (.bool t))))
def dd56 : Bool := false
abbrev c56 (m : ((List (Int × (Int × (Int × (List Int))))) × (List (Int × (Int × (Int × (List Int)))))) → Option Bool) := fnT (cx := cxT) a56 n56 dd56 m
theorem hs56 : ∀ t, noRoV (n56 t) = true ∨ noOwnV (n56 t) = true := fun _ => .inl rfl
/-! loop.example/g00222/spec.l5Needs -/
/-! loop.example/g00222/spec.l5Version -/
def a58 : Args cxT.ty Int := (Args.one (Arg.leaf (LArg.int .i64)))
def n58 : Bool → V cxT.ty := fun t => (.inl (.inl (lv (.bool t))))
def dd58 : Bool := false
abbrev c58 (m : Int → Option Bool) := fnT (cx := cxT) a58 n58 dd58 m
theorem hs58 : ∀ t, noRoV (n58 t) = true ∨ noOwnV (n58 t) = true := fun _ => .inl rfl
/-! loop.example/g00222/spec.l3Name -/
def a59 : Args cxT.ty Int := (Args.one (Arg.leaf (LArg.int .i64)))
def n59 : Bool → V cxT.ty := fun t => (.inl (.inl (lv (.bool t))))
def dd59 : Bool := false
abbrev c59 (m : Int → Option Bool) := fnT (cx := cxT) a59 n59 dd59 m
theorem hs59 : ∀ t, noRoV (n59 t) = true ∨ noOwnV (n59 t) = true := fun _ => .inl rfl
/-! loop.example/g00222/spec.l2Address -/
def a60 : Args cxT.ty Int := (Args.one (Arg.leaf (LArg.int .i64)))
def n60 : Bool → V cxT.ty := fun t => (.inl (.inl (lv (.bool t))))
def dd60 : Bool := false
abbrev c60 (m : Int → Option Bool) := fnT (cx := cxT) a60 n60 dd60 m
theorem hs60 : ∀ t, noRoV (n60 t) = true ∨ noOwnV (n60 t) = true := fun _ => .inl rfl
/-! loop.example/g00222/spec.l5Number -/
/-! loop.example/g00222/spec.l5Proto -/
def a62 : Args cxT.ty Int := (Args.one (Arg.leaf (LArg.int .i64)))
def n62 : Bool → V cxT.ty := fun t => (.inl (.inl (lv (.bool t))))
def dd62 : Bool := false
abbrev c62 (m : Int → Option Bool) := fnT (cx := cxT) a62 n62 dd62 m
theorem hs62 : ∀ t, noRoV (n62 t) = true ∨ noOwnV (n62 t) = true := fun _ => .inl rfl
/-! loop.example/g00222/spec.l5At -/
def a64 : Args cxT.ty ((Int × ((List (Int × (Int × (Int × (Int × Bool))))) × (List (Int × (Int × (Int × (List Int))))))) × Int) := (Args.cons (Arg.leaf (LArg.ptr 27)) (Args.one (Arg.leaf (LArg.int .i64))))
def n64 : Int → V cxT.ty := fun t => (.inl (.inl (lv (.int .i64 t))))
def dd64 : Int := (0 : Int)
abbrev c64 (m : ((Int × ((List (Int × (Int × (Int × (Int × Bool))))) × (List (Int × (Int × (Int × (List Int))))))) × Int) → Option Int) := fnT (cx := cxT) a64 n64 dd64 m
theorem hs64 : ∀ t, noRoV (n64 t) = true ∨ noOwnV (n64 t) = true := fun _ => .inl rfl
/-! loop.example/g00222/laws.eqBackend -/
def a65 : Args cxT.ty ((Int × Int × Int × Int × Bool) × (Int × Int × Int × Int × Bool)) := (Args.cons (Arg.agg (SArg.cons (LArg.int .i64) (SArg.cons (LArg.int .i64) (SArg.cons (LArg.int .i64) (SArg.cons (LArg.int .i64) (SArg.one LArg.bool)))))) (Args.one (Arg.agg (SArg.cons (LArg.int .i64) (SArg.cons (LArg.int .i64) (SArg.cons (LArg.int .i64) (SArg.cons (LArg.int .i64) (SArg.one LArg.bool))))))))
def n65 : Bool → V cxT.ty := fun t => (.inl (.inl (lv (.bool t))))
def dd65 : Bool := false
abbrev c65 (m : ((Int × Int × Int × Int × Bool) × (Int × Int × Int × Int × Bool)) → Option Bool) := fnT (cx := cxT) a65 n65 dd65 m
theorem hs65 : ∀ t, noRoV (n65 t) = true ∨ noOwnV (n65 t) = true := fun _ => .inl rfl
/-! loop.example/g00222/spec.l3Flow -/
/-! loop.example/g00222/spec.l5For -/
/-! loop.example/g00222/impl.flowFault -/
/-! loop.example/g00222/impl.vipPlace -/
/-! loop.example/g00222/laws.eqShareS -/
def a70 : Args cxT.ty ((List (Int × Int)) × (List (Int × Int))) := (Args.cons (Arg.leaf (LArg.row 44)) (Args.one (Arg.leaf (LArg.row 44))))
def n70 : Bool → V cxT.ty := fun t => (.inl (.inl (lv (.bool t))))
def dd70 : Bool := false
abbrev c70 (m : ((List (Int × Int)) × (List (Int × Int))) → Option Bool) := fnT (cx := cxT) a70 n70 dd70 m
theorem hs70 : ∀ t, noRoV (n70 t) = true ∨ noOwnV (n70 t) = true := fun _ => .inl rfl
/-! loop.example/g00222/laws.markBackendS -/
def a71 : Args cxT.ty ((List (Int × (Int × (Int × (Int × Bool))))) × Int) := (Args.cons (Arg.leaf (LArg.own 38)) (Args.one (Arg.leaf (LArg.int .i64))))
def n71 : (Int × (List (Int × (Int × (Int × (Int × Bool)))))) → List (A cxT.ty) := fun t => [(.inl (lv (.int .i64 t.1))), (.inl (ls { own := 2, nm := 0, e := 38, o := true, xs := t.2 }))]
def dd71 : (Int × (List (Int × (Int × (Int × (Int × Bool)))))) := ((0 : Int), [])
abbrev c71 (m : ((List (Int × (Int × (Int × (Int × Bool))))) × Int) → Option (Int × (List (Int × (Int × (Int × (Int × Bool))))))) : WFn cxT := { nres := 1, n := 1, F := fnW (cx := cxT) a71 n71 dd71 m }
theorem hs71 : ∀ t, noRoV (.inr (.inl (n71 t)) : V cxT.ty) = true := fun _ => rfl
/-! loop.example/g00222/laws.markVipS -/
def a72 : Args cxT.ty ((List (Int × (Int × (Int × (List Int))))) × Int) := (Args.cons (Arg.leaf (LArg.own 36)) (Args.one (Arg.leaf (LArg.int .i64))))
def n72 : (Int × (List (Int × (Int × (Int × (List Int)))))) → List (A cxT.ty) := fun t => [(.inl (lv (.int .i64 t.1))), (.inl (ls { own := 2, nm := 0, e := 36, o := true, xs := t.2 }))]
def dd72 : (Int × (List (Int × (Int × (Int × (List Int)))))) := ((0 : Int), [])
abbrev c72 (m : ((List (Int × (Int × (Int × (List Int))))) × Int) → Option (Int × (List (Int × (Int × (Int × (List Int))))))) : WFn cxT := { nres := 1, n := 1, F := fnW (cx := cxT) a72 n72 dd72 m, p := 4 }
theorem hs72 : ∀ t, noRoV (.inr (.inl (n72 t)) : V cxT.ty) = true := fun _ => rfl
/-! loop.example/g00222/laws.markShareS -/
def a73 : Args cxT.ty ((List (Int × Int)) × Int) := (Args.cons (Arg.leaf (LArg.own 44)) (Args.one (Arg.leaf (LArg.int .i64))))
def n73 : (Int × (List (Int × Int))) → List (A cxT.ty) := fun t => [(.inl (lv (.int .i64 t.1))), (.inl (ls { own := 2, nm := 0, e := 44, o := true, xs := t.2 }))]
def dd73 : (Int × (List (Int × Int))) := ((0 : Int), [])
abbrev c73 (m : ((List (Int × Int)) × Int) → Option (Int × (List (Int × Int)))) : WFn cxT := { nres := 1, n := 1, F := fnW (cx := cxT) a73 n73 dd73 m }
theorem hs73 : ∀ t, noRoV (.inr (.inl (n73 t)) : V cxT.ty) = true := fun _ => rfl
/-! loop.example/g00222/laws.heldShareS -/
def a74 : Args cxT.ty ((List (Int × Int)) × Int) := (Args.cons (Arg.leaf (LArg.row 44)) (Args.one (Arg.leaf (LArg.int .i64))))
def n74 : Int → V cxT.ty := fun t => (.inl (.inl (lv (.int .i64 t))))
def dd74 : Int := (0 : Int)
abbrev c74 (m : ((List (Int × Int)) × Int) → Option Int) := fnT (cx := cxT) a74 n74 dd74 m
theorem hs74 : ∀ t, noRoV (n74 t) = true ∨ noOwnV (n74 t) = true := fun _ => .inl rfl
/-! loop.example/g00222/spec.l5Nums -/
/-! slices.Equal[[]loop.example/g00222/impl.Backend,loop.example/g00222/impl.Backend] -/
/-! slices.EqualFunc[[]loop.example/g00222/impl.Vip,[]loop.example/g00222/impl.Vip,loop.example/g00222/impl.Vip,loop.example/g00222/impl.Vip] -/
/-! loop.example/g00222/impl.sameVip -/
/-! loop.example/g00222/spec.l5Right -/
/-! loop.example/g00222/spec.l1Next -/
/-! loop.example/g00222/spec.l5Backend -/
def a81 : Args cxT.ty (Int × Int × Int × Int × Bool) := (Args.one (Arg.agg (SArg.cons (LArg.int .i64) (SArg.cons (LArg.int .i64) (SArg.cons (LArg.int .i64) (SArg.cons (LArg.int .i64) (SArg.one LArg.bool)))))))
def n81 : Bool → V cxT.ty := fun t => (.inl (.inl (lv (.bool t))))
def dd81 : Bool := false
abbrev c81 (m : (Int × Int × Int × Int × Bool) → Option Bool) := fnT (cx := cxT) a81 n81 dd81 m
theorem hs81 : ∀ t, noRoV (n81 t) = true ∨ noOwnV (n81 t) = true := fun _ => .inl rfl
/-! loop.example/g00222/spec.l5Vip -/
def a82 : Args cxT.ty ((Int × ((List (Int × (Int × (Int × (Int × Bool))))) × (List (Int × (Int × (Int × (List Int))))))) × Int) := (Args.cons (Arg.leaf (LArg.ptr 27)) (Args.one (Arg.leaf (LArg.int .i64))))
def n82 : Int → V cxT.ty := fun t => (.inl (.inl (lv (.int .i64 t))))
def dd82 : Int := (0 : Int)
abbrev c82 (m : ((Int × ((List (Int × (Int × (Int × (Int × Bool))))) × (List (Int × (Int × (Int × (List Int))))))) × Int) → Option Int) := fnT (cx := cxT) a82 n82 dd82 m
theorem hs82 : ∀ t, noRoV (n82 t) = true ∨ noOwnV (n82 t) = true := fun _ => .inl rfl
/-! slices.BinarySearchFunc[[]loop.example/g00222/impl.Backend,loop.example/g00222/impl.Backend,int64] -/
def a83 : Args cxT.ty ((List (Int × (Int × (Int × (Int × Bool))))) × Int × Unit) := (Args.cons (Arg.leaf (LArg.row 38)) (Args.cons (Arg.leaf (LArg.int .i64)) (Args.one (Arg.leaf (LArg.fn 84)))))
def n83 : (Int × Bool) → V cxT.ty := fun t => (.inr (.inl [(.inl (lv (.int .i64 t.1))), (.inl (lv (.bool t.2)))]))
def dd83 : (Int × Bool) := ((0 : Int), false)
abbrev c83 (m : ((List (Int × (Int × (Int × (Int × Bool))))) × Int × Unit) → Option (Int × Bool)) := fnT (cx := cxT) a83 n83 dd83 m
theorem hs83 : ∀ t, noRoV (n83 t) = true ∨ noOwnV (n83 t) = true := fun _ => .inl rfl
/-! loop.example/g00222/impl.backendPlace$1 -/
def a84 : Args cxT.ty ((Int × Int × Int × Int × Bool) × Int) := (Args.cons (Arg.agg (SArg.cons (LArg.int .i64) (SArg.cons (LArg.int .i64) (SArg.cons (LArg.int .i64) (SArg.cons (LArg.int .i64) (SArg.one LArg.bool)))))) (Args.one (Arg.leaf (LArg.int .i64))))
def n84 : Int → V cxT.ty := fun t => (.inl (.inl (lv (.int .i64 t))))
def dd84 : Int := (0 : Int)
abbrev c84 (m : ((Int × Int × Int × Int × Bool) × Int) → Option Int) := fnT (cx := cxT) a84 n84 dd84 m
theorem hs84 : ∀ t, noRoV (n84 t) = true ∨ noOwnV (n84 t) = true := fun _ => .inl rfl
/-! cmp.Compare[int64] -/
def a85 : Args cxT.ty (Int × Int) := (Args.cons (Arg.leaf (LArg.int .i64)) (Args.one (Arg.leaf (LArg.int .i64))))
def n85 : Int → V cxT.ty := fun t => (.inl (.inl (lv (.int .i64 t))))
def dd85 : Int := (0 : Int)
abbrev c85 (m : (Int × Int) → Option Int) := fnT (cx := cxT) a85 n85 dd85 m
theorem hs85 : ∀ t, noRoV (n85 t) = true ∨ noOwnV (n85 t) = true := fun _ => .inl rfl
/-! loop.example/g00222/laws.szVip -/
def a86 : Args cxT.ty ((Int × Int × Int × (List Int)) × Int) := (Args.cons (Arg.agg (SArg.cons (LArg.int .i64) (SArg.cons (LArg.int .i64) (SArg.cons (LArg.int .i64) (SArg.one (LArg.row 2)))))) (Args.one (Arg.leaf (LArg.int .i64))))
def n86 : Int → V cxT.ty := fun t => (.inl (.inl (lv (.int .i64 t))))
def dd86 : Int := (0 : Int)
abbrev c86 (m : ((Int × Int × Int × (List Int)) × Int) → Option Int) := fnT (cx := cxT) a86 n86 dd86 m
theorem hs86 : ∀ t, noRoV (n86 t) = true ∨ noOwnV (n86 t) = true := fun _ => .inl rfl
/-! loop.example/g00222/laws.toBackend -/
def a87 : Args cxT.ty (Int × Int × Int × Int × Bool) := (Args.one (Arg.agg (SArg.cons (LArg.int .i64) (SArg.cons (LArg.int .i64) (SArg.cons (LArg.int .i64) (SArg.cons (LArg.int .i64) (SArg.one LArg.bool)))))))
def n87 : (Int × Int × Int × Int × Bool) → V cxT.ty := fun t => (.inl (.inr [(lv (.int .i64 t.1)), (lv (.int .i64 t.2.1)), (lv (.int .i64 t.2.2.1)), (lv (.int .i64 t.2.2.2.1)), (lv (.bool t.2.2.2.2))]))
def dd87 : (Int × Int × Int × Int × Bool) := ((0 : Int), (0 : Int), (0 : Int), (0 : Int), false)
abbrev c87 (m : (Int × Int × Int × Int × Bool) → Option (Int × Int × Int × Int × Bool)) := fnT (cx := cxT) a87 n87 dd87 m
theorem hs87 : ∀ t, noRoV (n87 t) = true ∨ noOwnV (n87 t) = true := fun _ => .inl rfl
/-! loop.example/g00222/laws.toVip -/
def a88 : Args cxT.ty (Int × Int × Int × (List Int)) := (Args.one (Arg.agg (SArg.cons (LArg.int .i64) (SArg.cons (LArg.int .i64) (SArg.cons (LArg.int .i64) (SArg.one (LArg.row 2)))))))
def n88 : (Int × Int × Int × (List Int)) → V cxT.ty := fun t => (.inl (.inr [(lv (.int .i64 t.1)), (lv (.int .i64 t.2.1)), (lv (.int .i64 t.2.2.1)), (ls { own := 2, nm := 0, e := 2, o := true, xs := t.2.2.2 })]))
def dd88 : (Int × Int × Int × (List Int)) := ((0 : Int), (0 : Int), (0 : Int), [])
abbrev c88 (m : (Int × Int × Int × (List Int)) → Option (Int × Int × Int × (List Int))) := fnT (cx := cxT) a88 n88 dd88 m
theorem hs88 : ∀ t, noRoV (n88 t) = true ∨ noOwnV (n88 t) = true := fun _ => .inl rfl
/-! loop.example/g00222/impl.isAddress -/
def a89 : Args cxT.ty Int := (Args.one (Arg.leaf (LArg.int .i64)))
def n89 : Bool → V cxT.ty := fun t => (.inl (.inl (lv (.bool t))))
def dd89 : Bool := false
abbrev c89 (m : Int → Option Bool) := fnT (cx := cxT) a89 n89 dd89 m
theorem hs89 : ∀ t, noRoV (n89 t) = true ∨ noOwnV (n89 t) = true := fun _ => .inl rfl
/-! loop.example/g00222/impl.isStage -/
def a90 : Args cxT.ty Int := (Args.one (Arg.leaf (LArg.int .i64)))
def n90 : Bool → V cxT.ty := fun t => (.inl (.inl (lv (.bool t))))
def dd90 : Bool := false
abbrev c90 (m : Int → Option Bool) := fnT (cx := cxT) a90 n90 dd90 m
theorem hs90 : ∀ t, noRoV (n90 t) = true ∨ noOwnV (n90 t) = true := fun _ => .inl rfl
/-! loop.example/g00222/impl.isPort -/
def a91 : Args cxT.ty Int := (Args.one (Arg.leaf (LArg.int .i64)))
def n91 : Bool → V cxT.ty := fun t => (.inl (.inl (lv (.bool t))))
def dd91 : Bool := false
abbrev c91 (m : Int → Option Bool) := fnT (cx := cxT) a91 n91 dd91 m
theorem hs91 : ∀ t, noRoV (n91 t) = true ∨ noOwnV (n91 t) = true := fun _ => .inl rfl
/-! loop.example/g00222/impl.isProto -/
def a92 : Args cxT.ty Int := (Args.one (Arg.leaf (LArg.int .i64)))
def n92 : Bool → V cxT.ty := fun t => (.inl (.inl (lv (.bool t))))
def dd92 : Bool := false
abbrev c92 (m : Int → Option Bool) := fnT (cx := cxT) a92 n92 dd92 m
theorem hs92 : ∀ t, noRoV (n92 t) = true ∨ noOwnV (n92 t) = true := fun _ => .inl rfl
/-! cmp.Or[int] -/
def a93 : Args cxT.ty (List Int) := (Args.one (Arg.leaf (LArg.row 3)))
def n93 : Int → V cxT.ty := fun t => (.inl (.inl (lv (.int .i64 t))))
def dd93 : Int := (0 : Int)
abbrev c93 (m : (List Int) → Option Int) := fnT (cx := cxT) a93 n93 dd93 m
theorem hs93 : ∀ t, noRoV (n93 t) = true ∨ noOwnV (n93 t) = true := fun _ => .inl rfl
/-! loop.example/g00222/laws.eqVip -/
def a94 : Args cxT.ty ((Int × Int × Int × (List Int)) × (Int × Int × Int × (List Int))) := (Args.cons (Arg.agg (SArg.cons (LArg.int .i64) (SArg.cons (LArg.int .i64) (SArg.cons (LArg.int .i64) (SArg.one (LArg.row 2)))))) (Args.one (Arg.agg (SArg.cons (LArg.int .i64) (SArg.cons (LArg.int .i64) (SArg.cons (LArg.int .i64) (SArg.one (LArg.row 2))))))))
def n94 : Bool → V cxT.ty := fun t => (.inl (.inl (lv (.bool t))))
def dd94 : Bool := false
abbrev c94 (m : ((Int × Int × Int × (List Int)) × (Int × Int × Int × (List Int))) → Option Bool) := fnT (cx := cxT) a94 n94 dd94 m
theorem hs94 : ∀ t, noRoV (n94 t) = true ∨ noOwnV (n94 t) = true := fun _ => .inl rfl
/-! loop.example/g00222/spec.l2Port -/
def a95 : Args cxT.ty Int := (Args.one (Arg.leaf (LArg.int .i64)))
def n95 : Bool → V cxT.ty := fun t => (.inl (.inl (lv (.bool t))))
def dd95 : Bool := false
abbrev c95 (m : Int → Option Bool) := fnT (cx := cxT) a95 n95 dd95 m
theorem hs95 : ∀ t, noRoV (n95 t) = true ∨ noOwnV (n95 t) = true := fun _ => .inl rfl
/-! loop.example/g00222/impl.isYesOrNo -/
/-! loop.example/g00222/impl.PacketFault -/
/-! slices.BinarySearchFunc[[]loop.example/g00222/impl.Vip,loop.example/g00222/impl.Vip,loop.example/g00222/impl.Vip] -/
/-! loop.example/g00222/laws.eqShare -/
def a108 : Args cxT.ty ((Int × Int) × (Int × Int)) := (Args.cons (Arg.agg (SArg.cons (LArg.int .i64) (SArg.one (LArg.int .i64)))) (Args.one (Arg.agg (SArg.cons (LArg.int .i64) (SArg.one (LArg.int .i64))))))
def n108 : Bool → V cxT.ty := fun t => (.inl (.inl (lv (.bool t))))
def dd108 : Bool := false
abbrev c108 (m : ((Int × Int) × (Int × Int)) → Option Bool) := fnT (cx := cxT) a108 n108 dd108 m
theorem hs108 : ∀ t, noRoV (n108 t) = true ∨ noOwnV (n108 t) = true := fun _ => .inl rfl
/-! loop.example/g00222/laws.markInt64S -/
def a109 : Args cxT.ty ((List Int) × Int) := (Args.cons (Arg.leaf (LArg.own 2)) (Args.one (Arg.leaf (LArg.int .i64))))
def n109 : (Int × (List Int)) → List (A cxT.ty) := fun t => [(.inl (lv (.int .i64 t.1))), (.inl (ls { own := 2, nm := 0, e := 2, o := true, xs := t.2 }))]
def dd109 : (Int × (List Int)) := ((0 : Int), [])
abbrev c109 (m : ((List Int) × Int) → Option (Int × (List Int))) : WFn cxT := { nres := 1, n := 1, F := fnW (cx := cxT) a109 n109 dd109 m }
theorem hs109 : ∀ t, noRoV (.inr (.inl (n109 t)) : V cxT.ty) = true := fun _ => rfl
/-! slices.Equal[[]int64,int64] -/
/-! loop.example/g00222/spec.l5Apply -/
/-! loop.example/g00222/spec.l5Cmd -/
/-! loop.example/g00222/spec.l5Behind -/
def a113 : Args cxT.ty ((Int × Int × Int × (List Int)) × (Int × Int × Int × (List Int))) := (Args.cons (Arg.agg (SArg.cons (LArg.int .i64) (SArg.cons (LArg.int .i64) (SArg.cons (LArg.int .i64) (SArg.one (LArg.row 2)))))) (Args.one (Arg.agg (SArg.cons (LArg.int .i64) (SArg.cons (LArg.int .i64) (SArg.cons (LArg.int .i64) (SArg.one (LArg.row 2))))))))
def n113 : Bool → V cxT.ty := fun t => (.inl (.inl (lv (.bool t))))
def dd113 : Bool := false
abbrev c113 (m : ((Int × Int × Int × (List Int)) × (Int × Int × Int × (List Int))) → Option Bool) := fnT (cx := cxT) a113 n113 dd113 m
theorem hs113 : ∀ t, noRoV (n113 t) = true ∨ noOwnV (n113 t) = true := fun _ => .inl rfl
/-! cmp.isNaN[int64] -/
def a114 : Args cxT.ty Int := (Args.one (Arg.leaf (LArg.int .i64)))
def n114 : Bool → V cxT.ty := fun t => (.inl (.inl (lv (.bool t))))
def dd114 : Bool := false
abbrev c114 (m : Int → Option Bool) := fnT (cx := cxT) a114 n114 dd114 m
theorem hs114 : ∀ t, noRoV (n114 t) = true ∨ noOwnV (n114 t) = true := fun _ => .inl rfl
/-! loop.example/g00222/laws.szInt64S -/
def a115 : Args cxT.ty ((List Int) × Int) := (Args.cons (Arg.leaf (LArg.row 2)) (Args.one (Arg.leaf (LArg.int .i64))))
def n115 : Int → V cxT.ty := fun t => (.inl (.inl (lv (.int .i64 t))))
def dd115 : Int := (0 : Int)
abbrev c115 (m : ((List Int) × Int) → Option Int) := fnT (cx := cxT) a115 n115 dd115 m
theorem hs115 : ∀ t, noRoV (n115 t) = true ∨ noOwnV (n115 t) = true := fun _ => .inl rfl
/-! loop.example/g00222/laws.toInt64S -/
def a116 : Args cxT.ty (List Int) := (Args.one (Arg.leaf (LArg.row 2)))
def n116 : (List Int) → V cxT.ty := fun t => (.inl (.inl (ls { own := 2, nm := 0, e := 2, o := true, xs := t })))
def dd116 : (List Int) := []
abbrev c116 (m : (List Int) → Option (List Int)) := fnT (cx := cxT) a116 n116 dd116 m
theorem hs116 : ∀ t, noRoV (n116 t) = true ∨ noOwnV (n116 t) = true := fun _ => .inl rfl
/-! loop.example/g00222/laws.eqInt64S -/
def a117 : Args cxT.ty ((List Int) × (List Int)) := (Args.cons (Arg.leaf (LArg.row 2)) (Args.one (Arg.leaf (LArg.row 2))))
def n117 : Bool → V cxT.ty := fun t => (.inl (.inl (lv (.bool t))))
def dd117 : Bool := false
abbrev c117 (m : ((List Int) × (List Int)) → Option Bool) := fnT (cx := cxT) a117 n117 dd117 m
theorem hs117 : ∀ t, noRoV (n117 t) = true ∨ noOwnV (n117 t) = true := fun _ => .inl rfl
/-! slices.Insert[[]loop.example/g00222/impl.Backend,loop.example/g00222/impl.Backend] -/
/-! slices.Contains[[]int64,int64] -/
/-! slices.Delete[[]loop.example/g00222/impl.Backend,loop.example/g00222/impl.Backend] -/
/-! slices.Insert[[]loop.example/g00222/impl.Vip,loop.example/g00222/impl.Vip] -/
/-! slices.Delete[[]loop.example/g00222/impl.Vip,loop.example/g00222/impl.Vip] -/
/-! slices.BinarySearch[[]int64,int64] -/
/-! slices.Insert[[]int64,int64] -/
/-! slices.Delete[[]int64,int64] -/
/-! loop.example/g00222/spec.l5Copy -/
/-! loop.example/g00222/spec.l5TurnVip -/
/-! loop.example/g00222/spec.l5Turn -/
/-! loop.example/g00222/spec.l1Chance -/
/-! slices.overlaps[loop.example/g00222/impl.Backend] -/
/-! slices.rotateRight[loop.example/g00222/impl.Backend] -/
/-! slices.Index[[]int64,int64] -/
/-! slices.overlaps[loop.example/g00222/impl.Vip] -/
/-! slices.rotateRight[loop.example/g00222/impl.Vip] -/
/-! cmp.Less[int64] -/
/-! slices.isNaN[int64] -/
/-! slices.overlaps[int64] -/
/-! slices.rotateRight[int64] -/
/-! loop.example/g00222/spec.l5Find -/
/-! loop.example/g00222/spec.l1Has -/
/-! loop.example/g00222/spec.l1Rise -/
/-! loop.example/g00222/spec.l5Serves -/
/-! slices.rotateLeft[loop.example/g00222/impl.Backend] -/
/-! slices.rotateLeft[loop.example/g00222/impl.Vip] -/
/-! slices.rotateLeft[int64] -/
/-! slices.Reverse[[]loop.example/g00222/impl.Backend,loop.example/g00222/impl.Backend] -/
/-! slices.Reverse[[]loop.example/g00222/impl.Vip,loop.example/g00222/impl.Vip] -/
/-! slices.Reverse[[]int64,int64] -/
end Go.Proofs.Try
