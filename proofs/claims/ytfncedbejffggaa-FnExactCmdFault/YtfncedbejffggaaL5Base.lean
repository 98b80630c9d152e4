/- A part of the proof of FnExactCmdFault: L5Base, L5Con. -/
import Derived.Test.YtfncedbejffggaaVmJ
import Derived.Test.YtfncedbejffggaaProg
namespace Go.Proofs.Try
open Go Go.VM Go.RowKit

abbrev Bk := Int × Int × Int × Int × Bool
abbrev Vp := Int × Int × Int × List Int
def tyT (e : Nat) : Type := if e = 2 then Int else if e = 3 then Int else if e = 5 then Int else if e = 38 then Bk else if e = 36 then Vp else if e = 44 then Int × Int else if e = 129 then Bk else if e = 127 then Vp else if e = 49 then Int × List Bk × List Vp else if e = 27 then Int × List Bk × List Vp else Unit
def inhT (e : Nat) : tyT e := by
  unfold tyT
  repeat' split
  all_goals first | exact (0 : Int) | exact ((0, 0) : Int × Int) | exact ((0, 0, 0, 0, false) : Bk) | exact ((0, 0, 0, []) : Vp) | exact ((0, [], []) : Int × List Bk × List Vp) | exact ()
def cd2 : Cd tyT (tyT 2) := cdInt .i64
def cd3 : Cd tyT (tyT 3) := cdInt .i64
def cd5 : Cd tyT (tyT 5) := cdInt .u8
def cdBk : Cd tyT Bk := cdPair (cdInt .i64) (cdPair (cdInt .i64) (cdPair (cdInt .i64) (cdPair (cdInt .i64) cdBool)))
def cdVp : Cd tyT Vp := cdPair (cdInt .i64) (cdPair (cdInt .i64) (cdPair (cdInt .i64) (cdRow 2)))
def cd38 : Cd tyT (tyT 38) := cdBk
def cd36 : Cd tyT (tyT 36) := cdVp
def cd44 : Cd tyT (tyT 44) := cdPair (cdInt .i64) (cdInt .i64)
def cd129 : Cd tyT (tyT 129) := cdBk
def cd127 : Cd tyT (tyT 127) := cdVp
def cd49 : Cd tyT (tyT 49) := cdPair (cdInt .i64) (cdPair (cdRow 129) (cdRow 127))
def cd27 : Cd tyT (tyT 27) := cdPair (cdInt .i64) (cdPair (cdRow 38) (cdRow 36))
def cdT (e : Nat) : Cd tyT (tyT e) :=
  if h : e = 2 then h.symm ▸ cd2 else if h : e = 3 then h.symm ▸ cd3 else if h : e = 5 then h.symm ▸ cd5 else if h : e = 38 then h.symm ▸ cd38 else if h : e = 36 then h.symm ▸ cd36 else if h : e = 44 then h.symm ▸ cd44 else if h : e = 129 then h.symm ▸ cd129 else if h : e = 127 then h.symm ▸ cd127 else if h : e = 49 then h.symm ▸ cd49 else if h : e = 27 then h.symm ▸ cd27 else cdNone (inhT e)
def cxT : Cx := Cx.of cdT
theorem cxT_ok : cxT.Ok := Cx.of_ok cdT
set_option maxRecDepth 100000 in
theorem dom_cases {e : Nat} (h : (cdT e).dom = true) : e = 2 ∨ e = 3 ∨ e = 5 ∨ e = 38 ∨ e = 44 ∨ e = 129 := by
  by_cases h1 : e = 2
  · exact .inl h1
  by_cases h2 : e = 3
  · exact .inr (.inl h2)
  by_cases h3 : e = 5
  · exact .inr (.inr (.inl h3))
  by_cases h4 : e = 38
  · exact .inr (.inr (.inr (.inl h4)))
  by_cases h5 : e = 36
  · subst h5; exact absurd h (by intro hh; cases (show false = true from hh))
  by_cases h6 : e = 44
  · exact .inr (.inr (.inr (.inr (.inl h6))))
  by_cases h7 : e = 129
  · exact .inr (.inr (.inr (.inr (.inr h7))))
  by_cases h8 : e = 127
  · subst h8; exact absurd h (by intro hh; cases (show false = true from hh))
  by_cases h9 : e = 49
  · subst h9; exact absurd h (by intro hh; cases (show false = true from hh))
  by_cases h10 : e = 27
  · subst h10; exact absurd h (by intro hh; cases (show false = true from hh))
  · unfold cdT at h; rw [dif_neg h1, dif_neg h2, dif_neg h3, dif_neg h4, dif_neg h5, dif_neg h6, dif_neg h7, dif_neg h8, dif_neg h9, dif_neg h10] at h; exact Bool.noConfusion h

set_option maxRecDepth 100000 in
theorem cxT_pok : cxT.POk prog := by
  refine ⟨fun e he => ?_, fun e he hu o x => ?_⟩
  · rcases dom_cases he with rfl | rfl | rfl | rfl | rfl | rfl <;>
    exact ⟨_, _, rfl, rfl, rfl, by decide, rfl, by decide, rfl⟩
  · rcases dom_cases he with rfl | rfl | rfl | rfl | rfl | rfl
    · rw [underlying2] at hu; cases hu
    · rw [show prog.underlying 3 = _ from rfl] at hu; cases hu
    · exact ⟨x, rfl⟩
    · rw [show prog.underlying 38 = _ from rfl] at hu; cases hu
    · rw [show prog.underlying 44 = _ from rfl] at hu; cases hu
    · rw [show prog.underlying 129 = _ from rfl] at hu; cases hu
end Go.Proofs.Try

set_option linter.unusedVariables false
namespace Go.Proofs.Try
open Go Go.VM Go.RowKit
/-! loop.example/g00222/laws.FnDrained -/
def a3 : Args cxT.ty (List Int) := (Args.one (Arg.leaf (LArg.row 5)))
def n3 : Bool → V cxT.ty := fun t => (.inl (.inl (lv (.bool t))))
def dd3 : Bool := false
abbrev c3 (m : (List Int) → Option Bool) := fnT (cx := cxT) a3 n3 dd3 m
theorem hs3 : ∀ t, noRoV (n3 t) = true ∨ noOwnV (n3 t) = true := fun _ => .inl rfl
/-! loop.example/g00222/laws.FnExactConfigFault -/
def a4 : Args cxT.ty (Int × (List (Int × (Int × (Int × (Int × Bool))))) × (List (Int × (Int × (Int × (List Int)))))) := (Args.one (Arg.agg (SArg.cons (LArg.int .i64) (SArg.cons (LArg.row 129) (SArg.one (LArg.row 127))))))
def n4 : Bool → V cxT.ty := fun t => (.inl (.inl (lv (.bool t))))
def dd4 : Bool := false
abbrev c4 (m : (Int × (List (Int × (Int × (Int × (Int × Bool))))) × (List (Int × (Int × (Int × (List Int)))))) → Option Bool) := fnT (cx := cxT) a4 n4 dd4 m
/-! loop.example/g00222/laws.FnExactCmdFault -/
def a5 : Args cxT.ty (Int × Int × Int × Int × Int × Int) := (Args.one (Arg.agg (SArg.cons (LArg.int .i64) (SArg.cons (LArg.int .i64) (SArg.cons (LArg.int .i64) (SArg.cons (LArg.int .i64) (SArg.cons (LArg.int .i64) (SArg.one (LArg.int .i64)))))))))
def n5 : Bool → V cxT.ty := fun t => (.inl (.inl (lv (.bool t))))
def dd5 : Bool := false
abbrev c5 (m : (Int × Int × Int × Int × Int × Int) → Option Bool) := fnT (cx := cxT) a5 n5 dd5 m
theorem hs5 : ∀ t, noRoV (n5 t) = true ∨ noOwnV (n5 t) = true := fun _ => .inl rfl
/-! loop.example/g00222/laws.FnExactBackendAt -/
def a6 : Args cxT.ty ((Int × (List (Int × (Int × (Int × (Int × Bool))))) × (List (Int × (Int × (Int × (List Int)))))) × Int) := (Args.cons (Arg.agg (SArg.cons (LArg.int .i64) (SArg.cons (LArg.row 129) (SArg.one (LArg.row 127))))) (Args.one (Arg.leaf (LArg.int .i64))))
def n6 : Bool → V cxT.ty := fun t => (.inl (.inl (lv (.bool t))))
/-! loop.example/g00222/laws.FnExactVipFor -/
def n7 : Bool → V cxT.ty := fun t => (.inl (.inl (lv (.bool t))))
/-! loop.example/g00222/laws.FnExactSharesFor -/
def n8 : Bool → V cxT.ty := fun t => (.inl (.inl (lv (.bool t))))
/-! loop.example/g00222/laws.FnExactSameConfigs -/
def n9 : Bool → V cxT.ty := fun t => (.inl (.inl (lv (.bool t))))
/-! loop.example/g00222/laws.lwBig -/
/-! loop.example/g00222/spec.DrawSharesFor -/
/-! loop.example/g00222/impl.SharesFor -/
/-! loop.example/g00222/spec.SharesFor -/
/-! loop.example/g00222/impl.BackendAt -/
def a14 : Args cxT.ty ((Int × (List (Int × (Int × (Int × (Int × Bool))))) × (List (Int × (Int × (Int × (List Int)))))) × Int) := (Args.cons (Arg.agg (SArg.cons (LArg.int .i64) (SArg.cons (LArg.row 38) (SArg.one (LArg.row 36))))) (Args.one (Arg.leaf (LArg.int .i64))))
def n14 : (Int × Int × Int × Int × Int × Bool) → V cxT.ty := fun t => (.inl (.inr [(lv (.int .i64 t.1)), (lv (.int .i64 t.2.1)), (lv (.int .i64 t.2.2.1)), (lv (.int .i64 t.2.2.2.1)), (lv (.int .i64 t.2.2.2.2.1)), (lv (.bool t.2.2.2.2.2))]))
def dd14 : (Int × Int × Int × Int × Int × Bool) := ((0 : Int), (0 : Int), (0 : Int), (0 : Int), (0 : Int), false)
abbrev c14 (m : ((Int × (List (Int × (Int × (Int × (Int × Bool))))) × (List (Int × (Int × (Int × (List Int)))))) × Int) → Option (Int × Int × Int × Int × Int × Bool)) := fnT (cx := cxT) a14 n14 dd14 m
/-! loop.example/g00222/laws.lwHas -/
/-! loop.example/g00222/impl.SharesFault -/
/-! loop.example/g00222/laws.szConfig -/
def a17 : Args cxT.ty ((Int × (List (Int × (Int × (Int × (Int × Bool))))) × (List (Int × (Int × (Int × (List Int)))))) × Int) := (Args.cons (Arg.agg (SArg.cons (LArg.int .i64) (SArg.cons (LArg.row 129) (SArg.one (LArg.row 127))))) (Args.one (Arg.leaf (LArg.int .i64))))
def n17 : Int → V cxT.ty := fun t => (.inl (.inl (lv (.int .i64 t))))
def dd17 : Int := (0 : Int)
abbrev c17 (m : ((Int × (List (Int × (Int × (Int × (Int × Bool))))) × (List (Int × (Int × (Int × (List Int)))))) × Int) → Option Int) := fnT (cx := cxT) a17 n17 dd17 m
/-! loop.example/g00222/spec.ConfigFault -/
def a18 : Args cxT.ty (Int × (List (Int × (Int × (Int × (Int × Bool))))) × (List (Int × (Int × (Int × (List Int)))))) := (Args.one (Arg.agg (SArg.cons (LArg.int .i64) (SArg.cons (LArg.row 38) (SArg.one (LArg.row 36))))))
def n18 : Int → V cxT.ty := fun t => (.inl (.inl (lv (.int .i64 t))))
def dd18 : Int := (0 : Int)
abbrev c18 (m : (Int × (List (Int × (Int × (Int × (Int × Bool))))) × (List (Int × (Int × (Int × (List Int)))))) → Option Int) := fnT (cx := cxT) a18 n18 dd18 m
/-! loop.example/g00222/laws.toConfig -/
def a19 : Args cxT.ty (Int × (List (Int × (Int × (Int × (Int × Bool))))) × (List (Int × (Int × (Int × (List Int)))))) := (Args.one (Arg.agg (SArg.cons (LArg.int .i64) (SArg.cons (LArg.row 129) (SArg.one (LArg.row 127))))))
def n19 : (Int × (List (Int × (Int × (Int × (Int × Bool))))) × (List (Int × (Int × (Int × (List Int)))))) → V cxT.ty := fun t => (.inl (.inr [(lv (.int .i64 t.1)), (ls { own := 2, nm := 0, e := 38, o := true, xs := t.2.1 }), (ls { own := 2, nm := 0, e := 36, o := true, xs := t.2.2 })]))
def dd19 : (Int × (List (Int × (Int × (Int × (Int × Bool))))) × (List (Int × (Int × (Int × (List Int)))))) := ((0 : Int), [], [])
abbrev c19 (m : (Int × (List (Int × (Int × (Int × (Int × Bool))))) × (List (Int × (Int × (Int × (List Int)))))) → Option (Int × (List (Int × (Int × (Int × (Int × Bool))))) × (List (Int × (Int × (Int × (List Int))))))) := fnT (cx := cxT) a19 n19 dd19 m
/-! loop.example/g00222/impl.ConfigFault -/
def a20 : Args cxT.ty (Int × (List (Int × (Int × (Int × (Int × Bool))))) × (List (Int × (Int × (Int × (List Int)))))) := (Args.one (Arg.agg (SArg.cons (LArg.int .i64) (SArg.cons (LArg.row 38) (SArg.one (LArg.row 36))))))
def n20 : Int → V cxT.ty := fun t => (.inl (.inl (lv (.int .i64 t))))
def dd20 : Int := (0 : Int)
abbrev c20 (m : (Int × (List (Int × (Int × (Int × (Int × Bool))))) × (List (Int × (Int × (Int × (List Int)))))) → Option Int) := fnT (cx := cxT) a20 n20 dd20 m
/-! loop.example/g00222/laws.eqConfig -/
def a21 : Args cxT.ty ((Int × (List (Int × (Int × (Int × (Int × Bool))))) × (List (Int × (Int × (Int × (List Int)))))) × (Int × (List (Int × (Int × (Int × (Int × Bool))))) × (List (Int × (Int × (Int × (List Int))))))) := (Args.cons (Arg.agg (SArg.cons (LArg.int .i64) (SArg.cons (LArg.row 38) (SArg.one (LArg.row 36))))) (Args.one (Arg.agg (SArg.cons (LArg.int .i64) (SArg.cons (LArg.row 38) (SArg.one (LArg.row 36)))))))
def n21 : Bool → V cxT.ty := fun t => (.inl (.inl (lv (.bool t))))
def dd21 : Bool := false
abbrev c21 (m : ((Int × (List (Int × (Int × (Int × (Int × Bool))))) × (List (Int × (Int × (Int × (List Int)))))) × (Int × (List (Int × (Int × (Int × (Int × Bool))))) × (List (Int × (Int × (Int × (List Int))))))) → Option Bool) := fnT (cx := cxT) a21 n21 dd21 m
/-! loop.example/g00222/spec.CmdFault -/
def a22 : Args cxT.ty (Int × Int × Int × Int × Int × Int) := (Args.one (Arg.agg (SArg.cons (LArg.int .i64) (SArg.cons (LArg.int .i64) (SArg.cons (LArg.int .i64) (SArg.cons (LArg.int .i64) (SArg.cons (LArg.int .i64) (SArg.one (LArg.int .i64)))))))))
def n22 : Int → V cxT.ty := fun t => (.inl (.inl (lv (.int .i64 t))))
def dd22 : Int := (0 : Int)
abbrev c22 (m : (Int × Int × Int × Int × Int × Int) → Option Int) := fnT (cx := cxT) a22 n22 dd22 m
/-! loop.example/g00222/laws.toCmd -/
def a23 : Args cxT.ty (Int × Int × Int × Int × Int × Int) := (Args.one (Arg.agg (SArg.cons (LArg.int .i64) (SArg.cons (LArg.int .i64) (SArg.cons (LArg.int .i64) (SArg.cons (LArg.int .i64) (SArg.cons (LArg.int .i64) (SArg.one (LArg.int .i64)))))))))
def n23 : (Int × Int × Int × Int × Int × Int) → V cxT.ty := fun t => (.inl (.inr [(lv (.int .i64 t.1)), (lv (.int .i64 t.2.1)), (lv (.int .i64 t.2.2.1)), (lv (.int .i64 t.2.2.2.1)), (lv (.int .i64 t.2.2.2.2.1)), (lv (.int .i64 t.2.2.2.2.2))]))
def dd23 : (Int × Int × Int × Int × Int × Int) := ((0 : Int), (0 : Int), (0 : Int), (0 : Int), (0 : Int), (0 : Int))
abbrev c23 (m : (Int × Int × Int × Int × Int × Int) → Option (Int × Int × Int × Int × Int × Int)) := fnT (cx := cxT) a23 n23 dd23 m
theorem hs23 : ∀ t, noRoV (n23 t) = true ∨ noOwnV (n23 t) = true := fun _ => .inl rfl
/-! loop.example/g00222/impl.CmdFault -/
def a24 : Args cxT.ty (Int × Int × Int × Int × Int × Int) := (Args.one (Arg.agg (SArg.cons (LArg.int .i64) (SArg.cons (LArg.int .i64) (SArg.cons (LArg.int .i64) (SArg.cons (LArg.int .i64) (SArg.cons (LArg.int .i64) (SArg.one (LArg.int .i64)))))))))
def n24 : Int → V cxT.ty := fun t => (.inl (.inl (lv (.int .i64 t))))
def dd24 : Int := (0 : Int)
abbrev c24 (m : (Int × Int × Int × Int × Int × Int) → Option Int) := fnT (cx := cxT) a24 n24 dd24 m
/-! loop.example/g00222/spec.BackendAt -/
def a25 : Args cxT.ty ((Int × (List (Int × (Int × (Int × (Int × Bool))))) × (List (Int × (Int × (Int × (List Int)))))) × Int) := (Args.cons (Arg.agg (SArg.cons (LArg.int .i64) (SArg.cons (LArg.row 38) (SArg.one (LArg.row 36))))) (Args.one (Arg.leaf (LArg.int .i64))))
def n25 : (Int × Int × Int × Int × Int × Bool) → V cxT.ty := fun t => (.inl (.inr [(lv (.int .i64 t.1)), (lv (.int .i64 t.2.1)), (lv (.int .i64 t.2.2.1)), (lv (.int .i64 t.2.2.2.1)), (lv (.int .i64 t.2.2.2.2.1)), (lv (.bool t.2.2.2.2.2))]))
def dd25 : (Int × Int × Int × Int × Int × Bool) := ((0 : Int), (0 : Int), (0 : Int), (0 : Int), (0 : Int), false)
abbrev c25 (m : ((Int × (List (Int × (Int × (Int × (Int × Bool))))) × (List (Int × (Int × (Int × (List Int)))))) × Int) → Option (Int × Int × Int × Int × Int × Bool)) := fnT (cx := cxT) a25 n25 dd25 m
/-! loop.example/g00222/laws.eqBackendResult -/
def a26 : Args cxT.ty ((Int × Int × Int × Int × Int × Bool) × (Int × Int × Int × Int × Int × Bool)) := (Args.cons (Arg.agg (SArg.cons (LArg.int .i64) (SArg.cons (LArg.int .i64) (SArg.cons (LArg.int .i64) (SArg.cons (LArg.int .i64) (SArg.cons (LArg.int .i64) (SArg.one LArg.bool))))))) (Args.one (Arg.agg (SArg.cons (LArg.int .i64) (SArg.cons (LArg.int .i64) (SArg.cons (LArg.int .i64) (SArg.cons (LArg.int .i64) (SArg.cons (LArg.int .i64) (SArg.one LArg.bool)))))))))
def n26 : Bool → V cxT.ty := fun t => (.inl (.inl (lv (.bool t))))
def dd26 : Bool := false
abbrev c26 (m : ((Int × Int × Int × Int × Int × Bool) × (Int × Int × Int × Int × Int × Bool)) → Option Bool) := fnT (cx := cxT) a26 n26 dd26 m
/-! loop.example/g00222/spec.VipFor -/
/-! loop.example/g00222/laws.toFlow -/
/-! loop.example/g00222/impl.VipFor -/
/-! loop.example/g00222/laws.eqIntResult -/
/-! loop.example/g00222/laws.eqSharesResult -/
/-! loop.example/g00222/laws.markConfig -/
/-! loop.example/g00222/laws.markSharesResult -/
/-! loop.example/g00222/laws.heldSharesResult -/
/-! loop.example/g00222/spec.SameConfigs -/
/-! loop.example/g00222/impl.SameConfigs -/
/-! loop.example/g00222/spec.l1Source -/
/-! loop.example/g00222/spec.l5Bent -/
/-! loop.example/g00222/spec.l1Pick -/
/-! loop.example/g00222/spec.l5Fault -/
/-! loop.example/g00222/spec.l1In -/
def a41 : Args cxT.ty (Int × Int × Int) := (Args.cons (Arg.leaf (LArg.int .i64)) (Args.cons (Arg.leaf (LArg.int .i64)) (Args.one (Arg.leaf (LArg.int .i64)))))
def n41 : Bool → V cxT.ty := fun t => (.inl (.inl (lv (.bool t))))
def dd41 : Bool := false
abbrev c41 (m : (Int × Int × Int) → Option Bool) := fnT (cx := cxT) a41 n41 dd41 m
theorem hs41 : ∀ t, noRoV (n41 t) = true ∨ noOwnV (n41 t) = true := fun _ => .inl rfl
/-! loop.example/g00222/spec.l5Shares -/
/-! loop.example/g00222/impl.backendPlace -/
/-! loop.example/g00222/impl.isName -/
def a44 : Args cxT.ty Int := (Args.one (Arg.leaf (LArg.int .i64)))
def n44 : Bool → V cxT.ty := fun t => (.inl (.inl (lv (.bool t))))
def dd44 : Bool := false
abbrev c44 (m : Int → Option Bool) := fnT (cx := cxT) a44 n44 dd44 m
theorem hs44 : ∀ t, noRoV (n44 t) = true ∨ noOwnV (n44 t) = true := fun _ => .inl rfl
/-! loop.example/g00222/impl.isWeight -/
def a45 : Args cxT.ty Int := (Args.one (Arg.leaf (LArg.int .i64)))
def n45 : Bool → V cxT.ty := fun t => (.inl (.inl (lv (.bool t))))
def dd45 : Bool := false
abbrev c45 (m : Int → Option Bool) := fnT (cx := cxT) a45 n45 dd45 m
theorem hs45 : ∀ t, noRoV (n45 t) = true ∨ noOwnV (n45 t) = true := fun _ => .inl rfl
/-! loop.example/g00222/laws.szBackendS -/
/-! loop.example/g00222/laws.szVipS -/
/-! loop.example/g00222/laws.toBackendS -/
/-! loop.example/g00222/laws.toVipS -/
/-! loop.example/g00222/impl.isVersion -/
def a50 : Args cxT.ty Int := (Args.one (Arg.leaf (LArg.int .i64)))
def n50 : Bool → V cxT.ty := fun t => (.inl (.inl (lv (.bool t))))
def dd50 : Bool := false
abbrev c50 (m : Int → Option Bool) := fnT (cx := cxT) a50 n50 dd50 m
theorem hs50 : ∀ t, noRoV (n50 t) = true ∨ noOwnV (n50 t) = true := fun _ => .inl rfl
/-! loop.example/g00222/impl.isBackend -/
/-! loop.example/g00222/impl.isServed -/
/-! loop.example/g00222/impl.compareVips -/
/-! loop.example/g00222/impl.namesFault -/
/-! loop.example/g00222/laws.eqBackendS -/
/-! loop.example/g00222/laws.eqVipS -/
/-! loop.example/g00222/spec.l5Needs -/
def a57 : Args cxT.ty Int := (Args.one (Arg.leaf (LArg.int .i64)))
def n57 : (Bool × Bool × Bool × Bool) → V cxT.ty := fun t => (.inr (.inl [(.inl (lv (.bool t.1))), (.inl (lv (.bool t.2.1))), (.inl (lv (.bool t.2.2.1))), (.inl (lv (.bool t.2.2.2)))]))
def dd57 : (Bool × Bool × Bool × Bool) := (false, false, false, false)
abbrev c57 (m : Int → Option (Bool × Bool × Bool × Bool)) := fnT (cx := cxT) a57 n57 dd57 m
theorem hs57 : ∀ t, noRoV (n57 t) = true ∨ noOwnV (n57 t) = true := fun _ => .inl rfl
/-! loop.example/g00222/spec.l5Version -/
def a58 : Args cxT.ty Int := (Args.one (Arg.leaf (LArg.int .i64)))
def n58 : Bool → V cxT.ty := fun t => (.inl (.inl (lv (.bool t))))
def dd58 : Bool := false
abbrev c58 (m : Int → Option Bool) := fnT (cx := cxT) a58 n58 dd58 m
theorem hs58 : ∀ t, noRoV (n58 t) = true ∨ noOwnV (n58 t) = true := fun _ => .inl rfl
/-! loop.example/g00222/spec.l3Name -/
def a59 : Args cxT.ty Int := (Args.one (Arg.leaf (LArg.int .i64)))
def n59 : Bool → V cxT.ty := fun t => (.inl (.inl (lv (.bool t))))
def dd59 : Bool := false
abbrev c59 (m : Int → Option Bool) := fnT (cx := cxT) a59 n59 dd59 m
theorem hs59 : ∀ t, noRoV (n59 t) = true ∨ noOwnV (n59 t) = true := fun _ => .inl rfl
/-! loop.example/g00222/spec.l2Address -/
def a60 : Args cxT.ty Int := (Args.one (Arg.leaf (LArg.int .i64)))
def n60 : Bool → V cxT.ty := fun t => (.inl (.inl (lv (.bool t))))
def dd60 : Bool := false
abbrev c60 (m : Int → Option Bool) := fnT (cx := cxT) a60 n60 dd60 m
theorem hs60 : ∀ t, noRoV (n60 t) = true ∨ noOwnV (n60 t) = true := fun _ => .inl rfl
/-! loop.example/g00222/spec.l5Number -/
def a61 : Args cxT.ty (Int × Int × Int × Int × Int × Int) := (Args.one (Arg.agg (SArg.cons (LArg.int .i64) (SArg.cons (LArg.int .i64) (SArg.cons (LArg.int .i64) (SArg.cons (LArg.int .i64) (SArg.cons (LArg.int .i64) (SArg.one (LArg.int .i64)))))))))
def n61 : Bool → V cxT.ty := fun t => (.inl (.inl (lv (.bool t))))
def dd61 : Bool := false
abbrev c61 (m : (Int × Int × Int × Int × Int × Int) → Option Bool) := fnT (cx := cxT) a61 n61 dd61 m
theorem hs61 : ∀ t, noRoV (n61 t) = true ∨ noOwnV (n61 t) = true := fun _ => .inl rfl
/-! loop.example/g00222/spec.l5Proto -/
def a62 : Args cxT.ty Int := (Args.one (Arg.leaf (LArg.int .i64)))
def n62 : Bool → V cxT.ty := fun t => (.inl (.inl (lv (.bool t))))
def dd62 : Bool := false
abbrev c62 (m : Int → Option Bool) := fnT (cx := cxT) a62 n62 dd62 m
theorem hs62 : ∀ t, noRoV (n62 t) = true ∨ noOwnV (n62 t) = true := fun _ => .inl rfl
/-! loop.example/g00222/spec.l5At -/
def a64 : Args cxT.ty ((Int × ((List (Int × (Int × (Int × (Int × Bool))))) × (List (Int × (Int × (Int × (List Int))))))) × Int) := (Args.cons (Arg.leaf (LArg.ptr 27)) (Args.one (Arg.leaf (LArg.int .i64))))
/-! loop.example/g00222/laws.eqBackend -/
/-! loop.example/g00222/spec.l3Flow -/
/-! loop.example/g00222/spec.l5For -/
/-! loop.example/g00222/impl.flowFault -/
/-! loop.example/g00222/impl.vipPlace -/
/-! loop.example/g00222/laws.eqShareS -/
/-! loop.example/g00222/laws.markBackendS -/
/-! loop.example/g00222/laws.markVipS -/
/-! loop.example/g00222/laws.markShareS -/
/-! loop.example/g00222/laws.heldShareS -/
/-! loop.example/g00222/spec.l5Nums -/
/-! slices.Equal[[]loop.example/g00222/impl.Backend,loop.example/g00222/impl.Backend] -/
/-! slices.EqualFunc[[]loop.example/g00222/impl.Vip,[]loop.example/g00222/impl.Vip,loop.example/g00222/impl.Vip,loop.example/g00222/impl.Vip] -/
/-! loop.example/g00222/impl.sameVip -/
/-! loop.example/g00222/spec.l5Right -/
/-! loop.example/g00222/spec.l1Next -/
/-! loop.example/g00222/spec.l5Backend -/
/-! loop.example/g00222/spec.l5Vip -/
/-! slices.BinarySearchFunc[[]loop.example/g00222/impl.Backend,loop.example/g00222/impl.Backend,int64] -/
/-! loop.example/g00222/impl.backendPlace$1 -/
/-! cmp.Compare[int64] -/
/-! loop.example/g00222/laws.szVip -/
/-! loop.example/g00222/laws.toBackend -/
/-! loop.example/g00222/laws.toVip -/
/-! loop.example/g00222/impl.isAddress -/
def a89 : Args cxT.ty Int := (Args.one (Arg.leaf (LArg.int .i64)))
def n89 : Bool → V cxT.ty := fun t => (.inl (.inl (lv (.bool t))))
def dd89 : Bool := false
abbrev c89 (m : Int → Option Bool) := fnT (cx := cxT) a89 n89 dd89 m
theorem hs89 : ∀ t, noRoV (n89 t) = true ∨ noOwnV (n89 t) = true := fun _ => .inl rfl
/-! loop.example/g00222/impl.isStage -/
def a90 : Args cxT.ty Int := (Args.one (Arg.leaf (LArg.int .i64)))
def n90 : Bool → V cxT.ty := fun t => (.inl (.inl (lv (.bool t))))
def dd90 : Bool := false
abbrev c90 (m : Int → Option Bool) := fnT (cx := cxT) a90 n90 dd90 m
theorem hs90 : ∀ t, noRoV (n90 t) = true ∨ noOwnV (n90 t) = true := fun _ => .inl rfl
/-! loop.example/g00222/impl.isPort -/
def a91 : Args cxT.ty Int := (Args.one (Arg.leaf (LArg.int .i64)))
def n91 : Bool → V cxT.ty := fun t => (.inl (.inl (lv (.bool t))))
def dd91 : Bool := false
abbrev c91 (m : Int → Option Bool) := fnT (cx := cxT) a91 n91 dd91 m
theorem hs91 : ∀ t, noRoV (n91 t) = true ∨ noOwnV (n91 t) = true := fun _ => .inl rfl
/-! loop.example/g00222/impl.isProto -/
def a92 : Args cxT.ty Int := (Args.one (Arg.leaf (LArg.int .i64)))
def n92 : Bool → V cxT.ty := fun t => (.inl (.inl (lv (.bool t))))
def dd92 : Bool := false
abbrev c92 (m : Int → Option Bool) := fnT (cx := cxT) a92 n92 dd92 m
theorem hs92 : ∀ t, noRoV (n92 t) = true ∨ noOwnV (n92 t) = true := fun _ => .inl rfl
/-! cmp.Or[int] -/
/-! loop.example/g00222/laws.eqVip -/
/-! loop.example/g00222/spec.l2Port -/
def a95 : Args cxT.ty Int := (Args.one (Arg.leaf (LArg.int .i64)))
def n95 : Bool → V cxT.ty := fun t => (.inl (.inl (lv (.bool t))))
def dd95 : Bool := false
abbrev c95 (m : Int → Option Bool) := fnT (cx := cxT) a95 n95 dd95 m
theorem hs95 : ∀ t, noRoV (n95 t) = true ∨ noOwnV (n95 t) = true := fun _ => .inl rfl
/-! loop.example/g00222/impl.isYesOrNo -/
def a104 : Args cxT.ty Int := (Args.one (Arg.leaf (LArg.int .i64)))
def n104 : Bool → V cxT.ty := fun t => (.inl (.inl (lv (.bool t))))
def dd104 : Bool := false
abbrev c104 (m : Int → Option Bool) := fnT (cx := cxT) a104 n104 dd104 m
theorem hs104 : ∀ t, noRoV (n104 t) = true ∨ noOwnV (n104 t) = true := fun _ => .inl rfl
/-! loop.example/g00222/impl.PacketFault -/
/-! slices.BinarySearchFunc[[]loop.example/g00222/impl.Vip,loop.example/g00222/impl.Vip,loop.example/g00222/impl.Vip] -/
/-! loop.example/g00222/laws.eqShare -/
/-! loop.example/g00222/laws.markInt64S -/
/-! slices.Equal[[]int64,int64] -/
/-! loop.example/g00222/spec.l5Apply -/
/-! loop.example/g00222/spec.l5Cmd -/
/-! loop.example/g00222/spec.l5Behind -/
/-! cmp.isNaN[int64] -/
/-! loop.example/g00222/laws.szInt64S -/
/-! loop.example/g00222/laws.toInt64S -/
/-! loop.example/g00222/laws.eqInt64S -/
/-! slices.Insert[[]loop.example/g00222/impl.Backend,loop.example/g00222/impl.Backend] -/
/-! slices.Contains[[]int64,int64] -/
/-! slices.Delete[[]loop.example/g00222/impl.Backend,loop.example/g00222/impl.Backend] -/
/-! slices.Insert[[]loop.example/g00222/impl.Vip,loop.example/g00222/impl.Vip] -/
/-! slices.Delete[[]loop.example/g00222/impl.Vip,loop.example/g00222/impl.Vip] -/
/-! slices.BinarySearch[[]int64,int64] -/
/-! slices.Insert[[]int64,int64] -/
/-! slices.Delete[[]int64,int64] -/
/-! loop.example/g00222/spec.l5Copy -/
/-! loop.example/g00222/spec.l5TurnVip -/
/-! loop.example/g00222/spec.l5Turn -/
/-! loop.example/g00222/spec.l1Chance -/
/-! slices.overlaps[loop.example/g00222/impl.Backend] -/
/-! slices.rotateRight[loop.example/g00222/impl.Backend] -/
/-! slices.Index[[]int64,int64] -/
/-! slices.overlaps[loop.example/g00222/impl.Vip] -/
/-! slices.rotateRight[loop.example/g00222/impl.Vip] -/
/-! cmp.Less[int64] -/
/-! slices.isNaN[int64] -/
/-! slices.overlaps[int64] -/
/-! slices.rotateRight[int64] -/
/-! loop.example/g00222/spec.l5Find -/
/-! loop.example/g00222/spec.l1Has -/
/-! loop.example/g00222/spec.l1Rise -/
/-! loop.example/g00222/spec.l5Serves -/
/-! slices.rotateLeft[loop.example/g00222/impl.Backend] -/
/-! slices.rotateLeft[loop.example/g00222/impl.Vip] -/
/-! slices.rotateLeft[int64] -/
/-! slices.Reverse[[]loop.example/g00222/impl.Backend,loop.example/g00222/impl.Backend] -/
/-! slices.Reverse[[]loop.example/g00222/impl.Vip,loop.example/g00222/impl.Vip] -/
/-! slices.Reverse[[]int64,int64] -/
end Go.Proofs.Try
