/- A part of the proof of FnExactSameConfigs: L5Base, L5Con. -/
import Derived.Test.YtfncedbejffggaaVmJ
import Derived.Test.YtfncedbejffggaaProg
namespace Go.Proofs.Try
open Go Go.VM Go.RowKit

abbrev Bk := Int × Int × Int × Int × Bool
abbrev Vp := Int × Int × Int × List Int
def tyT (e : Nat) : Type := if e = 2 then Int else if e = 3 then Int else if e = 5 then Int else if e = 38 then Bk else if e = 36 then Vp else if e = 44 then Int × Int else if e = 129 then Bk else if e = 127 then Vp else if e = 49 then Int × List Bk × List Vp else Unit
def inhT (e : Nat) : tyT e := by
  unfold tyT
  repeat' split
  all_goals first | exact (0 : Int) | exact ((0, 0) : Int × Int) | exact ((0, 0, 0, 0, false) : Bk) | exact ((0, 0, 0, []) : Vp) | exact ((0, [], []) : Int × List Bk × List Vp) | exact ()
def cd2 : Cd tyT (tyT 2) := cdInt .i64
def cd3 : Cd tyT (tyT 3) := cdInt .i64
def cd5 : Cd tyT (tyT 5) := cdInt .u8
def cdBk : Cd tyT Bk := cdPair (cdInt .i64) (cdPair (cdInt .i64) (cdPair (cdInt .i64) (cdPair (cdInt .i64) cdBool)))
def cdVp : Cd tyT Vp := cdPair (cdInt .i64) (cdPair (cdInt .i64) (cdPair (cdInt .i64) (cdRow 2)))
def cd38 : Cd tyT (tyT 38) := cdBk
def cd36 : Cd tyT (tyT 36) := cdVp
def cd44 : Cd tyT (tyT 44) := cdPair (cdInt .i64) (cdInt .i64)
def cd129 : Cd tyT (tyT 129) := cdBk
def cd127 : Cd tyT (tyT 127) := cdVp
def cd49 : Cd tyT (tyT 49) := cdPair (cdInt .i64) (cdPair (cdRow 129) (cdRow 127))
def cdT (e : Nat) : Cd tyT (tyT e) :=
  if h : e = 2 then h.symm ▸ cd2 else if h : e = 3 then h.symm ▸ cd3 else if h : e = 5 then h.symm ▸ cd5 else if h : e = 38 then h.symm ▸ cd38 else if h : e = 36 then h.symm ▸ cd36 else if h : e = 44 then h.symm ▸ cd44 else if h : e = 129 then h.symm ▸ cd129 else if h : e = 127 then h.symm ▸ cd127 else if h : e = 49 then h.symm ▸ cd49 else cdNone (inhT e)
def cxT : Cx := Cx.of cdT
theorem cxT_ok : cxT.Ok := Cx.of_ok cdT
set_option maxRecDepth 100000 in
theorem dom_cases {e : Nat} (h : (cdT e).dom = true) : e = 2 ∨ e = 3 ∨ e = 5 ∨ e = 38 ∨ e = 44 ∨ e = 129 := by
  by_cases h1 : e = 2
  · exact .inl h1
  by_cases h2 : e = 3
  · exact .inr (.inl h2)
  by_cases h3 : e = 5
  · exact .inr (.inr (.inl h3))
  by_cases h4 : e = 38
  · exact .inr (.inr (.inr (.inl h4)))
  by_cases h5 : e = 36
  · subst h5; exact absurd h (by intro hh; cases (show false = true from hh))
  by_cases h6 : e = 44
  · exact .inr (.inr (.inr (.inr (.inl h6))))
  by_cases h7 : e = 129
  · exact .inr (.inr (.inr (.inr (.inr h7))))
  by_cases h8 : e = 127
  · subst h8; exact absurd h (by intro hh; cases (show false = true from hh))
  by_cases h9 : e = 49
  · subst h9; exact absurd h (by intro hh; cases (show false = true from hh))
  · unfold cdT at h; rw [dif_neg h1, dif_neg h2, dif_neg h3, dif_neg h4, dif_neg h5, dif_neg h6, dif_neg h7, dif_neg h8, dif_neg h9] at h; exact Bool.noConfusion h

set_option maxRecDepth 100000 in
theorem cxT_pok : cxT.POk prog := by
  refine ⟨fun e he => ?_, fun e he hu o x => ?_⟩
  · rcases dom_cases he with rfl | rfl | rfl | rfl | rfl | rfl <;>
    exact ⟨_, _, rfl, rfl, rfl, by decide, rfl, by decide, rfl⟩
  · rcases dom_cases he with rfl | rfl | rfl | rfl | rfl | rfl
    · rw [underlying2] at hu; cases hu
    · rw [show prog.underlying 3 = _ from rfl] at hu; cases hu
    · exact ⟨x, rfl⟩
    · rw [show prog.underlying 38 = _ from rfl] at hu; cases hu
    · rw [show prog.underlying 44 = _ from rfl] at hu; cases hu
    · rw [show prog.underlying 129 = _ from rfl] at hu; cases hu
end Go.Proofs.Try

set_option linter.unusedVariables false
namespace Go.Proofs.Try
open Go Go.VM Go.RowKit
/-! loop.example/g00222/laws.FnDrained -/
def a3 : Args cxT.ty (List Int) := (Args.one (Arg.leaf (LArg.row 5)))
def n3 : Bool → V cxT.ty := fun t => (.inl (.inl (lv (.bool t))))
/-! loop.example/g00222/laws.FnExactConfigFault -/
def a4 : Args cxT.ty (Int × (List (Int × (Int × (Int × (Int × Bool))))) × (List (Int × (Int × (Int × (List Int)))))) := (Args.one (Arg.agg (SArg.cons (LArg.int .i64) (SArg.cons (LArg.row 129) (SArg.one (LArg.row 127))))))
def n4 : Bool → V cxT.ty := fun t => (.inl (.inl (lv (.bool t))))
/-! loop.example/g00222/laws.FnExactCmdFault -/
def a5 : Args cxT.ty (Int × Int × Int × Int × Int × Int) := (Args.one (Arg.agg (SArg.cons (LArg.int .i64) (SArg.cons (LArg.int .i64) (SArg.cons (LArg.int .i64) (SArg.cons (LArg.int .i64) (SArg.cons (LArg.int .i64) (SArg.one (LArg.int .i64)))))))))
def n5 : Bool → V cxT.ty := fun t => (.inl (.inl (lv (.bool t))))
/-! loop.example/g00222/laws.FnExactBackendAt -/
def a6 : Args cxT.ty ((Int × (List (Int × (Int × (Int × (Int × Bool))))) × (List (Int × (Int × (Int × (List Int)))))) × Int) := (Args.cons (Arg.agg (SArg.cons (LArg.int .i64) (SArg.cons (LArg.row 129) (SArg.one (LArg.row 127))))) (Args.one (Arg.leaf (LArg.int .i64))))
def n6 : Bool → V cxT.ty := fun t => (.inl (.inl (lv (.bool t))))
/-! loop.example/g00222/laws.FnExactVipFor -/
def n7 : Bool → V cxT.ty := fun t => (.inl (.inl (lv (.bool t))))
/-! loop.example/g00222/laws.FnExactSharesFor -/
def n8 : Bool → V cxT.ty := fun t => (.inl (.inl (lv (.bool t))))
/-! loop.example/g00222/laws.FnExactSameConfigs -/
def a9 : Args cxT.ty ((Int × (List (Int × (Int × (Int × (Int × Bool))))) × (List (Int × (Int × (Int × (List Int)))))) × (Int × (List (Int × (Int × (Int × (Int × Bool))))) × (List (Int × (Int × (Int × (List Int))))))) := (Args.cons (Arg.agg (SArg.cons (LArg.int .i64) (SArg.cons (LArg.row 129) (SArg.one (LArg.row 127))))) (Args.one (Arg.agg (SArg.cons (LArg.int .i64) (SArg.cons (LArg.row 129) (SArg.one (LArg.row 127)))))))
def n9 : Bool → V cxT.ty := fun t => (.inl (.inl (lv (.bool t))))
def dd9 : Bool := false
abbrev c9 (m : ((Int × (List (Int × (Int × (Int × (Int × Bool))))) × (List (Int × (Int × (Int × (List Int)))))) × (Int × (List (Int × (Int × (Int × (Int × Bool))))) × (List (Int × (Int × (Int × (List Int))))))) → Option Bool) := fnT (cx := cxT) a9 n9 dd9 m
theorem hs9 : ∀ t, noRoV (n9 t) = true ∨ noOwnV (n9 t) = true := fun _ => .inl rfl
/-! loop.example/g00222/laws.lwBig -/
/-! loop.example/g00222/spec.DrawSharesFor -/
/-! loop.example/g00222/impl.SharesFor -/
/-! loop.example/g00222/spec.SharesFor -/
/-! loop.example/g00222/impl.BackendAt -/
/-! loop.example/g00222/laws.lwHas -/
/-! loop.example/g00222/impl.SharesFault -/
/-! loop.example/g00222/laws.szConfig -/
def a17 : Args cxT.ty ((Int × (List (Int × (Int × (Int × (Int × Bool))))) × (List (Int × (Int × (Int × (List Int)))))) × Int) := (Args.cons (Arg.agg (SArg.cons (LArg.int .i64) (SArg.cons (LArg.row 129) (SArg.one (LArg.row 127))))) (Args.one (Arg.leaf (LArg.int .i64))))
def n17 : Int → V cxT.ty := fun t => (.inl (.inl (lv (.int .i64 t))))
def dd17 : Int := (0 : Int)
abbrev c17 (m : ((Int × (List (Int × (Int × (Int × (Int × Bool))))) × (List (Int × (Int × (Int × (List Int)))))) × Int) → Option Int) := fnT (cx := cxT) a17 n17 dd17 m
theorem hs17 : ∀ t, noRoV (n17 t) = true ∨ noOwnV (n17 t) = true := fun _ => .inl rfl
/-! loop.example/g00222/spec.ConfigFault -/
def a18 : Args cxT.ty (Int × (List (Int × (Int × (Int × (Int × Bool))))) × (List (Int × (Int × (Int × (List Int)))))) := (Args.one (Arg.agg (SArg.cons (LArg.int .i64) (SArg.cons (LArg.row 38) (SArg.one (LArg.row 36))))))
def n18 : Int → V cxT.ty := fun t => (.inl (.inl (lv (.int .i64 t))))
def dd18 : Int := (0 : Int)
abbrev c18 (m : (Int × (List (Int × (Int × (Int × (Int × Bool))))) × (List (Int × (Int × (Int × (List Int)))))) → Option Int) := fnT (cx := cxT) a18 n18 dd18 m
/-! loop.example/g00222/laws.toConfig -/
def a19 : Args cxT.ty (Int × (List (Int × (Int × (Int × (Int × Bool))))) × (List (Int × (Int × (Int × (List Int)))))) := (Args.one (Arg.agg (SArg.cons (LArg.int .i64) (SArg.cons (LArg.row 129) (SArg.one (LArg.row 127))))))
def n19 : (Int × (List (Int × (Int × (Int × (Int × Bool))))) × (List (Int × (Int × (Int × (List Int)))))) → V cxT.ty := fun t => (.inl (.inr [(lv (.int .i64 t.1)), (ls { own := 2, nm := 0, e := 38, o := true, xs := t.2.1 }), (ls { own := 2, nm := 0, e := 36, o := true, xs := t.2.2 })]))
def dd19 : (Int × (List (Int × (Int × (Int × (Int × Bool))))) × (List (Int × (Int × (Int × (List Int)))))) := ((0 : Int), [], [])
abbrev c19 (m : (Int × (List (Int × (Int × (Int × (Int × Bool))))) × (List (Int × (Int × (Int × (List Int)))))) → Option (Int × (List (Int × (Int × (Int × (Int × Bool))))) × (List (Int × (Int × (Int × (List Int))))))) := fnT (cx := cxT) a19 n19 dd19 m
theorem hs19 : ∀ t, noRoV (n19 t) = true ∨ noOwnV (n19 t) = true := fun _ => .inl rfl
/-! loop.example/g00222/impl.ConfigFault -/
def a20 : Args cxT.ty (Int × (List (Int × (Int × (Int × (Int × Bool))))) × (List (Int × (Int × (Int × (List Int)))))) := (Args.one (Arg.agg (SArg.cons (LArg.int .i64) (SArg.cons (LArg.row 38) (SArg.one (LArg.row 36))))))
def n20 : Int → V cxT.ty := fun t => (.inl (.inl (lv (.int .i64 t))))
def dd20 : Int := (0 : Int)
abbrev c20 (m : (Int × (List (Int × (Int × (Int × (Int × Bool))))) × (List (Int × (Int × (Int × (List Int)))))) → Option Int) := fnT (cx := cxT) a20 n20 dd20 m
/-! loop.example/g00222/laws.eqConfig -/
def a21 : Args cxT.ty ((Int × (List (Int × (Int × (Int × (Int × Bool))))) × (List (Int × (Int × (Int × (List Int)))))) × (Int × (List (Int × (Int × (Int × (Int × Bool))))) × (List (Int × (Int × (Int × (List Int))))))) := (Args.cons (Arg.agg (SArg.cons (LArg.int .i64) (SArg.cons (LArg.row 38) (SArg.one (LArg.row 36))))) (Args.one (Arg.agg (SArg.cons (LArg.int .i64) (SArg.cons (LArg.row 38) (SArg.one (LArg.row 36)))))))
def n21 : Bool → V cxT.ty := fun t => (.inl (.inl (lv (.bool t))))
def dd21 : Bool := false
abbrev c21 (m : ((Int × (List (Int × (Int × (Int × (Int × Bool))))) × (List (Int × (Int × (Int × (List Int)))))) × (Int × (List (Int × (Int × (Int × (Int × Bool))))) × (List (Int × (Int × (Int × (List Int))))))) → Option Bool) := fnT (cx := cxT) a21 n21 dd21 m
theorem hs21 : ∀ t, noRoV (n21 t) = true ∨ noOwnV (n21 t) = true := fun _ => .inl rfl
/-! loop.example/g00222/spec.CmdFault -/
/-! loop.example/g00222/laws.toCmd -/
/-! loop.example/g00222/impl.CmdFault -/
/-! loop.example/g00222/spec.BackendAt -/
/-! loop.example/g00222/laws.eqBackendResult -/
/-! loop.example/g00222/spec.VipFor -/
/-! loop.example/g00222/laws.toFlow -/
/-! loop.example/g00222/impl.VipFor -/
/-! loop.example/g00222/laws.eqIntResult -/
/-! loop.example/g00222/laws.eqSharesResult -/
/-! loop.example/g00222/laws.markConfig -/
/-! loop.example/g00222/laws.markSharesResult -/
/-! loop.example/g00222/laws.heldSharesResult -/
/-! loop.example/g00222/spec.SameConfigs -/
def a35 : Args cxT.ty ((Int × (List (Int × (Int × (Int × (Int × Bool))))) × (List (Int × (Int × (Int × (List Int)))))) × (Int × (List (Int × (Int × (Int × (Int × Bool))))) × (List (Int × (Int × (Int × (List Int))))))) := (Args.cons (Arg.agg (SArg.cons (LArg.int .i64) (SArg.cons (LArg.row 38) (SArg.one (LArg.row 36))))) (Args.one (Arg.agg (SArg.cons (LArg.int .i64) (SArg.cons (LArg.row 38) (SArg.one (LArg.row 36)))))))
def n35 : Bool → V cxT.ty := fun t => (.inl (.inl (lv (.bool t))))
def dd35 : Bool := false
abbrev c35 (m : ((Int × (List (Int × (Int × (Int × (Int × Bool))))) × (List (Int × (Int × (Int × (List Int)))))) × (Int × (List (Int × (Int × (Int × (Int × Bool))))) × (List (Int × (Int × (Int × (List Int))))))) → Option Bool) := fnT (cx := cxT) a35 n35 dd35 m
theorem hs35 : ∀ t, noRoV (n35 t) = true ∨ noOwnV (n35 t) = true := fun _ => .inl rfl
/-! loop.example/g00222/impl.SameConfigs -/
def a36 : Args cxT.ty ((Int × (List (Int × (Int × (Int × (Int × Bool))))) × (List (Int × (Int × (Int × (List Int)))))) × (Int × (List (Int × (Int × (Int × (Int × Bool))))) × (List (Int × (Int × (Int × (List Int))))))) := (Args.cons (Arg.agg (SArg.cons (LArg.int .i64) (SArg.cons (LArg.row 38) (SArg.one (LArg.row 36))))) (Args.one (Arg.agg (SArg.cons (LArg.int .i64) (SArg.cons (LArg.row 38) (SArg.one (LArg.row 36)))))))
def n36 : Bool → V cxT.ty := fun t => (.inl (.inl (lv (.bool t))))
def dd36 : Bool := false
abbrev c36 (m : ((Int × (List (Int × (Int × (Int × (Int × Bool))))) × (List (Int × (Int × (Int × (List Int)))))) × (Int × (List (Int × (Int × (Int × (Int × Bool))))) × (List (Int × (Int × (Int × (List Int))))))) → Option Bool) := fnT (cx := cxT) a36 n36 dd36 m
theorem hs36 : ∀ t, noRoV (n36 t) = true ∨ noOwnV (n36 t) = true := fun _ => .inl rfl
/-! loop.example/g00222/spec.l1Source -/
/-! loop.example/g00222/spec.l5Bent -/
/-! loop.example/g00222/spec.l1Pick -/
/-! loop.example/g00222/spec.l5Fault -/
/-! loop.example/g00222/spec.l1In -/
/-! loop.example/g00222/spec.l5Shares -/
/-! loop.example/g00222/impl.backendPlace -/
/-! loop.example/g00222/impl.isName -/
/-! loop.example/g00222/impl.isWeight -/
/-! loop.example/g00222/laws.szBackendS -/
def a46 : Args cxT.ty ((List (Int × (Int × (Int × (Int × Bool))))) × Int) := (Args.cons (Arg.leaf (LArg.row 129)) (Args.one (Arg.leaf (LArg.int .i64))))
def n46 : Int → V cxT.ty := fun t => (.inl (.inl (lv (.int .i64 t))))
def dd46 : Int := (0 : Int)
abbrev c46 (m : ((List (Int × (Int × (Int × (Int × Bool))))) × Int) → Option Int) := fnT (cx := cxT) a46 n46 dd46 m
theorem hs46 : ∀ t, noRoV (n46 t) = true ∨ noOwnV (n46 t) = true := fun _ => .inl rfl
/-! loop.example/g00222/laws.szVipS -/
def a47 : Args cxT.ty ((List (Int × (Int × (Int × (List Int))))) × Int) := (Args.cons (Arg.leaf (LArg.row 127)) (Args.one (Arg.leaf (LArg.int .i64))))
def n47 : Int → V cxT.ty := fun t => (.inl (.inl (lv (.int .i64 t))))
def dd47 : Int := (0 : Int)
abbrev c47 (m : ((List (Int × (Int × (Int × (List Int))))) × Int) → Option Int) := fnT (cx := cxT) a47 n47 dd47 m
theorem hs47 : ∀ t, noRoV (n47 t) = true ∨ noOwnV (n47 t) = true := fun _ => .inl rfl
/-! loop.example/g00222/laws.toBackendS -/
def a48 : Args cxT.ty (List (Int × (Int × (Int × (Int × Bool))))) := (Args.one (Arg.leaf (LArg.row 129)))
def n48 : (List (Int × (Int × (Int × (Int × Bool))))) → V cxT.ty := fun t => (.inl (.inl (ls { own := 2, nm := 0, e := 38, o := true, xs := t })))
def dd48 : (List (Int × (Int × (Int × (Int × Bool))))) := []
abbrev c48 (m : (List (Int × (Int × (Int × (Int × Bool))))) → Option (List (Int × (Int × (Int × (Int × Bool)))))) := fnT (cx := cxT) a48 n48 dd48 m
theorem hs48 : ∀ t, noRoV (n48 t) = true ∨ noOwnV (n48 t) = true := fun _ => .inl rfl
/-! loop.example/g00222/laws.toVipS -/
def a49 : Args cxT.ty (List (Int × (Int × (Int × (List Int))))) := (Args.one (Arg.leaf (LArg.row 127)))
def n49 : (List (Int × (Int × (Int × (List Int))))) → V cxT.ty := fun t => (.inl (.inl (ls { own := 2, nm := 0, e := 36, o := true, xs := t })))
def dd49 : (List (Int × (Int × (Int × (List Int))))) := []
abbrev c49 (m : (List (Int × (Int × (Int × (List Int))))) → Option (List (Int × (Int × (Int × (List Int)))))) := fnT (cx := cxT) a49 n49 dd49 m
theorem hs49 : ∀ t, noRoV (n49 t) = true ∨ noOwnV (n49 t) = true := fun _ => .inl rfl
/-! loop.example/g00222/impl.isVersion -/
/-! loop.example/g00222/impl.isBackend -/
/-! loop.example/g00222/impl.isServed -/
/-! loop.example/g00222/impl.compareVips -/
def a53 : Args cxT.ty ((Int × Int × Int × (List Int)) × (Int × Int × Int × (List Int))) := (Args.cons (Arg.agg (SArg.cons (LArg.int .i64) (SArg.cons (LArg.int .i64) (SArg.cons (LArg.int .i64) (SArg.one (LArg.row 2)))))) (Args.one (Arg.agg (SArg.cons (LArg.int .i64) (SArg.cons (LArg.int .i64) (SArg.cons (LArg.int .i64) (SArg.one (LArg.row 2))))))))
def n53 : Int → V cxT.ty := fun t => (.inl (.inl (lv (.int .i64 t))))
def dd53 : Int := (0 : Int)
abbrev c53 (m : ((Int × Int × Int × (List Int)) × (Int × Int × Int × (List Int))) → Option Int) := fnT (cx := cxT) a53 n53 dd53 m
theorem hs53 : ∀ t, noRoV (n53 t) = true ∨ noOwnV (n53 t) = true := fun _ => .inl rfl
/-! loop.example/g00222/impl.namesFault -/
/-! loop.example/g00222/laws.eqBackendS -/
def a55 : Args cxT.ty ((List (Int × (Int × (Int × (Int × Bool))))) × (List (Int × (Int × (Int × (Int × Bool)))))) := (Args.cons (Arg.leaf (LArg.row 38)) (Args.one (Arg.leaf (LArg.row 38))))
def n55 : Bool → V cxT.ty := fun t => (.inl (.inl (lv (.bool t))))
def dd55 : Bool := false
abbrev c55 (m : ((List (Int × (Int × (Int × (Int × Bool))))) × (List (Int × (Int × (Int × (Int × Bool)))))) → Option Bool) := fnT (cx := cxT) a55 n55 dd55 m
theorem hs55 : ∀ t, noRoV (n55 t) = true ∨ noOwnV (n55 t) = true := fun _ => .inl rfl
/-! loop.example/g00222/laws.eqVipS -/
def a56 : Args cxT.ty ((List (Int × (Int × (Int × (List Int))))) × (List (Int × (Int × (Int × (List Int)))))) := (Args.cons (Arg.leaf (LArg.row 36)) (Args.one (Arg.leaf (LArg.row 36))))
def n56 : Bool → V cxT.ty := fun t => (.inl (.inl (lv (.bool t))))
def dd56 : Bool := false
abbrev c56 (m : ((List (Int × (Int × (Int × (List Int))))) × (List (Int × (Int × (Int × (List Int)))))) → Option Bool) := fnT (cx := cxT) a56 n56 dd56 m
theorem hs56 : ∀ t, noRoV (n56 t) = true ∨ noOwnV (n56 t) = true := fun _ => .inl rfl
/-! loop.example/g00222/spec.l5Needs -/
/-! loop.example/g00222/spec.l5Version -/
/-! loop.example/g00222/spec.l3Name -/
/-! loop.example/g00222/spec.l2Address -/
/-! loop.example/g00222/spec.l5Number -/
/-! loop.example/g00222/spec.l5Proto -/
/-! loop.example/g00222/spec.l5At -/
def a64 : Args cxT.ty ((Int × (List (Int × (Int × (Int × (Int × Bool))))) × (List (Int × (Int × (Int × (List Int)))))) × Int) := (Args.cons (Arg.agg (SArg.cons (LArg.int .i64) (SArg.cons (LArg.row 38) (SArg.one (LArg.row 36))))) (Args.one (Arg.leaf (LArg.int .i64))))
/-! loop.example/g00222/laws.eqBackend -/
def a65 : Args cxT.ty ((Int × Int × Int × Int × Bool) × (Int × Int × Int × Int × Bool)) := (Args.cons (Arg.agg (SArg.cons (LArg.int .i64) (SArg.cons (LArg.int .i64) (SArg.cons (LArg.int .i64) (SArg.cons (LArg.int .i64) (SArg.one LArg.bool)))))) (Args.one (Arg.agg (SArg.cons (LArg.int .i64) (SArg.cons (LArg.int .i64) (SArg.cons (LArg.int .i64) (SArg.cons (LArg.int .i64) (SArg.one LArg.bool))))))))
def n65 : Bool → V cxT.ty := fun t => (.inl (.inl (lv (.bool t))))
def dd65 : Bool := false
abbrev c65 (m : ((Int × Int × Int × Int × Bool) × (Int × Int × Int × Int × Bool)) → Option Bool) := fnT (cx := cxT) a65 n65 dd65 m
theorem hs65 : ∀ t, noRoV (n65 t) = true ∨ noOwnV (n65 t) = true := fun _ => .inl rfl
/-! loop.example/g00222/spec.l3Flow -/
/-! loop.example/g00222/spec.l5For -/
/-! loop.example/g00222/impl.flowFault -/
/-! loop.example/g00222/impl.vipPlace -/
/-! loop.example/g00222/laws.eqShareS -/
/-! loop.example/g00222/laws.markBackendS -/
/-! loop.example/g00222/laws.markVipS -/
/-! loop.example/g00222/laws.markShareS -/
/-! loop.example/g00222/laws.heldShareS -/
/-! loop.example/g00222/spec.l5Nums -/
def a75 : Args cxT.ty ((List Int) × (List Int)) := (Args.cons (Arg.leaf (LArg.row 2)) (Args.one (Arg.leaf (LArg.row 2))))
def n75 : Bool → V cxT.ty := fun t => (.inl (.inl (lv (.bool t))))
def dd75 : Bool := false
abbrev c75 (m : ((List Int) × (List Int)) → Option Bool) := fnT (cx := cxT) a75 n75 dd75 m
theorem hs75 : ∀ t, noRoV (n75 t) = true ∨ noOwnV (n75 t) = true := fun _ => .inl rfl
/-! slices.Equal[[]loop.example/g00222/impl.Backend,loop.example/g00222/impl.Backend] -/
def a76 : Args cxT.ty ((List (Int × (Int × (Int × (Int × Bool))))) × (List (Int × (Int × (Int × (Int × Bool)))))) := (Args.cons (Arg.leaf (LArg.row 38)) (Args.one (Arg.leaf (LArg.row 38))))
def n76 : Bool → V cxT.ty := fun t => (.inl (.inl (lv (.bool t))))
def dd76 : Bool := false
abbrev c76 (m : ((List (Int × (Int × (Int × (Int × Bool))))) × (List (Int × (Int × (Int × (Int × Bool)))))) → Option Bool) := fnT (cx := cxT) a76 n76 dd76 m
theorem hs76 : ∀ t, noRoV (n76 t) = true ∨ noOwnV (n76 t) = true := fun _ => .inl rfl
/-! slices.EqualFunc[[]loop.example/g00222/impl.Vip,[]loop.example/g00222/impl.Vip,loop.example/g00222/impl.Vip,loop.example/g00222/impl.Vip] -/
def a77 : Args cxT.ty ((List (Int × (Int × (Int × (List Int))))) × (List (Int × (Int × (Int × (List Int))))) × Unit) := (Args.cons (Arg.leaf (LArg.row 36)) (Args.cons (Arg.leaf (LArg.row 36)) (Args.one (Arg.leaf (LArg.fn 78)))))
def n77 : Bool → V cxT.ty := fun t => (.inl (.inl (lv (.bool t))))
def dd77 : Bool := false
abbrev c77 (m : ((List (Int × (Int × (Int × (List Int))))) × (List (Int × (Int × (Int × (List Int))))) × Unit) → Option Bool) := fnT (cx := cxT) a77 n77 dd77 m
theorem hs77 : ∀ t, noRoV (n77 t) = true ∨ noOwnV (n77 t) = true := fun _ => .inl rfl
/-! loop.example/g00222/impl.sameVip -/
def a78 : Args cxT.ty ((Int × Int × Int × (List Int)) × (Int × Int × Int × (List Int))) := (Args.cons (Arg.agg (SArg.cons (LArg.int .i64) (SArg.cons (LArg.int .i64) (SArg.cons (LArg.int .i64) (SArg.one (LArg.row 2)))))) (Args.one (Arg.agg (SArg.cons (LArg.int .i64) (SArg.cons (LArg.int .i64) (SArg.cons (LArg.int .i64) (SArg.one (LArg.row 2))))))))
def n78 : Bool → V cxT.ty := fun t => (.inl (.inl (lv (.bool t))))
def dd78 : Bool := false
abbrev c78 (m : ((Int × Int × Int × (List Int)) × (Int × Int × Int × (List Int))) → Option Bool) := fnT (cx := cxT) a78 n78 dd78 m
theorem hs78 : ∀ t, noRoV (n78 t) = true ∨ noOwnV (n78 t) = true := fun _ => .inl rfl
/-! loop.example/g00222/spec.l5Right -/
/-! loop.example/g00222/spec.l1Next -/
/-! loop.example/g00222/spec.l5Backend -/
/-! loop.example/g00222/spec.l5Vip -/
/-! slices.BinarySearchFunc[[]loop.example/g00222/impl.Backend,loop.example/g00222/impl.Backend,int64] -/
/-! loop.example/g00222/impl.backendPlace$1 -/
/-! cmp.Compare[int64] -/
def a85 : Args cxT.ty (Int × Int) := (Args.cons (Arg.leaf (LArg.int .i64)) (Args.one (Arg.leaf (LArg.int .i64))))
def n85 : Int → V cxT.ty := fun t => (.inl (.inl (lv (.int .i64 t))))
def dd85 : Int := (0 : Int)
abbrev c85 (m : (Int × Int) → Option Int) := fnT (cx := cxT) a85 n85 dd85 m
theorem hs85 : ∀ t, noRoV (n85 t) = true ∨ noOwnV (n85 t) = true := fun _ => .inl rfl
/-! loop.example/g00222/laws.szVip -/
def a86 : Args cxT.ty ((Int × Int × Int × (List Int)) × Int) := (Args.cons (Arg.agg (SArg.cons (LArg.int .i64) (SArg.cons (LArg.int .i64) (SArg.cons (LArg.int .i64) (SArg.one (LArg.row 2)))))) (Args.one (Arg.leaf (LArg.int .i64))))
def n86 : Int → V cxT.ty := fun t => (.inl (.inl (lv (.int .i64 t))))
def dd86 : Int := (0 : Int)
abbrev c86 (m : ((Int × Int × Int × (List Int)) × Int) → Option Int) := fnT (cx := cxT) a86 n86 dd86 m
theorem hs86 : ∀ t, noRoV (n86 t) = true ∨ noOwnV (n86 t) = true := fun _ => .inl rfl
/-! loop.example/g00222/laws.toBackend -/
def a87 : Args cxT.ty (Int × Int × Int × Int × Bool) := (Args.one (Arg.agg (SArg.cons (LArg.int .i64) (SArg.cons (LArg.int .i64) (SArg.cons (LArg.int .i64) (SArg.cons (LArg.int .i64) (SArg.one LArg.bool)))))))
def n87 : (Int × Int × Int × Int × Bool) → V cxT.ty := fun t => (.inl (.inr [(lv (.int .i64 t.1)), (lv (.int .i64 t.2.1)), (lv (.int .i64 t.2.2.1)), (lv (.int .i64 t.2.2.2.1)), (lv (.bool t.2.2.2.2))]))
def dd87 : (Int × Int × Int × Int × Bool) := ((0 : Int), (0 : Int), (0 : Int), (0 : Int), false)
abbrev c87 (m : (Int × Int × Int × Int × Bool) → Option (Int × Int × Int × Int × Bool)) := fnT (cx := cxT) a87 n87 dd87 m
theorem hs87 : ∀ t, noRoV (n87 t) = true ∨ noOwnV (n87 t) = true := fun _ => .inl rfl
/-! loop.example/g00222/laws.toVip -/
def a88 : Args cxT.ty (Int × Int × Int × (List Int)) := (Args.one (Arg.agg (SArg.cons (LArg.int .i64) (SArg.cons (LArg.int .i64) (SArg.cons (LArg.int .i64) (SArg.one (LArg.row 2)))))))
def n88 : (Int × Int × Int × (List Int)) → V cxT.ty := fun t => (.inl (.inr [(lv (.int .i64 t.1)), (lv (.int .i64 t.2.1)), (lv (.int .i64 t.2.2.1)), (ls { own := 2, nm := 0, e := 2, o := true, xs := t.2.2.2 })]))
def dd88 : (Int × Int × Int × (List Int)) := ((0 : Int), (0 : Int), (0 : Int), [])
abbrev c88 (m : (Int × Int × Int × (List Int)) → Option (Int × Int × Int × (List Int))) := fnT (cx := cxT) a88 n88 dd88 m
theorem hs88 : ∀ t, noRoV (n88 t) = true ∨ noOwnV (n88 t) = true := fun _ => .inl rfl
/-! loop.example/g00222/impl.isAddress -/
/-! loop.example/g00222/impl.isStage -/
/-! loop.example/g00222/impl.isPort -/
/-! loop.example/g00222/impl.isProto -/
/-! cmp.Or[int] -/
def a93 : Args cxT.ty (List Int) := (Args.one (Arg.leaf (LArg.row 3)))
def n93 : Int → V cxT.ty := fun t => (.inl (.inl (lv (.int .i64 t))))
def dd93 : Int := (0 : Int)
abbrev c93 (m : (List Int) → Option Int) := fnT (cx := cxT) a93 n93 dd93 m
theorem hs93 : ∀ t, noRoV (n93 t) = true ∨ noOwnV (n93 t) = true := fun _ => .inl rfl
/-! loop.example/g00222/laws.eqVip -/
def a94 : Args cxT.ty ((Int × Int × Int × (List Int)) × (Int × Int × Int × (List Int))) := (Args.cons (Arg.agg (SArg.cons (LArg.int .i64) (SArg.cons (LArg.int .i64) (SArg.cons (LArg.int .i64) (SArg.one (LArg.row 2)))))) (Args.one (Arg.agg (SArg.cons (LArg.int .i64) (SArg.cons (LArg.int .i64) (SArg.cons (LArg.int .i64) (SArg.one (LArg.row 2))))))))
def n94 : Bool → V cxT.ty := fun t => (.inl (.inl (lv (.bool t))))
def dd94 : Bool := false
abbrev c94 (m : ((Int × Int × Int × (List Int)) × (Int × Int × Int × (List Int))) → Option Bool) := fnT (cx := cxT) a94 n94 dd94 m
theorem hs94 : ∀ t, noRoV (n94 t) = true ∨ noOwnV (n94 t) = true := fun _ => .inl rfl
/-! loop.example/g00222/spec.l2Port -/
/-! loop.example/g00222/impl.isYesOrNo -/
/-! loop.example/g00222/impl.PacketFault -/
/-! slices.BinarySearchFunc[[]loop.example/g00222/impl.Vip,loop.example/g00222/impl.Vip,loop.example/g00222/impl.Vip] -/
/-! loop.example/g00222/laws.eqShare -/
/-! loop.example/g00222/laws.markInt64S -/
/-! slices.Equal[[]int64,int64] -/
def a110 : Args cxT.ty ((List Int) × (List Int)) := (Args.cons (Arg.leaf (LArg.row 2)) (Args.one (Arg.leaf (LArg.row 2))))
def n110 : Bool → V cxT.ty := fun t => (.inl (.inl (lv (.bool t))))
def dd110 : Bool := false
abbrev c110 (m : ((List Int) × (List Int)) → Option Bool) := fnT (cx := cxT) a110 n110 dd110 m
theorem hs110 : ∀ t, noRoV (n110 t) = true ∨ noOwnV (n110 t) = true := fun _ => .inl rfl
/-! loop.example/g00222/spec.l5Apply -/
/-! loop.example/g00222/spec.l5Cmd -/
/-! loop.example/g00222/spec.l5Behind -/
/-! cmp.isNaN[int64] -/
def a114 : Args cxT.ty Int := (Args.one (Arg.leaf (LArg.int .i64)))
def n114 : Bool → V cxT.ty := fun t => (.inl (.inl (lv (.bool t))))
def dd114 : Bool := false
abbrev c114 (m : Int → Option Bool) := fnT (cx := cxT) a114 n114 dd114 m
theorem hs114 : ∀ t, noRoV (n114 t) = true ∨ noOwnV (n114 t) = true := fun _ => .inl rfl
/-! loop.example/g00222/laws.szInt64S -/
def a115 : Args cxT.ty ((List Int) × Int) := (Args.cons (Arg.leaf (LArg.row 2)) (Args.one (Arg.leaf (LArg.int .i64))))
def n115 : Int → V cxT.ty := fun t => (.inl (.inl (lv (.int .i64 t))))
def dd115 : Int := (0 : Int)
abbrev c115 (m : ((List Int) × Int) → Option Int) := fnT (cx := cxT) a115 n115 dd115 m
theorem hs115 : ∀ t, noRoV (n115 t) = true ∨ noOwnV (n115 t) = true := fun _ => .inl rfl
/-! loop.example/g00222/laws.toInt64S -/
def a116 : Args cxT.ty (List Int) := (Args.one (Arg.leaf (LArg.row 2)))
def n116 : (List Int) → V cxT.ty := fun t => (.inl (.inl (ls { own := 2, nm := 0, e := 2, o := true, xs := t })))
def dd116 : (List Int) := []
abbrev c116 (m : (List Int) → Option (List Int)) := fnT (cx := cxT) a116 n116 dd116 m
theorem hs116 : ∀ t, noRoV (n116 t) = true ∨ noOwnV (n116 t) = true := fun _ => .inl rfl
/-! loop.example/g00222/laws.eqInt64S -/
def a117 : Args cxT.ty ((List Int) × (List Int)) := (Args.cons (Arg.leaf (LArg.row 2)) (Args.one (Arg.leaf (LArg.row 2))))
def n117 : Bool → V cxT.ty := fun t => (.inl (.inl (lv (.bool t))))
def dd117 : Bool := false
abbrev c117 (m : ((List Int) × (List Int)) → Option Bool) := fnT (cx := cxT) a117 n117 dd117 m
theorem hs117 : ∀ t, noRoV (n117 t) = true ∨ noOwnV (n117 t) = true := fun _ => .inl rfl
/-! slices.Insert[[]loop.example/g00222/impl.Backend,loop.example/g00222/impl.Backend] -/
/-! slices.Contains[[]int64,int64] -/
/-! slices.Delete[[]loop.example/g00222/impl.Backend,loop.example/g00222/impl.Backend] -/
/-! slices.Insert[[]loop.example/g00222/impl.Vip,loop.example/g00222/impl.Vip] -/
/-! slices.Delete[[]loop.example/g00222/impl.Vip,loop.example/g00222/impl.Vip] -/
/-! slices.BinarySearch[[]int64,int64] -/
/-! slices.Insert[[]int64,int64] -/
/-! slices.Delete[[]int64,int64] -/
/-! loop.example/g00222/spec.l5Copy -/
/-! loop.example/g00222/spec.l5TurnVip -/
/-! loop.example/g00222/spec.l5Turn -/
/-! loop.example/g00222/spec.l1Chance -/
/-! slices.overlaps[loop.example/g00222/impl.Backend] -/
/-! slices.rotateRight[loop.example/g00222/impl.Backend] -/
/-! slices.Index[[]int64,int64] -/
/-! slices.overlaps[loop.example/g00222/impl.Vip] -/
/-! slices.rotateRight[loop.example/g00222/impl.Vip] -/
/-! cmp.Less[int64] -/
/-! slices.isNaN[int64] -/
/-! slices.overlaps[int64] -/
/-! slices.rotateRight[int64] -/
/-! loop.example/g00222/spec.l5Find -/
/-! loop.example/g00222/spec.l1Has -/
/-! loop.example/g00222/spec.l1Rise -/
/-! loop.example/g00222/spec.l5Serves -/
/-! slices.rotateLeft[loop.example/g00222/impl.Backend] -/
/-! slices.rotateLeft[loop.example/g00222/impl.Vip] -/
/-! slices.rotateLeft[int64] -/
/-! slices.Reverse[[]loop.example/g00222/impl.Backend,loop.example/g00222/impl.Backend] -/
/-! slices.Reverse[[]loop.example/g00222/impl.Vip,loop.example/g00222/impl.Vip] -/
/-! slices.Reverse[[]int64,int64] -/
end Go.Proofs.Try
