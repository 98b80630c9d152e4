/- A part of the proof of FnExactFitsAt: L7Base, L7Con. -/
import Derived.Test.YtdiobngppgokmaaVmJ
import Derived.Test.YtdiobngppgokmaaProg
namespace Go.Proofs.Try
open Go Go.VM Go.RowKit

def tyT (e : Nat) : Type := if e = 2 then Int else if e = 3 then Int else if e = 5 then Int else if e = 25 then Int × Int × Int × Int × Int × Int × Int × Int × Int else if e = 29 then Int × Int × Int × Int × Int × Int × Int × Int × Int else if e = 56 then List (Int × Int × Int × Int × Int × Int × Int × Int × Int) else Unit
def inhT (e : Nat) : tyT e := by
  unfold tyT
  repeat' split
  all_goals first | exact ((0 : Int) : Int) | exact ((0 : Int) : Int) | exact ((0 : Int) : Int) | exact (((0 : Int), (0 : Int), (0 : Int), (0 : Int), (0 : Int), (0 : Int), (0 : Int), (0 : Int), (0 : Int)) : Int × Int × Int × Int × Int × Int × Int × Int × Int) | exact (((0 : Int), (0 : Int), (0 : Int), (0 : Int), (0 : Int), (0 : Int), (0 : Int), (0 : Int), (0 : Int)) : Int × Int × Int × Int × Int × Int × Int × Int × Int) | exact ([] : List (Int × Int × Int × Int × Int × Int × Int × Int × Int)) | exact ()
def cd2 : Cd tyT (tyT 2) := cdInt .i64
def cd3 : Cd tyT (tyT 3) := cdInt .i64
def cd5 : Cd tyT (tyT 5) := cdInt .u8
def cd25 : Cd tyT (tyT 25) := cdPair (cdInt .i64) (cdPair (cdInt .i64) (cdPair (cdInt .i64) (cdPair (cdInt .i64) (cdPair (cdInt .i64) (cdPair (cdInt .i64) (cdPair (cdInt .i64) (cdPair (cdInt .i64) (cdInt .i64))))))))
def cd29 : Cd tyT (tyT 29) := cdPair (cdInt .i64) (cdPair (cdInt .i64) (cdPair (cdInt .i64) (cdPair (cdInt .i64) (cdPair (cdInt .i64) (cdPair (cdInt .i64) (cdPair (cdInt .i64) (cdPair (cdInt .i64) (cdInt .i64))))))))
def cd56 : Cd tyT (tyT 56) := cdRow 29
def cdT (e : Nat) : Cd tyT (tyT e) :=
  if h : e = 2 then h.symm ▸ cd2 else if h : e = 3 then h.symm ▸ cd3 else if h : e = 5 then h.symm ▸ cd5 else if h : e = 25 then h.symm ▸ cd25 else if h : e = 29 then h.symm ▸ cd29 else if h : e = 56 then h.symm ▸ cd56 else cdNone (inhT e)
def cxT : Cx := Cx.of cdT
theorem cxT_ok : cxT.Ok := Cx.of_ok cdT
set_option maxRecDepth 100000 in
theorem dom_cases {e : Nat} (h : (cdT e).dom = true) : e = 2 ∨ e = 3 ∨ e = 5 ∨ e = 25 ∨ e = 29 := by
  by_cases h0 : e = 2
  · exact .inl h0
  by_cases h1 : e = 3
  · exact .inr (.inl h1)
  by_cases h2 : e = 5
  · exact .inr (.inr (.inl h2))
  by_cases h3 : e = 25
  · exact .inr (.inr (.inr (.inl h3)))
  by_cases h4 : e = 29
  · exact .inr (.inr (.inr (.inr (h4))))
  by_cases h5 : e = 56
  · subst h5; exact absurd h (by intro hh; cases (show false = true from hh))
  · unfold cdT at h; rw [dif_neg h0, dif_neg h1, dif_neg h2, dif_neg h3, dif_neg h4, dif_neg h5] at h; exact Bool.noConfusion h

set_option maxRecDepth 100000 in
theorem cxT_pok : cxT.POk prog := by
  refine ⟨fun e he => ?_, fun e he hu o x => ?_⟩
  · rcases dom_cases he with rfl | rfl | rfl | rfl | rfl <;>
    exact ⟨_, _, rfl, rfl, rfl, by decide, rfl, by decide, rfl⟩
  · rcases dom_cases he with rfl | rfl | rfl | rfl | rfl
    · rw [show prog.underlying 2 = _ from rfl] at hu; cases hu
    · rw [show prog.underlying 3 = _ from rfl] at hu; cases hu
    · exact ⟨x, rfl⟩
    · rw [show prog.underlying 25 = _ from rfl] at hu; cases hu
    · rw [show prog.underlying 29 = _ from rfl] at hu; cases hu
end Go.Proofs.Try

set_option linter.unusedVariables false
namespace Go.Proofs.Try
open Go Go.VM Go.RowKit
/-! loop.example/g00222/laws.FnExactEntryFault -/
def a3 : Args cxT.ty (Int × Int × Int × Int × Int × Int × Int × Int × Int) := (Args.one (Arg.agg (SArg.cons (LArg.int .i64) (SArg.cons (LArg.int .i64) (SArg.cons (LArg.int .i64) (SArg.cons (LArg.int .i64) (SArg.cons (LArg.int .i64) (SArg.cons (LArg.int .i64) (SArg.cons (LArg.int .i64) (SArg.cons (LArg.int .i64) (SArg.one (LArg.int .i64))))))))))))
def n3 : Bool → V cxT.ty := fun t => (.inl (.inl (lv (.bool t))))
def dd3 : Bool := false
abbrev c3 (m : (Int × Int × Int × Int × Int × Int × Int × Int × Int) → Option Bool) := fnT (cx := cxT) a3 n3 dd3 m
theorem hs3 : ∀ t, noRoV (n3 t) = true ∨ noOwnV (n3 t) = true := fun _ => .inl rfl
/-! loop.example/g00222/laws.FnExactLogFault -/
def a4 : Args cxT.ty (List (Int × (Int × (Int × (Int × (Int × (Int × (Int × (Int × Int))))))))) := (Args.one (Arg.leaf (LArg.row 25)))
def n4 : Bool → V cxT.ty := fun t => (.inl (.inl (lv (.bool t))))
def dd4 : Bool := false
abbrev c4 (m : (List (Int × (Int × (Int × (Int × (Int × (Int × (Int × (Int × Int))))))))) → Option Bool) := fnT (cx := cxT) a4 n4 dd4 m
/-! loop.example/g00222/laws.FnExactLastOf -/
def a5 : Args cxT.ty (List (Int × (Int × (Int × (Int × (Int × (Int × (Int × (Int × Int))))))))) := (Args.one (Arg.leaf (LArg.row 25)))
def n5 : Bool → V cxT.ty := fun t => (.inl (.inl (lv (.bool t))))
def dd5 : Bool := false
abbrev c5 (m : (List (Int × (Int × (Int × (Int × (Int × (Int × (Int × (Int × Int))))))))) → Option Bool) := fnT (cx := cxT) a5 n5 dd5 m
/-! loop.example/g00222/laws.FnExactFitsAt -/
def a6 : Args cxT.ty ((List (Int × (Int × (Int × (Int × (Int × (Int × (Int × (Int × Int))))))))) × Int × Int) := (Args.cons (Arg.leaf (LArg.row 25)) (Args.cons (Arg.leaf (LArg.int .i64)) (Args.one (Arg.leaf (LArg.int .i64)))))
def n6 : Bool → V cxT.ty := fun t => (.inl (.inl (lv (.bool t))))
def dd6 : Bool := false
abbrev c6 (m : ((List (Int × (Int × (Int × (Int × (Int × (Int × (Int × (Int × Int))))))))) × Int × Int) → Option Bool) := fnT (cx := cxT) a6 n6 dd6 m
theorem hs6 : ∀ t, noRoV (n6 t) = true ∨ noOwnV (n6 t) = true := fun _ => .inl rfl
/-! loop.example/g00222/laws.FnExactTakeEntries -/
def n7 : Bool → V cxT.ty := fun t => (.inl (.inl (lv (.bool t))))
/-! loop.example/g00222/laws.FnExactUpToDate -/
def n8 : Bool → V cxT.ty := fun t => (.inl (.inl (lv (.bool t))))
/-! loop.example/g00222/laws.FnExactCommonOf -/
def n9 : Bool → V cxT.ty := fun t => (.inl (.inl (lv (.bool t))))
/-! loop.example/g00222/laws.FnExactSameEntries -/
/-! loop.example/g00222/spec.EntryFault -/
def a11 : Args cxT.ty (Int × Int × Int × Int × Int × Int × Int × Int × Int) := (Args.one (Arg.agg (SArg.cons (LArg.int .i64) (SArg.cons (LArg.int .i64) (SArg.cons (LArg.int .i64) (SArg.cons (LArg.int .i64) (SArg.cons (LArg.int .i64) (SArg.cons (LArg.int .i64) (SArg.cons (LArg.int .i64) (SArg.cons (LArg.int .i64) (SArg.one (LArg.int .i64))))))))))))
def n11 : Int → V cxT.ty := fun t => (.inl (.inl (lv (.int .i64 t))))
def dd11 : Int := (0 : Int)
abbrev c11 (m : (Int × Int × Int × Int × Int × Int × Int × Int × Int) → Option Int) := fnT (cx := cxT) a11 n11 dd11 m
theorem hs11 : ∀ t, noRoV (n11 t) = true ∨ noOwnV (n11 t) = true := fun _ => .inl rfl
/-! loop.example/g00222/laws.toEntry -/
def a12 : Args cxT.ty (Int × Int × Int × Int × Int × Int × Int × Int × Int) := (Args.one (Arg.agg (SArg.cons (LArg.int .i64) (SArg.cons (LArg.int .i64) (SArg.cons (LArg.int .i64) (SArg.cons (LArg.int .i64) (SArg.cons (LArg.int .i64) (SArg.cons (LArg.int .i64) (SArg.cons (LArg.int .i64) (SArg.cons (LArg.int .i64) (SArg.one (LArg.int .i64))))))))))))
def n12 : (Int × Int × Int × Int × Int × Int × Int × Int × Int) → V cxT.ty := fun t => (.inl (.inr [(lv (.int .i64 t.1)), (lv (.int .i64 t.2.1)), (lv (.int .i64 t.2.2.1)), (lv (.int .i64 t.2.2.2.1)), (lv (.int .i64 t.2.2.2.2.1)), (lv (.int .i64 t.2.2.2.2.2.1)), (lv (.int .i64 t.2.2.2.2.2.2.1)), (lv (.int .i64 t.2.2.2.2.2.2.2.1)), (lv (.int .i64 t.2.2.2.2.2.2.2.2))]))
def dd12 : (Int × Int × Int × Int × Int × Int × Int × Int × Int) := ((0 : Int), (0 : Int), (0 : Int), (0 : Int), (0 : Int), (0 : Int), (0 : Int), (0 : Int), (0 : Int))
abbrev c12 (m : (Int × Int × Int × Int × Int × Int × Int × Int × Int) → Option (Int × Int × Int × Int × Int × Int × Int × Int × Int)) := fnT (cx := cxT) a12 n12 dd12 m
theorem hs12 : ∀ t, noRoV (n12 t) = true ∨ noOwnV (n12 t) = true := fun _ => .inl rfl
/-! loop.example/g00222/impl.EntryFault -/
def a13 : Args cxT.ty (Int × Int × Int × Int × Int × Int × Int × Int × Int) := (Args.one (Arg.agg (SArg.cons (LArg.int .i64) (SArg.cons (LArg.int .i64) (SArg.cons (LArg.int .i64) (SArg.cons (LArg.int .i64) (SArg.cons (LArg.int .i64) (SArg.cons (LArg.int .i64) (SArg.cons (LArg.int .i64) (SArg.cons (LArg.int .i64) (SArg.one (LArg.int .i64))))))))))))
def n13 : Int → V cxT.ty := fun t => (.inl (.inl (lv (.int .i64 t))))
def dd13 : Int := (0 : Int)
abbrev c13 (m : (Int × Int × Int × Int × Int × Int × Int × Int × Int) → Option Int) := fnT (cx := cxT) a13 n13 dd13 m
theorem hs13 : ∀ t, noRoV (n13 t) = true ∨ noOwnV (n13 t) = true := fun _ => .inl rfl
/-! loop.example/g00222/laws.szEntryS -/
def a14 : Args cxT.ty ((List (Int × (Int × (Int × (Int × (Int × (Int × (Int × (Int × Int))))))))) × Int) := (Args.cons (Arg.leaf (LArg.row 25)) (Args.one (Arg.leaf (LArg.int .i64))))
def n14 : Int → V cxT.ty := fun t => (.inl (.inl (lv (.int .i64 t))))
def dd14 : Int := (0 : Int)
abbrev c14 (m : ((List (Int × (Int × (Int × (Int × (Int × (Int × (Int × (Int × Int))))))))) × Int) → Option Int) := fnT (cx := cxT) a14 n14 dd14 m
theorem hs14 : ∀ t, noRoV (n14 t) = true ∨ noOwnV (n14 t) = true := fun _ => .inl rfl
/-! loop.example/g00222/spec.LogFault -/
def a15 : Args cxT.ty (List (Int × (Int × (Int × (Int × (Int × (Int × (Int × (Int × Int))))))))) := (Args.one (Arg.leaf (LArg.row 29)))
def n15 : Int → V cxT.ty := fun t => (.inl (.inl (lv (.int .i64 t))))
def dd15 : Int := (0 : Int)
abbrev c15 (m : (List (Int × (Int × (Int × (Int × (Int × (Int × (Int × (Int × Int))))))))) → Option Int) := fnT (cx := cxT) a15 n15 dd15 m
theorem hs15 : ∀ t, noRoV (n15 t) = true ∨ noOwnV (n15 t) = true := fun _ => .inl rfl
/-! loop.example/g00222/laws.toEntryS -/
def a16 : Args cxT.ty (List (Int × (Int × (Int × (Int × (Int × (Int × (Int × (Int × Int))))))))) := (Args.one (Arg.leaf (LArg.row 25)))
def n16 : (List (Int × (Int × (Int × (Int × (Int × (Int × (Int × (Int × Int))))))))) → V cxT.ty := fun t => (.inl (.inl (ls { own := 2, nm := 0, e := 29, o := true, xs := t })))
def dd16 : (List (Int × (Int × (Int × (Int × (Int × (Int × (Int × (Int × Int))))))))) := []
abbrev c16 (m : (List (Int × (Int × (Int × (Int × (Int × (Int × (Int × (Int × Int))))))))) → Option (List (Int × (Int × (Int × (Int × (Int × (Int × (Int × (Int × Int)))))))))) := fnT (cx := cxT) a16 n16 dd16 m
theorem hs16 : ∀ t, noRoV (n16 t) = true ∨ noOwnV (n16 t) = true := fun _ => .inl rfl
/-! loop.example/g00222/impl.LogFault -/
def a17 : Args cxT.ty (List (Int × (Int × (Int × (Int × (Int × (Int × (Int × (Int × Int))))))))) := (Args.one (Arg.leaf (LArg.row 29)))
def n17 : Int → V cxT.ty := fun t => (.inl (.inl (lv (.int .i64 t))))
def dd17 : Int := (0 : Int)
abbrev c17 (m : (List (Int × (Int × (Int × (Int × (Int × (Int × (Int × (Int × Int))))))))) → Option Int) := fnT (cx := cxT) a17 n17 dd17 m
theorem hs17 : ∀ t, noRoV (n17 t) = true ∨ noOwnV (n17 t) = true := fun _ => .inl rfl
/-! loop.example/g00222/laws.eqEntryS -/
def a18 : Args cxT.ty ((List (Int × (Int × (Int × (Int × (Int × (Int × (Int × (Int × Int))))))))) × (List (Int × (Int × (Int × (Int × (Int × (Int × (Int × (Int × Int)))))))))) := (Args.cons (Arg.leaf (LArg.row 29)) (Args.one (Arg.leaf (LArg.row 29))))
def n18 : Bool → V cxT.ty := fun t => (.inl (.inl (lv (.bool t))))
def dd18 : Bool := false
abbrev c18 (m : ((List (Int × (Int × (Int × (Int × (Int × (Int × (Int × (Int × Int))))))))) × (List (Int × (Int × (Int × (Int × (Int × (Int × (Int × (Int × Int)))))))))) → Option Bool) := fnT (cx := cxT) a18 n18 dd18 m
theorem hs18 : ∀ t, noRoV (n18 t) = true ∨ noOwnV (n18 t) = true := fun _ => .inl rfl
/-! loop.example/g00222/spec.LastOf -/
def a19 : Args cxT.ty (List (Int × (Int × (Int × (Int × (Int × (Int × (Int × (Int × Int))))))))) := (Args.one (Arg.leaf (LArg.row 29)))
def n19 : (Int × Int × Int × Int × Int × Int × Int × Int × Int) → V cxT.ty := fun t => (.inl (.inr [(lv (.int .i64 t.1)), (lv (.int .i64 t.2.1)), (lv (.int .i64 t.2.2.1)), (lv (.int .i64 t.2.2.2.1)), (lv (.int .i64 t.2.2.2.2.1)), (lv (.int .i64 t.2.2.2.2.2.1)), (lv (.int .i64 t.2.2.2.2.2.2.1)), (lv (.int .i64 t.2.2.2.2.2.2.2.1)), (lv (.int .i64 t.2.2.2.2.2.2.2.2))]))
def dd19 : (Int × Int × Int × Int × Int × Int × Int × Int × Int) := ((0 : Int), (0 : Int), (0 : Int), (0 : Int), (0 : Int), (0 : Int), (0 : Int), (0 : Int), (0 : Int))
abbrev c19 (m : (List (Int × (Int × (Int × (Int × (Int × (Int × (Int × (Int × Int))))))))) → Option (Int × Int × Int × Int × Int × Int × Int × Int × Int)) := fnT (cx := cxT) a19 n19 dd19 m
/-! loop.example/g00222/impl.LastOf -/
def a20 : Args cxT.ty (List (Int × (Int × (Int × (Int × (Int × (Int × (Int × (Int × Int))))))))) := (Args.one (Arg.leaf (LArg.row 29)))
def n20 : (Int × Int × Int × Int × Int × Int × Int × Int × Int) → V cxT.ty := fun t => (.inl (.inr [(lv (.int .i64 t.1)), (lv (.int .i64 t.2.1)), (lv (.int .i64 t.2.2.1)), (lv (.int .i64 t.2.2.2.1)), (lv (.int .i64 t.2.2.2.2.1)), (lv (.int .i64 t.2.2.2.2.2.1)), (lv (.int .i64 t.2.2.2.2.2.2.1)), (lv (.int .i64 t.2.2.2.2.2.2.2.1)), (lv (.int .i64 t.2.2.2.2.2.2.2.2))]))
def dd20 : (Int × Int × Int × Int × Int × Int × Int × Int × Int) := ((0 : Int), (0 : Int), (0 : Int), (0 : Int), (0 : Int), (0 : Int), (0 : Int), (0 : Int), (0 : Int))
abbrev c20 (m : (List (Int × (Int × (Int × (Int × (Int × (Int × (Int × (Int × Int))))))))) → Option (Int × Int × Int × Int × Int × Int × Int × Int × Int)) := fnT (cx := cxT) a20 n20 dd20 m
/-! loop.example/g00222/laws.eqEntry -/
def a21 : Args cxT.ty ((Int × Int × Int × Int × Int × Int × Int × Int × Int) × (Int × Int × Int × Int × Int × Int × Int × Int × Int)) := (Args.cons (Arg.agg (SArg.cons (LArg.int .i64) (SArg.cons (LArg.int .i64) (SArg.cons (LArg.int .i64) (SArg.cons (LArg.int .i64) (SArg.cons (LArg.int .i64) (SArg.cons (LArg.int .i64) (SArg.cons (LArg.int .i64) (SArg.cons (LArg.int .i64) (SArg.one (LArg.int .i64))))))))))) (Args.one (Arg.agg (SArg.cons (LArg.int .i64) (SArg.cons (LArg.int .i64) (SArg.cons (LArg.int .i64) (SArg.cons (LArg.int .i64) (SArg.cons (LArg.int .i64) (SArg.cons (LArg.int .i64) (SArg.cons (LArg.int .i64) (SArg.cons (LArg.int .i64) (SArg.one (LArg.int .i64)))))))))))))
def n21 : Bool → V cxT.ty := fun t => (.inl (.inl (lv (.bool t))))
def dd21 : Bool := false
abbrev c21 (m : ((Int × Int × Int × Int × Int × Int × Int × Int × Int) × (Int × Int × Int × Int × Int × Int × Int × Int × Int)) → Option Bool) := fnT (cx := cxT) a21 n21 dd21 m
theorem hs21 : ∀ t, noRoV (n21 t) = true ∨ noOwnV (n21 t) = true := fun _ => .inl rfl
/-! loop.example/g00222/spec.FitsAt -/
def a22 : Args cxT.ty ((List (Int × (Int × (Int × (Int × (Int × (Int × (Int × (Int × Int))))))))) × Int × Int) := (Args.cons (Arg.leaf (LArg.row 29)) (Args.cons (Arg.leaf (LArg.int .i64)) (Args.one (Arg.leaf (LArg.int .i64)))))
def n22 : Bool → V cxT.ty := fun t => (.inl (.inl (lv (.bool t))))
def dd22 : Bool := false
abbrev c22 (m : ((List (Int × (Int × (Int × (Int × (Int × (Int × (Int × (Int × Int))))))))) × Int × Int) → Option Bool) := fnT (cx := cxT) a22 n22 dd22 m
theorem hs22 : ∀ t, noRoV (n22 t) = true ∨ noOwnV (n22 t) = true := fun _ => .inl rfl
/-! loop.example/g00222/impl.FitsAt -/
def a23 : Args cxT.ty ((List (Int × (Int × (Int × (Int × (Int × (Int × (Int × (Int × Int))))))))) × Int × Int) := (Args.cons (Arg.leaf (LArg.row 29)) (Args.cons (Arg.leaf (LArg.int .i64)) (Args.one (Arg.leaf (LArg.int .i64)))))
def n23 : Bool → V cxT.ty := fun t => (.inl (.inl (lv (.bool t))))
def dd23 : Bool := false
abbrev c23 (m : ((List (Int × (Int × (Int × (Int × (Int × (Int × (Int × (Int × Int))))))))) × Int × Int) → Option Bool) := fnT (cx := cxT) a23 n23 dd23 m
theorem hs23 : ∀ t, noRoV (n23 t) = true ∨ noOwnV (n23 t) = true := fun _ => .inl rfl
/-! loop.example/g00222/spec.TakeEntries -/
/-! loop.example/g00222/impl.TakeEntries -/
/-! loop.example/g00222/laws.eqEntriesResult -/
/-! loop.example/g00222/laws.markEntryS -/
/-! loop.example/g00222/laws.markEntriesResult -/
/-! loop.example/g00222/laws.heldEntriesResult -/
/-! loop.example/g00222/spec.UpToDate -/
/-! loop.example/g00222/impl.UpToDate -/
/-! loop.example/g00222/spec.CommonOf -/
/-! loop.example/g00222/impl.CommonOf -/
/-! loop.example/g00222/spec.SameEntries -/
/-! loop.example/g00222/impl.SameEntries -/
/-! loop.example/g00222/spec.l1In -/
def a36 : Args cxT.ty (Int × Int × Int) := (Args.cons (Arg.leaf (LArg.int .i64)) (Args.cons (Arg.leaf (LArg.int .i64)) (Args.one (Arg.leaf (LArg.int .i64)))))
def n36 : Bool → V cxT.ty := fun t => (.inl (.inl (lv (.bool t))))
def dd36 : Bool := false
abbrev c36 (m : (Int × Int × Int) → Option Bool) := fnT (cx := cxT) a36 n36 dd36 m
theorem hs36 : ∀ t, noRoV (n36 t) = true ∨ noOwnV (n36 t) = true := fun _ => .inl rfl
/-! loop.example/g00222/spec.CmdFault -/
def a37 : Args cxT.ty (Int × Int × Int × Int × Int × Int) := (Args.one (Arg.agg (SArg.cons (LArg.int .i64) (SArg.cons (LArg.int .i64) (SArg.cons (LArg.int .i64) (SArg.cons (LArg.int .i64) (SArg.cons (LArg.int .i64) (SArg.one (LArg.int .i64)))))))))
def n37 : Int → V cxT.ty := fun t => (.inl (.inl (lv (.int .i64 t))))
def dd37 : Int := (0 : Int)
abbrev c37 (m : (Int × Int × Int × Int × Int × Int) → Option Int) := fnT (cx := cxT) a37 n37 dd37 m
/-! loop.example/g00222/laws.toCmd -/
def a38 : Args cxT.ty (Int × Int × Int × Int × Int × Int) := (Args.one (Arg.agg (SArg.cons (LArg.int .i64) (SArg.cons (LArg.int .i64) (SArg.cons (LArg.int .i64) (SArg.cons (LArg.int .i64) (SArg.cons (LArg.int .i64) (SArg.one (LArg.int .i64)))))))))
def n38 : (Int × Int × Int × Int × Int × Int) → V cxT.ty := fun t => (.inl (.inr [(lv (.int .i64 t.1)), (lv (.int .i64 t.2.1)), (lv (.int .i64 t.2.2.1)), (lv (.int .i64 t.2.2.2.1)), (lv (.int .i64 t.2.2.2.2.1)), (lv (.int .i64 t.2.2.2.2.2))]))
def dd38 : (Int × Int × Int × Int × Int × Int) := ((0 : Int), (0 : Int), (0 : Int), (0 : Int), (0 : Int), (0 : Int))
abbrev c38 (m : (Int × Int × Int × Int × Int × Int) → Option (Int × Int × Int × Int × Int × Int)) := fnT (cx := cxT) a38 n38 dd38 m
theorem hs38 : ∀ t, noRoV (n38 t) = true ∨ noOwnV (n38 t) = true := fun _ => .inl rfl
/-! loop.example/g00222/impl.isTerm -/
def a39 : Args cxT.ty Int := (Args.one (Arg.leaf (LArg.int .i64)))
def n39 : Bool → V cxT.ty := fun t => (.inl (.inl (lv (.bool t))))
def dd39 : Bool := false
abbrev c39 (m : Int → Option Bool) := fnT (cx := cxT) a39 n39 dd39 m
theorem hs39 : ∀ t, noRoV (n39 t) = true ∨ noOwnV (n39 t) = true := fun _ => .inl rfl
/-! loop.example/g00222/impl.isClient -/
def a40 : Args cxT.ty Int := (Args.one (Arg.leaf (LArg.int .i64)))
def n40 : Bool → V cxT.ty := fun t => (.inl (.inl (lv (.bool t))))
def dd40 : Bool := false
abbrev c40 (m : Int → Option Bool) := fnT (cx := cxT) a40 n40 dd40 m
theorem hs40 : ∀ t, noRoV (n40 t) = true ∨ noOwnV (n40 t) = true := fun _ => .inl rfl
/-! loop.example/g00222/impl.isSeq -/
def a41 : Args cxT.ty Int := (Args.one (Arg.leaf (LArg.int .i64)))
def n41 : Bool → V cxT.ty := fun t => (.inl (.inl (lv (.bool t))))
def dd41 : Bool := false
abbrev c41 (m : Int → Option Bool) := fnT (cx := cxT) a41 n41 dd41 m
theorem hs41 : ∀ t, noRoV (n41 t) = true ∨ noOwnV (n41 t) = true := fun _ => .inl rfl
/-! loop.example/g00222/impl.CmdFault -/
def a42 : Args cxT.ty (Int × Int × Int × Int × Int × Int) := (Args.one (Arg.agg (SArg.cons (LArg.int .i64) (SArg.cons (LArg.int .i64) (SArg.cons (LArg.int .i64) (SArg.cons (LArg.int .i64) (SArg.cons (LArg.int .i64) (SArg.one (LArg.int .i64)))))))))
def n42 : Int → V cxT.ty := fun t => (.inl (.inl (lv (.int .i64 t))))
def dd42 : Int := (0 : Int)
abbrev c42 (m : (Int × Int × Int × Int × Int × Int) → Option Int) := fnT (cx := cxT) a42 n42 dd42 m
/-! (loop.example/g00222/impl.indexed[loop.example/g00222/impl.Entry]).at -/
def a43 : Args cxT.ty ((List (Int × (Int × (Int × (Int × (Int × (Int × (Int × (Int × Int))))))))) × Int) := (Args.cons (Arg.leaf (LArg.row 29)) (Args.one (Arg.leaf (LArg.int .i64))))
def n43 : (Int × Int × Int × Int × Int × Int × Int × Int × Int × Bool) → V cxT.ty := fun t => (.inr (.inl [(.inr [(lv (.int .i64 t.1)), (lv (.int .i64 t.2.1)), (lv (.int .i64 t.2.2.1)), (lv (.int .i64 t.2.2.2.1)), (lv (.int .i64 t.2.2.2.2.1)), (lv (.int .i64 t.2.2.2.2.2.1)), (lv (.int .i64 t.2.2.2.2.2.2.1)), (lv (.int .i64 t.2.2.2.2.2.2.2.1)), (lv (.int .i64 t.2.2.2.2.2.2.2.2.1))]), (.inl (lv (.bool t.2.2.2.2.2.2.2.2.2)))]))
def dd43 : (Int × Int × Int × Int × Int × Int × Int × Int × Int × Bool) := ((0 : Int), (0 : Int), (0 : Int), (0 : Int), (0 : Int), (0 : Int), (0 : Int), (0 : Int), (0 : Int), false)
abbrev c43 (m : ((List (Int × (Int × (Int × (Int × (Int × (Int × (Int × (Int × Int))))))))) × Int) → Option (Int × Int × Int × Int × Int × Int × Int × Int × Int × Bool)) := fnT (cx := cxT) a43 n43 dd43 m
theorem hs43 : ∀ t, noRoV (n43 t) = true ∨ noOwnV (n43 t) = true := fun _ => .inl rfl
/-! (loop.example/g00222/impl.indexed[loop.example/g00222/impl.Entry]).count -/
def a44 : Args cxT.ty (List (Int × (Int × (Int × (Int × (Int × (Int × (Int × (Int × Int))))))))) := (Args.one (Arg.leaf (LArg.row 29)))
def n44 : Int → V cxT.ty := fun t => (.inl (.inl (lv (.int .i64 t))))
def dd44 : Int := (0 : Int)
abbrev c44 (m : (List (Int × (Int × (Int × (Int × (Int × (Int × (Int × (Int × Int))))))))) → Option Int) := fnT (cx := cxT) a44 n44 dd44 m
theorem hs44 : ∀ t, noRoV (n44 t) = true ∨ noOwnV (n44 t) = true := fun _ => .inl rfl
/-! loop.example/g00222/laws.eqCmd -/
def a45 : Args cxT.ty ((Int × Int × Int × Int × Int × Int) × (Int × Int × Int × Int × Int × Int)) := (Args.cons (Arg.agg (SArg.cons (LArg.int .i64) (SArg.cons (LArg.int .i64) (SArg.cons (LArg.int .i64) (SArg.cons (LArg.int .i64) (SArg.cons (LArg.int .i64) (SArg.one (LArg.int .i64)))))))) (Args.one (Arg.agg (SArg.cons (LArg.int .i64) (SArg.cons (LArg.int .i64) (SArg.cons (LArg.int .i64) (SArg.cons (LArg.int .i64) (SArg.cons (LArg.int .i64) (SArg.one (LArg.int .i64))))))))))
def n45 : Bool → V cxT.ty := fun t => (.inl (.inl (lv (.bool t))))
def dd45 : Bool := false
abbrev c45 (m : ((Int × Int × Int × Int × Int × Int) × (Int × Int × Int × Int × Int × Int)) → Option Bool) := fnT (cx := cxT) a45 n45 dd45 m
theorem hs45 : ∀ t, noRoV (n45 t) = true ∨ noOwnV (n45 t) = true := fun _ => .inl rfl
/-! loop.example/g00222/spec.l7Fits -/
def a46 : Args cxT.ty ((List (Int × (Int × (Int × (Int × (Int × (Int × (Int × (Int × Int))))))))) × Int × Int) := (Args.cons (Arg.leaf (LArg.row 29)) (Args.cons (Arg.leaf (LArg.int .i64)) (Args.one (Arg.leaf (LArg.int .i64)))))
def n46 : Bool → V cxT.ty := fun t => (.inl (.inl (lv (.bool t))))
def dd46 : Bool := false
abbrev c46 (m : ((List (Int × (Int × (Int × (Int × (Int × (Int × (Int × (Int × Int))))))))) × Int × Int) → Option Bool) := fnT (cx := cxT) a46 n46 dd46 m
theorem hs46 : ∀ t, noRoV (n46 t) = true ∨ noOwnV (n46 t) = true := fun _ => .inl rfl
/-! loop.example/g00222/spec.l7Take -/
/-! loop.example/g00222/impl.putBehind -/
/-! loop.example/g00222/laws.heldEntryS -/
/-! loop.example/g00222/spec.l7UpToDate -/
/-! (loop.example/g00222/impl.indexed[loop.example/g00222/impl.Entry]).alike -/
/-! loop.example/g00222/impl.isSameEntry -/
/-! loop.example/g00222/spec.l5Needs -/
def a53 : Args cxT.ty Int := (Args.one (Arg.leaf (LArg.int .i64)))
def n53 : (Bool × Bool × Bool × Bool) → V cxT.ty := fun t => (.inr (.inl [(.inl (lv (.bool t.1))), (.inl (lv (.bool t.2.1))), (.inl (lv (.bool t.2.2.1))), (.inl (lv (.bool t.2.2.2)))]))
def dd53 : (Bool × Bool × Bool × Bool) := (false, false, false, false)
abbrev c53 (m : Int → Option (Bool × Bool × Bool × Bool)) := fnT (cx := cxT) a53 n53 dd53 m
theorem hs53 : ∀ t, noRoV (n53 t) = true ∨ noOwnV (n53 t) = true := fun _ => .inl rfl
/-! loop.example/g00222/spec.l5Version -/
def a54 : Args cxT.ty Int := (Args.one (Arg.leaf (LArg.int .i64)))
def n54 : Bool → V cxT.ty := fun t => (.inl (.inl (lv (.bool t))))
def dd54 : Bool := false
abbrev c54 (m : Int → Option Bool) := fnT (cx := cxT) a54 n54 dd54 m
theorem hs54 : ∀ t, noRoV (n54 t) = true ∨ noOwnV (n54 t) = true := fun _ => .inl rfl
/-! loop.example/g00222/spec.l3Name -/
def a55 : Args cxT.ty Int := (Args.one (Arg.leaf (LArg.int .i64)))
def n55 : Bool → V cxT.ty := fun t => (.inl (.inl (lv (.bool t))))
def dd55 : Bool := false
abbrev c55 (m : Int → Option Bool) := fnT (cx := cxT) a55 n55 dd55 m
theorem hs55 : ∀ t, noRoV (n55 t) = true ∨ noOwnV (n55 t) = true := fun _ => .inl rfl
/-! loop.example/g00222/spec.l2Address -/
def a56 : Args cxT.ty Int := (Args.one (Arg.leaf (LArg.int .i64)))
def n56 : Bool → V cxT.ty := fun t => (.inl (.inl (lv (.bool t))))
def dd56 : Bool := false
abbrev c56 (m : Int → Option Bool) := fnT (cx := cxT) a56 n56 dd56 m
theorem hs56 : ∀ t, noRoV (n56 t) = true ∨ noOwnV (n56 t) = true := fun _ => .inl rfl
/-! loop.example/g00222/spec.l5Number -/
def a57 : Args cxT.ty (Int × Int × Int × Int × Int × Int) := (Args.one (Arg.agg (SArg.cons (LArg.int .i64) (SArg.cons (LArg.int .i64) (SArg.cons (LArg.int .i64) (SArg.cons (LArg.int .i64) (SArg.cons (LArg.int .i64) (SArg.one (LArg.int .i64)))))))))
def n57 : Bool → V cxT.ty := fun t => (.inl (.inl (lv (.bool t))))
def dd57 : Bool := false
abbrev c57 (m : (Int × Int × Int × Int × Int × Int) → Option Bool) := fnT (cx := cxT) a57 n57 dd57 m
theorem hs57 : ∀ t, noRoV (n57 t) = true ∨ noOwnV (n57 t) = true := fun _ => .inl rfl
/-! loop.example/g00222/spec.l5Proto -/
def a58 : Args cxT.ty Int := (Args.one (Arg.leaf (LArg.int .i64)))
def n58 : Bool → V cxT.ty := fun t => (.inl (.inl (lv (.bool t))))
def dd58 : Bool := false
abbrev c58 (m : Int → Option Bool) := fnT (cx := cxT) a58 n58 dd58 m
theorem hs58 : ∀ t, noRoV (n58 t) = true ∨ noOwnV (n58 t) = true := fun _ => .inl rfl
/-! loop.example/g00222/impl.isVersion -/
def a59 : Args cxT.ty Int := (Args.one (Arg.leaf (LArg.int .i64)))
def n59 : Bool → V cxT.ty := fun t => (.inl (.inl (lv (.bool t))))
def dd59 : Bool := false
abbrev c59 (m : Int → Option Bool) := fnT (cx := cxT) a59 n59 dd59 m
theorem hs59 : ∀ t, noRoV (n59 t) = true ∨ noOwnV (n59 t) = true := fun _ => .inl rfl
/-! loop.example/g00222/spec.l7Copy -/
/-! (loop.example/g00222/impl.indexed[loop.example/g00222/impl.Entry]).behind -/
/-! loop.example/g00222/impl.isSameTerm -/
/-! (loop.example/g00222/impl.indexed[loop.example/g00222/impl.Entry]).with -/
def a64 : Args cxT.ty ((List (Int × (Int × (Int × (Int × (Int × (Int × (Int × (Int × Int))))))))) × Int × (List (Int × (Int × (Int × (Int × (Int × (Int × (Int × (Int × Int)))))))))) := (Args.cons (Arg.leaf (LArg.row 29)) (Args.cons (Arg.leaf (LArg.int .i64)) (Args.one (Arg.leaf (LArg.row 29)))))
def n64 : (List (Int × (Int × (Int × (Int × (Int × (Int × (Int × (Int × Int))))))))) → V cxT.ty := fun t => (.inl (.inl (ls { own := 2, nm := 0, e := 29, o := true, xs := t })))
/-! loop.example/g00222/spec.l2Port -/
def a65 : Args cxT.ty Int := (Args.one (Arg.leaf (LArg.int .i64)))
def n65 : Bool → V cxT.ty := fun t => (.inl (.inl (lv (.bool t))))
def dd65 : Bool := false
abbrev c65 (m : Int → Option Bool) := fnT (cx := cxT) a65 n65 dd65 m
theorem hs65 : ∀ t, noRoV (n65 t) = true ∨ noOwnV (n65 t) = true := fun _ => .inl rfl
/-! loop.example/g00222/impl.isName -/
def a66 : Args cxT.ty Int := (Args.one (Arg.leaf (LArg.int .i64)))
def n66 : Bool → V cxT.ty := fun t => (.inl (.inl (lv (.bool t))))
def dd66 : Bool := false
abbrev c66 (m : Int → Option Bool) := fnT (cx := cxT) a66 n66 dd66 m
theorem hs66 : ∀ t, noRoV (n66 t) = true ∨ noOwnV (n66 t) = true := fun _ => .inl rfl
/-! loop.example/g00222/impl.isAddress -/
def a67 : Args cxT.ty Int := (Args.one (Arg.leaf (LArg.int .i64)))
def n67 : Bool → V cxT.ty := fun t => (.inl (.inl (lv (.bool t))))
def dd67 : Bool := false
abbrev c67 (m : Int → Option Bool) := fnT (cx := cxT) a67 n67 dd67 m
theorem hs67 : ∀ t, noRoV (n67 t) = true ∨ noOwnV (n67 t) = true := fun _ => .inl rfl
/-! loop.example/g00222/impl.isWeight -/
def a68 : Args cxT.ty Int := (Args.one (Arg.leaf (LArg.int .i64)))
def n68 : Bool → V cxT.ty := fun t => (.inl (.inl (lv (.bool t))))
def dd68 : Bool := false
abbrev c68 (m : Int → Option Bool) := fnT (cx := cxT) a68 n68 dd68 m
theorem hs68 : ∀ t, noRoV (n68 t) = true ∨ noOwnV (n68 t) = true := fun _ => .inl rfl
/-! loop.example/g00222/impl.isStage -/
def a71 : Args cxT.ty Int := (Args.one (Arg.leaf (LArg.int .i64)))
def n71 : Bool → V cxT.ty := fun t => (.inl (.inl (lv (.bool t))))
def dd71 : Bool := false
abbrev c71 (m : Int → Option Bool) := fnT (cx := cxT) a71 n71 dd71 m
theorem hs71 : ∀ t, noRoV (n71 t) = true ∨ noOwnV (n71 t) = true := fun _ => .inl rfl
/-! loop.example/g00222/impl.isPort -/
def a74 : Args cxT.ty Int := (Args.one (Arg.leaf (LArg.int .i64)))
def n74 : Bool → V cxT.ty := fun t => (.inl (.inl (lv (.bool t))))
def dd74 : Bool := false
abbrev c74 (m : Int → Option Bool) := fnT (cx := cxT) a74 n74 dd74 m
theorem hs74 : ∀ t, noRoV (n74 t) = true ∨ noOwnV (n74 t) = true := fun _ => .inl rfl
/-! loop.example/g00222/impl.isProto -/
def a75 : Args cxT.ty Int := (Args.one (Arg.leaf (LArg.int .i64)))
def n75 : Bool → V cxT.ty := fun t => (.inl (.inl (lv (.bool t))))
def dd75 : Bool := false
abbrev c75 (m : Int → Option Bool) := fnT (cx := cxT) a75 n75 dd75 m
theorem hs75 : ∀ t, noRoV (n75 t) = true ∨ noOwnV (n75 t) = true := fun _ => .inl rfl
/-! loop.example/g00222/impl.isYesOrNo -/
def a80 : Args cxT.ty Int := (Args.one (Arg.leaf (LArg.int .i64)))
def n80 : Bool → V cxT.ty := fun t => (.inl (.inl (lv (.bool t))))
def dd80 : Bool := false
abbrev c80 (m : Int → Option Bool) := fnT (cx := cxT) a80 n80 dd80 m
theorem hs80 : ∀ t, noRoV (n80 t) = true ∨ noOwnV (n80 t) = true := fun _ => .inl rfl
/-! slices.Concat[loop.example/g00222/impl.indexed[loop.example/g00222/impl.Entry],loop.example/g00222/impl.Entry] -/
def a82 : Args cxT.ty (List (List (Int × (Int × (Int × (Int × (Int × (Int × (Int × (Int × Int)))))))))) := (Args.one (Arg.leaf (LArg.row 56)))
def n82 : (List (Int × (Int × (Int × (Int × (Int × (Int × (Int × (Int × Int))))))))) → V cxT.ty := fun t => (.inl (.inl (ls { own := 2, nm := 0, e := 29, o := true, xs := t })))
def dd82 : (List (Int × (Int × (Int × (Int × (Int × (Int × (Int × (Int × Int))))))))) := []
abbrev c82 (m : (List (List (Int × (Int × (Int × (Int × (Int × (Int × (Int × (Int × Int)))))))))) → Option (List (Int × (Int × (Int × (Int × (Int × (Int × (Int × (Int × Int)))))))))) := fnT (cx := cxT) a82 n82 dd82 m
/-! loop.example/g00222/impl.backendPlace -/
/-! slices.Insert[[]loop.example/g00222/impl.Backend,loop.example/g00222/impl.Backend] -/
/-! slices.Contains[[]int64,int64] -/
/-! slices.Delete[[]loop.example/g00222/impl.Backend,loop.example/g00222/impl.Backend] -/
/-! loop.example/g00222/impl.vipPlace -/
/-! slices.Insert[[]loop.example/g00222/impl.Vip,loop.example/g00222/impl.Vip] -/
/-! slices.Delete[[]loop.example/g00222/impl.Vip,loop.example/g00222/impl.Vip] -/
/-! slices.BinarySearch[[]int64,int64] -/
/-! slices.Insert[[]int64,int64] -/
/-! slices.Delete[[]int64,int64] -/
/-! slices.Grow[loop.example/g00222/impl.indexed[loop.example/g00222/impl.Entry],loop.example/g00222/impl.Entry] -/
/-! loop.example/g00222/impl.backendPlace$1 -/
/-! cmp.Compare[int64] -/
/-! slices.overlaps[loop.example/g00222/impl.Backend] -/
/-! slices.rotateRight[loop.example/g00222/impl.Backend] -/
/-! slices.Index[[]int64,int64] -/
/-! loop.example/g00222/impl.compareVips -/
/-! slices.overlaps[loop.example/g00222/impl.Vip] -/
/-! slices.rotateRight[loop.example/g00222/impl.Vip] -/
/-! cmp.Less[int64] -/
/-! slices.isNaN[int64] -/
/-! slices.overlaps[int64] -/
/-! slices.rotateRight[int64] -/
/-! cmp.isNaN[int64] -/
/-! slices.rotateLeft[loop.example/g00222/impl.Backend] -/
/-! cmp.Or[int] -/
/-! slices.rotateLeft[loop.example/g00222/impl.Vip] -/
/-! slices.rotateLeft[int64] -/
/-! slices.Reverse[[]loop.example/g00222/impl.Backend,loop.example/g00222/impl.Backend] -/
/-! slices.Reverse[[]loop.example/g00222/impl.Vip,loop.example/g00222/impl.Vip] -/
/-! slices.Reverse[[]int64,int64] -/
/-! (runtime.boundsError).Error -/
/-! (runtime.boundsError).RuntimeError -/
/-! (runtime.errorString).Error -/
/-! (runtime.errorString).RuntimeError -/
/-! (runtime.plainError).Error -/
/-! (runtime.plainError).RuntimeError -/
/-! (runtime.errorAddressString).Error -/
/-! (runtime.errorAddressString).RuntimeError -/
/-! (internal/abi.Kind).String -/
/-! (loop.example/g00222/impl.indexed[loop.example/g00222/impl.Entry]).alike -/
end Go.Proofs.Try
