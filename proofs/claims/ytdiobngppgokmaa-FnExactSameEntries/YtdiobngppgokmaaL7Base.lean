/- A part of the proof of FnExactSameEntries: L7Base, L7Con. -/
import Derived.Test.YtdiobngppgokmaaVmJ
import Derived.Test.YtdiobngppgokmaaProg
namespace Go.Proofs.Try
open Go Go.VM Go.RowKit

def tyT (e : Nat) : Type := if e = 2 then Int else if e = 3 then Int else if e = 5 then Int else if e = 25 then Int × Int × Int × Int × Int × Int × Int × Int × Int else if e = 29 then Int × Int × Int × Int × Int × Int × Int × Int × Int else if e = 56 then List (Int × Int × Int × Int × Int × Int × Int × Int × Int) else Unit
def inhT (e : Nat) : tyT e := by
  unfold tyT
  repeat' split
  all_goals first | exact ((0 : Int) : Int) | exact ((0 : Int) : Int) | exact ((0 : Int) : Int) | exact (((0 : Int), (0 : Int), (0 : Int), (0 : Int), (0 : Int), (0 : Int), (0 : Int), (0 : Int), (0 : Int)) : Int × Int × Int × Int × Int × Int × Int × Int × Int) | exact (((0 : Int), (0 : Int), (0 : Int), (0 : Int), (0 : Int), (0 : Int), (0 : Int), (0 : Int), (0 : Int)) : Int × Int × Int × Int × Int × Int × Int × Int × Int) | exact ([] : List (Int × Int × Int × Int × Int × Int × Int × Int × Int)) | exact ()
def cd2 : Cd tyT (tyT 2) := cdInt .i64
def cd3 : Cd tyT (tyT 3) := cdInt .i64
def cd5 : Cd tyT (tyT 5) := cdInt .u8
def cd25 : Cd tyT (tyT 25) := cdPair (cdInt .i64) (cdPair (cdInt .i64) (cdPair (cdInt .i64) (cdPair (cdInt .i64) (cdPair (cdInt .i64) (cdPair (cdInt .i64) (cdPair (cdInt .i64) (cdPair (cdInt .i64) (cdInt .i64))))))))
def cd29 : Cd tyT (tyT 29) := cdPair (cdInt .i64) (cdPair (cdInt .i64) (cdPair (cdInt .i64) (cdPair (cdInt .i64) (cdPair (cdInt .i64) (cdPair (cdInt .i64) (cdPair (cdInt .i64) (cdPair (cdInt .i64) (cdInt .i64))))))))
def cd56 : Cd tyT (tyT 56) := cdRow 29
def cdT (e : Nat) : Cd tyT (tyT e) :=
  if h : e = 2 then h.symm ▸ cd2 else if h : e = 3 then h.symm ▸ cd3 else if h : e = 5 then h.symm ▸ cd5 else if h : e = 25 then h.symm ▸ cd25 else if h : e = 29 then h.symm ▸ cd29 else if h : e = 56 then h.symm ▸ cd56 else cdNone (inhT e)
def cxT : Cx := Cx.of cdT
theorem cxT_ok : cxT.Ok := Cx.of_ok cdT
set_option maxRecDepth 100000 in
theorem dom_cases {e : Nat} (h : (cdT e).dom = true) : e = 2 ∨ e = 3 ∨ e = 5 ∨ e = 25 ∨ e = 29 := by
  by_cases h0 : e = 2
  · exact .inl h0
  by_cases h1 : e = 3
  · exact .inr (.inl h1)
  by_cases h2 : e = 5
  · exact .inr (.inr (.inl h2))
  by_cases h3 : e = 25
  · exact .inr (.inr (.inr (.inl h3)))
  by_cases h4 : e = 29
  · exact .inr (.inr (.inr (.inr (h4))))
  by_cases h5 : e = 56
  · subst h5; exact absurd h (by intro hh; cases (show false = true from hh))
  · unfold cdT at h; rw [dif_neg h0, dif_neg h1, dif_neg h2, dif_neg h3, dif_neg h4, dif_neg h5] at h; exact Bool.noConfusion h

set_option maxRecDepth 100000 in
theorem cxT_pok : cxT.POk prog := by
  refine ⟨fun e he => ?_, fun e he hu o x => ?_⟩
  · rcases dom_cases he with rfl | rfl | rfl | rfl | rfl <;>
    exact ⟨_, _, rfl, rfl, rfl, by decide, rfl, by decide, rfl⟩
  · rcases dom_cases he with rfl | rfl | rfl | rfl | rfl
    · rw [show prog.underlying 2 = _ from rfl] at hu; cases hu
    · rw [show prog.underlying 3 = _ from rfl] at hu; cases hu
    · exact ⟨x, rfl⟩
    · rw [show prog.underlying 25 = _ from rfl] at hu; cases hu
    · rw [show prog.underlying 29 = _ from rfl] at hu; cases hu
end Go.Proofs.Try

set_option linter.unusedVariables false
namespace Go.Proofs.Try
open Go Go.VM Go.RowKit
/-! loop.example/g00222/laws.FnExactEntryFault -/
def a3 : Args cxT.ty (Int × Int × Int × Int × Int × Int × Int × Int × Int) := (Args.one (Arg.agg (SArg.cons (LArg.int .i64) (SArg.cons (LArg.int .i64) (SArg.cons (LArg.int .i64) (SArg.cons (LArg.int .i64) (SArg.cons (LArg.int .i64) (SArg.cons (LArg.int .i64) (SArg.cons (LArg.int .i64) (SArg.cons (LArg.int .i64) (SArg.one (LArg.int .i64))))))))))))
def n3 : Bool → V cxT.ty := fun t => (.inl (.inl (lv (.bool t))))
/-! loop.example/g00222/laws.FnExactLogFault -/
def a4 : Args cxT.ty (List (Int × (Int × (Int × (Int × (Int × (Int × (Int × (Int × Int))))))))) := (Args.one (Arg.leaf (LArg.row 25)))
def n4 : Bool → V cxT.ty := fun t => (.inl (.inl (lv (.bool t))))
/-! loop.example/g00222/laws.FnExactLastOf -/
def a5 : Args cxT.ty (List (Int × (Int × (Int × (Int × (Int × (Int × (Int × (Int × Int))))))))) := (Args.one (Arg.leaf (LArg.row 25)))
def n5 : Bool → V cxT.ty := fun t => (.inl (.inl (lv (.bool t))))
/-! loop.example/g00222/laws.FnExactFitsAt -/
def a6 : Args cxT.ty ((List (Int × (Int × (Int × (Int × (Int × (Int × (Int × (Int × Int))))))))) × Int × Int) := (Args.cons (Arg.leaf (LArg.row 25)) (Args.cons (Arg.leaf (LArg.int .i64)) (Args.one (Arg.leaf (LArg.int .i64)))))
def n6 : Bool → V cxT.ty := fun t => (.inl (.inl (lv (.bool t))))
/-! loop.example/g00222/laws.FnExactTakeEntries -/
def n7 : Bool → V cxT.ty := fun t => (.inl (.inl (lv (.bool t))))
/-! loop.example/g00222/laws.FnExactUpToDate -/
def n8 : Bool → V cxT.ty := fun t => (.inl (.inl (lv (.bool t))))
/-! loop.example/g00222/laws.FnExactCommonOf -/
def n9 : Bool → V cxT.ty := fun t => (.inl (.inl (lv (.bool t))))
/-! loop.example/g00222/laws.FnExactSameEntries -/
def a10 : Args cxT.ty ((List (Int × (Int × (Int × (Int × (Int × (Int × (Int × (Int × Int))))))))) × (List (Int × (Int × (Int × (Int × (Int × (Int × (Int × (Int × Int)))))))))) := (Args.cons (Arg.leaf (LArg.row 25)) (Args.one (Arg.leaf (LArg.row 25))))
def n10 : Bool → V cxT.ty := fun t => (.inl (.inl (lv (.bool t))))
def dd10 : Bool := false
abbrev c10 (m : ((List (Int × (Int × (Int × (Int × (Int × (Int × (Int × (Int × Int))))))))) × (List (Int × (Int × (Int × (Int × (Int × (Int × (Int × (Int × Int)))))))))) → Option Bool) := fnT (cx := cxT) a10 n10 dd10 m
theorem hs10 : ∀ t, noRoV (n10 t) = true ∨ noOwnV (n10 t) = true := fun _ => .inl rfl
/-! loop.example/g00222/spec.EntryFault -/
def a11 : Args cxT.ty (Int × Int × Int × Int × Int × Int × Int × Int × Int) := (Args.one (Arg.agg (SArg.cons (LArg.int .i64) (SArg.cons (LArg.int .i64) (SArg.cons (LArg.int .i64) (SArg.cons (LArg.int .i64) (SArg.cons (LArg.int .i64) (SArg.cons (LArg.int .i64) (SArg.cons (LArg.int .i64) (SArg.cons (LArg.int .i64) (SArg.one (LArg.int .i64))))))))))))
def n11 : Int → V cxT.ty := fun t => (.inl (.inl (lv (.int .i64 t))))
def dd11 : Int := (0 : Int)
abbrev c11 (m : (Int × Int × Int × Int × Int × Int × Int × Int × Int) → Option Int) := fnT (cx := cxT) a11 n11 dd11 m
/-! loop.example/g00222/laws.toEntry -/
def a12 : Args cxT.ty (Int × Int × Int × Int × Int × Int × Int × Int × Int) := (Args.one (Arg.agg (SArg.cons (LArg.int .i64) (SArg.cons (LArg.int .i64) (SArg.cons (LArg.int .i64) (SArg.cons (LArg.int .i64) (SArg.cons (LArg.int .i64) (SArg.cons (LArg.int .i64) (SArg.cons (LArg.int .i64) (SArg.cons (LArg.int .i64) (SArg.one (LArg.int .i64))))))))))))
def n12 : (Int × Int × Int × Int × Int × Int × Int × Int × Int) → V cxT.ty := fun t => (.inl (.inr [(lv (.int .i64 t.1)), (lv (.int .i64 t.2.1)), (lv (.int .i64 t.2.2.1)), (lv (.int .i64 t.2.2.2.1)), (lv (.int .i64 t.2.2.2.2.1)), (lv (.int .i64 t.2.2.2.2.2.1)), (lv (.int .i64 t.2.2.2.2.2.2.1)), (lv (.int .i64 t.2.2.2.2.2.2.2.1)), (lv (.int .i64 t.2.2.2.2.2.2.2.2))]))
def dd12 : (Int × Int × Int × Int × Int × Int × Int × Int × Int) := ((0 : Int), (0 : Int), (0 : Int), (0 : Int), (0 : Int), (0 : Int), (0 : Int), (0 : Int), (0 : Int))
abbrev c12 (m : (Int × Int × Int × Int × Int × Int × Int × Int × Int) → Option (Int × Int × Int × Int × Int × Int × Int × Int × Int)) := fnT (cx := cxT) a12 n12 dd12 m
theorem hs12 : ∀ t, noRoV (n12 t) = true ∨ noOwnV (n12 t) = true := fun _ => .inl rfl
/-! loop.example/g00222/impl.EntryFault -/
def a13 : Args cxT.ty (Int × Int × Int × Int × Int × Int × Int × Int × Int) := (Args.one (Arg.agg (SArg.cons (LArg.int .i64) (SArg.cons (LArg.int .i64) (SArg.cons (LArg.int .i64) (SArg.cons (LArg.int .i64) (SArg.cons (LArg.int .i64) (SArg.cons (LArg.int .i64) (SArg.cons (LArg.int .i64) (SArg.cons (LArg.int .i64) (SArg.one (LArg.int .i64))))))))))))
def n13 : Int → V cxT.ty := fun t => (.inl (.inl (lv (.int .i64 t))))
def dd13 : Int := (0 : Int)
abbrev c13 (m : (Int × Int × Int × Int × Int × Int × Int × Int × Int) → Option Int) := fnT (cx := cxT) a13 n13 dd13 m
/-! loop.example/g00222/laws.szEntryS -/
def a14 : Args cxT.ty ((List (Int × (Int × (Int × (Int × (Int × (Int × (Int × (Int × Int))))))))) × Int) := (Args.cons (Arg.leaf (LArg.row 25)) (Args.one (Arg.leaf (LArg.int .i64))))
def n14 : Int → V cxT.ty := fun t => (.inl (.inl (lv (.int .i64 t))))
def dd14 : Int := (0 : Int)
abbrev c14 (m : ((List (Int × (Int × (Int × (Int × (Int × (Int × (Int × (Int × Int))))))))) × Int) → Option Int) := fnT (cx := cxT) a14 n14 dd14 m
theorem hs14 : ∀ t, noRoV (n14 t) = true ∨ noOwnV (n14 t) = true := fun _ => .inl rfl
/-! loop.example/g00222/spec.LogFault -/
def a15 : Args cxT.ty (List (Int × (Int × (Int × (Int × (Int × (Int × (Int × (Int × Int))))))))) := (Args.one (Arg.leaf (LArg.row 29)))
def n15 : Int → V cxT.ty := fun t => (.inl (.inl (lv (.int .i64 t))))
def dd15 : Int := (0 : Int)
abbrev c15 (m : (List (Int × (Int × (Int × (Int × (Int × (Int × (Int × (Int × Int))))))))) → Option Int) := fnT (cx := cxT) a15 n15 dd15 m
/-! loop.example/g00222/laws.toEntryS -/
def a16 : Args cxT.ty (List (Int × (Int × (Int × (Int × (Int × (Int × (Int × (Int × Int))))))))) := (Args.one (Arg.leaf (LArg.row 25)))
def n16 : (List (Int × (Int × (Int × (Int × (Int × (Int × (Int × (Int × Int))))))))) → V cxT.ty := fun t => (.inl (.inl (ls { own := 2, nm := 0, e := 29, o := true, xs := t })))
def dd16 : (List (Int × (Int × (Int × (Int × (Int × (Int × (Int × (Int × Int))))))))) := []
abbrev c16 (m : (List (Int × (Int × (Int × (Int × (Int × (Int × (Int × (Int × Int))))))))) → Option (List (Int × (Int × (Int × (Int × (Int × (Int × (Int × (Int × Int)))))))))) := fnT (cx := cxT) a16 n16 dd16 m
theorem hs16 : ∀ t, noRoV (n16 t) = true ∨ noOwnV (n16 t) = true := fun _ => .inl rfl
/-! loop.example/g00222/impl.LogFault -/
def a17 : Args cxT.ty (List (Int × (Int × (Int × (Int × (Int × (Int × (Int × (Int × Int))))))))) := (Args.one (Arg.leaf (LArg.row 29)))
def n17 : Int → V cxT.ty := fun t => (.inl (.inl (lv (.int .i64 t))))
def dd17 : Int := (0 : Int)
abbrev c17 (m : (List (Int × (Int × (Int × (Int × (Int × (Int × (Int × (Int × Int))))))))) → Option Int) := fnT (cx := cxT) a17 n17 dd17 m
/-! loop.example/g00222/laws.eqEntryS -/
def a18 : Args cxT.ty ((List (Int × (Int × (Int × (Int × (Int × (Int × (Int × (Int × Int))))))))) × (List (Int × (Int × (Int × (Int × (Int × (Int × (Int × (Int × Int)))))))))) := (Args.cons (Arg.leaf (LArg.row 29)) (Args.one (Arg.leaf (LArg.row 29))))
def n18 : Bool → V cxT.ty := fun t => (.inl (.inl (lv (.bool t))))
def dd18 : Bool := false
abbrev c18 (m : ((List (Int × (Int × (Int × (Int × (Int × (Int × (Int × (Int × Int))))))))) × (List (Int × (Int × (Int × (Int × (Int × (Int × (Int × (Int × Int)))))))))) → Option Bool) := fnT (cx := cxT) a18 n18 dd18 m
theorem hs18 : ∀ t, noRoV (n18 t) = true ∨ noOwnV (n18 t) = true := fun _ => .inl rfl
/-! loop.example/g00222/spec.LastOf -/
def a19 : Args cxT.ty (List (Int × (Int × (Int × (Int × (Int × (Int × (Int × (Int × Int))))))))) := (Args.one (Arg.leaf (LArg.row 29)))
def n19 : (Int × Int × Int × Int × Int × Int × Int × Int × Int) → V cxT.ty := fun t => (.inl (.inr [(lv (.int .i64 t.1)), (lv (.int .i64 t.2.1)), (lv (.int .i64 t.2.2.1)), (lv (.int .i64 t.2.2.2.1)), (lv (.int .i64 t.2.2.2.2.1)), (lv (.int .i64 t.2.2.2.2.2.1)), (lv (.int .i64 t.2.2.2.2.2.2.1)), (lv (.int .i64 t.2.2.2.2.2.2.2.1)), (lv (.int .i64 t.2.2.2.2.2.2.2.2))]))
def dd19 : (Int × Int × Int × Int × Int × Int × Int × Int × Int) := ((0 : Int), (0 : Int), (0 : Int), (0 : Int), (0 : Int), (0 : Int), (0 : Int), (0 : Int), (0 : Int))
abbrev c19 (m : (List (Int × (Int × (Int × (Int × (Int × (Int × (Int × (Int × Int))))))))) → Option (Int × Int × Int × Int × Int × Int × Int × Int × Int)) := fnT (cx := cxT) a19 n19 dd19 m
/-! loop.example/g00222/impl.LastOf -/
def a20 : Args cxT.ty (List (Int × (Int × (Int × (Int × (Int × (Int × (Int × (Int × Int))))))))) := (Args.one (Arg.leaf (LArg.row 29)))
def n20 : (Int × Int × Int × Int × Int × Int × Int × Int × Int) → V cxT.ty := fun t => (.inl (.inr [(lv (.int .i64 t.1)), (lv (.int .i64 t.2.1)), (lv (.int .i64 t.2.2.1)), (lv (.int .i64 t.2.2.2.1)), (lv (.int .i64 t.2.2.2.2.1)), (lv (.int .i64 t.2.2.2.2.2.1)), (lv (.int .i64 t.2.2.2.2.2.2.1)), (lv (.int .i64 t.2.2.2.2.2.2.2.1)), (lv (.int .i64 t.2.2.2.2.2.2.2.2))]))
def dd20 : (Int × Int × Int × Int × Int × Int × Int × Int × Int) := ((0 : Int), (0 : Int), (0 : Int), (0 : Int), (0 : Int), (0 : Int), (0 : Int), (0 : Int), (0 : Int))
abbrev c20 (m : (List (Int × (Int × (Int × (Int × (Int × (Int × (Int × (Int × Int))))))))) → Option (Int × Int × Int × Int × Int × Int × Int × Int × Int)) := fnT (cx := cxT) a20 n20 dd20 m
/-! loop.example/g00222/laws.eqEntry -/
def a21 : Args cxT.ty ((Int × Int × Int × Int × Int × Int × Int × Int × Int) × (Int × Int × Int × Int × Int × Int × Int × Int × Int)) := (Args.cons (Arg.agg (SArg.cons (LArg.int .i64) (SArg.cons (LArg.int .i64) (SArg.cons (LArg.int .i64) (SArg.cons (LArg.int .i64) (SArg.cons (LArg.int .i64) (SArg.cons (LArg.int .i64) (SArg.cons (LArg.int .i64) (SArg.cons (LArg.int .i64) (SArg.one (LArg.int .i64))))))))))) (Args.one (Arg.agg (SArg.cons (LArg.int .i64) (SArg.cons (LArg.int .i64) (SArg.cons (LArg.int .i64) (SArg.cons (LArg.int .i64) (SArg.cons (LArg.int .i64) (SArg.cons (LArg.int .i64) (SArg.cons (LArg.int .i64) (SArg.cons (LArg.int .i64) (SArg.one (LArg.int .i64)))))))))))))
def n21 : Bool → V cxT.ty := fun t => (.inl (.inl (lv (.bool t))))
def dd21 : Bool := false
abbrev c21 (m : ((Int × Int × Int × Int × Int × Int × Int × Int × Int) × (Int × Int × Int × Int × Int × Int × Int × Int × Int)) → Option Bool) := fnT (cx := cxT) a21 n21 dd21 m
theorem hs21 : ∀ t, noRoV (n21 t) = true ∨ noOwnV (n21 t) = true := fun _ => .inl rfl
/-! loop.example/g00222/spec.FitsAt -/
def a22 : Args cxT.ty ((List (Int × (Int × (Int × (Int × (Int × (Int × (Int × (Int × Int))))))))) × Int × Int) := (Args.cons (Arg.leaf (LArg.row 29)) (Args.cons (Arg.leaf (LArg.int .i64)) (Args.one (Arg.leaf (LArg.int .i64)))))
def n22 : Bool → V cxT.ty := fun t => (.inl (.inl (lv (.bool t))))
def dd22 : Bool := false
abbrev c22 (m : ((List (Int × (Int × (Int × (Int × (Int × (Int × (Int × (Int × Int))))))))) × Int × Int) → Option Bool) := fnT (cx := cxT) a22 n22 dd22 m
/-! loop.example/g00222/impl.FitsAt -/
def a23 : Args cxT.ty ((List (Int × (Int × (Int × (Int × (Int × (Int × (Int × (Int × Int))))))))) × Int × Int) := (Args.cons (Arg.leaf (LArg.row 29)) (Args.cons (Arg.leaf (LArg.int .i64)) (Args.one (Arg.leaf (LArg.int .i64)))))
def n23 : Bool → V cxT.ty := fun t => (.inl (.inl (lv (.bool t))))
def dd23 : Bool := false
abbrev c23 (m : ((List (Int × (Int × (Int × (Int × (Int × (Int × (Int × (Int × Int))))))))) × Int × Int) → Option Bool) := fnT (cx := cxT) a23 n23 dd23 m
/-! loop.example/g00222/spec.TakeEntries -/
/-! loop.example/g00222/impl.TakeEntries -/
/-! loop.example/g00222/laws.eqEntriesResult -/
/-! loop.example/g00222/laws.markEntryS -/
/-! loop.example/g00222/laws.markEntriesResult -/
/-! loop.example/g00222/laws.heldEntriesResult -/
/-! loop.example/g00222/spec.UpToDate -/
/-! loop.example/g00222/impl.UpToDate -/
/-! loop.example/g00222/spec.CommonOf -/
def a32 : Args cxT.ty ((List (Int × (Int × (Int × (Int × (Int × (Int × (Int × (Int × Int))))))))) × (List (Int × (Int × (Int × (Int × (Int × (Int × (Int × (Int × Int)))))))))) := (Args.cons (Arg.leaf (LArg.row 29)) (Args.one (Arg.leaf (LArg.row 29))))
def n32 : Int → V cxT.ty := fun t => (.inl (.inl (lv (.int .i64 t))))
def dd32 : Int := (0 : Int)
abbrev c32 (m : ((List (Int × (Int × (Int × (Int × (Int × (Int × (Int × (Int × Int))))))))) × (List (Int × (Int × (Int × (Int × (Int × (Int × (Int × (Int × Int)))))))))) → Option Int) := fnT (cx := cxT) a32 n32 dd32 m
theorem hs32 : ∀ t, noRoV (n32 t) = true ∨ noOwnV (n32 t) = true := fun _ => .inl rfl
/-! loop.example/g00222/impl.CommonOf -/
def a33 : Args cxT.ty ((List (Int × (Int × (Int × (Int × (Int × (Int × (Int × (Int × Int))))))))) × (List (Int × (Int × (Int × (Int × (Int × (Int × (Int × (Int × Int)))))))))) := (Args.cons (Arg.leaf (LArg.row 29)) (Args.one (Arg.leaf (LArg.row 29))))
def n33 : Int → V cxT.ty := fun t => (.inl (.inl (lv (.int .i64 t))))
def dd33 : Int := (0 : Int)
abbrev c33 (m : ((List (Int × (Int × (Int × (Int × (Int × (Int × (Int × (Int × Int))))))))) × (List (Int × (Int × (Int × (Int × (Int × (Int × (Int × (Int × Int)))))))))) → Option Int) := fnT (cx := cxT) a33 n33 dd33 m
theorem hs33 : ∀ t, noRoV (n33 t) = true ∨ noOwnV (n33 t) = true := fun _ => .inl rfl
/-! loop.example/g00222/spec.SameEntries -/
def a34 : Args cxT.ty ((List (Int × (Int × (Int × (Int × (Int × (Int × (Int × (Int × Int))))))))) × (List (Int × (Int × (Int × (Int × (Int × (Int × (Int × (Int × Int)))))))))) := (Args.cons (Arg.leaf (LArg.row 29)) (Args.one (Arg.leaf (LArg.row 29))))
def n34 : Bool → V cxT.ty := fun t => (.inl (.inl (lv (.bool t))))
def dd34 : Bool := false
abbrev c34 (m : ((List (Int × (Int × (Int × (Int × (Int × (Int × (Int × (Int × Int))))))))) × (List (Int × (Int × (Int × (Int × (Int × (Int × (Int × (Int × Int)))))))))) → Option Bool) := fnT (cx := cxT) a34 n34 dd34 m
theorem hs34 : ∀ t, noRoV (n34 t) = true ∨ noOwnV (n34 t) = true := fun _ => .inl rfl
/-! loop.example/g00222/impl.SameEntries -/
def a35 : Args cxT.ty ((List (Int × (Int × (Int × (Int × (Int × (Int × (Int × (Int × Int))))))))) × (List (Int × (Int × (Int × (Int × (Int × (Int × (Int × (Int × Int)))))))))) := (Args.cons (Arg.leaf (LArg.row 29)) (Args.one (Arg.leaf (LArg.row 29))))
def n35 : Bool → V cxT.ty := fun t => (.inl (.inl (lv (.bool t))))
def dd35 : Bool := false
abbrev c35 (m : ((List (Int × (Int × (Int × (Int × (Int × (Int × (Int × (Int × Int))))))))) × (List (Int × (Int × (Int × (Int × (Int × (Int × (Int × (Int × Int)))))))))) → Option Bool) := fnT (cx := cxT) a35 n35 dd35 m
theorem hs35 : ∀ t, noRoV (n35 t) = true ∨ noOwnV (n35 t) = true := fun _ => .inl rfl
/-! loop.example/g00222/spec.l1In -/
/-! loop.example/g00222/spec.CmdFault -/
/-! loop.example/g00222/laws.toCmd -/
def a38 : Args cxT.ty (Int × Int × Int × Int × Int × Int) := (Args.one (Arg.agg (SArg.cons (LArg.int .i64) (SArg.cons (LArg.int .i64) (SArg.cons (LArg.int .i64) (SArg.cons (LArg.int .i64) (SArg.cons (LArg.int .i64) (SArg.one (LArg.int .i64)))))))))
def n38 : (Int × Int × Int × Int × Int × Int) → V cxT.ty := fun t => (.inl (.inr [(lv (.int .i64 t.1)), (lv (.int .i64 t.2.1)), (lv (.int .i64 t.2.2.1)), (lv (.int .i64 t.2.2.2.1)), (lv (.int .i64 t.2.2.2.2.1)), (lv (.int .i64 t.2.2.2.2.2))]))
def dd38 : (Int × Int × Int × Int × Int × Int) := ((0 : Int), (0 : Int), (0 : Int), (0 : Int), (0 : Int), (0 : Int))
abbrev c38 (m : (Int × Int × Int × Int × Int × Int) → Option (Int × Int × Int × Int × Int × Int)) := fnT (cx := cxT) a38 n38 dd38 m
theorem hs38 : ∀ t, noRoV (n38 t) = true ∨ noOwnV (n38 t) = true := fun _ => .inl rfl
/-! loop.example/g00222/impl.isTerm -/
/-! loop.example/g00222/impl.isClient -/
/-! loop.example/g00222/impl.isSeq -/
/-! loop.example/g00222/impl.CmdFault -/
/-! (loop.example/g00222/impl.indexed[loop.example/g00222/impl.Entry]).at -/
/-! (loop.example/g00222/impl.indexed[loop.example/g00222/impl.Entry]).count -/
def a44 : Args cxT.ty (List (Int × (Int × (Int × (Int × (Int × (Int × (Int × (Int × Int))))))))) := (Args.one (Arg.leaf (LArg.row 29)))
def n44 : Int → V cxT.ty := fun t => (.inl (.inl (lv (.int .i64 t))))
def dd44 : Int := (0 : Int)
abbrev c44 (m : (List (Int × (Int × (Int × (Int × (Int × (Int × (Int × (Int × Int))))))))) → Option Int) := fnT (cx := cxT) a44 n44 dd44 m
theorem hs44 : ∀ t, noRoV (n44 t) = true ∨ noOwnV (n44 t) = true := fun _ => .inl rfl
/-! loop.example/g00222/laws.eqCmd -/
def a45 : Args cxT.ty ((Int × Int × Int × Int × Int × Int) × (Int × Int × Int × Int × Int × Int)) := (Args.cons (Arg.agg (SArg.cons (LArg.int .i64) (SArg.cons (LArg.int .i64) (SArg.cons (LArg.int .i64) (SArg.cons (LArg.int .i64) (SArg.cons (LArg.int .i64) (SArg.one (LArg.int .i64)))))))) (Args.one (Arg.agg (SArg.cons (LArg.int .i64) (SArg.cons (LArg.int .i64) (SArg.cons (LArg.int .i64) (SArg.cons (LArg.int .i64) (SArg.cons (LArg.int .i64) (SArg.one (LArg.int .i64))))))))))
def n45 : Bool → V cxT.ty := fun t => (.inl (.inl (lv (.bool t))))
def dd45 : Bool := false
abbrev c45 (m : ((Int × Int × Int × Int × Int × Int) × (Int × Int × Int × Int × Int × Int)) → Option Bool) := fnT (cx := cxT) a45 n45 dd45 m
theorem hs45 : ∀ t, noRoV (n45 t) = true ∨ noOwnV (n45 t) = true := fun _ => .inl rfl
/-! loop.example/g00222/spec.l7Fits -/
/-! loop.example/g00222/spec.l7Take -/
/-! loop.example/g00222/impl.putBehind -/
/-! loop.example/g00222/laws.heldEntryS -/
/-! loop.example/g00222/spec.l7UpToDate -/
/-! (loop.example/g00222/impl.indexed[loop.example/g00222/impl.Entry]).alike -/
def a51 : Args cxT.ty ((List (Int × (Int × (Int × (Int × (Int × (Int × (Int × (Int × Int))))))))) × (List (Int × (Int × (Int × (Int × (Int × (Int × (Int × (Int × Int))))))))) × Unit) := (Args.cons (Arg.leaf (LArg.row 29)) (Args.cons (Arg.leaf (LArg.row 29)) (Args.one (Arg.leaf (LArg.fn 52)))))
def n51 : Int → V cxT.ty := fun t => (.inl (.inl (lv (.int .i64 t))))
def dd51 : Int := (0 : Int)
abbrev c51 (m : ((List (Int × (Int × (Int × (Int × (Int × (Int × (Int × (Int × Int))))))))) × (List (Int × (Int × (Int × (Int × (Int × (Int × (Int × (Int × Int))))))))) × Unit) → Option Int) := fnT (cx := cxT) a51 n51 dd51 m
theorem hs51 : ∀ t, noRoV (n51 t) = true ∨ noOwnV (n51 t) = true := fun _ => .inl rfl
/-! loop.example/g00222/impl.isSameEntry -/
def a52 : Args cxT.ty ((Int × Int × Int × Int × Int × Int × Int × Int × Int) × (Int × Int × Int × Int × Int × Int × Int × Int × Int)) := (Args.cons (Arg.agg (SArg.cons (LArg.int .i64) (SArg.cons (LArg.int .i64) (SArg.cons (LArg.int .i64) (SArg.cons (LArg.int .i64) (SArg.cons (LArg.int .i64) (SArg.cons (LArg.int .i64) (SArg.cons (LArg.int .i64) (SArg.cons (LArg.int .i64) (SArg.one (LArg.int .i64))))))))))) (Args.one (Arg.agg (SArg.cons (LArg.int .i64) (SArg.cons (LArg.int .i64) (SArg.cons (LArg.int .i64) (SArg.cons (LArg.int .i64) (SArg.cons (LArg.int .i64) (SArg.cons (LArg.int .i64) (SArg.cons (LArg.int .i64) (SArg.cons (LArg.int .i64) (SArg.one (LArg.int .i64)))))))))))))
def n52 : Bool → V cxT.ty := fun t => (.inl (.inl (lv (.bool t))))
def dd52 : Bool := false
abbrev c52 (m : ((Int × Int × Int × Int × Int × Int × Int × Int × Int) × (Int × Int × Int × Int × Int × Int × Int × Int × Int)) → Option Bool) := fnT (cx := cxT) a52 n52 dd52 m
theorem hs52 : ∀ t, noRoV (n52 t) = true ∨ noOwnV (n52 t) = true := fun _ => .inl rfl
/-! loop.example/g00222/spec.l5Needs -/
/-! loop.example/g00222/spec.l5Version -/
/-! loop.example/g00222/spec.l3Name -/
/-! loop.example/g00222/spec.l2Address -/
/-! loop.example/g00222/spec.l5Number -/
/-! loop.example/g00222/spec.l5Proto -/
/-! loop.example/g00222/impl.isVersion -/
/-! loop.example/g00222/spec.l7Copy -/
/-! (loop.example/g00222/impl.indexed[loop.example/g00222/impl.Entry]).behind -/
/-! loop.example/g00222/impl.isSameTerm -/
/-! (loop.example/g00222/impl.indexed[loop.example/g00222/impl.Entry]).with -/
def a64 : Args cxT.ty ((List (Int × (Int × (Int × (Int × (Int × (Int × (Int × (Int × Int))))))))) × Int × (List (Int × (Int × (Int × (Int × (Int × (Int × (Int × (Int × Int)))))))))) := (Args.cons (Arg.leaf (LArg.row 29)) (Args.cons (Arg.leaf (LArg.int .i64)) (Args.one (Arg.leaf (LArg.row 29)))))
def n64 : (List (Int × (Int × (Int × (Int × (Int × (Int × (Int × (Int × Int))))))))) → V cxT.ty := fun t => (.inl (.inl (ls { own := 2, nm := 0, e := 29, o := true, xs := t })))
/-! loop.example/g00222/spec.l2Port -/
/-! loop.example/g00222/impl.isName -/
/-! loop.example/g00222/impl.isAddress -/
/-! loop.example/g00222/impl.isWeight -/
/-! loop.example/g00222/impl.isStage -/
/-! loop.example/g00222/impl.isPort -/
/-! loop.example/g00222/impl.isProto -/
/-! loop.example/g00222/impl.isYesOrNo -/
/-! slices.Concat[loop.example/g00222/impl.indexed[loop.example/g00222/impl.Entry],loop.example/g00222/impl.Entry] -/
def a82 : Args cxT.ty (List (List (Int × (Int × (Int × (Int × (Int × (Int × (Int × (Int × Int)))))))))) := (Args.one (Arg.leaf (LArg.row 56)))
def n82 : (List (Int × (Int × (Int × (Int × (Int × (Int × (Int × (Int × Int))))))))) → V cxT.ty := fun t => (.inl (.inl (ls { own := 2, nm := 0, e := 29, o := true, xs := t })))
def dd82 : (List (Int × (Int × (Int × (Int × (Int × (Int × (Int × (Int × Int))))))))) := []
abbrev c82 (m : (List (List (Int × (Int × (Int × (Int × (Int × (Int × (Int × (Int × Int)))))))))) → Option (List (Int × (Int × (Int × (Int × (Int × (Int × (Int × (Int × Int)))))))))) := fnT (cx := cxT) a82 n82 dd82 m
/-! loop.example/g00222/impl.backendPlace -/
/-! slices.Insert[[]loop.example/g00222/impl.Backend,loop.example/g00222/impl.Backend] -/
/-! slices.Contains[[]int64,int64] -/
/-! slices.Delete[[]loop.example/g00222/impl.Backend,loop.example/g00222/impl.Backend] -/
/-! loop.example/g00222/impl.vipPlace -/
/-! slices.Insert[[]loop.example/g00222/impl.Vip,loop.example/g00222/impl.Vip] -/
/-! slices.Delete[[]loop.example/g00222/impl.Vip,loop.example/g00222/impl.Vip] -/
/-! slices.BinarySearch[[]int64,int64] -/
/-! slices.Insert[[]int64,int64] -/
/-! slices.Delete[[]int64,int64] -/
/-! slices.Grow[loop.example/g00222/impl.indexed[loop.example/g00222/impl.Entry],loop.example/g00222/impl.Entry] -/
/-! loop.example/g00222/impl.backendPlace$1 -/
/-! cmp.Compare[int64] -/
/-! slices.overlaps[loop.example/g00222/impl.Backend] -/
/-! slices.rotateRight[loop.example/g00222/impl.Backend] -/
/-! slices.Index[[]int64,int64] -/
/-! loop.example/g00222/impl.compareVips -/
/-! slices.overlaps[loop.example/g00222/impl.Vip] -/
/-! slices.rotateRight[loop.example/g00222/impl.Vip] -/
/-! cmp.Less[int64] -/
/-! slices.isNaN[int64] -/
/-! slices.overlaps[int64] -/
/-! slices.rotateRight[int64] -/
/-! cmp.isNaN[int64] -/
/-! slices.rotateLeft[loop.example/g00222/impl.Backend] -/
/-! cmp.Or[int] -/
/-! slices.rotateLeft[loop.example/g00222/impl.Vip] -/
/-! slices.rotateLeft[int64] -/
/-! slices.Reverse[[]loop.example/g00222/impl.Backend,loop.example/g00222/impl.Backend] -/
/-! slices.Reverse[[]loop.example/g00222/impl.Vip,loop.example/g00222/impl.Vip] -/
/-! slices.Reverse[[]int64,int64] -/
/-! (runtime.boundsError).Error -/
/-! (runtime.boundsError).RuntimeError -/
/-! (runtime.errorString).Error -/
/-! (runtime.errorString).RuntimeError -/
/-! (runtime.plainError).Error -/
/-! (runtime.plainError).RuntimeError -/
/-! (runtime.errorAddressString).Error -/
/-! (runtime.errorAddressString).RuntimeError -/
/-! (internal/abi.Kind).String -/
/-! (loop.example/g00222/impl.indexed[loop.example/g00222/impl.Entry]).alike -/
end Go.Proofs.Try
