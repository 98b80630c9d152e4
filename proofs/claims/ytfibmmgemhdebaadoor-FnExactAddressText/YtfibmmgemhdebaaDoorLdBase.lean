/- A part of the proof of FnExactAddressText: LdBase, LdCon. -/
import Derived.Test.YtfibmmgemhdebaaDoorVmJ
import Derived.Test.YtfibmmgemhdebaaDoorProg
namespace Go.Proofs.Tryd
open Go Go.VM Go.RowKit

def tyT (e : Nat) : Type := if e = 2 then Int else if e = 3 then Int else if e = 5 then Int else if e = 9 then ByteArray else Unit
def inhT (e : Nat) : tyT e := by
  unfold tyT
  repeat' split
  all_goals first | exact ((0 : Int) : Int) | exact ((0 : Int) : Int) | exact ((0 : Int) : Int) | exact (ByteArray.empty : ByteArray) | exact ()
def cd2 : Cd tyT (tyT 2) := cdInt .i64
def cd3 : Cd tyT (tyT 3) := cdInt .i64
def cd5 : Cd tyT (tyT 5) := cdInt .u8
def cd9 : Cd tyT (tyT 9) := cdStr
def cdT (e : Nat) : Cd tyT (tyT e) :=
  if h : e = 2 then h.symm ▸ cd2 else if h : e = 3 then h.symm ▸ cd3 else if h : e = 5 then h.symm ▸ cd5 else if h : e = 9 then h.symm ▸ cd9 else cdNone (inhT e)
def cxT : Cx := Cx.of cdT
theorem cxT_ok : cxT.Ok := Cx.of_ok cdT
set_option maxRecDepth 100000 in
theorem dom_cases {e : Nat} (h : (cdT e).dom = true) : e = 2 ∨ e = 3 ∨ e = 5 ∨ e = 9 := by
  by_cases h0 : e = 2
  · exact .inl h0
  by_cases h1 : e = 3
  · exact .inr (.inl h1)
  by_cases h2 : e = 5
  · exact .inr (.inr (.inl h2))
  by_cases h3 : e = 9
  · exact .inr (.inr (.inr (h3)))
  · unfold cdT at h; rw [dif_neg h0, dif_neg h1, dif_neg h2, dif_neg h3] at h; exact Bool.noConfusion h

set_option maxRecDepth 100000 in
theorem cxT_pok : cxT.POk prog := by
  refine ⟨fun e he => ?_, fun e he hu o x => ?_⟩
  · rcases dom_cases he with rfl | rfl | rfl | rfl <;>
    exact ⟨_, _, rfl, rfl, rfl, by decide, rfl, by decide, rfl⟩
  · rcases dom_cases he with rfl | rfl | rfl | rfl
    · rw [show prog.underlying 2 = _ from rfl] at hu; cases hu
    · rw [show prog.underlying 3 = _ from rfl] at hu; cases hu
    · exact ⟨x, rfl⟩
    · rw [show prog.underlying 9 = _ from rfl] at hu; cases hu
end Go.Proofs.Tryd

set_option linter.unusedVariables false
namespace Go.Proofs.Tryd
open Go Go.VM Go.RowKit
/-! loop.example/g00222/laws.FnExactAddressText -/
def a3 : Args cxT.ty Int := (Args.one (Arg.leaf (LArg.int .i64)))
def n3 : Bool → V cxT.ty := fun t => (.inl (.inl (lv (.bool t))))
def dd3 : Bool := false
abbrev c3 (m : Int → Option Bool) := fnT (cx := cxT) a3 n3 dd3 m
theorem hs3 : ∀ t, noRoV (n3 t) = true ∨ noOwnV (n3 t) = true := fun _ => .inl rfl
/-! loop.example/g00222/spec.AddressText -/
def a5 : Args cxT.ty Int := (Args.one (Arg.leaf (LArg.int .i64)))
def n5 : (Int × ByteArray) → V cxT.ty := fun t => (.inl (.inr [(lv (.int .i64 t.1)), (lv (.string t.2))]))
def dd5 : (Int × ByteArray) := ((0 : Int), ByteArray.empty)
abbrev c5 (m : Int → Option (Int × ByteArray)) := fnT (cx := cxT) a5 n5 dd5 m
theorem hs5 : ∀ t, noRoV (n5 t) = true ∨ noOwnV (n5 t) = true := fun _ => .inl rfl
/-! loop.example/g00222/impl.AddressText -/
def a6 : Args cxT.ty Int := (Args.one (Arg.leaf (LArg.int .i64)))
def n6 : (Int × ByteArray) → V cxT.ty := fun t => (.inl (.inr [(lv (.int .i64 t.1)), (lv (.string t.2))]))
def dd6 : (Int × ByteArray) := ((0 : Int), ByteArray.empty)
abbrev c6 (m : Int → Option (Int × ByteArray)) := fnT (cx := cxT) a6 n6 dd6 m
/-! loop.example/g00222/laws.eqTextResult -/
def a7 : Args cxT.ty ((Int × ByteArray) × (Int × ByteArray)) := (Args.cons (Arg.agg (SArg.cons (LArg.int .i64) (SArg.one LArg.str))) (Args.one (Arg.agg (SArg.cons (LArg.int .i64) (SArg.one LArg.str)))))
def n7 : Bool → V cxT.ty := fun t => (.inl (.inl (lv (.bool t))))
def dd7 : Bool := false
abbrev c7 (m : ((Int × ByteArray) × (Int × ByteArray)) → Option Bool) := fnT (cx := cxT) a7 n7 dd7 m
theorem hs7 : ∀ t, noRoV (n7 t) = true ∨ noOwnV (n7 t) = true := fun _ => .inl rfl
/-! loop.example/g00222/spec.l2Address -/
def a13 : Args cxT.ty Int := (Args.one (Arg.leaf (LArg.int .i64)))
def n13 : Bool → V cxT.ty := fun t => (.inl (.inl (lv (.bool t))))
def dd13 : Bool := false
abbrev c13 (m : Int → Option Bool) := fnT (cx := cxT) a13 n13 dd13 m
theorem hs13 : ∀ t, noRoV (n13 t) = true ∨ noOwnV (n13 t) = true := fun _ => .inl rfl
/-! loop.example/g00222/spec.l2Text -/
def a14 : Args cxT.ty Int := (Args.one (Arg.leaf (LArg.int .i64)))
def n14 : ByteArray → V cxT.ty := fun t => (.inl (.inl (lv (.string t))))
def dd14 : ByteArray := ByteArray.empty
abbrev c14 (m : Int → Option ByteArray) := fnT (cx := cxT) a14 n14 dd14 m
theorem hs14 : ∀ t, noRoV (n14 t) = true ∨ noOwnV (n14 t) = true := fun _ => .inl rfl
/-! loop.example/g00222/impl.isAddress -/
def a15 : Args cxT.ty Int := (Args.one (Arg.leaf (LArg.int .i64)))
def n15 : Bool → V cxT.ty := fun t => (.inl (.inl (lv (.bool t))))
def dd15 : Bool := false
abbrev c15 (m : Int → Option Bool) := fnT (cx := cxT) a15 n15 dd15 m
theorem hs15 : ∀ t, noRoV (n15 t) = true ∨ noOwnV (n15 t) = true := fun _ => .inl rfl
/-! loop.example/g00222/impl.numberBytes -/
def a16 : Args cxT.ty (Int × Int) := (Args.cons (Arg.leaf (LArg.int .u64)) (Args.one (Arg.leaf (LArg.int .i64))))
def n16 : (List Int) → V cxT.ty := fun t => (.inl (.inl (ls { own := 2, nm := 0, e := 5, o := true, xs := t })))
def dd16 : (List Int) := []
abbrev c16 (m : (Int × Int) → Option (List Int)) := fnT (cx := cxT) a16 n16 dd16 m
theorem hs16 : ∀ t, noRoV (n16 t) = true ∨ noOwnV (n16 t) = true := fun _ => .inl rfl
/-! loop.example/g00222/spec.l1In -/
def a32 : Args cxT.ty (Int × Int × Int) := (Args.cons (Arg.leaf (LArg.int .i64)) (Args.cons (Arg.leaf (LArg.int .i64)) (Args.one (Arg.leaf (LArg.int .i64)))))
def n32 : Bool → V cxT.ty := fun t => (.inl (.inl (lv (.bool t))))
def dd32 : Bool := false
abbrev c32 (m : (Int × Int × Int) → Option Bool) := fnT (cx := cxT) a32 n32 dd32 m
theorem hs32 : ∀ t, noRoV (n32 t) = true ∨ noOwnV (n32 t) = true := fun _ => .inl rfl
/-! loop.example/g00222/spec.l1Bytes -/
def a33 : Args cxT.ty (Int × Int) := (Args.cons (Arg.leaf (LArg.int .i64)) (Args.one (Arg.leaf (LArg.int .i64))))
def n33 : (List Int) → V cxT.ty := fun t => (.inl (.inl (ls { own := 2, nm := 0, e := 5, o := true, xs := t })))
def dd33 : (List Int) := []
abbrev c33 (m : (Int × Int) → Option (List Int)) := fnT (cx := cxT) a33 n33 dd33 m
theorem hs33 : ∀ t, noRoV (n33 t) = true ∨ noOwnV (n33 t) = true := fun _ => .inl rfl
/-! loop.example/g00222/spec.l2Digits -/
def a34 : Args cxT.ty Int := (Args.one (Arg.leaf (LArg.int .i64)))
def n34 : ByteArray → V cxT.ty := fun t => (.inl (.inl (lv (.string t))))
def dd34 : ByteArray := ByteArray.empty
abbrev c34 (m : Int → Option ByteArray) := fnT (cx := cxT) a34 n34 dd34 m
theorem hs34 : ∀ t, noRoV (n34 t) = true ∨ noOwnV (n34 t) = true := fun _ => .inl rfl
end Go.Proofs.Tryd
