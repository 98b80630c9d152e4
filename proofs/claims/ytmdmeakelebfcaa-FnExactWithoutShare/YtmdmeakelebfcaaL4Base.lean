/- A part of the proof of FnExactWithoutShare: L4Base. -/
import Derived.Test.YtmdmeakelebfcaaVmN
import Derived.Test.YtmdmeakelebfcaaProg
namespace Go.Proofs.Try
open Go Go.VM Go.RowKit

def tyT (e : Nat) : Type := if e = 2 then Int else if e = 5 then Int else if e = 31 then Int × Int else if e = 77 then Int × Int else Unit
def inhT (e : Nat) : tyT e := by unfold tyT; split <;> (try split) <;> (try split) <;> (try split) <;> first | exact (0 : Int) | exact ((0, 0) : Int × Int) | exact ()
def cd2 : Cd tyT (tyT 2) := cdInt .i64
def cd5 : Cd tyT (tyT 5) := cdInt .u8
def cd31 : Cd tyT (tyT 31) := cdPair (cdInt .i64) (cdInt .i64)
def cd77 : Cd tyT (tyT 77) := cdPair (cdInt .i64) (cdInt .i64)
def cdT (e : Nat) : Cd tyT (tyT e) :=
  if h : e = 2 then h.symm ▸ cd2 else if h : e = 5 then h.symm ▸ cd5 else if h : e = 31 then h.symm ▸ cd31 else if h : e = 77 then h.symm ▸ cd77 else cdNone (inhT e)
def cxT : Cx := Cx.of cdT
theorem cxT_ok : cxT.Ok := Cx.of_ok cdT
theorem dom_cases {e : Nat} (h : (cdT e).dom = true) : e = 2 ∨ e = 5 ∨ e = 31 ∨ e = 77 := by
  by_cases h1 : e = 2
  · exact .inl h1
  by_cases h2 : e = 5
  · exact .inr (.inl h2)
  by_cases h3 : e = 31
  · exact .inr (.inr (.inl h3))
  by_cases h4 : e = 77
  · exact .inr (.inr (.inr h4))
  · unfold cdT at h; rw [dif_neg h1, dif_neg h2, dif_neg h3, dif_neg h4] at h; exact Bool.noConfusion h

theorem cxT_pok : cxT.POk prog := by
  refine ⟨fun e he => ?_, fun e he hu o x => ?_⟩
  · rcases dom_cases he with rfl | rfl | rfl | rfl
    · exact ⟨_, _, rfl, rfl, rfl, by decide, rfl, by decide, rfl⟩
    · exact ⟨_, _, rfl, rfl, rfl, by decide, rfl, by decide, rfl⟩
    · exact ⟨_, _, rfl, rfl, rfl, by decide, rfl, by decide, rfl⟩
    · exact ⟨_, _, rfl, rfl, rfl, by decide, rfl, by decide, rfl⟩
  · rcases dom_cases he with rfl | rfl | rfl | rfl
    · rw [underlying2] at hu
      cases hu
    · exact ⟨x, rfl⟩
    · rw [show prog.underlying 31 = _ from rfl] at hu
      cases hu
    · rw [show prog.underlying 77 = _ from rfl] at hu
      cases hu
end Go.Proofs.Try
