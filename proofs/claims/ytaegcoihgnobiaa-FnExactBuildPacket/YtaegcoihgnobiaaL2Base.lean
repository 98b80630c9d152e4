/- A part of the proof of FnExactBuildPacket: L2Base. -/
import Derived.Test.YtaegcoihgnobiaaVmM
import Derived.Test.YtaegcoihgnobiaaProg
namespace Go.Proofs.Try
open Go Go.VM Go.RowKit

def tyT (e : Nat) : Type := if e = 2 then Int else if e = 5 then Int else if e = 22 then List Int else Unit
def inhT (e : Nat) : tyT e := by unfold tyT; split <;> (try split) <;> (try split) <;> first | exact (0 : Int) | exact ([] : List Int) | exact ()
def cd2 : Cd tyT (tyT 2) := cdInt .i64
def cd5 : Cd tyT (tyT 5) := cdInt .u8
def cd22 : Cd tyT (tyT 22) := cdRow 5
def cdT (e : Nat) : Cd tyT (tyT e) :=
  if h : e = 2 then h.symm ▸ cd2 else if h : e = 5 then h.symm ▸ cd5 else if h : e = 22 then h.symm ▸ cd22 else cdNone (inhT e)
def cxT : Cx := Cx.of cdT
theorem cxT_ok : cxT.Ok := Cx.of_ok cdT
theorem dom_cases {e : Nat} (h : (cdT e).dom = true) : e = 2 ∨ e = 5 := by
  by_cases h1 : e = 2
  · exact .inl h1
  by_cases h2 : e = 5
  · exact .inr h2
  by_cases h3 : e = 22
  · subst h3; unfold cdT at h; rw [dif_neg h1, dif_neg h2, dif_pos rfl] at h; exact Bool.noConfusion h
  · unfold cdT at h; rw [dif_neg h1, dif_neg h2, dif_neg h3] at h; exact Bool.noConfusion h

theorem cxT_pok : cxT.POk prog := by
  refine ⟨fun e he => ?_, fun e he hu o x => ?_⟩
  · rcases dom_cases he with rfl | rfl
    · exact ⟨_, _, rfl, rfl, rfl, by decide, rfl, by decide, rfl⟩
    · exact ⟨_, _, rfl, rfl, rfl, by decide, rfl, by decide, rfl⟩
  · rcases dom_cases he with rfl | rfl
    · rw [underlying2] at hu
      cases hu
    · exact ⟨x, rfl⟩
end Go.Proofs.Try
