/- A part of the proof of FnExactSpreadOf: VmA19. -/
import Derived.Test.YtmdmeakelebfcaaVmA18
namespace Go.VM
open Go.RowKit
section
variable {cx : Cx} {P : Program}

/-! ### Functions that may throw -/
/-- What a function that throws hands back, read as one that does not: outside of where it throws. -/
def retF {ty : Nat → Type} (F : List (A ty) → Option (Bool × List (A ty))) (as : List (A ty)) : Option (Bool × V ty) :=
  match F as with
  | some (pre, .inl (some (.inl (.bool thr))) :: .inl (some (.inl _)) :: rs) => some (bif thr then false else pre, packV rs)
  | _ => none

theorem SatT.ret {f : FuncId} {F : List (A cx.ty) → Option (Bool × List (A cx.ty))} (h : SatT P cx f F) : Sat P cx f (retF F) := by
  intro w A0 l us r hA hargs hF
  unfold retF at hF
  split at hF
  · rename_i pre thr v rs hFl
    simp only [Option.some.injEq, Prod.mk.injEq] at hF
    obtain ⟨h1, rfl⟩ := hF
    cases thr with
    | true => simp at h1
    | false =>
      simp only [cond_false] at h1
      subst h1
      refine (h w A0 l us false v rs hA hargs hFl).mono fun e w' ⟨hb, he⟩ => ?_
      simp only [cond_false] at he
      obtain ⟨u, he, hr⟩ := he
      exact ⟨u, he, hb, hr⟩
  · simp at hF

def oneK (f : FuncId) (F : List (A cx.ty) → Option (Bool × V cx.ty)) : FuncId → Option (List (A cx.ty) → Option (Bool × V cx.ty)) := fun g => if g = f then some F else none

def evCallT {β : Type} (P : Program) (f : FuncId) (W : WFn cx) (st : St cx.ty) (args : List Operand) (ts : List TypeId) (nm0 : Nat) (kt : Value → St cx.ty → Option β) (k : Eff cx.ty → Option β) : Option β :=
  match P.funcs[f]?, argVs P cx ts (args.map (getV st.slots)) with
  | some fn, some (as, rd) => match W.F as with
    | some (pre, .inl (some (.inl (.bool thr))) :: .inl (some (.inl v)) :: _) =>
      bif pre then
        (bif thr then (if fn.body.isSome && fn.name != "runtime.NumGoroutine" && rd.all (fun n => !st.D.contains n) then kt v st else none)
        else evCall P (oneK f (retF W.F)) st.slots f args ts nm0 k)
      else none
    | _ => none
  | _, _ => none

/-- The same state in a later world: nothing that was there has changed. -/
theorem RS.later {st : St cx.ty} {c : Ct cx.ty} {a : Act} (h : RS cx c st a) {w' : World} (hb : Below c.w.heap.size c.w w') :
    ∃ c', RS cx c' st a ∧ c'.w = w' ∧ c'.S = c.S ∧ c'.N = c.N ∧ c'.K = c.K ∧ Kept c.N c.w w' := by
  have hbase : ∀ b, c.w.heap.size ≤ b → c.N b := by exact h.wf.size
  have hg : Good cx c (purR (junk : V cx.ty) []) (st.ctr * 65536) undef w' ([] ++ c.T) :=
    good_add (N := []) h.wf hb hbase (by simp) (by simp) (by simp) (by simp) (fun n hn hh => by have := h.names n hn; omega) (by simp) trivial
  exact ⟨_, ⟨hg.wf, h.size, fun t => RepV.pres cx hg.pres (h.rep t), h.defers, h.dead, h.frz, h.names, h.kp⟩, rfl, rfl, rfl, rfl, hg.below⟩

theorem evCallT_ok (ok : cx.Ok) {β : Type} {o : Oper} {nm0 : Nat} {f : FuncId} {args : Array Operand} {ts : Array TypeId} {W : WFn cx} (hK : SatT P cx f W.F)
    (ho : o.op = .call { callee := .value (.func f), args := args, argTypes := ts }) {st : St cx.ty} {kt : Value → St cx.ty → Option β} {k : Eff cx.ty → Option β} {r : β}
    (h : evCallT P f W st args.toList ts.toList nm0 kt k = some r) :
    (∃ ef, k ef = some r ∧ EffOK P cx o st.slots nm0 ef) ∨
    (∃ v, kt v st = some r ∧ ∀ (c : Ct cx.ty) (a : Act), RS cx c st a → (execOp a.eval o).run P c.w = .ok (.enter f (args.map a.eval)) c.w ∧
      Calls P f (args.map a.eval) c.w fun e w' => e = .panicked [{ v := v, recovered := false }] ∧ Below c.w.heap.size c.w w') := by
  unfold evCallT at h
  split at h
  · rename_i fn as rd hfn hargs
    split at h
    · rename_i pre thr v rs hF
      cases pre with
      | false => simp at h
      | true =>
      simp only [cond_true] at h
      cases thr with
      | false =>
        simp only [cond_false] at h
        refine .inl (evCall_ok ok (fun g F hg => ?_) ho h)
        unfold oneK at hg
        split at hg
        · rename_i hgf
          simp only [Option.some.injEq] at hg
          subst hgf; subst hg
          exact hK.ret
        · simp at hg
      | true =>
        simp only [cond_true] at h
        · split at h
          · rename_i hc
            simp only [Bool.and_eq_true, bne_iff_ne, ne_eq] at hc
            obtain ⟨⟨hbody, hname⟩, hrd⟩ := hc
            refine .inr ⟨v, h, fun c a hrs => ?_⟩
            have hop : ∀ x, RepV cx c (getV st.slots x) (a.eval x) := fun x => eval_rep hrs.rep x
            have harep := argVs_rep ok hrs.wf ts.toList _ as rd (args.toList.map a.eval) hargs (by simp) (fun j b u h1 h2 => by
              simp only [List.getElem?_map] at h1 h2
              cases hx : args.toList[j]? with
              | none => simp [hx] at h1
              | some x =>
                simp only [hx, Option.map_some, Option.some.injEq] at h1 h2
                subst h1; subst h2
                exact hop x) (fun n hn => by
                  have := List.all_eq_true.1 hrd n hn
                  rw [hrs.dead]
                  simpa using this)
            have hrun : (execOp a.eval o).run P c.w = .ok (.enter f (args.map a.eval)) c.w := by
              have hb : ¬ fn.body = none := by
                intro hbb
                simp [hbb] at hbody
              have hfv : a.eval (.func f) = .func (.func f) #[] #[] := rfl
              unfold execOp
              simp [ho, resolve, Deferred.ofValue, invoke, callFunc, hfv, hfn, hb, hname]
            refine ⟨hrun, ?_⟩
            have hcall := hK c.w (All c) as (args.toList.map a.eval) true v rs (fun b hb => hb.1) harep.1 hF
            have hargsEq : (args.toList.map a.eval).toArray = args.map a.eval := Array.ext' (by simp)
            rw [hargsEq] at hcall
            exact hcall.mono fun e w' ⟨hb, he⟩ => ⟨he, hb⟩
          · simp at h
    · simp at h
  · simp at h

end
end Go.VM
