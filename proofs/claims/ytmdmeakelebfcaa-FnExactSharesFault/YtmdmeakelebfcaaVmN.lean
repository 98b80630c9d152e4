/- A part of the proof of FnExactSharesFault: VmN. -/
import Derived.Test.YtmdmeakelebfcaaVmM
namespace Go.VM
open Go.RowKit
section
variable {cx : Cx} {P : Program}

/-! ### The body of a function that may throw -/
def unV {ty : Nat → Type} : V ty → Option (List (A ty))
  | .inl a => some [a]
  | .inr (.inl [_]) => none
  | .inr (.inl l) => some l
  | .inr (.inr _) => none

theorem unV_pack {ty : Nat → Type} {r : V ty} {rs : List (A ty)} (h : unV r = some rs) : packV rs = r := by
  match r, h with
  | .inl a, h => cases h; rfl
  | .inr (.inl []), h => cases h; rfl
  | .inr (.inl (a :: b :: l)), h => cases h; rfl

def outT (P : Program) (fn : Func) (vd : Value) (st : St cx.ty) : Option (List (A cx.ty)) :=
  match outV P fn st with
  | some r => match unV r with
    | some rs => if noRoV r || noOwnV r then some (.inl (lv (.bool false)) :: .inl (lv vd) :: rs) else none
    | none => none
  | none => none

/-- 'vd', 'rsd': what stands for the thing thrown, for the results, where there are none. -/
def evFT (P : Program) (ev : Env cx) (lp : Lp cx (List (A cx.ty))) (fn : Func) (vd : Value) (rsd : List (A cx.ty)) (args : List (A cx.ty)) : Option (List (A cx.ty)) :=
  match fn.body with
  | some code => evC P ev lp 0 code { slots := args.map .inl ++ List.replicate (fn.ntmps - args.length) junk, D := [], F := [], ctr := 1 }
      { n := outT P fn vd, x := fun _ _ => none, r := outT P fn vd, t := fun v _ => some (.inl (lv (.bool true)) :: .inl (lv v) :: rsd) }
  | none => none

theorem satt_of_ev (ok : cx.Ok) (hZ : cx.POk P) (hm : P.follows .mixedOrders = true) {f : FuncId} {fn : Func} (hf : P.funcs[f]? = some fn) {F : List (A cx.ty) → Option (Bool × List (A cx.ty))}
    (h : ∀ as cs, F as = some (true, cs) → ∃ (ev : Env cx) (L : Nat) (vd : Value) (rsd : List (A cx.ty)), KOk P cx ev.Kc ∧ KwOk P cx ev.Kw ∧ evFT P ev (loopN L) fn vd rsd as = some cs) : SatT P cx f F := by
  intro w A0 l us thr v rs hA hargs hF
  obtain ⟨ev, L, vd, rsd, hK, hKw, hev⟩ := h l _ hF
  unfold evFT at hev
  split at hev
  · rename_i code hcode
    let c : Ct cx.ty := { T := [], D := [], F := [], w := w, S := A0, N := fun b => w.heap.size ≤ b, K := [] }
    have hwf : Wf cx c := ⟨by simp [c], by simp [c], by simp [c], by simp [c], fun b hb => by have := hA b hb; show ¬ w.heap.size ≤ b; omega, by simp [c], fun b hb => hb⟩
    have hrd : ∀ b, A0 b → Rd c b := fun b hb => ⟨hA b hb, .inl hb, by simp [c]⟩
    refine calls_of_wp hf hcode ?_
    refine evC_ok ok hZ ev L hK hKw hm (W := w) (S := A0) (N := fun b => w.heap.size ≤ b) (KK := []) code 0 _ _ (fun e c' st' a' h1 h2 h3 h4 h5 => ?_) _ c _ ⟨hwf, ?_, fun t => ?_, rfl, fun n => by simp [c], fun n => by simp [c], fun n hn => ?_, fun p u hp => by simp [c] at hp⟩ rfl ⟨rfl, rfl⟩ (Kept.refl _ _) hev
    · have fin : outT P fn vd st' = some (.inl (some (.inl (.bool thr))) :: .inl (some (.inl v)) :: rs) → a'.defers = [] ∧ ∃ x, (results fn a'.tmps).run P c'.w = .ok x c'.w ∧ (Below w.heap.size w c'.w ∧ bif thr then Ending.returned x = .panicked [{ v := v, recovered := false }] else ∃ u, Ending.returned x = .returned u ∧ ResV cx c'.w A0 (fun b => w.heap.size ≤ b) (packV rs) u) := by
        intro ho
        unfold outT at ho
        split at ho
        · rename_i r hr
          split at ho
          · rename_i rs' hu
            split at ho
            · rename_i hmix
              simp only [Bool.or_eq_true] at hmix
              simp only [Option.some.injEq, List.cons.injEq] at ho
              obtain ⟨h8, h9, rfl⟩ := ho
              have h8 : thr = false := by
                have : (Value.bool false) = .bool thr := by simpa [lv] using h8
                cases this
                rfl
              subst h8
              obtain ⟨u, h6, h7⟩ := outV_spec ok h1 hr hmix
              rw [h2, h3.1] at h7
              rw [unV_pack hu]
              exact ⟨h1.defers, u, h6, h4.low, u, rfl, h7⟩
            · simp at ho
          · simp at ho
        · simp at ho
      cases e with
      | normal => exact fin h5
      | ret => exact fin h5
      | panic ch =>
        replace h5 : onT (fun v (_ : St cx.ty) => some (.inl (lv (.bool true)) :: .inl (lv v) :: rsd)) ch st' = some (.inl (some (.inl (.bool thr))) :: .inl (some (.inl v)) :: rs) := h5
        unfold onT at h5
        split at h5
        · rename_i v0
          simp only [Option.some.injEq, List.cons.injEq] at h5
          obtain ⟨h8, h9, _⟩ := h5
          have h8 : thr = true := by
            have : (Value.bool true) = .bool thr := by simpa [lv] using h8
            cases this
            rfl
          have h9 : v0 = v := by simpa [lv] using h9
          subst h8; subst h9
          exact ⟨h1.defers, h4.low, rfl⟩
        · simp at h5
      | _ => simp [Kn.on] at h5
    · simp [hargs.1]
    · show RepV cx c _ _
      by_cases ht : t < l.length
      · have htu : t < us.length := by rw [hargs.1]; exact ht
        have e1 : (l.map Sum.inl ++ List.replicate (fn.ntmps - l.length) (junk : V cx.ty)).getD t junk = .inl l[t] := by
          simp [List.getD, List.getElem?_append_left, ht]
        have e2 : (us.toArray ++ Array.replicate (fn.ntmps - us.toArray.size) undef).getD t undef = us[t] := by
          simp [Array.getD_eq_getD_getElem?, Array.getElem?_append, htu]
        rw [e1, e2]
        exact ArgA.rep hrd (hargs.2 t _ _ (List.getElem?_eq_getElem ht) (List.getElem?_eq_getElem htu))
      · have e1 : (l.map Sum.inl ++ List.replicate (fn.ntmps - l.length) (junk : V cx.ty)).getD t junk = junk := by
          simp only [List.getD]
          rw [List.getElem?_append_right (by simp; omega)]
          simp only [List.length_map, List.getElem?_replicate]
          split <;> rfl
        rw [e1]
        trivial
    · rcases hn with ⟨tk, ht, _⟩ | hn | hn
      · simp [c] at ht
      · simp [c] at hn
      · simp [c] at hn
  · simp at hev


theorem sat_e (ok : cx.Ok) (hZ : cx.POk P) (hm : P.follows .mixedOrders = true) {f : FuncId} {fn : Func} (hf : P.funcs[f]? = some fn) {X R : Type} (a : Args cx.ty X) (enc : R → List (A cx.ty)) (d : R) (m : X → Option R)
    (ev : Env cx) (hK : KOk P cx ev.Kc) (hKw : KwOk P cx ev.Kw) (g : Nat → X → Option R) {vd : Value} {rsd : List (A cx.ty)} (he : ∀ L x, evFT P ev (loopN L) fn vd rsd (a.enc x) = (g L x).map enc) (hg : ∀ x t, m x = some t → ∃ L, g L x = some t) :
    SatT P cx f (fnW a enc d m) := by
  refine satt_of_ev ok hZ hm hf fun as r h => ?_
  obtain ⟨x, t, rfl, hx, rfl⟩ := fnW_inv h
  obtain ⟨L, hL⟩ := hg x t hx
  exact ⟨ev, L, vd, rsd, hK, hKw, by rw [he, hL]; rfl⟩

/-- The number in a thing thrown. -/
def thrCode (v : Value) : Int := match v with
  | .iface _ (.agg a) => match a.toList with
    | [.int _ x] => x
    | _ => 0
  | _ => 0

end
end Go.VM
