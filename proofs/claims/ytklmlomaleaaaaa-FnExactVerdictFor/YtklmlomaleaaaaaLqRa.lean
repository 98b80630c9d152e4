/- A part of the proof of FnExactVerdictFor: LqRa, LqRb. -/
import Derived.Test.YtklmlomaleaaaaaLqPa
import Derived.Test.YtklmlomaleaaaaaVmGr
import Derived.Test.YtklmlomaleaaaaaVmCb
import Derived.Maps.OwnSet
import Derived.Maps.RangeWalk
import Derived.DeepKeys4
import Derived.ChangeKeysEq
import Derived.WalkKit
import Derived.OwnWalk
import Derived.Below
import Derived.WalkMore
set_option linter.unusedVariables false
set_option linter.unusedVariables false
set_option linter.unusedSimpArgs false
namespace Go.Proofs.Try
open Go Go.VM Go.RowKit Go.Maps

/-! ### Verdicts as keys of a map -/
def vdV (x : Vd) : Value := .agg #[.int .i64 x.1, .int .i64 x.2.1, .bool x.2.2.1, .int .i64 x.2.2.2]
def vdL (x : Vd) : List Lit := [.int .i64 x.1, .int .i64 x.2.1, .bool x.2.2.1, .int .i64 x.2.2.2]
def kD (x : Vd) : Lit := .string (keyBytes (vdL x))
def wfV (x : Vd) : Prop := (Lit.int .i64 x.1).wf = true ∧ (Lit.int .i64 x.2.1).wf = true ∧ (Lit.int .i64 x.2.2.2).wf = true
theorem laidQ : laidOutB prog = true := by kernel_rfl
theorem row80 : (80 : TypeId) < prog.types.size := of_decide_eq_true (by kernel_rfl)
theorem wide80 : (match prog.underlying 80 with | some (.array _ _) | some (.struct _) => true | _ => false) = true := by kernel_rfl
theorem kt80 : prog.keyTypeAt 2 80 = true := by kernel_rfl
set_option maxRecDepth 100000 in
theorem law80 : Keyed prog 80 := Keyed.of_law (deep_law_laid laidQ (m := 2) (by omega) row80 kt80 wide80)
theorem key80 : prog.keyType 80 = true := by kernel_rfl
theorem cells80 : prog.cellsOf 80 = 4 := by kernel_rfl
theorem cellsI : prog.cellsOf 2 = 1 := by kernel_rfl
theorem cellsB : prog.cellsOf 4 = 1 := by kernel_rfl
theorem some_types : ∃ m, prog.types.size = m + 1 := ⟨prog.types.size - 1, by
  have : 0 < prog.types.size := of_decide_eq_true (by kernel_rfl)
  omega⟩
set_option maxRecDepth 100000 in
theorem keyOf_vd {x : Vd} (h : wfV x) : keyOf prog 80 (vdV x) = some (kD x) := by
  obtain ⟨a, b, c, d⟩ := x
  obtain ⟨ha, hb, hd⟩ := h
  obtain ⟨m, hm⟩ := some_types
  simp only at ha hb hd
  unfold keyOf
  simp only [underlying80]
  rw [if_pos (by simp [key80, vdV, Value.formed, underlying80, cells80]), hm]
  unfold Program.keyLits
  simp only [underlying80, vdV, Value.cells]
  rw [if_pos ⟨by rw [cells80]; rfl, by simp⟩]
  simp only [List.mapM_cons, List.mapM_nil, cellsI, cellsB]
  simp [Program.keyLits, underlying2, underlying4, ha, hb, hd, kD, vdL]
theorem len4 {α : Type} {l : List α} (h : l.length = 4) : ∃ a b c d, l = [a, b, c, d] := by
  match l, h with
  | [a, b, c, d], _ => exact ⟨a, b, c, d, rfl⟩
set_option maxRecDepth 100000 in
theorem key_inv {v : Value} {kl : Lit} (h : keyOf prog 80 v = some kl) : ∃ x : Vd, v = vdV x ∧ wfV x := by
  obtain ⟨⟨xs⟩, L, rfl, hL, rfl⟩ := keyOf_top wide80 h
  obtain ⟨m, hm⟩ := some_types
  rw [hm] at hL
  unfold Program.keyLits at hL
  simp only [underlying80] at hL
  split at hL
  · rename_i hc
    rw [cells80] at hc
    obtain ⟨v1, v2, v3, v4, rfl⟩ := len4 hc.1
    simp only [List.mapM_cons, List.mapM_nil, cellsI, cellsB, Option.map_eq_some_iff, Option.bind_eq_bind, Option.bind_eq_some_iff] at hL
    obtain ⟨_, ⟨l1, h1, _, ⟨l2, h2, _, ⟨l3, h3, _, ⟨l4, h4, _⟩, _⟩, _⟩, _⟩, _⟩ := hL
    obtain ⟨a, e1, rfl⟩ := keyLits_int' underlying2 h1
    obtain ⟨b, e2, rfl⟩ := keyLits_int' underlying2 h2
    obtain ⟨c, e3, rfl⟩ := keyLits_bool' underlying4 h3
    obtain ⟨d, e4, rfl⟩ := keyLits_int' underlying2 h4
    simp at e1 e2 e3 e4
    subst e1 e2 e3 e4
    have w1 := keyLits_wf h1 _ (List.mem_cons_self ..)
    have w2 := keyLits_wf h2 _ (List.mem_cons_self ..)
    have w4 := keyLits_wf h4 _ (List.mem_cons_self ..)
    exact ⟨(a, b, c, d), rfl, by simpa [Lit.keyWf] using w1, by simpa [Lit.keyWf] using w2, by simpa [Lit.keyWf] using w4⟩
  · cases hL
theorem kD_inj {x y : Vd} (hx : wfV x) (hy : wfV y) (h : kD x = kD y) : x = y := by
  have e := law80.inj (keyOf_vd hx) (h ▸ keyOf_vd hy)
  obtain ⟨a, b, c, d⟩ := x
  obtain ⟨a', b', c', d'⟩ := y
  simp [vdV] at e
  simp [e]
theorem kD_key {x : Vd} (hx : wfV x) : WideAt.IsKeyLit (kD x) := law80.key (keyOf_vd hx)

/-! The verdict that counts: of a prober on a name -/
abbrev Tt := Int → Int → Option (Bool × Int)
/-- A map of verdicts: there just if it is the one of its prober on its name. -/
def isT (D : DataW Unit) (T : Tt) : Prop := (∀ x : Vd, wfV x → (has D (kD x) = true ↔ T x.1 x.2.1 = some (x.2.2.1, x.2.2.2))) ∧ IsMap D ∧ ∀ p n u e, T p n = some (u, e) → (Lit.int .i64 e).wf = true
def hearT (T : Tt) (x : Vd) : Tt := fun p n => if p = x.1 ∧ n = x.2.1 then (match T x.1 x.2.1 with
  | some (u, e) => if e ≥ x.2.2.2 then some (u, e) else some (x.2.2.1, x.2.2.2)
  | none => some (x.2.2.1, x.2.2.2)) else T p n
end Go.Proofs.Try

set_option linter.unusedVariables false
set_option linter.unusedSimpArgs false
namespace Go.Proofs.Try
open Go Go.VM Go.RowKit Go.Maps

theorem elem_inv (v : Value) (y : DataW Unit × List MemPlace) (h : unitElem v = some y) : ∃ c : Unit, v = (fun _ => .agg #[]) c := ⟨(), (unitElem_inv h).1⟩
theorem same_eq {x y : Vd} (hx : wfV x) (hy : wfV y) : (kD x).sameKey (kD y) = decide (x = y) := by
  by_cases e : x = y
  · subst e
    rw [WideAt.sameKey_self (kD_key hx), decide_eq_true rfl]
  · rw [sameKey_ne (fun h => e (kD_inj hx hy h)), decide_eq_false e]
/-- What the loop of hear has done so far. -/
def hInv (D : DataW Unit) (T : Tt) (x : Vd) (left : Lit → Bool) : Prop := IsMap D ∧
  (∀ y : Vd, wfV y → (has D (kD y) = true ↔ T y.1 y.2.1 = some (y.2.2.1, y.2.2.2) ∧ (left (kD y) = true ∨ ¬ (y.1 = x.1 ∧ y.2.1 = x.2.1)))) ∧
  ∀ y : Vd, wfV y → T y.1 y.2.1 = some (y.2.2.1, y.2.2.2) → y.1 = x.1 → y.2.1 = x.2.1 → left (kD y) = true ∨ y.2.2.2 < x.2.2.2
theorem hInv_start {D : DataW Unit} {T : Tt} {x : Vd} (h : isT D T) : hInv D T x (has D) := by
  refine ⟨h.2.1, fun y hy => ⟨fun e => ⟨(h.1 y hy).1 e, .inl e⟩, fun e => (h.1 y hy).2 e.1⟩, fun y hy e _ _ => .inl ((h.1 y hy).2 e)⟩
/-- A verdict on another name, or of another prober, stays. -/
theorem hInv_stays {D : DataW Unit} {T : Tt} {x y : Vd} {left : Lit → Bool} (h : hInv D T x left) (hy : wfV y) (hl : left (kD y) = true) (hne : ¬ (y.1 = x.1 ∧ y.2.1 = x.2.1)) : hInv D T x (fun z => left z && !z.sameKey (kD y)) := by
  obtain ⟨h0, h1, h2⟩ := h
  refine ⟨h0, fun z hz => ?_, fun z hz e a b => ?_⟩
  · dsimp only
    rw [h1 z hz, same_eq hz hy]
    by_cases e : z = y
    · subst e; simp [hne]
    · simp [e]
  · dsimp only
    rw [same_eq hz hy]
    rcases h2 z hz e a b with h | h
    · by_cases e : z = y
      · subst e; exact absurd ⟨a, b⟩ hne
      · exact .inl (by simp [e, h])
    · exact .inr h
/-- An elder one of that prober on that name is struck. -/
theorem hInv_struck {D : DataW Unit} {T : Tt} {x y : Vd} {left : Lit → Bool} (h : hInv D T x left) (hy : wfV y) (hs1 : y.1 = x.1) (hs2 : y.2.1 = x.2.1) (hlt : y.2.2.2 < x.2.2.2) : hInv (D.del (kD y)) T x (fun z => left z && !z.sameKey (kD y)) := by
  obtain ⟨h0, h1, h2⟩ := h
  refine ⟨h0.del _, fun z hz => ?_, fun z hz e a b => ?_⟩
  · dsimp only
    rw [same_eq hz hy]
    by_cases e : z = y
    · subst e
      rw [has_del_same]
      simp [hs1, hs2]
    · rw [has_del_other (fun h => e (kD_inj hz hy h)), h1 z hz]
      simp [e]
  · dsimp only
    rw [same_eq hz hy]
    by_cases e' : z = y
    · subst e'; exact .inr hlt
    · rcases h2 z hz e a b with h | h
      · exact .inl (by simp [e', h])
      · exact .inr h
/-- All have been met: the verdict is taken. -/
theorem hInv_end {D : DataW Unit} {T : Tt} {x : Vd} {left : Lit → Bool} (hx : wfV x) (hT : ∀ p n u e, T p n = some (u, e) → (Lit.int .i64 e).wf = true) (h : hInv D T x left) (hl : ∀ kl, left kl = false) : isT (D.put (kD x) (.agg [])) (hearT T x) := by
  obtain ⟨h0, h1, h2⟩ := h
  have hlt : ∀ u e, T x.1 x.2.1 = some (u, e) → e < x.2.2.2 := fun u e he => by
    have := h2 (x.1, x.2.1, u, e) ⟨hx.1, hx.2.1, hT _ _ _ _ he⟩ he rfl rfl
    rw [hl] at this
    simpa using this
  have hst : hearT T x x.1 x.2.1 = some (x.2.2.1, x.2.2.2) := by
    unfold hearT
    rw [if_pos ⟨rfl, rfl⟩]
    cases hc : T x.1 x.2.1 with
    | none => rfl
    | some q =>
      obtain ⟨u, e⟩ := q
      have := hlt u e hc
      simp only
      rw [if_neg (by omega)]
  have hot : ∀ p n, ¬ (p = x.1 ∧ n = x.2.1) → hearT T x p n = T p n := fun p n h => by unfold hearT; rw [if_neg h]
  refine ⟨fun y hy => ?_, h0.put _ _, fun p n u e he => ?_⟩
  · by_cases hs : y.1 = x.1 ∧ y.2.1 = x.2.1
    · rw [hs.1, hs.2, hst]
      by_cases e : y = x
      · subst e
        simp [has_put_same h0 (kD_key hy)]
      · rw [has_put_other (fun h => e (kD_inj hy hx h)), h1 y hy, hl]
        obtain ⟨a, b, c, d⟩ := y
        obtain ⟨a', b', c', d'⟩ := x
        simp only at hs
        obtain ⟨rfl, rfl⟩ := hs
        simp at e ⊢
        intro h3 h4
        exact e h3.symm h4.symm
    · rw [has_put_other (fun h => hs (by have := kD_inj hy hx h; subst this; exact ⟨rfl, rfl⟩)), h1 y hy, hot _ _ hs]
      simp [hs]
  · by_cases hs : p = x.1 ∧ n = x.2.1
    · obtain ⟨rfl, rfl⟩ := hs
      rw [hst] at he
      cases he
      exact hx.2.2
    · rw [hot _ _ hs] at he
      exact hT _ _ _ _ he
/-- It is of no later epoch than the one that stands: nothing turns. -/
theorem hInv_ret {D : DataW Unit} {T : Tt} {x y : Vd} {left : Lit → Bool} (hx : wfV x) (hy : wfV y) (hT : ∀ p n u e, T p n = some (u, e) → (Lit.int .i64 e).wf = true) (h : hInv D T x left) (hD : has D (kD y) = true) (hl : left (kD y) = true) (hs1 : y.1 = x.1) (hs2 : y.2.1 = x.2.1) (hge : y.2.2.2 ≥ x.2.2.2) : isT D (hearT T x) := by
  obtain ⟨h0, h1, h2⟩ := h
  have ey := ((h1 y hy).1 hD).1
  have hh : hearT T x = T := by
    funext p n
    unfold hearT
    split
    · rename_i e
      rw [e.1, e.2, ← hs1, ← hs2, ey]
      simp only
      rw [if_pos hge]
    · rfl
  rw [hh]
  refine ⟨fun z hz => ?_, h0, hT⟩
  rw [h1 z hz]
  refine ⟨fun e => e.1, fun e => ⟨e, ?_⟩⟩
  by_cases hs : z.1 = x.1 ∧ z.2.1 = x.2.1
  · left
    have : z = y := by
      obtain ⟨a, b, c, d⟩ := z
      obtain ⟨a', b', c', d'⟩ := y
      simp only at hs hs1 hs2 e ey
      obtain ⟨rfl, rfl⟩ := hs
      subst hs1 hs2
      rw [e] at ey
      simp at ey ⊢
      exact ey
    rw [this]; exact hl
  · exact .inr hs
end Go.Proofs.Try
