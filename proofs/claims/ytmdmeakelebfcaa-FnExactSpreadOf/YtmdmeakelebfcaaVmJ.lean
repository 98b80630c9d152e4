/- A part of the proof of FnExactSpreadOf: VmJ. -/
import Derived.Test.YtmdmeakelebfcaaVmI
namespace Go.VM
open Go.RowKit

/-! ### Arguments, told and taken -/
structure LArg (ty : Nat → Type) (X : Type) where
  enc : X → L ty
  dec : L ty → Option X
  inv : ∀ a x, dec a = some x → a = enc x

structure Arg (ty : Nat → Type) (X : Type) where
  enc : X → A ty
  dec : A ty → Option X
  inv : ∀ a x, dec a = some x → a = enc x

def LArg.int {ty : Nat → Type} (k : IntKind) : LArg ty Int :=
  { enc := fun x => lv (.int k x), dec := fun a => match a with | some (.inl v) => decI k v | _ => none,
    inv := fun a x h => by
      split at h
      · rename_i v
        unfold decI at h
        split at h
        · split at h
          · rename_i hk
            subst hk
            cases h
            rfl
          · simp at h
        · simp at h
      · simp at h }

def LArg.bool {ty : Nat → Type} : LArg ty Bool :=
  { enc := fun x => lv (.bool x), dec := fun a => match a with | some (.inl (.bool x)) => some x | _ => none,
    inv := fun a x h => by
      split at h
      · cases h; rfl
      · simp at h }

def LArg.str {ty : Nat → Type} : LArg ty ByteArray :=
  { enc := fun x => lv (.string x), dec := fun a => match a with | some (.inl (.string x)) => some x | _ => none,
    inv := fun a x h => by
      split at h
      · cases h; rfl
      · simp at h }

def LArg.row {ty : Nat → Type} (e : Nat) : LArg ty (List (ty e)) :=
  { enc := fun x => ls (ro e x), dec := fun a => match a with | some (.inr s) => if s.own == 0 && s.nm == 0 && !s.o then rowOf e s else none | _ => none,
    inv := fun a x h => by
      split at h
      · rename_i s
        split at h
        · rename_i hc
          simp only [Bool.and_eq_true, beq_iff_eq, Bool.not_eq_true'] at hc
          unfold rowOf at h
          split at h
          · rename_i he
            obtain ⟨own, nm, e2, o2, xs⟩ := s
            simp only at he hc
            obtain ⟨⟨rfl, rfl⟩, rfl⟩ := hc
            subst he
            cases h
            rfl
          · simp at h
        · simp at h
      · simp at h }

def Arg.leaf {ty : Nat → Type} {X : Type} (a : LArg ty X) : Arg ty X :=
  { enc := fun x => .inl (a.enc x), dec := fun l => match l with | .inl l => a.dec l | _ => none,
    inv := fun l x h => by
      split at h
      · rename_i l
        rw [a.inv l x h]
      · simp at h }

abbrev Arg.int {ty : Nat → Type} (k : IntKind) : Arg ty Int := Arg.leaf (LArg.int k)
abbrev Arg.bool {ty : Nat → Type} : Arg ty Bool := Arg.leaf LArg.bool
abbrev Arg.row {ty : Nat → Type} (e : Nat) : Arg ty (List (ty e)) := Arg.leaf (LArg.row e)

/-- A struct of two leaves. -/
def Arg.two {ty : Nat → Type} {X Y : Type} (a : LArg ty X) (b : LArg ty Y) : Arg ty (X × Y) :=
  { enc := fun x => .inr [a.enc x.1, b.enc x.2], dec := fun l => match l with | .inr [p, q] => (a.dec p).bind fun x => (b.dec q).map fun y => (x, y) | _ => none,
    inv := fun l x h => by
      split at h
      · rename_i p q
        cases h1 : a.dec p with
        | none => rw [h1] at h; simp at h
        | some u =>
          cases h2 : b.dec q with
          | none => rw [h1, h2] at h; simp at h
          | some v =>
            rw [h1, h2] at h
            simp only [Option.bind_some, Option.map_some, Option.some.injEq] at h
            subst h
            rw [a.inv p u h1, b.inv q v h2]
      · simp at h }

def fn1 {cx : Cx} {X : Type} (a : Arg cx.ty X) (G : X → Option (V cx.ty)) : List (A cx.ty) → Option (Bool × V cx.ty)
  | [p] => (a.dec p).bind fun x => (G x).map fun v => (true, v)
  | _ => none

def fn2 {cx : Cx} {X Y : Type} (a : Arg cx.ty X) (b : Arg cx.ty Y) (G : X → Y → Option (V cx.ty)) : List (A cx.ty) → Option (Bool × V cx.ty)
  | [p, q] => (a.dec p).bind fun x => (b.dec q).bind fun y => (G x y).map fun v => (true, v)
  | _ => none

def fn3 {cx : Cx} {X Y Z : Type} (a : Arg cx.ty X) (b : Arg cx.ty Y) (c : Arg cx.ty Z) (G : X → Y → Z → Option (V cx.ty)) : List (A cx.ty) → Option (Bool × V cx.ty)
  | [p, q, s] => (a.dec p).bind fun x => (b.dec q).bind fun y => (c.dec s).bind fun z => (G x y z).map fun v => (true, v)
  | _ => none

theorem fn1_inv {cx : Cx} {X : Type} {a : Arg cx.ty X} {G : X → Option (V cx.ty)} {l : List (A cx.ty)} {r : V cx.ty} (h : fn1 a G l = some (true, r)) : ∃ x, l = [a.enc x] ∧ G x = some r := by
  unfold fn1 at h
  split at h
  · rename_i p
    cases h1 : a.dec p with
    | none => rw [h1] at h; simp at h
    | some x =>
      rw [h1] at h
      simp only [Option.bind_some, Option.map_eq_some_iff, Prod.mk.injEq, true_and] at h
      obtain ⟨v, hv, rfl⟩ := h
      exact ⟨x, by rw [a.inv p x h1], hv⟩
  · simp at h

theorem fn2_inv {cx : Cx} {X Y : Type} {a : Arg cx.ty X} {b : Arg cx.ty Y} {G : X → Y → Option (V cx.ty)} {l : List (A cx.ty)} {r : V cx.ty} (h : fn2 a b G l = some (true, r)) : ∃ x y, l = [a.enc x, b.enc y] ∧ G x y = some r := by
  unfold fn2 at h
  split at h
  · rename_i p q
    cases h1 : a.dec p with
    | none => rw [h1] at h; simp at h
    | some x =>
      cases h2 : b.dec q with
      | none => rw [h1, h2] at h; simp at h
      | some y =>
        rw [h1, h2] at h
        simp only [Option.bind_some, Option.map_eq_some_iff, Prod.mk.injEq, true_and] at h
        obtain ⟨v, hv, rfl⟩ := h
        exact ⟨x, y, by rw [a.inv p x h1, b.inv q y h2], hv⟩
  · simp at h

theorem fn3_inv {cx : Cx} {X Y Z : Type} {a : Arg cx.ty X} {b : Arg cx.ty Y} {c : Arg cx.ty Z} {G : X → Y → Z → Option (V cx.ty)} {l : List (A cx.ty)} {r : V cx.ty} (h : fn3 a b c G l = some (true, r)) : ∃ x y z, l = [a.enc x, b.enc y, c.enc z] ∧ G x y z = some r := by
  unfold fn3 at h
  split at h
  · rename_i p q s
    cases h1 : a.dec p with
    | none => rw [h1] at h; simp at h
    | some x =>
      cases h2 : b.dec q with
      | none => rw [h1, h2] at h; simp at h
      | some y =>
        cases h3 : c.dec s with
        | none => rw [h1, h2, h3] at h; simp at h
        | some z =>
          rw [h1, h2, h3] at h
          simp only [Option.bind_some, Option.map_eq_some_iff, Prod.mk.injEq, true_and] at h
          obtain ⟨v, hv, rfl⟩ := h
          exact ⟨x, y, z, by rw [a.inv p x h1, b.inv q y h2, c.inv s z h3], hv⟩
  · simp at h

/-! ### Typed contracts: what comes back stands open in its form -/
structure SArg (ty : Nat → Type) (X : Type) where
  enc : X → List (L ty)
  dec : List (L ty) → Option X
  inv : ∀ a x, dec a = some x → a = enc x

def SArg.one {ty : Nat → Type} {X : Type} (a : LArg ty X) : SArg ty X :=
  { enc := fun x => [a.enc x], dec := fun l => match l with | [p] => a.dec p | _ => none,
    inv := fun l x h => by
      split at h
      · rename_i p; rw [a.inv p x h]
      · simp at h }

def SArg.cons {ty : Nat → Type} {X Y : Type} (a : LArg ty X) (s : SArg ty Y) : SArg ty (X × Y) :=
  { enc := fun x => a.enc x.1 :: s.enc x.2, dec := fun l => match l with | p :: q => (a.dec p).bind fun x => (s.dec q).map fun y => (x, y) | _ => none,
    inv := fun l x h => by
      split at h
      · rename_i p q
        cases h1 : a.dec p with
        | none => rw [h1] at h; simp at h
        | some u =>
          cases h2 : s.dec q with
          | none => rw [h1, h2] at h; simp at h
          | some v =>
            rw [h1, h2] at h
            simp only [Option.bind_some, Option.map_some, Option.some.injEq] at h
            subst h
            rw [a.inv p u h1, s.inv q v h2]
      · simp at h }

def Arg.agg {ty : Nat → Type} {X : Type} (s : SArg ty X) : Arg ty X :=
  { enc := fun x => .inr (s.enc x), dec := fun l => match l with | .inr l => s.dec l | _ => none,
    inv := fun l x h => by
      split at h
      · rename_i l; rw [s.inv l x h]
      · simp at h }

/-- A list of arguments. -/
structure Args (ty : Nat → Type) (X : Type) where
  enc : X → List (A ty)
  dec : List (A ty) → Option X
  inv : ∀ a x, dec a = some x → a = enc x

def Args.nil {ty : Nat → Type} : Args ty Unit :=
  { enc := fun _ => [], dec := fun l => match l with | [] => some () | _ => none,
    inv := fun l x h => by
      split at h
      · rfl
      · simp at h }

def Args.one {ty : Nat → Type} {X : Type} (a : Arg ty X) : Args ty X :=
  { enc := fun x => [a.enc x], dec := fun l => match l with | [p] => a.dec p | _ => none,
    inv := fun l x h => by
      split at h
      · rename_i p; rw [a.inv p x h]
      · simp at h }

def Args.cons {ty : Nat → Type} {X Y : Type} (a : Arg ty X) (s : Args ty Y) : Args ty (X × Y) :=
  { enc := fun x => a.enc x.1 :: s.enc x.2, dec := fun l => match l with | p :: q => (a.dec p).bind fun x => (s.dec q).map fun y => (x, y) | _ => none,
    inv := fun l x h => by
      split at h
      · rename_i p q
        cases h1 : a.dec p with
        | none => rw [h1] at h; simp at h
        | some u =>
          cases h2 : s.dec q with
          | none => rw [h1, h2] at h; simp at h
          | some v =>
            rw [h1, h2] at h
            simp only [Option.bind_some, Option.map_some, Option.some.injEq] at h
            subst h
            rw [a.inv p u h1, s.inv q v h2]
      · simp at h }

def fnT {cx : Cx} {X R : Type} (a : Args cx.ty X) (enc : R → V cx.ty) (d : R) (m : X → Option R) : List (A cx.ty) → Option (Bool × V cx.ty) :=
  fun l => (a.dec l).map fun x => ((m x).isSome, enc ((m x).getD d))

theorem fnT_inv {cx : Cx} {X R : Type} {a : Args cx.ty X} {enc : R → V cx.ty} {d : R} {m : X → Option R} {l : List (A cx.ty)} {r : V cx.ty} (h : fnT a enc d m l = some (true, r)) : ∃ x t, l = a.enc x ∧ m x = some t ∧ r = enc t := by
  unfold fnT at h
  cases h1 : a.dec l with
  | none => rw [h1] at h; simp at h
  | some x =>
    rw [h1] at h
    simp only [Option.map_some, Option.some.injEq, Prod.mk.injEq] at h
    cases h2 : m x with
    | none => rw [h2] at h; simp at h
    | some t =>
      rw [h2] at h
      exact ⟨x, t, a.inv l x h1, h2, h.2.symm⟩

theorem sat_t {P : Program} {cx : Cx} (ok : cx.Ok) (hZ : cx.POk P) (hm : P.follows .mixedOrders = true) {f : FuncId} {fn : Func} (hf : P.funcs[f]? = some fn) {X R : Type} (a : Args cx.ty X) (enc : R → V cx.ty) (d : R) (m : X → Option R)
    (ev : Env cx) (hK : KOk P cx ev.Kc) (hKw : KwOk P cx ev.Kw) (g : Nat → X → Option R) (he : ∀ L x, evF P ev (loopN L) fn (a.enc x) = (g L x).map enc) (hg : ∀ x t, m x = some t → ∃ L, g L x = some t) (hs : ∀ t, noRoV (enc t) = true ∨ noOwnV (enc t) = true) :
    Sat P cx f (fnT a enc d m) := by
  refine sat_of_ev ok hZ hm hf fun as r h => ?_
  obtain ⟨x, t, rfl, hx, rfl⟩ := fnT_inv h
  obtain ⟨L, hL⟩ := hg x t hx
  exact ⟨ev, L, hK, hKw, by rw [he, hL]; rfl, hs t⟩

def kcOf {cx : Cx} : List (FuncId × (List (A cx.ty) → Option (Bool × V cx.ty))) → Kt cx
  | [], _ => none
  | (f, F) :: r, g => if g = f then some F else kcOf r g

theorem kok_nil {P : Program} {cx : Cx} : KOk P cx (kcOf []) := fun _ _ h => by simp [kcOf] at h
theorem kok_cons {P : Program} {cx : Cx} {f : FuncId} {F : List (A cx.ty) → Option (Bool × V cx.ty)} {r : List (FuncId × (List (A cx.ty) → Option (Bool × V cx.ty)))} (h : Sat P cx f F) (hr : KOk P cx (kcOf r)) : KOk P cx (kcOf ((f, F) :: r)) := by
  intro g G hG
  unfold kcOf at hG
  split at hG
  · rename_i he
    subst he
    cases hG
    exact h
  · exact hr g G hG

theorem map_bif {α β : Type} (f : α → β) (c : Bool) (a b : Option α) : (bif c then a else b).map f = bif c then a.map f else b.map f := by cases c <;> rfl
end Go.VM
