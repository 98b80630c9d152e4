/- A part of the proof of FnExactBuildPacket: VmI. -/
import Derived.Test.YtaegcoihgnobiaaVmH
namespace Go.VM
open Go.RowKit

/-! ### Codecs, one a type -/
structure Cd (ty : Nat → Type) (T : Type) where
  dflt : T
  size : Nat
  flat : Bool
  dom : Bool
  enc : Bool → T → List (L ty)
  dec : List (L ty) → Option T
  len : ∀ o x, (enc o x).length = size
  leaf : ∀ o x l, l ∈ enc o x → (∃ v, l = some (.inl v) ∧ v.oneCell' = true) ∨ (∃ s, l = some (.inr s) ∧ s.own = (if o then 2 else 0))
  wk : ∀ o o' x, (enc o x).map (weak o') = enc o' x
  back : ∀ l x o, dec l = some x → l.map (VM.weak o) = enc o x
  flt : ∀ o x, flat = true → ∀ l ∈ enc o x, ∃ v, l = some (.inl v)

def cdNone {ty : Nat → Type} {T : Type} (z : T) : Cd ty T :=
  { dflt := z, size := 0, flat := false, dom := false, enc := fun _ _ => [], dec := fun _ => none, len := fun _ _ => rfl,
    leaf := fun _ _ _ h => by simp at h, wk := fun _ _ _ => rfl, back := fun _ _ _ h => by simp at h, flt := fun _ _ h => by simp at h }

def decI (k : IntKind) (v : Value) : Option Int := match v with | .int k' x => if k' = k then some x else none | _ => none

def cdInt {ty : Nat → Type} (k : IntKind) : Cd ty Int :=
  { dflt := 0, size := 1, flat := true, dom := true, enc := fun _ x => [lv (.int k x)],
    dec := fun l => match l with | [some (.inl v)] => decI k v | _ => none, len := fun _ _ => rfl,
    leaf := fun _ x l h => by
      simp only [List.mem_singleton] at h; exact .inl ⟨_, h, rfl⟩
    wk := fun _ _ _ => rfl
    back := fun l x o h => by
      split at h
      · rename_i v
        unfold decI at h
        split at h
        · split at h
          · rename_i hk
            subst hk
            cases h
            rfl
          · simp at h
        · simp at h
      · simp at h
    flt := fun _ x _ l h => by simp only [List.mem_singleton] at h; exact ⟨_, h⟩ }

def cdBool {ty : Nat → Type} : Cd ty Bool :=
  { dflt := false, size := 1, flat := true, dom := true, enc := fun _ x => [lv (.bool x)],
    dec := fun l => match l with | [some (.inl (.bool x))] => some x | _ => none, len := fun _ _ => rfl,
    leaf := fun _ x l h => by
      simp only [List.mem_singleton] at h; exact .inl ⟨_, h, rfl⟩
    wk := fun _ _ _ => rfl
    back := fun l x o h => by
      split at h
      · cases h; rfl
      · simp at h
    flt := fun _ x _ l h => by simp only [List.mem_singleton] at h; exact ⟨_, h⟩ }

def rowOf {ty : Nat → Type} (e : Nat) (s : SlD ty) : Option (List (ty e)) := if h : s.e = e then some (h ▸ s.xs) else none

/-- A slice of elements 'e', in one cell. -/
def cdRow {ty : Nat → Type} (e : Nat) : Cd ty (List (ty e)) :=
  { dflt := [], size := 1, flat := false, dom := false, enc := fun o x => [ls { own := if o then 2 else 0, nm := 0, e := e, o := o, xs := x }],
    dec := fun l => match l with | [some (.inr s)] => rowOf e s | _ => none, len := fun _ _ => rfl,
    leaf := fun _ x l h => by
      simp only [List.mem_singleton] at h; exact .inr ⟨_, h, rfl⟩
    wk := fun _ _ _ => rfl
    back := fun l x o h => by
      split at h
      · rename_i s
        unfold rowOf at h
        split at h
        · rename_i he
          obtain ⟨own, nm, e2, o2, xs⟩ := s
          simp only at he
          subst he
          cases h
          rfl
        · simp at h
      · simp at h
    flt := fun _ x h => by simp at h }

def Cx.of {ty : Nat → Type} (cd : (e : Nat) → Cd ty (ty e)) : Cx :=
  { ty := ty, dflt := fun e => (cd e).dflt, size := fun e => (cd e).size, flat := fun e => (cd e).flat, dom := fun e => (cd e).dom, enc := fun e => (cd e).enc, dec := fun e => (cd e).dec }

theorem Cx.of_ok {ty : Nat → Type} (cd : (e : Nat) → Cd ty (ty e)) : (Cx.of cd).Ok :=
  ⟨fun e => (cd e).len, fun e => (cd e).leaf, fun e => (cd e).wk, fun e => (cd e).back, fun e o x h => (cd e).flt o x h⟩

theorem kok_none {P : Program} {cx : Cx} : KOk P cx (fun _ => none) := fun _ _ h => by simp at h
end Go.VM
