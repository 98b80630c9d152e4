/- A part of the proof of FnExactSharesFault: VmI. -/
import Derived.Test.YtmdmeakelebfcaaVmH
namespace Go.VM
open Go.RowKit

/-! ### Codecs, one a type -/
structure Cd (ty : Nat → Type) (T : Type) where
  dflt : T
  size : Nat
  flat : Bool
  dom : Bool
  enc : Bool → T → List (L ty)
  dec : List (L ty) → Option T
  len : ∀ o x, (enc o x).length = size
  leaf : ∀ o x l, l ∈ enc o x → (∃ v, l = some (.inl v) ∧ v.oneCell' = true) ∨ (∃ s, l = some (.inr s) ∧ s.own = (if o then 2 else 0))
  wk : ∀ o o' x, (enc o x).map (weak o') = enc o' x
  back : ∀ l x o, dec l = some x → l.map (VM.weak o) = enc o x
  flt : ∀ o x, flat = true → ∀ l ∈ enc o x, ∃ v, l = some (.inl v)

def cdNone {ty : Nat → Type} {T : Type} (z : T) : Cd ty T :=
  { dflt := z, size := 0, flat := false, dom := false, enc := fun _ _ => [], dec := fun _ => none, len := fun _ _ => rfl,
    leaf := fun _ _ _ h => by simp at h, wk := fun _ _ _ => rfl, back := fun _ _ _ h => by simp at h, flt := fun _ _ h => by simp at h }

def decI (k : IntKind) (v : Value) : Option Int := match v with | .int k' x => if k' = k then some x else none | _ => none

def cdInt {ty : Nat → Type} (k : IntKind) : Cd ty Int :=
  { dflt := 0, size := 1, flat := true, dom := true, enc := fun _ x => [lv (.int k x)],
    dec := fun l => match l with | [some (.inl v)] => decI k v | _ => none, len := fun _ _ => rfl,
    leaf := fun _ x l h => by
      simp only [List.mem_singleton] at h; exact .inl ⟨_, h, rfl⟩
    wk := fun _ _ _ => rfl
    back := fun l x o h => by
      split at h
      · rename_i v
        unfold decI at h
        split at h
        · split at h
          · rename_i hk
            subst hk
            cases h
            rfl
          · simp at h
        · simp at h
      · simp at h
    flt := fun _ x _ l h => by simp only [List.mem_singleton] at h; exact ⟨_, h⟩ }

def cdBool {ty : Nat → Type} : Cd ty Bool :=
  { dflt := false, size := 1, flat := true, dom := true, enc := fun _ x => [lv (.bool x)],
    dec := fun l => match l with | [some (.inl (.bool x))] => some x | _ => none, len := fun _ _ => rfl,
    leaf := fun _ x l h => by
      simp only [List.mem_singleton] at h; exact .inl ⟨_, h, rfl⟩
    wk := fun _ _ _ => rfl
    back := fun l x o h => by
      split at h
      · cases h; rfl
      · simp at h
    flt := fun _ x _ l h => by simp only [List.mem_singleton] at h; exact ⟨_, h⟩ }

def rowOf {ty : Nat → Type} (e : Nat) (s : SlD ty) : Option (List (ty e)) := if h : s.e = e then some (h ▸ s.xs) else none

/-- A slice of elements 'e', in one cell. -/
def cdRow {ty : Nat → Type} (e : Nat) : Cd ty (List (ty e)) :=
  { dflt := [], size := 1, flat := false, dom := false, enc := fun o x => [ls { own := if o then 2 else 0, nm := 0, e := e, o := o, xs := x }],
    dec := fun l => match l with | [some (.inr s)] => rowOf e s | _ => none, len := fun _ _ => rfl,
    leaf := fun _ x l h => by
      simp only [List.mem_singleton] at h; exact .inr ⟨_, h, rfl⟩
    wk := fun _ _ _ => rfl
    back := fun l x o h => by
      split at h
      · rename_i s
        unfold rowOf at h
        split at h
        · rename_i he
          obtain ⟨own, nm, e2, o2, xs⟩ := s
          simp only at he
          subst he
          cases h
          rfl
        · simp at h
      · simp at h
    flt := fun _ x h => by simp at h }

/-- Two codecs, one behind the other: structs. -/
def cdPair {ty : Nat → Type} {T U : Type} (a : Cd ty T) (b : Cd ty U) : Cd ty (T × U) :=
  { dflt := (a.dflt, b.dflt), size := a.size + b.size, flat := a.flat && b.flat, dom := a.dom && b.dom, enc := fun o x => a.enc o x.1 ++ b.enc o x.2,
    dec := fun l => match a.dec (l.take a.size), b.dec (l.drop a.size) with
      | some x, some y => some (x, y)
      | _, _ => none
    len := fun o x => by rw [List.length_append, a.len, b.len]
    leaf := fun o x l h => by
      rcases List.mem_append.1 h with h | h
      · exact a.leaf o x.1 l h
      · exact b.leaf o x.2 l h
    wk := fun o o' x => by rw [List.map_append, a.wk, b.wk]
    back := fun l x o h => by
      split at h
      · rename_i x1 x2 h1 h2
        cases h
        show l.map (weak o) = a.enc o x1 ++ b.enc o x2
        rw [← a.back _ x1 o h1, ← b.back _ x2 o h2, ← List.map_append, List.take_append_drop]
      · simp at h
    flt := fun o x h l hl => by
      simp only [Bool.and_eq_true] at h
      rcases List.mem_append.1 hl with hl | hl
      · exact a.flt o x.1 h.1 l hl
      · exact b.flt o x.2 h.2 l hl }

def Cx.of {ty : Nat → Type} (cd : (e : Nat) → Cd ty (ty e)) : Cx :=
  { ty := ty, dflt := fun e => (cd e).dflt, size := fun e => (cd e).size, flat := fun e => (cd e).flat, dom := fun e => (cd e).dom, enc := fun e => (cd e).enc, dec := fun e => (cd e).dec }

theorem Cx.of_ok {ty : Nat → Type} (cd : (e : Nat) → Cd ty (ty e)) : (Cx.of cd).Ok :=
  ⟨fun e => (cd e).len, fun e => (cd e).leaf, fun e => (cd e).wk, fun e => (cd e).back, fun e o x h => (cd e).flt o x h⟩

theorem kok_none {P : Program} {cx : Cx} : KOk P cx (fun _ => none) := fun _ _ h => by simp at h
end Go.VM
