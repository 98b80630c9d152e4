/- A part of the proof of FnHealths: VmJ, VmK, VmL, VmM, VmN, VmO, VmP, VmPu, VmTop. -/
import Derived.Test.YtklmlomaleaaaaaVmB
import Derived.Below
namespace Go.VM
open Go.RowKit

/-! ### Arguments, told and taken -/
structure LArg (ty : Nat → Type) (X : Type) where
  enc : X → L ty
  dec : L ty → Option X
  inv : ∀ a x, dec a = some x → a = enc x

structure Arg (ty : Nat → Type) (X : Type) where
  enc : X → A ty
  dec : A ty → Option X
  inv : ∀ a x, dec a = some x → a = enc x

def LArg.int {ty : Nat → Type} (k : IntKind) : LArg ty Int :=
  { enc := fun x => lv (.int k x), dec := fun a => match a with | some (.inl v) => decI k v | _ => none,
    inv := fun a x h => by
      split at h
      · rename_i v
        unfold decI at h
        split at h
        · split at h
          · rename_i hk
            subst hk
            cases h
            rfl
          · simp at h
        · simp at h
      · simp at h }

def LArg.bool {ty : Nat → Type} : LArg ty Bool :=
  { enc := fun x => lv (.bool x), dec := fun a => match a with | some (.inl (.bool x)) => some x | _ => none,
    inv := fun a x h => by
      split at h
      · cases h; rfl
      · simp at h }

def LArg.row {ty : Nat → Type} (e : Nat) : LArg ty (List (ty e)) :=
  { enc := fun x => ls (ro e x), dec := fun a => match a with | some (.inr s) => if s.own == 0 && s.nm == 0 && !s.o then rowOf e s else none | _ => none,
    inv := fun a x h => by
      split at h
      · rename_i s
        split at h
        · rename_i hc
          simp only [Bool.and_eq_true, beq_iff_eq, Bool.not_eq_true'] at hc
          unfold rowOf at h
          split at h
          · rename_i he
            obtain ⟨own, nm, e2, o2, xs⟩ := s
            simp only at he hc
            obtain ⟨⟨rfl, rfl⟩, rfl⟩ := hc
            subst he
            cases h
            rfl
          · simp at h
        · simp at h
      · simp at h }

def Arg.leaf {ty : Nat → Type} {X : Type} (a : LArg ty X) : Arg ty X :=
  { enc := fun x => .inl (a.enc x), dec := fun l => match l with | .inl l => a.dec l | _ => none,
    inv := fun l x h => by
      split at h
      · rename_i l
        rw [a.inv l x h]
      · simp at h }

abbrev Arg.int {ty : Nat → Type} (k : IntKind) : Arg ty Int := Arg.leaf (LArg.int k)
abbrev Arg.bool {ty : Nat → Type} : Arg ty Bool := Arg.leaf LArg.bool
abbrev Arg.row {ty : Nat → Type} (e : Nat) : Arg ty (List (ty e)) := Arg.leaf (LArg.row e)

/-! ### Typed contracts: what comes back stands open in its form -/
structure SArg (ty : Nat → Type) (X : Type) where
  enc : X → List (L ty)
  dec : List (L ty) → Option X
  inv : ∀ a x, dec a = some x → a = enc x

def SArg.one {ty : Nat → Type} {X : Type} (a : LArg ty X) : SArg ty X :=
  { enc := fun x => [a.enc x], dec := fun l => match l with | [p] => a.dec p | _ => none,
    inv := fun l x h => by
      split at h
      · rename_i p; rw [a.inv p x h]
      · simp at h }

def SArg.cons {ty : Nat → Type} {X Y : Type} (a : LArg ty X) (s : SArg ty Y) : SArg ty (X × Y) :=
  { enc := fun x => a.enc x.1 :: s.enc x.2, dec := fun l => match l with | p :: q => (a.dec p).bind fun x => (s.dec q).map fun y => (x, y) | _ => none,
    inv := fun l x h => by
      split at h
      · rename_i p q
        cases h1 : a.dec p with
        | none => rw [h1] at h; simp at h
        | some u =>
          cases h2 : s.dec q with
          | none => rw [h1, h2] at h; simp at h
          | some v =>
            rw [h1, h2] at h
            simp only [Option.bind_some, Option.map_some, Option.some.injEq] at h
            subst h
            rw [a.inv p u h1, s.inv q v h2]
      · simp at h }

def Arg.agg {ty : Nat → Type} {X : Type} (s : SArg ty X) : Arg ty X :=
  { enc := fun x => .inr (s.enc x), dec := fun l => match l with | .inr l => s.dec l | _ => none,
    inv := fun l x h => by
      split at h
      · rename_i l; rw [s.inv l x h]
      · simp at h }

/-- A list of arguments. -/
structure Args (ty : Nat → Type) (X : Type) where
  enc : X → List (A ty)
  dec : List (A ty) → Option X
  inv : ∀ a x, dec a = some x → a = enc x

def Args.nil {ty : Nat → Type} : Args ty Unit :=
  { enc := fun _ => [], dec := fun l => match l with | [] => some () | _ => none,
    inv := fun l x h => by
      split at h
      · rfl
      · simp at h }

def Args.one {ty : Nat → Type} {X : Type} (a : Arg ty X) : Args ty X :=
  { enc := fun x => [a.enc x], dec := fun l => match l with | [p] => a.dec p | _ => none,
    inv := fun l x h => by
      split at h
      · rename_i p; rw [a.inv p x h]
      · simp at h }

def Args.cons {ty : Nat → Type} {X Y : Type} (a : Arg ty X) (s : Args ty Y) : Args ty (X × Y) :=
  { enc := fun x => a.enc x.1 :: s.enc x.2, dec := fun l => match l with | p :: q => (a.dec p).bind fun x => (s.dec q).map fun y => (x, y) | _ => none,
    inv := fun l x h => by
      split at h
      · rename_i p q
        cases h1 : a.dec p with
        | none => rw [h1] at h; simp at h
        | some u =>
          cases h2 : s.dec q with
          | none => rw [h1, h2] at h; simp at h
          | some v =>
            rw [h1, h2] at h
            simp only [Option.bind_some, Option.map_some, Option.some.injEq] at h
            subst h
            rw [a.inv p u h1, s.inv q v h2]
      · simp at h }

def fnT {cx : Cx} {X R : Type} (a : Args cx.ty X) (enc : R → V cx.ty) (d : R) (m : X → Option R) : List (A cx.ty) → Option (Bool × V cx.ty) :=
  fun l => (a.dec l).map fun x => ((m x).isSome, enc ((m x).getD d))

theorem fnT_inv {cx : Cx} {X R : Type} {a : Args cx.ty X} {enc : R → V cx.ty} {d : R} {m : X → Option R} {l : List (A cx.ty)} {r : V cx.ty} (h : fnT a enc d m l = some (true, r)) : ∃ x t, l = a.enc x ∧ m x = some t ∧ r = enc t := by
  unfold fnT at h
  cases h1 : a.dec l with
  | none => rw [h1] at h; simp at h
  | some x =>
    rw [h1] at h
    simp only [Option.map_some, Option.some.injEq, Prod.mk.injEq] at h
    cases h2 : m x with
    | none => rw [h2] at h; simp at h
    | some t =>
      rw [h2] at h
      exact ⟨x, t, a.inv l x h1, h2, h.2.symm⟩

theorem sat_t {P : Program} {cx : Cx} (ok : cx.Ok) (hZ : cx.POk P) (hm : P.follows .mixedOrders = true) {f : FuncId} {fn : Func} (hf : P.funcs[f]? = some fn) {X R : Type} (a : Args cx.ty X) (enc : R → V cx.ty) (d : R) (m : X → Option R)
    (ev : Env cx) (hK : KOk P cx ev.Kc) (hKw : KwOk P cx ev.Kw) (g : Nat → X → Option R) (he : ∀ L x, evF P ev (loopN L) fn (a.enc x) = (g L x).map enc) (hg : ∀ x t, m x = some t → ∃ L, g L x = some t) (hs : ∀ t, noRoV (enc t) = true ∨ noOwnV (enc t) = true) :
    Sat P cx f (fnT a enc d m) := by
  refine sat_of_ev ok hZ hm hf fun as r h => ?_
  obtain ⟨x, t, rfl, hx, rfl⟩ := fnT_inv h
  obtain ⟨L, hL⟩ := hg x t hx
  exact ⟨ev, L, hK, hKw, by rw [he, hL]; rfl, hs t⟩

def kcOf {cx : Cx} : List (FuncId × (List (A cx.ty) → Option (Bool × V cx.ty))) → Kt cx
  | [], _ => none
  | (f, F) :: r, g => if g = f then some F else kcOf r g

theorem kok_nil {P : Program} {cx : Cx} : KOk P cx (kcOf []) := fun _ _ h => by simp [kcOf] at h
theorem kok_cons {P : Program} {cx : Cx} {f : FuncId} {F : List (A cx.ty) → Option (Bool × V cx.ty)} {r : List (FuncId × (List (A cx.ty) → Option (Bool × V cx.ty)))} (h : Sat P cx f F) (hr : KOk P cx (kcOf r)) : KOk P cx (kcOf ((f, F) :: r)) := by
  intro g G hG
  unfold kcOf at hG
  split at hG
  · rename_i he
    subst he
    cases hG
    exact h
  · exact hr g G hG

theorem map_bif {α β : Type} (f : α → β) (c : Bool) (a b : Option α) : (bif c then a else b).map f = bif c then a.map f else b.map f := by cases c <;> rfl
end Go.VM

namespace Go.VM
open Go.RowKit
/-- A piece of a function's code. -/
def codeAt : List Nat → Code → Code
  | [], c => c
  | i :: p, c => match c with
    | .seq x y => codeAt p (if i = 0 then x else y)
    | .cond _ x y => codeAt p (if i = 0 then x else y)
    | .block _ c => codeAt p c
    | .loop c => codeAt p c
    | _ => .skip
def bodyAt (fn : Func) (p : List Nat) : Code := match fn.body with | some c => codeAt p c | none => .skip
section
variable {cx : Cx} {β : Type}
/-- What follows behind a piece of code. -/
def contC (P : Program) (ev : Env cx) (lp : Lp cx β) : List Nat → Nat → Code → Kn cx β → Kn cx β
  | [], _, _, k => k
  | i :: p, bid, c, k => match c with
    | .seq x y => if i = 0 then contC P ev lp p bid x (seqK (evC P ev lp bid y) k) else contC P ev lp p bid y k
    | .cond _ x y => contC P ev lp p bid (if i = 0 then x else y) k
    | .block id c => contC P ev lp p id c (blkK id (ev.xv id) k)
    | .loop c => contC P ev lp p bid c k
    | _ => k

/-- The body of the loop in block 'id', at a place. -/
def bodyL (P : Program) (ev : Env cx) (L : Nat) (fn : Func) (id : Nat) (p : List Nat) : St cx.ty → Kn cx β → Option β := evC P ev (loopN L) id (bodyAt fn p)

/-- Rounds of a loop, from a plain state on: 'K': what follows where the block is left. -/
def headF (P : Program) (ev : Env cx) (L : Nat) (fn : Func) (id : Nat) (p : List Nat) (K : Kn cx β) (n : Nat) (st : St cx.ty) : Option β :=
  loopC (bodyL P ev L fn id p) (canon (ev.lv id)) (blkK id (ev.xv id) K) n st

def roundF (P : Program) (ev : Env cx) (L : Nat) (fn : Func) (id : Nat) (p : List Nat) (K : Kn cx β) (g : St cx.ty → Option β) (st : St cx.ty) : Option β :=
  bodyL P ev L fn id p st (seqK (fun st' _ => g (canon (ev.lv id) st')) (blkK id (ev.xv id) K))

theorem headF_round (P : Program) (ev : Env cx) (L : Nat) (fn : Func) (id : Nat) (p : List Nat) (K : Kn cx β) (n : Nat) (st : St cx.ty) :
    headF P ev L fn id p K (n + 1) st = roundF P ev L fn id p K (headF P ev L fn id p K n) st := rfl

/-- What follows a block at a place of the function: 'fin': what is handed back. -/
def topK (P : Program) (ev : Env cx) (L : Nat) (fn : Func) (p : List Nat) (fin : St cx.ty → Option β) : Kn cx β := contC P ev (loopN L) p 0 (bodyAt fn []) { n := fin, x := fun _ _ => none, r := fin }

def outK (fin : St cx.ty → Option β) (k : St cx.ty → Option β) (x : Nat → St cx.ty → Option β) : Kn cx β := { n := k, x := x, r := fin }
end
end Go.VM

namespace Go.VM
open Go.RowKit
section
variable {cx : Cx} {P : Program}

/-! ### Functions that write into what they are handed -/
theorem resA_length : ∀ (l : List ResultVar) (slots : List (V cx.ty)) (as : List (A cx.ty)), resA P slots l = some as → as.length = l.length
  | [], _, as, h => by simp only [resA, Option.some.injEq] at h; subst h; rfl
  | .tmp t :: r, slots, as, h => by
    simp only [resA] at h
    split at h
    · rename_i a as' e1 e2
      simp only [Option.some.injEq] at h
      subst h
      simp [resA_length r slots as' e2]
    · simp at h
  | .cell t ty :: r, slots, as, h => by
    simp only [resA] at h
    split at h
    · rename_i p as' e1 e2
      split at h
      · split at h
        · simp only [Option.some.injEq] at h
          subst h
          simp [resA_length r slots as' e2]
        · simp at h
      · simp at h
    · simp at h

/-! ### Typed -/
def LArg.own {ty : Nat → Type} (e : Nat) : LArg ty (List (ty e)) :=
  { enc := fun x => ls { own := 2, nm := 0, e := e, o := true, xs := x }, dec := fun a => match a with | some (.inr s) => if s.own == 2 && s.nm == 0 && s.o then rowOf e s else none | _ => none,
    inv := fun a x h => by
      split at h
      · rename_i s
        split at h
        · rename_i hc
          simp only [Bool.and_eq_true, beq_iff_eq] at hc
          unfold rowOf at h
          split at h
          · rename_i he
            obtain ⟨own, nm, e2, o2, xs⟩ := s
            simp only at he hc
            obtain ⟨⟨rfl, rfl⟩, rfl⟩ := hc
            subst he
            cases h
            rfl
          · simp at h
        · simp at h
      · simp at h }

def fnW {cx : Cx} {X R : Type} (a : Args cx.ty X) (enc : R → List (A cx.ty)) (d : R) (m : X → Option R) : List (A cx.ty) → Option (Bool × List (A cx.ty)) :=
  fun l => (a.dec l).map fun x => ((m x).isSome, enc ((m x).getD d))

theorem fnW_inv {cx : Cx} {X R : Type} {a : Args cx.ty X} {enc : R → List (A cx.ty)} {d : R} {m : X → Option R} {l : List (A cx.ty)} {r : List (A cx.ty)} (h : fnW a enc d m l = some (true, r)) : ∃ x t, l = a.enc x ∧ m x = some t ∧ r = enc t := by
  unfold fnW at h
  cases h1 : a.dec l with
  | none => rw [h1] at h; simp at h
  | some x =>
    rw [h1] at h
    simp only [Option.map_some, Option.some.injEq, Prod.mk.injEq] at h
    cases h2 : m x with
    | none => rw [h2] at h; simp at h
    | some t =>
      rw [h2] at h
      exact ⟨x, t, a.inv l x h1, h2, h.2.symm⟩

def kwOf {cx : Cx} : List (FuncId × WFn cx) → Kwt cx
  | [], _ => none
  | (f, F) :: r, g => if g = f then some F else kwOf r g

theorem kwok_nil {P : Program} {cx : Cx} : KwOk P cx (kwOf []) := fun _ _ h => by simp [kwOf] at h
theorem kwok_cons {P : Program} {cx : Cx} {f : FuncId} {F : WFn cx} {r : List (FuncId × WFn cx)} (h : SatOf P cx f F) (hr : KwOk P cx (kwOf r)) : KwOk P cx (kwOf ((f, F) :: r)) := by
  intro g G hG
  unfold kwOf at hG
  split at hG
  · rename_i he
    subst he
    cases hG
    exact h
  · exact hr g G hG

/-! ### Functions whose rows are handed back to be read alone -/
/-- A row of our own whose elements are read, read. -/
theorem HalfL.rep (ok : cx.Ok) {w : World} {S S' : Nat → Prop} {s : SlD cx.ty} {u : Value} {fp : List Nat} (hS : ∀ b, S b → S' b) (hf : ∀ b ∈ fp, S' b) (h : HalfL cx w S s u fp) : ∃ n, RepL cx w S' n (some (.inr (ro s.e s.xs))) u := by
  obtain ⟨hfp, us, n, hrow, hl1, h⟩ := h
  refine ⟨n + 1, ?_⟩
  rcases hrow.2 with ⟨hu, h0⟩ | ⟨g, cap, cur, hu, hg, hh, hn, hm, hc, ht⟩
  · exact ⟨none, 0, by rw [hu, show (ro s.e s.xs).xs.length = s.xs.length from rfl, h0], by rw [show (ro s.e s.xs).xs.length = s.xs.length from rfl]; omega, .inl (List.eq_nil_of_length_eq_zero h0)⟩
  · refine ⟨some ⟨g, 0, none⟩, cap, hu, hn, .inr ⟨g, 0, rfl, hf g (by rw [hfp, hu]; simp [Value.ownBlock]), fun i x hx j l hl => ?_⟩⟩
    have hj : j < cx.size s.e := by rw [← ok.len s.e false x]; exact (List.getElem?_eq_some_iff.1 hl).1
    have hl' : (cx.enc s.e false x)[j]? = some l := hl
    rw [← flat_get (cx.enc s.e false) (cx.size s.e) (fun x => ok.len s.e false x) s.xs i x hx j hj] at hl'
    have hlt : i * cx.size s.e + j < us.length := by rw [hl1]; exact (List.getElem?_eq_some_iff.1 hl').1
    have hc1 := List.getElem?_eq_getElem hlt
    refine ⟨us[i * cx.size s.e + j], ?_, RepL_mono cx (fun _ _ => rfl) hS _ _ _ (h _ _ _ hl' hc1)⟩
    have := hrow.cells (g := g) (by rw [hu]; rfl) _ _ hc1
    show w.cell? ⟨g, 0 + (i * cx.size s.e + j), none⟩ = _
    simpa [Addr.add_lit] using this

end
end Go.VM

namespace Go.VM
open Go.RowKit
section
variable {cx : Cx} {P : Program}

/-! ### Functions that are handed a pointer to a box, or hand one back -/
/-- A piece that leaves: 'seen': what has left already. -/
def outLf (cx : Cx) (P : Program) (D F : List Nat) (t : TypeId) (seen : List Nat) (l : L cx.ty) : Option (L cx.ty × List Nat) :=
  match l with
  | some (.inl (.slice none 0 0)) => match sliceElem P t with
    | some e => some (ls { own := 2, nm := 0, e := e, o := true, xs := [] }, seen)
    | none => none
  | some (.inl v) => some (lv v, seen)
  | some (.inr s) => if s.own == 1 then
      (if D.contains s.nm || seen.contains s.nm then none
       else if F.contains s.nm then some (ls (ro s.e s.xs), seen)
       else if s.o && cx.flat s.e then some (ls { own := 2, nm := 0, e := s.e, o := true, xs := s.xs }, s.nm :: seen) else none)
    else some (ls (ro s.e s.xs), seen)
  | none => none

def outLsf (cx : Cx) (P : Program) (D F : List Nat) : List TypeId → List Nat → List (L cx.ty) → Option (List (L cx.ty) × List Nat)
  | t :: ts, seen, l :: r => match outLf cx P D F t seen l with
    | some (l', s1) => match outLsf cx P D F ts s1 r with
      | some (r', s2) => some (l' :: r', s2)
      | none => none
    | none => none
  | [], seen, [] => some ([], seen)
  | _, _, _ => none

def outAf (cx : Cx) (P : Program) (D F : List Nat) (t : TypeId) (seen : List Nat) (a : A cx.ty) : Option (A cx.ty × List Nat) :=
  match a with
  | .inl l => match outLf cx P D F t seen l with
    | some (l', s1) => some (.inl l', s1)
    | none => none
  | .inr l => match outLsf cx P D F (leafTypes P 8 t) seen l with
    | some (l', s1) => some (.inr l', s1)
    | none => none

def outAsf (cx : Cx) (P : Program) (D F : List Nat) : List TypeId → List Nat → List (A cx.ty) → Option (List (A cx.ty) × List Nat)
  | t :: ts, seen, l :: r => match outAf cx P D F t seen l with
    | some (l', s1) => match outAsf cx P D F ts s1 r with
      | some (r', s2) => some (l' :: r', s2)
      | none => none
    | none => none
  | [], seen, [] => some ([], seen)
  | _, _, _ => none

structure OSf (c : Ct cx.ty) (seen seen' : List Nat) (fp : List Nat) : Prop where
  src : ∀ b ∈ fp, ∃ tk ∈ c.T, tk.nm ∈ seen' ∧ tk.nm ∉ seen ∧ b ∈ vb tk.u
  nd : fp.Nodup
  grow : ∀ n ∈ seen, n ∈ seen'
  row : ∀ b ∈ fp, ∀ tk ∈ c.T, b ∈ vb tk.u → ∃ s, tk.c = .inl s

theorem OSf.nil (c : Ct cx.ty) (seen : List Nat) : OSf c seen seen [] := ⟨by simp, by simp, fun _ h => h, by simp⟩

theorem OSf.app {c : Ct cx.ty} (h : Wf cx c) {s0 s1 s2 f1 f2 : List Nat} (h1 : OSf c s0 s1 f1) (h2 : OSf c s1 s2 f2) : OSf c s0 s2 (f1 ++ f2) := by
  refine ⟨fun b hb => ?_, ?_, fun n hn => h2.grow n (h1.grow n hn), fun b hb tk ht hv => (List.mem_append.1 hb).elim (fun hb => h1.row b hb tk ht hv) (fun hb => h2.row b hb tk ht hv)⟩
  · rcases List.mem_append.1 hb with hb | hb
    · obtain ⟨tk, k1, k2, k3, k4⟩ := h1.src b hb
      exact ⟨tk, k1, h2.grow _ k2, k3, k4⟩
    · obtain ⟨tk, k1, k2, k3, k4⟩ := h2.src b hb
      exact ⟨tk, k1, k2, fun hs => k3 (h1.grow _ hs), k4⟩
  · rw [List.nodup_append]
    refine ⟨h1.nd, h2.nd, fun a ha b hb he => ?_⟩
    subst he
    obtain ⟨t1, k1, k2, k3, k4⟩ := h1.src a ha
    obtain ⟨t2, m1, m2, m3, m4⟩ := h2.src a hb
    exact disjoint_toks h k1 m1 (fun e => m3 (e ▸ k2)) (List.mem_append.2 (.inl k4)) (List.mem_append.2 (.inl m4))

theorem outLf_spec (ok : cx.Ok) {c : Ct cx.ty} (h : Wf cx c) {D F : List Nat} (hD : ∀ n, n ∈ c.D ↔ n ∈ D) (hF : ∀ n, n ∈ c.F ↔ n ∈ F) {t : TypeId} {seen seen' : List Nat} {l l' : L cx.ty} {u : Value} (hr : RepLS cx c l u) (ho : outLf cx P D F t seen l = some (l', seen')) :
    ∃ fp, ResL cx c.w (Rd c) l' u fp ∧ OSf c seen seen' fp := by
  unfold outLf at ho
  split at ho
  · split at ho
    · simp only [Option.some.injEq, Prod.mk.injEq] at ho
      obtain ⟨rfl, rfl⟩ := ho
      have hr : u = .slice none 0 0 := hr
      subst hr
      refine ⟨[], ?_, OSf.nil c seen⟩
      unfold ResL
      simp only [ls, if_true]
      exact ⟨trivial, 1, [], [], World.ownsRow_nil _ _ _ _, rfl, rfl, rfl, fun j l c f h => by simp at h⟩
    · simp at ho
  · simp only [Option.some.injEq, Prod.mk.injEq] at ho
    obtain ⟨rfl, rfl⟩ := ho
    exact ⟨[], ⟨hr, rfl⟩, OSf.nil c seen⟩
  · rename_i s
    unfold RepLS at hr
    by_cases h1 : s.own = 1
    · simp only [h1, if_true, beq_self_eq_true] at hr ho
      obtain ⟨_, hr⟩ := hr
      split at ho
      · simp at ho
      · rename_i hds
        simp only [Bool.or_eq_true, not_or, Bool.not_eq_true] at hds
        have h2 : s.nm ∉ c.D := by rw [hD]; simpa using hds.1
        have hsn : s.nm ∉ seen := by simpa using hds.2
        simp only [h2, if_false] at hr
        split at ho
        · rename_i hf
          have h3 : s.nm ∈ c.F := by rw [hF]; simpa using hf
          simp only [h3, if_true] at hr
          simp only [Option.some.injEq, Prod.mk.injEq] at ho
          obtain ⟨rfl, rfl⟩ := ho
          obtain ⟨n, hr⟩ := hr
          refine ⟨[], ?_, OSf.nil c seen⟩
          unfold ResL
          simp only [ls, ro]
          rw [if_neg (by decide), if_neg (by decide)]
          exact ⟨trivial, trivial, n, RepL_ro hr⟩
        · rename_i hf
          have h3 : s.nm ∉ c.F := by rw [hF]; simpa using hf
          simp only [h3, if_false] at hr
          obtain ⟨tk, ht, hn, hc, hu⟩ := hr
          split at ho
          · rename_i hso
            simp only [Bool.and_eq_true] at hso
            obtain ⟨hso, hflat⟩ := hso
            simp only [Option.some.injEq, Prod.mk.injEq] at ho
            obtain ⟨rfl, rfl⟩ := ho
            have htr := h.rep tk ht
            unfold TokRep at htr
            rw [hc] at htr
            simp only [hso, if_true] at htr
            obtain ⟨hv, n, htr⟩ := htr
            have hfp0 : tk.fp = [] := by
              have := (flat_of_own ok hflat htr).2
              rw [← hv] at this
              exact List.append_cancel_left (this.trans (List.append_nil _).symm)
            refine ⟨blocks tk, ?_, ⟨fun b hb => ⟨tk, ht, by rw [hn]; exact List.mem_cons_self .., by rw [hn]; exact hsn, by simpa [blocks, hfp0] using hb⟩, ?_, fun n hn => List.mem_cons_of_mem _ hn, fun b hb t2 ht2 hv2 => ?_⟩⟩
            · unfold ResL
              simp only [ls, if_true]
              refine ⟨trivial, n, ?_⟩
              rw [← hu]
              cases n with
              | zero => simp [OwnL] at htr
              | succ n => exact htr
            · have hnd := h.nodup
              obtain ⟨l1, l2, hl⟩ := List.append_of_mem ht
              rw [hl] at hnd
              simp only [List.flatMap_append, List.flatMap_cons] at hnd
              exact (List.nodup_append.1 (List.nodup_append.1 hnd).2.1).1
            · rcases Classical.em (t2.nm = tk.nm) with he | he
              · have := uniq_tok h ht2 ht he
                subst this
                exact ⟨s, hc⟩
              · exact (disjoint_toks h ht2 ht he (List.mem_append.2 (.inl hv2)) hb).elim
          · simp at ho
    · have hb1 : (s.own == 1) = false := by simpa using h1
      simp only [h1, if_false, hb1, Bool.false_eq_true] at hr ho
      simp only [Option.some.injEq, Prod.mk.injEq] at ho
      obtain ⟨rfl, rfl⟩ := ho
      obtain ⟨n, hr⟩ := hr
      refine ⟨[], ?_, OSf.nil c seen⟩
      unfold ResL
      simp only [ls, ro]
      rw [if_neg (by decide), if_neg (by decide)]
      exact ⟨trivial, trivial, n, RepL_ro hr⟩
  · simp at ho

theorem outLsf_spec (ok : cx.Ok) {c : Ct cx.ty} (h : Wf cx c) {D F : List Nat} (hD : ∀ n, n ∈ c.D ↔ n ∈ D) (hF : ∀ n, n ∈ c.F ↔ n ∈ F) : ∀ (ts : List TypeId) (l l' : List (L cx.ty)) (us : List Value) (seen seen' : List Nat), RepLs cx c l us → outLsf cx P D F ts seen l = some (l', seen') →
    ∃ fps, ResLs cx c.w (Rd c) l' us fps ∧ OSf c seen seen' (List.flatten fps)
  | [], [], l', us, seen, seen', hr, ho => by
    simp only [outLsf, Option.some.injEq, Prod.mk.injEq] at ho
    obtain ⟨rfl, rfl⟩ := ho
    exact ⟨[], ⟨hr.1, rfl, fun j a u f h => by simp at h⟩, OSf.nil c seen⟩
  | t :: ts, l :: r, l', us, seen, seen', hr, ho => by
    match us, hr with
    | [], hr => simp [RepLs] at hr
    | u :: us, hr =>
      simp only [outLsf] at ho
      split at ho
      · rename_i l1 s1 e1
        split at ho
        · rename_i r1 s2 e2
          simp only [Option.some.injEq, Prod.mk.injEq] at ho
          obtain ⟨rfl, rfl⟩ := ho
          obtain ⟨f, h1, h2⟩ := outLf_spec ok h hD hF (hr.2 0 l u rfl rfl) e1
          obtain ⟨fps, h3, h4⟩ := outLsf_spec ok h hD hF ts r r1 us s1 s2 ⟨by simpa using hr.1, fun j a b e1 e2 => hr.2 (j + 1) a b (by simpa using e1) (by simpa using e2)⟩ e2
          refine ⟨f :: fps, ⟨by simp [h3.1], by simp [h3.2.1], fun j a b f' e1 e2 e3 => ?_⟩, by rw [List.flatten_cons]; exact h2.app h h4⟩
          cases j with
          | zero =>
            simp only [List.getElem?_cons_zero, Option.some.injEq] at e1 e2 e3
            subst e1; subst e2; subst e3
            exact h1
          | succ j => exact h3.2.2 j a b f' (by simpa using e1) (by simpa using e2) (by simpa using e3)
        · simp at ho
      · simp at ho
  | [], _ :: _, _, _, _, _, _, ho => by simp [outLsf] at ho
  | _ :: _, [], _, _, _, _, _, ho => by simp [outLsf] at ho

theorem outAf_spec (ok : cx.Ok) {c : Ct cx.ty} (h : Wf cx c) {D F : List Nat} (hD : ∀ n, n ∈ c.D ↔ n ∈ D) (hF : ∀ n, n ∈ c.F ↔ n ∈ F) {t : TypeId} {seen seen' : List Nat} {a a' : A cx.ty} {u : Value} (hr : RepA cx c a u) (ho : outAf cx P D F t seen a = some (a', seen')) :
    ∃ fp, ResA cx c.w (Rd c) a' u fp ∧ OSf c seen seen' fp := by
  unfold outAf at ho
  split at ho
  · split at ho
    · rename_i l1 s1 e1
      simp only [Option.some.injEq, Prod.mk.injEq] at ho
      obtain ⟨rfl, rfl⟩ := ho
      exact outLf_spec ok h hD hF hr e1
    · simp at ho
  · split at ho
    · rename_i l1 s1 e1
      simp only [Option.some.injEq, Prod.mk.injEq] at ho
      obtain ⟨rfl, rfl⟩ := ho
      obtain ⟨us, hu, hr⟩ := hr
      obtain ⟨fps, h1, h2⟩ := outLsf_spec ok h hD hF _ _ _ us _ _ hr e1
      exact ⟨_, ⟨us, fps, hu, rfl, h1⟩, h2⟩
    · simp at ho

theorem outAsf_spec (ok : cx.Ok) {c : Ct cx.ty} (h : Wf cx c) {D F : List Nat} (hD : ∀ n, n ∈ c.D ↔ n ∈ D) (hF : ∀ n, n ∈ c.F ↔ n ∈ F) : ∀ (ts : List TypeId) (l l' : List (A cx.ty)) (us : List Value) (seen seen' : List Nat), RepAs cx c l us → outAsf cx P D F ts seen l = some (l', seen') →
    ∃ fps, ResAs cx c.w (Rd c) l' us fps ∧ OSf c seen seen' (List.flatten fps)
  | [], [], l', us, seen, seen', hr, ho => by
    simp only [outAsf, Option.some.injEq, Prod.mk.injEq] at ho
    obtain ⟨rfl, rfl⟩ := ho
    exact ⟨[], ⟨hr.1, rfl, fun j a u f h => by simp at h⟩, OSf.nil c seen⟩
  | t :: ts, l :: r, l', us, seen, seen', hr, ho => by
    match us, hr with
    | [], hr => simp [RepAs] at hr
    | u :: us, hr =>
      simp only [outAsf] at ho
      split at ho
      · rename_i l1 s1 e1
        split at ho
        · rename_i r1 s2 e2
          simp only [Option.some.injEq, Prod.mk.injEq] at ho
          obtain ⟨rfl, rfl⟩ := ho
          obtain ⟨f, h1, h2⟩ := outAf_spec ok h hD hF (hr.2 0 l u rfl rfl) e1
          obtain ⟨fps, h3, h4⟩ := outAsf_spec ok h hD hF ts r r1 us s1 s2 ⟨by simpa using hr.1, fun j a b e1 e2 => hr.2 (j + 1) a b (by simpa using e1) (by simpa using e2)⟩ e2
          refine ⟨f :: fps, ⟨by simp [h3.1], by simp [h3.2.1], fun j a b f' e1 e2 e3 => ?_⟩, by rw [List.flatten_cons]; exact h2.app h h4⟩
          cases j with
          | zero =>
            simp only [List.getElem?_cons_zero, Option.some.injEq] at e1 e2 e3
            subst e1; subst e2; subst e3
            exact h1
          | succ j => exact h3.2.2 j a b f' (by simpa using e1) (by simpa using e2) (by simpa using e3)
        · simp at ho
      · simp at ho
  | [], _ :: _, _, _, _, _, _, ho => by simp [outAsf] at ho
  | _ :: _, [], _, _, _, _, _, ho => by simp [outAsf] at ho

def ptrCells {ty : Nat → Type} (v : V ty) : Option (List (L ty)) :=
  match v with
  | .inr (.inr p) => if p.kind == 0 && p.off == 0 && p.i == 0 && p.cells.all cellOk then some p.cells else none
  | _ => none

theorem ptrCells_spec {c : Ct cx.ty} (hw : Wf cx c) {v : V cx.ty} {u : Value} (h : RepV cx c v u) {l : List (L cx.ty)} (hp : ptrCells v = some l) :
    ∃ tk ∈ c.T, ∃ g cur t, tk.c = .inr l ∧ tk.u = .pointer (some ⟨g, 0, none⟩) ∧ u = .pointer (some ⟨g, 0, none⟩) ∧ c.w.heap[g]? = some (.cells cur t (0, 0)) ∧ l.all cellOk = true ∧ ArgA cx c.w (Rd c) (.inr l) (.agg cur) := by
  unfold ptrCells at hp
  split at hp
  · rename_i p
    split at hp
    · rename_i hc
      simp only [Bool.and_eq_true, beq_iff_eq] at hc
      simp only [Option.some.injEq] at hp
      subst hp
      have h : RepP cx c p u := h
      unfold RepP at h
      simp only [hc.1.1.1, hc.1.1.2, hc.1.2] at h
      obtain ⟨tk, ht, hn, hcc, g, hu, hv⟩ := h
      have hv : u = .pointer (some ⟨g, 0, none⟩) := hv
      have htr := hw.rep tk ht
      unfold TokRep at htr
      rw [hcc] at htr
      obtain ⟨_, g', cur, t, hu', hh, hcells⟩ := htr
      rw [hu] at hu'
      simp only [Value.pointer.injEq, Option.some.injEq, Addr.mk.injEq] at hu'
      obtain ⟨rfl, _⟩ := hu'
      exact ⟨tk, ht, g, cur, t, hcc, hu, hv, hh, hc.2, cur.toList, by simp, hcells.1, fun j b w e1 e2 => cellOk_arg (List.all_eq_true.1 hc.2 b (List.mem_of_getElem? e1)) (hcells.2 j b w e1 e2)⟩
    · simp at hp
  · simp at hp

theorem ArgL.mono1 {w : World} {S S' : Nat → Prop} (hS : ∀ b, S b → S' b) {l : L cx.ty} {u : Value} (h : ArgL cx w S l u) : ArgL cx w S' l u := by
  match l, h with
  | some (.inl v), h => exact h
  | some (.inr s), ⟨h0, n, h⟩ => exact ⟨h0, n, RepL_mono cx (fun _ _ => rfl) hS n _ u h⟩

theorem ArgL.res {w : World} {S : Nat → Prop} {l : L cx.ty} {u : Value} (h : ArgL cx w S l u) : ResL cx w S l u [] := by
  match l, h with
  | some (.inl v), h => exact ⟨h, rfl⟩
  | some (.inr s), ⟨h0, n, h⟩ =>
    unfold ResL
    have h2 : ¬ s.own = 2 := by omega
    have h4 : ¬ s.own = 4 := by omega
    simp only [h2, h4, if_false]
    exact ⟨h0, trivial, n, h⟩

def outP (P : Program) (fn : Func) (st : St cx.ty) : Option (List (A cx.ty)) :=
  match resA P st.slots fn.results.toList, ptrCells (st.slots.getD 0 junk) with
  | some rs, some l => match outAsf cx P st.D st.F fn.resultTypes.toList [] rs with
    | some (as', _) => some (as' ++ [.inr l])
    | none => none
  | _, _ => none

def evFP (P : Program) (ev : Env cx) (lp : Lp cx (List (A cx.ty))) (fn : Func) (args : List (A cx.ty)) : Option (List (A cx.ty)) :=
  match fn.body, args with
  | some code, .inr lc :: rest =>
      evC P ev lp 0 code { slots := ptrV 0 lc 0 :: (rest.map argV ++ List.replicate (fn.ntmps - (rest.length + 1)) junk), D := [], F := [], ctr := 1, lo := 1 } { n := outP P fn, x := fun _ _ => none, r := outP P fn }
  | _, _ => none

def outN (_P : Program) (fn : Func) (st : St cx.ty) : Option (List (A cx.ty)) :=
  match fn.results.toList with
  | [.tmp t] => match ptrCells (st.slots.getD t junk) with
    | some l => some [.inr l]
    | none => none
  | _ => none

def evFN (P : Program) (ev : Env cx) (lp : Lp cx (List (A cx.ty))) (fn : Func) (args : List (A cx.ty)) : Option (List (A cx.ty)) :=
  match fn.body with
  | some code => evC P ev lp 0 code { slots := args.map argV ++ List.replicate (fn.ntmps - args.length) junk, D := [], F := [], ctr := 1 } { n := outN P fn, x := fun _ _ => none, r := outN P fn }
  | none => none

theorem satp_of_ev (ok : cx.Ok) (hZ : cx.POk P) (hm : P.follows .mixedOrders = true) {f : FuncId} {fn : Func} (hf : P.funcs[f]? = some fn) {F : List (A cx.ty) → Option (Bool × List (A cx.ty))}
    (h : ∀ as cs, F as = some (true, cs) → ∃ (ev : Env cx) (L : Nat), KOk P cx ev.Kc ∧ KwOk P cx ev.Kw ∧ evFP P ev (loopN L) fn as = some cs) : SatP P cx f fn.results.size F := by
  intro w A0 g cur t lc l us cs hA hg hbox hcell hargs hF
  obtain ⟨ev, L, hK, hKw, hev⟩ := h _ cs hF
  unfold evFP at hev
  split at hev
  · rename_i code lc' rest hcode hl
    simp only [List.cons.injEq, Sum.inr.injEq] at hl
    obtain ⟨rfl, rfl⟩ := hl
    have hgl : g < w.heap.size := (Array.getElem?_eq_some_iff.1 hg).1
    let tk : Tk cx.ty := { nm := 0, u := .pointer (some ⟨g, 0, none⟩), fp := [], c := .inr lc }
    let c : Ct cx.ty := { T := [tk], D := [], F := [], w := w, S := A0, N := fun b => w.heap.size ≤ b ∨ b = g, K := [(0, .pointer (some ⟨g, 0, none⟩))] }
    have hvb : vb tk.u ++ tk.fp = [g] := by simp [tk, vb]
    have hrd : ∀ b, A0 b → Rd c b := fun b hb => ⟨(hA b hb).1, .inl hb, fun t2 ht => by
      simp only [c, List.mem_singleton] at ht
      subst ht
      have := (hA b hb).2
      simpa [tk, vb] using this⟩
    obtain ⟨us0, hus0, hlen0, hrep0⟩ := hbox
    have hus0 : us0 = cur.toList := by
      simp only [Value.agg.injEq] at hus0
      rw [hus0]
    subst hus0
    have hwf : Wf cx c := by
      refine ⟨by simp [c], by simp [c, hvb], fun t2 ht b hb => ?_, fun t2 ht => ?_, fun b hb => ?_, fun t2 _ => ⟨by simp [c], by simp [c]⟩, fun b hb => .inl hb⟩
      · simp only [c, List.mem_singleton] at ht
        subst ht
        rw [hvb] at hb
        simp only [List.mem_singleton] at hb
        subst hb
        exact ⟨.inr rfl, hgl⟩
      · simp only [c, List.mem_singleton] at ht
        subst ht
        exact ⟨rfl, g, cur, t, rfl, hg, hlen0, fun j a u e1 e2 => ArgL.repS hrd (hrep0 j a u e1 e2)⟩
      · have := hA b hb
        show ¬ (w.heap.size ≤ b ∨ b = g)
        omega
    refine calls_of_wp hf hcode ?_
    refine evC_ok ok hZ ev L hK hKw hm (W := w) (S := A0) (N := fun b => w.heap.size ≤ b ∨ b = g) (KK := c.K) code 0 _ _ (fun e c' st' a' h1 h2 h3 h4 h5 => ?_) _ c _ ⟨hwf, ?_, fun t => ?_, rfl, fun n => by simp [c], fun n => by simp [c], fun n hn => ?_, fun p u hp => ?_, PrOK.nil, PdOK.none⟩ rfl ⟨rfl, rfl⟩ (Kept.refl _ _) hev
    · have fin : outP P fn st' = some cs → a'.defers = [] ∧ ∃ v, (results fn a'.tmps).run P c'.w = .ok v c'.w ∧ (∃ (rs : List Value) (cur' : Array Value), Ending.returned v = .returned (packR rs) ∧ rs.length = fn.results.size ∧ (∃ t', c'.w.heap[g]? = some (.cells cur' t' (0, 0))) ∧ Kept (fun b => w.heap.size ≤ b ∨ b = g) w c'.w ∧
            ResV cx c'.w A0 (fun b => w.heap.size ≤ b) (.inr (.inl cs)) (.tuple (rs ++ [Value.agg cur']).toArray)) := by
        intro ho
        unfold outP at ho
        split at ho
        · rename_i rs l' e1 e2
          split at ho
          · rename_i as' s1 e3
            simp only [Option.some.injEq] at ho
            subst ho
            obtain ⟨ur, h6, h7⟩ := resA_spec (P := P) ok h1.wf h1.rep _ _ e1
            obtain ⟨fps, h8, h9⟩ := outAsf_spec ok h1.wf h1.dead h1.frz _ _ _ _ _ _ h7 e3
            have hk0 : a'.tmps.getD 0 undef = .pointer (some ⟨g, 0, none⟩) := (h1.kp 0 (.pointer (some ⟨g, 0, none⟩)) (by rw [h3.2]; exact List.mem_singleton.2 rfl)).2
            obtain ⟨t2, ht2, g2, cur', t', hc2, hu2, hv2, hh2, _, hcells⟩ := ptrCells_spec h1.wf (h1.rep 0) e2
            rw [hk0] at hv2
            simp only [Value.pointer.injEq, Option.some.injEq, Addr.mk.injEq] at hv2
            obtain ⟨rfl, _⟩ := hv2
            have hgv : g ∈ vb t2.u := by rw [hu2]; simp [vb]
            have hfpN : ∀ b ∈ List.flatten fps, w.heap.size ≤ b ∧ b < c'.w.heap.size := fun b hb => by
              obtain ⟨t3, k1, k2, k3, k4⟩ := h9.src b hb
              have hbd := h1.wf.bound t3 k1 b (List.mem_append.2 (.inl k4))
              refine ⟨?_, hbd.2⟩
              have hN := hbd.1
              rw [h3.1] at hN
              rcases hN with hN | hN
              · exact hN
              · obtain ⟨s, hs⟩ := h9.row b hb t2 ht2 (by rw [hN]; exact hgv)
                rw [hc2] at hs
                cases hs
            have hS : ∀ b, Rd c' b → (A0 b ∨ (w.heap.size ≤ b ∧ b < c'.w.heap.size ∧ b ∉ List.flatten fps)) := fun b hb => by
              obtain ⟨b1, b2, b3⟩ := hb
              rcases b2 with b2 | b2
              · rw [h2] at b2; exact .inl b2
              · rw [h3.1] at b2
                rcases b2 with b2 | b2
                · refine .inr ⟨b2, b1, fun hb => ?_⟩
                  obtain ⟨t3, k1, _, _, k4⟩ := h9.src b hb
                  exact b3 t3 k1 k4
                · exact absurd hgv (b2 ▸ b3 t2 ht2)
            refine ⟨h1.defers, _, ?_, ur, cur', rfl, ?_, ⟨t', hh2⟩, h4, List.flatten fps, h9.nd, hfpN, ur ++ [Value.agg cur'], fps ++ [[]], rfl, by simp, ?_, ?_, fun j a b f g1 g2 g3 => ?_⟩
            · rw [results_eq]
              simp only [Sem.run_bind, h6, Result.andThen_ok, Sem.run_pure]
              rfl
            · rw [h7.1, resA_length _ _ _ e1]; simp
            · simp [h8.1]
            · simp [h8.2.1]
            · by_cases hj : j < as'.length
              · rw [List.getElem?_append_left hj] at g1
                rw [List.getElem?_append_left (by rw [h8.1]; exact hj)] at g2
                rw [List.getElem?_append_left (by rw [h8.2.1]; exact hj)] at g3
                exact ResA_mono hS (h8.2.2 j a b f g1 g2 g3)
              · rw [List.getElem?_append_right (by omega)] at g1
                rw [List.getElem?_append_right (by rw [h8.1]; omega), h8.1] at g2
                rw [List.getElem?_append_right (by rw [h8.2.1]; omega), h8.2.1] at g3
                cases hjj : j - as'.length with
                | zero =>
                  rw [hjj] at g1 g2 g3
                  simp only [List.getElem?_cons_zero, Option.some.injEq] at g1 g2 g3
                  subst g1; subst g2; subst g3
                  obtain ⟨us1, k1, k2, k3⟩ := hcells
                  refine ⟨us1, l'.map (fun _ => []), k1, ?_, k2, by simp, fun i x y z m1 m2 m3 => ?_⟩
                  · exact (flatten_nil fun f hf' => by obtain ⟨_, _, rfl⟩ := List.mem_map.1 hf'; rfl).symm
                  · rw [List.getElem?_map] at m3
                    rw [m1] at m3
                    simp only [Option.map_some, Option.some.injEq] at m3
                    subst m3
                    exact (ArgL.mono1 hS (k3 i x y m1 m2)).res
                | succ k => rw [hjj] at g1; simp at g1
          · simp at ho
        · simp at ho
      cases e with
      | normal => exact fin h5
      | ret => exact fin h5
      | exit i => simp [Kn.on] at h5
      | _ => simp [Kn.on] at h5
    · simp [hargs.1]; omega
    · show RepV cx c _ _
      cases t with
      | zero =>
        have e1 : (ptrV 0 lc 0 :: (l.map argV ++ List.replicate (fn.ntmps - (l.length + 1)) (junk : V cx.ty))).getD 0 junk = ptrV 0 lc 0 := rfl
        have e2 : ((Value.pointer (some ⟨g, 0, none⟩) :: us).toArray ++ Array.replicate (fn.ntmps - (Value.pointer (some ⟨g, 0, none⟩) :: us).toArray.size) undef).getD 0 undef = .pointer (some ⟨g, 0, none⟩) := by
          simp [Array.getD_eq_getD_getElem?, Array.getElem?_append]
        rw [e1, e2]
        exact ⟨tk, List.mem_singleton.2 rfl, rfl, rfl, g, rfl, rfl⟩
      | succ t =>
        by_cases ht : t < l.length
        · have htu : t < us.length := by rw [hargs.1]; exact ht
          have e1 : (ptrV 0 lc 0 :: (l.map argV ++ List.replicate (fn.ntmps - (l.length + 1)) (junk : V cx.ty))).getD (t + 1) junk = argV l[t] := by
            simp [List.getD, List.getElem?_append_left, ht]
          have e2 : ((Value.pointer (some ⟨g, 0, none⟩) :: us).toArray ++ Array.replicate (fn.ntmps - (Value.pointer (some ⟨g, 0, none⟩) :: us).toArray.size) undef).getD (t + 1) undef = us[t] := by
            simp [Array.getD_eq_getD_getElem?, Array.getElem?_append, htu]
          rw [e1, e2]
          exact ArgA.repV hrd (hargs.2 t _ _ (List.getElem?_eq_getElem ht) (List.getElem?_eq_getElem htu))
        · have e1 : (ptrV 0 lc 0 :: (l.map argV ++ List.replicate (fn.ntmps - (l.length + 1)) (junk : V cx.ty))).getD (t + 1) junk = junk := by
            simp only [List.getD, List.getElem?_cons_succ]
            rw [List.getElem?_append_right (by simp; omega)]
            simp only [List.length_map, List.getElem?_replicate]
            split <;> rfl
          rw [e1]
          trivial
    · rcases hn with ⟨t2, ht, rfl⟩ | hn | hn
      · simp only [c, List.mem_singleton] at ht
        subst ht
        show 0 < 1 * 65536
        omega
      · simp [c] at hn
      · simp [c] at hn
    · simp only [c, List.mem_singleton, Prod.mk.injEq] at hp
      obtain ⟨rfl, rfl⟩ := hp
      refine ⟨by show 0 < 1; omega, ?_⟩
      show ((Value.pointer (some ⟨g, 0, none⟩) :: us).toArray ++ Array.replicate (fn.ntmps - (Value.pointer (some ⟨g, 0, none⟩) :: us).toArray.size) undef).getD 0 undef = _
      simp [Array.getD_eq_getD_getElem?, Array.getElem?_append]
  · simp at hev

theorem sat_p {P : Program} {cx : Cx} (ok : cx.Ok) (hZ : cx.POk P) (hm : P.follows .mixedOrders = true) {f : FuncId} {fn : Func} (hf : P.funcs[f]? = some fn) {nres : Nat} (hnr : fn.results.size = nres) {X R : Type} (a : Args cx.ty X) (enc : R → List (A cx.ty)) (d : R) (m : X → Option R)
    (ev : Env cx) (hK : KOk P cx ev.Kc) (hKw : KwOk P cx ev.Kw) (g : Nat → X → Option R) (he : ∀ L x, evFP P ev (loopN L) fn (a.enc x) = (g L x).map enc) (hg : ∀ x t, m x = some t → ∃ L, g L x = some t) :
    SatP P cx f nres (fnW a enc d m) := by
  subst hnr
  refine satp_of_ev ok hZ hm hf fun as r h => ?_
  obtain ⟨x, t, rfl, hx, rfl⟩ := fnW_inv h
  obtain ⟨L, hL⟩ := hg x t hx
  exact ⟨ev, L, hK, hKw, by rw [he, hL]; rfl⟩

theorem satn_of_ev (ok : cx.Ok) (hZ : cx.POk P) (hm : P.follows .mixedOrders = true) {f : FuncId} {fn : Func} (hf : P.funcs[f]? = some fn) {F : List (A cx.ty) → Option (Bool × List (A cx.ty))}
    (h : ∀ as cs, F as = some (true, cs) → ∃ (ev : Env cx) (L : Nat), KOk P cx ev.Kc ∧ KwOk P cx ev.Kw ∧ evFN P ev (loopN L) fn as = some cs) : SatN P cx f F := by
  intro w A0 l us lc hA hargs hF
  obtain ⟨ev, L, hK, hKw, hev⟩ := h _ _ hF
  unfold evFN at hev
  split at hev
  · rename_i code hcode
    let c : Ct cx.ty := { T := [], D := [], F := [], w := w, S := A0, N := fun b => w.heap.size ≤ b, K := [] }
    have hwf : Wf cx c := ⟨by simp [c], by simp [c], by simp [c], by simp [c], fun b hb => by have := hA b hb; show ¬ w.heap.size ≤ b; omega, by simp [c], fun b hb => hb⟩
    have hrd : ∀ b, A0 b → Rd c b := fun b hb => ⟨hA b hb, .inl hb, by simp [c]⟩
    refine calls_of_wp hf hcode ?_
    refine evC_ok ok hZ ev L hK hKw hm (W := w) (S := A0) (N := fun b => w.heap.size ≤ b) (KK := []) code 0 _ _ (fun e c' st' a' h1 h2 h3 h4 h5 => ?_) _ c _ ⟨hwf, ?_, fun t => ?_, rfl, fun n => by simp [c], fun n => by simp [c], fun n hn => ?_, fun p u hp => by simp [c] at hp, PrOK.nil, PdOK.none⟩ rfl ⟨rfl, rfl⟩ (Kept.refl _ _) hev
    · have fin : outN P fn st' = some [.inr lc] → a'.defers = [] ∧ ∃ v, (results fn a'.tmps).run P c'.w = .ok v c'.w ∧ (∃ (g : Nat) (cur : Array Value) (t : TypeId), Ending.returned v = .returned (.pointer (some ⟨g, 0, none⟩)) ∧ w.heap.size ≤ g ∧ c'.w.heap[g]? = some (.cells cur t (0, 0)) ∧ Below w.heap.size w c'.w ∧
            ArgA cx c'.w (fun b => A0 b ∨ (w.heap.size ≤ b ∧ b < c'.w.heap.size ∧ b ≠ g)) (.inr lc) (.agg cur)) := by
        intro ho
        unfold outN at ho
        split at ho
        · rename_i t0 hr0
          split at ho
          · rename_i l' e2
            simp only [Option.some.injEq, List.cons.injEq, Sum.inr.injEq, and_true] at ho
            subst ho
            obtain ⟨t2, ht2, g, cur, t, hc2, hu2, hv2, hh2, _, us1, k1, k2, k3⟩ := ptrCells_spec h1.wf (h1.rep t0) e2
            have hgv : g ∈ vb t2.u := by rw [hu2]; simp [vb]
            have hgb := h1.wf.bound t2 ht2 g (List.mem_append.2 (.inl hgv))
            rw [h3.1] at hgb
            have hS : ∀ b, Rd c' b → (A0 b ∨ (w.heap.size ≤ b ∧ b < c'.w.heap.size ∧ b ≠ g)) := fun b hb => by
              obtain ⟨b1, b2, b3⟩ := hb
              rcases b2 with b2 | b2
              · rw [h2] at b2; exact .inl b2
              · rw [h3.1] at b2
                exact .inr ⟨b2, b1, fun e => absurd hgv (e ▸ b3 t2 ht2)⟩
            refine ⟨h1.defers, a'.tmps.getD t0 undef, ?_, g, cur, t, by rw [hv2], hgb.1, hh2, h4.low, us1, k1, k2, fun j a u m1 m2 => ArgL.mono1 hS (k3 j a u m1 m2)⟩
            rw [results_eq, hr0]
            simp only [List.mapM_cons, List.mapM_nil, readR, Sem.run_bind, Sem.run_pure, Result.andThen_ok]
            rfl
          · simp at ho
        · simp at ho
      cases e with
      | normal => exact fin h5
      | ret => exact fin h5
      | _ => simp [Kn.on] at h5
    · simp [hargs.1]
    · show RepV cx c _ _
      by_cases ht : t < l.length
      · have htu : t < us.length := by rw [hargs.1]; exact ht
        have e1 : (l.map argV ++ List.replicate (fn.ntmps - l.length) (junk : V cx.ty)).getD t junk = argV l[t] := by
          simp [List.getD, List.getElem?_append_left, ht]
        have e2 : (us.toArray ++ Array.replicate (fn.ntmps - us.toArray.size) undef).getD t undef = us[t] := by
          simp [Array.getD_eq_getD_getElem?, Array.getElem?_append, htu]
        rw [e1, e2]
        exact ArgA.repV hrd (hargs.2 t _ _ (List.getElem?_eq_getElem ht) (List.getElem?_eq_getElem htu))
      · have e1 : (l.map argV ++ List.replicate (fn.ntmps - l.length) (junk : V cx.ty)).getD t junk = junk := by
          simp only [List.getD]
          rw [List.getElem?_append_right (by simp; omega)]
          simp only [List.length_map, List.getElem?_replicate]
          split <;> rfl
        rw [e1]
        trivial
    · rcases hn with ⟨tk, ht, _⟩ | hn | hn
      · simp [c] at ht
      · simp [c] at hn
      · simp [c] at hn
  · simp at hev

theorem sat_n {P : Program} {cx : Cx} (ok : cx.Ok) (hZ : cx.POk P) (hm : P.follows .mixedOrders = true) {f : FuncId} {fn : Func} (hf : P.funcs[f]? = some fn) {X R : Type} (a : Args cx.ty X) (enc : R → List (A cx.ty)) (d : R) (m : X → Option R)
    (ev : Env cx) (hK : KOk P cx ev.Kc) (hKw : KwOk P cx ev.Kw) (g : Nat → X → Option R) (he : ∀ L x, evFN P ev (loopN L) fn (a.enc x) = (g L x).map enc) (hg : ∀ x t, m x = some t → ∃ L, g L x = some t) :
    SatN P cx f (fnW a enc d m) := by
  refine satn_of_ev ok hZ hm hf fun as r h => ?_
  obtain ⟨x, t, rfl, hx, rfl⟩ := fnW_inv h
  obtain ⟨L, hL⟩ := hg x t hx
  exact ⟨ev, L, hK, hKw, by rw [he, hL]; rfl⟩

/-- A name for a thing that is met again and again. -/
def bnd {α β : Type} (x : α) (K : α → Option β) : Option β := K x
theorem map_bnd {α β γ : Type} (x : α) (K : α → Option β) (f : β → γ) : (bnd x K).map f = bnd x (fun t => (K t).map f) := rfl
/-- A call whose end is tested. -/
def tst {α β : Type} (o : Option α) (d : α) (K : α → Option β) : Option β := bif o.isSome then K (o.getD d) else none
theorem map_tst {α β γ : Type} (o : Option α) (d : α) (K : α → Option β) (f : β → γ) : (tst o d K).map f = tst o d (fun t => (K t).map f) := by
  cases o <;> rfl
theorem tst_some {α β : Type} (v : α) (d : α) (K : α → Option β) : tst (some v) d K = K v := rfl

end
end Go.VM

namespace Go.VM
open Go.RowKit
section
variable {cx : Cx} {P : Program}

/-! ### The body of a function that may throw -/
end
end Go.VM

namespace Go.VM
open Go.RowKit
section
variable {cx : Cx} {P : Program}

/-! ### Bodies that never write their parameters: what was lent is remembered, in variables too that only hold a parameter -/
def boxOf (n lo : Nat) (o : Oper) : Option (TypeId × Nat × Nat) :=
  match o.op, o.dst, o.guard with
  | .box t (.tmp p), some d, none => if p < n ∧ d < lo then some (t, p, d) else none
  | _, _, _ => none
theorem boxOf_eq {n lo : Nat} {o : Oper} {t p d : Nat} (h : boxOf n lo o = some (t, p, d)) : o.op = .box t (.tmp p) ∧ o.dst = some d ∧ o.guard = none ∧ p < n ∧ d < lo := by
  unfold boxOf at h
  split at h
  · rename_i h1 h2 h3
    split at h
    · rename_i hc
      simp only [Option.some.injEq, Prod.mk.injEq] at h
      obtain ⟨rfl, rfl, rfl⟩ := h
      exact ⟨h1, h2, h3, hc.1, hc.2⟩
    · simp at h
  · simp at h
def cellsA {ty : Nat → Type} : A ty → List (L ty)
  | .inl l => [l]
  | .inr l => l
def leafV {ty : Nat → Type} : A ty → Bool
  | .inl l => leafOk l && !isPt l
  | .inr _ => true
def preB (cx : Cx) (args : List (A cx.ty)) (lo : Nat) : List Oper → Nat → St cx.ty → St cx.ty × List Oper
  | [], m, st => ({ st with lo := m }, [])
  | o :: r, m, st => match boxOf args.length lo o with
    | some (t, p, d) => if m ≤ d then
        match args[p]? with
        | some a => if leafV a then
            match cx.dec t (cellsA a) with
            | some x => preB cx args lo r (d + 1) { st with slots := st.slots.set d (psV (.inr (ro t [x]))), ps := st.ps ++ [(d, .inr (ro t [x]))], pend := none }
            | none => ({ st with lo := m }, o :: r)
          else ({ st with lo := m }, o :: r)
        | none => ({ st with lo := m }, o :: r)
      else ({ st with lo := m }, o :: r)
    | none => ({ st with lo := m }, o :: r)

def stL (fn : Func) (args : List (A cx.ty)) : St cx.ty := { slots := args.map argV ++ List.replicate (fn.ntmps - args.length) junk, D := [], F := [], ctr := 1, lo := 2 * args.length, ps := args.zipIdx.map fun p => (p.2, .inl p.1) }
def evFL (P : Program) (ev : Env cx) (lp : Lp cx (V cx.ty)) (fn : Func) (args : List (A cx.ty)) : Option (V cx.ty) :=
  match fn.body with
  | some (.seq (.region _ ops false) rest) =>
    (fun q : St cx.ty × List Oper => evSeq P ev.Kc ev.Kw (fun _ _ => none) ops (fun st => evC P ev lp 0 rest st (finK P fn)) q.2 q.1)
      (preB cx args (2 * args.length) ops.toList args.length (stL fn args))
  | _ => none

/-- The table of such a start. -/
def ctL (w : World) (S : Nat → Prop) (K : List (Nat × Value)) : Ct cx.ty := { T := [], D := [], F := [], w := w, S := S, N := fun b => w.heap.size ≤ b, K := K }

theorem ArgA.cells {w : World} {S : Nat → Prop} {a : A cx.ty} {u : Value} (h : ArgA cx w S a u) (hl : leafV a = true) : u.cells.toList.length = (cellsA a).length ∧ ∀ (j : Nat) l v, (cellsA a)[j]? = some l → u.cells.toList[j]? = some v → ArgL cx w S l v := by
  match a, h with
  | .inr l, ⟨us, hu, hlen, hv⟩ =>
    subst hu
    exact ⟨hlen, hv⟩
  | .inl l, h =>
    have hl : leafOk l = true ∧ isPt l = false := by simpa [leafV] using hl
    obtain ⟨hl, hnp⟩ := hl
    have h : ArgL cx w S l u := by
      rwa [ArgA.atLeaf hnp] at h
    have hc : u.cells = #[u] := by
      match l, h, hl with
      | some (.inl v), h, ho =>
        have h : u = v := h
        subst h
        cases u <;> first | rfl | (simp [leafOk] at ho)
      | some (.inr s), ⟨_, n, h⟩, _ =>
        cases n with
        | zero => simp [RepL] at h
        | succ n =>
          obtain ⟨a, cap, hu, _⟩ := h
          rw [hu]; rfl
    rw [hc]
    refine ⟨rfl, fun j l' v h1 h2 => ?_⟩
    cases j with
    | zero =>
      simp [cellsA] at h1 h2
      subst h1; subst h2
      exact h
    | succ j => simp [cellsA] at h1

/-- One variable that holds a parameter. -/
theorem preB_step (ok : cx.Ok) {w : World} {S : Nat → Prop} {K : List (Nat × Value)} {st : St cx.ty} {a : Act} (h : RS cx (ctL w S K) st a) {t d : Nat} (hlo : d < st.lo) (hK : ∀ q u, (q, u) ∈ K → q < d) {A : A cx.ty} (hl : leafV A = true) {u : Value} (hA : ArgA cx w S A u)
    {x : cx.ty t} (hx : cx.dec t (cellsA A) = some x) (hlen : d < st.slots.length) :
    RS cx (ctL (w.alloc (.cells u.cells t)) (fun b => S b ∨ b = w.heap.size) (K ++ [(d, .pointer (some ⟨w.heap.size, 0, none⟩))])) { st with slots := st.slots.set d (psV (.inr (ro t [x]))), ps := st.ps ++ [(d, .inr (ro t [x]))], pend := none } (a.put (some d) (.pointer (some ⟨w.heap.size, 0, none⟩))) := by
  obtain ⟨c1, c2⟩ := hA.cells hl
  have hsz : (w.alloc (.cells u.cells t)).heap.size = w.heap.size + 1 := by simp
  have hold : ∀ b, b < w.heap.size → (w.alloc (.cells u.cells t)).heap[b]? = w.heap[b]? := fun b hb => (below_alloc w _).block b hb
  have hS : ∀ b, S b → b < w.heap.size := fun b hb => by
    rcases Nat.lt_or_ge b w.heap.size with h1 | h1
    · exact h1
    · exact absurd h1 (h.wf.start b hb)
  have hnew : (w.alloc (.cells u.cells t)).heap[w.heap.size]? = some (.cells u.cells t (0, 0)) := heap_alloc_new w _
  have hpt : PtS cx (w.alloc (.cells u.cells t)) (fun b => S b ∨ b = w.heap.size) (ro t [x]) (.pointer (some ⟨w.heap.size, 0, none⟩)) :=
    ptS_of_cells ok (.inr rfl) hnew c1 (fun j l v h1 h2 => ArgL.mono (fun b hb => .inl hb) (fun b hb => hold b (hS b hb)) (c2 j l v h1 h2)) hx
  have hput : ∀ q, q ≠ d → (a.put (some d) (.pointer (some ⟨w.heap.size, 0, none⟩))).tmps.getD q undef = a.tmps.getD q undef := fun q hq => by
    simp [Act.put, Array.getD_eq_getD_getElem?, Ne.symm hq]
  have hputd : (a.put (some d) (.pointer (some ⟨w.heap.size, 0, none⟩))).tmps.getD d undef = .pointer (some ⟨w.heap.size, 0, none⟩) := by
    have : d < a.tmps.size := by rw [h.size]; exact hlen
    simp [Act.put, Array.getD_eq_getD_getElem?, this]
  have hpres : Pres cx (ctL w S K) (ctL (w.alloc (.cells u.cells t)) (fun b => S b ∨ b = w.heap.size) (K ++ [(d, .pointer (some ⟨w.heap.size, 0, none⟩))])) := by
    refine ⟨fun b hb => ⟨⟨?_, ?_, by simp [ctL]⟩, hold b hb.1⟩, fun n h => h, fun n h => h, fun tk h => by simp [ctL] at h, fun tk h => by simp [ctL] at h, fun tk h => by simp [ctL] at h⟩
    · show b < (w.alloc _).heap.size; rw [hsz]; exact Nat.lt_succ_of_lt hb.1
    · rcases hb.2.1 with k | k
      · exact .inl (.inl k)
      · exact absurd hb.1 (Nat.not_lt_of_le k)
  refine ⟨⟨by simp [ctL], by simp [ctL], by simp [ctL], by simp [ctL], fun b hb => ?_, by simp [ctL], fun b hb => hb⟩, ?_, fun q => ?_, by rw [put_defers]; exact h.defers, h.dead, h.frz, fun n hn => ?_, fun q v hq => ?_, fun q v hq => ?_, PdOK.none⟩
  · show ¬ (w.alloc _).heap.size ≤ b
    rw [hsz]
    rcases hb with hb | hb
    · have := hS b hb; omega
    · omega
  · show (a.put _ _).tmps.size = (st.slots.set d _).length
    rw [List.length_set, ← h.size]
    simp [Act.put]
  · show RepV cx _ ((st.slots.set d _).getD q junk) _
    by_cases hq : q = d
    · subst hq
      rw [hputd]
      have e : (st.slots.set q (psV (.inr (ro t [x])))).getD q junk = psV (.inr (ro t [x])) := by simp [List.getD, hlen]
      rw [e]
      have hwf : Wf cx (ctL (cx := cx) (w.alloc (.cells u.cells t)) (fun b => S b ∨ b = w.heap.size) (K ++ [(q, .pointer (some ⟨w.heap.size, 0, none⟩))])) := ⟨by simp [ctL], by simp [ctL], by simp [ctL], by simp [ctL], fun b hb => by
        show ¬ (w.alloc _).heap.size ≤ b
        rw [hsz]
        rcases hb with hb | hb
        · have := hS b hb; omega
        · omega, by simp [ctL], fun b hb => hb⟩
      exact PsO.repS (a := .inr (ro t [x])) hwf hpt
    · rw [hput q hq]
      have e : (st.slots.set d (psV (.inr (ro t [x])))).getD q junk = st.slots.getD q junk := by simp [List.getD, List.getElem?_set_ne (Ne.symm hq)]
      rw [e]
      exact RepV.pres cx hpres (h.rep q)
  · exact h.names n (by rcases hn with ⟨tk, ht, _⟩ | hn | hn <;> simp [ctL] at *)
  · rcases List.mem_append.1 hq with hq | hq
    · have := hK q v hq
      exact ⟨(h.kp q v hq).1, (hput q (by omega)).trans (h.kp q v hq).2⟩
    · simp only [List.mem_singleton, Prod.mk.injEq] at hq
      obtain ⟨rfl, rfl⟩ := hq
      exact ⟨hlo, hputd⟩
  · rcases List.mem_append.1 hq with hq | hq
    · obtain ⟨v', k1, k2⟩ := h.pr q v hq
      exact ⟨v', List.mem_append.2 (.inl k1), PsO.mono (fun b hb => .inl hb) (fun b hb => hold b (hS b hb)) k2⟩
    · simp only [List.mem_singleton, Prod.mk.injEq] at hq
      obtain ⟨rfl, rfl⟩ := hq
      exact ⟨_, List.mem_append.2 (.inr (List.mem_singleton.2 rfl)), hpt⟩

theorem preB_ok (ok : cx.Ok) {β : Type} {ops : Array Oper} {args : List (A cx.ty)} {us : List Value} {lo : Nat} {Q : Exit → Act → World → Prop} {ev : List Oper → St cx.ty → Option β} {r : β} {w0 : World} (hlen : us.length = args.length)
    (H : ∀ (w : World) (S : Nat → Prop) (K : List (Nat × Value)) (st : St cx.ty) (a : Act) (l : List Oper) (i : Nat), (∀ j, l[j]? = ops[i + j]?) → RS cx (ctL w S K) st a → Below w0.heap.size w0 w → ev l st = some r → wpOps P ops Q (List.range' i l.length) a w) :
    ∀ (l : List Oper) (i m : Nat) (w : World) (S : Nat → Prop) (K : List (Nat × Value)) (st : St cx.ty) (a : Act), (∀ j, l[j]? = ops[i + j]?) → RS cx (ctL w S K) st a → Below w0.heap.size w0 w → w0.heap.size ≤ w.heap.size → args.length ≤ m → (∀ q u, (q, u) ∈ K → q < m) → ArgAs cx w S args us → (∀ p, p < args.length → a.tmps.getD p undef = us.getD p undef) →
      st.lo = lo → lo ≤ st.slots.length → ev (preB cx args lo l m st).2 (preB cx args lo l m st).1 = some r → wpOps P ops Q (List.range' i l.length) a w
  | [], i, m, w, S, K, st, a, hl, h, hb, _, _, hK, _, _, _, _, he => H w S K { st with lo := m } a [] i hl ⟨h.wf, h.size, h.rep, h.defers, h.dead, h.frz, h.names, fun p u hp => ⟨hK p u hp, (h.kp p u hp).2⟩, h.pr, h.pd⟩ hb he
  | o :: rest, i, m, w, S, K, st, a, hl, h, hb, hsz, hm, hK, hA, hT, hlo, hlos, he => by
    have stop : ev (o :: rest) { st with lo := m } = some r → wpOps P ops Q (List.range' i (o :: rest).length) a w := fun he => H w S K { st with lo := m } a (o :: rest) i hl ⟨h.wf, h.size, h.rep, h.defers, h.dead, h.frz, h.names, fun p u hp => ⟨hK p u hp, (h.kp p u hp).2⟩, h.pr, h.pd⟩ hb he
    unfold preB at he
    split at he
    · rename_i t p d hbx
      obtain ⟨e1, e2, e3, e4, e5⟩ := boxOf_eq hbx
      split at he
      · rename_i hmd
        split at he
        · rename_i A0 hA0
          split at he
          · rename_i hlf
            split at he
            · rename_i x hx
              have h0 : ops[i]? = some o := by simpa using (hl 0).symm
              have hl' : ∀ j, rest[j]? = ops[i + 1 + j]? := fun j => by have := hl (j + 1); simpa [Nat.add_assoc, Nat.add_comm 1 j] using this
              have hpu : us[p]? = some (us.getD p undef) := by
                have : p < us.length := by omega
                simp [List.getD, this]
              have hAp : ArgA cx w S A0 (us.getD p undef) := hA.2 p _ _ hA0 hpu
              have hstep := preB_step (t := t) ok h (by rw [hlo]; exact e5) (fun q u hq => by have := hK q u hq; omega) hlf hAp hx (by omega)
              have hS : ∀ b, S b → b < w.heap.size := fun b hb => by
                rcases Nat.lt_or_ge b w.heap.size with h1 | h1
                · exact h1
                · exact absurd h1 (h.wf.start b hb)
              simp only [List.length_cons, List.range'_succ]
              rw [wpOps_cons]
              unfold wpOp
              simp only [h0]
              have hwant : Region.wanted o (yielded ops a.tmps) = true := by simp [Region.wanted, e3]
              rw [if_pos hwant]
              refine .inl (Oper.wp_of_runs ?_)
              have hrun : (execOp a.eval o).run P w = .ok (.value (.pointer (some ⟨w.heap.size, 0, none⟩))) (w.alloc (.cells (a.eval (.tmp p)).cells t)) := by
                unfold execOp
                simp [e1, Instr.box, newVar, newRow]
              unfold Runs
              rw [hrun]
              have hev : a.eval (.tmp p) = us.getD p undef := hT p e4
              rw [e2, hev]
              refine preB_ok ok hlen H rest (i + 1) (d + 1) _ _ _ _ _ hl' hstep (hb.alloc hsz _) (by simp; omega) (by omega) (fun q u hq => ?_) ⟨hA.1, fun j A' u' k1 k2 => ?_⟩ (fun q hq => ?_) hlo (by show lo ≤ (st.slots.set d _).length; rw [List.length_set]; exact hlos) he
              · rcases List.mem_append.1 hq with hq | hq
                · have := hK q u hq; omega
                · simp only [List.mem_singleton, Prod.mk.injEq] at hq
                  omega
              · have := hA.2 j A' u' k1 k2
                exact PsO.mono (a := .inl A') (fun b hb => .inl hb) (fun b hb => (below_alloc w _).block b (hS b hb)) this
              · have hqd : q ≠ d := by omega
                rw [← hT q hq]
                simp [Act.put, Array.getD_eq_getD_getElem?, Ne.symm hqd]
            · exact stop he
          · exact stop he
        · exact stop he
      · exact stop he
    · exact stop he

theorem sat_of_evL (ok : cx.Ok) (hZ : cx.POk P) (hm : P.follows .mixedOrders = true) {f : FuncId} {fn : Func} (hf : P.funcs[f]? = some fn) {F : List (A cx.ty) → Option (Bool × V cx.ty)}
    (h : ∀ as r, F as = some (true, r) → ∃ (ev : Env cx) (L : Nat), KOk P cx ev.Kc ∧ KwOk P cx ev.Kw ∧ evFL P ev (loopN L) fn as = some r ∧ (noRoV r = true ∨ noOwnV r = true) ∧ (∃ v, r = vv v) ∧ 2 * as.length ≤ fn.ntmps) : Sat P cx f F := by
  intro w A0 l us r hA hargs hF
  obtain ⟨ev, L, hK, hKw, hev, hmix, ⟨vr, hvr⟩, hnt⟩ := h l r hF
  unfold evFL at hev
  split at hev
  · rename_i id ops rest hcode
    let K0 : List (Nat × Value) := us.zipIdx.map fun p => (p.2, p.1)
    have hwf : Wf cx (ctL (cx := cx) w A0 K0) := ⟨by simp [ctL], by simp [ctL], by simp [ctL], by simp [ctL], fun b hb => by have := hA b hb; show ¬ w.heap.size ≤ b; omega, by simp [ctL], fun b hb => hb⟩
    have hrd : ∀ b, A0 b → Rd (ctL (cx := cx) w A0 K0) b := fun b hb => ⟨hA b hb, .inl hb, by simp [ctL]⟩
    have htmp : ∀ t, t < us.length → (us.toArray ++ Array.replicate (fn.ntmps - us.toArray.size) undef).getD t undef = us.getD t undef := fun t ht => by
      simp [Array.getD_eq_getD_getElem?, Array.getElem?_append, ht, List.getD]
    have hkm : ∀ p u, (p, u) ∈ K0 ↔ us[p]? = some u := fun p u => by
      constructor
      · intro hp
        obtain ⟨q, hq, he⟩ := List.mem_map.1 hp
        simp only [Prod.mk.injEq] at he
        have hq2 := List.mem_zipIdx_iff_getElem?.1 hq
        rw [he.1, he.2] at hq2
        exact hq2
      · intro hp
        exact List.mem_map.2 ⟨(u, p), List.mem_zipIdx_iff_getElem?.2 hp, rfl⟩
    have hargl : us.length = l.length := hargs.1
    refine calls_of_wp hf hcode ?_
    refine wp_seq (wp_region ?_)
    rw [List.range_eq_range']
    have hops : ops.toList.length = ops.size := by simp
    rw [← hops]
    refine preB_ok (args := l) (us := us) (w0 := w) (ev := fun q st => evSeq P ev.Kc ev.Kw (fun _ _ => none) ops (fun st => evC P ev (loopN L) 0 rest st (finK P fn)) q st) (r := r) (lo := 2 * l.length) ok hargl (fun w1 S1 K1 st1 a1 l1 i1 hl1 h1 hb1 he1 => ?_) ops.toList 0 l.length w A0 K0 (stL fn l) _ (fun j => by simp) ⟨hwf, ?_, fun t => ?_, rfl, fun n => by simp [ctL, stL], fun n => by simp [ctL, stL], fun n hn => ?_, fun p u hp => ?_, fun p a hp => ?_, PdOK.none⟩ (Below.refl _ _) (Nat.le_refl _) (Nat.le_refl _) (fun q u hq => ?_) hargs (fun p hp => htmp p (by omega)) rfl ?_ hev
    · refine evSeq_ok ok hZ hK hKw (W := w1) (S := S1) (N := fun b => w1.heap.size ≤ b) (KK := K1) (r := r) (fun v c st a h1 h2 h3 h4 h5 => by cases h5) (fun c st a h2 h3 h4 h5 h6 => ?_) l1 i1 hl1 st1 (ctL w1 S1 K1) a1 h1 rfl ⟨rfl, rfl⟩ (Kept.refl _ _) he1
      refine evC_ok ok hZ ev L hK hKw hm (W := w1) (S := S1) (N := fun b => w1.heap.size ≤ b) (KK := K1) rest 0 _ _ (fun e c' st' a' g1 g2 g3 g4 g5 => ?_) st c a h2 h3 h4 h5 h6
      have fin : outV P fn st' = some r → a'.defers = [] ∧ ∃ v, (results fn a'.tmps).run P c'.w = .ok v c'.w ∧ (∃ u, Ending.returned v = .returned u ∧ Below w.heap.size w c'.w ∧ ResV cx c'.w A0 (fun b => w.heap.size ≤ b) r u) := by
        intro ho
        obtain ⟨u, k1, k2⟩ := outV_spec ok g1 ho hmix
        refine ⟨g1.defers, u, k1, u, rfl, ?_, ?_⟩
        · exact hb1.trans (g4.low.mono hb1.size)
        · subst hvr
          obtain ⟨fp, _, _, k3⟩ := k2
          have k3 : u = vr ∧ fp = [] := k3
          exact ⟨[], by simp, by simp, k3.1, rfl⟩
      cases e with
      | normal => exact fin g5
      | ret => exact fin g5
      | _ => simp [finK, Kn.on] at g5
    · simp [hargl, stL]
    · show RepV cx (ctL (cx := cx) w A0 K0) ((l.map argV ++ List.replicate (fn.ntmps - l.length) (junk : V cx.ty)).getD t junk) _
      by_cases ht : t < l.length
      · have htu : t < us.length := by omega
        have e1 : (l.map argV ++ List.replicate (fn.ntmps - l.length) (junk : V cx.ty)).getD t junk = argV l[t] := by
          simp [List.getD, List.getElem?_append_left, ht]
        have e2 : (us.toArray ++ Array.replicate (fn.ntmps - us.toArray.size) undef).getD t undef = us[t] := by
          simp [Array.getD_eq_getD_getElem?, Array.getElem?_append, htu]
        rw [e1, e2]
        exact ArgA.repV hrd (hargs.2 t _ _ (List.getElem?_eq_getElem ht) (List.getElem?_eq_getElem htu))
      · have e1 : (l.map argV ++ List.replicate (fn.ntmps - l.length) (junk : V cx.ty)).getD t junk = junk := by
          simp only [List.getD]
          rw [List.getElem?_append_right (by simp; omega)]
          simp only [List.length_map, List.getElem?_replicate]
          split <;> rfl
        rw [e1]
        trivial
    · rcases hn with ⟨tk, ht, _⟩ | hn | hn
      · simp [ctL] at ht
      · simp [ctL] at hn
      · simp [ctL] at hn
    · have hp := (hkm p u).1 hp
      have hpl : p < us.length := (List.getElem?_eq_some_iff.1 hp).1
      refine ⟨by show p < 2 * l.length; omega, ?_⟩
      show (us.toArray ++ Array.replicate (fn.ntmps - us.toArray.size) undef).getD p undef = u
      rw [htmp p hpl]
      simp [List.getD, hp]
    · obtain ⟨q, hq, he⟩ := List.mem_map.1 hp
      simp only [Prod.mk.injEq] at he
      obtain ⟨he1, he2⟩ := he
      subst he1; subst he2
      have hq2 := List.mem_zipIdx_iff_getElem?.1 hq
      have hpl : q.2 < us.length := by rw [hargl]; exact (List.getElem?_eq_some_iff.1 hq2).1
      exact ⟨us[q.2], (hkm q.2 _).2 (List.getElem?_eq_getElem hpl), hargs.2 q.2 q.1 _ hq2 (List.getElem?_eq_getElem hpl)⟩
    · have := (List.getElem?_eq_some_iff.1 ((hkm q u).1 hq)).1
      omega
    · show 2 * l.length ≤ (l.map argV ++ List.replicate (fn.ntmps - l.length) (junk : V cx.ty)).length
      simp
      omega
  · simp at hev

theorem sat_l {P : Program} {cx : Cx} (ok : cx.Ok) (hZ : cx.POk P) (hm : P.follows .mixedOrders = true) {f : FuncId} {fn : Func} (hf : P.funcs[f]? = some fn) {X R : Type} (a : Args cx.ty X) (enc : R → V cx.ty) (d : R) (m : X → Option R)
    (ev : Env cx) (hK : KOk P cx ev.Kc) (hKw : KwOk P cx ev.Kw) (g : Nat → X → Option R) (he : ∀ L x, evFL P ev (loopN L) fn (a.enc x) = (g L x).map enc) (hg : ∀ x t, m x = some t → ∃ L, g L x = some t) (hs : ∀ t, noRoV (enc t) = true ∨ noOwnV (enc t) = true)
    (hp : ∀ t, ∃ v, enc t = vv v := by exact fun _ => ⟨_, rfl⟩) (hn : ∀ x, 2 * (a.enc x).length ≤ fn.ntmps := by intro x; exact of_decide_eq_true rfl) :
    Sat P cx f (fnT a enc d m) := by
  refine sat_of_evL ok hZ hm hf fun as r h => ?_
  obtain ⟨x, t, rfl, hx, rfl⟩ := fnT_inv h
  obtain ⟨L, hL⟩ := hg x t hx
  exact ⟨ev, L, hK, hKw, by rw [he, hL]; rfl, hs t, hp t, hn x⟩
end
end Go.VM
namespace Go.VM
open Go.RowKit
section
variable {cx : Cx} {P : Program}

/-! ### Functions that are handed a pointer to a box with the rows that it bears -/
end
end Go.VM

namespace Go.VM
open Go.RowKit
section
variable {cx : Cx} {P : Program}

/-! ### Results that mix: flat rows of our own (own = 2), rows of our own whose elements are read (own = 4), rows that are read -/
end
end Go.VM

namespace Go.VM
open Go

/-! ### Pure arithmetic -/
theorem dt {c : Prop} [Decidable c] (h : c) : decide c = true := decide_eq_true h
theorem df {c : Prop} [Decidable c] (h : ¬ c) : decide c = false := decide_eq_false h
theorem bneF {α : Type} [BEq α] [LawfulBEq α] {a b : α} (h : a = b) : (a != b) = false := by simpa using h
theorem wi {x : Int} (h1 : -9223372036854775808 ≤ x) (h2 : x ≤ 9223372036854775807) : IntKind.wrap .i64 x = x := by
  unfold IntKind.wrap; simp [IntKind.bits, IntKind.signed]; omega
def okB (a : List Int) : Bool := a.all fun x => decide (0 ≤ x) && decide (x ≤ 255)
theorem okB_mem {a : List Int} (h : okB a = true) {x : Int} (hx : x ∈ a) : 0 ≤ x ∧ x ≤ 255 := by
  unfold okB at h
  rw [List.all_eq_true] at h
  simpa using h x hx
theorem okB_get {a : List Int} (h : okB a = true) {i : Nat} (hi : i < a.length) : 0 ≤ a.getD i 0 ∧ a.getD i 0 ≤ 255 := by
  simp only [List.getD, List.getElem?_eq_getElem hi, Option.getD_some]
  exact okB_mem h (List.getElem_mem hi)
/-! ### Bytes as strings -/
end Go.VM

namespace Go.VM
open Go Go.RowKit

/-- Whatever lies in the world may be lent. -/
def Lent (w : World) (b : Nat) : Prop := b < w.heap.size

theorem cell_spot {w : World} {x : Addr} {v : Value} (h : w.cell? x = some v) : x.spot = none ∧ x.block < w.heap.size := by
  unfold World.cell? at h
  split at h
  · rename_i c e f hb
    split at h
    · simp at h
    · rename_i hs
      exact ⟨by simpa using hs, (Array.getElem?_eq_some_iff.1 hb).1⟩
  · simp at h

/-- A row of numbers that came in, as it is lent. -/
theorem lent_row {cx : Cx} {e : Nat} {k : IntKind} {w : World} {x : Addr} {len cap : Nat} {zs : List Int} (xs : List (cx.ty e)) (hsz : cx.size e = 1) (hlen : xs.length = len) (hle : len ≤ cap) (hz : len ≤ zs.length)
    (henc : ∀ i y, xs[i]? = some y → cx.enc e false y = [lv (.int k (zs.getD i 0))]) (hcell : ∀ i, i < zs.length → w.cell? (x.add i) = some (.int k (zs.getD i 0))) :
    ∃ n, RepL cx w (Lent w) n (some (.inr (ro e xs))) (.slice (some x) len cap) := by
  refine ⟨1, some x, cap, by rw [← hlen]; rfl, by show xs.length ≤ cap; omega, ?_⟩
  by_cases h0 : xs = []
  · exact .inl h0
  · have hpos : 0 < xs.length := List.length_pos_iff.2 h0
    have h1 := cell_spot (hcell 0 (by omega))
    obtain ⟨b, off, spot⟩ := x
    simp only [Addr.add] at h1
    obtain ⟨rfl, hb⟩ := h1
    refine .inr ⟨b, off, rfl, hb, fun i y hy j l hl => ?_⟩
    have hy : xs[i]? = some y := hy
    have hi : i < xs.length := (List.getElem?_eq_some_iff.1 hy).1
    have hl : (cx.enc e false y)[j]? = some l := hl
    rw [henc i y hy] at hl
    cases j with
    | zero =>
      simp only [List.getElem?_cons_zero, Option.some.injEq] at hl
      subst hl
      refine ⟨_, ?_, rfl⟩
      have := hcell i (by omega)
      show w.cell? ⟨b, off + (i * cx.size e + 0), none⟩ = _
      rw [hsz, Nat.mul_one, Nat.add_zero]
      simpa [Addr.add_lit] using this
    | succ j => simp at hl

theorem lent_nil {cx : Cx} {e : Nat} {w : World} : ∃ n, RepL cx w (Lent w) n (some (.inr (ro e ([] : List (cx.ty e))))) (.slice none 0 0) :=
  ⟨1, none, 0, rfl, Nat.le_refl _, .inl rfl⟩

theorem args_nil {cx : Cx} {w : World} {A0 : Nat → Prop} : ArgAs cx w A0 [] [] := ⟨rfl, fun j a u h => by simp at h⟩
theorem args_cons {cx : Cx} {w : World} {A0 : Nat → Prop} {a : A cx.ty} {l : List (A cx.ty)} {u : Value} {us : List Value} (h : ArgA cx w A0 a u) (hs : ArgAs cx w A0 l us) : ArgAs cx w A0 (a :: l) (u :: us) :=
  ⟨by simp [hs.1], fun j b v h1 h2 => by
    cases j with
    | zero =>
      simp only [List.getElem?_cons_zero, Option.some.injEq] at h1 h2
      subst h1; subst h2
      exact h
    | succ j => exact hs.2 j b v (by simpa using h1) (by simpa using h2)⟩

/-- A law that the contract says to be true. -/
theorem calls_true {P : Program} {cx : Cx} {f : FuncId} {X : Type} {a : Args cx.ty X} {d : Bool} {m : X → Option Bool} {enc : Bool → V cx.ty} (henc : enc true = .inl (.inl (lv (.bool true)))) (hs : Sat P cx f (fnT a enc d m)) {w : World}
    {l : List (A cx.ty)} {us : List Value} {x : X} (hdec : a.dec l = some x) (hm : m x = some true) (hargs : ArgAs cx w (Lent w) l us) :
    Calls P f us.toArray w fun e w' => e = .returned (.bool true) ∧ Below w.heap.size w w' := by
  refine (hs w (Lent w) l us (enc true) (fun b h => h) hargs ?_).mono fun e w' ⟨u, he, hb, hres⟩ => ⟨?_, hb⟩
  · unfold fnT
    rw [hdec]
    simp [hm]
  · obtain ⟨fp, _, _, hr⟩ := hres
    rw [henc] at hr
    have hr : u = .bool true ∧ fp = [] := hr
    rw [he, hr.1]

theorem okB_of {zs : List Int} (h : ∀ n ∈ zs, (Lit.int .u8 n).wf = true) (k : Nat) : okB (zs.take k) = true := by
  unfold okB
  rw [List.all_eq_true]
  intro x hx
  have := h x (List.mem_of_mem_take hx)
  simp [Lit.wf, IntKind.min, IntKind.max, IntKind.signed, IntKind.bits] at this
  simp; omega
end Go.VM
