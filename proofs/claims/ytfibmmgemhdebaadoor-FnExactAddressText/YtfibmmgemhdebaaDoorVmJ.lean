/- A part of the proof of FnExactAddressText: VmJ, VmK, VmL, VmM, VmN, VmO, VmPu, VmTop. -/
import Derived.Test.YtfibmmgemhdebaaDoorVmB
import Derived.Below
namespace Go.VM
open Go.RowKit

/-! ### Arguments, told and taken -/
structure LArg (ty : Nat → Type) (X : Type) where
  enc : X → L ty
  dec : L ty → Option X
  inv : ∀ a x, dec a = some x → a = enc x

structure Arg (ty : Nat → Type) (X : Type) where
  enc : X → A ty
  dec : A ty → Option X
  inv : ∀ a x, dec a = some x → a = enc x

def LArg.int {ty : Nat → Type} (k : IntKind) : LArg ty Int :=
  { enc := fun x => lv (.int k x), dec := fun a => match a with | some (.inl v) => decI k v | _ => none,
    inv := fun a x h => by
      split at h
      · rename_i v
        unfold decI at h
        split at h
        · split at h
          · rename_i hk
            subst hk
            cases h
            rfl
          · simp at h
        · simp at h
      · simp at h }

def LArg.bool {ty : Nat → Type} : LArg ty Bool :=
  { enc := fun x => lv (.bool x), dec := fun a => match a with | some (.inl (.bool x)) => some x | _ => none,
    inv := fun a x h => by
      split at h
      · cases h; rfl
      · simp at h }

def LArg.str {ty : Nat → Type} : LArg ty ByteArray :=
  { enc := fun x => lv (.string x), dec := fun a => match a with | some (.inl (.string x)) => some x | _ => none,
    inv := fun a x h => by
      split at h
      · cases h; rfl
      · simp at h }

/-- A function that is no closure. -/
def LArg.fn {ty : Nat → Type} (f : Nat) : LArg ty Unit :=
  { enc := fun _ => lv (.func (.func f) #[] #[]),
    dec := fun a => match a with | some (.inl (.func (.func g) p q)) => if g = f ∧ p.toList.isEmpty ∧ q.toList.isEmpty then some () else none | _ => none,
    inv := fun a x h => by
      split at h
      · rename_i g p q
        split at h
        · rename_i hc
          simp only [List.isEmpty_iff] at hc
          obtain ⟨rfl, h1, h2⟩ := hc
          have hp : p = #[] := Array.ext' h1
          have hq : q = #[] := Array.ext' h2
          subst hp; subst hq
          rfl
        · simp at h
      · simp at h }

def LArg.row {ty : Nat → Type} (e : Nat) : LArg ty (List (ty e)) :=
  { enc := fun x => ls (ro e x), dec := fun a => match a with | some (.inr s) => if s.own == 0 && s.nm == 0 && !s.o then rowOf e s else none | _ => none,
    inv := fun a x h => by
      split at h
      · rename_i s
        split at h
        · rename_i hc
          simp only [Bool.and_eq_true, beq_iff_eq, Bool.not_eq_true'] at hc
          unfold rowOf at h
          split at h
          · rename_i he
            obtain ⟨own, nm, e2, o2, xs⟩ := s
            simp only at he hc
            obtain ⟨⟨rfl, rfl⟩, rfl⟩ := hc
            subst he
            cases h
            rfl
          · simp at h
        · simp at h
      · simp at h }

def Arg.leaf {ty : Nat → Type} {X : Type} (a : LArg ty X) : Arg ty X :=
  { enc := fun x => .inl (a.enc x), dec := fun l => match l with | .inl l => a.dec l | _ => none,
    inv := fun l x h => by
      split at h
      · rename_i l
        rw [a.inv l x h]
      · simp at h }

abbrev Arg.int {ty : Nat → Type} (k : IntKind) : Arg ty Int := Arg.leaf (LArg.int k)
abbrev Arg.bool {ty : Nat → Type} : Arg ty Bool := Arg.leaf LArg.bool
abbrev Arg.row {ty : Nat → Type} (e : Nat) : Arg ty (List (ty e)) := Arg.leaf (LArg.row e)

/-- A struct of two leaves. -/
def Arg.two {ty : Nat → Type} {X Y : Type} (a : LArg ty X) (b : LArg ty Y) : Arg ty (X × Y) :=
  { enc := fun x => .inr [a.enc x.1, b.enc x.2], dec := fun l => match l with | .inr [p, q] => (a.dec p).bind fun x => (b.dec q).map fun y => (x, y) | _ => none,
    inv := fun l x h => by
      split at h
      · rename_i p q
        cases h1 : a.dec p with
        | none => rw [h1] at h; simp at h
        | some u =>
          cases h2 : b.dec q with
          | none => rw [h1, h2] at h; simp at h
          | some v =>
            rw [h1, h2] at h
            simp only [Option.bind_some, Option.map_some, Option.some.injEq] at h
            subst h
            rw [a.inv p u h1, b.inv q v h2]
      · simp at h }

/-! ### Typed contracts: what comes back stands open in its form -/
structure SArg (ty : Nat → Type) (X : Type) where
  enc : X → List (L ty)
  dec : List (L ty) → Option X
  inv : ∀ a x, dec a = some x → a = enc x

def SArg.one {ty : Nat → Type} {X : Type} (a : LArg ty X) : SArg ty X :=
  { enc := fun x => [a.enc x], dec := fun l => match l with | [p] => a.dec p | _ => none,
    inv := fun l x h => by
      split at h
      · rename_i p; rw [a.inv p x h]
      · simp at h }

def SArg.cons {ty : Nat → Type} {X Y : Type} (a : LArg ty X) (s : SArg ty Y) : SArg ty (X × Y) :=
  { enc := fun x => a.enc x.1 :: s.enc x.2, dec := fun l => match l with | p :: q => (a.dec p).bind fun x => (s.dec q).map fun y => (x, y) | _ => none,
    inv := fun l x h => by
      split at h
      · rename_i p q
        cases h1 : a.dec p with
        | none => rw [h1] at h; simp at h
        | some u =>
          cases h2 : s.dec q with
          | none => rw [h1, h2] at h; simp at h
          | some v =>
            rw [h1, h2] at h
            simp only [Option.bind_some, Option.map_some, Option.some.injEq] at h
            subst h
            rw [a.inv p u h1, s.inv q v h2]
      · simp at h }

def Arg.agg {ty : Nat → Type} {X : Type} (s : SArg ty X) : Arg ty X :=
  { enc := fun x => .inr (s.enc x), dec := fun l => match l with | .inr l => s.dec l | _ => none,
    inv := fun l x h => by
      split at h
      · rename_i l; rw [s.inv l x h]
      · simp at h }

/-- A list of arguments. -/
structure Args (ty : Nat → Type) (X : Type) where
  enc : X → List (A ty)
  dec : List (A ty) → Option X
  inv : ∀ a x, dec a = some x → a = enc x

def Args.nil {ty : Nat → Type} : Args ty Unit :=
  { enc := fun _ => [], dec := fun l => match l with | [] => some () | _ => none,
    inv := fun l x h => by
      split at h
      · rfl
      · simp at h }

def Args.one {ty : Nat → Type} {X : Type} (a : Arg ty X) : Args ty X :=
  { enc := fun x => [a.enc x], dec := fun l => match l with | [p] => a.dec p | _ => none,
    inv := fun l x h => by
      split at h
      · rename_i p; rw [a.inv p x h]
      · simp at h }

def Args.cons {ty : Nat → Type} {X Y : Type} (a : Arg ty X) (s : Args ty Y) : Args ty (X × Y) :=
  { enc := fun x => a.enc x.1 :: s.enc x.2, dec := fun l => match l with | p :: q => (a.dec p).bind fun x => (s.dec q).map fun y => (x, y) | _ => none,
    inv := fun l x h => by
      split at h
      · rename_i p q
        cases h1 : a.dec p with
        | none => rw [h1] at h; simp at h
        | some u =>
          cases h2 : s.dec q with
          | none => rw [h1, h2] at h; simp at h
          | some v =>
            rw [h1, h2] at h
            simp only [Option.bind_some, Option.map_some, Option.some.injEq] at h
            subst h
            rw [a.inv p u h1, s.inv q v h2]
      · simp at h }

def fnT {cx : Cx} {X R : Type} (a : Args cx.ty X) (enc : R → V cx.ty) (d : R) (m : X → Option R) : List (A cx.ty) → Option (Bool × V cx.ty) :=
  fun l => (a.dec l).map fun x => ((m x).isSome, enc ((m x).getD d))

theorem fnT_inv {cx : Cx} {X R : Type} {a : Args cx.ty X} {enc : R → V cx.ty} {d : R} {m : X → Option R} {l : List (A cx.ty)} {r : V cx.ty} (h : fnT a enc d m l = some (true, r)) : ∃ x t, l = a.enc x ∧ m x = some t ∧ r = enc t := by
  unfold fnT at h
  cases h1 : a.dec l with
  | none => rw [h1] at h; simp at h
  | some x =>
    rw [h1] at h
    simp only [Option.map_some, Option.some.injEq, Prod.mk.injEq] at h
    cases h2 : m x with
    | none => rw [h2] at h; simp at h
    | some t =>
      rw [h2] at h
      exact ⟨x, t, a.inv l x h1, h2, h.2.symm⟩

theorem sat_t {P : Program} {cx : Cx} (ok : cx.Ok) (hZ : cx.POk P) (hm : P.follows .mixedOrders = true) {f : FuncId} {fn : Func} (hf : P.funcs[f]? = some fn) {X R : Type} (a : Args cx.ty X) (enc : R → V cx.ty) (d : R) (m : X → Option R)
    (ev : Env cx) (hK : KOk P cx ev.Kc) (hKw : KwOk P cx ev.Kw) (g : Nat → X → Option R) (he : ∀ L x, evF P ev (loopN L) fn (a.enc x) = (g L x).map enc) (hg : ∀ x t, m x = some t → ∃ L, g L x = some t) (hs : ∀ t, noRoV (enc t) = true ∨ noOwnV (enc t) = true) :
    Sat P cx f (fnT a enc d m) := by
  refine sat_of_ev ok hZ hm hf fun as r h => ?_
  obtain ⟨x, t, rfl, hx, rfl⟩ := fnT_inv h
  obtain ⟨L, hL⟩ := hg x t hx
  exact ⟨ev, L, hK, hKw, by rw [he, hL]; rfl, hs t⟩

def kcOf {cx : Cx} : List (FuncId × (List (A cx.ty) → Option (Bool × V cx.ty))) → Kt cx
  | [], _ => none
  | (f, F) :: r, g => if g = f then some F else kcOf r g

theorem kok_nil {P : Program} {cx : Cx} : KOk P cx (kcOf []) := fun _ _ h => by simp [kcOf] at h
theorem kok_cons {P : Program} {cx : Cx} {f : FuncId} {F : List (A cx.ty) → Option (Bool × V cx.ty)} {r : List (FuncId × (List (A cx.ty) → Option (Bool × V cx.ty)))} (h : Sat P cx f F) (hr : KOk P cx (kcOf r)) : KOk P cx (kcOf ((f, F) :: r)) := by
  intro g G hG
  unfold kcOf at hG
  split at hG
  · rename_i he
    subst he
    cases hG
    exact h
  · exact hr g G hG

theorem map_bif {α β : Type} (f : α → β) (c : Bool) (a b : Option α) : (bif c then a else b).map f = bif c then a.map f else b.map f := by cases c <;> rfl
end Go.VM

namespace Go.VM
open Go.RowKit
/-- A piece of a function's code. -/
def codeAt : List Nat → Code → Code
  | [], c => c
  | i :: p, c => match c with
    | .seq x y => codeAt p (if i = 0 then x else y)
    | .cond _ x y => codeAt p (if i = 0 then x else y)
    | .block _ c => codeAt p c
    | .loop c => codeAt p c
    | _ => .skip
def bodyAt (fn : Func) (p : List Nat) : Code := match fn.body with | some c => codeAt p c | none => .skip
section
variable {cx : Cx} {β : Type}
/-- What follows behind a piece of code. -/
def contC (P : Program) (ev : Env cx) (lp : Lp cx β) : List Nat → Nat → Code → Kn cx β → Kn cx β
  | [], _, _, k => k
  | i :: p, bid, c, k => match c with
    | .seq x y => if i = 0 then contC P ev lp p bid x (seqK (evC P ev lp bid y) k) else contC P ev lp p bid y k
    | .cond _ x y => contC P ev lp p bid (if i = 0 then x else y) k
    | .block id c => contC P ev lp p id c (blkK id (ev.xv id) k)
    | .loop c => contC P ev lp p bid c k
    | _ => k

/-- The body of the loop in block 'id', at a place. -/
def bodyL (P : Program) (ev : Env cx) (L : Nat) (fn : Func) (id : Nat) (p : List Nat) : St cx.ty → Kn cx β → Option β := evC P ev (loopN L) id (bodyAt fn p)

/-- Rounds of a loop, from a plain state on: 'K': what follows where the block is left. -/
def headF (P : Program) (ev : Env cx) (L : Nat) (fn : Func) (id : Nat) (p : List Nat) (K : Kn cx β) (n : Nat) (st : St cx.ty) : Option β :=
  loopC (bodyL P ev L fn id p) (canon (ev.lv id)) (blkK id (ev.xv id) K) n st

def roundF (P : Program) (ev : Env cx) (L : Nat) (fn : Func) (id : Nat) (p : List Nat) (K : Kn cx β) (g : St cx.ty → Option β) (st : St cx.ty) : Option β :=
  bodyL P ev L fn id p st (seqK (fun st' _ => g (canon (ev.lv id) st')) (blkK id (ev.xv id) K))

theorem headF_round (P : Program) (ev : Env cx) (L : Nat) (fn : Func) (id : Nat) (p : List Nat) (K : Kn cx β) (n : Nat) (st : St cx.ty) :
    headF P ev L fn id p K (n + 1) st = roundF P ev L fn id p K (headF P ev L fn id p K n) st := rfl

/-- What follows a block at a place of the function: 'fin': what is handed back. -/
def topK (P : Program) (ev : Env cx) (L : Nat) (fn : Func) (p : List Nat) (fin : St cx.ty → Option β) : Kn cx β := contC P ev (loopN L) p 0 (bodyAt fn []) { n := fin, x := fun _ _ => none, r := fin }

def outK (fin : St cx.ty → Option β) (k : St cx.ty → Option β) (x : Nat → St cx.ty → Option β) : Kn cx β := { n := k, x := x, r := fin }
end
end Go.VM

namespace Go.VM
open Go.RowKit
section
variable {cx : Cx} {P : Program}

/-! ### Functions that write into what they are handed -/
/-! ### Typed -/
def LArg.own {ty : Nat → Type} (e : Nat) : LArg ty (List (ty e)) :=
  { enc := fun x => ls { own := 2, nm := 0, e := e, o := true, xs := x }, dec := fun a => match a with | some (.inr s) => if s.own == 2 && s.nm == 0 && s.o then rowOf e s else none | _ => none,
    inv := fun a x h => by
      split at h
      · rename_i s
        split at h
        · rename_i hc
          simp only [Bool.and_eq_true, beq_iff_eq] at hc
          unfold rowOf at h
          split at h
          · rename_i he
            obtain ⟨own, nm, e2, o2, xs⟩ := s
            simp only at he hc
            obtain ⟨⟨rfl, rfl⟩, rfl⟩ := hc
            subst he
            cases h
            rfl
          · simp at h
        · simp at h
      · simp at h }

def kwOf {cx : Cx} : List (FuncId × WFn cx) → Kwt cx
  | [], _ => none
  | (f, F) :: r, g => if g = f then some F else kwOf r g

theorem kwok_nil {P : Program} {cx : Cx} : KwOk P cx (kwOf []) := fun _ _ h => by simp [kwOf] at h
/-! ### Functions whose rows are handed back to be read alone -/
end
end Go.VM

namespace Go.VM
open Go.RowKit
section
variable {cx : Cx} {P : Program}

/-! ### Functions that are handed a pointer to a box, or hand one back -/
structure OSf (c : Ct cx.ty) (seen seen' : List Nat) (fp : List Nat) : Prop where
  src : ∀ b ∈ fp, ∃ tk ∈ c.T, tk.nm ∈ seen' ∧ tk.nm ∉ seen ∧ b ∈ vb tk.u
  nd : fp.Nodup
  grow : ∀ n ∈ seen, n ∈ seen'
  row : ∀ b ∈ fp, ∀ tk ∈ c.T, b ∈ vb tk.u → ∃ s, tk.c = .inl s

theorem OSf.nil (c : Ct cx.ty) (seen : List Nat) : OSf c seen seen [] := ⟨by simp, by simp, fun _ h => h, by simp⟩

theorem OSf.app {c : Ct cx.ty} (h : Wf cx c) {s0 s1 s2 f1 f2 : List Nat} (h1 : OSf c s0 s1 f1) (h2 : OSf c s1 s2 f2) : OSf c s0 s2 (f1 ++ f2) := by
  refine ⟨fun b hb => ?_, ?_, fun n hn => h2.grow n (h1.grow n hn), fun b hb tk ht hv => (List.mem_append.1 hb).elim (fun hb => h1.row b hb tk ht hv) (fun hb => h2.row b hb tk ht hv)⟩
  · rcases List.mem_append.1 hb with hb | hb
    · obtain ⟨tk, k1, k2, k3, k4⟩ := h1.src b hb
      exact ⟨tk, k1, h2.grow _ k2, k3, k4⟩
    · obtain ⟨tk, k1, k2, k3, k4⟩ := h2.src b hb
      exact ⟨tk, k1, k2, fun hs => k3 (h1.grow _ hs), k4⟩
  · rw [List.nodup_append]
    refine ⟨h1.nd, h2.nd, fun a ha b hb he => ?_⟩
    subst he
    obtain ⟨t1, k1, k2, k3, k4⟩ := h1.src a ha
    obtain ⟨t2, m1, m2, m3, m4⟩ := h2.src a hb
    exact disjoint_toks h k1 m1 (fun e => m3 (e ▸ k2)) (List.mem_append.2 (.inl k4)) (List.mem_append.2 (.inl m4))

theorem ArgL.res {w : World} {S : Nat → Prop} {l : L cx.ty} {u : Value} (h : ArgL cx w S l u) : ResL cx w S l u [] := by
  match l, h with
  | some (.inl v), h => exact ⟨h, rfl⟩
  | some (.inr s), ⟨h0, n, h⟩ =>
    unfold ResL
    have h2 : ¬ s.own = 2 := by omega
    simp only [h2, if_false]
    exact ⟨h0, trivial, n, h⟩

/-- A name for a thing that is met again and again. -/
def bnd {α β : Type} (x : α) (K : α → Option β) : Option β := K x
theorem map_bnd {α β γ : Type} (x : α) (K : α → Option β) (f : β → γ) : (bnd x K).map f = bnd x (fun t => (K t).map f) := rfl
/-- A call whose end is tested. -/
def tst {α β : Type} (o : Option α) (d : α) (K : α → Option β) : Option β := bif o.isSome then K (o.getD d) else none
theorem map_tst {α β γ : Type} (o : Option α) (d : α) (K : α → Option β) (f : β → γ) : (tst o d K).map f = tst o d (fun t => (K t).map f) := by
  cases o <;> rfl
theorem tst_some {α β : Type} (v : α) (d : α) (K : α → Option β) : tst (some v) d K = K v := rfl

end
end Go.VM

namespace Go.VM
open Go.RowKit
section
variable {cx : Cx} {P : Program}

/-! ### The body of a function that may throw -/
end
end Go.VM

namespace Go.VM
open Go.RowKit
section
variable {cx : Cx} {P : Program}

/-! ### Bodies that never write their parameters: what was lent is remembered, in variables too that only hold a parameter -/
def cellsA {ty : Nat → Type} : A ty → List (L ty)
  | .inl l => [l]
  | .inr l => l
def leafV {ty : Nat → Type} : A ty → Bool
  | .inl l => leafOk l && !isPt l
  | .inr _ => true
theorem ArgA.cells {w : World} {S : Nat → Prop} {a : A cx.ty} {u : Value} (h : ArgA cx w S a u) (hl : leafV a = true) : u.cells.toList.length = (cellsA a).length ∧ ∀ (j : Nat) l v, (cellsA a)[j]? = some l → u.cells.toList[j]? = some v → ArgL cx w S l v := by
  match a, h with
  | .inr l, ⟨us, hu, hlen, hv⟩ =>
    subst hu
    exact ⟨hlen, hv⟩
  | .inl l, h =>
    have hl : leafOk l = true ∧ isPt l = false := by simpa [leafV] using hl
    obtain ⟨hl, hnp⟩ := hl
    have h : ArgL cx w S l u := by
      rwa [ArgA.atLeaf hnp] at h
    have hc : u.cells = #[u] := by
      match l, h, hl with
      | some (.inl v), h, ho =>
        have h : u = v := h
        subst h
        cases u <;> first | rfl | (simp [leafOk] at ho)
      | some (.inr s), ⟨_, n, h⟩, _ =>
        cases n with
        | zero => simp [RepL] at h
        | succ n =>
          obtain ⟨a, cap, hu, _⟩ := h
          rw [hu]; rfl
    rw [hc]
    refine ⟨rfl, fun j l' v h1 h2 => ?_⟩
    cases j with
    | zero =>
      simp [cellsA] at h1 h2
      subst h1; subst h2
      exact h
    | succ j => simp [cellsA] at h1

end
end Go.VM
namespace Go.VM
open Go.RowKit
section
variable {cx : Cx} {P : Program}

/-! ### Functions that are handed a pointer to a box with the rows that it bears -/
end
end Go.VM

namespace Go.VM
open Go

/-! ### Pure arithmetic -/
theorem dt {c : Prop} [Decidable c] (h : c) : decide c = true := decide_eq_true h
theorem df {c : Prop} [Decidable c] (h : ¬ c) : decide c = false := decide_eq_false h
theorem bneT {α : Type} [BEq α] [LawfulBEq α] {a b : α} (h : ¬ a = b) : (a != b) = true := by simpa using h
theorem bneF {α : Type} [BEq α] [LawfulBEq α] {a b : α} (h : a = b) : (a != b) = false := by simpa using h
theorem wi {x : Int} (h1 : -9223372036854775808 ≤ x) (h2 : x ≤ 9223372036854775807) : IntKind.wrap .i64 x = x := by
  unfold IntKind.wrap; simp [IntKind.bits, IntKind.signed]; omega
theorem wu {x : Int} (h1 : 0 ≤ x) (h2 : x ≤ 18446744073709551615) : IntKind.wrap .u64 x = x := by
  unfold IntKind.wrap; simp [IntKind.bits, IntKind.signed]; omega
theorem wb {x : Int} (h1 : 0 ≤ x) (h2 : x ≤ 255) : IntKind.wrap .u8 x = x := by
  unfold IntKind.wrap; simp [IntKind.bits, IntKind.signed]; omega
def okB (a : List Int) : Bool := a.all fun x => decide (0 ≤ x) && decide (x ≤ 255)
theorem okB_mem {a : List Int} (h : okB a = true) {x : Int} (hx : x ∈ a) : 0 ≤ x ∧ x ≤ 255 := by
  unfold okB at h
  rw [List.all_eq_true] at h
  simpa using h x hx
/-! ### Bytes as strings -/
end Go.VM

namespace Go.VM
open Go Go.RowKit

theorem args_nil {cx : Cx} {w : World} {A0 : Nat → Prop} : ArgAs cx w A0 [] [] := ⟨rfl, fun j a u h => by simp at h⟩
theorem args_cons {cx : Cx} {w : World} {A0 : Nat → Prop} {a : A cx.ty} {l : List (A cx.ty)} {u : Value} {us : List Value} (h : ArgA cx w A0 a u) (hs : ArgAs cx w A0 l us) : ArgAs cx w A0 (a :: l) (u :: us) :=
  ⟨by simp [hs.1], fun j b v h1 h2 => by
    cases j with
    | zero =>
      simp only [List.getElem?_cons_zero, Option.some.injEq] at h1 h2
      subst h1; subst h2
      exact h
    | succ j => exact hs.2 j b v (by simpa using h1) (by simpa using h2)⟩

end Go.VM
