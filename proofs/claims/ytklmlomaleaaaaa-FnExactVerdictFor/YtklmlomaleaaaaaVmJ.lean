/- A part of the proof of FnExactVerdictFor: VmJ, VmK, VmL, VmM, VmN, VmO, VmP, VmPu, VmTop. -/
import Derived.Test.YtklmlomaleaaaaaVmB
import Derived.Below
set_option linter.unusedVariables false
namespace Go.VM
open Go.RowKit

/-! ### Arguments, told and taken -/
structure LArg (ty : Nat → Type) (X : Type) where
  enc : X → L ty
  dec : L ty → Option X
  inv : ∀ a x, dec a = some x → a = enc x

structure Arg (ty : Nat → Type) (X : Type) where
  enc : X → A ty
  dec : A ty → Option X
  inv : ∀ a x, dec a = some x → a = enc x

def LArg.int {ty : Nat → Type} (k : IntKind) : LArg ty Int :=
  { enc := fun x => lv (.int k x), dec := fun a => match a with | some (.inl v) => decI k v | _ => none,
    inv := fun a x h => by
      split at h
      · rename_i v
        unfold decI at h
        split at h
        · split at h
          · rename_i hk
            subst hk
            cases h
            rfl
          · simp at h
        · simp at h
      · simp at h }

def LArg.bool {ty : Nat → Type} : LArg ty Bool :=
  { enc := fun x => lv (.bool x), dec := fun a => match a with | some (.inl (.bool x)) => some x | _ => none,
    inv := fun a x h => by
      split at h
      · cases h; rfl
      · simp at h }

def LArg.row {ty : Nat → Type} (e : Nat) : LArg ty (List (ty e)) :=
  { enc := fun x => ls (ro e x), dec := fun a => match a with | some (.inr s) => if s.own == 0 && s.nm == 0 && !s.o then rowOf e s else none | _ => none,
    inv := fun a x h => by
      split at h
      · rename_i s
        split at h
        · rename_i hc
          simp only [Bool.and_eq_true, beq_iff_eq, Bool.not_eq_true'] at hc
          unfold rowOf at h
          split at h
          · rename_i he
            obtain ⟨own, nm, e2, o2, xs⟩ := s
            simp only at he hc
            obtain ⟨⟨rfl, rfl⟩, rfl⟩ := hc
            subst he
            cases h
            rfl
          · simp at h
        · simp at h
      · simp at h }

def Arg.leaf {ty : Nat → Type} {X : Type} (a : LArg ty X) : Arg ty X :=
  { enc := fun x => .inl (a.enc x), dec := fun l => match l with | .inl l => a.dec l | _ => none,
    inv := fun l x h => by
      split at h
      · rename_i l
        rw [a.inv l x h]
      · simp at h }

abbrev Arg.int {ty : Nat → Type} (k : IntKind) : Arg ty Int := Arg.leaf (LArg.int k)
abbrev Arg.bool {ty : Nat → Type} : Arg ty Bool := Arg.leaf LArg.bool
abbrev Arg.row {ty : Nat → Type} (e : Nat) : Arg ty (List (ty e)) := Arg.leaf (LArg.row e)

/-! ### Typed contracts: what comes back stands open in its form -/
structure SArg (ty : Nat → Type) (X : Type) where
  enc : X → List (L ty)
  dec : List (L ty) → Option X
  inv : ∀ a x, dec a = some x → a = enc x

def SArg.one {ty : Nat → Type} {X : Type} (a : LArg ty X) : SArg ty X :=
  { enc := fun x => [a.enc x], dec := fun l => match l with | [p] => a.dec p | _ => none,
    inv := fun l x h => by
      split at h
      · rename_i p; rw [a.inv p x h]
      · simp at h }

def SArg.cons {ty : Nat → Type} {X Y : Type} (a : LArg ty X) (s : SArg ty Y) : SArg ty (X × Y) :=
  { enc := fun x => a.enc x.1 :: s.enc x.2, dec := fun l => match l with | p :: q => (a.dec p).bind fun x => (s.dec q).map fun y => (x, y) | _ => none,
    inv := fun l x h => by
      split at h
      · rename_i p q
        cases h1 : a.dec p with
        | none => rw [h1] at h; simp at h
        | some u =>
          cases h2 : s.dec q with
          | none => rw [h1, h2] at h; simp at h
          | some v =>
            rw [h1, h2] at h
            simp only [Option.bind_some, Option.map_some, Option.some.injEq] at h
            subst h
            rw [a.inv p u h1, s.inv q v h2]
      · simp at h }

def Arg.agg {ty : Nat → Type} {X : Type} (s : SArg ty X) : Arg ty X :=
  { enc := fun x => .inr (s.enc x), dec := fun l => match l with | .inr l => s.dec l | _ => none,
    inv := fun l x h => by
      split at h
      · rename_i l; rw [s.inv l x h]
      · simp at h }

/-- A list of arguments. -/
structure Args (ty : Nat → Type) (X : Type) where
  enc : X → List (A ty)
  dec : List (A ty) → Option X
  inv : ∀ a x, dec a = some x → a = enc x

def Args.nil {ty : Nat → Type} : Args ty Unit :=
  { enc := fun _ => [], dec := fun l => match l with | [] => some () | _ => none,
    inv := fun l x h => by
      split at h
      · rfl
      · simp at h }

def Args.one {ty : Nat → Type} {X : Type} (a : Arg ty X) : Args ty X :=
  { enc := fun x => [a.enc x], dec := fun l => match l with | [p] => a.dec p | _ => none,
    inv := fun l x h => by
      split at h
      · rename_i p; rw [a.inv p x h]
      · simp at h }

def Args.cons {ty : Nat → Type} {X Y : Type} (a : Arg ty X) (s : Args ty Y) : Args ty (X × Y) :=
  { enc := fun x => a.enc x.1 :: s.enc x.2, dec := fun l => match l with | p :: q => (a.dec p).bind fun x => (s.dec q).map fun y => (x, y) | _ => none,
    inv := fun l x h => by
      split at h
      · rename_i p q
        cases h1 : a.dec p with
        | none => rw [h1] at h; simp at h
        | some u =>
          cases h2 : s.dec q with
          | none => rw [h1, h2] at h; simp at h
          | some v =>
            rw [h1, h2] at h
            simp only [Option.bind_some, Option.map_some, Option.some.injEq] at h
            subst h
            rw [a.inv p u h1, s.inv q v h2]
      · simp at h }

def fnT {cx : Cx} {X R : Type} (a : Args cx.ty X) (enc : R → V cx.ty) (d : R) (m : X → Option R) : List (A cx.ty) → Option (Bool × V cx.ty) :=
  fun l => (a.dec l).map fun x => ((m x).isSome, enc ((m x).getD d))

theorem fnT_inv {cx : Cx} {X R : Type} {a : Args cx.ty X} {enc : R → V cx.ty} {d : R} {m : X → Option R} {l : List (A cx.ty)} {r : V cx.ty} (h : fnT a enc d m l = some (true, r)) : ∃ x t, l = a.enc x ∧ m x = some t ∧ r = enc t := by
  unfold fnT at h
  cases h1 : a.dec l with
  | none => rw [h1] at h; simp at h
  | some x =>
    rw [h1] at h
    simp only [Option.map_some, Option.some.injEq, Prod.mk.injEq] at h
    cases h2 : m x with
    | none => rw [h2] at h; simp at h
    | some t =>
      rw [h2] at h
      exact ⟨x, t, a.inv l x h1, h2, h.2.symm⟩

theorem sat_t {P : Program} {cx : Cx} (ok : cx.Ok) (hZ : cx.POk P) (hm : P.follows .mixedOrders = true) {f : FuncId} {fn : Func} (hf : P.funcs[f]? = some fn) {X R : Type} (a : Args cx.ty X) (enc : R → V cx.ty) (d : R) (m : X → Option R)
    (ev : Env cx) (hK : KOk P cx ev.Kc) (hKw : KwOk P cx ev.Kw) (g : Nat → X → Option R) (he : ∀ L x, evF P ev (loopN L) fn (a.enc x) = (g L x).map enc) (hg : ∀ x t, m x = some t → ∃ L, g L x = some t) (hs : ∀ t, noRoV (enc t) = true ∨ noOwnV (enc t) = true) :
    Sat P cx f (fnT a enc d m) := by
  refine sat_of_ev ok hZ hm hf fun as r h => ?_
  obtain ⟨x, t, rfl, hx, rfl⟩ := fnT_inv h
  obtain ⟨L, hL⟩ := hg x t hx
  exact ⟨ev, L, hK, hKw, by rw [he, hL]; rfl, hs t⟩

def kcOf {cx : Cx} : List (FuncId × (List (A cx.ty) → Option (Bool × V cx.ty))) → Kt cx
  | [], _ => none
  | (f, F) :: r, g => if g = f then some F else kcOf r g

theorem kok_nil {P : Program} {cx : Cx} : KOk P cx (kcOf []) := fun _ _ h => by simp [kcOf] at h
theorem kok_cons {P : Program} {cx : Cx} {f : FuncId} {F : List (A cx.ty) → Option (Bool × V cx.ty)} {r : List (FuncId × (List (A cx.ty) → Option (Bool × V cx.ty)))} (h : Sat P cx f F) (hr : KOk P cx (kcOf r)) : KOk P cx (kcOf ((f, F) :: r)) := by
  intro g G hG
  unfold kcOf at hG
  split at hG
  · rename_i he
    subst he
    cases hG
    exact h
  · exact hr g G hG

theorem map_bif {α β : Type} (f : α → β) (c : Bool) (a b : Option α) : (bif c then a else b).map f = bif c then a.map f else b.map f := by cases c <;> rfl
end Go.VM

namespace Go.VM
open Go.RowKit
/-- A piece of a function's code. -/
def codeAt : List Nat → Code → Code
  | [], c => c
  | i :: p, c => match c with
    | .seq x y => codeAt p (if i = 0 then x else y)
    | .cond _ x y => codeAt p (if i = 0 then x else y)
    | .block _ c => codeAt p c
    | .loop c => codeAt p c
    | _ => .skip
def bodyAt (fn : Func) (p : List Nat) : Code := match fn.body with | some c => codeAt p c | none => .skip
section
variable {cx : Cx} {β : Type}
/-- What follows behind a piece of code. -/
def contC (P : Program) (ev : Env cx) (lp : Lp cx β) : List Nat → Nat → Code → Kn cx β → Kn cx β
  | [], _, _, k => k
  | i :: p, bid, c, k => match c with
    | .seq x y => if i = 0 then contC P ev lp p bid x (seqK (evC P ev lp bid y) k) else contC P ev lp p bid y k
    | .cond _ x y => contC P ev lp p bid (if i = 0 then x else y) k
    | .block id c => contC P ev lp p id c (blkK id (ev.xv id) k)
    | .loop c => contC P ev lp p bid c k
    | _ => k

/-- The body of the loop in block 'id', at a place. -/
def bodyL (P : Program) (ev : Env cx) (L : Nat) (fn : Func) (id : Nat) (p : List Nat) : St cx.ty → Kn cx β → Option β := evC P ev (loopN L) id (bodyAt fn p)

/-- Rounds of a loop, from a plain state on: 'K': what follows where the block is left. -/
def headF (P : Program) (ev : Env cx) (L : Nat) (fn : Func) (id : Nat) (p : List Nat) (K : Kn cx β) (n : Nat) (st : St cx.ty) : Option β :=
  loopC (bodyL P ev L fn id p) (canon (ev.lv id)) (blkK id (ev.xv id) K) n st

def roundF (P : Program) (ev : Env cx) (L : Nat) (fn : Func) (id : Nat) (p : List Nat) (K : Kn cx β) (g : St cx.ty → Option β) (st : St cx.ty) : Option β :=
  bodyL P ev L fn id p st (seqK (fun st' _ => g (canon (ev.lv id) st')) (blkK id (ev.xv id) K))

theorem headF_round (P : Program) (ev : Env cx) (L : Nat) (fn : Func) (id : Nat) (p : List Nat) (K : Kn cx β) (n : Nat) (st : St cx.ty) :
    headF P ev L fn id p K (n + 1) st = roundF P ev L fn id p K (headF P ev L fn id p K n) st := rfl

/-- What follows a block at a place of the function: 'fin': what is handed back. -/
def topK (P : Program) (ev : Env cx) (L : Nat) (fn : Func) (p : List Nat) (fin : St cx.ty → Option β) : Kn cx β := contC P ev (loopN L) p 0 (bodyAt fn []) { n := fin, x := fun _ _ => none, r := fin }

def outK (fin : St cx.ty → Option β) (k : St cx.ty → Option β) (x : Nat → St cx.ty → Option β) : Kn cx β := { n := k, x := x, r := fin }
end
end Go.VM

namespace Go.VM
open Go.RowKit
section
variable {cx : Cx} {P : Program}

/-! ### Functions that write into what they are handed -/
/-! ### Typed -/
def LArg.own {ty : Nat → Type} (e : Nat) : LArg ty (List (ty e)) :=
  { enc := fun x => ls { own := 2, nm := 0, e := e, o := true, xs := x }, dec := fun a => match a with | some (.inr s) => if s.own == 2 && s.nm == 0 && s.o then rowOf e s else none | _ => none,
    inv := fun a x h => by
      split at h
      · rename_i s
        split at h
        · rename_i hc
          simp only [Bool.and_eq_true, beq_iff_eq] at hc
          unfold rowOf at h
          split at h
          · rename_i he
            obtain ⟨own, nm, e2, o2, xs⟩ := s
            simp only at he hc
            obtain ⟨⟨rfl, rfl⟩, rfl⟩ := hc
            subst he
            cases h
            rfl
          · simp at h
        · simp at h
      · simp at h }

def kwOf {cx : Cx} : List (FuncId × WFn cx) → Kwt cx
  | [], _ => none
  | (f, F) :: r, g => if g = f then some F else kwOf r g

theorem kwok_nil {P : Program} {cx : Cx} : KwOk P cx (kwOf []) := fun _ _ h => by simp [kwOf] at h
/-! ### Functions whose rows are handed back to be read alone -/
/-- A row of our own whose elements are read, read. -/
theorem HalfL.rep (ok : cx.Ok) {w : World} {S S' : Nat → Prop} {s : SlD cx.ty} {u : Value} {fp : List Nat} (hS : ∀ b, S b → S' b) (hf : ∀ b ∈ fp, S' b) (h : HalfL cx w S s u fp) : ∃ n, RepL cx w S' n (some (.inr (ro s.e s.xs))) u := by
  obtain ⟨hfp, us, n, hrow, hl1, h⟩ := h
  refine ⟨n + 1, ?_⟩
  rcases hrow.2 with ⟨hu, h0⟩ | ⟨g, cap, cur, hu, hg, hh, hn, hm, hc, ht⟩
  · exact ⟨none, 0, by rw [hu, show (ro s.e s.xs).xs.length = s.xs.length from rfl, h0], by rw [show (ro s.e s.xs).xs.length = s.xs.length from rfl]; omega, .inl (List.eq_nil_of_length_eq_zero h0)⟩
  · refine ⟨some ⟨g, 0, none⟩, cap, hu, hn, .inr ⟨g, 0, rfl, hf g (by rw [hfp, hu]; simp [Value.ownBlock]), fun i x hx j l hl => ?_⟩⟩
    have hj : j < cx.size s.e := by rw [← ok.len s.e false x]; exact (List.getElem?_eq_some_iff.1 hl).1
    have hl' : (cx.enc s.e false x)[j]? = some l := hl
    rw [← flat_get (cx.enc s.e false) (cx.size s.e) (fun x => ok.len s.e false x) s.xs i x hx j hj] at hl'
    have hlt : i * cx.size s.e + j < us.length := by rw [hl1]; exact (List.getElem?_eq_some_iff.1 hl').1
    have hc1 := List.getElem?_eq_getElem hlt
    refine ⟨us[i * cx.size s.e + j], ?_, RepL_mono cx (fun _ _ => rfl) hS _ _ _ (h _ _ _ hl' hc1)⟩
    have := hrow.cells (g := g) (by rw [hu]; rfl) _ _ hc1
    show w.cell? ⟨g, 0 + (i * cx.size s.e + j), none⟩ = _
    simpa [Addr.add_lit] using this

end
end Go.VM

namespace Go.VM
open Go.RowKit
section
variable {cx : Cx} {P : Program}

/-! ### Functions that are handed a pointer to a box, or hand one back -/
structure OSf (c : Ct cx.ty) (seen seen' : List Nat) (fp : List Nat) : Prop where
  src : ∀ b ∈ fp, ∃ tk ∈ c.T, tk.nm ∈ seen' ∧ tk.nm ∉ seen ∧ b ∈ vb tk.u
  nd : fp.Nodup
  grow : ∀ n ∈ seen, n ∈ seen'
  row : ∀ b ∈ fp, ∀ tk ∈ c.T, b ∈ vb tk.u → ∃ s, tk.c = .inl s

theorem OSf.nil (c : Ct cx.ty) (seen : List Nat) : OSf c seen seen [] := ⟨by simp, by simp, fun _ h => h, by simp⟩

theorem OSf.app {c : Ct cx.ty} (h : Wf cx c) {s0 s1 s2 f1 f2 : List Nat} (h1 : OSf c s0 s1 f1) (h2 : OSf c s1 s2 f2) : OSf c s0 s2 (f1 ++ f2) := by
  refine ⟨fun b hb => ?_, ?_, fun n hn => h2.grow n (h1.grow n hn), fun b hb tk ht hv => (List.mem_append.1 hb).elim (fun hb => h1.row b hb tk ht hv) (fun hb => h2.row b hb tk ht hv)⟩
  · rcases List.mem_append.1 hb with hb | hb
    · obtain ⟨tk, k1, k2, k3, k4⟩ := h1.src b hb
      exact ⟨tk, k1, h2.grow _ k2, k3, k4⟩
    · obtain ⟨tk, k1, k2, k3, k4⟩ := h2.src b hb
      exact ⟨tk, k1, k2, fun hs => k3 (h1.grow _ hs), k4⟩
  · rw [List.nodup_append]
    refine ⟨h1.nd, h2.nd, fun a ha b hb he => ?_⟩
    subst he
    obtain ⟨t1, k1, k2, k3, k4⟩ := h1.src a ha
    obtain ⟨t2, m1, m2, m3, m4⟩ := h2.src a hb
    exact disjoint_toks h k1 m1 (fun e => m3 (e ▸ k2)) (List.mem_append.2 (.inl k4)) (List.mem_append.2 (.inl m4))

/-- A name for a thing that is met again and again. -/
def bnd {α β : Type} (x : α) (K : α → Option β) : Option β := K x
theorem map_bnd {α β γ : Type} (x : α) (K : α → Option β) (f : β → γ) : (bnd x K).map f = bnd x (fun t => (K t).map f) := rfl
/-- A call whose end is tested. -/
def tst {α β : Type} (o : Option α) (d : α) (K : α → Option β) : Option β := bif o.isSome then K (o.getD d) else none
theorem map_tst {α β γ : Type} (o : Option α) (d : α) (K : α → Option β) (f : β → γ) : (tst o d K).map f = tst o d (fun t => (K t).map f) := by
  cases o <;> rfl
theorem tst_some {α β : Type} (v : α) (d : α) (K : α → Option β) : tst (some v) d K = K v := rfl

end
end Go.VM

namespace Go.VM
open Go.RowKit
section
variable {cx : Cx} {P : Program}

/-! ### The body of a function that may throw -/
end
end Go.VM

namespace Go.VM
open Go.RowKit
section
variable {cx : Cx} {P : Program}

/-! ### Bodies that never write their parameters: what was lent is remembered, in variables too that only hold a parameter -/
def boxOf (n lo : Nat) (o : Oper) : Option (TypeId × Nat × Nat) :=
  match o.op, o.dst, o.guard with
  | .box t (.tmp p), some d, none => if p < n ∧ d < lo then some (t, p, d) else none
  | _, _, _ => none
theorem boxOf_eq {n lo : Nat} {o : Oper} {t p d : Nat} (h : boxOf n lo o = some (t, p, d)) : o.op = .box t (.tmp p) ∧ o.dst = some d ∧ o.guard = none ∧ p < n ∧ d < lo := by
  unfold boxOf at h
  split at h
  · rename_i h1 h2 h3
    split at h
    · rename_i hc
      simp only [Option.some.injEq, Prod.mk.injEq] at h
      obtain ⟨rfl, rfl, rfl⟩ := h
      exact ⟨h1, h2, h3, hc.1, hc.2⟩
    · simp at h
  · simp at h
def cellsA {ty : Nat → Type} : A ty → List (L ty)
  | .inl l => [l]
  | .inr l => l
def leafV {ty : Nat → Type} : A ty → Bool
  | .inl l => leafOk l && !isPt l
  | .inr _ => true
def preB (cx : Cx) (args : List (A cx.ty)) (lo : Nat) : List Oper → Nat → St cx.ty → St cx.ty × List Oper
  | [], m, st => ({ st with lo := m }, [])
  | o :: r, m, st => match boxOf args.length lo o with
    | some (t, p, d) => if m ≤ d then
        match args[p]? with
        | some a => if leafV a then
            match cx.dec t (cellsA a) with
            | some x => preB cx args lo r (d + 1) { st with slots := st.slots.set d (psV (.inr (ro t [x]))), ps := st.ps ++ [(d, .inr (ro t [x]))], pend := none }
            | none => ({ st with lo := m }, o :: r)
          else ({ st with lo := m }, o :: r)
        | none => ({ st with lo := m }, o :: r)
      else ({ st with lo := m }, o :: r)
    | none => ({ st with lo := m }, o :: r)

def stL (fn : Func) (args : List (A cx.ty)) : St cx.ty := { slots := args.map argV ++ List.replicate (fn.ntmps - args.length) junk, D := [], F := [], ctr := 1, lo := 2 * args.length, ps := args.zipIdx.map fun p => (p.2, .inl p.1) }
def evFL (P : Program) (ev : Env cx) (lp : Lp cx (V cx.ty)) (fn : Func) (args : List (A cx.ty)) : Option (V cx.ty) :=
  match fn.body with
  | some (.seq (.region _ ops false) rest) =>
    (fun q : St cx.ty × List Oper => evSeq P ev.Kc ev.Kw (fun _ _ => none) ops (fun st => evC P ev lp 0 rest st (finK P fn)) q.2 q.1)
      (preB cx args (2 * args.length) ops.toList args.length (stL fn args))
  | _ => none

/-- The table of such a start. -/
def ctL (w : World) (S : Nat → Prop) (K : List (Nat × Value)) : Ct cx.ty := { T := [], D := [], F := [], w := w, S := S, N := fun b => w.heap.size ≤ b, K := K }

theorem ArgA.cells {w : World} {S : Nat → Prop} {a : A cx.ty} {u : Value} (h : ArgA cx w S a u) (hl : leafV a = true) : u.cells.toList.length = (cellsA a).length ∧ ∀ (j : Nat) l v, (cellsA a)[j]? = some l → u.cells.toList[j]? = some v → ArgL cx w S l v := by
  match a, h with
  | .inr l, ⟨us, hu, hlen, hv⟩ =>
    subst hu
    exact ⟨hlen, hv⟩
  | .inl l, h =>
    have hl : leafOk l = true ∧ isPt l = false := by simpa [leafV] using hl
    obtain ⟨hl, hnp⟩ := hl
    have h : ArgL cx w S l u := by
      rwa [ArgA.atLeaf hnp] at h
    have hc : u.cells = #[u] := by
      match l, h, hl with
      | some (.inl v), h, ho =>
        have h : u = v := h
        subst h
        cases u <;> first | rfl | (simp [leafOk] at ho)
      | some (.inr s), ⟨_, n, h⟩, _ =>
        cases n with
        | zero => simp [RepL] at h
        | succ n =>
          obtain ⟨a, cap, hu, _⟩ := h
          rw [hu]; rfl
    rw [hc]
    refine ⟨rfl, fun j l' v h1 h2 => ?_⟩
    cases j with
    | zero =>
      simp [cellsA] at h1 h2
      subst h1; subst h2
      exact h
    | succ j => simp [cellsA] at h1

/-- One variable that holds a parameter. -/
theorem preB_step (ok : cx.Ok) {w : World} {S : Nat → Prop} {K : List (Nat × Value)} {st : St cx.ty} {a : Act} (h : RS cx (ctL w S K) st a) {t d : Nat} (hlo : d < st.lo) (hK : ∀ q u, (q, u) ∈ K → q < d) {A : A cx.ty} (hl : leafV A = true) {u : Value} (hA : ArgA cx w S A u)
    {x : cx.ty t} (hx : cx.dec t (cellsA A) = some x) (hlen : d < st.slots.length) :
    RS cx (ctL (w.alloc (.cells u.cells t)) (fun b => S b ∨ b = w.heap.size) (K ++ [(d, .pointer (some ⟨w.heap.size, 0, none⟩))])) { st with slots := st.slots.set d (psV (.inr (ro t [x]))), ps := st.ps ++ [(d, .inr (ro t [x]))], pend := none } (a.put (some d) (.pointer (some ⟨w.heap.size, 0, none⟩))) := by
  obtain ⟨c1, c2⟩ := hA.cells hl
  have hsz : (w.alloc (.cells u.cells t)).heap.size = w.heap.size + 1 := by simp
  have hold : ∀ b, b < w.heap.size → (w.alloc (.cells u.cells t)).heap[b]? = w.heap[b]? := fun b hb => (below_alloc w _).block b hb
  have hS : ∀ b, S b → b < w.heap.size := fun b hb => by
    rcases Nat.lt_or_ge b w.heap.size with h1 | h1
    · exact h1
    · exact absurd h1 (h.wf.start b hb)
  have hnew : (w.alloc (.cells u.cells t)).heap[w.heap.size]? = some (.cells u.cells t (0, 0)) := heap_alloc_new w _
  have hpt : PtS cx (w.alloc (.cells u.cells t)) (fun b => S b ∨ b = w.heap.size) (ro t [x]) (.pointer (some ⟨w.heap.size, 0, none⟩)) :=
    ptS_of_cells ok (.inr rfl) hnew c1 (fun j l v h1 h2 => ArgL.mono (fun b hb => .inl hb) (fun b hb => hold b (hS b hb)) (c2 j l v h1 h2)) hx
  have hput : ∀ q, q ≠ d → (a.put (some d) (.pointer (some ⟨w.heap.size, 0, none⟩))).tmps.getD q undef = a.tmps.getD q undef := fun q hq => by
    simp [Act.put, Array.getD_eq_getD_getElem?, Ne.symm hq]
  have hputd : (a.put (some d) (.pointer (some ⟨w.heap.size, 0, none⟩))).tmps.getD d undef = .pointer (some ⟨w.heap.size, 0, none⟩) := by
    have : d < a.tmps.size := by rw [h.size]; exact hlen
    simp [Act.put, Array.getD_eq_getD_getElem?, this]
  have hpres : Pres cx (ctL w S K) (ctL (w.alloc (.cells u.cells t)) (fun b => S b ∨ b = w.heap.size) (K ++ [(d, .pointer (some ⟨w.heap.size, 0, none⟩))])) := by
    refine ⟨fun b hb => ⟨⟨?_, ?_, by simp [ctL]⟩, hold b hb.1⟩, fun n h => h, fun n h => h, fun tk h => by simp [ctL] at h, fun tk h => by simp [ctL] at h, fun tk h => by simp [ctL] at h⟩
    · show b < (w.alloc _).heap.size; rw [hsz]; exact Nat.lt_succ_of_lt hb.1
    · rcases hb.2.1 with k | k
      · exact .inl (.inl k)
      · exact absurd hb.1 (Nat.not_lt_of_le k)
  refine ⟨⟨by simp [ctL], by simp [ctL], by simp [ctL], by simp [ctL], fun b hb => ?_, by simp [ctL], fun b hb => hb⟩, ?_, fun q => ?_, by rw [put_defers]; exact h.defers, h.dead, h.frz, fun n hn => ?_, fun q v hq => ?_, fun q v hq => ?_, PdOK.none⟩
  · show ¬ (w.alloc _).heap.size ≤ b
    rw [hsz]
    rcases hb with hb | hb
    · have := hS b hb; omega
    · omega
  · show (a.put _ _).tmps.size = (st.slots.set d _).length
    rw [List.length_set, ← h.size]
    simp [Act.put]
  · show RepV cx _ ((st.slots.set d _).getD q junk) _
    by_cases hq : q = d
    · subst hq
      rw [hputd]
      have e : (st.slots.set q (psV (.inr (ro t [x])))).getD q junk = psV (.inr (ro t [x])) := by simp [List.getD, hlen]
      rw [e]
      have hwf : Wf cx (ctL (cx := cx) (w.alloc (.cells u.cells t)) (fun b => S b ∨ b = w.heap.size) (K ++ [(q, .pointer (some ⟨w.heap.size, 0, none⟩))])) := ⟨by simp [ctL], by simp [ctL], by simp [ctL], by simp [ctL], fun b hb => by
        show ¬ (w.alloc _).heap.size ≤ b
        rw [hsz]
        rcases hb with hb | hb
        · have := hS b hb; omega
        · omega, by simp [ctL], fun b hb => hb⟩
      exact PsO.repS (a := .inr (ro t [x])) hwf hpt
    · rw [hput q hq]
      have e : (st.slots.set d (psV (.inr (ro t [x])))).getD q junk = st.slots.getD q junk := by simp [List.getD, List.getElem?_set_ne (Ne.symm hq)]
      rw [e]
      exact RepV.pres cx hpres (h.rep q)
  · exact h.names n (by rcases hn with ⟨tk, ht, _⟩ | hn | hn <;> simp [ctL] at *)
  · rcases List.mem_append.1 hq with hq | hq
    · have := hK q v hq
      exact ⟨(h.kp q v hq).1, (hput q (by omega)).trans (h.kp q v hq).2⟩
    · simp only [List.mem_singleton, Prod.mk.injEq] at hq
      obtain ⟨rfl, rfl⟩ := hq
      exact ⟨hlo, hputd⟩
  · rcases List.mem_append.1 hq with hq | hq
    · obtain ⟨v', k1, k2⟩ := h.pr q v hq
      exact ⟨v', List.mem_append.2 (.inl k1), PsO.mono (fun b hb => .inl hb) (fun b hb => hold b (hS b hb)) k2⟩
    · simp only [List.mem_singleton, Prod.mk.injEq] at hq
      obtain ⟨rfl, rfl⟩ := hq
      exact ⟨_, List.mem_append.2 (.inr (List.mem_singleton.2 rfl)), hpt⟩

theorem preB_ok (ok : cx.Ok) {β : Type} {ops : Array Oper} {args : List (A cx.ty)} {us : List Value} {lo : Nat} {Q : Exit → Act → World → Prop} {ev : List Oper → St cx.ty → Option β} {r : β} {w0 : World} (hlen : us.length = args.length)
    (H : ∀ (w : World) (S : Nat → Prop) (K : List (Nat × Value)) (st : St cx.ty) (a : Act) (l : List Oper) (i : Nat), (∀ j, l[j]? = ops[i + j]?) → RS cx (ctL w S K) st a → Below w0.heap.size w0 w → ev l st = some r → wpOps P ops Q (List.range' i l.length) a w) :
    ∀ (l : List Oper) (i m : Nat) (w : World) (S : Nat → Prop) (K : List (Nat × Value)) (st : St cx.ty) (a : Act), (∀ j, l[j]? = ops[i + j]?) → RS cx (ctL w S K) st a → Below w0.heap.size w0 w → w0.heap.size ≤ w.heap.size → args.length ≤ m → (∀ q u, (q, u) ∈ K → q < m) → ArgAs cx w S args us → (∀ p, p < args.length → a.tmps.getD p undef = us.getD p undef) →
      st.lo = lo → lo ≤ st.slots.length → ev (preB cx args lo l m st).2 (preB cx args lo l m st).1 = some r → wpOps P ops Q (List.range' i l.length) a w
  | [], i, m, w, S, K, st, a, hl, h, hb, _, _, hK, _, _, _, _, he => H w S K { st with lo := m } a [] i hl ⟨h.wf, h.size, h.rep, h.defers, h.dead, h.frz, h.names, fun p u hp => ⟨hK p u hp, (h.kp p u hp).2⟩, h.pr, h.pd⟩ hb he
  | o :: rest, i, m, w, S, K, st, a, hl, h, hb, hsz, hm, hK, hA, hT, hlo, hlos, he => by
    have stop : ev (o :: rest) { st with lo := m } = some r → wpOps P ops Q (List.range' i (o :: rest).length) a w := fun he => H w S K { st with lo := m } a (o :: rest) i hl ⟨h.wf, h.size, h.rep, h.defers, h.dead, h.frz, h.names, fun p u hp => ⟨hK p u hp, (h.kp p u hp).2⟩, h.pr, h.pd⟩ hb he
    unfold preB at he
    split at he
    · rename_i t p d hbx
      obtain ⟨e1, e2, e3, e4, e5⟩ := boxOf_eq hbx
      split at he
      · rename_i hmd
        split at he
        · rename_i A0 hA0
          split at he
          · rename_i hlf
            split at he
            · rename_i x hx
              have h0 : ops[i]? = some o := by simpa using (hl 0).symm
              have hl' : ∀ j, rest[j]? = ops[i + 1 + j]? := fun j => by have := hl (j + 1); simpa [Nat.add_assoc, Nat.add_comm 1 j] using this
              have hpu : us[p]? = some (us.getD p undef) := by
                have : p < us.length := by omega
                simp [List.getD, this]
              have hAp : ArgA cx w S A0 (us.getD p undef) := hA.2 p _ _ hA0 hpu
              have hstep := preB_step (t := t) ok h (by rw [hlo]; exact e5) (fun q u hq => by have := hK q u hq; omega) hlf hAp hx (by omega)
              have hS : ∀ b, S b → b < w.heap.size := fun b hb => by
                rcases Nat.lt_or_ge b w.heap.size with h1 | h1
                · exact h1
                · exact absurd h1 (h.wf.start b hb)
              simp only [List.length_cons, List.range'_succ]
              rw [wpOps_cons]
              unfold wpOp
              simp only [h0]
              have hwant : Region.wanted o (yielded ops a.tmps) = true := by simp [Region.wanted, e3]
              rw [if_pos hwant]
              refine .inl (Oper.wp_of_runs ?_)
              have hrun : (execOp a.eval o).run P w = .ok (.value (.pointer (some ⟨w.heap.size, 0, none⟩))) (w.alloc (.cells (a.eval (.tmp p)).cells t)) := by
                unfold execOp
                simp [e1, Instr.box, newVar, newRow]
              unfold Runs
              rw [hrun]
              have hev : a.eval (.tmp p) = us.getD p undef := hT p e4
              rw [e2, hev]
              refine preB_ok ok hlen H rest (i + 1) (d + 1) _ _ _ _ _ hl' hstep (hb.alloc hsz _) (by simp; omega) (by omega) (fun q u hq => ?_) ⟨hA.1, fun j A' u' k1 k2 => ?_⟩ (fun q hq => ?_) hlo (by show lo ≤ (st.slots.set d _).length; rw [List.length_set]; exact hlos) he
              · rcases List.mem_append.1 hq with hq | hq
                · have := hK q u hq; omega
                · simp only [List.mem_singleton, Prod.mk.injEq] at hq
                  omega
              · have := hA.2 j A' u' k1 k2
                exact PsO.mono (a := .inl A') (fun b hb => .inl hb) (fun b hb => (below_alloc w _).block b (hS b hb)) this
              · have hqd : q ≠ d := by omega
                rw [← hT q hq]
                simp [Act.put, Array.getD_eq_getD_getElem?, Ne.symm hqd]
            · exact stop he
          · exact stop he
        · exact stop he
      · exact stop he
    · exact stop he

theorem sat_of_evL (ok : cx.Ok) (hZ : cx.POk P) (hm : P.follows .mixedOrders = true) {f : FuncId} {fn : Func} (hf : P.funcs[f]? = some fn) {F : List (A cx.ty) → Option (Bool × V cx.ty)}
    (h : ∀ as r, F as = some (true, r) → ∃ (ev : Env cx) (L : Nat), KOk P cx ev.Kc ∧ KwOk P cx ev.Kw ∧ evFL P ev (loopN L) fn as = some r ∧ (noRoV r = true ∨ noOwnV r = true) ∧ (∃ v, r = vv v) ∧ 2 * as.length ≤ fn.ntmps) : Sat P cx f F := by
  intro w A0 l us r hA hargs hF
  obtain ⟨ev, L, hK, hKw, hev, hmix, ⟨vr, hvr⟩, hnt⟩ := h l r hF
  unfold evFL at hev
  split at hev
  · rename_i id ops rest hcode
    let K0 : List (Nat × Value) := us.zipIdx.map fun p => (p.2, p.1)
    have hwf : Wf cx (ctL (cx := cx) w A0 K0) := ⟨by simp [ctL], by simp [ctL], by simp [ctL], by simp [ctL], fun b hb => by have := hA b hb; show ¬ w.heap.size ≤ b; omega, by simp [ctL], fun b hb => hb⟩
    have hrd : ∀ b, A0 b → Rd (ctL (cx := cx) w A0 K0) b := fun b hb => ⟨hA b hb, .inl hb, by simp [ctL]⟩
    have htmp : ∀ t, t < us.length → (us.toArray ++ Array.replicate (fn.ntmps - us.toArray.size) undef).getD t undef = us.getD t undef := fun t ht => by
      simp [Array.getD_eq_getD_getElem?, Array.getElem?_append, ht, List.getD]
    have hkm : ∀ p u, (p, u) ∈ K0 ↔ us[p]? = some u := fun p u => by
      constructor
      · intro hp
        obtain ⟨q, hq, he⟩ := List.mem_map.1 hp
        simp only [Prod.mk.injEq] at he
        have hq2 := List.mem_zipIdx_iff_getElem?.1 hq
        rw [he.1, he.2] at hq2
        exact hq2
      · intro hp
        exact List.mem_map.2 ⟨(u, p), List.mem_zipIdx_iff_getElem?.2 hp, rfl⟩
    have hargl : us.length = l.length := hargs.1
    refine calls_of_wp hf hcode ?_
    refine wp_seq (wp_region ?_)
    rw [List.range_eq_range']
    have hops : ops.toList.length = ops.size := by simp
    rw [← hops]
    refine preB_ok (args := l) (us := us) (w0 := w) (ev := fun q st => evSeq P ev.Kc ev.Kw (fun _ _ => none) ops (fun st => evC P ev (loopN L) 0 rest st (finK P fn)) q st) (r := r) (lo := 2 * l.length) ok hargl (fun w1 S1 K1 st1 a1 l1 i1 hl1 h1 hb1 he1 => ?_) ops.toList 0 l.length w A0 K0 (stL fn l) _ (fun j => by simp) ⟨hwf, ?_, fun t => ?_, rfl, fun n => by simp [ctL, stL], fun n => by simp [ctL, stL], fun n hn => ?_, fun p u hp => ?_, fun p a hp => ?_, PdOK.none⟩ (Below.refl _ _) (Nat.le_refl _) (Nat.le_refl _) (fun q u hq => ?_) hargs (fun p hp => htmp p (by omega)) rfl ?_ hev
    · refine evSeq_ok ok hZ hK hKw (W := w1) (S := S1) (N := fun b => w1.heap.size ≤ b) (KK := K1) (r := r) (fun v c st a h1 h2 h3 h4 h5 => by cases h5) (fun c st a h2 h3 h4 h5 h6 => ?_) l1 i1 hl1 st1 (ctL w1 S1 K1) a1 h1 rfl ⟨rfl, rfl⟩ (Kept.refl _ _) he1
      refine evC_ok ok hZ ev L hK hKw hm (W := w1) (S := S1) (N := fun b => w1.heap.size ≤ b) (KK := K1) rest 0 _ _ (fun e c' st' a' g1 g2 g3 g4 g5 => ?_) st c a h2 h3 h4 h5 h6
      have fin : outV P fn st' = some r → a'.defers = [] ∧ ∃ v, (results fn a'.tmps).run P c'.w = .ok v c'.w ∧ (∃ u, Ending.returned v = .returned u ∧ Below w.heap.size w c'.w ∧ ResV cx c'.w A0 (fun b => w.heap.size ≤ b) r u) := by
        intro ho
        obtain ⟨u, k1, k2⟩ := outV_spec ok g1 ho hmix
        refine ⟨g1.defers, u, k1, u, rfl, ?_, ?_⟩
        · exact hb1.trans (g4.low.mono hb1.size)
        · subst hvr
          obtain ⟨fp, _, _, k3⟩ := k2
          have k3 : u = vr ∧ fp = [] := k3
          exact ⟨[], by simp, by simp, k3.1, rfl⟩
      cases e with
      | normal => exact fin g5
      | ret => exact fin g5
      | _ => simp [finK, Kn.on] at g5
    · simp [hargl, stL]
    · show RepV cx (ctL (cx := cx) w A0 K0) ((l.map argV ++ List.replicate (fn.ntmps - l.length) (junk : V cx.ty)).getD t junk) _
      by_cases ht : t < l.length
      · have htu : t < us.length := by omega
        have e1 : (l.map argV ++ List.replicate (fn.ntmps - l.length) (junk : V cx.ty)).getD t junk = argV l[t] := by
          simp [List.getD, List.getElem?_append_left, ht]
        have e2 : (us.toArray ++ Array.replicate (fn.ntmps - us.toArray.size) undef).getD t undef = us[t] := by
          simp [Array.getD_eq_getD_getElem?, Array.getElem?_append, htu]
        rw [e1, e2]
        exact ArgA.repV hrd (hargs.2 t _ _ (List.getElem?_eq_getElem ht) (List.getElem?_eq_getElem htu))
      · have e1 : (l.map argV ++ List.replicate (fn.ntmps - l.length) (junk : V cx.ty)).getD t junk = junk := by
          simp only [List.getD]
          rw [List.getElem?_append_right (by simp; omega)]
          simp only [List.length_map, List.getElem?_replicate]
          split <;> rfl
        rw [e1]
        trivial
    · rcases hn with ⟨tk, ht, _⟩ | hn | hn
      · simp [ctL] at ht
      · simp [ctL] at hn
      · simp [ctL] at hn
    · have hp := (hkm p u).1 hp
      have hpl : p < us.length := (List.getElem?_eq_some_iff.1 hp).1
      refine ⟨by show p < 2 * l.length; omega, ?_⟩
      show (us.toArray ++ Array.replicate (fn.ntmps - us.toArray.size) undef).getD p undef = u
      rw [htmp p hpl]
      simp [List.getD, hp]
    · obtain ⟨q, hq, he⟩ := List.mem_map.1 hp
      simp only [Prod.mk.injEq] at he
      obtain ⟨he1, he2⟩ := he
      subst he1; subst he2
      have hq2 := List.mem_zipIdx_iff_getElem?.1 hq
      have hpl : q.2 < us.length := by rw [hargl]; exact (List.getElem?_eq_some_iff.1 hq2).1
      exact ⟨us[q.2], (hkm q.2 _).2 (List.getElem?_eq_getElem hpl), hargs.2 q.2 q.1 _ hq2 (List.getElem?_eq_getElem hpl)⟩
    · have := (List.getElem?_eq_some_iff.1 ((hkm q u).1 hq)).1
      omega
    · show 2 * l.length ≤ (l.map argV ++ List.replicate (fn.ntmps - l.length) (junk : V cx.ty)).length
      simp
      omega
  · simp at hev

theorem sat_l {P : Program} {cx : Cx} (ok : cx.Ok) (hZ : cx.POk P) (hm : P.follows .mixedOrders = true) {f : FuncId} {fn : Func} (hf : P.funcs[f]? = some fn) {X R : Type} (a : Args cx.ty X) (enc : R → V cx.ty) (d : R) (m : X → Option R)
    (ev : Env cx) (hK : KOk P cx ev.Kc) (hKw : KwOk P cx ev.Kw) (g : Nat → X → Option R) (he : ∀ L x, evFL P ev (loopN L) fn (a.enc x) = (g L x).map enc) (hg : ∀ x t, m x = some t → ∃ L, g L x = some t) (hs : ∀ t, noRoV (enc t) = true ∨ noOwnV (enc t) = true)
    (hp : ∀ t, ∃ v, enc t = vv v := by exact fun _ => ⟨_, rfl⟩) (hn : ∀ x, 2 * (a.enc x).length ≤ fn.ntmps := by intro x; exact of_decide_eq_true rfl) :
    Sat P cx f (fnT a enc d m) := by
  refine sat_of_evL ok hZ hm hf fun as r h => ?_
  obtain ⟨x, t, rfl, hx, rfl⟩ := fnT_inv h
  obtain ⟨L, hL⟩ := hg x t hx
  exact ⟨ev, L, hK, hKw, by rw [he, hL]; rfl, hs t, hp t, hn x⟩
end
end Go.VM
namespace Go.VM
open Go.RowKit
section
variable {cx : Cx} {P : Program}

/-! ### Functions that are handed a pointer to a box with the rows that it bears -/
end
end Go.VM

namespace Go.VM
open Go.RowKit
section
variable {cx : Cx} {P : Program}

/-! ### Results that mix: flat rows of our own (own = 2), rows of our own whose elements are read (own = 4), rows that are read -/
end
end Go.VM

namespace Go.VM
open Go

/-! ### Pure arithmetic -/
theorem dt {c : Prop} [Decidable c] (h : c) : decide c = true := decide_eq_true h
theorem df {c : Prop} [Decidable c] (h : ¬ c) : decide c = false := decide_eq_false h
theorem bneT {α : Type} [BEq α] [LawfulBEq α] {a b : α} (h : ¬ a = b) : (a != b) = true := by simpa using h
theorem bneF {α : Type} [BEq α] [LawfulBEq α] {a b : α} (h : a = b) : (a != b) = false := by simpa using h
theorem wi {x : Int} (h1 : -9223372036854775808 ≤ x) (h2 : x ≤ 9223372036854775807) : IntKind.wrap .i64 x = x := by
  unfold IntKind.wrap; simp [IntKind.bits, IntKind.signed]; omega
def okB (a : List Int) : Bool := a.all fun x => decide (0 ≤ x) && decide (x ≤ 255)
theorem drop_cons {α : Type} {a : List α} {i : Nat} (d : α) (h : i < a.length) : a.drop i = a.getD i d :: a.drop (i + 1) := by
  rw [List.drop_eq_getElem_cons h]
  simp [List.getD, List.getElem?_eq_getElem h]

/-! ### Bytes as strings -/
end Go.VM

namespace Go.VM
open Go Go.RowKit

/-- Whatever lies in the world may be lent. -/
def Lent (w : World) (b : Nat) : Prop := b < w.heap.size

theorem cell_spot {w : World} {x : Addr} {v : Value} (h : w.cell? x = some v) : x.spot = none ∧ x.block < w.heap.size := by
  unfold World.cell? at h
  split at h
  · rename_i c e f hb
    split at h
    · simp at h
    · rename_i hs
      exact ⟨by simpa using hs, (Array.getElem?_eq_some_iff.1 hb).1⟩
  · simp at h

theorem args_nil {cx : Cx} {w : World} {A0 : Nat → Prop} : ArgAs cx w A0 [] [] := ⟨rfl, fun j a u h => by simp at h⟩
theorem args_cons {cx : Cx} {w : World} {A0 : Nat → Prop} {a : A cx.ty} {l : List (A cx.ty)} {u : Value} {us : List Value} (h : ArgA cx w A0 a u) (hs : ArgAs cx w A0 l us) : ArgAs cx w A0 (a :: l) (u :: us) :=
  ⟨by simp [hs.1], fun j b v h1 h2 => by
    cases j with
    | zero =>
      simp only [List.getElem?_cons_zero, Option.some.injEq] at h1 h2
      subst h1; subst h2
      exact h
    | succ j => exact hs.2 j b v (by simpa using h1) (by simpa using h2)⟩

/-- A law that the contract says to be true. -/
theorem calls_true {P : Program} {cx : Cx} {f : FuncId} {X : Type} {a : Args cx.ty X} {d : Bool} {m : X → Option Bool} {enc : Bool → V cx.ty} (henc : enc true = .inl (.inl (lv (.bool true)))) (hs : Sat P cx f (fnT a enc d m)) {w : World}
    {l : List (A cx.ty)} {us : List Value} {x : X} (hdec : a.dec l = some x) (hm : m x = some true) (hargs : ArgAs cx w (Lent w) l us) :
    Calls P f us.toArray w fun e w' => e = .returned (.bool true) ∧ Below w.heap.size w w' := by
  refine (hs w (Lent w) l us (enc true) (fun b h => h) hargs ?_).mono fun e w' ⟨u, he, hb, hres⟩ => ⟨?_, hb⟩
  · unfold fnT
    rw [hdec]
    simp [hm]
  · obtain ⟨fp, _, _, hr⟩ := hres
    rw [henc] at hr
    have hr : u = .bool true ∧ fp = [] := hr
    rw [he, hr.1]

end Go.VM
