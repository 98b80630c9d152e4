/- A part of the proof of FnExactSpreadOf: VmG. -/
import Derived.Test.YtmdmeakelebfcaaVmF
namespace Go.VM
open Go.RowKit
section
variable {cx : Cx} {P : Program}

/-! ### Code -/
structure Kn (cx : Cx) (β : Type) where
  n : St cx.ty → Option β
  x : Nat → St cx.ty → Option β
  r : St cx.ty → Option β
  /-- where it is thrown -/
  t : Value → St cx.ty → Option β := fun _ _ => none

def onT {cx : Cx} {β : Type} (t : Value → St cx.ty → Option β) (ch : List PanicEntry) (st : St cx.ty) : Option β :=
  match ch with
  | [{ v := v, recovered := false, goexit := false }] => t v st
  | _ => none

@[simp] theorem onT_none {cx : Cx} {β : Type} (ch : List PanicEntry) (st : St cx.ty) : onT (fun _ _ => (none : Option β)) ch st = none := by
  unfold onT; split <;> rfl

def Kn.on {cx : Cx} {β : Type} (k : Kn cx β) (e : Exit) (st : St cx.ty) : Option β :=
  match e with
  | .normal => k.n st
  | .exit i => k.x i st
  | .ret => k.r st
  | .panic ch => onT k.t ch st
  | _ => none

/-- 'lv': what lives at the head of a loop; 'xv': what lives behind a block that is left. -/
structure Env (cx : Cx) where
  Kc : Kt cx
  Kw : Kwt cx := fun _ => none
  lv : Nat → List (Nat × List (Option Nat))
  xv : Nat → Option (List (Nat × List (Option Nat)))

def cnO {ty : Nat → Type} (o : Option (List (Nat × List (Option Nat)))) (st : St ty) : St ty :=
  match o with
  | some s => canon s st
  | none => st

/-- What is done with a loop: its body, its plain form, what follows, its state. -/
abbrev Lp (cx : Cx) (β : Type) := (St cx.ty → Kn cx β → Option β) → (St cx.ty → St cx.ty) → Kn cx β → St cx.ty → Option β

def seqK {cx : Cx} {β : Type} (g : St cx.ty → Kn cx β → Option β) (k : Kn cx β) : Kn cx β := { n := fun st' => g st' k, x := k.x, r := k.r, t := k.t }

def blkK {cx : Cx} {β : Type} (id : Nat) (sp : Option (List (Nat × List (Option Nat)))) (k : Kn cx β) : Kn cx β :=
  { n := k.n, x := fun i st' => if i = id then k.n (cnO sp st') else k.x i st', r := k.r, t := k.t }

/-- Rounds of a loop, from its plain form on. -/
def loopC {cx : Cx} {β : Type} (body : St cx.ty → Kn cx β → Option β) (cn : St cx.ty → St cx.ty) (k : Kn cx β) : Nat → St cx.ty → Option β
  | 0, _ => none
  | n + 1, st => body st (seqK (fun st' _ => loopC body cn k n (cn st')) k)

def loopN {cx : Cx} {β : Type} (L : Nat) : Lp cx β := fun body cn k st => loopC body cn k L (cn st)

def St.setC {ty : Nat → Type} (st : St ty) (c : Operand) (b : Bool) : St ty :=
  match c with
  | .tmp t => { st with slots := st.slots.set t (vv (.bool b)) }
  | _ => st

theorem setC_eq {ty : Nat → Type} {st : St ty} {c : Operand} {b : Bool} (h : getV st.slots c = vv (.bool b)) : st.setC c b = st := by
  unfold St.setC
  split
  · rename_i t
    have h : st.slots.getD t junk = vv (.bool b) := h
    simp only [List.getD] at h
    cases hx : st.slots[t]? with
    | none => rw [hx] at h; simp [junk, vv] at h
    | some v =>
      rw [hx] at h
      simp only [Option.getD_some] at h
      subst h
      obtain ⟨hlt, hv⟩ := List.getElem?_eq_some_iff.1 hx
      have : st.slots.set t (vv (.bool b)) = st.slots := by rw [← hv, List.set_getElem_self]
      rw [this]
  · rfl

def evC {β : Type} (P : Program) (ev : Env cx) (lp : Lp cx β) : Nat → Code → St cx.ty → Kn cx β → Option β
  | _, .skip, st, k => k.n st
  | _, .region _ ops draw, st, k => evRegion P ev.Kc ev.Kw k.t ops draw k.n st
  | bid, .seq x y, st, k => evC P ev lp bid x st (seqK (evC P ev lp bid y) k)
  | bid, .cond c x y, st, k => match getV st.slots c with
    | .inl (.inl (some (.inl (.bool b)))) => bif b then evC P ev lp bid x (st.setC c true) k else evC P ev lp bid y (st.setC c false) k
    | _ => none
  | _, .block id c, st, k => evC P ev lp id c st (blkK id (ev.xv id) k)
  | bid, .loop c, st, k => lp (evC P ev lp bid c) (canon (ev.lv bid)) k st
  | _, .exit id, st, k => k.x id st
  | _, .label _, st, k => k.n st
  | _, .ret, st, k => k.r st
  | _, _, _, _ => none

theorem evC_ok (ok : cx.Ok) (hZ : cx.POk P) (ev : Env cx) (L : Nat) (hK : KOk P cx ev.Kc) (hKw : KwOk P cx ev.Kw) (hm : P.follows .mixedOrders = true) {β : Type} {W : World} {S N : Nat → Prop} {KK : List (Nat × Value)} {r : β} : ∀ (code : Code) (bid : Nat) (k : Kn cx β) (Q : Exit → Act → World → Prop),
    (∀ e c st a, RS cx c st a → c.S = S → (c.N = N ∧ c.K = KK) → Kept N W c.w → k.on e st = some r → Q e a c.w) →
    ∀ (st : St cx.ty) (c : Ct cx.ty) (a : Act), RS cx c st a → c.S = S → (c.N = N ∧ c.K = KK) → Kept N W c.w → evC P ev (loopN L) bid code st k = some r → code.wp P Q a c.w
  | .skip, bid, k, Q, hQ, st, c, a, h, hS, hb, hbl, he => wp_skip (hQ .normal c st a h hS hb hbl he)
  | .region id ops draw, bid, k, Q, hQ, st, c, a, h, hS, hb, hbl, he => evRegion_ok ok hZ hK hKw hm (fun v c st a h1 h2 h3 h4 h5 => hQ (.panic [{ v := v, recovered := false }]) c st a h1 h2 h3 h4 h5) (fun c st a h1 h2 h3 h4 h5 => hQ .normal c st a h1 h2 h3 h4 h5) h hS hb hbl he
  | .seq x y, bid, k, Q, hQ, st, c, a, h, hS, hb, hbl, he => by
    refine wp_seq (evC_ok ok hZ ev L hK hKw hm x bid _ _ (fun e c st a h1 h2 h3 h4 h5 => ?_) st c a h hS hb hbl he)
    cases e with
    | normal => exact evC_ok ok hZ ev L hK hKw hm y bid k Q hQ st c a h1 h2 h3 h4 h5
    | exit i => exact hQ _ c st a h1 h2 h3 h4 h5
    | goto l => exact hQ _ c st a h1 h2 h3 h4 h5
    | ret => exact hQ _ c st a h1 h2 h3 h4 h5
    | panic ch => exact hQ _ c st a h1 h2 h3 h4 h5
    | outgrown => exact hQ _ c st a h1 h2 h3 h4 h5
  | .cond cc x y, bid, k, Q, hQ, st, c, a, h, hS, hb, hbl, he => by
    simp only [evC] at he
    split at he
    · rename_i b hx
      have hr := eval_rep h.rep cc
      rw [hx] at hr
      have hr : a.eval cc = .bool b := hr
      cases b with
      | true =>
        rw [setC_eq hx] at he
        exact wp_cond_true hr (evC_ok ok hZ ev L hK hKw hm x bid k Q hQ st c a h hS hb hbl he)
      | false =>
        rw [setC_eq hx] at he
        exact wp_cond_false hr (evC_ok ok hZ ev L hK hKw hm y bid k Q hQ st c a h hS hb hbl he)
    · simp at he
  | .block id x, bid, k, Q, hQ, st, c, a, h, hS, hb, hbl, he => by
    refine wp_block (evC_ok ok hZ ev L hK hKw hm x id _ _ (fun e c st a h1 h2 h3 h4 h5 => ?_) st c a h hS hb hbl he)
    cases e with
    | exit i =>
      simp only [blkK, Kn.on, Exit.inBlock] at h5 ⊢
      split at h5
      · rename_i hi
        rw [if_pos hi]
        unfold cnO at h5
        split at h5
        · rename_i s _
          obtain ⟨c', h', hw, hS', hb'⟩ := h1.canon s
          rw [← hw]
          exact hQ .normal c' _ a h' (hS'.trans h2) ⟨hb'.1.trans h3.1, hb'.2.trans h3.2⟩ (by rw [hw]; exact h4) h5
        · exact hQ .normal c st a h1 h2 h3 h4 h5
      · rename_i hi
        rw [if_neg hi]
        exact hQ (.exit i) c st a h1 h2 h3 h4 h5
    | normal => exact hQ _ c st a h1 h2 h3 h4 h5
    | goto l => exact hQ _ c st a h1 h2 h3 h4 h5
    | ret => exact hQ _ c st a h1 h2 h3 h4 h5
    | panic ch => exact hQ _ c st a h1 h2 h3 h4 h5
    | outgrown => exact hQ _ c st a h1 h2 h3 h4 h5
  | .loop x, bid, k, Q, hQ, st, c, a, h, hS, hb, hbl, he => by
    have key : ∀ (n : Nat) (st : St cx.ty) (c : Ct cx.ty) (a : Act), RS cx c st a → c.S = S → (c.N = N ∧ c.K = KK) → Kept N W c.w →
        loopC (evC P ev (loopN L) bid x) (canon (ev.lv bid)) k n st = some r → Code.rounds P x Q n a c.w := by
      intro n
      induction n with
      | zero => intro st c a _ _ _ _ he; simp [loopC] at he
      | succ n ih =>
        intro st c a h hS hb hbl he
        rw [rounds_succ]
        simp only [loopC] at he
        refine evC_ok ok hZ ev L hK hKw hm x bid _ _ (fun e c st a h1 h2 h3 h4 h5 => ?_) _ c a h hS hb hbl he
        cases e with
        | normal =>
          obtain ⟨c', h', hw, hS', hb'⟩ := h1.canon (ev.lv bid)
          show Code.rounds P x Q n a c.w
          rw [← hw]
          exact ih _ c' a h' (hS'.trans h2) ⟨hb'.1.trans h3.1, hb'.2.trans h3.2⟩ (by rw [hw]; exact h4) h5
        | exit i => exact hQ _ c st a h1 h2 h3 h4 h5
        | goto l => exact hQ _ c st a h1 h2 h3 h4 h5
        | ret => exact hQ _ c st a h1 h2 h3 h4 h5
        | panic ch => exact hQ _ c st a h1 h2 h3 h4 h5
        | outgrown => exact hQ _ c st a h1 h2 h3 h4 h5
    obtain ⟨c', h', hw, hS', hb'⟩ := h.canon (ev.lv bid)
    rw [← hw]
    exact wp_loop_rounds L (key L _ c' a h' (hS'.trans hS) ⟨hb'.1.trans hb.1, hb'.2.trans hb.2⟩ (by rw [hw]; exact hbl) he)
  | .exit id, bid, k, Q, hQ, st, c, a, h, hS, hb, hbl, he => wp_exit (hQ _ c st a h hS hb hbl he)
  | .label l, bid, k, Q, hQ, st, c, a, h, hS, hb, hbl, he => wp_label (hQ _ c st a h hS hb hbl he)
  | .ret, bid, k, Q, hQ, st, c, a, h, hS, hb, hbl, he => wp_ret (hQ _ c st a h hS hb hbl he)
  | .rangeFunc _ _ _ _, bid, k, Q, hQ, st, c, a, h, hS, hb, hbl, he => by simp [evC] at he
  | .scope _, bid, k, Q, hQ, st, c, a, h, hS, hb, hbl, he => by simp [evC] at he
  | .goto _, bid, k, Q, hQ, st, c, a, h, hS, hb, hbl, he => by simp [evC] at he
  | .refuse _, bid, k, Q, hQ, st, c, a, h, hS, hb, hbl, he => by simp [evC] at he

/-! ### What a function hands back -/
/-- A piece that leaves: 'seen': what has left already. -/
def outL {ty : Nat → Type} (P : Program) (D F : List Nat) (t : TypeId) (seen : List Nat) (l : L ty) : Option (L ty × List Nat) :=
  match l with
  | some (.inl (.slice none 0 0)) => match sliceElem P t with
    | some e => some (ls { own := 2, nm := 0, e := e, o := true, xs := [] }, seen)
    | none => none
  | some (.inl v) => some (lv v, seen)
  | some (.inr s) => if s.own == 1 then
      (if D.contains s.nm || seen.contains s.nm then none
       else if F.contains s.nm then some (ls (ro s.e s.xs), seen)
       else if s.o then some (ls { own := 2, nm := 0, e := s.e, o := true, xs := s.xs }, s.nm :: seen) else none)
    else some (ls (ro s.e s.xs), seen)
  | none => none

def outLs {ty : Nat → Type} (P : Program) (D F : List Nat) : List TypeId → List Nat → List (L ty) → Option (List (L ty) × List Nat)
  | t :: ts, seen, l :: r => match outL P D F t seen l with
    | some (l', s1) => match outLs P D F ts s1 r with
      | some (r', s2) => some (l' :: r', s2)
      | none => none
    | none => none
  | [], seen, [] => some ([], seen)
  | _, _, _ => none

def outA {ty : Nat → Type} (P : Program) (D F : List Nat) (t : TypeId) (seen : List Nat) (a : A ty) : Option (A ty × List Nat) :=
  match a with
  | .inl l => match outL P D F t seen l with
    | some (l', s1) => some (.inl l', s1)
    | none => none
  | .inr l => match outLs P D F (leafTypes P 8 t) seen l with
    | some (l', s1) => some (.inr l', s1)
    | none => none

def outAs {ty : Nat → Type} (P : Program) (D F : List Nat) : List TypeId → List Nat → List (A ty) → Option (List (A ty) × List Nat)
  | t :: ts, seen, l :: r => match outA P D F t seen l with
    | some (l', s1) => match outAs P D F ts s1 r with
      | some (r', s2) => some (l' :: r', s2)
      | none => none
    | none => none
  | [], seen, [] => some ([], seen)
  | _, _, _ => none

/-- The results, as the slots have them. -/
def resA (P : Program) (slots : List (V cx.ty)) : List ResultVar → Option (List (A cx.ty))
  | [] => some []
  | .tmp t :: r => match slots.getD t junk, resA P slots r with
    | .inl a, some as => some (a :: as)
    | _, _ => none
  | .cell t ty :: r => match slots.getD t junk, resA P slots r with
    | .inr (.inr p), some as => if p.kind == 0 && p.i == 0 then (match subV P ty p.cells p.off with
      | some a => some (a :: as)
      | none => none) else none
    | _, _ => none

def outV (P : Program) (fn : Func) (st : St cx.ty) : Option (V cx.ty) :=
  match resA P st.slots fn.results.toList with
  | some [a] => match outA P st.D st.F (fn.resultTypes.toList.headD 0) [] a with
    | some (a', _) => some (.inl a')
    | none => none
  | some as => match outAs P st.D st.F fn.resultTypes.toList [] as with
    | some (as', _) => some (.inr (.inl as'))
    | none => none
  | none => none

def finK (P : Program) (fn : Func) : Kn cx (V cx.ty) := { n := outV P fn, x := fun _ _ => none, r := outV P fn }

def evF (P : Program) (ev : Env cx) (lp : Lp cx (V cx.ty)) (fn : Func) (args : List (A cx.ty)) : Option (V cx.ty) :=
  match fn.body with
  | some code => evC P ev lp 0 code { slots := args.map .inl ++ List.replicate (fn.ntmps - args.length) junk, D := [], F := [], ctr := 1 } (finK P fn)
  | none => none

end
end Go.VM
