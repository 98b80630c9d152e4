/- A part of the proof of FnExactVerdictFor: VmB, VmC, VmD, VmE, VmF, VmG, VmH, VmI. -/
import Derived.Test.YtklmlomaleaaaaaVmA17
set_option linter.unusedVariables false
namespace Go.VM
open Go.RowKit
section
variable {cx : Cx} {P : Program}

/-- Division, remainder and shifts: their tests stand open. -/
def evBin {β : Type} (P : Program) (o : Oper) (slots : List (V cx.ty)) (op : BinOp) (x y : Operand) (k : Eff cx.ty → Option β) : Option β :=
  match op, getV slots x, getV slots y with
  | .quo, .inl (.inl (some (.inl (.int kx a)))), .inl (.inl (some (.inl (.int ky b)))) =>
    if kx = ky then bif b == 0 then none else k (purR (vv (.int kx (kx.wrap (a.tdiv b)))) []) else none
  | .rem, .inl (.inl (some (.inl (.int kx a)))), .inl (.inl (some (.inl (.int ky b)))) =>
    if kx = ky then bif b == 0 then none else k (purR (vv (.int kx (a.tmod b))) []) else none
  | .shl, .inl (.inl (some (.inl (.int kx a)))), .inl (.inl (some (.inl (.int _ b)))) =>
    bif decide (b < 0) then none else k (purR (vv (.int kx (kx.wrap (a * 2 ^ (min b.toNat kx.bits))))) [])
  | .shr, .inl (.inl (some (.inl (.int kx a)))), .inl (.inl (some (.inl (.int _ b)))) =>
    bif decide (b < 0) then none else k (purR (vv (.int kx (a.fdiv (2 ^ (min b.toNat kx.bits))))) [])
  | .add, .inl (.inl (some (.inl (.string a)))), .inl (.inl (some (.inl (.string b)))) =>
    bif decide (a.size + b.size ≤ 1000000000) then k (purR (vv (.string (a ++ b))) []) else none
  | _, _, _ => evGen P o slots k

theorem evBin_ok {β : Type} {o : Oper} {slots : List (V cx.ty)} {nm0 : Nat} {op : BinOp} {xt yt : TypeId} {x y : Operand} (ho : o.op = .binOp op xt x y yt) {k : Eff cx.ty → Option β} {r : β}
    (h : evBin P o slots op x y k = some r) : ∃ ef, k ef = some r ∧ EffOK P cx o slots nm0 ef := by
  have hxm : x ∈ o.op.operands := by simp [ho, Op.operands]
  have hym : y ∈ o.op.operands := by simp [ho, Op.operands]
  unfold evBin at h
  split at h
  · rename_i kx a ky b hx hy
    split at h
    · rename_i hk
      subst hk
      cases hb : (b == 0) with
      | true => rw [hb] at h; simp at h
      | false =>
        rw [hb] at h
        refine ⟨_, h, effok_pur fun c ρ hw hop _ => ?_⟩
        have h1 := hop x hxm; rw [hx] at h1; have h1 : ρ x = .int kx a := h1
        have h2 := hop y hym; rw [hy] at h2; have h2 : ρ y = .int kx b := h2
        have hb0 : ¬ b = 0 := by simpa using hb
        refine ⟨_, ?_, rfl⟩
        unfold execOp
        simp [ho, h1, h2, eqGuard, binOp, Op.intDiv, hb0]
    · simp at h
  · rename_i kx a ky b hx hy
    split at h
    · rename_i hk
      subst hk
      cases hb : (b == 0) with
      | true => rw [hb] at h; simp at h
      | false =>
        rw [hb] at h
        refine ⟨_, h, effok_pur fun c ρ hw hop _ => ?_⟩
        have h1 := hop x hxm; rw [hx] at h1; have h1 : ρ x = .int kx a := h1
        have h2 := hop y hym; rw [hy] at h2; have h2 : ρ y = .int kx b := h2
        have hb0 : ¬ b = 0 := by simpa using hb
        refine ⟨_, ?_, rfl⟩
        unfold execOp
        simp [ho, h1, h2, eqGuard, binOp, Op.intDiv, hb0]
    · simp at h
  · rename_i kx a ky b hx hy
    cases hb : decide (b < 0) with
    | true => rw [hb] at h; simp at h
    | false =>
      rw [hb] at h
      refine ⟨_, h, effok_pur fun c ρ hw hop _ => ?_⟩
      have h1 := hop x hxm; rw [hx] at h1; have h1 : ρ x = .int kx a := h1
      have h2 := hop y hym; rw [hy] at h2; have h2 : ρ y = .int ky b := h2
      have hb0 : ¬ b < 0 := by simpa using hb
      refine ⟨_, ?_, rfl⟩
      unfold execOp
      simp [ho, h1, h2, eqGuard, binOp, Op.shift, hb0]
  · rename_i kx a ky b hx hy
    cases hb : decide (b < 0) with
    | true => rw [hb] at h; simp at h
    | false =>
      rw [hb] at h
      refine ⟨_, h, effok_pur fun c ρ hw hop _ => ?_⟩
      have h1 := hop x hxm; rw [hx] at h1; have h1 : ρ x = .int kx a := h1
      have h2 := hop y hym; rw [hy] at h2; have h2 : ρ y = .int ky b := h2
      have hb0 : ¬ b < 0 := by simpa using hb
      refine ⟨_, ?_, rfl⟩
      unfold execOp
      simp [ho, h1, h2, eqGuard, binOp, Op.shift, hb0]
  · rename_i a b hx hy
    cases hb : decide (a.size + b.size ≤ 1000000000) with
    | false => rw [hb] at h; simp at h
    | true =>
      rw [hb] at h
      refine ⟨_, h, effok_pur fun c ρ hw hop _ => ?_⟩
      have h1 := hop x hxm; rw [hx] at h1; have h1 : ρ x = .string a := h1
      have h2 := hop y hym; rw [hy] at h2; have h2 : ρ y = .string b := h2
      have hle := of_decide_eq_true hb
      refine ⟨_, ?_, rfl⟩
      have hr := run_string_add_sum (P := P) (w := c.w) a b (by omega)
      unfold execOp
      simp [ho, h1, h2, eqGuard, binOp, hr]
  · exact evGen_ok h

theorem effok_move {o : Oper} {slots : List (V cx.ty)} {nm0 : Nat} {x : Operand} (ho : o.op = .move x ∨ o.op = .assign x) : EffOK P cx o slots nm0 (purR (getV slots x) []) :=
  effok_pur fun c ρ hw hop _ => by
    refine ⟨ρ x, ?_, hop x (by rcases ho with ho | ho <;> simp [ho, Op.operands])⟩
    unfold execOp
    rcases ho with ho | ho <;> simp [ho]

abbrev Kt (cx : Cx) := FuncId → Option (List (A cx.ty) → Option (Bool × V cx.ty))

def evCallOp {β : Type} (P : Program) (Kc : Kt cx) (o : Oper) (cl : Call) (slots : List (V cx.ty)) (nm0 : Nat) (k : Eff cx.ty → Option β) : Option β :=
  match cl.callee with
  | .value (.func f) => evCall P Kc slots f cl.args.toList cl.argTypes.toList nm0 k
  | .value x => match getV slots x with
    | .inl (.inl (some (.inl (.func (.func f) a b)))) => if a.toList.isEmpty && b.toList.isEmpty then evCall P Kc slots f cl.args.toList cl.argTypes.toList nm0 k else none
    | .inr (.inr p) => evCallM P Kc slots p cl.args.toList cl.argTypes.toList nm0 k
    | _ => none
  | .builtin .len => match cl.args.toList, cl.argTypes.toList with
    | [x], [t] => evLen P o slots t x k
    | _, _ => none
  | .builtin .append => match cl.args.toList, cl.argTypes.toList with
    | [x, y], [t, t'] => if t = t' then evAppendAll P cx slots t x y nm0 k else none
    | _, _ => none
  | _ => evGen P o slots k

theorem evCallOp_ok (ok : cx.Ok) (hZ : cx.POk P) {Kc : Kt cx} (hK : KOk P cx Kc) {β : Type} {o : Oper} {cl : Call} {slots : List (V cx.ty)} {nm0 : Nat} (ho : o.op = .call cl) {k : Eff cx.ty → Option β} {r : β}
    (h : evCallOp P Kc o cl slots nm0 k = some r) : ∃ ef, k ef = some r ∧ EffOK P cx o slots nm0 ef := by
  obtain ⟨callee, args, ts⟩ := cl
  unfold evCallOp at h
  dsimp only at h
  split at h
  · exact evCall_ok ok (xf := .func _) rfl hK ho h
  · split at h
    · rename_i f a b hx
      split at h
      · rename_i hc
        simp only [Bool.and_eq_true, List.isEmpty_iff] at hc
        have ha : a = #[] := Array.ext' hc.1
        have hb : b = #[] := Array.ext' hc.2
        subst ha; subst hb
        exact evCall_ok ok hx hK ho h
      · simp at h
    · rename_i p hx
      exact evCallM_ok ok hx hK ho h
    · simp at h
  · split at h
    · rename_i x t ha ht
      have ha' : args = #[x] := Array.ext' (by simpa using ha)
      have ht' : ts = #[t] := Array.ext' (by simpa using ht)
      subst ha'; subst ht'
      exact evLen_ok ok ho h
    · simp at h
  · split at h
    · rename_i x y t t2 ha ht
      split at h
      · rename_i htt
        subst htt
        have ha' : args = #[x, y] := Array.ext' (by simpa using ha)
        have ht' : ts = #[t, t] := Array.ext' (by simpa using ht)
        subst ha'; subst ht'
        exact evAppendAll_ok ok hZ ho h
      · simp at h
    · simp at h
  · exact evGen_ok h

/-- A method value: bound to a box of our own, or to a thing that is read. -/
def evMk {β : Type} (P : Program) (o : Oper) (slots : List (V cx.ty)) (fn : Fn) (a b : List Operand) (k : Eff cx.ty → Option β) : Option β :=
  match fn, a, b with
  | .func f, [x], [] => (match getV slots x with
    | .inr (.inr p) =>
      if p.kind == 0 && p.i == 0 && p.off == 0 then k (purR (.inr (.inr { p with i := 1, off := f })) [])
      else if p.kind == 2 && p.nm == 0 then k (purR (.inr (.inr { p with nm := f + 1 })) []) else none
    | _ => evGen P o slots k)
  | _, _, _ => evGen P o slots k

theorem evMk_ok {β : Type} {o : Oper} {slots : List (V cx.ty)} {nm0 : Nat} {fn : Fn} {a b : Array Operand} (ho : o.op = .makeFunc fn a b) {k : Eff cx.ty → Option β} {r : β}
    (h : evMk P o slots fn a.toList b.toList k = some r) : ∃ ef, k ef = some r ∧ EffOK P cx o slots nm0 ef := by
  unfold evMk at h
  split at h
  · rename_i f x ha hb
    have ha' : a = #[x] := Array.ext' (by simpa using ha)
    have hb' : b = #[] := Array.ext' (by simpa using hb)
    subst ha'; subst hb'
    split at h
    · rename_i p hx
      have key : ∀ (c : Ct cx.ty) (ρ : Operand → Value), (∀ y ∈ o.op.operands, RepV cx c (getV slots y) (ρ y)) → RepP cx c p (ρ x) ∧ (execOp ρ o).run P c.w = .ok (.value (.func (.func f) #[ρ x] #[])) c.w := fun c ρ hop => by
        have hr := hop x (by simp [ho, Op.operands])
        rw [hx] at hr
        refine ⟨hr, ?_⟩
        unfold execOp
        simp [ho, Instr.makeFunc]
      split at h
      · rename_i hc
        simp only [Bool.and_eq_true, beq_iff_eq] at hc
        obtain ⟨⟨hk, hi⟩, hoff⟩ := hc
        refine ⟨_, h, effok_pur fun c ρ hw hop _ => ?_⟩
        obtain ⟨hr, hrun⟩ := key c ρ hop
        refine ⟨_, hrun, ?_⟩
        unfold RepP at hr
        simp only [hk, hi, hoff] at hr
        obtain ⟨tk, ht, hnm, hcc, g, hu, hpa⟩ := hr
        have hpa : ρ x = .pointer (some ⟨g, 0, none⟩) := hpa
        show RepP cx c { p with i := 1, off := f } _
        unfold RepP
        simp only [hk]
        exact ⟨tk, ht, hnm, hcc, g, hu, by rw [hpa]; rfl⟩
      · split at h
        · rename_i hc
          simp only [Bool.and_eq_true, beq_iff_eq] at hc
          obtain ⟨hk, hn⟩ := hc
          refine ⟨_, h, effok_pur fun c ρ hw hop _ => ?_⟩
          obtain ⟨hr, hrun⟩ := key c ρ hop
          refine ⟨_, hrun, ?_⟩
          unfold RepP at hr
          simp only [hk, hn] at hr
          obtain ⟨b, o2, hu, hel⟩ := hr
          have hu : ρ x = .pointer (some ⟨b, o2 + p.off, none⟩) := hu
          show RepP cx c { p with nm := f + 1 } _
          unfold RepP
          simp only [hk]
          exact ⟨b, o2, by rw [hu]; rfl, hel⟩
        · simp at h
    · exact evGen_ok h
  · exact evGen_ok h

def evOp {β : Type} (P : Program) (Kc : Kt cx) (o : Oper) (slots : List (V cx.ty)) (nm0 : Nat) (k : Eff cx.ty → Option β) : Option β :=
  match o.op with
  | .move x => k (purR (getV slots x) [])
  | .assign x => k (purR (getV slots x) [])
  | .pick c a b => evPick slots c a b k
  | .extract x i => evExtract slots x i k
  | .field t x i => evField P slots t x i k
  | .fieldAddr t x i => evFieldAddr P slots t x i k
  | .indexAddr t x ix => evIndexAddrB P slots t x ix k
  | .load t x => evLoad P slots t x k
  | .nilCheck x => evNil P o slots x k
  | .index t x ix => evIndex P o slots t x ix k
  | .binOp .eql t x y _ => evEqM P o slots .eql t x y k
  | .binOp .neq t x y _ => (match getV slots x with
    | .inl (.inr _) => evEqM P o slots .neq t x y k
    | _ => evBin P o slots .neq x y k)
  | .binOp op _ x y _ => evBin P o slots op x y k
  | .call cl => evCallOp P Kc o cl slots nm0 k
  | .alloc t => evAlloc P t nm0 k
  | .box _ x => evBox slots x nm0 k
  | .build t parts => evBuildR P slots t parts.toList k
  | .buildSlice t len parts => evBuildAll P cx slots t len parts.toList nm0 k
  | .makeSlice t l c => evMake2 P cx slots t l c nm0 k
  | .convert src dst x => evConv P cx o slots src dst x k
  | .slice t x lo hi mx => evSliceB P cx slots t x lo hi mx k
  | .makeFunc fn a b => evMk P o slots fn a.toList b.toList k
  | _ => evGen P o slots k

theorem evOp_ok (ok : cx.Ok) (hZ : cx.POk P) {Kc : Kt cx} (hK : KOk P cx Kc) {β : Type} {o : Oper} {slots : List (V cx.ty)} {nm0 : Nat} {k : Eff cx.ty → Option β} {r : β}
    (h : evOp P Kc o slots nm0 k = some r) : ∃ ef, k ef = some r ∧ EffOK P cx o slots nm0 ef := by
  unfold evOp at h
  split at h
  · rename_i x ho; exact ⟨_, h, effok_move (.inl ho)⟩
  · rename_i x ho; exact ⟨_, h, effok_move (.inr ho)⟩
  · rename_i ho; exact evPick_ok ho h
  · rename_i ho; exact evExtract_ok ho h
  · rename_i ho; exact evField_ok ho h
  · rename_i ho; exact evFieldAddr_ok ok ho h
  · rename_i ho; exact evIndexAddrB_ok ok ho h
  · rename_i ho; exact evLoad_ok ok ho h
  · rename_i ho; exact evNil_ok ho h
  · rename_i ho; exact evIndex_ok ho h
  · rename_i ho; exact evEqM_ok ho h
  · rename_i ho
    split at h
    · exact evEqM_ok ho h
    · exact evBin_ok ho h
  · rename_i ho; exact evBin_ok ho h
  · rename_i ho; exact evCallOp_ok ok hZ hK ho h
  · rename_i ho; exact evAlloc_ok ho h
  · rename_i ho; exact evBox_ok ho h
  · rename_i ho; exact evBuildR_ok ho h
  · rename_i ho; exact evBuildAll_ok ok hZ ho h
  · rename_i ho; exact evMake2_ok ok hZ ho h
  · rename_i ho; exact evConv_ok ok hZ ho h
  · rename_i ho; exact evSliceB_ok ok ho h
  · rename_i ho; exact evMk_ok ho h
  · exact evGen_ok h

/-- A guard, as the slots show it. -/
def guardV {ty : Nat → Type} (ops : Array Oper) (slots : List (V ty)) (j : Nat) : Option Bool :=
  match (ops[j]?).bind (·.dst) with
  | some d => match slots.getD d junk with
    | .inl (.inl (some (.inl (.bool b)))) => some b
    | _ => none
  | none => none

theorem guardV_spec {c : Ct cx.ty} {slots : List (V cx.ty)} {a : Act} (h : ∀ t, RepV cx c (slots.getD t junk) (a.tmps.getD t undef)) {ops : Array Oper} {j : Nat} {b : Bool} (hg : guardV ops slots j = some b) : yielded ops a.tmps j = some b := by
  unfold guardV at hg
  unfold yielded
  cases hd : (ops[j]?).bind (·.dst) with
  | none => simp [hd] at hg
  | some d =>
    simp only [hd] at hg
    split at hg
    · rename_i b' hb
      simp only [Option.some.injEq] at hg
      subst hg
      have := h d
      rw [hb] at this
      have this : a.tmps.getD d undef = .bool b' := this
      simp only [Option.bind_some]
      cases ht : a.tmps[d]? with
      | none =>
        simp [Array.getD_eq_getD_getElem?, ht, undef] at this
      | some v =>
        have hv : v = .bool b' := by simpa [Array.getD_eq_getD_getElem?, ht] using this
        rw [hv]
    · simp at hg

/-- A guard that was itself passed by. -/
def guardU {ty : Nat → Type} (ops : Array Oper) (slots : List (V ty)) (j : Nat) : Bool :=
  match (ops[j]?).bind (·.dst) with
  | some d => match slots.getD d junk with
    | .inl (.inl (some (.inl (.bool _)))) => false
    | .inl (.inl (some (.inl _))) => true
    | _ => false
  | none => false

theorem guardU_spec {c : Ct cx.ty} {slots : List (V cx.ty)} {a : Act} (h : ∀ t, RepV cx c (slots.getD t junk) (a.tmps.getD t undef)) {ops : Array Oper} {j : Nat} (hg : guardU ops slots j = true) : yielded ops a.tmps j = none := by
  unfold guardU at hg
  unfold yielded
  cases hd : (ops[j]?).bind (·.dst) with
  | none => simp
  | some d =>
    simp only [hd] at hg
    split at hg
    · simp at hg
    · rename_i v hnb hv
      have hr := h d
      rw [hv] at hr
      have hr : a.tmps.getD d undef = v := hr
      simp only [Option.bind_some]
      cases ht : a.tmps[d]? with
      | none => rfl
      | some x =>
        have hx : x = v := by simpa [Array.getD_eq_getD_getElem?, ht] using hr
        subst hx
        cases x with
        | bool b => exact absurd rfl (hnb b)
        | _ => rfl
    · simp at hg

/-- What a guard has told is known from there on. -/
def setG {ty : Nat → Type} (ops : Array Oper) (slots : List (V ty)) (j : Nat) (b : Bool) : List (V ty) :=
  match (ops[j]?).bind (·.dst) with
  | some d => slots.set d (vv (.bool b))
  | none => slots

theorem setG_eq {ty : Nat → Type} {ops : Array Oper} {slots : List (V ty)} {j : Nat} {b : Bool} (h : guardV ops slots j = some b) : setG ops slots j b = slots := by
  unfold guardV at h
  unfold setG
  split at h
  · rename_i d hd
    split at h
    · rename_i b' hb
      simp only [Option.some.injEq] at h
      subst h
      simp only [List.getD] at hb
      cases hx : slots[d]? with
      | none => rw [hx] at hb; simp [junk] at hb
      | some v =>
        rw [hx] at hb
        simp only [Option.getD_some] at hb
        subst hb
        obtain ⟨hlt, hv⟩ := List.getElem?_eq_some_iff.1 hx
        show slots.set d (vv (.bool b')) = slots
        have : vv (.bool b') = slots[d] := hv.symm
        rw [this, List.set_getElem_self]
    · simp at h
  · simp at h

theorem both {α : Type} (b : Bool) (E : Bool → α) : (bif b then E true else E false) = E b := by cases b <;> rfl

def storeOf (o : Oper) : Option (TypeId × Operand × Operand) :=
  match o.op with
  | .store t a x => if o.dst.isNone && o.guard.isNone then some (t, a, x) else none
  | _ => none

theorem storeOf_eq {o : Oper} {t : TypeId} {a x : Operand} (h : storeOf o = some (t, a, x)) : o.op = .store t a x ∧ o.dst = none ∧ o.guard = none := by
  unfold storeOf at h
  split at h
  · rename_i t' a' x' ho
    split at h
    · rename_i hc
      simp only [Option.some.injEq, Prod.mk.injEq] at h
      obtain ⟨rfl, rfl, rfl⟩ := h
      simp only [Bool.and_eq_true, Option.isNone_iff_eq_none] at hc
      exact ⟨ho, hc.1, hc.2⟩
    · simp at h
  · simp at h

/-- Operations in the order of the text. -/
def evSeq {β : Type} (P : Program) (Kc : Kt cx) (Kw : Kwt cx) (kt : Value → St cx.ty → Option β) (ops : Array Oper) (k : St cx.ty → Option β) : List Oper → St cx.ty → Option β
  | [], st => k st
  | o :: rest, st0 => (fun st : St cx.ty =>
    match storeOf o with
    | some (t, a, x) => match stA2 P st t a x with
      | some st' => evSeq P Kc Kw kt ops k rest st'
      | none => none
    | none =>
      match loadE P Kw st o rest with
      | some q => if loO st.lo o.dst then evSeq P Kc Kw kt ops k rest { st with slots := setO st.slots o.dst junk, pend := some q } else none
      | none =>
      match moveE st o with
      | some v => if loO st.lo o.dst then evSeq P Kc Kw kt ops k rest { st with slots := setO st.slots o.dst v } else none
      | none =>
      match wcallOf Kw o with
      | some (f, W, cl) => if smallO o.dst && loO st.lo o.dst then
          match W.p with
          | 0 => evCallW P f W st.slots cl.args.toList cl.argTypes.toList (nmOf st.ctr o.dst) fun ef ps => if chk st ef then evSeq P Kc Kw kt ops k rest (st.appW o.dst ef ps) else none
          | 1 => evCallP P f W st o.dst cl.args.toList cl.argTypes.toList fun st' => evSeq P Kc Kw kt ops k rest st'
          | 3 => evCallT P f W st cl.args.toList cl.argTypes.toList (nmOf st.ctr o.dst) kt fun ef => if chk st ef then evSeq P Kc Kw kt ops k rest (st.app o.dst ef) else none
          | 4 => evCallH P f W st.slots cl.args.toList cl.argTypes.toList (nmOf st.ctr o.dst) fun ef ps => if chk st ef then evSeq P Kc Kw kt ops k rest (st.appH o.dst ef ps) else none
          | 5 => evCallE P f W st cl.args.toList (nmOf st.ctr o.dst) fun ef ps => if chk st ef then evSeq P Kc Kw kt ops k rest (st.appH o.dst ef ps) else none
          | 6 => evCallQ P f W st o.dst cl.args.toList cl.argTypes.toList fun st' => evSeq P Kc Kw kt ops k rest st'
          | 7 => evCallI P f W st o.dst cl.args.toList cl.argTypes.toList fun st' => evSeq P Kc Kw kt ops k rest st'
          | _ => evCallN P f W st.slots cl.args.toList cl.argTypes.toList (nmOf st.ctr o.dst) fun ef => if chk st ef then evSeq P Kc Kw kt ops k rest (st.app o.dst ef) else none
        else none
      | none =>
      match wcallG Kw o with
      | some (g, want, f, W, cl) => if smallO o.dst && loO st.lo o.dst then
          match guardV ops st.slots g with
          | some b => bif b then
              (bif true == want then evCallP P f W { st with slots := setG ops st.slots g true } o.dst cl.args.toList cl.argTypes.toList fun st' => evSeq P Kc Kw kt ops k rest st'
               else evSeq P Kc Kw kt ops k rest (St.app { st with slots := setG ops st.slots g true } o.dst (purR (vv undef) [])))
            else
              (bif false == want then evCallP P f W { st with slots := setG ops st.slots g false } o.dst cl.args.toList cl.argTypes.toList fun st' => evSeq P Kc Kw kt ops k rest st'
               else evSeq P Kc Kw kt ops k rest (St.app { st with slots := setG ops st.slots g false } o.dst (purR (vv undef) [])))
          | none => none
        else none
      | none =>
      match truncOf st.slots o rest with
      | some (t, x, hi) => if smallO o.dst && loO st.lo o.dst then
          evTrunc P cx st.slots t x hi (nmOf st.ctr o.dst) fun ef => if chk st ef then evSeq P Kc Kw kt ops k rest (st.app o.dst ef) else none
        else none
      | none =>
      match arrBoxL P cx ops st.slots o with
      | some (p, ⟨e, xs⟩) => if loO st.lo o.dst then evSeq P Kc Kw kt ops k rest (st.frzB o.dst p.nm (vs (ro e xs))) else none
      | none =>
      match stC P cx st o with
      | some st' => if loO st.lo o.dst then evSeq P Kc Kw kt ops k rest st' else none
      | none =>
      if smallO o.dst && loO st.lo o.dst then
        match o.guard with
        | none => evOp P Kc o st.slots (nmOf st.ctr o.dst) fun ef => if chk st ef then evSeq P Kc Kw kt ops k rest (st.app o.dst ef) else none
        | some (g, want) => match guardV ops st.slots g with
          | some b => bif b then
              (bif true == want then evOp P Kc o (setG ops st.slots g true) (nmOf st.ctr o.dst) fun ef => if chk { st with slots := setG ops st.slots g true } ef then evSeq P Kc Kw kt ops k rest (St.app { st with slots := setG ops st.slots g true } o.dst ef) else none
               else evSeq P Kc Kw kt ops k rest (St.app { st with slots := setG ops st.slots g true } o.dst (purR (vv undef) [])))
            else
              (bif false == want then evOp P Kc o (setG ops st.slots g false) (nmOf st.ctr o.dst) fun ef => if chk { st with slots := setG ops st.slots g false } ef then evSeq P Kc Kw kt ops k rest (St.app { st with slots := setG ops st.slots g false } o.dst ef) else none
               else evSeq P Kc Kw kt ops k rest (St.app { st with slots := setG ops st.slots g false } o.dst (purR (vv undef) [])))
          | none => if guardU ops st.slots g then evSeq P Kc Kw kt ops k rest (st.app o.dst (purR (vv undef) [])) else none
      else none) (preSt P cx st0 o)

theorem RS.skip {c : Ct cx.ty} {st : St cx.ty} {a : Act} (h : RS cx c st a) {d : Option Tmp} (hlo : loO st.lo d = true) : RS cx c (st.app d (purR (vv undef) [])) (a.put d undef) := by
  refine ⟨h.wf, put_size h.size d _ _, put_rep h.size h.rep d (by exact rfl), by rw [put_defers]; exact h.defers, fun n => by simp [St.app, purR, h.dead n], fun n => by simp [St.app, purR, h.frz n], fun n hn => ?_, fun p u' hp => ⟨(h.kp p u' hp).1, (put_lo hlo undef (h.kp p u' hp).1).trans (h.kp p u' hp).2⟩, h.pr, PdOK.none⟩
  exact Nat.lt_of_lt_of_le (h.names n hn) (Nat.mul_le_mul_right _ (Nat.le_succ _))

/-- One operation of a sequence, whatever follows. -/
theorem evSeq_step (ok : cx.Ok) (hZ : cx.POk P) {Kc : Kt cx} (hK : KOk P cx Kc) {Kw : Kwt cx} (hKw : KwOk P cx Kw) {β : Type} {W : World} {S N : Nat → Prop} {KK : List (Nat × Value)} {ops : Array Oper} {Q : Exit → Act → World → Prop} {k : St cx.ty → Option β} {kt : Value → St cx.ty → Option β} {r : β} (hQt : ∀ v c st a, RS cx c st a → c.S = S → (c.N = N ∧ c.K = KK) → Kept N W c.w → kt v st = some r → Q (.panic [{ v := v, recovered := false }]) a c.w) {o : Oper} {rest : List Oper} {i : Nat} (h0 : ops[i]? = some o)
    {st0 : St cx.ty} {c0 : Ct cx.ty} {a : Act} (h00 : RS cx c0 st0 a) (hS : c0.S = S) (hb : (c0.N = N ∧ c0.K = KK)) (hbl : Kept N W c0.w) (he : evSeq P Kc Kw kt ops k (o :: rest) st0 = some r) {K : Act → World → Prop}
    (hKn : ∀ c' st' a', RS cx c' st' a' → c'.S = S → (c'.N = N ∧ c'.K = KK) → Kept N W c'.w → evSeq P Kc Kw kt ops k rest st' = some r → K a' c'.w) : wpOp P ops Q i K a c0.w := by
  unfold wpOp
  simp only [h0]
  simp only [evSeq] at he
  obtain ⟨c, h, q1, q2, q3, q4⟩ := preSt_ok (P := P) ok o h00
  generalize preSt P cx st0 o = st at h he
  rw [← q1] at hbl ⊢
  replace hS := q2.trans hS
  replace hb := (⟨q3.trans hb.1, q4.trans hb.2⟩ : c.N = N ∧ c.K = KK)
  clear h00 q1 q2 q3 q4
  cases hso : storeOf o with
  | some q =>
    obtain ⟨t, sa, sx⟩ := q
    rw [hso] at he
    obtain ⟨ho, hdst, hgd⟩ := storeOf_eq hso
    simp only at he
    split at he
    · rename_i st' hst
      obtain ⟨w', c2, hrun, hrs, rfl, e2, e3, e4, hbel⟩ := stA2_ok ok ho hst h
      have hwant : Region.wanted o (yielded ops a.tmps) = true := by simp [Region.wanted, hgd]
      rw [if_pos hwant]
      refine .inl (Oper.wp_of_runs ?_)
      unfold Runs
      rw [hrun]
      have hput : a.put o.dst undef = a := by rw [hdst]; rfl
      show K (a.put o.dst undef) c2.w
      rw [hput]
      exact hKn _ _ _ hrs (e2.trans hS) ⟨e3.trans hb.1, e4.trans hb.2⟩ (hbl.trans (by rw [← hb.1]; exact hbel)) he
    · simp at he
  | none =>
  rw [hso] at he
  simp only at he
  cases hle : loadE P Kw st o rest with
  | some q =>
    obtain ⟨d, p⟩ := q
    rw [hle] at he
    simp only at he
    split at he
    · rename_i hlo
      obtain ⟨hgd, hdst, hrun⟩ := loadE_ok ok hle h hlo
      have hwant : Region.wanted o (yielded ops a.tmps) = true := by simp [Region.wanted, hgd]
      rw [if_pos hwant]
      refine .inl (Oper.wp_of_runs ?_)
      refine hrun.mono fun u w' ⟨hw', hrs⟩ => ?_
      rw [hw']
      exact hKn _ _ _ hrs hS hb hbl he
    · simp at he
  | none =>
  rw [hle] at he
  simp only at he
  cases hme : moveE st o with
  | some v =>
    rw [hme] at he
    simp only at he
    split at he
    · rename_i hlo
      obtain ⟨hgd, hrun⟩ := moveE_ok (P := P) hme h hlo
      have hwant : Region.wanted o (yielded ops a.tmps) = true := by simp [Region.wanted, hgd]
      rw [if_pos hwant]
      refine .inl (Oper.wp_of_runs ?_)
      refine hrun.mono fun u w' ⟨hw', hrs⟩ => ?_
      rw [hw']
      exact hKn _ _ _ hrs hS hb hbl he
    · simp at he
  | none =>
  rw [hme] at he
  simp only at he
  cases hwc : wcallOf Kw o with
  | some q =>
    obtain ⟨f, F, cl⟩ := q
    rw [hwc] at he
    simp only at he
    split at he
    · rename_i hsm0
      obtain ⟨hsm, hlo⟩ := Bool.and_eq_true_iff.1 hsm0
      obtain ⟨hgd, hkw, hop⟩ := wcallOf_eq hwc
      have hso' := hKw f F hkw
      unfold SatOf at hso'
      have hwant : Region.wanted o (yielded ops a.tmps) = true := by simp [Region.wanted, hgd]
      split at he
      · rename_i hp0
        rw [hp0] at hso'
        obtain ⟨ef, ps, hk, hrun⟩ := evCallW_ok (nm0 := nmOf st.ctr o.dst) ok hso' hop he
        split at hk
        · rename_i hc
          have hcs := chk_spec h hc
          rw [if_pos hwant]
          refine .inl (Oper.wp_of_runs ?_)
          refine (hrun c a.eval h.wf (fun x _ => eval_rep h.rep x) hcs.1 (h.fresh _)).mono fun u w' ⟨T', hg⟩ => ?_
          exact hKn _ _ _ (h.appW hsm hlo hg) hS hb (hbl.trans (by rw [← hb.1]; exact hg.below)) hk
        · simp at hk
      · rename_i hp1
        rw [hp1] at hso'
        rw [if_pos hwant]
        refine .inl (Oper.wp_of_runs ?_)
        refine (evCallP_ok ok hso' hop h hsm hlo he).mono fun u w' ⟨c', st', hk, hrs, hw', h1, h2, h3, h4⟩ => ?_
        subst hw'
        exact hKn _ _ _ hrs (h1.trans hS) ⟨h2.trans hb.1, h3.trans hb.2⟩ (hbl.trans (by rw [← hb.1]; exact h4)) hk
      · rename_i hp3
        rw [hp3] at hso'
        rw [if_pos hwant]
        rcases evCallT_ok (nm0 := nmOf st.ctr o.dst) ok hso' hop he with ⟨ef, hk, hef⟩ | ⟨v, hk, hthr⟩
        · split at hk
          · rename_i hc
            have hcs := chk_spec h hc
            refine .inl (Oper.wp_of_runs ?_)
            have hrun := hef.go c a.eval h.wf (fun x _ => eval_rep h.rep x) hcs.1 hcs.2 (h.fresh _)
            refine hrun.mono fun u w' ⟨T', hg⟩ => ?_
            exact hKn _ _ _ (h.app hsm hlo hg) hS hb (hbl.trans (by rw [← hb.1]; exact hg.below)) hk
          · simp at hk
        · obtain ⟨hrun, hcall⟩ := hthr c a h
          refine .inl ?_
          unfold Oper.wp
          rw [hrun]
          refine hcall.mono fun e w' ⟨he2, hbw⟩ => ?_
          subst he2
          obtain ⟨c', hrs, e1, e2, e3, e4, e5⟩ := h.later hbw
          show Q (.panic [{ v := v, recovered := false }]) a w'
          rw [← e1]
          exact hQt v c' st a hrs (e2.trans hS) ⟨e3.trans hb.1, e4.trans hb.2⟩ (by rw [e1]; exact hbl.trans (by rw [← hb.1]; exact e5)) hk
      · rename_i hp4
        rw [hp4] at hso'
        obtain ⟨ef, ps, hk, hrun⟩ := evCallH_ok (nm0 := nmOf st.ctr o.dst) ok hso' hop he
        split at hk
        · rename_i hc
          have hcs := chk_spec h hc
          rw [if_pos hwant]
          refine .inl (Oper.wp_of_runs ?_)
          refine (hrun c a.eval st.F h.wf (fun x _ => eval_rep h.rep x) hcs.1 (h.fresh _) h.frz).mono fun u w' ⟨T', hg⟩ => ?_
          exact hKn _ _ _ (h.appH hsm hlo hg) hS hb (hbl.trans (by rw [← hb.1]; exact hg.below)) hk
        · simp at hk
      · rename_i hp5
        rw [hp5] at hso'
        obtain ⟨ef, ps, hk, hrun⟩ := evCallE_ok (nm0 := nmOf st.ctr o.dst) ok hso' hop he
        split at hk
        · rename_i hc
          have hcs := chk_spec h hc
          rw [if_pos hwant]
          refine .inl (Oper.wp_of_runs ?_)
          refine (hrun c a h hcs.1 (h.fresh _)).mono fun u w' ⟨T', hg⟩ => ?_
          exact hKn _ _ _ (h.appH hsm hlo hg) hS hb (hbl.trans (by rw [← hb.1]; exact hg.below)) hk
        · simp at hk
      · rename_i hp6
        rw [hp6] at hso'
        rw [if_pos hwant]
        refine .inl (Oper.wp_of_runs ?_)
        refine (evCallQ_ok ok hso' hop h hsm hlo he).mono fun u w' ⟨c', st', hk, hrs, hw', h1, h2, h3, h4⟩ => ?_
        subst hw'
        exact hKn _ _ _ hrs (h1.trans hS) ⟨h2.trans hb.1, h3.trans hb.2⟩ (hbl.trans (by rw [← hb.1]; exact h4)) hk
      · rename_i hp7
        rw [hp7] at hso'
        rw [if_pos hwant]
        refine .inl (Oper.wp_of_runs ?_)
        refine (evCallI_ok ok hso' hop h hsm hlo he).mono fun u w' ⟨c', st', hk, hrs, hw', h1, h2, h3, h4⟩ => ?_
        subst hw'
        exact hKn _ _ _ hrs (h1.trans hS) ⟨h2.trans hb.1, h3.trans hb.2⟩ (hbl.trans (by rw [← hb.1]; exact h4)) hk
      · rename_i hp0 hp1 hp3 hp4 hp5 hp6 hp7
        have hso2 : SatN P cx f F.F := by
          revert hso'
          split
          · rename_i hh; exact absurd hh hp0
          · rename_i hh; exact absurd hh hp1
          · rename_i hh; exact absurd hh hp3
          · rename_i hh; exact absurd hh hp4
          · rename_i hh; exact absurd hh hp5
          · rename_i hh; exact absurd hh hp6
          · rename_i hh; exact absurd hh hp7
          · exact fun h => h
        obtain ⟨ef, hk, hef⟩ := evCallN_ok (nm0 := nmOf st.ctr o.dst) (slots := st.slots) ok hso2 hop he
        split at hk
        · rename_i hc
          have hcs := chk_spec h hc
          rw [if_pos hwant]
          refine .inl (Oper.wp_of_runs ?_)
          have hrun := hef.go c a.eval h.wf (fun x _ => eval_rep h.rep x) hcs.1 hcs.2 (h.fresh _)
          refine hrun.mono fun u w' ⟨T', hg⟩ => ?_
          exact hKn _ _ _ (h.app hsm hlo hg) hS hb (hbl.trans (by rw [← hb.1]; exact hg.below)) hk
        · simp at hk
    · simp at he
  | none =>
  rw [hwc] at he
  simp only at he
  cases hwg : wcallG Kw o with
  | some q =>
    obtain ⟨g, want, f, F, cl⟩ := q
    rw [hwg] at he
    simp only at he
    obtain ⟨hg, hkw, hop, hp1⟩ := wcallG_eq hwg
    split at he
    · rename_i hsm0
      obtain ⟨hsm, hlo⟩ := Bool.and_eq_true_iff.1 hsm0
      have hso' := hKw f F hkw
      unfold SatOf at hso'
      rw [hp1] at hso'
      split at he
      · rename_i b hb'
        have hy := guardV_spec h.rep hb'
        replace he := (both b (fun v => (bif v == want then evCallP P f F { st with slots := setG ops st.slots g v } o.dst cl.args.toList cl.argTypes.toList fun st' => evSeq P Kc Kw kt ops k rest st'
               else evSeq P Kc Kw kt ops k rest (St.app { st with slots := setG ops st.slots g v } o.dst (purR (vv undef) []))))).symm.trans he
        simp only [setG_eq hb'] at he
        cases hbw : (b == want) with
        | true =>
          rw [hbw, cond_true] at he
          have : Region.wanted o (yielded ops a.tmps) = true := by simp only [Region.wanted, hg, hy]; simpa using hbw
          rw [if_pos this]
          refine .inl (Oper.wp_of_runs ?_)
          refine (evCallP_ok ok hso' hop h hsm hlo he).mono fun u w' ⟨c', st', hk, hrs, hw', h1, h2, h3, h4⟩ => ?_
          subst hw'
          exact hKn _ _ _ hrs (h1.trans hS) ⟨h2.trans hb.1, h3.trans hb.2⟩ (hbl.trans (by rw [← hb.1]; exact h4)) hk
        | false =>
          rw [hbw, cond_false] at he
          have : Region.wanted o (yielded ops a.tmps) = false := by simp only [Region.wanted, hg, hy]; simpa using hbw
          rw [if_neg (by simp [this])]
          exact hKn c _ _ (h.skip hlo) hS hb hbl he
      · simp at he
    · simp at he
  | none =>
  rw [hwg] at he
  simp only at he
  cases htr : truncOf st.slots o rest with
  | some q =>
    obtain ⟨t, x, hi⟩ := q
    rw [htr] at he
    simp only at he
    split at he
    · rename_i hsm0
      obtain ⟨hsm, hlo⟩ := Bool.and_eq_true_iff.1 hsm0
      obtain ⟨hgd, hop⟩ := truncOf_eq htr
      have hwant : Region.wanted o (yielded ops a.tmps) = true := by simp [Region.wanted, hgd]
      obtain ⟨ef, hk, hef⟩ := evTrunc_ok (nm0 := nmOf st.ctr o.dst) ok hop he
      split at hk
      · rename_i hc
        have hcs := chk_spec h hc
        rw [if_pos hwant]
        refine .inl (Oper.wp_of_runs ?_)
        have hrun := hef.go c a.eval h.wf (fun x _ => eval_rep h.rep x) hcs.1 hcs.2 (h.fresh _)
        refine hrun.mono fun u w' ⟨T', hg⟩ => ?_
        exact hKn _ _ _ (h.app hsm hlo hg) hS hb (hbl.trans (by rw [← hb.1]; exact hg.below)) hk
      · simp at hk
    · simp at he
  | none =>
  rw [htr] at he
  simp only at he
  cases hab : arrBoxL P cx ops st.slots o with
  | some q =>
    obtain ⟨p, e, xs⟩ := q
    rw [hab] at he
    simp only at he
    split at he
    · rename_i hlo
      obtain ⟨hgd, hrun⟩ := arrBox_ok ok (arrBoxL_eq hab) h hlo
      have hwant : Region.wanted o (yielded ops a.tmps) = true := by simp [Region.wanted, hgd]
      rw [if_pos hwant]
      refine .inl (Oper.wp_of_runs ?_)
      refine hrun.mono fun u w' ⟨c', hrs, hw', h1, h2, h3, h4⟩ => ?_
      rw [← hw']
      exact hKn _ _ _ hrs (h1.trans hS) ⟨h2.trans hb.1, h3.trans hb.2⟩ (by rw [hw', h4]; exact hbl) he
    · simp at he
  | none =>
  rw [hab] at he
  simp only at he
  cases hsc : stC P cx st o with
  | some st' =>
    rw [hsc] at he
    simp only at he
    split at he
    · rename_i hlo
      obtain ⟨hgd, hrun⟩ := stC_ok ok hZ hsc h hlo
      have hwant : Region.wanted o (yielded ops a.tmps) = true := by simp [Region.wanted, hgd]
      rw [if_pos hwant]
      refine .inl (Oper.wp_of_runs ?_)
      refine hrun.mono fun u w' ⟨c', hrs, hw', h1, h2, h3, h4⟩ => ?_
      rw [← hw']
      exact hKn _ _ _ hrs (h1.trans hS) ⟨h2.trans hb.1, h3.trans hb.2⟩ (by rw [hw']; exact hbl.trans (by rw [← hb.1]; exact h4)) he
    · simp at he
  | none =>
  rw [hsc] at he
  simp only at he
  split at he
  · rename_i hsm0
    obtain ⟨hsm, hlo⟩ := Bool.and_eq_true_iff.1 hsm0
    have run : ∀ hr : (evOp P Kc o st.slots (nmOf st.ctr o.dst) fun ef => if chk st ef then evSeq P Kc Kw kt ops k rest (st.app o.dst ef) else none) = some r, o.wp P a c.w K Q := by
      intro hr
      obtain ⟨ef, hk, hef⟩ := evOp_ok (nm0 := nmOf st.ctr o.dst) ok hZ hK hr
      split at hk
      · rename_i hc
        have hcs := chk_spec h hc
        apply Oper.wp_of_runs
        have hrun := hef.go c a.eval h.wf (fun x _ => eval_rep h.rep x) hcs.1 hcs.2 (h.fresh _)
        refine hrun.mono fun u w' ⟨T', hg⟩ => ?_
        exact hKn _ _ _ (h.app hsm hlo hg) hS hb (hbl.trans (by rw [← hb.1]; exact hg.below)) hk
      · simp at hk
    split at he
    · rename_i hg
      simp only [Region.wanted, hg, if_true]
      exact .inl (run he)
    · rename_i g want hg
      split at he
      · rename_i b hb'
        have hy := guardV_spec h.rep hb'
        replace he := (both b (fun v => (bif v == want then evOp P Kc o (setG ops st.slots g v) (nmOf st.ctr o.dst) fun ef => if chk { st with slots := setG ops st.slots g v } ef then evSeq P Kc Kw kt ops k rest (St.app { st with slots := setG ops st.slots g v } o.dst ef) else none
               else evSeq P Kc Kw kt ops k rest (St.app { st with slots := setG ops st.slots g v } o.dst (purR (vv undef) []))))).symm.trans he
        simp only [setG_eq hb'] at he
        cases hbw : (b == want) with
        | true =>
          rw [hbw, cond_true] at he
          have : Region.wanted o (yielded ops a.tmps) = true := by simp only [Region.wanted, hg, hy]; simpa using hbw
          rw [if_pos this]
          exact .inl (run he)
        | false =>
          rw [hbw, cond_false] at he
          have : Region.wanted o (yielded ops a.tmps) = false := by simp only [Region.wanted, hg, hy]; simpa using hbw
          rw [if_neg (by simp [this])]
          exact hKn c _ _ (h.skip hlo) hS hb hbl he
      · split at he
        · rename_i hu
          have hy := guardU_spec h.rep hu
          have : Region.wanted o (yielded ops a.tmps) = false := by simp only [Region.wanted, hg, hy]; rfl
          rw [if_neg (by simp [this])]
          exact hKn c _ _ (h.skip hlo) hS hb hbl he
        · simp at he
  · simp at he

theorem evSeq_ok (ok : cx.Ok) (hZ : cx.POk P) {Kc : Kt cx} (hK : KOk P cx Kc) {Kw : Kwt cx} (hKw : KwOk P cx Kw) {β : Type} {W : World} {S N : Nat → Prop} {KK : List (Nat × Value)} {ops : Array Oper} {Q : Exit → Act → World → Prop} {k : St cx.ty → Option β} {kt : Value → St cx.ty → Option β} {r : β}
    (hQt : ∀ v c st a, RS cx c st a → c.S = S → (c.N = N ∧ c.K = KK) → Kept N W c.w → kt v st = some r → Q (.panic [{ v := v, recovered := false }]) a c.w)
    (hQ : ∀ c st a, RS cx c st a → c.S = S → (c.N = N ∧ c.K = KK) → Kept N W c.w → k st = some r → Q .normal a c.w) :
    ∀ (l : List Oper) (i : Nat), (∀ j, l[j]? = ops[i + j]?) → ∀ (st : St cx.ty) (c : Ct cx.ty) (a : Act), RS cx c st a → c.S = S → (c.N = N ∧ c.K = KK) → Kept N W c.w → evSeq P Kc Kw kt ops k l st = some r →
      wpOps P ops Q (List.range' i l.length) a c.w
  | [], i, _, st, c, a, h, hS, hb, hbl, he => hQ c st a h hS hb hbl he
  | o :: rest, i, hl, st, c, a, h, hS, hb, hbl, he => by
    have h0 : ops[i]? = some o := by simpa using (hl 0).symm
    have hl' : ∀ j, rest[j]? = ops[i + 1 + j]? := fun j => by have := hl (j + 1); simpa [Nat.add_assoc, Nat.add_comm 1 j] using this
    simp only [List.length_cons, List.range'_succ]
    rw [wpOps_cons]
    exact evSeq_step ok hZ hK hKw hQt h0 h hS hb hbl he fun c' st' a' h1 h2 h3 h4 h5 => evSeq_ok ok hZ hK hKw hQt hQ rest (i + 1) hl' st' c' a' h1 h2 h3 h4 h5

end
end Go.VM

namespace Go.VM
open Go.RowKit
section
variable {cx : Cx} {P : Program}

def afterOf (ops : Array Oper) (i : Nat) : List Nat :=
  match ops[i]? with
  | some o => (o.after.toList.filter (Region.binds .any)).map (·.on)
  | none => []

def clos (ops : Array Oper) : Nat → List Nat → List Nat
  | 0, l => l
  | n + 1, l => clos ops n (l ++ l.flatMap (afterOf ops)).eraseDups

/-- Each of the operations from 'p' on waits for all ahead of it. -/
def lateB (ops : Array Oper) (p : Nat) : Bool :=
  (List.range ops.size).all fun r => decide (r < p) || (List.range r).all fun i => (clos ops 3 (afterOf ops r)).contains i

/-- Each waits for those ahead alone; two of the first 'p' are apart, or the one waits for the other; no two write one slot. -/
def earlyB (ops : Array Oper) (p : Nat) : Bool :=
  ((List.range ops.size).all fun j => (afterOf ops j).all fun i => decide (i < j)) &&
  ((List.range p).all fun j => (List.range j).all fun i =>
    match ops[i]?, ops[j]? with
    | some oi, some oj => ((afterOf ops j).contains i || oi.apart ops oj) && oi.dst != oj.dst
    | _, _ => false)

/-- What may come up in any order: it kills nothing that another one looks at. -/
def quietE {ty : Nat → Type} (D F R : List Nat) (ef : Eff ty) : Bool := ef.frz.isEmpty && ef.live.all (fun n => !D.contains n && !F.contains n) && ef.read.all (fun n => !D.contains n) && ef.dead.all (fun n => !R.contains n)

theorem quietE_eq {D F R : List Nat} {ef : Eff cx.ty} (h : quietE D F R ef = true) : ef.frz = [] ∧ (∀ n ∈ ef.live, n ∉ D ∧ n ∉ F) ∧ (∀ n ∈ ef.read, n ∉ D) ∧ ∀ n ∈ ef.dead, n ∉ R := by
  simp only [quietE, Bool.and_eq_true, List.isEmpty_iff, List.all_eq_true] at h
  obtain ⟨⟨⟨h1, h2⟩, h3⟩, h4⟩ := h
  exact ⟨h1, fun n hn => by have := h2 n hn; simpa using this, fun n hn => by have := h3 n hn; simpa using this, fun n hn => by have := h4 n hn; simpa using this⟩

def dstOk (len lo : Nat) (d : Option Nat) : Bool := smallO d && loO lo d && (match d with | some d => decide (d < len) | none => true)

theorem dstOk_spec {len lo : Nat} {d : Option Nat} (h : dstOk len lo d = true) : smallO d = true ∧ loO lo d = true ∧ ∀ x, d = some x → x < len := by
  simp only [dstOk, Bool.and_eq_true] at h
  exact ⟨h.1.1, h.1.2, fun x hx => by rw [hx] at h; simpa using h.2⟩

def evPre {β : Type} (P : Program) (Kc : Kt cx) (ops : Array Oper) (ctr len lo : Nat) (F : List Nat) (k : List (V cx.ty) → List Nat → Option β) : List Oper → List (V cx.ty) → List Nat → List Nat → Option β
  | [], slots, D, _ => k slots D
  | o :: rest, slots, D, R =>
    if dstOk len lo o.dst then
      match o.guard with
      | none => evOp P Kc o slots (nmOf ctr o.dst) fun ef => if quietE D F R ef then evPre P Kc ops ctr len lo F k rest (setO slots o.dst ef.v) (ef.dead ++ D) ((ef.read ++ ef.live) ++ R) else none
      | some (g, want) => match guardV ops slots g with
        | some b => bif b then
            (bif true == want then evOp P Kc o (setG ops slots g true) (nmOf ctr o.dst) fun ef => if quietE D F R ef then evPre P Kc ops ctr len lo F k rest (setO (setG ops slots g true) o.dst ef.v) (ef.dead ++ D) ((ef.read ++ ef.live) ++ R) else none
             else evPre P Kc ops ctr len lo F k rest (setO (setG ops slots g true) o.dst (vv undef)) D R)
          else
            (bif false == want then evOp P Kc o (setG ops slots g false) (nmOf ctr o.dst) fun ef => if quietE D F R ef then evPre P Kc ops ctr len lo F k rest (setO (setG ops slots g false) o.dst ef.v) (ef.dead ++ D) ((ef.read ++ ef.live) ++ R) else none
             else evPre P Kc ops ctr len lo F k rest (setO (setG ops slots g false) o.dst (vv undef)) D R)
        | none => if guardU ops slots g then evPre P Kc ops ctr len lo F k rest (setO slots o.dst (vv undef)) D R else none
    else none

def fillL {ty : Nat → Type} : List Oper → List (V ty) → List (V ty) → List (V ty)
  | o :: l, v :: E, s => fillL l E (setO s o.dst v)
  | _, _, s => s

def guardOk {ty : Nat → Type} (ops : Array Oper) (o : Oper) (slots : List (V ty)) : Prop :=
  match o.guard with
  | none => True
  | some (g, want) => ∃ b, guardV ops slots g = some b ∧ (b == want) = true

def OpFact (P : Program) (cx : Cx) (ops : Array Oper) (D F : List Nat) (ctr len lo : Nat) (o : Oper) (slots : List (V cx.ty)) (v : V cx.ty) (dj : List Nat) (oth : Nat → Prop) : Prop :=
  smallO o.dst = true ∧ loO lo o.dst = true ∧ (∀ d, o.dst = some d → d < len) ∧
  ((∃ ef, guardOk ops o slots ∧ EffOK P cx o slots (nmOf ctr o.dst) ef ∧ ef.v = v ∧ ef.frz = [] ∧ ef.dead = dj ∧ (∀ n ∈ ef.read, n ∉ D ∧ ¬ oth n) ∧ ∀ n ∈ ef.live, (n ∉ D ∧ n ∉ F) ∧ ¬ oth n) ∨
   (v = vv undef ∧ dj = [] ∧ ∃ g want, o.guard = some (g, want) ∧ ((∃ b, guardV ops slots g = some b ∧ (b == want) = false) ∨ guardU ops slots g = true)))

theorem OpFact.mono {ops : Array Oper} {D D1 F : List Nat} {ctr len lo : Nat} {o : Oper} {slots : List (V cx.ty)} {v : V cx.ty} {dj : List Nat} {oth oth1 : Nat → Prop} (h : OpFact P cx ops D1 F ctr len lo o slots v dj oth1)
    (hD : ∀ n, n ∈ D → n ∈ D1) (ho : ∀ n, oth n → n ∈ D1 ∨ oth1 n) : OpFact P cx ops D F ctr len lo o slots v dj oth := by
  obtain ⟨h1, h2, h3, h4⟩ := h
  refine ⟨h1, h2, h3, ?_⟩
  rcases h4 with ⟨ef, g1, g2, g3, g4, g5, g6, g7⟩ | h4
  · exact .inl ⟨ef, g1, g2, g3, g4, g5, fun n hn => ⟨fun h => (g6 n hn).1 (hD n h), fun h => (ho n h).elim (g6 n hn).1 (g6 n hn).2⟩,
      fun n hn => ⟨⟨fun h => (g7 n hn).1.1 (hD n h), (g7 n hn).1.2⟩, fun h => (ho n h).elim (g7 n hn).1.1 (g7 n hn).2⟩⟩
  · exact .inr h4

theorem evPre_facts (ok : cx.Ok) (hZ : cx.POk P) {Kc : Kt cx} (hK : KOk P cx Kc) {β : Type} {ops : Array Oper} {ctr len lo : Nat} {F : List Nat} {k : List (V cx.ty) → List Nat → Option β} {r : β} :
    ∀ (l : List Oper) (slots : List (V cx.ty)) (D R : List Nat), evPre P Kc ops ctr len lo F k l slots D R = some r → ∃ (E : List (V cx.ty)) (dd : List (List Nat)) (D' : List Nat), E.length = l.length ∧ k (fillL l E slots) D' = some r ∧
      (∀ n, n ∈ D' ↔ n ∈ D ∨ ∃ i, i < l.length ∧ n ∈ dd.getD i []) ∧ (∀ i, ∀ n ∈ dd.getD i [], n ∉ R) ∧
      ∀ (j : Nat) o v, l[j]? = some o → E[j]? = some v → OpFact P cx ops D F ctr len lo o (fillL (l.take j) (E.take j) slots) v (dd.getD j []) (fun n => ∃ i, i ≠ j ∧ n ∈ dd.getD i [])
  | [], slots, D, R, h => ⟨[], [], D, rfl, h, fun n => by simp, fun i n hn => by simp at hn, fun j o v h => by simp at h⟩
  | o :: rest, slots, D, R, h => by
    simp only [evPre] at h
    split at h
    · rename_i hsm
      obtain ⟨hsm, hlo, hlen⟩ := dstOk_spec hsm
      have glue : ∀ v (dj RR : List Nat), (∀ oth : Nat → Prop, (∀ n ∈ RR, ¬ oth n) → OpFact P cx ops D F ctr len lo o slots v dj oth) → (∀ n ∈ dj, n ∉ R) → evPre P Kc ops ctr len lo F k rest (setO slots o.dst v) (dj ++ D) (RR ++ R) = some r →
          ∃ (E : List (V cx.ty)) (dd : List (List Nat)) (D' : List Nat), E.length = (o :: rest).length ∧ k (fillL (o :: rest) E slots) D' = some r ∧
            (∀ n, n ∈ D' ↔ n ∈ D ∨ ∃ i, i < (o :: rest).length ∧ n ∈ dd.getD i []) ∧ (∀ i, ∀ n ∈ dd.getD i [], n ∉ R) ∧
            ∀ (j : Nat) o' v, (o :: rest)[j]? = some o' → E[j]? = some v → OpFact P cx ops D F ctr len lo o' (fillL ((o :: rest).take j) (E.take j) slots) v (dd.getD j []) (fun n => ∃ i, i ≠ j ∧ n ∈ dd.getD i []) := by
        intro v dj RR hv hdj hr
        obtain ⟨E, dd, D', h1, h2, h4, h5, h3⟩ := evPre_facts ok hZ hK rest _ _ _ hr
        refine ⟨v :: E, dj :: dd, D', by simp [h1], h2, fun n => ?_, fun i n hn => ?_, fun j o' v' e1 e2 => ?_⟩
        · rw [h4 n]
          constructor
          · rintro (hn | ⟨i, hi, hn⟩)
            · rcases List.mem_append.1 hn with hn | hn
              · exact .inr ⟨0, by simp, by simpa using hn⟩
              · exact .inl hn
            · exact .inr ⟨i + 1, by simp; omega, by simpa using hn⟩
          · rintro (hn | ⟨i, hi, hn⟩)
            · exact .inl (List.mem_append.2 (.inr hn))
            · cases i with
              | zero => exact .inl (List.mem_append.2 (.inl (by simpa using hn)))
              | succ i => exact .inr ⟨i, by simp at hi; omega, by simpa using hn⟩
        · cases i with
          | zero => exact hdj n (by simpa using hn)
          | succ i => exact fun hR => h5 i n (by simpa using hn) (List.mem_append.2 (.inr hR))
        · cases j with
          | zero =>
            simp only [List.getElem?_cons_zero, Option.some.injEq] at e1 e2
            subst e1; subst e2
            refine hv _ fun n hn => ?_
            rintro ⟨i, hi, hni⟩
            cases i with
            | zero => exact hi rfl
            | succ i => exact h5 i n (by simpa using hni) (List.mem_append.2 (.inl hn))
          | succ j =>
            have hf := h3 j o' v' (by simpa using e1) (by simpa using e2)
            have hf2 : OpFact P cx ops D F ctr len lo o' (fillL ((o :: rest).take (j + 1)) ((v :: E).take (j + 1)) slots) v' (dd.getD j []) (fun n => ∃ i, i ≠ j + 1 ∧ n ∈ (dj :: dd).getD i []) := by
              refine OpFact.mono (D1 := dj ++ D) (oth1 := fun n => ∃ i, i ≠ j ∧ n ∈ dd.getD i []) hf (fun n hn => List.mem_append.2 (.inr hn)) ?_
              rintro n ⟨i, hi, hn⟩
              cases i with
              | zero => exact .inl (List.mem_append.2 (.inl (by simpa using hn)))
              | succ i => exact .inr ⟨i, fun e => hi (by rw [e]), by simpa using hn⟩
            simpa using hf2
      have run : guardOk ops o slots → (evOp P Kc o slots (nmOf ctr o.dst) fun ef => if quietE D F R ef then evPre P Kc ops ctr len lo F k rest (setO slots o.dst ef.v) (ef.dead ++ D) ((ef.read ++ ef.live) ++ R) else none) = some r →
          ∃ (E : List (V cx.ty)) (dd : List (List Nat)) (D' : List Nat), E.length = (o :: rest).length ∧ k (fillL (o :: rest) E slots) D' = some r ∧
            (∀ n, n ∈ D' ↔ n ∈ D ∨ ∃ i, i < (o :: rest).length ∧ n ∈ dd.getD i []) ∧ (∀ i, ∀ n ∈ dd.getD i [], n ∉ R) ∧
            ∀ (j : Nat) o' v, (o :: rest)[j]? = some o' → E[j]? = some v → OpFact P cx ops D F ctr len lo o' (fillL ((o :: rest).take j) (E.take j) slots) v (dd.getD j []) (fun n => ∃ i, i ≠ j ∧ n ∈ dd.getD i []) := by
        intro hg hr
        obtain ⟨ef, hk, hef⟩ := evOp_ok (nm0 := nmOf ctr o.dst) ok hZ hK hr
        split at hk
        · rename_i hq
          obtain ⟨hfz, hlv, hrd, hdd⟩ := quietE_eq hq
          exact glue ef.v ef.dead (ef.read ++ ef.live) (fun oth hoth => ⟨hsm, hlo, hlen, .inl ⟨ef, hg, hef, rfl, hfz, rfl, fun n hn => ⟨hrd n hn, hoth n (List.mem_append.2 (.inl hn))⟩, fun n hn => ⟨hlv n hn, hoth n (List.mem_append.2 (.inr hn))⟩⟩⟩) hdd hk
        · simp at hk
      split at h
      · rename_i hg
        exact run (by unfold guardOk; rw [hg]; trivial) h
      · rename_i g want hg
        split at h
        · rename_i b hb
          replace h := (both b (fun v => (bif v == want then evOp P Kc o (setG ops slots g v) (nmOf ctr o.dst) fun ef => if quietE D F R ef then evPre P Kc ops ctr len lo F k rest (setO (setG ops slots g v) o.dst ef.v) (ef.dead ++ D) ((ef.read ++ ef.live) ++ R) else none
             else evPre P Kc ops ctr len lo F k rest (setO (setG ops slots g v) o.dst (vv undef)) D R))).symm.trans h
          simp only [setG_eq hb] at h
          cases hbw : (b == want) with
          | true =>
            rw [hbw] at h
            exact run (by unfold guardOk; rw [hg]; exact ⟨b, hb, hbw⟩) h
          | false =>
            rw [hbw] at h
            exact glue (vv undef) [] [] (fun _ _ => ⟨hsm, hlo, hlen, .inr ⟨rfl, rfl, g, want, hg, .inl ⟨b, hb, hbw⟩⟩⟩) (fun n hn => by cases hn) h
        · split at h
          · rename_i hu
            exact glue (vv undef) [] [] (fun _ _ => ⟨hsm, hlo, hlen, .inr ⟨rfl, rfl, g, want, hg, .inr hu⟩⟩) (fun n hn => by cases hn) h
          · simp at h
    · simp at h

/-- The slots once the operations of 'X' have come up. -/
def vOf {ty : Nat → Type} (dst : Nat → Option Nat) (E : Nat → V ty) (s0 : Nat → V ty) (p : Nat) (X : Nat → Bool) (t : Nat) : V ty :=
  match (List.range p).find? (fun i => X i && dst i == some t) with
  | some i => E i
  | none => s0 t

theorem vOf_congr {ty : Nat → Type} {dst : Nat → Option Nat} {E : Nat → V ty} {s0 : Nat → V ty} {p : Nat} {X Y : Nat → Bool} {t : Nat} (h : ∀ i, i < p → dst i = some t → X i = Y i) : vOf dst E s0 p X t = vOf dst E s0 p Y t := by
  unfold vOf
  have : (List.range p).find? (fun i => X i && dst i == some t) = (List.range p).find? (fun i => Y i && dst i == some t) := by
    have key : ∀ l : List Nat, (∀ i ∈ l, i < p) → l.find? (fun i => X i && dst i == some t) = l.find? (fun i => Y i && dst i == some t) := by
      intro l
      induction l with
      | nil => intro _; rfl
      | cons a r ih =>
        intro hl
        have ha := hl a (List.mem_cons_self ..)
        have hr := ih (fun i hi => hl i (List.mem_cons_of_mem _ hi))
        simp only [List.find?_cons]
        by_cases hd : dst a = some t
        · rw [h a ha hd, hr]
        · have : (dst a == some t) = false := by simpa using hd
          simp only [this, Bool.and_false]
          exact hr
    exact key _ (fun i hi => List.mem_range.1 hi)
  rw [this]

theorem vOf_hit {ty : Nat → Type} {dst : Nat → Option Nat} {E : Nat → V ty} {s0 : Nat → V ty} {p : Nat} {X : Nat → Bool} {t i : Nat} (hd : ∀ i j, i < p → j < p → dst i = some t → dst j = some t → i = j) (hi : i < p) (hX : X i = true) (ht : dst i = some t) : vOf dst E s0 p X t = E i := by
  unfold vOf
  cases hf : (List.range p).find? (fun i => X i && dst i == some t) with
  | none =>
    have := List.find?_eq_none.1 hf i (List.mem_range.2 hi)
    simp [hX, ht] at this
  | some j =>
    have h1 := List.find?_some hf
    have h2 := List.mem_range.1 (List.mem_of_find?_eq_some hf)
    simp only [Bool.and_eq_true, beq_iff_eq] at h1
    rw [hd i j hi h2 ht h1.2]

theorem vOf_miss {ty : Nat → Type} {dst : Nat → Option Nat} {E : Nat → V ty} {s0 : Nat → V ty} {p : Nat} {X : Nat → Bool} {t : Nat} (h : ∀ i, i < p → X i = true → dst i ≠ some t) : vOf dst E s0 p X t = s0 t := by
  unfold vOf
  have : (List.range p).find? (fun i => X i && dst i == some t) = none := by
    rw [List.find?_eq_none]
    intro i hi
    have := h i (List.mem_range.1 hi)
    simp only [Bool.and_eq_true, beq_iff_eq, not_and]
    exact this
  rw [this]

theorem fillL_length {ty : Nat → Type} : ∀ (l : List Oper) (E : List (V ty)) (s : List (V ty)), (fillL l E s).length = s.length
  | [], _, _ => rfl
  | _ :: _, [], _ => rfl
  | o :: l, v :: E, s => by
    simp only [fillL]
    rw [fillL_length l E]
    cases o.dst <;> simp [setO]

theorem fillL_snoc {ty : Nat → Type} : ∀ (l : List Oper) (E : List (V ty)) (s : List (V ty)) (o : Oper) (v : V ty), E.length = l.length → fillL (l ++ [o]) (E ++ [v]) s = setO (fillL l E s) o.dst v
  | [], [], _, _, _, _ => rfl
  | [], _ :: _, _, _, _, h => by simp at h
  | _ :: _, [], _, _, _, h => by simp at h
  | a :: l, b :: E, s, o, v, h => by
    simp only [List.cons_append, fillL]
    exact fillL_snoc l E _ o v (by simpa using h)

theorem setO_getD {ty : Nat → Type} (s : List (V ty)) (d : Option Nat) (v : V ty) (t : Nat) (hd : ∀ x, d = some x → x < s.length) : (setO s d v).getD t junk = if d = some t then v else s.getD t junk := by
  cases d with
  | none => simp [setO]
  | some d =>
    have := hd d rfl
    by_cases h : d = t
    · subst h; simp [setO, List.getD, this]
    · have h' : ¬ some d = some t := by simpa using h
      simp [setO, List.getD, List.getElem?_set_ne h, h']

/-- The slots behind the first 'j' operations of the text. -/
theorem fill_vOf {ty : Nat → Type} {l : List Oper} {E : List (V ty)} {s : List (V ty)} (hE : E.length = l.length) (hlen : ∀ (j : Nat) o d, l[j]? = some o → o.dst = some d → d < s.length)
    (hdist : ∀ t i j, i < l.length → j < l.length → (l[i]?).bind (·.dst) = some t → (l[j]?).bind (·.dst) = some t → i = j) :
    ∀ j, j ≤ l.length → ∀ t, (fillL (l.take j) (E.take j) s).getD t junk = vOf (fun i => (l[i]?).bind (·.dst)) (fun i => E.getD i junk) (fun t => s.getD t junk) l.length (fun i => decide (i < j)) t
  | 0, _, t => by
    rw [vOf_miss (fun i _ h => by simp at h)]
    rfl
  | j + 1, hj, t => by
    have hlt : j < l.length := hj
    have hltE : j < E.length := by omega
    have e1 : l.take (j + 1) = l.take j ++ [l[j]] := by rw [List.take_succ_eq_append_getElem hlt]
    have e2 : E.take (j + 1) = E.take j ++ [E[j]] := by rw [List.take_succ_eq_append_getElem hltE]
    rw [e1, e2, fillL_snoc _ _ _ _ _ (by simp; omega), setO_getD _ _ _ _ (fun x hx => by rw [fillL_length]; exact hlen j _ x (List.getElem?_eq_getElem hlt) hx)]
    by_cases hd : l[j].dst = some t
    · have hdj : (l[j]?).bind (·.dst) = some t := by rw [List.getElem?_eq_getElem hlt]; exact hd
      rw [if_pos hd, vOf_hit (fun a b ha hb h1 h2 => hdist t a b ha hb h1 h2) hlt (by simp) hdj]
      simp [List.getD, List.getElem?_eq_getElem hltE]
    · rw [if_neg hd, fill_vOf hE hlen hdist j (by omega) t]
      apply vOf_congr
      intro i hi ht
      have hij : i ≠ j := by
        intro h
        subst h
        rw [List.getElem?_eq_getElem hlt] at ht
        exact hd ht
      simp only [decide_eq_decide]
      omega

theorem mem_looks_operand {ops : Array Oper} {o : Oper} {t : Nat} (h : Operand.tmp t ∈ o.op.operands) : t ∈ o.looksAt ops := by
  unfold Oper.looksAt
  refine List.mem_append.2 (.inl (List.mem_filterMap.2 ⟨.tmp t, by simpa using h, rfl⟩))

theorem mem_looks_guard {ops : Array Oper} {o : Oper} {g : Nat} {want : Bool} {t : Nat} (h : o.guard = some (g, want)) (ht : (ops[g]?).bind (·.dst) = some t) : t ∈ o.looksAt ops := by
  unfold Oper.looksAt
  refine List.mem_append.2 (.inr ?_)
  rw [h]
  simp [ht]

end
end Go.VM

namespace Go.VM
open Go.RowKit
section
variable {cx : Cx} {P : Program}

def ClosedL (ops : Array Oper) (listed : Array Bool) : Prop := ∀ i, listed.getD i false = true → ∀ x ∈ afterOf ops i, listed.getD x false = true

theorem clos_listed {ops : Array Oper} {listed : Array Bool} (hc : ClosedL ops listed) : ∀ (n : Nat) (l : List Nat), (∀ x ∈ l, listed.getD x false = true) → ∀ x ∈ clos ops n l, listed.getD x false = true
  | 0, l, h, x, hx => h x hx
  | n + 1, l, h, x, hx => by
    refine clos_listed hc n _ (fun y hy => ?_) x hx
    have hy := List.mem_eraseDups.1 hy
    rcases List.mem_append.1 hy with hy | hy
    · exact h y hy
    · obtain ⟨z, hz, hy⟩ := List.mem_flatMap.1 hy
      exact hc z (h z hz) y hy

theorem mem_afterOf {ops : Array Oper} {i : Nat} {o : Oper} (ho : ops[i]? = some o) {x : Nat} : x ∈ afterOf ops i ↔ ∃ e ∈ o.after, Region.binds .any e = true ∧ e.on = x := by
  simp only [afterOf, ho, List.mem_map, List.mem_filter, Array.mem_toList_iff]
  exact ⟨fun ⟨e, ⟨h1, h2⟩, h3⟩ => ⟨e, h1, h2, h3⟩, fun ⟨e, h1, h2, h3⟩ => ⟨e, ⟨h1, h2⟩, h3⟩⟩

theorem ready_iff {ops : Array Oper} {listed : Array Bool} {j : Nat} : j ∈ Region.ready .any ops listed ↔ listed.getD j true = false ∧ (∃ o, ops[j]? = some o) ∧ ∀ x ∈ afterOf ops j, listed.getD x false = true := by
  rw [mem_ready]
  constructor
  · rintro ⟨h1, o, ho, h2⟩
    refine ⟨h1, ⟨o, ho⟩, fun x hx => ?_⟩
    obtain ⟨e, he, hb, rfl⟩ := (mem_afterOf ho).1 hx
    exact h2 e he hb
  · rintro ⟨h1, ⟨o, ho⟩, h2⟩
    exact ⟨h1, o, ho, fun e he hb => h2 _ ((mem_afterOf ho).2 ⟨e, he, hb, rfl⟩)⟩

theorem getD_flip {listed : Array Bool} {j : Nat} (hj : j < listed.size) (b : Bool) : listed.getD j b = listed.getD j false := by
  simp [hj]

theorem getD_set_self {listed : Array Bool} {j : Nat} (hj : j < listed.size) (b : Bool) : (listed.setIfInBounds j true).getD j b = true := by
  simp [hj]

theorem early_after {ops : Array Oper} {p : Nat} (h : earlyB ops p = true) {j : Nat} (hj : j < ops.size) : ∀ i ∈ afterOf ops j, i < j := by
  simp only [earlyB, Bool.and_eq_true, List.all_eq_true, List.mem_range, decide_eq_true_eq] at h
  exact h.1 j hj

theorem early_pair {ops : Array Oper} {p : Nat} (h : earlyB ops p = true) {i j : Nat} (hj : j < p) (hi : i < j) {oi oj : Oper} (h1 : ops[i]? = some oi) (h2 : ops[j]? = some oj) : (i ∈ afterOf ops j ∨ oi.apart ops oj = true) ∧ oi.dst ≠ oj.dst := by
  simp only [earlyB, Bool.and_eq_true, List.all_eq_true, List.mem_range] at h
  have := h.2 j hj i hi
  simp only [h1, h2, Bool.and_eq_true, Bool.or_eq_true, bne_iff_ne, ne_eq] at this
  refine ⟨?_, this.2⟩
  rcases this.1 with h | h
  · exact .inl (by simpa using h)
  · exact .inr h

theorem late_all {ops : Array Oper} {p : Nat} (h : lateB ops p = true) {r : Nat} (hr : r < ops.size) (hp : p ≤ r) {i : Nat} (hi : i < r) : i ∈ clos ops 3 (afterOf ops r) := by
  simp only [lateB, List.all_eq_true, List.mem_range] at h
  have := h r hr
  simp only [Bool.or_eq_true, decide_eq_true_eq] at this
  rcases this with h | h
  · omega
  · simp only [List.all_eq_true, List.mem_range] at h
    simpa using h i hi

/-- The operations behind the first 'p': one order alone. -/
theorem suf_any (ok : cx.Ok) (hZ : cx.POk P) {Kc : Kt cx} (hK : KOk P cx Kc) {Kw : Kwt cx} (hKw : KwOk P cx Kw) {β : Type} {W : World} {S N : Nat → Prop} {KK : List (Nat × Value)} {ops : Array Oper} {p : Nat} (hearly : earlyB ops p = true) (hlate : lateB ops p = true) {Q : Exit → Act → World → Prop} {k : St cx.ty → Option β} {kt : Value → St cx.ty → Option β} {r : β}
    (hQt : ∀ v c st a, RS cx c st a → c.S = S → (c.N = N ∧ c.K = KK) → Kept N W c.w → kt v st = some r → Q (.panic [{ v := v, recovered := false }]) a c.w)
    (hQ : ∀ c st a, RS cx c st a → c.S = S → (c.N = N ∧ c.K = KK) → Kept N W c.w → k st = some r → Q .normal a c.w) :
    ∀ (l : List Oper) (i : Nat), p ≤ i → i + l.length = ops.size → (∀ j, l[j]? = ops[i + j]?) → ∀ (listed : Array Bool) (st : St cx.ty) (c : Ct cx.ty) (a : Act), listed.size = ops.size → (∀ x, x < ops.size → listed.getD x false = decide (x < i)) →
      RS cx c st a → c.S = S → (c.N = N ∧ c.K = KK) → Kept N W c.w → evSeq P Kc Kw kt ops k l st = some r → wpAny P .any ops Q l.length listed a c.w
  | [], i, hpi, hil, _, listed, st, c, a, hls, hl, h, hS, hb, hbl, he => by
    refine ⟨?_, hQ c st a h hS hb hbl he⟩
    rw [List.eq_nil_iff_forall_not_mem]
    intro j hj
    obtain ⟨h1, ⟨o, ho⟩, _⟩ := ready_iff.1 hj
    have hjs : j < ops.size := (Array.getElem?_eq_some_iff.1 ho).1
    rw [getD_flip (by omega), hl j hjs] at h1
    simp at hil
    simp at h1
    omega
  | o :: rest, i, hpi, hil, hll, listed, st, c, a, hls, hl, h, hS, hb, hbl, he => by
    have h0 : ops[i]? = some o := by simpa using (hll 0).symm
    have his : i < ops.size := (Array.getElem?_eq_some_iff.1 h0).1
    have hcl : ClosedL ops listed := by
      intro y hy x hx
      by_cases hys : y < ops.size
      · rw [hl y hys] at hy
        have hxy := early_after hearly hys x hx
        rw [hl x (by omega)]
        simp at hy ⊢
        omega
      · have : listed[y]? = none := Array.getElem?_eq_none (by omega)
        simp [Array.getD_eq_getD_getElem?, this] at hy
    refine ⟨fun hnil => ?_, fun j hj => ?_⟩
    · have : i ∈ Region.ready .any ops listed := by
        refine ready_iff.2 ⟨?_, ⟨o, h0⟩, fun x hx => ?_⟩
        · rw [getD_flip (by omega), hl i his]; simp
        · have := early_after hearly his x hx
          rw [hl x (by omega)]; simpa using this
      rw [hnil] at this
      cases this
    · obtain ⟨h1, ⟨oj, hoj⟩, h2⟩ := ready_iff.1 hj
      have hjs : j < ops.size := (Array.getElem?_eq_some_iff.1 hoj).1
      rw [getD_flip (by omega), hl j hjs] at h1
      have hij : i ≤ j := by simp at h1; omega
      have hji : j = i := by
        rcases Nat.lt_or_ge i j with hlt | hge
        · have h3 := clos_listed hcl 3 _ h2 i (late_all hlate hjs (by omega) hlt)
          rw [hl i his] at h3
          simp at h3
        · omega
      subst hji
      refine evSeq_step ok hZ hK hKw hQt h0 h hS hb hbl he fun c' st' a' k1 k2 k3 k4 k5 => ?_
      refine suf_any ok hZ hK hKw hearly hlate hQt hQ rest (j + 1) (by omega) (by simp at hil; omega) (fun x => by have := hll (x + 1); simpa [Nat.add_assoc, Nat.add_comm 1 x] using this) _ st' c' a' (by simpa using hls) (fun x hx => ?_) k1 k2 k3 k4 k5
      by_cases hxj : x = j
      · subst hxj
        rw [getD_set_self (by omega)]; simp
      · rw [getD_set_ne _ (Ne.symm hxj), hl x hx]
        simp only [decide_eq_decide]
        omega

theorem band_apart {ctr n : Nat} {d d' : Option Nat} (h1 : smallO d = true) (h2 : smallO d' = true) (hne : d ≠ d') (hb : nmOf ctr d ≤ n ∧ n < nmOf ctr d + 64) (hb' : nmOf ctr d' ≤ n ∧ n < nmOf ctr d' + 64) : False := by
  unfold nmOf at hb hb'
  cases d with
  | none =>
    cases d' with
    | none => exact hne rfl
    | some y =>
      have : y < 1000 := by simpa [smallO] using h2
      simp only at hb hb'
      omega
  | some x =>
    have h3 : x < 1000 := by simpa [smallO] using h1
    cases d' with
    | none => simp only at hb hb'; omega
    | some y =>
      have : x ≠ y := fun e => hne (by rw [e])
      simp only at hb hb'
      omega

structure SF (cx : Cx) (dst : Nat → Option Nat) (E : Nat → V cx.ty) (s0 : Nat → V cx.ty) (p len ctr lo : Nat) (D F : List Nat) (dd : Nat → List Nat) (X : Nat → Bool) (c : Ct cx.ty) (a : Act) : Prop where
  wf : Wf cx c
  size : a.tmps.size = len
  rep : ∀ t, RepV cx c (vOf dst E s0 p X t) (a.tmps.getD t undef)
  defers : a.defers = []
  dead : ∀ n, n ∈ c.D ↔ n ∈ D ∨ ∃ i, i < p ∧ X i = true ∧ n ∈ dd i
  frz : ∀ n, n ∈ c.F ↔ n ∈ F
  names : ∀ n, Nm c n → n < ctr * 65536 ∨ ∃ i, i < p ∧ X i = true ∧ nmOf ctr (dst i) ≤ n ∧ n < nmOf ctr (dst i) + 64
  kp : ∀ q u, (q, u) ∈ c.K → q < lo ∧ a.tmps.getD q undef = u

theorem exists_least {q : Nat → Prop} : ∀ (n : Nat), q n → ∃ m, m ≤ n ∧ q m ∧ ∀ k, k < m → ¬ q k := by
  intro n
  induction n using Nat.strongRecOn with
  | _ n ih =>
    intro h
    rcases Classical.em (∃ k, k < n ∧ q k) with ⟨k, hk, hq⟩ | hno
    · obtain ⟨m, h1, h2, h3⟩ := ih k hk hq
      exact ⟨m, by omega, h2, h3⟩
    · exact ⟨n, Nat.le_refl _, h, fun k hk hq => hno ⟨k, hk, hq⟩⟩

theorem count_flip (listed : Array Bool) (j : Nat) (hj : j < listed.size) (hf : listed.getD j false = false) : ∀ p, (List.range p).countP (fun i => !listed.getD i false) = (List.range p).countP (fun i => !(listed.setIfInBounds j true).getD i false) + (if j < p then 1 else 0)
  | 0 => by simp
  | p + 1 => by
    rw [List.range_succ, List.countP_append, List.countP_append, count_flip listed j hj hf p]
    by_cases h : j = p
    · subst h
      have e1 : (listed.setIfInBounds j true).getD j false = true := getD_set_self hj false
      simp only [List.countP_singleton, hf, e1, Bool.not_false, Bool.not_true, if_true, Nat.lt_irrefl, if_false, Nat.lt_succ_self, Nat.add_zero]
      simp
    · have e1 : (listed.setIfInBounds j true).getD p false = listed.getD p false := getD_set_ne false h
      rw [List.countP_singleton, List.countP_singleton, e1]
      have h2 : (j < p + 1) ↔ (j < p) := by omega
      simp only [h2]
      omega

/-- The first 'p' operations, in whatever order. -/
theorem pre_any {W : World} {S N : Nat → Prop} {KK : List (Nat × Value)} {ops : Array Oper} {p : Nat} (hp : p ≤ ops.size) (hearly : earlyB ops p = true) (hlate : lateB ops p = true) {Q : Exit → Act → World → Prop}
    {slots E : List (V cx.ty)} {dd : List (List Nat)} {ctr lo : Nat} {D F : List Nat} (hE : E.length = p)
    (hfact : ∀ (j : Nat) o v, (ops.toList.take p)[j]? = some o → E[j]? = some v → OpFact P cx ops D F ctr slots.length lo o (fillL ((ops.toList.take p).take j) (E.take j) slots) v (dd.getD j []) (fun n => ∃ i, i ≠ j ∧ n ∈ dd.getD i []))
    (hend : ∀ (listed : Array Bool) (c : Ct cx.ty) (a : Act), listed.size = ops.size → (∀ x, x < ops.size → listed.getD x false = decide (x < p)) → SF cx (fun i => ((ops.toList.take p)[i]?).bind (·.dst)) (fun i => E.getD i junk) (fun t => slots.getD t junk) p slots.length ctr lo D F (fun i => dd.getD i []) (fun i => listed.getD i false) c a →
      c.S = S → (c.N = N ∧ c.K = KK) → Kept N W c.w → wpAny P .any ops Q (ops.size - p) listed a c.w) :
    ∀ (m : Nat) (listed : Array Bool) (c : Ct cx.ty) (a : Act), listed.size = ops.size → ClosedL ops listed → (∀ i, p ≤ i → listed.getD i false = false) → (List.range p).countP (fun i => !listed.getD i false) = m →
      SF cx (fun i => ((ops.toList.take p)[i]?).bind (·.dst)) (fun i => E.getD i junk) (fun t => slots.getD t junk) p slots.length ctr lo D F (fun i => dd.getD i []) (fun i => listed.getD i false) c a → c.S = S → (c.N = N ∧ c.K = KK) → Kept N W c.w →
      wpAny P .any ops Q (m + (ops.size - p)) listed a c.w
  | 0, listed, c, a, hls, _, hbehind, hm, h, hS, hb, hbl => by
    rw [Nat.zero_add]
    refine hend listed c a hls (fun x hx => ?_) h hS hb hbl
    by_cases hxp : x < p
    · have := List.countP_eq_zero.1 hm x (List.mem_range.2 hxp)
      simpa [hxp] using this
    · rw [hbehind x (by omega)]
      simpa using hxp
  | m + 1, listed, c, a, hls, hcl, hbehind, hm, h, hS, hb, hbl => by
    have hops : ∀ j, j < p → ∃ o, ops[j]? = some o ∧ (ops.toList.take p)[j]? = some o := by
      intro j hj
      have hjs : j < ops.size := by omega
      exact ⟨ops[j], Array.getElem?_eq_getElem hjs, by rw [List.getElem?_take, if_pos hj]; simp [hjs]⟩
    have hl0 : (ops.toList.take p).length = p := by simp; omega
    have hdist : ∀ t i j, i < p → j < p → ((ops.toList.take p)[i]?).bind (·.dst) = some t → ((ops.toList.take p)[j]?).bind (·.dst) = some t → i = j := by
      have key : ∀ t i j, i < j → j < p → ((ops.toList.take p)[i]?).bind (·.dst) = some t → ((ops.toList.take p)[j]?).bind (·.dst) = some t → False := by
        intro t i j hij hj h1 h2
        obtain ⟨oi, a1, a2⟩ := hops i (by omega)
        obtain ⟨oj, b1, b2⟩ := hops j hj
        rw [a2] at h1
        rw [b2] at h2
        have h1 : oi.dst = some t := h1
        have h2 : oj.dst = some t := h2
        exact (early_pair hearly hj hij a1 b1).2 (by rw [h1, h2])
      intro t i j hi hj h1 h2
      rcases Nat.lt_trichotomy i j with hlt | heq | hgt
      · exact (key t i j hlt hj h1 h2).elim
      · exact heq
      · exact (key t j i hgt hi h2 h1).elim
    -- one is left
    have hex : ∃ i, i < p ∧ listed.getD i false = false := by
      have hpos : 0 < (List.range p).countP (fun i => !listed.getD i false) := by omega
      obtain ⟨i, hi, hi2⟩ := List.countP_pos_iff.1 hpos
      exact ⟨i, List.mem_range.1 hi, by simpa using hi2⟩
    obtain ⟨i0, hi0, hu0⟩ := hex
    rw [show m + 1 + (ops.size - p) = (m + (ops.size - p)) + 1 by omega]
    refine ⟨fun hnil => ?_, fun j hj => ?_⟩
    · obtain ⟨i1, hle, ⟨hi1, hu1⟩, hleast⟩ := exists_least (q := fun i => i < p ∧ listed.getD i false = false) i0 ⟨hi0, hu0⟩
      obtain ⟨o1, ho1, _⟩ := hops i1 hi1
      have : i1 ∈ Region.ready .any ops listed := by
        refine ready_iff.2 ⟨by rw [getD_flip (by omega)]; exact hu1, ⟨o1, ho1⟩, fun x hx => ?_⟩
        have hx1 := early_after hearly (by omega) x hx
        rcases hxx : listed.getD x false with _ | _
        · exact absurd ⟨by omega, hxx⟩ (hleast x hx1)
        · rfl
      rw [hnil] at this
      cases this
    · obtain ⟨h1, ⟨oj, hoj⟩, h2⟩ := ready_iff.1 hj
      have hjs : j < ops.size := (Array.getElem?_eq_some_iff.1 hoj).1
      rw [getD_flip (by omega)] at h1
      have hjp : j < p := by
        rcases Nat.lt_or_ge j p with hlt | hge
        · exact hlt
        · have h3 := clos_listed hcl 3 _ h2 i0 (late_all hlate hjs hge (by omega))
          rw [hu0] at h3
          cases h3
      obtain ⟨oj', hoj', hlj⟩ := hops j hjp
      rw [hoj] at hoj'
      simp only [Option.some.injEq] at hoj'
      subst hoj'
      obtain ⟨v, hv⟩ : ∃ v, E[j]? = some v := ⟨_, List.getElem?_eq_getElem (by omega)⟩
      have hf := hfact j oj v hlj hv
      obtain ⟨hsm, hlo, hdl, hf⟩ := hf
      -- the slots that it looks at are as in the text's order
      have hlook : ∀ t, t ∈ oj.looksAt ops → vOf (fun i => ((ops.toList.take p)[i]?).bind (·.dst)) (fun i => E.getD i junk) (fun t => slots.getD t junk) p (fun i => listed.getD i false) t =
          (fillL ((ops.toList.take p).take j) (E.take j) slots).getD t junk := by
        intro t ht
        have hfv := fill_vOf (l := ops.toList.take p) (E := E) (s := slots) (by omega) (fun x o d e1 e2 => by
          have hx : x < p := by have := (List.getElem?_eq_some_iff.1 e1).1; omega
          obtain ⟨vx, hvx⟩ : ∃ v, E[x]? = some v := ⟨_, List.getElem?_eq_getElem (by omega)⟩
          exact (hfact x o vx e1 hvx).2.2.1 d e2) (fun t a b ha hb => hdist t a b (by omega) (by omega)) j (by omega) t
        rw [hl0] at hfv
        rw [hfv]
        apply vOf_congr
        intro i hi hti
        obtain ⟨oi, ho1, ho2⟩ := hops i hi
        rw [ho2] at hti
        have hti : oi.dst = some t := hti
        rcases Nat.lt_trichotomy i j with hlt | heq | hgt
        · have hpair := (early_pair hearly hjp hlt ho1 hoj).1
          rcases hpair with hp1 | hp1
          · rw [h2 i hp1]; simp [hlt]
          · exact absurd ht ((Oper.apart_spec hp1).1 t hti)
        · subst heq
          rw [h1]; simp
        · have hpair := (early_pair hearly hi hgt hoj ho1).1
          rcases hpair with hp1 | hp1
          · have hnl : listed.getD i false = false := by
              rcases hli : listed.getD i false with _ | _
              · rfl
              · have := hcl i hli j hp1
                rw [h1] at this
                cases this
            rw [hnl]; simp; omega
          · exact absurd ht ((Oper.apart_spec hp1).2.2 t hti)
      -- behind it
      have step : ∀ (c' : Ct cx.ty) (a' : Act), Wf cx c' → a'.tmps.size = slots.length → a'.defers = [] → (∀ n, n ∈ c'.D ↔ n ∈ dd.getD j [] ∨ n ∈ c.D) → (∀ n, n ∈ c'.F ↔ n ∈ F) → c'.S = S → (c'.N = N ∧ c'.K = KK) → Kept N W c'.w →
          (∀ n, Nm c' n → Nm c n ∨ (nmOf ctr oj.dst ≤ n ∧ n < nmOf ctr oj.dst + 64)) →
          (∀ t, RepV cx c' (if oj.dst = some t then v else vOf (fun i => ((ops.toList.take p)[i]?).bind (·.dst)) (fun i => E.getD i junk) (fun t => slots.getD t junk) p (fun i => listed.getD i false) t) (a'.tmps.getD t undef)) → (∀ q u, (q, u) ∈ c'.K → q < lo ∧ a'.tmps.getD q undef = u) →
          wpAny P .any ops Q (m + (ops.size - p)) (listed.setIfInBounds j true) a' c'.w := by
        intro c' a' k1 k2 k3 k4 k5 k6 k7 k8 k9 k10 k11
        refine pre_any hp hearly hlate hE hfact hend m _ c' a' (by simpa using hls) ?_ ?_ ?_ ⟨k1, k2, fun t => ?_, k3, fun n => ?_, k5, fun n hn => ?_, k11⟩ k6 k7 k8
        · intro y hy x hx
          by_cases hyj : y = j
          · subst hyj
            exact getD_set_true (h2 x hx)
          · rw [getD_set_ne false (Ne.symm hyj)] at hy
            exact getD_set_true (hcl y hy x hx)
        · intro i hi
          rw [getD_set_ne false (by omega)]
          exact hbehind i hi
        · have := count_flip listed j (by omega) h1 p
          rw [if_pos hjp] at this
          omega
        · have hk := k10 t
          by_cases hd : oj.dst = some t
          · rw [if_pos hd] at hk
            rw [vOf_hit (i := j) (fun a b ha hb => hdist t a b ha hb) hjp (getD_set_self (by omega) false) (by rw [hlj]; exact hd)]
            simpa [List.getD, hv] using hk
          · rw [if_neg hd] at hk
            have : vOf (fun i => ((ops.toList.take p)[i]?).bind (·.dst)) (fun i => E.getD i junk) (fun t => slots.getD t junk) p (fun i => (listed.setIfInBounds j true).getD i false) t =
                vOf (fun i => ((ops.toList.take p)[i]?).bind (·.dst)) (fun i => E.getD i junk) (fun t => slots.getD t junk) p (fun i => listed.getD i false) t := by
              apply vOf_congr
              intro i hi hti
              have hij : i ≠ j := by
                intro e
                subst e
                rw [hlj] at hti
                exact hd hti
              exact getD_set_ne false (Ne.symm hij)
            rw [this]
            exact hk
        · rw [k4 n, h.dead n]
          constructor
          · rintro (hn | hn | ⟨i, hi, hX, hn⟩)
            · exact .inr ⟨j, hjp, getD_set_self (by omega) false, hn⟩
            · exact .inl hn
            · exact .inr ⟨i, hi, getD_set_true hX, hn⟩
          · rintro (hn | ⟨i, hi, hX, hn⟩)
            · exact .inr (.inl hn)
            · by_cases hij : i = j
              · subst hij
                exact .inl hn
              · rw [getD_set_ne false (Ne.symm hij)] at hX
                exact .inr (.inr ⟨i, hi, hX, hn⟩)
        · rcases k9 n hn with hn | hn
          · rcases h.names n hn with hn | ⟨i, hi, hX, hn⟩
            · exact .inl hn
            · exact .inr ⟨i, hi, getD_set_true hX, hn⟩
          · exact .inr ⟨j, hjp, getD_set_self (by omega) false, by rw [hlj]; exact hn⟩
      have hrep : ∀ t, RepV cx c (vOf (fun i => ((ops.toList.take p)[i]?).bind (·.dst)) (fun i => E.getD i junk) (fun t => slots.getD t junk) p (fun i => listed.getD i false) t) (a.tmps.getD t undef) := h.rep
      have put : ∀ {c' : Ct cx.ty} {u : Value}, (∀ t, RepV cx c' (vOf (fun i => ((ops.toList.take p)[i]?).bind (·.dst)) (fun i => E.getD i junk) (fun t => slots.getD t junk) p (fun i => listed.getD i false) t) (a.tmps.getD t undef)) → RepV cx c' v u →
          ∀ t, RepV cx c' (if oj.dst = some t then v else vOf (fun i => ((ops.toList.take p)[i]?).bind (·.dst)) (fun i => E.getD i junk) (fun t => slots.getD t junk) p (fun i => listed.getD i false) t) ((a.put oj.dst u).tmps.getD t undef) := by
        intro c' u g1 g2 t
        cases hd : oj.dst with
        | none => simpa [Act.put] using g1 t
        | some d =>
          by_cases hdt : d = t
          · subst hdt
            have hdd := hdl d hd
            have e2 : (a.put (some d) u).tmps.getD d undef = u := by simp [Act.put, h.size, hdd]
            rw [if_pos rfl, e2]
            exact g2
          · have e2 : (a.put (some d) u).tmps.getD t undef = a.tmps.getD t undef := by simp [Act.put, Array.getElem?_setIfInBounds_ne hdt]
            rw [if_neg (by simpa using hdt), e2]
            exact g1 t
      have psize : ∀ u, (a.put oj.dst u).tmps.size = slots.length := by
        intro u
        cases oj.dst <;> simp [Act.put, h.size]
      have hguard : ∀ g want b, oj.guard = some (g, want) → guardV ops (fillL ((ops.toList.take p).take j) (E.take j) slots) g = some b → yielded ops a.tmps g = some b := by
        intro g want b hg hb'
        unfold guardV at hb'
        cases hd : (ops[g]?).bind (·.dst) with
        | none => simp [hd] at hb'
        | some d =>
          simp only [hd] at hb'
          have hl := hlook d (mem_looks_guard hg hd)
          rw [← hl] at hb'
          have hr := hrep d
          split at hb'
          · rename_i b' hbb
            simp only [Option.some.injEq] at hb'
            subst hb'
            rw [hbb] at hr
            have hr : a.tmps.getD d undef = .bool b' := hr
            unfold yielded
            simp only [hd, Option.bind_some]
            cases ht : a.tmps[d]? with
            | none => simp [Array.getD_eq_getD_getElem?, ht, undef] at hr
            | some x =>
              have hx : x = .bool b' := by simpa [Array.getD_eq_getD_getElem?, ht] using hr
              rw [hx]
          · simp at hb'
      have hguardU : ∀ g want, oj.guard = some (g, want) → guardU ops (fillL ((ops.toList.take p).take j) (E.take j) slots) g = true → yielded ops a.tmps g = none := by
        intro g want hg hb'
        unfold guardU at hb'
        cases hd : (ops[g]?).bind (·.dst) with
        | none => simp [hd] at hb'
        | some d =>
          simp only [hd] at hb'
          have hl := hlook d (mem_looks_guard hg hd)
          rw [← hl] at hb'
          have hr := hrep d
          split at hb'
          · simp at hb'
          · rename_i v hnb hv
            rw [hv] at hr
            have hr : a.tmps.getD d undef = v := hr
            unfold yielded
            simp only [hd, Option.bind_some]
            cases ht : a.tmps[d]? with
            | none => rfl
            | some x =>
              have hx : x = v := by simpa [Array.getD_eq_getD_getElem?, ht] using hr
              subst hx
              cases x with
              | bool b => exact absurd rfl (hnb b)
              | _ => rfl
          · simp at hb'
      unfold wpOp
      simp only [hoj]
      have hnd : ∀ n, n ∉ D → (¬ ∃ i, i ≠ j ∧ n ∈ dd.getD i []) → n ∉ c.D := fun n q1 q2 q3 => by
        rcases (h.dead n).1 q3 with q3 | ⟨i, hi, hX, q3⟩
        · exact q1 q3
        · refine q2 ⟨i, fun e => ?_, q3⟩
          subst e
          rw [h1] at hX
          cases hX
      rcases hf with ⟨ef, hgo, heff, rfl, hfz, hdj, hrd, hlv⟩ | ⟨hvj, hdj, g, want, hg, hnw⟩
      · have hwant : Region.wanted oj (yielded ops a.tmps) = true := by
          unfold guardOk at hgo
          unfold Region.wanted
          split at hgo
          · rename_i hg; rw [hg]
          · rename_i g want hg
            obtain ⟨b, hb', hbw⟩ := hgo
            rw [hg]
            simp only
            rw [hguard g want b hg hb']
            simpa using hbw
        rw [if_pos hwant]
        refine .inl (Oper.wp_of_runs ?_)
        have hrun := heff.go c a.eval h.wf (fun x hx => ?_) (fun n hn => ⟨hnd n (hlv n hn).1.1 (hlv n hn).2, fun hF => (hlv n hn).1.2 ((h.frz n).1 hF)⟩) (fun n hn => hnd n (hrd n hn).1 (hrd n hn).2) (fun n hn hband => ?_)
        · refine hrun.mono fun u w' ⟨T', hg⟩ => ?_
          exact step (c.nx ef w' T') _ hg.wf (psize u) (by rw [put_defers]; exact h.defers) (fun n => by rw [← hdj]; exact List.mem_append) (fun n => by show n ∈ ef.frz ++ c.F ↔ n ∈ F; rw [hfz]; exact h.frz n) hS hb (hbl.trans (by rw [← hb.1]; exact hg.below)) hg.names
            (put (fun t => RepV.pres cx hg.pres (hrep t)) hg.rep) (fun q u' hq => ⟨(h.kp q u' hq).1, (put_lo hlo u (h.kp q u' hq).1).trans (h.kp q u' hq).2⟩)
        · cases x with
          | tmp t =>
            have := hlook t (mem_looks_operand hx)
            show RepV cx c ((fillL ((ops.toList.take p).take j) (E.take j) slots).getD t junk) (a.tmps.getD t undef)
            rw [← this]
            exact hrep t
          | const v => exact rfl
          | global g => trivial
          | func f => exact rfl
        · rcases h.names n hn with hlt | ⟨i, hi, hX, hb1, hb2⟩
          · have : ctr * 65536 ≤ nmOf ctr oj.dst := Nat.le_add_right _ _
            omega
          · obtain ⟨oi, ho1, ho2⟩ := hops i hi
            rw [ho2] at hb1 hb2
            have hb1 : nmOf ctr oi.dst ≤ n := hb1
            have hb2 : n < nmOf ctr oi.dst + 64 := hb2
            have hij : i ≠ j := by
              intro e
              subst e
              rw [h1] at hX
              cases hX
            have hne : oi.dst ≠ oj.dst := by
              rcases Nat.lt_or_gt_of_ne hij with hlt | hgt
              · exact (early_pair hearly hjp hlt ho1 hoj).2
              · exact fun e => (early_pair hearly hi hgt hoj ho1).2 e.symm
            obtain ⟨vi, hvi⟩ : ∃ v, E[i]? = some v := ⟨_, List.getElem?_eq_getElem (by omega)⟩
            have hsi := (hfact i oi vi ho2 hvi).1
            exact band_apart hsi hsm hne ⟨hb1, hb2⟩ hband
      · have hwant : Region.wanted oj (yielded ops a.tmps) = false := by
          unfold Region.wanted
          rw [hg]
          simp only
          rcases hnw with ⟨b, hb', hbw⟩ | hu
          · rw [hguard g want b hg hb']
            simpa using hbw
          · rw [hguardU g want hg hu]
            rfl
        rw [if_neg (by simp [hwant])]
        refine step c _ h.wf (psize undef) (by rw [put_defers]; exact h.defers) (fun n => by rw [hdj]; simp) h.frz hS hb hbl (fun n hn => .inl hn) (put hrep (by rw [hvj]; exact rfl)) (fun q u' hq => ⟨(h.kp q u' hq).1, (put_lo hlo undef (h.kp q u' hq).1).trans (h.kp q u' hq).2⟩)

end
end Go.VM

namespace Go.VM
open Go.RowKit
section
variable {cx : Cx} {P : Program}

/-! ### Rows of which an early operation takes a piece: they are frozen ahead of the region -/
def rnL {ty : Nat → Type} (ns : List Nat) : L ty → L ty
  | some (.inr s) => if s.own == 1 && ns.contains s.nm then some (.inr (ro s.e s.xs)) else some (.inr s)
  | l => l

def rnA {ty : Nat → Type} (ns : List Nat) : A ty → A ty
  | .inl l => .inl (rnL ns l)
  | .inr l => .inr (l.map (rnL ns))

def rnV {ty : Nat → Type} (ns : List Nat) : V ty → V ty
  | .inl a => .inl (rnA ns a)
  | .inr (.inl l) => .inr (.inl (l.map (rnA ns)))
  | .inr (.inr p) => if p.kind == 0 then .inr (.inr { p with cells := p.cells.map (rnL ns) }) else .inr (.inr p)

def rnT {ty : Nat → Type} (ns : List Nat) (tk : Tk ty) : Tk ty := match tk.c with
  | .inl _ => tk
  | .inr l => { tk with c := .inr (l.map (rnL ns)) }

theorem rnT_nm {ty : Nat → Type} (ns : List Nat) (tk : Tk ty) : (rnT ns tk).nm = tk.nm := by unfold rnT; split <;> rfl
theorem rnT_u {ty : Nat → Type} (ns : List Nat) (tk : Tk ty) : (rnT ns tk).u = tk.u := by unfold rnT; split <;> rfl
theorem rnT_fp {ty : Nat → Type} (ns : List Nat) (tk : Tk ty) : (rnT ns tk).fp = tk.fp := by unfold rnT; split <;> rfl
theorem rnT_row {ty : Nat → Type} {ns : List Nat} {tk : Tk ty} {s : SlD ty} (h : tk.c = .inl s) : rnT ns tk = tk := by unfold rnT; rw [h]
theorem rnT_box {ty : Nat → Type} {ns : List Nat} {tk : Tk ty} {l : List (L ty)} (h : tk.c = .inr l) : (rnT ns tk).c = .inr (l.map (rnL ns)) := by unfold rnT; rw [h]

/-- The table with the frozen rows shown as such. -/
def Ct.rn {ty : Nat → Type} (c : Ct ty) (ns : List Nat) : Ct ty := { c with T := c.T.map (rnT ns) }

theorem rn_rd {c : Ct cx.ty} {ns : List Nat} {b : Nat} (h : Rd c b) : Rd (c.rn ns) b := by
  refine ⟨h.1, h.2.1, fun tk ht => ?_⟩
  obtain ⟨t2, h2, rfl⟩ := List.mem_map.1 ht
  rw [rnT_u]
  exact h.2.2 t2 h2

theorem rnL_rep {c : Ct cx.ty} {ns : List Nat} (hns : ∀ n ∈ ns, n ∈ c.F ∧ n ∉ c.D) {l : L cx.ty} {u : Value} (h : RepLS cx c l u) : RepLS cx (c.rn ns) (rnL ns l) u := by
  match l, h with
  | none, _ => trivial
  | some (.inl v), h => exact h
  | some (.inr s), h =>
    unfold RepLS at h
    show RepLS cx (c.rn ns) (if s.own == 1 && ns.contains s.nm then some (.inr (ro s.e s.xs)) else some (.inr s)) u
    simp only at h
    by_cases h1 : s.own = 1
    · by_cases hm : s.nm ∈ ns
      · simp only [h1, if_true, (hns _ hm).2, (hns _ hm).1, if_false] at h
        have hc : (s.own == 1 && ns.contains s.nm) = true := by simp [h1, hm]
        rw [if_pos hc]
        obtain ⟨_, n, h⟩ := h
        exact ⟨n, RepL_mono cx (fun _ _ => rfl) (fun b hb => rn_rd hb) n _ u (repL_rof h)⟩
      · have hc : ¬ (s.own == 1 && ns.contains s.nm) = true := by simp [hm]
        rw [if_neg hc]
        simp only [h1, if_true] at h
        unfold RepLS
        simp only [h1, if_true]
        obtain ⟨hsl, h⟩ := h
        refine ⟨hsl, ?_⟩
        show if s.nm ∈ c.D then True else if s.nm ∈ c.F then _ else _
        split at h
        · rename_i hd; rw [if_pos hd]; trivial
        · rename_i hd
          rw [if_neg hd]
          split at h
          · rename_i hf
            rw [if_pos hf]
            obtain ⟨n, h⟩ := h
            exact ⟨n, RepL_mono cx (fun _ _ => rfl) (fun b hb => rn_rd hb) n _ u h⟩
          · rename_i hf
            rw [if_neg hf]
            obtain ⟨tk, k1, k2, k3, k4⟩ := h
            exact ⟨tk, List.mem_map.2 ⟨tk, k1, rnT_row k3⟩, k2, k3, k4⟩
    · have hc : ¬ (s.own == 1 && ns.contains s.nm) = true := by simp [h1]
      rw [if_neg hc]
      simp only [h1, if_false] at h
      unfold RepLS
      simp only [h1, if_false]
      obtain ⟨n, h⟩ := h
      exact ⟨n, RepL_mono cx (fun _ _ => rfl) (fun b hb => rn_rd hb) n _ u h⟩

theorem rnA_rep {c : Ct cx.ty} {ns : List Nat} (hns : ∀ n ∈ ns, n ∈ c.F ∧ n ∉ c.D) {a : A cx.ty} {u : Value} (h : RepA cx c a u) : RepA cx (c.rn ns) (rnA ns a) u := by
  match a, h with
  | .inl l, h => exact rnL_rep hns h
  | .inr l, ⟨us, hu, h⟩ => exact ⟨us, hu, h.mapE fun l u h => rnL_rep hns h⟩

theorem rnV_rep {c : Ct cx.ty} {ns : List Nat} (hns : ∀ n ∈ ns, n ∈ c.F ∧ n ∉ c.D) {v : V cx.ty} {u : Value} (h : RepV cx c v u) : RepV cx (c.rn ns) (rnV ns v) u := by
  match v, h with
  | .inl a, h => exact rnA_rep hns h
  | .inr (.inl l), ⟨us, hu, h⟩ =>
    refine ⟨us, hu, by rw [List.length_map]; exact h.1, fun j a u e1 e2 => ?_⟩
    rw [List.getElem?_map] at e1
    cases e0 : l[j]? with
    | none => rw [e0] at e1; simp at e1
    | some a0 =>
      rw [e0] at e1
      simp only [Option.map_some, Option.some.injEq] at e1
      subst e1
      exact rnA_rep hns (h.2 j a0 u e0 e2)
  | .inr (.inr p), h =>
    have el : ∀ {s : SlD cx.ty} {i b o : Nat}, RepEl cx c s i b o → RepEl cx (c.rn ns) s i b o := by
      rintro s i b o ⟨hb, x, hx, n, hr⟩
      refine ⟨rn_rd hb, x, hx, n, fun j l hl => ?_⟩
      obtain ⟨v, hv, hr⟩ := hr j l hl
      exact ⟨v, hv, RepL_mono cx (fun _ _ => rfl) (fun b hb => rn_rd hb) _ _ _ hr⟩
    have h : RepP cx c p u := h
    unfold rnV
    simp only
    by_cases hk0 : p.kind = 0
    · have hc : (p.kind == 0) = true := by simp [hk0]
      rw [if_pos hc]
      show RepP cx (c.rn ns) _ u
      unfold RepP at h ⊢
      simp only [hk0] at h ⊢
      obtain ⟨tk, k1, k2, k3, g, k4, k5⟩ := h
      exact ⟨rnT ns tk, List.mem_map.2 ⟨tk, k1, rfl⟩, (rnT_nm ns tk).trans k2, rnT_box k3, g, (rnT_u ns tk).trans k4, k5⟩
    · have hc : ¬ (p.kind == 0) = true := by simp [hk0]
      rw [if_neg hc]
      show RepP cx (c.rn ns) p u
      unfold RepP at h ⊢
      split at h
      · rename_i hk; exact absurd hk hk0
      · split at h
        · rename_i hd; show if p.nm ∈ c.D then _ else _; rw [if_pos hd]; trivial
        · rename_i hd
          show if p.nm ∈ c.D then _ else if p.nm ∈ c.F then _ else _
          rw [if_neg hd]
          split at h
          · rename_i hf
            rw [if_pos hf]
            obtain ⟨b, o, h1, h2⟩ := h
            exact ⟨b, o, h1, el h2⟩
          · rename_i hf
            rw [if_neg hf]
            obtain ⟨tk, k1, k2, k3, k4⟩ := h
            exact ⟨tk, List.mem_map.2 ⟨tk, k1, rnT_row k3⟩, k2, k3, k4⟩
      · obtain ⟨b, o, h1, h2⟩ := h
        exact ⟨b, o, h1, el h2⟩
      · trivial

theorem rnV_junk {ty : Nat → Type} (ns : List Nat) : rnV ns (junk : V ty) = junk := rfl

theorem RS.rn {c : Ct cx.ty} {st : St cx.ty} {a : Act} (h : RS cx c st a) {ns : List Nat} (hns : ∀ n ∈ ns, n ∈ c.F ∧ n ∉ c.D) : RS cx (c.rn ns) { st with slots := st.slots.map (rnV ns), pend := none } a := by
  refine ⟨⟨?_, ?_, ?_, ?_, h.wf.start, ?_, h.wf.size⟩, by simp [h.size], fun t => ?_, h.defers, h.dead, h.frz, fun n hn => ?_, h.kp, h.pr.keep rfl rfl (fun b _ => rfl), PdOK.none⟩
  · show ((c.T.map (rnT ns)).map (·.nm)).Nodup
    rw [List.map_map]
    have : ((fun t2 : Tk cx.ty => t2.nm) ∘ rnT ns) = fun t2 => t2.nm := funext (rnT_nm ns)
    rw [this]; exact h.wf.names
  · show ((c.T.map (rnT ns)).flatMap _).Nodup
    rw [List.flatMap_map]
    have : (fun t2 => vb (rnT ns t2).u ++ (rnT ns t2).fp) = fun t2 : Tk cx.ty => vb t2.u ++ t2.fp := funext fun t2 => by rw [rnT_u, rnT_fp]
    rw [this]; exact h.wf.nodup
  · intro t2 ht2 b hb
    obtain ⟨t3, h3, rfl⟩ := List.mem_map.1 ht2
    rw [rnT_u, rnT_fp] at hb
    exact h.wf.bound t3 h3 b hb
  · intro t2 ht2
    obtain ⟨t3, h3, rfl⟩ := List.mem_map.1 ht2
    have hold := h.wf.rep t3 h3
    cases hc : t3.c with
    | inl s =>
      rw [rnT_row hc]
      unfold TokRep at hold ⊢
      rw [hc] at hold ⊢
      simp only at hold ⊢
      obtain ⟨hv, hold⟩ := hold
      refine ⟨hv, ?_⟩
      split at hold
      · rename_i hso
        rw [if_pos hso]
        exact hold
      · rename_i hso
        rw [if_neg hso]
        obtain ⟨hf, us, n, hrow, hl2, hr⟩ := hold
        exact ⟨hf, us, n, hrow, hl2, fun j l v h1 h2 => RepL_mono cx (fun _ _ => rfl) (fun b hb => rn_rd hb) n l v (hr j l v h1 h2)⟩
    | inr l =>
      unfold TokRep at hold
      rw [hc] at hold
      obtain ⟨hf, g2, cur2, e2, hu2, hh2, hx⟩ := hold
      unfold TokRep
      rw [rnT_box hc]
      simp only
      rw [rnT_u, rnT_fp]
      exact ⟨hf, g2, cur2, e2, hu2, hh2, hx.mapE fun l u h => rnL_rep hns h⟩
  · intro t2 ht2
    obtain ⟨t3, h3, rfl⟩ := List.mem_map.1 ht2
    rw [rnT_nm]
    exact h.wf.live t3 h3
  · have : (st.slots.map (rnV ns)).getD t junk = rnV ns (st.slots.getD t junk) := by
      by_cases hlt : t < st.slots.length
      · simp [List.getD, hlt]
      · simp [List.getD, List.getElem?_eq_none (Nat.le_of_not_lt hlt), rnV_junk]
    show RepV cx _ ((st.slots.map (rnV ns)).getD t junk) _
    rw [this]
    exact rnV_rep hns (h.rep t)
  · rcases hn with ⟨t2, ht2, rfl⟩ | hn | hn
    · obtain ⟨t3, h3, rfl⟩ := List.mem_map.1 ht2
      rw [rnT_nm]
      exact h.names _ (.inl ⟨t3, h3, rfl⟩)
    · exact h.names _ (.inr (.inl hn))
    · exact h.names _ (.inr (.inr hn))

/-! Names of rows in the slots -/
def bnW {ty : Nat → Type} : V ty → List Nat
  | .inl (.inl l) => bnL l
  | .inl (.inr l) => l.flatMap bnL
  | .inr (.inr p) => if p.kind == 0 then p.cells.flatMap bnL else []
  | _ => []

theorem bnW_spec {c : Ct cx.ty} (hw : Wf cx c) {v : V cx.ty} {u : Value} (h : RepV cx c v u) {n : Nat} (hn : n ∈ bnW v) (hd : n ∉ c.D) : n ∈ c.F ∨ ∃ tk ∈ c.T, tk.nm = n ∧ ∃ s, tk.c = .inl s := by
  match v, h, hn with
  | .inl (.inl l), h, hn => exact bnL_spec (l := l) h hn hd
  | .inl (.inr l), h, hn => exact bnV_spec (v := .inl (.inr l)) h hn hd
  | .inr (.inl _), _, hn => simp [bnW] at hn
  | .inr (.inr p), h, hn =>
    unfold bnW at hn
    simp only at hn
    split at hn
    · rename_i hk
      have hk : p.kind = 0 := by simpa using hk
      have h : RepP cx c p u := h
      unfold RepP at h
      simp only [hk] at h
      obtain ⟨tk, ht, _, hcc, _⟩ := h
      have htr := hw.rep tk ht
      unfold TokRep at htr
      rw [hcc] at htr
      obtain ⟨_, g', cur, t, _, _, hcells⟩ := htr
      obtain ⟨a, ha, hn⟩ := List.mem_flatMap.1 hn
      obtain ⟨j, hj⟩ := List.getElem?_of_mem ha
      have hjl : j < cur.toList.length := by rw [hcells.1]; exact (List.getElem?_eq_some_iff.1 hj).1
      exact bnL_spec (hcells.2 j a _ hj (List.getElem?_eq_getElem hjl)) hn hd
    · simp at hn

/-- Rows are frozen. -/
def St.frzN {ty : Nat → Type} (st : St ty) (ns : List Nat) : St ty := { slots := st.slots.map (rnV ns), D := st.D, F := ns ++ st.F, ctr := st.ctr + 1, lo := st.lo, ps := st.ps }

theorem RS.frzN (ok : cx.Ok) {c : Ct cx.ty} {st : St cx.ty} {a : Act} (h : RS cx c st a) {ns : List Nat} (hns : ∀ n ∈ ns, n ∉ st.D ∧ ∃ v ∈ st.slots, n ∈ bnW v) :
    ∃ c', RS cx c' (st.frzN ns) a ∧ c'.w = c.w ∧ c'.S = c.S ∧ c'.N = c.N ∧ c'.K = c.K := by
  have hsrc : ∀ n ∈ ns, n ∈ c.F ∨ ∃ tk ∈ c.T, tk.nm = n ∧ ∃ s, tk.c = .inl s := fun n hn => by
    obtain ⟨hd, v, hv, hb⟩ := hns n hn
    obtain ⟨t, ht⟩ := List.getElem?_of_mem hv
    have hr := h.rep t
    rw [show st.slots.getD t junk = v by simp [List.getD, ht]] at hr
    exact bnW_spec h.wf hr hb (fun hx => hd ((h.dead n).1 hx))
  have hsl : ∀ tk ∈ c.T, tk.nm ∈ ns → ∃ s, tk.c = .inl s := fun t2 h2 hn2 => by
    rcases hsrc _ hn2 with h3 | ⟨t3, h3, h4, s, h5⟩
    · exact absurd h3 (h.wf.live t2 h2).2
    · have := uniq_tok h.wf h3 h2 h4
      subst this
      exact ⟨s, h5⟩
  have hgz := good_frz ok h.wf (nm0 := nmOf st.ctr none) (fn := ns) (r := []) (v := (junk : V cx.ty)) (u := undef) (fun n hn' => by
    rcases hsrc n hn' with h3 | ⟨t3, h3, h4, _⟩
    · exact .inr (.inr h3)
    · exact .inl ⟨t3, h3, h4⟩) hsl (fun _ _ _ _ => trivial)
  have h1 := h.app (d := none) rfl rfl hgz
  have h1 : RS cx (c.nx { v := (junk : V cx.ty), dead := [], frz := ns, live := [], read := [] } c.w (c.T.filter (fun tk => !ns.contains tk.nm))) { slots := st.slots, D := st.D, F := ns ++ st.F, ctr := st.ctr + 1, lo := st.lo, ps := st.ps } a := h1
  exact ⟨_, h1.rn (ns := ns) (fun n hn => ⟨List.mem_append.2 (.inl hn), fun hd => (hns n hn).1 ((h.dead n).1 (by simpa [Ct.nx] using hd))⟩), rfl, rfl, rfl, rfl⟩

/-! Which rows are taken pieces of: the early operations looked at from afar -/
def dryOp (P : Program) (slots : List (V cx.ty)) (o : Oper) : V cx.ty :=
  match o.op with
  | .move x => getV slots x
  | .assign x => getV slots x
  | .nilCheck x => getV slots x
  | .fieldAddr t x i => match getV slots x, fieldOf P t i with
    | .inr (.inr p), some f => if p.kind == 0 && p.i == 0 then .inr (.inr { p with off := p.off + f.offset }) else junk
    | _, _ => junk
  | .load t x => match getV slots x with
    | .inr (.inr p) => if p.kind == 0 && p.i == 0 then (match subV P t p.cells p.off with | some a => .inl a | none => junk) else junk
    | _ => junk
  | .field t x i => match getV slots x, fieldOf P t i with
    | .inl (.inr l), some f => (match subV P f.type l f.offset with | some a => .inl a | none => junk)
    | _, _ => junk
  | _ => junk

def sliceNm {ty : Nat → Type} (v : V ty) : List Nat := match v with
  | .inl (.inl l) => bnL l
  | _ => []

def dryNs (P : Program) : List Oper → List (V cx.ty) → List Nat
  | [], _ => []
  | o :: r, slots => (match o.op with | .slice _ x _ _ _ => sliceNm (getV slots x) | _ => []) ++ dryNs P r (setO slots o.dst (dryOp P slots o))

end
end Go.VM
namespace Go.VM
open Go.RowKit
section
variable {cx : Cx} {P : Program}

def goods (ops : Array Oper) : List Bool := (List.range ops.size).map fun r => (List.range r).all fun i => (clos ops 3 (afterOf ops r)).contains i

def cutP (ops : Array Oper) : Nat := ops.size - ((goods ops).reverse.takeWhile (fun b => b)).length

def evRegionB {β : Type} (P : Program) (Kc : Kt cx) (Kw : Kwt cx) (kt : Value → St cx.ty → Option β) (ops : Array Oper) (draw : Bool) (k : St cx.ty → Option β) (st : St cx.ty) : Option β :=
  if draw then
    if decide (cutP ops ≤ ops.size) && earlyB ops (cutP ops) && lateB ops (cutP ops) then
      evPre P Kc ops st.ctr st.slots.length st.lo st.F (fun slots D' => evSeq P Kc Kw kt ops k (ops.toList.drop (cutP ops)) { slots := slots, D := D', F := st.F, ctr := st.ctr + 1, lo := st.lo, ps := st.ps }) (ops.toList.take (cutP ops)) st.slots st.D []
    else none
  else evSeq P Kc Kw kt ops k ops.toList st

/-- The same table in a world whose blocks are the same. -/
def Ct.inw {ty : Nat → Type} (c : Ct ty) (w' : World) : Ct ty := { c with w := w' }

theorem pres_inw {c : Ct cx.ty} (h : Wf cx c) {w' : World} (hh : w'.heap = c.w.heap) : Pres cx c (c.inw w') := by
  refine ⟨fun b hb => ⟨⟨by show b < w'.heap.size; rw [hh]; exact hb.1, hb.2.1, hb.2.2⟩, by show w'.heap[b]? = _; rw [hh]⟩, fun _ h => h, fun _ h => h, fun _ h _ _ => h, fun _ h _ _ => h, fun tk ht _ _ _ hf => absurd hf (h.live tk ht).2⟩

theorem wf_inw {c : Ct cx.ty} (h : Wf cx c) {w' : World} (hh : w'.heap = c.w.heap) : Wf cx (c.inw w') :=
  ⟨h.names, h.nodup, fun tk ht b hb => ⟨(h.bound tk ht b hb).1, by show b < w'.heap.size; rw [hh]; exact (h.bound tk ht b hb).2⟩,
    fun tk ht => TokRep.pres cx (pres_inw h hh) (fun b _ => by show w'.heap[b]? = _; rw [hh]) (h.rep tk ht), h.start, h.live, fun b hb => h.size b (by rw [← hh]; exact hb)⟩

theorem RS.inw {c : Ct cx.ty} {st : St cx.ty} {a : Act} (h : RS cx c st a) {w' : World} (hh : w'.heap = c.w.heap) : RS cx (c.inw w') st a :=
  ⟨wf_inw h.wf hh, h.size, fun t => RepV.pres cx (pres_inw h.wf hh) (h.rep t), h.defers, h.dead, h.frz, h.names, h.kp, h.pr.keep rfl rfl (fun b _ => by show w'.heap[b]? = _; rw [hh]), fun d p hq => by
    obtain ⟨h1, h2, tk, h3, h4, h5, h6, g, n, cap, h7, h8⟩ := h.pd d p hq
    refine ⟨h1, h2, tk, h3, h4, h5, h6, g, n, cap, h7, ?_⟩
    show w'.cell? _ = _
    rw [World.cell?_of_block (show w'.heap[g]? = c.w.heap[g]? by rw [hh])]
    exact h8⟩

theorem evRegionB_any (ok : cx.Ok) (hZ : cx.POk P) {Kc : Kt cx} (hK : KOk P cx Kc) {Kw : Kwt cx} (hKw : KwOk P cx Kw) {β : Type} {W : World} {S N : Nat → Prop} {KK : List (Nat × Value)} {ops : Array Oper} {Q : Exit → Act → World → Prop} {k : St cx.ty → Option β} {kt : Value → St cx.ty → Option β} {r : β}
    (hQt : ∀ v c st a, RS cx c st a → c.S = S → (c.N = N ∧ c.K = KK) → Kept N W c.w → kt v st = some r → Q (.panic [{ v := v, recovered := false }]) a c.w)
    (hQ : ∀ c st a, RS cx c st a → c.S = S → (c.N = N ∧ c.K = KK) → Kept N W c.w → k st = some r → Q .normal a c.w)
    {st : St cx.ty} {c : Ct cx.ty} {a : Act} (h : RS cx c st a) (hS : c.S = S) (hb : (c.N = N ∧ c.K = KK)) (hbl : Kept N W c.w) (he : evRegionB P Kc Kw kt ops true k st = some r) : wpAny P .any ops Q ops.size (Array.replicate ops.size false) a { c.w with drawn := c.w.drawn + 1 } := by
  unfold evRegionB at he
  simp only [if_true] at he
  split at he
  · rename_i hc
    simp only [Bool.and_eq_true, decide_eq_true_eq] at hc
    obtain ⟨⟨hp, hearly⟩, hlate⟩ := hc
    obtain ⟨E, dd, D', hE, hk, hD', _, hfact⟩ := evPre_facts ok hZ hK _ _ _ _ he
    have hE : E.length = cutP ops := by rw [hE]; simp; omega
    have hbl' : Kept N W ({ c.w with drawn := c.w.drawn + 1 } : World) := Kept.drew hbl
    have h' : RS cx (c.inw { c.w with drawn := c.w.drawn + 1 }) st a := h.inw rfl
    have hdead0 : ∀ n, n ∈ (c.inw { c.w with drawn := c.w.drawn + 1 }).D ↔ n ∈ st.D ∨ ∃ i, i < cutP ops ∧ (Array.replicate ops.size false).getD i false = true ∧ n ∈ dd.getD i [] := fun n => by
      rw [h'.dead n]
      refine ⟨Or.inl, fun hn => hn.elim (fun h => h) ?_⟩
      rintro ⟨i, _, hX, _⟩
      exfalso
      have h0 : ∀ i, (Array.replicate ops.size false).getD i false = false := fun i => by simp [Array.getD_eq_getD_getElem?, Array.getElem?_replicate]; split <;> rfl
      rw [h0 i] at hX
      cases hX
    have hstart := pre_any (dd := dd) (Q := Q) (W := W) (S := S) hp hearly hlate (slots := st.slots) (ctr := st.ctr) (lo := st.lo) (KK := KK) (N := N) (D := st.D) (F := st.F) hE hfact (fun listed c' a' hls hl hsf h1 h2 h3 => ?_)
    · have := hstart (cutP ops) (Array.replicate ops.size false) (c.inw { c.w with drawn := c.w.drawn + 1 }) a (by simp) (fun i hi => by simp [Array.getD_eq_getD_getElem?, Array.getElem?_replicate] at hi; split at hi <;> simp at hi)
        (fun i _ => by simp [Array.getD_eq_getD_getElem?, Array.getElem?_replicate]; split <;> rfl)
        (by
          have : ∀ p, (List.range p).countP (fun i => !(Array.replicate ops.size false).getD i false) = p := by
            intro p
            have h0 : ∀ i, (Array.replicate ops.size false).getD i false = false := fun i => by simp [Array.getD_eq_getD_getElem?, Array.getElem?_replicate]; split <;> rfl
            simp [h0]
          exact this _)
        ⟨h'.wf, h'.size, fun t => by
          have h0 : ∀ i, (Array.replicate ops.size false).getD i false = false := fun i => by simp [Array.getD_eq_getD_getElem?, Array.getElem?_replicate]; split <;> rfl
          rw [vOf_miss (fun i _ hX => by rw [h0 i] at hX; cases hX)]
          exact h'.rep t, h'.defers, hdead0, h'.frz, fun n hn => .inl (h'.names n hn), h'.kp⟩ hS hb hbl'
      rw [show cutP ops + (ops.size - cutP ops) = ops.size by omega] at this
      exact this
    · have hlen : (ops.toList.drop (cutP ops)).length = ops.size - cutP ops := by simp
      rw [← hlen]
      refine suf_any ok hZ hK hKw hearly hlate hQt hQ (ops.toList.drop (cutP ops)) (cutP ops) (Nat.le_refl _) (by simp; omega) (fun j => by simp) listed _ c' a' hls hl ?_ h1 h2 h3 hk
      have hops : ∀ j, j < cutP ops → ∃ o, ops[j]? = some o ∧ (ops.toList.take (cutP ops))[j]? = some o := by
        intro j hj
        have hjs : j < ops.size := by omega
        exact ⟨ops[j], Array.getElem?_eq_getElem hjs, by rw [List.getElem?_take, if_pos hj]; simp [hjs]⟩
      have hl0 : (ops.toList.take (cutP ops)).length = cutP ops := by simp; omega
      refine ⟨hsf.wf, by rw [hsf.size, fillL_length], fun t => ?_, hsf.defers, fun n => ?_, hsf.frz, fun n hn => ?_, hsf.kp, h.pr.keep (h1.trans hS.symm) (h2.2.trans hb.2.symm) (fun b hb' => by
        have hn : ¬ N b := by rw [← hb.1]; exact h.wf.start b hb'
        rw [h3.block b hn, hbl.block b hn]), PdOK.none⟩
      · have hfv := fill_vOf (l := ops.toList.take (cutP ops)) (E := E) (s := st.slots) (by omega) (fun x o d e1 e2 => by
          have hx : x < cutP ops := by have := (List.getElem?_eq_some_iff.1 e1).1; omega
          obtain ⟨vx, hvx⟩ : ∃ v, E[x]? = some v := ⟨_, List.getElem?_eq_getElem (by omega)⟩
          exact (hfact x o vx e1 hvx).2.2.1 d e2) (fun t i j hi hj e1 e2 => by
            have key : ∀ i j, i < j → j < cutP ops → ((ops.toList.take (cutP ops))[i]?).bind (·.dst) = some t → ((ops.toList.take (cutP ops))[j]?).bind (·.dst) = some t → False := by
              intro i j hij hj h1 h2
              obtain ⟨oi, a1, a2⟩ := hops i (by omega)
              obtain ⟨oj, b1, b2⟩ := hops j hj
              rw [a2] at h1
              rw [b2] at h2
              have h1 : oi.dst = some t := h1
              have h2 : oj.dst = some t := h2
              exact (early_pair hearly hj hij a1 b1).2 (by rw [h1, h2])
            rcases Nat.lt_trichotomy i j with hlt | heq | hgt
            · exact (key i j hlt (by omega) e1 e2).elim
            · exact heq
            · exact (key j i hgt (by omega) e2 e1).elim) (cutP ops) (by omega) t
        have e1 : (ops.toList.take (cutP ops)).take (cutP ops) = ops.toList.take (cutP ops) := List.take_of_length_le (by omega)
        have e2 : E.take (cutP ops) = E := List.take_of_length_le (by omega)
        rw [e1, e2, hl0] at hfv
        show RepV cx c' ((fillL (ops.toList.take (cutP ops)) E st.slots).getD t junk) _
        rw [hfv]
        have := hsf.rep t
        rwa [vOf_congr (Y := fun i => decide (i < cutP ops)) (fun i hi _ => by simp only [hl i (by omega)])] at this
      · show n ∈ c'.D ↔ n ∈ D'
        rw [hsf.dead n, hD' n, hl0]
        constructor
        · rintro (hn | ⟨i, hi, _, hn⟩)
          · exact .inl hn
          · exact .inr ⟨i, hi, hn⟩
        · rintro (hn | ⟨i, hi, hn⟩)
          · exact .inl hn
          · exact .inr ⟨i, hi, by rw [hl i (by omega)]; simpa using hi, hn⟩
      · rcases hsf.names n hn with hn | ⟨i, hi, _, hb1⟩
        · exact Nat.lt_of_lt_of_le hn (Nat.mul_le_mul_right _ (Nat.le_succ _))
        · obtain ⟨o, ho1, ho2⟩ := hops i hi
          obtain ⟨vi, hvi⟩ : ∃ v, E[i]? = some v := ⟨_, List.getElem?_eq_getElem (by omega)⟩
          have hsm := (hfact i o vi ho2 hvi).1
          rw [ho2] at hb1
          exact band_lt hsm hb1
  · simp at he

theorem evRegionB_ok (ok : cx.Ok) (hZ : cx.POk P) {Kc : Kt cx} (hK : KOk P cx Kc) {Kw : Kwt cx} (hKw : KwOk P cx Kw) (hm : P.follows .mixedOrders = true) {β : Type} {W : World} {S N : Nat → Prop} {KK : List (Nat × Value)} {id : Nat} {ops : Array Oper} {draw : Bool} {Q : Exit → Act → World → Prop} {k : St cx.ty → Option β} {kt : Value → St cx.ty → Option β} {r : β}
    (hQt : ∀ v c st a, RS cx c st a → c.S = S → (c.N = N ∧ c.K = KK) → Kept N W c.w → kt v st = some r → Q (.panic [{ v := v, recovered := false }]) a c.w)
    (hQ : ∀ c st a, RS cx c st a → c.S = S → (c.N = N ∧ c.K = KK) → Kept N W c.w → k st = some r → Q .normal a c.w)
    {st : St cx.ty} {c : Ct cx.ty} {a : Act} (h : RS cx c st a) (hS : c.S = S) (hb : (c.N = N ∧ c.K = KK)) (hbl : Kept N W c.w) (he : evRegionB P Kc Kw kt ops draw k st = some r) : (Code.region id ops draw).wp P Q a c.w := by
  cases draw with
  | false =>
    unfold evRegionB at he
    simp only [Bool.false_eq_true, if_false] at he
    have := evSeq_ok ok hZ hK hKw hQt hQ ops.toList 0 (fun j => by simp) st c a h hS hb hbl he
    refine wp_region ?_
    rw [List.range_eq_range']
    simpa using this
  | true => exact wp_region_any hm (evRegionB_any ok hZ hK hKw hQt hQ h hS hb hbl he)

/-! ### Operations that yield their values in whatever world: taken first -/
def flPt {ty : Nat → Type} (p : Pt ty) : Bool := (p.kind == 0 && p.i == 0) || (p.kind == 2 && p.nm == 0)

def isFl (o : Oper) : Bool := o.guard.isNone && (match o.op with
  | .move _ => true
  | .nilCheck _ => true
  | .fieldAddr _ _ _ => true
  | .binOp .add _ _ _ _ => true
  | .binOp .sub _ _ _ _ => true
  | _ => false)

def flIdx (ops : Array Oper) : List Nat :=
  (List.range ops.size).foldl (fun l i => match ops[i]? with
    | some o => if isFl o && (afterOf ops i).all (fun j => l.contains j) then l ++ [i] else l
    | none => l) []

def flEdges (fl : List Nat) (r : Nat) : Array Edge := ((fl.filter (fun i => decide (i < r))).map fun i => ({ on := i, ground := .data } : Edge)).toArray
def withFl (ops : Array Oper) (fl : List Nat) : Array Oper := ops.mapIdx fun r o => if fl.contains r then o else { o with after := o.after ++ flEdges fl r }

def flVal (P : Program) {ty : Nat → Type} (slots : List (V ty)) (o : Oper) : Option (V ty) :=
  match o.op with
  | .move x => some (getV slots x)
  | .nilCheck x => (match getV slots x with
    | .inr (.inr p) => if flPt p then some (.inr (.inr p)) else none
    | _ => none)
  | .fieldAddr t x i => (match getV slots x, fieldOf P t i with
    | .inr (.inr p), some f => if flPt p && (P.underlying f.type).isSome && P.cellsOf f.type != 0 then some junk else none
    | _, _ => none)
  | .binOp _ _ _ _ _ => if allVal slots o.op.operands.toList then
      (match pureV P (execOp (fun x => (toVal (getV slots x)).getD undef) o) with
      | some v => some (ofVal v)
      | none => none)
    else none
  | _ => none

theorem flPt_ptr {c : Ct cx.ty} {p : Pt cx.ty} (hp : flPt p = true) {u : Value} (hr : RepP cx c p u) : ∃ b o, u = .pointer (some ⟨b, o, none⟩) := by
  unfold flPt at hp
  simp only [Bool.or_eq_true, Bool.and_eq_true, beq_iff_eq] at hp
  unfold RepP at hr
  rcases hp with ⟨h1, h2⟩ | ⟨h1, h2⟩
  · simp only [h1, h2] at hr
    obtain ⟨tk, _, _, _, g, _, hu⟩ := hr
    exact ⟨g, p.off, hu⟩
  · simp only [h1] at hr
    obtain ⟨b, o2, hu, _⟩ := hr
    rw [h2] at hu
    exact ⟨b, _, hu⟩

theorem flVal_ok {c : Ct cx.ty} {slots : List (V cx.ty)} {a : Act} (hrep : ∀ t, RepV cx c (slots.getD t junk) (a.tmps.getD t undef)) {o : Oper} {v' : V cx.ty} (h : flVal P slots o = some v') :
    ∃ v, (∀ w, (execOp a.eval o).run P w = .ok (.value v) w) ∧ RepV cx c v' v := by
  unfold flVal at h
  split at h
  · rename_i x ho
    simp only [Option.some.injEq] at h
    subst h
    exact ⟨a.eval x, fun w => by unfold execOp; simp [ho], eval_rep hrep x⟩
  · rename_i x ho
    split at h
    · rename_i p hx
      split at h
      · rename_i hp
        simp only [Option.some.injEq] at h
        subst h
        have hr := eval_rep hrep x
        rw [hx] at hr
        obtain ⟨b, o2, hu⟩ := flPt_ptr hp (show RepP cx c p (a.eval x) from hr)
        exact ⟨a.eval x, fun w => by unfold execOp; simp [ho, hu], hr⟩
      · simp at h
    · simp at h
  · rename_i t x i ho
    split at h
    · rename_i p f hx hf
      split at h
      · rename_i hp
        simp only [Bool.and_eq_true, bne_iff_ne, ne_eq] at hp
        obtain ⟨⟨hp, hs⟩, hz⟩ := hp
        simp only [Option.some.injEq] at h
        subst h
        have hr := eval_rep hrep x
        rw [hx] at hr
        obtain ⟨b, o2, hu⟩ := flPt_ptr hp (show RepP cx c p (a.eval x) from hr)
        obtain ⟨d, hd⟩ := Option.isSome_iff_exists.1 hs
        refine ⟨.pointer (some ⟨b, o2 + f.offset, none⟩), fun w => ?_, by show RepV cx c junk _; exact trivial⟩
        unfold fieldOf at hf
        split at hf
        · rename_i fs hfs
          unfold execOp
          simp [ho, Instr.fieldAt, Instr.sureAddr, run_underlying hfs, hf, hu, fieldPlace, run_sizeOf' hd, hz, Addr.add_lit]
        · simp at hf
      · simp at h
    · simp at h
  · rename_i ho
    split at h
    · rename_i hc
      split at h
      · rename_i v hv
        simp only [Option.some.injEq] at h
        subst h
        refine ⟨v, fun w => ?_, ofVal_rep v⟩
        rw [execOp_congr (ρ := a.eval) (ρ' := fun x => (toVal (getV slots x)).getD undef) o ?_ ?_]
        · exact pureV_run w _ _ hv
        · intro cs b e; rw [e] at ho; simp at ho
        · intro x hx
          obtain ⟨y, hy⟩ := allVal_spec _ hc x (by simpa using hx)
          show a.eval x = (toVal (getV slots x)).getD undef
          rw [hy]
          exact toVal_rep (eval_rep hrep x) hy
      · simp at h
    · simp at h
  · simp at h

/-- May the floating operations be taken first, one by one? -/
def flGo (P : Program) {ty : Nat → Type} (ops ops' : Array Oper) : List Nat → Array Bool → List (V ty) → Bool
  | [], _, _ => true
  | i :: l, listed, s => match ops[i]?, ops'[i]? with
    | some o, some _ => o.guard.isNone && Region.free .any ops listed i && (Region.ready .any ops listed).contains i && (Region.ready .any ops' listed).contains i && (match flVal P s o with
      | some v => flGo P ops ops' l (listed.setIfInBounds i true) (setO s o.dst v)
      | none => false)
    | _, _ => false

theorem withFl_get {ops : Array Oper} {fl : List Nat} {i : Nat} : (withFl ops fl)[i]? = (ops[i]?).map fun o => if fl.contains i then o else { o with after := o.after ++ flEdges fl i } := by
  unfold withFl
  simp [Array.getElem?_mapIdx]

theorem withFl_op {ops : Array Oper} {fl : List Nat} {Q : Exit → Act → World → Prop} {i : Nat} {K : Act → World → Prop} {a : Act} {w : World} (h : wpOp P (withFl ops fl) Q i K a w) : wpOp P ops Q i K a w := by
  have hy : ∀ tmps j, yielded (withFl ops fl) tmps j = yielded ops tmps j := fun tmps j => by
    unfold yielded
    rw [withFl_get]
    cases ops[j]? with
    | none => rfl
    | some o => simp only [Option.map_some, Option.bind_some]; cases fl.contains j <;> rfl
  have hy' : ∀ tmps, yielded (withFl ops fl) tmps = yielded ops tmps := fun tmps => funext (hy tmps)
  unfold wpOp at *
  rw [withFl_get] at h
  cases hi : ops[i]? with
  | none => rw [hi] at h; exact h
  | some o =>
    rw [hi] at h
    simp only [Option.map_some, hy'] at h
    split at h
    · exact h
    · exact h

theorem withFl_ready {ops : Array Oper} {fl : List Nat} {listed : Array Bool} (hl : ∀ i ∈ fl, listed.getD i false = true) {j : Nat} : j ∈ Region.ready .any (withFl ops fl) listed ↔ j ∈ Region.ready .any ops listed := by
  rw [mem_ready, mem_ready, withFl_get]
  refine and_congr_right fun _ => ?_
  cases ops[j]? with
  | none => simp
  | some o =>
    simp only [Option.map_some, Option.some.injEq, exists_eq_left']
    split
    · rfl
    · constructor
      · intro h e he hb
        exact h e (Array.mem_append.2 (.inl he)) hb
      · intro h e he hb
        rcases Array.mem_append.1 he with he | he
        · exact h e he hb
        · unfold flEdges at he
          simp only [List.mem_toArray, List.mem_map, List.mem_filter] at he
          obtain ⟨i, ⟨hi, _⟩, rfl⟩ := he
          exact hl i hi

theorem any_withFl {ops : Array Oper} {fl : List Nat} {Q : Exit → Act → World → Prop} : ∀ (fuel : Nat) (listed : Array Bool) (a : Act) (w : World), (∀ i ∈ fl, listed.getD i false = true) → wpAny P .any (withFl ops fl) Q fuel listed a w → wpAny P .any ops Q fuel listed a w
  | 0, listed, a, w, hl, h => by
      refine ⟨List.eq_nil_iff_forall_not_mem.2 fun j hj => ?_, h.2⟩
      have := (withFl_ready hl).2 hj
      rw [h.1] at this
      cases this
  | fuel + 1, listed, a, w, hl, h => by
      refine ⟨fun hr => h.1 (List.eq_nil_iff_forall_not_mem.2 fun j hj => ?_), fun i hi => ?_⟩
      · have := (withFl_ready hl).1 hj
        rw [hr] at this
        cases this
      refine wpOp_mono (fun a' w' h' => any_withFl fuel _ a' w' (fun x hx => ?_) h') (withFl_op (h.2 i ((withFl_ready hl).2 hi)))
      exact getD_set_true (hl x hx)

theorem fl_any {ops : Array Oper} {fl : List Nat} {Q : Exit → Act → World → Prop} (hQn : ∀ e a w, Q e a w → e = .normal) (hsel : Region.noSelect ops = true) {c : Ct cx.ty} :
    ∀ (l : List Nat) (listed : Array Bool) (a : Act) (w : World) (slots : List (V cx.ty)) (fuel : Nat), flGo P ops (withFl ops fl) l listed slots = true → (∀ t, RepV cx c (slots.getD t junk) (a.tmps.getD t undef)) → a.tmps.size = slots.length →
      (∀ i ∈ fl, i ∈ l ∨ listed.getD i false = true) → wpAny P .any (withFl ops fl) Q fuel listed a w → wpAny P .any ops Q fuel listed a w
  | [], listed, a, w, slots, fuel, _, _, _, hl, h => any_withFl fuel listed a w (fun i hi => (hl i hi).resolve_left (by simp)) h
  | i :: l, listed, a, w, slots, fuel, hgo, hrep, hsz, hl, h => by
    simp only [flGo] at hgo
    split at hgo
    · rename_i o o' ho ho'
      simp only [Bool.and_eq_true, Option.isNone_iff_eq_none] at hgo
      obtain ⟨⟨⟨⟨hg, hfree⟩, hr1⟩, hr2⟩, hgo⟩ := hgo
      split at hgo
      · rename_i v' hv
        obtain ⟨v, hrun, hrv⟩ := flVal_ok hrep hv
        have hy : Yields P ops o v a := .inl ⟨by simp [Region.wanted, hg], hrun⟩
        match fuel, h with
        | 0, h => rw [h.1] at hr2; simp at hr2
        | n + 1, h =>
          have h1 := withFl_op (h.2 i (by simpa using hr2))
          have h2 : wpAny P .any (withFl ops fl) Q n (listed.setIfInBounds i true) (a.put o.dst v) w := by
            unfold wpOp at h1
            rw [ho] at h1
            have hwant : Region.wanted o (yielded ops a.tmps) = true := by simp [Region.wanted, hg]
            simp only [hwant, if_true] at h1
            rcases h1 with h1 | ⟨_, a2, w2, h1⟩
            · unfold Oper.wp at h1
              rw [hrun w] at h1
              exact h1
            · exact Exit.noConfusion (hQn _ _ _ h1)
          refine wpAny_take ho hsel hfree hr1 (fun c a w h => Exit.noConfusion (hQn _ _ _ h)) hy ?_
          refine fl_any hQn hsel l _ _ w (setO slots o.dst v') n hgo (fun t => put_rep hsz hrep o.dst hrv t) (put_size hsz o.dst _ _) (fun x hx => ?_) h2
          rcases hl x hx with h | h
          · rcases List.mem_cons.1 h with rfl | h
            · right
              have : x < listed.size ∨ listed.size ≤ x := Nat.lt_or_ge _ _
              rcases this with hlt | hge
              · simp [hlt]
              · have := (mem_ready.1 (show x ∈ Region.ready .any ops listed by simpa using hr1)).1
                simp [Array.getD_eq_getD_getElem?, Array.getElem?_eq_none hge] at this
            · exact .inl h
          · exact .inr (getD_set_true h)
      · simp at hgo
    · simp at hgo

def isLateOp {cx : Cx} (Kc : Kt cx) (o : Oper) : Bool := o.guard.isNone && (match o.op with
  | .store _ _ _ => true
  | .call c => (match c.callee with
    | .value (.func f) => (Kc f).isNone
    | _ => false)
  | _ => false)

/-- Is there an operation among the early ones that can't be among them? -/
def needFl (Kc : Kt cx) (ops : Array Oper) : Bool := (ops.toList.take (cutP ops)).any (isLateOp Kc)

def evRegionF {β : Type} (P : Program) (Kc : Kt cx) (Kw : Kwt cx) (kt : Value → St cx.ty → Option β) (ops : Array Oper) (draw : Bool) (k : St cx.ty → Option β) (st : St cx.ty) : Option β :=
  if draw && needFl Kc ops then
    (if Region.noSelect ops && flGo P ops (withFl ops (flIdx ops)) (flIdx ops) (Array.replicate ops.size false) st.slots then evRegionB P Kc Kw (fun _ _ => none) (withFl ops (flIdx ops)) true k st else none)
  else evRegionB P Kc Kw kt ops draw k st

theorem evRegionF_ok (ok : cx.Ok) (hZ : cx.POk P) {Kc : Kt cx} (hK : KOk P cx Kc) {Kw : Kwt cx} (hKw : KwOk P cx Kw) (hm : P.follows .mixedOrders = true) {β : Type} {W : World} {S N : Nat → Prop} {KK : List (Nat × Value)} {id : Nat} {ops : Array Oper} {draw : Bool} {Q : Exit → Act → World → Prop} {k : St cx.ty → Option β} {kt : Value → St cx.ty → Option β} {r : β}
    (hQt : ∀ v c st a, RS cx c st a → c.S = S → (c.N = N ∧ c.K = KK) → Kept N W c.w → kt v st = some r → Q (.panic [{ v := v, recovered := false }]) a c.w)
    (hQ : ∀ c st a, RS cx c st a → c.S = S → (c.N = N ∧ c.K = KK) → Kept N W c.w → k st = some r → Q .normal a c.w)
    {st : St cx.ty} {c : Ct cx.ty} {a : Act} (h : RS cx c st a) (hS : c.S = S) (hb : (c.N = N ∧ c.K = KK)) (hbl : Kept N W c.w) (he : evRegionF P Kc Kw kt ops draw k st = some r) : (Code.region id ops draw).wp P Q a c.w := by
  unfold evRegionF at he
  split at he
  · rename_i hd
    simp only [Bool.and_eq_true] at hd
    obtain ⟨rfl, _⟩ := hd
    split at he
    · rename_i hg
      simp only [Bool.and_eq_true] at hg
      have hsz : (withFl ops (flIdx ops)).size = ops.size := by simp [withFl]
      have h1 := evRegionB_any (Q := fun e a w => e = .normal ∧ Q .normal a w) ok hZ hK hKw (fun v c st a _ _ _ _ h => by cases h) (fun c st a h1 h2 h3 h4 h5 => ⟨rfl, hQ c st a h1 h2 h3 h4 h5⟩) h hS hb hbl he
      rw [hsz] at h1
      have h2 := fl_any (Q := fun e a w => e = .normal ∧ Q .normal a w) (fun e a w h => h.1) hg.1 (flIdx ops) _ a _ st.slots ops.size hg.2 h.rep h.size (fun i hi => .inl hi) h1
      exact Code.wp_mono (fun e a w h => by obtain ⟨rfl, h⟩ := h; exact h) (wp_region_any hm h2)
    · simp at he
  · exact evRegionB_ok ok hZ hK hKw hm hQt hQ h hS hb hbl he

def isSl (o : Oper) : Bool := match o.op with | .slice _ _ _ _ _ => true | _ => false

def earlySl (P : Program) (ops : Array Oper) (slots : List (V cx.ty)) : List Nat :=
  if (ops.toList.take (cutP ops)).any isSl then (dryNs P (ops.toList.take (cutP ops)) slots).eraseDups else []

def evRegion {β : Type} (P : Program) (Kc : Kt cx) (Kw : Kwt cx) (kt : Value → St cx.ty → Option β) (ops : Array Oper) (draw : Bool) (k : St cx.ty → Option β) (st : St cx.ty) : Option β :=
  if draw then
    match earlySl P ops st.slots with
    | [] => evRegionF P Kc Kw kt ops true k st
    | n :: ns => if (n :: ns).all (fun m => !st.D.contains m && st.slots.any (fun v => (bnW v).contains m)) then evRegionF P Kc Kw kt ops true k (st.frzN (n :: ns)) else none
  else evRegionF P Kc Kw kt ops false k st

theorem evRegion_ok (ok : cx.Ok) (hZ : cx.POk P) {Kc : Kt cx} (hK : KOk P cx Kc) {Kw : Kwt cx} (hKw : KwOk P cx Kw) (hm : P.follows .mixedOrders = true) {β : Type} {W : World} {S N : Nat → Prop} {KK : List (Nat × Value)} {id : Nat} {ops : Array Oper} {draw : Bool} {Q : Exit → Act → World → Prop} {k : St cx.ty → Option β} {kt : Value → St cx.ty → Option β} {r : β}
    (hQt : ∀ v c st a, RS cx c st a → c.S = S → (c.N = N ∧ c.K = KK) → Kept N W c.w → kt v st = some r → Q (.panic [{ v := v, recovered := false }]) a c.w)
    (hQ : ∀ c st a, RS cx c st a → c.S = S → (c.N = N ∧ c.K = KK) → Kept N W c.w → k st = some r → Q .normal a c.w)
    {st : St cx.ty} {c : Ct cx.ty} {a : Act} (h : RS cx c st a) (hS : c.S = S) (hb : (c.N = N ∧ c.K = KK)) (hbl : Kept N W c.w) (he : evRegion P Kc Kw kt ops draw k st = some r) : (Code.region id ops draw).wp P Q a c.w := by
  unfold evRegion at he
  cases draw with
  | false =>
    simp only [Bool.false_eq_true, if_false] at he
    exact evRegionF_ok ok hZ hK hKw hm hQt hQ h hS hb hbl he
  | true =>
    simp only [if_true] at he
    split at he
    · exact evRegionF_ok ok hZ hK hKw hm hQt hQ h hS hb hbl he
    · rename_i n ns _
      split at he
      · rename_i hc
        obtain ⟨c', h1, hw, hS', hN', hK'⟩ := h.frzN ok (ns := n :: ns) (fun m hm => by
          have := List.all_eq_true.1 hc m hm
          simp only [Bool.and_eq_true, Bool.not_eq_true', List.contains_eq_mem, decide_eq_false_iff_not, List.any_eq_true, decide_eq_true_eq] at this
          exact ⟨this.1, this.2⟩)
        have := evRegionF_ok (id := id) ok hZ hK hKw hm hQt hQ h1 (hS'.trans hS) ⟨hN'.trans hb.1, hK'.trans hb.2⟩ (by rw [hw]; exact hbl) he
        rw [hw] at this
        exact this
      · simp at he

end
end Go.VM

namespace Go.VM
open Go.RowKit
section
variable {cx : Cx} {P : Program}

/-! ### A state in its plain form: what lives on, under names of its own -/
def cnL {ty : Nat → Type} (D F : List Nat) (nm : Nat) (mk : Option Nat) (seen : List Nat) (l : L ty) : L ty × List Nat :=
  match l with
  | some (.inl v) => match v, mk with
    | .slice none 0 0, some e => (ls { own := 1, nm := nm, e := e, o := true, xs := [] }, seen)
    | v, _ => (lv v, seen)
  | some (.inr s) => if s.own == 1 then
      (if D.contains s.nm || seen.contains s.nm then (none, seen)
       else if F.contains s.nm then (ls (ro s.e s.xs), seen)
       else (ls { own := 1, nm := nm, e := s.e, o := s.o, xs := s.xs }, s.nm :: seen))
    else (ls (ro s.e s.xs), seen)
  | none => (none, seen)

def cnLs {ty : Nat → Type} (D F : List Nat) : Nat → List (Option Nat) → List Nat → List (L ty) → List (L ty) × List Nat
  | _, _, seen, [] => ([], seen)
  | nm, mks, seen, l :: r =>
    match cnL D F nm (mks.headD none) seen l with
    | (l', seen1) => match cnLs D F (nm + 1) mks.tail seen1 r with
      | (r', seen2) => (l' :: r', seen2)

def cnV {ty : Nat → Type} (D F : List Nat) (nm : Nat) (mks : List (Option Nat)) (seen : List Nat) (v : V ty) : V ty × List Nat :=
  match v with
  | .inl (.inl l) => match cnL D F nm (mks.headD none) seen l with
    | (l', seen1) => (.inl (.inl l'), seen1)
  | .inl (.inr l) => if l.length ≤ 60 then
      match cnLs D F nm mks seen l with
      | (l', seen1) => (.inl (.inr l'), seen1)
    else (junk, seen)
  | .inr (.inr p) => if p.kind == 0 && !seen.contains p.nm && decide (p.cells.length ≤ 60) then
      match cnLs D F (nm + 1) mks (p.nm :: seen) p.cells with
      | (cells, seen1) => (.inr (.inr { kind := 0, nm := nm, cells := cells, s := ro 0 [], i := p.i, off := p.off }), seen1)
    else if p.kind == 2 then (.inr (.inr p), seen) else (junk, seen)
  | _ => (junk, seen)

def specAt (spec : List (Nat × List (Option Nat))) (i : Nat) : Option (List (Option Nat)) :=
  match spec with
  | [] => none
  | (j, m) :: r => if j == i then some m else specAt r i

def cnS {ty : Nat → Type} (D F : List Nat) (spec : List (Nat × List (Option Nat))) : Nat → List Nat → List (V ty) → List (V ty)
  | _, _, [] => []
  | i, seen, v :: r => match specAt spec i with
    | some mks => match cnV D F (i * 64) mks seen v with
      | (v', seen1) => v' :: cnS D F spec (i + 1) seen1 r
    | none => junk :: cnS D F spec (i + 1) seen r

/-- The plain form of the first pointer to a box of such a name. -/
def alFind {ty : Nat → Type} (nm : Nat) : List (V ty) → List (V ty) → Option (Pt ty)
  | v :: o, c :: r => match v, c with
    | .inr (.inr p), .inr (.inr q) => if p.kind == 0 && p.nm == nm && p.i == 0 && q.kind == 0 && q.i == 0 then some q else alFind nm o r
    | _, _ => alFind nm o r
  | _, _ => none

/-- Another pointer into a box that is there already. -/
def alV {ty : Nat → Type} (O C : List (V ty)) (on : Bool) (v c : V ty) : V ty :=
  match v, c with
  | .inr (.inr p), .inl (.inl none) => if on && p.kind == 0 && p.i == 0 then (match alFind p.nm O C with
    | some q => .inr (.inr { q with off := p.off })
    | none => junk) else junk
  | _, c => c

def alS {ty : Nat → Type} (spec : List (Nat × List (Option Nat))) (O C : List (V ty)) : Nat → List (V ty) → List (V ty) → List (V ty)
  | i, v :: o, c :: r => alV O C (specAt spec i).isSome v c :: alS spec O C (i + 1) o r
  | _, _, r => r

def canon {ty : Nat → Type} (spec : List (Nat × List (Option Nat))) (st : St ty) : St ty :=
  if st.slots.length ≤ 1000 then { slots := alS spec st.slots (cnS st.D st.F spec 0 [] st.slots) 0 st.slots (cnS st.D st.F spec 0 [] st.slots), D := [], F := [], ctr := 1, lo := st.lo } else st

/-- What one step of the canonical form does: 'N': the things under their new names. -/
structure CSpec (cx : Cx) (c : Ct cx.ty) (lo hi : Nat) (seen seen' : List Nat) (N : List (Tk cx.ty)) (rep : Ct cx.ty → Prop) : Prop where
  nm : ∀ tk ∈ N, lo ≤ tk.nm ∧ tk.nm < hi
  nd : (N.map (·.nm)).Nodup
  src : ∀ b ∈ N.flatMap blocks, ∃ tk ∈ c.T, tk.nm ∈ seen' ∧ tk.nm ∉ seen ∧ b ∈ blocks tk
  fp : (N.flatMap blocks).Nodup
  head : ∀ tk ∈ N, ∀ b ∈ vb tk.u, ∃ t ∈ c.T, b ∈ vb t.u
  grow : ∀ n ∈ seen, n ∈ seen'
  ok : ∀ c' : Ct cx.ty, c'.w = c.w → c'.D = [] → c'.F = [] → (∀ tk ∈ N, tk ∈ c'.T) → (∀ b, Rd c b → Rd c' b) → (∀ tk ∈ N, TokRep cx c' tk) ∧ rep c'

theorem CSpec.app {c : Ct cx.ty} (h : Wf cx c) {lo mid hi : Nat} {s0 s1 s2 : List Nat} {N1 N2 : List (Tk cx.ty)} {r1 r2 : Ct cx.ty → Prop} (h1 : CSpec cx c lo mid s0 s1 N1 r1) (h2 : CSpec cx c mid hi s1 s2 N2 r2) (hl : lo ≤ mid) (hh : mid ≤ hi) :
    CSpec cx c lo hi s0 s2 (N1 ++ N2) (fun c' => r1 c' ∧ r2 c') := by
  refine ⟨fun tk ht => ?_, ?_, fun b hb => ?_, ?_, fun tk ht => ?_, fun n hn => h2.grow n (h1.grow n hn), fun c' a1 a2 a3 a4 a5 => ?_⟩
  · rcases List.mem_append.1 ht with ht | ht
    · have := h1.nm tk ht; omega
    · have := h2.nm tk ht; omega
  · rw [List.map_append, List.nodup_append]
    refine ⟨h1.nd, h2.nd, fun a ha b hb he => ?_⟩
    obtain ⟨t1, ht1, rfl⟩ := List.mem_map.1 ha
    obtain ⟨t2, ht2, rfl⟩ := List.mem_map.1 hb
    have := h1.nm t1 ht1
    have := h2.nm t2 ht2
    omega
  · rw [List.flatMap_append] at hb
    rcases List.mem_append.1 hb with hb | hb
    · obtain ⟨tk, k1, k2, k3, k4⟩ := h1.src b hb
      exact ⟨tk, k1, h2.grow _ k2, k3, k4⟩
    · obtain ⟨tk, k1, k2, k3, k4⟩ := h2.src b hb
      exact ⟨tk, k1, k2, fun hs => k3 (h1.grow _ hs), k4⟩
  · rw [List.flatMap_append, List.nodup_append]
    refine ⟨h1.fp, h2.fp, fun a ha b hb he => ?_⟩
    subst he
    obtain ⟨t1, k1, k2, k3, k4⟩ := h1.src a ha
    obtain ⟨t2, m1, m2, m3, m4⟩ := h2.src a hb
    exact disjoint_toks h k1 m1 (fun e => m3 (e ▸ k2)) k4 m4
  · rcases List.mem_append.1 ht with ht | ht
    · exact h1.head tk ht
    · exact h2.head tk ht
  · have p1 := h1.ok c' a1 a2 a3 (fun tk ht => a4 tk (List.mem_append.2 (.inl ht))) a5
    have p2 := h2.ok c' a1 a2 a3 (fun tk ht => a4 tk (List.mem_append.2 (.inr ht))) a5
    refine ⟨fun tk ht => ?_, p1.2, p2.2⟩
    rcases List.mem_append.1 ht with ht | ht
    · exact p1.1 tk ht
    · exact p2.1 tk ht

theorem CSpec.mono {c : Ct cx.ty} {lo lo' hi hi' : Nat} {s0 s1 : List Nat} {N : List (Tk cx.ty)} {r r' : Ct cx.ty → Prop} (h : CSpec cx c lo hi s0 s1 N r) (hl : lo' ≤ lo) (hh : hi ≤ hi') (hr : ∀ c', r c' → r' c') : CSpec cx c lo' hi' s0 s1 N r' :=
  ⟨fun tk ht => ⟨Nat.le_trans hl (h.nm tk ht).1, Nat.lt_of_lt_of_le (h.nm tk ht).2 hh⟩, h.nd, h.src, h.fp, h.head, h.grow, fun c' a1 a2 a3 a4 a5 => ⟨(h.ok c' a1 a2 a3 a4 a5).1, hr c' (h.ok c' a1 a2 a3 a4 a5).2⟩⟩

theorem CSpec.idle {c : Ct cx.ty} {lo hi : Nat} {s : List Nat} {r : Ct cx.ty → Prop} (hr : ∀ c' : Ct cx.ty, c'.w = c.w → (∀ b, Rd c b → Rd c' b) → r c') : CSpec cx c lo hi s s [] r :=
  ⟨by simp, by simp, by simp, by simp, by simp, fun _ h => h, fun c' h1 _ _ _ h2 => ⟨by simp, hr c' h1 h2⟩⟩

theorem RepL_ro {w : World} {S : Nat → Prop} {n : Nat} {s : SlD cx.ty} {u : Value} (h : RepL cx w S n (some (.inr s)) u) : RepL cx w S n (some (.inr (ro s.e s.xs))) u := by
  cases n with
  | zero => simp [RepL] at h
  | succ n => exact h

/-- A slice's row of the table under another name. -/
theorem tokrep_rename {c c' : Ct cx.ty} (hw : c'.w = c.w) (hrd : ∀ b, Rd c b → Rd c' b) {tk : Tk cx.ty} {s : SlD cx.ty} (hc : tk.c = .inl s) (h : TokRep cx c tk) (nm : Nat) :
    TokRep cx c' { nm := nm, u := tk.u, fp := tk.fp, c := .inl { own := 1, nm := nm, e := s.e, o := s.o, xs := s.xs } } := by
  unfold TokRep at h ⊢
  rw [hc] at h
  simp only at h ⊢
  obtain ⟨hv, h⟩ := h
  refine ⟨hv, ?_⟩
  split at h
  · rename_i ho
    obtain ⟨n, h⟩ := h
    simp only [ho, if_true]
    rw [hw]
    refine ⟨n, ?_⟩
    cases n with
    | zero => simp [OwnL] at h
    | succ n => exact h
  · rename_i ho
    rw [if_neg ho]
    obtain ⟨hf, us, n, h1, h2, h3⟩ := h
    rw [hw]
    exact ⟨hf, us, n, h1, h2, fun j l v e1 e2 => RepL_mono cx (fun _ _ => rfl) hrd n l v (h3 j l v e1 e2)⟩

theorem cnL_spec {c : Ct cx.ty} (h : Wf cx c) {D F : List Nat} (hD : ∀ n, n ∈ c.D ↔ n ∈ D) (hF : ∀ n, n ∈ c.F ↔ n ∈ F) {nm : Nat} {mk : Option Nat} {seen : List Nat} {l : L cx.ty} {u : Value} (hr : RepLS cx c l u) :
    ∃ N, CSpec cx c nm (nm + 1) seen (cnL D F nm mk seen l).2 N (fun c' => RepLS cx c' (cnL D F nm mk seen l).1 u) := by
  match l, hr with
  | none, _ => exact ⟨[], CSpec.idle fun _ _ _ => trivial⟩
  | some (.inl v), hr =>
    have hr' : u = v := hr
    clear hr
    unfold cnL
    split
    · rename_i l' v' hl
      simp only [Option.some.injEq, Sum.inl.injEq] at hl
      subst hl
      split
      · rename_i e
        subst hr'
        refine ⟨[{ nm := nm, u := .slice none 0 0, fp := [], c := .inl { own := 1, nm := nm, e := e, o := true, xs := [] } }], ⟨by simp, by simp, by simp [blocks, vb], by simp [blocks, vb], by simp [vb], fun _ h => h, fun c' h1 h2 h3 h4 _ => ⟨fun tk ht => ?_, ?_⟩⟩⟩
        · simp only [List.mem_singleton] at ht
          subst ht
          exact ⟨rfl, 1, [], [], World.ownsRow_nil _ _ _ _, rfl, rfl, rfl, fun j l c f h => by simp at h⟩
        · unfold RepLS
          simp only [ls, if_true, h2, h3, List.not_mem_nil, if_false]
          exact ⟨⟨_, _, _, rfl⟩, _, h4 _ (List.mem_singleton.2 rfl), rfl, rfl, rfl⟩
      · exact ⟨[], CSpec.idle fun _ _ _ => hr'⟩
    · rename_i hl; simp at hl
    · rename_i hl; simp at hl
  | some (.inr s), hr =>
    unfold RepLS at hr
    simp only [cnL]
    by_cases h1 : s.own = 1
    · simp only [h1, if_true, beq_self_eq_true] at hr ⊢
      obtain ⟨hsl, hr⟩ := hr
      split
      · exact ⟨[], CSpec.idle fun _ _ _ => trivial⟩
      · rename_i hds
        simp only [Bool.or_eq_true, not_or, Bool.not_eq_true] at hds
        have h2 : s.nm ∉ c.D := by rw [hD]; simpa using hds.1
        have hsn : s.nm ∉ seen := by simpa using hds.2
        simp only [h2, if_false] at hr
        split
        · rename_i hf
          have h3 : s.nm ∈ c.F := by rw [hF]; simpa using hf
          simp only [h3, if_true] at hr
          obtain ⟨n, hr⟩ := hr
          refine ⟨[], CSpec.idle fun c' hw hrd => ?_⟩
          unfold RepLS
          simp only [ls, ro]
          rw [if_neg (by decide), hw]
          exact ⟨n, RepL_mono cx (fun _ _ => rfl) hrd n _ _ (RepL_ro hr)⟩
        · rename_i hf
          have h3 : s.nm ∉ c.F := by rw [hF]; simpa using hf
          simp only [h3, if_false] at hr
          obtain ⟨tk, ht, hn, hc, hu⟩ := hr
          refine ⟨[{ nm := nm, u := tk.u, fp := tk.fp, c := .inl { own := 1, nm := nm, e := s.e, o := s.o, xs := s.xs } }], ⟨by simp, by simp, fun b hb => ?_, ?_, fun tk' ht' b hb => ?_, fun n hn => List.mem_cons_of_mem _ hn, fun c' k1 k2 k3 k4 k5 => ⟨fun tk' ht' => ?_, ?_⟩⟩⟩
          · refine ⟨tk, ht, by rw [hn]; exact List.mem_cons_self .., by rw [hn]; exact hsn, by simpa [blocks] using hb⟩
          · have hnd := h.nodup
            obtain ⟨l1, l2, hl⟩ := List.append_of_mem ht
            rw [hl] at hnd
            simp only [List.flatMap_append, List.flatMap_cons] at hnd
            simpa [blocks] using (List.nodup_append.1 (List.nodup_append.1 hnd).2.1).1
          · simp only [List.mem_singleton] at ht'
            subst ht'
            exact ⟨tk, ht, hb⟩
          · simp only [List.mem_singleton] at ht'
            subst ht'
            exact tokrep_rename k1 k5 hc (h.rep tk ht) nm
          · unfold RepLS
            simp only [ls, if_true, k2, k3, List.not_mem_nil, if_false]
            exact ⟨hsl, _, k4 _ (List.mem_singleton.2 rfl), rfl, rfl, hu⟩
    · have hb1 : (s.own == 1) = false := by simpa using h1
      simp only [h1, if_false, hb1, Bool.false_eq_true] at hr ⊢
      obtain ⟨n, hr⟩ := hr
      refine ⟨[], CSpec.idle fun c' hw hrd => ?_⟩
      unfold RepLS
      simp only [ls, ro]
      rw [if_neg (by decide), hw]
      exact ⟨n, RepL_mono cx (fun _ _ => rfl) hrd n _ _ (RepL_ro hr)⟩

theorem cnLs_spec {c : Ct cx.ty} (h : Wf cx c) {D F : List Nat} (hD : ∀ n, n ∈ c.D ↔ n ∈ D) (hF : ∀ n, n ∈ c.F ↔ n ∈ F) : ∀ (l : List (L cx.ty)) (us : List Value) (nm : Nat) (mks : List (Option Nat)) (seen : List Nat), RepLs cx c l us →
    ∃ N, CSpec cx c nm (nm + l.length) seen (cnLs D F nm mks seen l).2 N (fun c' => RepLs cx c' (cnLs D F nm mks seen l).1 us)
  | [], us, nm, mks, seen, hr => ⟨[], CSpec.idle fun _ _ _ => ⟨by simpa [cnLs] using hr.1, fun j a u h => by simp [cnLs] at h⟩⟩
  | l :: r, us, nm, mks, seen, hr => by
    match us, hr with
    | [], hr => simp [RepLs] at hr
    | u :: us, hr =>
      obtain ⟨N1, h1⟩ := cnL_spec h hD hF (nm := nm) (mk := mks.headD none) (seen := seen) (hr.2 0 l u rfl rfl)
      obtain ⟨N2, h2⟩ := cnLs_spec h hD hF r us (nm + 1) mks.tail (cnL D F nm (mks.headD none) seen l).2 ⟨by simpa using hr.1, fun j a b e1 e2 => hr.2 (j + 1) a b (by simpa using e1) (by simpa using e2)⟩
      refine ⟨N1 ++ N2, ?_⟩
      have := h1.app h h2 (by omega) (by omega)
      simp only [cnLs]
      refine this.mono (Nat.le_refl _) (by simp; omega) fun c' ⟨k1, k2⟩ => ⟨by simp [k2.1], fun j a b e1 e2 => ?_⟩
      cases j with
      | zero =>
        simp only [List.getElem?_cons_zero, Option.some.injEq] at e1 e2
        subst e1; subst e2
        exact k1
      | succ j => exact k2.2 j a b (by simpa using e1) (by simpa using e2)

theorem cnV_spec {c : Ct cx.ty} (h : Wf cx c) {D F : List Nat} (hD : ∀ n, n ∈ c.D ↔ n ∈ D) (hF : ∀ n, n ∈ c.F ↔ n ∈ F) {nm : Nat} {mks : List (Option Nat)} {seen : List Nat} {v : V cx.ty} {u : Value} (hr : RepV cx c v u) :
    ∃ N, CSpec cx c nm (nm + 64) seen (cnV D F nm mks seen v).2 N (fun c' => RepV cx c' (cnV D F nm mks seen v).1 u) := by
  match v, hr with
  | .inl (.inl l), hr =>
    obtain ⟨N, hN⟩ := cnL_spec h hD hF (nm := nm) (mk := mks.headD none) (seen := seen) (l := l) (u := u) hr
    exact ⟨N, hN.mono (Nat.le_refl _) (by omega) fun _ h => h⟩
  | .inl (.inr l), ⟨us, hu, hr⟩ =>
    simp only [cnV]
    split
    · obtain ⟨N, hN⟩ := cnLs_spec h hD hF l us nm mks seen hr
      exact ⟨N, hN.mono (Nat.le_refl _) (by omega) fun _ h => ⟨us, hu, h⟩⟩
    · exact ⟨[], CSpec.idle fun _ _ _ => trivial⟩
  | .inr (.inl l), _ => exact ⟨[], CSpec.idle fun _ _ _ => trivial⟩
  | .inr (.inr p), hr =>
    simp only [cnV]
    split
    · rename_i hc
      simp only [Bool.and_eq_true, beq_iff_eq, Bool.not_eq_true', decide_eq_true_eq] at hc
      obtain ⟨⟨hk, hs⟩, hlen⟩ := hc
      have hsn : p.nm ∉ seen := by simpa using hs
      have hr : RepP cx c p u := hr
      unfold RepP at hr
      simp only [hk] at hr
      obtain ⟨tk, ht, hn, hcc, g, hg, hp⟩ := hr
      have htr := h.rep tk ht
      unfold TokRep at htr
      rw [hcc] at htr
      obtain ⟨hfp, g', cur, e, hg', hh, hcells⟩ := htr
      rw [hg] at hg'
      simp only [Value.pointer.injEq, Option.some.injEq, Addr.mk.injEq] at hg'
      obtain ⟨rfl, _⟩ := hg'
      obtain ⟨N, hN⟩ := cnLs_spec h hD hF p.cells cur.toList (nm + 1) mks (p.nm :: seen) hcells
      refine ⟨{ nm := nm, u := tk.u, fp := [], c := .inr (cnLs D F (nm + 1) mks (p.nm :: seen) p.cells).1 } :: N, ⟨fun tk' ht' => ?_, ?_, fun b hb => ?_, ?_, fun tk' ht' b hb => ?_, fun n hn' => hN.grow n (List.mem_cons_of_mem _ hn'), fun c' k1 k2 k3 k4 k5 => ?_⟩⟩
      · rcases List.mem_cons.1 ht' with ht' | ht'
        · subst ht'; simp
        · have := hN.nm tk' ht'; omega
      · rw [List.map_cons, List.nodup_cons]
        refine ⟨fun hm => ?_, hN.nd⟩
        obtain ⟨t1, h1, h2⟩ := List.mem_map.1 hm
        have h3 := hN.nm t1 h1
        have h2 : t1.nm = nm := h2
        omega
      · rw [List.flatMap_cons] at hb
        rcases List.mem_append.1 hb with hb | hb
        · exact ⟨tk, ht, hN.grow _ (by rw [hn]; exact List.mem_cons_self ..), by rw [hn]; exact hsn, by simpa [blocks, hfp] using hb⟩
        · obtain ⟨t1, m1, m2, m3, m4⟩ := hN.src b hb
          exact ⟨t1, m1, m2, fun hs' => m3 (List.mem_cons_of_mem _ hs'), m4⟩
      · rw [List.flatMap_cons, List.nodup_append]
        refine ⟨by simp [blocks, hg, vb], hN.fp, fun a ha b hb he => ?_⟩
        subst he
        obtain ⟨t1, m1, m2, m3, m4⟩ := hN.src a hb
        refine disjoint_toks h ht m1 (fun e => m3 ?_) (by simpa [blocks, hfp] using ha) m4
        rw [← e, hn]; exact List.mem_cons_self ..
      · rcases List.mem_cons.1 ht' with ht' | ht'
        · subst ht'
          exact ⟨tk, ht, hb⟩
        · exact hN.head tk' ht' b hb
      · have hk' := hN.ok c' k1 k2 k3 (fun tk' ht' => k4 tk' (List.mem_cons_of_mem _ ht')) k5
        refine ⟨fun tk' ht' => ?_, ?_⟩
        · rcases List.mem_cons.1 ht' with ht' | ht'
          · subst ht'
            exact ⟨rfl, g, cur, e, hg, by rw [k1]; exact hh, hk'.2⟩
          · exact hk'.1 tk' ht'
        · exact ⟨_, k4 _ (List.mem_cons_self ..), rfl, rfl, g, hg, hp⟩
    · split
      · rename_i hk
        have hk : p.kind = 2 := by simpa using hk
        refine ⟨[], CSpec.idle fun c' hw hrd => ?_⟩
        have hr : RepP cx c p u := hr
        show RepP cx c' p u
        unfold RepP at hr ⊢
        simp only [hk] at hr ⊢
        obtain ⟨b, o, hu, hb, x, hx, n, hn⟩ := hr
        refine ⟨b, o, hu, hrd b hb, x, hx, n, fun j l hl => ?_⟩
        obtain ⟨v, h1, h2⟩ := hn j l hl
        exact ⟨v, by rw [hw]; exact h1, by rw [hw]; exact RepL_mono cx (fun _ _ => rfl) hrd _ _ _ h2⟩
      · exact ⟨[], CSpec.idle fun _ _ _ => trivial⟩

theorem cnS_spec {c : Ct cx.ty} (h : Wf cx c) {D F : List Nat} (hD : ∀ n, n ∈ c.D ↔ n ∈ D) (hF : ∀ n, n ∈ c.F ↔ n ∈ F) {spec : List (Nat × List (Option Nat))} : ∀ (slots : List (V cx.ty)) (us : List Value) (i : Nat) (seen : List Nat), us.length = slots.length →
    (∀ (j : Nat) v u, slots[j]? = some v → us[j]? = some u → RepV cx c v u) →
    ∃ seen' N, CSpec cx c (i * 64) ((i + slots.length) * 64) seen seen' N (fun c' => (cnS D F spec i seen slots).length = slots.length ∧ ∀ (j : Nat) v u, (cnS D F spec i seen slots)[j]? = some v → us[j]? = some u → RepV cx c' v u)
  | [], us, i, seen, _, _ => ⟨seen, [], CSpec.idle fun _ _ _ => ⟨rfl, fun j v u h => by simp [cnS] at h⟩⟩
  | v :: r, [], i, seen, hl, _ => by simp at hl
  | v :: r, u :: us, i, seen, hl, hr => by
    have hr0 := hr 0 v u rfl rfl
    simp only [cnS]
    cases hsp : specAt spec i with
    | none =>
      obtain ⟨seen', N, hN⟩ := cnS_spec h hD hF (spec := spec) r us (i + 1) seen (by simpa using hl) (fun j a b e1 e2 => hr (j + 1) a b (by simpa using e1) (by simpa using e2))
      refine ⟨seen', N, hN.mono (by omega) (by simp; omega) fun c' ⟨k1, k2⟩ => ⟨by simp [k1], fun j a b e1 e2 => ?_⟩⟩
      cases j with
      | zero =>
        simp only [List.getElem?_cons_zero, Option.some.injEq] at e1
        subst e1
        trivial
      | succ j => exact k2 j a b (by simpa using e1) (by simpa using e2)
    | some mks =>
      obtain ⟨N1, h1⟩ := cnV_spec h hD hF (nm := i * 64) (mks := mks) (seen := seen) hr0
      obtain ⟨seen', N2, h2⟩ := cnS_spec h hD hF (spec := spec) r us (i + 1) (cnV D F (i * 64) mks seen v).2 (by simpa using hl) (fun j a b e1 e2 => hr (j + 1) a b (by simpa using e1) (by simpa using e2))
      have h2' := h2.mono (lo' := i * 64 + 64) (hi' := (i + 1 + r.length) * 64) (by omega) (Nat.le_refl _) (fun _ h => h)
      have := h1.app h h2' (by omega) (by omega)
      refine ⟨seen', N1 ++ N2, this.mono (Nat.le_refl _) (by simp; omega) fun c' ⟨k1, k2, k3⟩ => ⟨by simp [k2], fun j a b e1 e2 => ?_⟩⟩
      cases j with
      | zero =>
        simp only [List.getElem?_cons_zero, Option.some.injEq] at e1 e2
        subst e1; subst e2
        exact k1
      | succ j => exact k3 j a b (by simpa using e1) (by simpa using e2)

theorem alFind_spec {ty : Nat → Type} {nm : Nat} : ∀ {O C : List (V ty)} {q : Pt ty}, alFind nm O C = some q → ∃ (j : Nat) (p : Pt ty), O[j]? = some (.inr (.inr p)) ∧ C[j]? = some (.inr (.inr q)) ∧ p.kind = 0 ∧ p.nm = nm ∧ p.i = 0 ∧ q.kind = 0 ∧ q.i = 0
  | v :: o, c :: r, q, h => by
    unfold alFind at h
    split at h
    · rename_i p q2
      split at h
      · rename_i hc
        simp only [Bool.and_eq_true, beq_iff_eq] at hc
        simp only [Option.some.injEq] at h
        subst h
        exact ⟨0, p, rfl, rfl, hc.1.1.1.1, hc.1.1.1.2, hc.1.1.2, hc.1.2, hc.2⟩
      · obtain ⟨j, p2, h1, h2, h3⟩ := alFind_spec h
        exact ⟨j + 1, p2, by simpa using h1, by simpa using h2, h3⟩
    · obtain ⟨j, p2, h1, h2, h3⟩ := alFind_spec h
      exact ⟨j + 1, p2, by simpa using h1, by simpa using h2, h3⟩
  | [], _, q, h => by simp [alFind] at h
  | _ :: _, [], q, h => by simp [alFind] at h

theorem nodup_map_inj {α : Type} {f : α → Nat} : ∀ {l : List α}, (l.map f).Nodup → ∀ {a b : α}, a ∈ l → b ∈ l → f a = f b → a = b
  | x :: l, h, a, b, ha, hb, e => by
    simp only [List.map_cons, List.nodup_cons, List.mem_map, not_exists, not_and] at h
    rcases List.mem_cons.1 ha with ea | ha'
    · rcases List.mem_cons.1 hb with eb | hb'
      · rw [ea, eb]
      · exact absurd (by rw [← e, ea]) (h.1 b hb')
    · rcases List.mem_cons.1 hb with eb | hb'
      · exact absurd (by rw [e, eb]) (h.1 a ha')
      · exact nodup_map_inj h.2 ha' hb' e

theorem tok_same {c : Ct cx.ty} (hw : Wf cx c) {t1 t2 : Tk cx.ty} (h1 : t1 ∈ c.T) (h2 : t2 ∈ c.T) (e : t1.nm = t2.nm) : t1 = t2 :=
  nodup_map_inj hw.names h1 h2 e

theorem alV_rep {c c' : Ct cx.ty} (hw : Wf cx c) {O C : List (V cx.ty)} {us : List Value} (hO : ∀ (j : Nat) v u, O[j]? = some v → us[j]? = some u → RepV cx c v u) (hC : ∀ (j : Nat) v u, C[j]? = some v → us[j]? = some u → RepV cx c' v u) (hl : us.length = O.length)
    {on : Bool} {v d : V cx.ty} {u : Value} (hv : RepV cx c v u) (hd : RepV cx c' d u) : RepV cx c' (alV O C on v d) u := by
  unfold alV
  split
  · rename_i p
    split
    · rename_i hc
      simp only [Bool.and_eq_true, beq_iff_eq] at hc
      obtain ⟨⟨_, hk⟩, hi⟩ := hc
      split
      · rename_i q hq
        obtain ⟨j, p2, h1, h2, h3, h4, h5, h6, h7⟩ := alFind_spec hq
        have hj : j < us.length := by rw [hl]; exact (List.getElem?_eq_some_iff.1 h1).1
        have r1 := hO j _ _ h1 (List.getElem?_eq_getElem hj)
        have r2 := hC j _ _ h2 (List.getElem?_eq_getElem hj)
        have r1 : RepP cx c p2 us[j] := r1
        have r2 : RepP cx c' q us[j] := r2
        have hv : RepP cx c p u := hv
        unfold RepP at r1 r2 hv
        simp only [h3, h5] at r1
        simp only [h6, h7] at r2
        simp only [hk, hi] at hv
        obtain ⟨t1, ht1, hn1, hc1, g1, hg1, hu1⟩ := r1
        obtain ⟨t2, ht2, hn2, hc2, g2, hg2, hu2⟩ := r2
        obtain ⟨t3, ht3, hn3, hc3, g3, hg3, hu3⟩ := hv
        have e13 : t1 = t3 := tok_same hw ht1 ht3 (by rw [hn1, h4, hn3])
        subst e13
        rw [hg1] at hg3
        simp only [Value.pointer.injEq, Option.some.injEq, Addr.mk.injEq] at hg3
        obtain ⟨rfl, _⟩ := hg3
        have hu1 : us[j] = .pointer (some ⟨g1, p2.off, none⟩) := hu1
        have hu2 : us[j] = .pointer (some ⟨g2, q.off, none⟩) := hu2
        rw [hu1] at hu2
        simp only [Value.pointer.injEq, Option.some.injEq, Addr.mk.injEq] at hu2
        obtain ⟨rfl, _⟩ := hu2
        show RepP cx c' { q with off := p.off } u
        unfold RepP
        simp only [h6, h7]
        exact ⟨t2, ht2, hn2, hc2, g1, hg2, hu3⟩
      · trivial
    · trivial
  · exact hd

theorem alS_len {spec : List (Nat × List (Option Nat))} {ty : Nat → Type} {O C : List (V ty)} : ∀ (i : Nat) (o r : List (V ty)), (alS spec O C i o r).length = r.length
  | i, v :: o, c :: r => by simp [alS, alS_len (i + 1) o r]
  | i, [], r => by simp [alS]
  | i, _ :: _, [] => by simp [alS]

theorem alS_get {spec : List (Nat × List (Option Nat))} {ty : Nat → Type} {O C : List (V ty)} : ∀ (i : Nat) (o r : List (V ty)) (j : Nat) (x : V ty), (alS spec O C i o r)[j]? = some x → (∃ on v c, o[j]? = some v ∧ r[j]? = some c ∧ x = alV O C on v c) ∨ r[j]? = some x
  | i, v :: o, c :: r, 0, x, h => by
    simp only [alS, List.getElem?_cons_zero, Option.some.injEq] at h
    exact .inl ⟨_, v, c, rfl, rfl, h.symm⟩
  | i, v :: o, c :: r, j + 1, x, h => by
    simp only [alS, List.getElem?_cons_succ] at h ⊢
    exact alS_get (i + 1) o r j x h
  | i, [], r, j, x, h => by simp only [alS] at h; exact .inr h
  | i, _ :: _, [], j, x, h => by simp [alS] at h

theorem RS.canon {c : Ct cx.ty} {st : St cx.ty} {a : Act} (h : RS cx c st a) (spec : List (Nat × List (Option Nat))) : ∃ c', RS cx c' (canon spec st) a ∧ c'.w = c.w ∧ c'.S = c.S ∧ (c'.N = c.N ∧ c'.K = c.K) := by
  unfold VM.canon
  split
  · rename_i hlen
    obtain ⟨seen', N, hN⟩ := cnS_spec h.wf h.dead h.frz (spec := spec) st.slots a.tmps.toList 0 [] (by simpa using h.size) (fun j v u e1 e2 => by
      have := h.rep j
      rw [show st.slots.getD j junk = v by simp [List.getD, e1]] at this
      rw [show a.tmps.getD j undef = u by
        have e2' : a.tmps[j]? = some u := by simpa using e2
        simp [Array.getD_eq_getD_getElem?, e2']] at this
      exact this)
    let c' : Ct cx.ty := { T := N, D := [], F := [], w := c.w, S := c.S, N := c.N, K := c.K }
    have hsrc : ∀ tk ∈ N, ∀ b ∈ vb tk.u ++ tk.fp, ∃ t ∈ c.T, b ∈ blocks t := fun tk ht b hb => by
      obtain ⟨t, h1, _, _, h2⟩ := hN.src b (List.mem_flatMap.2 ⟨tk, ht, hb⟩)
      exact ⟨t, h1, h2⟩
    have hrd : ∀ b, Rd c b → Rd c' b := by
      rintro b ⟨h1, h2, h3⟩
      refine ⟨h1, h2, fun tk ht hv => ?_⟩
      obtain ⟨t, ht', hb'⟩ := hN.head tk ht b hv
      exact h3 t ht' hb'
    have hok0 := hN.ok c' rfl rfl rfl (fun tk ht => ht) hrd
    have hOr : ∀ (j : Nat) v u, st.slots[j]? = some v → a.tmps.toList[j]? = some u → RepV cx c v u := fun j v u e1 e2 => by
      have := h.rep j
      rw [show st.slots.getD j junk = v by simp [List.getD, e1]] at this
      rw [show a.tmps.getD j undef = u by
        have e2' : a.tmps[j]? = some u := by simpa using e2
        simp [Array.getD_eq_getD_getElem?, e2']] at this
      exact this
    have hok : (∀ tk ∈ N, TokRep cx c' tk) ∧ (alS spec st.slots (cnS st.D st.F spec 0 [] st.slots) 0 st.slots (cnS st.D st.F spec 0 [] st.slots)).length = st.slots.length ∧ ∀ (j : Nat) v u, (alS spec st.slots (cnS st.D st.F spec 0 [] st.slots) 0 st.slots (cnS st.D st.F spec 0 [] st.slots))[j]? = some v → a.tmps[j]? = some u → RepV cx c' v u := by
      refine ⟨hok0.1, by rw [alS_len]; exact hok0.2.1, fun j v u e1 e2 => ?_⟩
      have e2' : a.tmps.toList[j]? = some u := by simpa using e2
      rcases alS_get _ _ _ _ _ e1 with ⟨on, v0, d, k1, k2, rfl⟩ | k
      · exact alV_rep h.wf hOr hok0.2.2 (by simpa using h.size) (hOr j v0 u k1 e2') (hok0.2.2 j d u k2 e2')
      · exact hok0.2.2 j v u k e2'
    refine ⟨c', ⟨⟨hN.nd, hN.fp, fun tk ht b hb => ?_, hok.1, h.wf.start, fun tk _ => ⟨by simp [c'], by simp [c']⟩, h.wf.size⟩, ?_, fun t => ?_, h.defers, fun n => by simp [c'], fun n => by simp [c'], fun n hn => ?_, h.kp, PrOK.nil, PdOK.none⟩, rfl, rfl, rfl, rfl⟩
    · obtain ⟨t, h1, h2⟩ := hsrc tk ht b hb
      exact h.wf.bound t h1 b h2
    · rw [h.size]; exact hok.2.1.symm
    · by_cases ht : t < st.slots.length
      · have ht' : t < (alS spec st.slots (cnS st.D st.F spec 0 [] st.slots) 0 st.slots (cnS st.D st.F spec 0 [] st.slots)).length := by rw [hok.2.1]; exact ht
        have e1 := List.getElem?_eq_getElem ht'
        have hta : t < a.tmps.size := by rw [h.size]; exact ht
        have := hok.2.2 t _ a.tmps[t] e1 (by simp [hta])
        simpa [List.getD, e1, Array.getD_eq_getD_getElem?, hta] using this
      · have : (alS spec st.slots (cnS st.D st.F spec 0 [] st.slots) 0 st.slots (cnS st.D st.F spec 0 [] st.slots)).getD t junk = junk := by
          simp [List.getD, List.getElem?_eq_none (by rw [hok.2.1]; omega : (alS spec st.slots (cnS st.D st.F spec 0 [] st.slots) 0 st.slots (cnS st.D st.F spec 0 [] st.slots)).length ≤ t)]
        rw [this]
        trivial
    · rcases hn with ⟨tk, ht, rfl⟩ | hn | hn
      · have := (hN.nm tk ht).2
        simp only
        omega
      · simp [c'] at hn
      · simp [c'] at hn
  · exact ⟨c, h, rfl, rfl, rfl, rfl⟩

end
end Go.VM

namespace Go.VM
open Go.RowKit
section
variable {cx : Cx} {P : Program}

/-! ### Code -/
structure Kn (cx : Cx) (β : Type) where
  n : St cx.ty → Option β
  x : Nat → St cx.ty → Option β
  r : St cx.ty → Option β
  /-- where it is thrown -/
  t : Value → St cx.ty → Option β := fun _ _ => none

def onT {cx : Cx} {β : Type} (t : Value → St cx.ty → Option β) (ch : List PanicEntry) (st : St cx.ty) : Option β :=
  match ch with
  | [{ v := v, recovered := false, goexit := false }] => t v st
  | _ => none

@[simp] theorem onT_none {cx : Cx} {β : Type} (ch : List PanicEntry) (st : St cx.ty) : onT (fun _ _ => (none : Option β)) ch st = none := by
  unfold onT; split <;> rfl

def Kn.on {cx : Cx} {β : Type} (k : Kn cx β) (e : Exit) (st : St cx.ty) : Option β :=
  match e with
  | .normal => k.n st
  | .exit i => k.x i st
  | .ret => k.r st
  | .panic ch => onT k.t ch st
  | _ => none

/-- 'lv': what lives at the head of a loop; 'xv': what lives behind a block that is left. -/
structure Env (cx : Cx) where
  Kc : Kt cx
  Kw : Kwt cx := fun _ => none
  lv : Nat → List (Nat × List (Option Nat))
  xv : Nat → Option (List (Nat × List (Option Nat)))
  /-- regions behind which the ways meet again, and what lives there -/
  jb : Nat → Bool := fun _ => false
  jl : Nat → List (Nat × List (Option Nat)) := fun _ => []

def cnO {ty : Nat → Type} (o : Option (List (Nat × List (Option Nat)))) (st : St ty) : St ty :=
  match o with
  | some s => canon s st
  | none => st

/-- What is done with a loop: its body, its plain form, what follows, its state. -/
abbrev Lp (cx : Cx) (β : Type) := (St cx.ty → Kn cx β → Option β) → (St cx.ty → St cx.ty) → Kn cx β → St cx.ty → Option β

def seqK {cx : Cx} {β : Type} (g : St cx.ty → Kn cx β → Option β) (k : Kn cx β) : Kn cx β := { n := fun st' => g st' k, x := k.x, r := k.r, t := k.t }

def blkK {cx : Cx} {β : Type} (id : Nat) (sp : Option (List (Nat × List (Option Nat)))) (k : Kn cx β) : Kn cx β :=
  { n := k.n, x := fun i st' => if i = id then k.n (cnO sp st') else k.x i st', r := k.r, t := k.t }

/-- Rounds of a loop, from its plain form on. -/
def loopC {cx : Cx} {β : Type} (body : St cx.ty → Kn cx β → Option β) (cn : St cx.ty → St cx.ty) (k : Kn cx β) : Nat → St cx.ty → Option β
  | 0, _ => none
  | n + 1, st => body st (seqK (fun st' _ => loopC body cn k n (cn st')) k)

def loopN {cx : Cx} {β : Type} (L : Nat) : Lp cx β := fun body cn k st => loopC body cn k L (cn st)

def St.setC {ty : Nat → Type} (st : St ty) (c : Operand) (b : Bool) : St ty :=
  match c with
  | .tmp t => { st with slots := st.slots.set t (vv (.bool b)) }
  | _ => st

theorem setC_eq {ty : Nat → Type} {st : St ty} {c : Operand} {b : Bool} (h : getV st.slots c = vv (.bool b)) : st.setC c b = st := by
  unfold St.setC
  split
  · rename_i t
    have h : st.slots.getD t junk = vv (.bool b) := h
    simp only [List.getD] at h
    cases hx : st.slots[t]? with
    | none => rw [hx] at h; simp [junk, vv] at h
    | some v =>
      rw [hx] at h
      simp only [Option.getD_some] at h
      subst h
      obtain ⟨hlt, hv⟩ := List.getElem?_eq_some_iff.1 hx
      have : st.slots.set t (vv (.bool b)) = st.slots := by rw [← hv, List.set_getElem_self]
      rw [this]
  · rfl

def evC {β : Type} (P : Program) (ev : Env cx) (lp : Lp cx β) : Nat → Code → St cx.ty → Kn cx β → Option β
  | _, .skip, st, k => k.n st
  | _, .region id ops draw, st, k => bif ev.jb id then evRegion P ev.Kc ev.Kw k.t ops draw (lp (fun st' _ => k.n st') (canon (ev.jl id)) k) st else evRegion P ev.Kc ev.Kw k.t ops draw k.n st
  | bid, .seq x y, st, k => evC P ev lp bid x st (seqK (evC P ev lp bid y) k)
  | bid, .cond c x y, st, k => match getV st.slots c with
    | .inl (.inl (some (.inl (.bool b)))) => bif b then evC P ev lp bid x (st.setC c true) k else evC P ev lp bid y (st.setC c false) k
    | _ => none
  | _, .block id c, st, k => evC P ev lp id c st (blkK id (ev.xv id) k)
  | bid, .loop c, st, k => lp (evC P ev lp bid c) (canon (ev.lv bid)) k st
  | _, .exit id, st, k => k.x id st
  | _, .label _, st, k => k.n st
  | _, .ret, st, k => k.r st
  | _, _, _, _ => none

theorem evC_ok (ok : cx.Ok) (hZ : cx.POk P) (ev : Env cx) (L : Nat) (hK : KOk P cx ev.Kc) (hKw : KwOk P cx ev.Kw) (hm : P.follows .mixedOrders = true) {β : Type} {W : World} {S N : Nat → Prop} {KK : List (Nat × Value)} {r : β} : ∀ (code : Code) (bid : Nat) (k : Kn cx β) (Q : Exit → Act → World → Prop),
    (∀ e c st a, RS cx c st a → c.S = S → (c.N = N ∧ c.K = KK) → Kept N W c.w → k.on e st = some r → Q e a c.w) →
    ∀ (st : St cx.ty) (c : Ct cx.ty) (a : Act), RS cx c st a → c.S = S → (c.N = N ∧ c.K = KK) → Kept N W c.w → evC P ev (loopN L) bid code st k = some r → code.wp P Q a c.w
  | .skip, bid, k, Q, hQ, st, c, a, h, hS, hb, hbl, he => wp_skip (hQ .normal c st a h hS hb hbl he)
  | .region id ops draw, bid, k, Q, hQ, st, c, a, h, hS, hb, hbl, he => by
    simp only [evC] at he
    cases hj : ev.jb id with
    | false =>
      rw [hj] at he
      exact evRegion_ok ok hZ hK hKw hm (fun v c st a h1 h2 h3 h4 h5 => hQ (.panic [{ v := v, recovered := false }]) c st a h1 h2 h3 h4 h5) (fun c st a h1 h2 h3 h4 h5 => hQ .normal c st a h1 h2 h3 h4 h5) h hS hb hbl he
    | true =>
      rw [hj] at he
      refine evRegion_ok ok hZ hK hKw hm (fun v c st a h1 h2 h3 h4 h5 => hQ (.panic [{ v := v, recovered := false }]) c st a h1 h2 h3 h4 h5) (fun c st a h1 h2 h3 h4 h5 => ?_) h hS hb hbl he
      cases L with
      | zero => simp [loopN, loopC] at h5
      | succ n =>
        have h5 : k.n (canon (ev.jl id) st) = some r := h5
        obtain ⟨c', h', hw, hS', hb'⟩ := h1.canon (ev.jl id)
        rw [← hw]
        exact hQ .normal c' _ a h' (hS'.trans h2) ⟨hb'.1.trans h3.1, hb'.2.trans h3.2⟩ (by rw [hw]; exact h4) h5
  | .seq x y, bid, k, Q, hQ, st, c, a, h, hS, hb, hbl, he => by
    refine wp_seq (evC_ok ok hZ ev L hK hKw hm x bid _ _ (fun e c st a h1 h2 h3 h4 h5 => ?_) st c a h hS hb hbl he)
    cases e with
    | normal => exact evC_ok ok hZ ev L hK hKw hm y bid k Q hQ st c a h1 h2 h3 h4 h5
    | exit i => exact hQ _ c st a h1 h2 h3 h4 h5
    | goto l => exact hQ _ c st a h1 h2 h3 h4 h5
    | ret => exact hQ _ c st a h1 h2 h3 h4 h5
    | panic ch => exact hQ _ c st a h1 h2 h3 h4 h5
    | outgrown => exact hQ _ c st a h1 h2 h3 h4 h5
  | .cond cc x y, bid, k, Q, hQ, st, c, a, h, hS, hb, hbl, he => by
    simp only [evC] at he
    split at he
    · rename_i b hx
      have hr := eval_rep h.rep cc
      rw [hx] at hr
      have hr : a.eval cc = .bool b := hr
      cases b with
      | true =>
        rw [setC_eq hx] at he
        exact wp_cond_true hr (evC_ok ok hZ ev L hK hKw hm x bid k Q hQ st c a h hS hb hbl he)
      | false =>
        rw [setC_eq hx] at he
        exact wp_cond_false hr (evC_ok ok hZ ev L hK hKw hm y bid k Q hQ st c a h hS hb hbl he)
    · simp at he
  | .block id x, bid, k, Q, hQ, st, c, a, h, hS, hb, hbl, he => by
    refine wp_block (evC_ok ok hZ ev L hK hKw hm x id _ _ (fun e c st a h1 h2 h3 h4 h5 => ?_) st c a h hS hb hbl he)
    cases e with
    | exit i =>
      simp only [blkK, Kn.on, Exit.inBlock] at h5 ⊢
      split at h5
      · rename_i hi
        rw [if_pos hi]
        unfold cnO at h5
        split at h5
        · rename_i s _
          obtain ⟨c', h', hw, hS', hb'⟩ := h1.canon s
          rw [← hw]
          exact hQ .normal c' _ a h' (hS'.trans h2) ⟨hb'.1.trans h3.1, hb'.2.trans h3.2⟩ (by rw [hw]; exact h4) h5
        · exact hQ .normal c st a h1 h2 h3 h4 h5
      · rename_i hi
        rw [if_neg hi]
        exact hQ (.exit i) c st a h1 h2 h3 h4 h5
    | normal => exact hQ _ c st a h1 h2 h3 h4 h5
    | goto l => exact hQ _ c st a h1 h2 h3 h4 h5
    | ret => exact hQ _ c st a h1 h2 h3 h4 h5
    | panic ch => exact hQ _ c st a h1 h2 h3 h4 h5
    | outgrown => exact hQ _ c st a h1 h2 h3 h4 h5
  | .loop x, bid, k, Q, hQ, st, c, a, h, hS, hb, hbl, he => by
    have key : ∀ (n : Nat) (st : St cx.ty) (c : Ct cx.ty) (a : Act), RS cx c st a → c.S = S → (c.N = N ∧ c.K = KK) → Kept N W c.w →
        loopC (evC P ev (loopN L) bid x) (canon (ev.lv bid)) k n st = some r → Code.rounds P x Q n a c.w := by
      intro n
      induction n with
      | zero => intro st c a _ _ _ _ he; simp [loopC] at he
      | succ n ih =>
        intro st c a h hS hb hbl he
        rw [rounds_succ]
        simp only [loopC] at he
        refine evC_ok ok hZ ev L hK hKw hm x bid _ _ (fun e c st a h1 h2 h3 h4 h5 => ?_) _ c a h hS hb hbl he
        cases e with
        | normal =>
          obtain ⟨c', h', hw, hS', hb'⟩ := h1.canon (ev.lv bid)
          show Code.rounds P x Q n a c.w
          rw [← hw]
          exact ih _ c' a h' (hS'.trans h2) ⟨hb'.1.trans h3.1, hb'.2.trans h3.2⟩ (by rw [hw]; exact h4) h5
        | exit i => exact hQ _ c st a h1 h2 h3 h4 h5
        | goto l => exact hQ _ c st a h1 h2 h3 h4 h5
        | ret => exact hQ _ c st a h1 h2 h3 h4 h5
        | panic ch => exact hQ _ c st a h1 h2 h3 h4 h5
        | outgrown => exact hQ _ c st a h1 h2 h3 h4 h5
    obtain ⟨c', h', hw, hS', hb'⟩ := h.canon (ev.lv bid)
    rw [← hw]
    exact wp_loop_rounds L (key L _ c' a h' (hS'.trans hS) ⟨hb'.1.trans hb.1, hb'.2.trans hb.2⟩ (by rw [hw]; exact hbl) he)
  | .exit id, bid, k, Q, hQ, st, c, a, h, hS, hb, hbl, he => wp_exit (hQ _ c st a h hS hb hbl he)
  | .label l, bid, k, Q, hQ, st, c, a, h, hS, hb, hbl, he => wp_label (hQ _ c st a h hS hb hbl he)
  | .ret, bid, k, Q, hQ, st, c, a, h, hS, hb, hbl, he => wp_ret (hQ _ c st a h hS hb hbl he)
  | .rangeFunc _ _ _ _, bid, k, Q, hQ, st, c, a, h, hS, hb, hbl, he => by simp [evC] at he
  | .scope _, bid, k, Q, hQ, st, c, a, h, hS, hb, hbl, he => by simp [evC] at he
  | .goto _, bid, k, Q, hQ, st, c, a, h, hS, hb, hbl, he => by simp [evC] at he
  | .refuse _, bid, k, Q, hQ, st, c, a, h, hS, hb, hbl, he => by simp [evC] at he

/-! ### What a function hands back -/
/-- A piece that leaves: 'seen': what has left already. -/
def outL {ty : Nat → Type} (P : Program) (D F : List Nat) (t : TypeId) (seen : List Nat) (l : L ty) : Option (L ty × List Nat) :=
  match l with
  | some (.inl (.slice none 0 0)) => match sliceElem P t with
    | some e => some (ls { own := 2, nm := 0, e := e, o := true, xs := [] }, seen)
    | none => none
  | some (.inl v) => some (lv v, seen)
  | some (.inr s) => if s.own == 1 then
      (if D.contains s.nm || seen.contains s.nm then none
       else if F.contains s.nm then some (ls (ro s.e s.xs), seen)
       else if s.o then some (ls { own := 2, nm := 0, e := s.e, o := true, xs := s.xs }, s.nm :: seen) else none)
    else some (ls (ro s.e s.xs), seen)
  | none => none

def outLs {ty : Nat → Type} (P : Program) (D F : List Nat) : List TypeId → List Nat → List (L ty) → Option (List (L ty) × List Nat)
  | t :: ts, seen, l :: r => match outL P D F t seen l with
    | some (l', s1) => match outLs P D F ts s1 r with
      | some (r', s2) => some (l' :: r', s2)
      | none => none
    | none => none
  | [], seen, [] => some ([], seen)
  | _, _, _ => none

def outA {ty : Nat → Type} (P : Program) (D F : List Nat) (t : TypeId) (seen : List Nat) (a : A ty) : Option (A ty × List Nat) :=
  match a with
  | .inl l => match outL P D F t seen l with
    | some (l', s1) => some (.inl l', s1)
    | none => none
  | .inr l => match outLs P D F (leafTypes P 8 t) seen l with
    | some (l', s1) => some (.inr l', s1)
    | none => none

def outAs {ty : Nat → Type} (P : Program) (D F : List Nat) : List TypeId → List Nat → List (A ty) → Option (List (A ty) × List Nat)
  | t :: ts, seen, l :: r => match outA P D F t seen l with
    | some (l', s1) => match outAs P D F ts s1 r with
      | some (r', s2) => some (l' :: r', s2)
      | none => none
    | none => none
  | [], seen, [] => some ([], seen)
  | _, _, _ => none

/-- The results, as the slots have them. -/
def resA (P : Program) (slots : List (V cx.ty)) : List ResultVar → Option (List (A cx.ty))
  | [] => some []
  | .tmp t :: r => match slots.getD t junk, resA P slots r with
    | .inl a, some as => some (a :: as)
    | _, _ => none
  | .cell t ty :: r => match slots.getD t junk, resA P slots r with
    | .inr (.inr p), some as => if p.kind == 0 && p.i == 0 then (match subV P ty p.cells p.off with
      | some a => some (a :: as)
      | none => none) else none
    | _, _ => none

def outV (P : Program) (fn : Func) (st : St cx.ty) : Option (V cx.ty) :=
  match resA P st.slots fn.results.toList with
  | some [a] => match outA P st.D st.F (fn.resultTypes.toList.headD 0) [] a with
    | some (a', _) => some (.inl a')
    | none => none
  | some as => match outAs P st.D st.F fn.resultTypes.toList [] as with
    | some (as', _) => some (.inr (.inl as'))
    | none => none
  | none => none

def finK (P : Program) (fn : Func) : Kn cx (V cx.ty) := { n := outV P fn, x := fun _ _ => none, r := outV P fn }

def evF (P : Program) (ev : Env cx) (lp : Lp cx (V cx.ty)) (fn : Func) (args : List (A cx.ty)) : Option (V cx.ty) :=
  match fn.body with
  | some code => evC P ev lp 0 code { slots := args.map argV ++ List.replicate (fn.ntmps - args.length) junk, D := [], F := [], ctr := 1 } (finK P fn)
  | none => none

end
end Go.VM

namespace Go.VM
open Go.RowKit
section
variable {cx : Cx} {P : Program}

structure OSp (c : Ct cx.ty) (seen seen' : List Nat) (fp : List Nat) : Prop where
  src : ∀ b ∈ fp, ∃ tk ∈ c.T, tk.nm ∈ seen' ∧ tk.nm ∉ seen ∧ b ∈ blocks tk
  nd : fp.Nodup
  grow : ∀ n ∈ seen, n ∈ seen'
  row : ∀ b ∈ fp, ∃ tk ∈ c.T, (∃ s, tk.c = .inl s) ∧ b ∈ blocks tk

theorem OSp.nil (c : Ct cx.ty) (seen : List Nat) : OSp c seen seen [] := ⟨by simp, by simp, fun _ h => h, by simp⟩

theorem OSp.app {c : Ct cx.ty} (h : Wf cx c) {s0 s1 s2 f1 f2 : List Nat} (h1 : OSp c s0 s1 f1) (h2 : OSp c s1 s2 f2) : OSp c s0 s2 (f1 ++ f2) := by
  refine ⟨fun b hb => ?_, ?_, fun n hn => h2.grow n (h1.grow n hn), fun b hb => (List.mem_append.1 hb).elim (h1.row b) (h2.row b)⟩
  · rcases List.mem_append.1 hb with hb | hb
    · obtain ⟨tk, k1, k2, k3, k4⟩ := h1.src b hb
      exact ⟨tk, k1, h2.grow _ k2, k3, k4⟩
    · obtain ⟨tk, k1, k2, k3, k4⟩ := h2.src b hb
      exact ⟨tk, k1, k2, fun hs => k3 (h1.grow _ hs), k4⟩
  · rw [List.nodup_append]
    refine ⟨h1.nd, h2.nd, fun a ha b hb he => ?_⟩
    subst he
    obtain ⟨t1, k1, k2, k3, k4⟩ := h1.src a ha
    obtain ⟨t2, m1, m2, m3, m4⟩ := h2.src a hb
    exact disjoint_toks h k1 m1 (fun e => m3 (e ▸ k2)) k4 m4

theorem outL_spec {c : Ct cx.ty} (h : Wf cx c) {D F : List Nat} (hD : ∀ n, n ∈ c.D ↔ n ∈ D) (hF : ∀ n, n ∈ c.F ↔ n ∈ F) {t : TypeId} {seen seen' : List Nat} {l l' : L cx.ty} {u : Value} (hr : RepLS cx c l u) (ho : outL P D F t seen l = some (l', seen')) :
    ∃ fp, ResL cx c.w (Rd c) l' u fp ∧ OSp c seen seen' fp := by
  unfold outL at ho
  split at ho
  · split at ho
    · simp only [Option.some.injEq, Prod.mk.injEq] at ho
      obtain ⟨rfl, rfl⟩ := ho
      have hr : u = .slice none 0 0 := hr
      subst hr
      refine ⟨[], ?_, OSp.nil c seen⟩
      unfold ResL
      simp only [ls, if_true]
      exact ⟨trivial, 1, [], [], World.ownsRow_nil _ _ _ _, rfl, rfl, rfl, fun j l c f h => by simp at h⟩
    · simp at ho
  · simp only [Option.some.injEq, Prod.mk.injEq] at ho
    obtain ⟨rfl, rfl⟩ := ho
    exact ⟨[], ⟨hr, rfl⟩, OSp.nil c seen⟩
  · rename_i s
    unfold RepLS at hr
    by_cases h1 : s.own = 1
    · simp only [h1, if_true, beq_self_eq_true] at hr ho
      obtain ⟨_, hr⟩ := hr
      split at ho
      · simp at ho
      · rename_i hds
        simp only [Bool.or_eq_true, not_or, Bool.not_eq_true] at hds
        have h2 : s.nm ∉ c.D := by rw [hD]; simpa using hds.1
        have hsn : s.nm ∉ seen := by simpa using hds.2
        simp only [h2, if_false] at hr
        split at ho
        · rename_i hf
          have h3 : s.nm ∈ c.F := by rw [hF]; simpa using hf
          simp only [h3, if_true] at hr
          simp only [Option.some.injEq, Prod.mk.injEq] at ho
          obtain ⟨rfl, rfl⟩ := ho
          obtain ⟨n, hr⟩ := hr
          refine ⟨[], ?_, OSp.nil c seen⟩
          unfold ResL
          simp only [ls, ro]
          rw [if_neg (by decide), if_neg (by decide)]
          exact ⟨trivial, trivial, n, RepL_ro hr⟩
        · rename_i hf
          have h3 : s.nm ∉ c.F := by rw [hF]; simpa using hf
          simp only [h3, if_false] at hr
          obtain ⟨tk, ht, hn, hc, hu⟩ := hr
          split at ho
          · rename_i hso
            simp only [Option.some.injEq, Prod.mk.injEq] at ho
            obtain ⟨rfl, rfl⟩ := ho
            have htr := h.rep tk ht
            unfold TokRep at htr
            rw [hc] at htr
            simp only [hso, if_true] at htr
            obtain ⟨hv, n, htr⟩ := htr
            refine ⟨blocks tk, ?_, ⟨fun b hb => ⟨tk, ht, by rw [hn]; exact List.mem_cons_self .., by rw [hn]; exact hsn, hb⟩, ?_, fun n hn => List.mem_cons_of_mem _ hn, fun b hb => ⟨tk, ht, ⟨s, hc⟩, hb⟩⟩⟩
            · unfold ResL
              simp only [ls, if_true]
              refine ⟨trivial, n, ?_⟩
              rw [← hu]
              cases n with
              | zero => simp [OwnL] at htr
              | succ n => exact htr
            · have hnd := h.nodup
              obtain ⟨l1, l2, hl⟩ := List.append_of_mem ht
              rw [hl] at hnd
              simp only [List.flatMap_append, List.flatMap_cons] at hnd
              exact (List.nodup_append.1 (List.nodup_append.1 hnd).2.1).1
          · simp at ho
    · have hb1 : (s.own == 1) = false := by simpa using h1
      simp only [h1, if_false, hb1, Bool.false_eq_true] at hr ho
      simp only [Option.some.injEq, Prod.mk.injEq] at ho
      obtain ⟨rfl, rfl⟩ := ho
      obtain ⟨n, hr⟩ := hr
      refine ⟨[], ?_, OSp.nil c seen⟩
      unfold ResL
      simp only [ls, ro]
      rw [if_neg (by decide), if_neg (by decide)]
      exact ⟨trivial, trivial, n, RepL_ro hr⟩
  · simp at ho

theorem outLs_spec {c : Ct cx.ty} (h : Wf cx c) {D F : List Nat} (hD : ∀ n, n ∈ c.D ↔ n ∈ D) (hF : ∀ n, n ∈ c.F ↔ n ∈ F) : ∀ (ts : List TypeId) (l l' : List (L cx.ty)) (us : List Value) (seen seen' : List Nat), RepLs cx c l us → outLs P D F ts seen l = some (l', seen') →
    ∃ fps, ResLs cx c.w (Rd c) l' us fps ∧ OSp c seen seen' (List.flatten fps)
  | [], [], l', us, seen, seen', hr, ho => by
    simp only [outLs, Option.some.injEq, Prod.mk.injEq] at ho
    obtain ⟨rfl, rfl⟩ := ho
    exact ⟨[], ⟨hr.1, rfl, fun j a u f h => by simp at h⟩, OSp.nil c seen⟩
  | t :: ts, l :: r, l', us, seen, seen', hr, ho => by
    match us, hr with
    | [], hr => simp [RepLs] at hr
    | u :: us, hr =>
      simp only [outLs] at ho
      split at ho
      · rename_i l1 s1 e1
        split at ho
        · rename_i r1 s2 e2
          simp only [Option.some.injEq, Prod.mk.injEq] at ho
          obtain ⟨rfl, rfl⟩ := ho
          obtain ⟨f, h1, h2⟩ := outL_spec h hD hF (hr.2 0 l u rfl rfl) e1
          obtain ⟨fps, h3, h4⟩ := outLs_spec h hD hF ts r r1 us s1 s2 ⟨by simpa using hr.1, fun j a b e1 e2 => hr.2 (j + 1) a b (by simpa using e1) (by simpa using e2)⟩ e2
          refine ⟨f :: fps, ⟨by simp [h3.1], by simp [h3.2.1], fun j a b f' e1 e2 e3 => ?_⟩, by rw [List.flatten_cons]; exact h2.app h h4⟩
          cases j with
          | zero =>
            simp only [List.getElem?_cons_zero, Option.some.injEq] at e1 e2 e3
            subst e1; subst e2; subst e3
            exact h1
          | succ j => exact h3.2.2 j a b f' (by simpa using e1) (by simpa using e2) (by simpa using e3)
        · simp at ho
      · simp at ho
  | [], _ :: _, _, _, _, _, _, ho => by simp [outLs] at ho
  | _ :: _, [], _, _, _, _, _, ho => by simp [outLs] at ho

theorem outA_spec {c : Ct cx.ty} (h : Wf cx c) {D F : List Nat} (hD : ∀ n, n ∈ c.D ↔ n ∈ D) (hF : ∀ n, n ∈ c.F ↔ n ∈ F) {t : TypeId} {seen seen' : List Nat} {a a' : A cx.ty} {u : Value} (hr : RepA cx c a u) (ho : outA P D F t seen a = some (a', seen')) :
    ∃ fp, ResA cx c.w (Rd c) a' u fp ∧ OSp c seen seen' fp := by
  unfold outA at ho
  split at ho
  · split at ho
    · rename_i l1 s1 e1
      simp only [Option.some.injEq, Prod.mk.injEq] at ho
      obtain ⟨rfl, rfl⟩ := ho
      exact outL_spec h hD hF hr e1
    · simp at ho
  · split at ho
    · rename_i l1 s1 e1
      simp only [Option.some.injEq, Prod.mk.injEq] at ho
      obtain ⟨rfl, rfl⟩ := ho
      obtain ⟨us, hu, hr⟩ := hr
      obtain ⟨fps, h1, h2⟩ := outLs_spec h hD hF _ _ _ us _ _ hr e1
      exact ⟨_, ⟨us, fps, hu, rfl, h1⟩, h2⟩
    · simp at ho

theorem outAs_spec {c : Ct cx.ty} (h : Wf cx c) {D F : List Nat} (hD : ∀ n, n ∈ c.D ↔ n ∈ D) (hF : ∀ n, n ∈ c.F ↔ n ∈ F) : ∀ (ts : List TypeId) (l l' : List (A cx.ty)) (us : List Value) (seen seen' : List Nat), RepAs cx c l us → outAs P D F ts seen l = some (l', seen') →
    ∃ fps, ResAs cx c.w (Rd c) l' us fps ∧ OSp c seen seen' (List.flatten fps)
  | [], [], l', us, seen, seen', hr, ho => by
    simp only [outAs, Option.some.injEq, Prod.mk.injEq] at ho
    obtain ⟨rfl, rfl⟩ := ho
    exact ⟨[], ⟨hr.1, rfl, fun j a u f h => by simp at h⟩, OSp.nil c seen⟩
  | t :: ts, l :: r, l', us, seen, seen', hr, ho => by
    match us, hr with
    | [], hr => simp [RepAs] at hr
    | u :: us, hr =>
      simp only [outAs] at ho
      split at ho
      · rename_i l1 s1 e1
        split at ho
        · rename_i r1 s2 e2
          simp only [Option.some.injEq, Prod.mk.injEq] at ho
          obtain ⟨rfl, rfl⟩ := ho
          obtain ⟨f, h1, h2⟩ := outA_spec h hD hF (hr.2 0 l u rfl rfl) e1
          obtain ⟨fps, h3, h4⟩ := outAs_spec h hD hF ts r r1 us s1 s2 ⟨by simpa using hr.1, fun j a b e1 e2 => hr.2 (j + 1) a b (by simpa using e1) (by simpa using e2)⟩ e2
          refine ⟨f :: fps, ⟨by simp [h3.1], by simp [h3.2.1], fun j a b f' e1 e2 e3 => ?_⟩, by rw [List.flatten_cons]; exact h2.app h h4⟩
          cases j with
          | zero =>
            simp only [List.getElem?_cons_zero, Option.some.injEq] at e1 e2 e3
            subst e1; subst e2; subst e3
            exact h1
          | succ j => exact h3.2.2 j a b f' (by simpa using e1) (by simpa using e2) (by simpa using e3)
        · simp at ho
      · simp at ho
  | [], _ :: _, _, _, _, _, _, ho => by simp [outAs] at ho
  | _ :: _, [], _, _, _, _, _, ho => by simp [outAs] at ho

/-- One of the function's results, read. -/
def readR (tmps : Array Value) : ResultVar → Sem Value
  | .tmp t => pure (tmps.getD t undef)
  | .cell a t => do loadVar t (← asAddr (tmps.getD a undef))

theorem resA_spec (ok : cx.Ok) {c : Ct cx.ty} (hw : Wf cx c) {slots : List (V cx.ty)} {tmps : Array Value} (hr : ∀ t, RepV cx c (slots.getD t junk) (tmps.getD t undef)) : ∀ (l : List ResultVar) (as : List (A cx.ty)), resA P slots l = some as →
    ∃ us, (l.mapM (readR tmps)).run P c.w = .ok us c.w ∧ RepAs cx c as us
  | [], as, h => by
    simp only [resA, Option.some.injEq] at h
    subst h
    exact ⟨[], by simp, rfl, fun j a u h => by simp at h⟩
  | .tmp t :: r, as, h => by
    simp only [resA] at h
    split at h
    · rename_i a as' e1 e2
      simp only [Option.some.injEq] at h
      subst h
      obtain ⟨us, h1, h2⟩ := resA_spec ok hw hr r as' e2
      have hrt := hr t
      rw [e1] at hrt
      refine ⟨tmps.getD t undef :: us, ?_, by simp [h2.1], fun j a b k1 k2 => ?_⟩
      · simp only [List.mapM_cons, readR, Sem.run_bind, Sem.run_pure, Result.andThen_ok, h1]
      · cases j with
        | zero =>
          simp only [List.getElem?_cons_zero, Option.some.injEq] at k1 k2
          subst k1; subst k2
          exact hrt
        | succ j => exact h2.2 j a b (by simpa using k1) (by simpa using k2)
    · simp at h
  | .cell t ty :: r, as, h => by
    simp only [resA] at h
    split at h
    · rename_i p as' e1 e2
      split at h
      · rename_i hk
        simp only [Bool.and_eq_true, beq_iff_eq] at hk
        obtain ⟨hk, hi0⟩ := hk
        split at h
        · rename_i a ha
          simp only [Option.some.injEq] at h
          subst h
          obtain ⟨us, h1, h2⟩ := resA_spec ok hw hr r as' e2
          have hrt := hr t
          rw [e1] at hrt
          have hrt : RepP cx c p (tmps.getD t undef) := hrt
          obtain ⟨b, o, hu, hcells⟩ := pt_cells ok hw hrt (by simp [ptOk, hk, hi0]) (fun n hn => by simp [ptRead, hk] at hn)
          have hpc : ptCells cx p = p.cells := by simp [ptCells, hk]
          rw [hpc] at hcells
          obtain ⟨u, hrun, hrep⟩ := load_sub hcells ha
          refine ⟨u :: us, ?_, by simp [h2.1], fun j a b k1 k2 => ?_⟩
          · simp only [List.mapM_cons, readR, hu, asAddr, Sem.run_bind, Sem.run_pure, Result.andThen_ok, hrun, h1]
          · cases j with
            | zero =>
              simp only [List.getElem?_cons_zero, Option.some.injEq] at k1 k2
              subst k1; subst k2
              exact hrep
            | succ j => exact h2.2 j a b (by simpa using k1) (by simpa using k2)
        · simp at h
      · simp at h
    · simp at h

theorem results_eq (fn : Func) (tmps : Array Value) : results fn tmps = (do
    let vs ← fn.results.toList.mapM (readR tmps)
    pure (if h : vs.length = 1 then vs[0] else .tuple vs.toArray)) := by
  unfold results
  rw [show fn.results = fn.results.toList.toArray by simp]
  simp only [List.mapM_toArray, bind_map_left, List.size_toArray, List.getElem_toArray]
  rfl

def noOwnL {ty : Nat → Type} : L ty → Bool
  | some (.inr s) => s.own == 0
  | _ => true

def noOwnA {ty : Nat → Type} (a : A ty) : Bool :=
  match a with
  | .inl l => noOwnL l
  | .inr l => l.all noOwnL

def noOwnV {ty : Nat → Type} (v : V ty) : Bool :=
  match v with
  | .inl a => noOwnA a
  | .inr (.inl l) => l.all noOwnA
  | _ => false

theorem noOwnL_fp {w : World} {S : Nat → Prop} {l : L cx.ty} {u : Value} {f : List Nat} (hn : noOwnL l = true) (h : ResL cx w S l u f) : f = [] := by
  match l, h, hn with
  | some (.inl v), h, _ => exact h.2
  | some (.inr s), h, hn =>
    have : s.own = 0 := by simpa [noOwnL] using hn
    unfold ResL at h
    simp only [this] at h
    exact h.2.1

theorem noOwnA_fp {w : World} {S : Nat → Prop} {a : A cx.ty} {u : Value} {f : List Nat} (hn : noOwnA a = true) (h : ResA cx w S a u f) : f = [] := by
  match a, h, hn with
  | .inl l, h, hn => exact noOwnL_fp hn h
  | .inr l, ⟨us, fps, hu, hf, h1, h2, h⟩, hn =>
    rw [hf]
    refine flatten_nil fun f hf' => ?_
    obtain ⟨j, hj⟩ := List.getElem?_of_mem hf'
    have hjl : j < l.length := by rw [← h2]; exact (List.getElem?_eq_some_iff.1 hj).1
    have hju : j < us.length := by omega
    exact noOwnL_fp (List.all_eq_true.1 hn _ (List.getElem_mem hjl)) (h j _ _ f (List.getElem?_eq_getElem hjl) (List.getElem?_eq_getElem hju) hj)

theorem ResL_mono {w : World} {S S' : Nat → Prop} (hS : ∀ b, S b → S' b) {l : L cx.ty} {u : Value} {f : List Nat} (h : ResL cx w S l u f) : ResL cx w S' l u f := by
  match l, h with
  | some (.inl v), h => exact h
  | some (.inr s), h =>
    simp only [ResL] at h ⊢
    split at h
    · rename_i hs; rw [if_pos hs]; exact h
    · rename_i hs; rw [if_neg hs]
      split at h
      · rename_i hs4; rw [if_pos hs4]; exact ⟨h.1, h.2.mono (fun _ _ => rfl) (fun _ _ => rfl) hS⟩
      · rename_i hs4; rw [if_neg hs4]
        obtain ⟨h0, hf, n, h⟩ := h
        exact ⟨h0, hf, n, RepL_mono cx (fun _ _ => rfl) hS n _ u h⟩

theorem ResA_mono {w : World} {S S' : Nat → Prop} (hS : ∀ b, S b → S' b) {a : A cx.ty} {u : Value} {f : List Nat} (h : ResA cx w S a u f) : ResA cx w S' a u f := by
  match a, h with
  | .inl l, h => exact ResL_mono hS h
  | .inr l, ⟨us, fps, hu, hf, h1, h2, h⟩ => exact ⟨us, fps, hu, hf, h1, h2, fun j a b f' e1 e2 e3 => ResL_mono hS (h j a b f' e1 e2 e3)⟩

theorem outV_spec (ok : cx.Ok) {fn : Func} {st : St cx.ty} {c : Ct cx.ty} {a : Act} (h : RS cx c st a) {r : V cx.ty} (ho : outV P fn st = some r) (hmix : noRoV r = true ∨ noOwnV r = true) :
    ∃ u, (results fn a.tmps).run P c.w = .ok u c.w ∧ ResV cx c.w c.S c.N r u := by
  unfold outV at ho
  have fin1 : ∀ {a' : A cx.ty} {u : Value} {fp seen' : List Nat}, ResA cx c.w (Rd c) a' u fp → OSp c [] seen' fp → r = .inl a' → ResV cx c.w c.S c.N r u := by
    intro a' u fp seen' h1 h2 hra
    subst hra
    refine ⟨fp, h2.nd, fun b hb => ?_, ?_⟩
    · obtain ⟨tk, k1, _, _, k4⟩ := h2.src b hb
      exact h.wf.bound tk k1 b k4
    · rcases hmix with hm | hm
      · exact noRoA_res hm h1
      · have := noOwnA_fp hm h1
        subst this
        exact ResA_mono (fun b hb => by
          rcases hb.2.1 with hs | hs
          · exact .inl hs
          · exact .inr ⟨hs, hb.1, by simp⟩) h1
  have fin2 : ∀ {l : List (A cx.ty)} {us : List Value} {fps : List (List Nat)} {seen' : List Nat}, ResAs cx c.w (Rd c) l us fps → OSp c [] seen' (List.flatten fps) → r = .inr (.inl l) → ResV cx c.w c.S c.N r (.tuple us.toArray) := by
    intro l us fps seen' h1 h2 hra
    subst hra
    refine ⟨List.flatten fps, h2.nd, fun b hb => ?_, us, fps, rfl, rfl, h1.1, h1.2.1, fun j a b f e1 e2 e3 => ?_⟩
    · obtain ⟨tk, k1, _, _, k4⟩ := h2.src b hb
      exact h.wf.bound tk k1 b k4
    · have hj := h1.2.2 j a b f e1 e2 e3
      rcases hmix with hm | hm
      · exact noRoA_res (List.all_eq_true.1 hm a (List.mem_of_getElem? e1)) hj
      · have hfl : List.flatten fps = [] := by
          refine flatten_nil fun f hf' => ?_
          obtain ⟨i, hi⟩ := List.getElem?_of_mem hf'
          have hil : i < l.length := by rw [← h1.2.1]; exact (List.getElem?_eq_some_iff.1 hi).1
          have hiu : i < us.length := by rw [h1.1]; exact hil
          exact noOwnA_fp (List.all_eq_true.1 hm _ (List.getElem_mem hil)) (h1.2.2 i _ _ f (List.getElem?_eq_getElem hil) (List.getElem?_eq_getElem hiu) hi)
        rw [hfl]
        exact ResA_mono (fun b hb => by
          rcases hb.2.1 with hs | hs
          · exact .inl hs
          · exact .inr ⟨hs, hb.1, by simp⟩) hj
  rw [results_eq]
  split at ho
  · rename_i x hx
    split at ho
    · rename_i a' s1 e1
      simp only [Option.some.injEq] at ho
      obtain ⟨us, h1, h2⟩ := resA_spec (P := P) ok h.wf h.rep _ _ hx
      match us, h2 with
      | [u], h2 =>
        obtain ⟨fp, h3, h4⟩ := outA_spec h.wf h.dead h.frz (h2.2 0 x u rfl rfl) e1
        refine ⟨u, ?_, fin1 h3 h4 ho.symm⟩
        simp [h1]
      | [], h2 => simp [RepAs] at h2
      | _ :: _ :: _, h2 => simp [RepAs] at h2
    · simp at ho
  · rename_i as hne hx
    split at ho
    · rename_i as' s1 e1
      simp only [Option.some.injEq] at ho
      obtain ⟨us, h1, h2⟩ := resA_spec (P := P) ok h.wf h.rep _ _ hx
      obtain ⟨fps, h3, h4⟩ := outAs_spec h.wf h.dead h.frz _ _ _ us _ _ h2 e1
      refine ⟨.tuple us.toArray, ?_, fin2 h3 h4 ho.symm⟩
      have hlen : ¬ us.length = 1 := by
        intro hl
        rw [h2.1] at hl
        match as, hl, hne with
        | [x], _, hne => exact hne x rfl
      simp [h1, hlen]
    · simp at ho
  · simp at ho

/-- A function does what the abstract machine reckons. -/
theorem sat_of_ev (ok : cx.Ok) (hZ : cx.POk P) (hm : P.follows .mixedOrders = true) {f : FuncId} {fn : Func} (hf : P.funcs[f]? = some fn) {F : List (A cx.ty) → Option (Bool × V cx.ty)}
    (h : ∀ as r, F as = some (true, r) → ∃ (ev : Env cx) (L : Nat), KOk P cx ev.Kc ∧ KwOk P cx ev.Kw ∧ evF P ev (loopN L) fn as = some r ∧ (noRoV r = true ∨ noOwnV r = true)) : Sat P cx f F := by
  intro w A0 l us r hA hargs hF
  obtain ⟨ev, L, hK, hKw, hev, hmix⟩ := h l r hF
  unfold evF at hev
  split at hev
  · rename_i code hcode
    let c : Ct cx.ty := { T := [], D := [], F := [], w := w, S := A0, N := fun b => w.heap.size ≤ b, K := [] }
    have hwf : Wf cx c := ⟨by simp [c], by simp [c], by simp [c], by simp [c], fun b hb => by have := hA b hb; show ¬ w.heap.size ≤ b; omega, by simp [c], fun b hb => hb⟩
    have hrd : ∀ b, A0 b → Rd c b := fun b hb => ⟨hA b hb, .inl hb, by simp [c]⟩
    refine calls_of_wp hf hcode ?_
    refine evC_ok ok hZ ev L hK hKw hm (W := w) (S := A0) (N := fun b => w.heap.size ≤ b) (KK := []) code 0 _ _ (fun e c' st' a' h1 h2 h3 h4 h5 => ?_) _ c _ ⟨hwf, ?_, fun t => ?_, rfl, fun n => by simp [c], fun n => by simp [c], fun n hn => ?_, fun p u hp => by simp [c] at hp, PrOK.nil, PdOK.none⟩ rfl ⟨rfl, rfl⟩ (Kept.refl _ _) hev
    · have fin : outV P fn st' = some r → a'.defers = [] ∧ ∃ v, (results fn a'.tmps).run P c'.w = .ok v c'.w ∧ (∃ u, Ending.returned v = .returned u ∧ Below w.heap.size w c'.w ∧ ResV cx c'.w A0 (fun b => w.heap.size ≤ b) r u) := by
        intro ho
        obtain ⟨u, h6, h7⟩ := outV_spec ok h1 ho hmix
        rw [h2, h3.1] at h7
        exact ⟨h1.defers, u, h6, u, rfl, h4.low, h7⟩
      cases e with
      | normal => exact fin h5
      | ret => exact fin h5
      | _ => simp [finK, Kn.on] at h5
    · simp [hargs.1]
    · show RepV cx c _ _
      by_cases ht : t < l.length
      · have htu : t < us.length := by rw [hargs.1]; exact ht
        have e1 : (l.map argV ++ List.replicate (fn.ntmps - l.length) (junk : V cx.ty)).getD t junk = argV l[t] := by
          simp [List.getD, List.getElem?_append_left, ht]
        have e2 : (us.toArray ++ Array.replicate (fn.ntmps - us.toArray.size) undef).getD t undef = us[t] := by
          simp [Array.getD_eq_getD_getElem?, Array.getElem?_append, htu]
        rw [e1, e2]
        exact ArgA.repV hrd (hargs.2 t _ _ (List.getElem?_eq_getElem ht) (List.getElem?_eq_getElem htu))
      · have e1 : (l.map argV ++ List.replicate (fn.ntmps - l.length) (junk : V cx.ty)).getD t junk = junk := by
          simp only [List.getD]
          rw [List.getElem?_append_right (by simp; omega)]
          simp only [List.length_map, List.getElem?_replicate]
          split <;> rfl
        rw [e1]
        trivial
    · rcases hn with ⟨tk, ht, _⟩ | hn | hn
      · simp [c] at ht
      · simp [c] at hn
      · simp [c] at hn
  · simp at hev

end
end Go.VM

namespace Go.VM
open Go.RowKit

/-! ### Codecs, one a type -/
structure Cd (ty : Nat → Type) (T : Type) where
  dflt : T
  size : Nat
  flat : Bool
  dom : Bool
  enc : Bool → T → List (L ty)
  dec : List (L ty) → Option T
  len : ∀ o x, (enc o x).length = size
  leaf : ∀ o x l, l ∈ enc o x → (∃ v, l = some (.inl v) ∧ v.oneCell' = true) ∨ (∃ s, l = some (.inr s) ∧ s.own = (if o then 2 else 0))
  wk : ∀ o o' x, (enc o x).map (weak o') = enc o' x
  back : ∀ l x o, dec l = some x → l.map (VM.weak o) = enc o x
  flt : ∀ o x, flat = true → ∀ l ∈ enc o x, ∃ v, l = some (.inl v)

def cdNone {ty : Nat → Type} {T : Type} (z : T) : Cd ty T :=
  { dflt := z, size := 0, flat := false, dom := false, enc := fun _ _ => [], dec := fun _ => none, len := fun _ _ => rfl,
    leaf := fun _ _ _ h => by simp at h, wk := fun _ _ _ => rfl, back := fun _ _ _ h => by simp at h, flt := fun _ _ h => by simp at h }

def decI (k : IntKind) (v : Value) : Option Int := match v with | .int k' x => if k' = k then some x else none | _ => none

def cdInt {ty : Nat → Type} (k : IntKind) : Cd ty Int :=
  { dflt := 0, size := 1, flat := true, dom := true, enc := fun _ x => [lv (.int k x)],
    dec := fun l => match l with | [some (.inl v)] => decI k v | _ => none, len := fun _ _ => rfl,
    leaf := fun _ x l h => by
      simp only [List.mem_singleton] at h; exact .inl ⟨_, h, rfl⟩
    wk := fun _ _ _ => rfl
    back := fun l x o h => by
      split at h
      · rename_i v
        unfold decI at h
        split at h
        · split at h
          · rename_i hk
            subst hk
            cases h
            rfl
          · simp at h
        · simp at h
      · simp at h
    flt := fun _ x _ l h => by simp only [List.mem_singleton] at h; exact ⟨_, h⟩ }

def cdBool {ty : Nat → Type} : Cd ty Bool :=
  { dflt := false, size := 1, flat := true, dom := true, enc := fun _ x => [lv (.bool x)],
    dec := fun l => match l with | [some (.inl (.bool x))] => some x | _ => none, len := fun _ _ => rfl,
    leaf := fun _ x l h => by
      simp only [List.mem_singleton] at h; exact .inl ⟨_, h, rfl⟩
    wk := fun _ _ _ => rfl
    back := fun l x o h => by
      split at h
      · cases h; rfl
      · simp at h
    flt := fun _ x _ l h => by simp only [List.mem_singleton] at h; exact ⟨_, h⟩ }

def rowOf {ty : Nat → Type} (e : Nat) (s : SlD ty) : Option (List (ty e)) := if h : s.e = e then some (h ▸ s.xs) else none

/-- A slice of elements 'e', in one cell. -/
def cdRow {ty : Nat → Type} (e : Nat) : Cd ty (List (ty e)) :=
  { dflt := [], size := 1, flat := false, dom := false, enc := fun o x => [ls { own := if o then 2 else 0, nm := 0, e := e, o := o, xs := x }],
    dec := fun l => match l with | [some (.inr s)] => rowOf e s | _ => none, len := fun _ _ => rfl,
    leaf := fun _ x l h => by
      simp only [List.mem_singleton] at h; exact .inr ⟨_, h, rfl⟩
    wk := fun _ _ _ => rfl
    back := fun l x o h => by
      split at h
      · rename_i s
        unfold rowOf at h
        split at h
        · rename_i he
          obtain ⟨own, nm, e2, o2, xs⟩ := s
          simp only at he
          subst he
          cases h
          rfl
        · simp at h
      · simp at h
    flt := fun _ x h => by simp at h }

/-- Two codecs, one behind the other: structs. -/
def cdPair {ty : Nat → Type} {T U : Type} (a : Cd ty T) (b : Cd ty U) : Cd ty (T × U) :=
  { dflt := (a.dflt, b.dflt), size := a.size + b.size, flat := a.flat && b.flat, dom := a.dom && b.dom, enc := fun o x => a.enc o x.1 ++ b.enc o x.2,
    dec := fun l => match a.dec (l.take a.size), b.dec (l.drop a.size) with
      | some x, some y => some (x, y)
      | _, _ => none
    len := fun o x => by rw [List.length_append, a.len, b.len]
    leaf := fun o x l h => by
      rcases List.mem_append.1 h with h | h
      · exact a.leaf o x.1 l h
      · exact b.leaf o x.2 l h
    wk := fun o o' x => by rw [List.map_append, a.wk, b.wk]
    back := fun l x o h => by
      split at h
      · rename_i x1 x2 h1 h2
        cases h
        show l.map (weak o) = a.enc o x1 ++ b.enc o x2
        rw [← a.back _ x1 o h1, ← b.back _ x2 o h2, ← List.map_append, List.take_append_drop]
      · simp at h
    flt := fun o x h l hl => by
      simp only [Bool.and_eq_true] at h
      rcases List.mem_append.1 hl with hl | hl
      · exact a.flt o x.1 h.1 l hl
      · exact b.flt o x.2 h.2 l hl }

def Cx.of {ty : Nat → Type} (cd : (e : Nat) → Cd ty (ty e)) : Cx :=
  { ty := ty, dflt := fun e => (cd e).dflt, size := fun e => (cd e).size, flat := fun e => (cd e).flat, dom := fun e => (cd e).dom, enc := fun e => (cd e).enc, dec := fun e => (cd e).dec }

theorem Cx.of_ok {ty : Nat → Type} (cd : (e : Nat) → Cd ty (ty e)) : (Cx.of cd).Ok :=
  ⟨fun e => (cd e).len, fun e => (cd e).leaf, fun e => (cd e).wk, fun e => (cd e).back, fun e o x h => (cd e).flt o x h⟩

end Go.VM
