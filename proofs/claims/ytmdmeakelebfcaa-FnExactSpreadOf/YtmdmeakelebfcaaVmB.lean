/- A part of the proof of FnExactSpreadOf: VmB. -/
import Derived.Test.YtmdmeakelebfcaaVmA19
namespace Go.VM
open Go.RowKit
section
variable {cx : Cx} {P : Program}

/-- Division, remainder and shifts: their tests stand open. -/
def evBin {β : Type} (P : Program) (o : Oper) (slots : List (V cx.ty)) (op : BinOp) (x y : Operand) (k : Eff cx.ty → Option β) : Option β :=
  match op, getV slots x, getV slots y with
  | .quo, .inl (.inl (some (.inl (.int kx a)))), .inl (.inl (some (.inl (.int ky b)))) =>
    if kx = ky then bif b == 0 then none else k (purR (vv (.int kx (kx.wrap (a.tdiv b)))) []) else none
  | .rem, .inl (.inl (some (.inl (.int kx a)))), .inl (.inl (some (.inl (.int ky b)))) =>
    if kx = ky then bif b == 0 then none else k (purR (vv (.int kx (a.tmod b))) []) else none
  | .shl, .inl (.inl (some (.inl (.int kx a)))), .inl (.inl (some (.inl (.int _ b)))) =>
    bif decide (b < 0) then none else k (purR (vv (.int kx (kx.wrap (a * 2 ^ (min b.toNat kx.bits))))) [])
  | .shr, .inl (.inl (some (.inl (.int kx a)))), .inl (.inl (some (.inl (.int _ b)))) =>
    bif decide (b < 0) then none else k (purR (vv (.int kx (a.fdiv (2 ^ (min b.toNat kx.bits))))) [])
  | _, _, _ => evGen P o slots k

theorem evBin_ok {β : Type} {o : Oper} {slots : List (V cx.ty)} {nm0 : Nat} {op : BinOp} {xt yt : TypeId} {x y : Operand} (ho : o.op = .binOp op xt x y yt) {k : Eff cx.ty → Option β} {r : β}
    (h : evBin P o slots op x y k = some r) : ∃ ef, k ef = some r ∧ EffOK P cx o slots nm0 ef := by
  have hxm : x ∈ o.op.operands := by simp [ho, Op.operands]
  have hym : y ∈ o.op.operands := by simp [ho, Op.operands]
  unfold evBin at h
  split at h
  · rename_i kx a ky b hx hy
    split at h
    · rename_i hk
      subst hk
      cases hb : (b == 0) with
      | true => rw [hb] at h; simp at h
      | false =>
        rw [hb] at h
        refine ⟨_, h, effok_pur fun c ρ hw hop _ => ?_⟩
        have h1 := hop x hxm; rw [hx] at h1; have h1 : ρ x = .int kx a := h1
        have h2 := hop y hym; rw [hy] at h2; have h2 : ρ y = .int kx b := h2
        have hb0 : ¬ b = 0 := by simpa using hb
        refine ⟨_, ?_, rfl⟩
        unfold execOp
        simp [ho, h1, h2, eqGuard, binOp, Op.intDiv, hb0]
    · simp at h
  · rename_i kx a ky b hx hy
    split at h
    · rename_i hk
      subst hk
      cases hb : (b == 0) with
      | true => rw [hb] at h; simp at h
      | false =>
        rw [hb] at h
        refine ⟨_, h, effok_pur fun c ρ hw hop _ => ?_⟩
        have h1 := hop x hxm; rw [hx] at h1; have h1 : ρ x = .int kx a := h1
        have h2 := hop y hym; rw [hy] at h2; have h2 : ρ y = .int kx b := h2
        have hb0 : ¬ b = 0 := by simpa using hb
        refine ⟨_, ?_, rfl⟩
        unfold execOp
        simp [ho, h1, h2, eqGuard, binOp, Op.intDiv, hb0]
    · simp at h
  · rename_i kx a ky b hx hy
    cases hb : decide (b < 0) with
    | true => rw [hb] at h; simp at h
    | false =>
      rw [hb] at h
      refine ⟨_, h, effok_pur fun c ρ hw hop _ => ?_⟩
      have h1 := hop x hxm; rw [hx] at h1; have h1 : ρ x = .int kx a := h1
      have h2 := hop y hym; rw [hy] at h2; have h2 : ρ y = .int ky b := h2
      have hb0 : ¬ b < 0 := by simpa using hb
      refine ⟨_, ?_, rfl⟩
      unfold execOp
      simp [ho, h1, h2, eqGuard, binOp, Op.shift, hb0]
  · rename_i kx a ky b hx hy
    cases hb : decide (b < 0) with
    | true => rw [hb] at h; simp at h
    | false =>
      rw [hb] at h
      refine ⟨_, h, effok_pur fun c ρ hw hop _ => ?_⟩
      have h1 := hop x hxm; rw [hx] at h1; have h1 : ρ x = .int kx a := h1
      have h2 := hop y hym; rw [hy] at h2; have h2 : ρ y = .int ky b := h2
      have hb0 : ¬ b < 0 := by simpa using hb
      refine ⟨_, ?_, rfl⟩
      unfold execOp
      simp [ho, h1, h2, eqGuard, binOp, Op.shift, hb0]
  · exact evGen_ok h

theorem effok_move {o : Oper} {slots : List (V cx.ty)} {nm0 : Nat} {x : Operand} (ho : o.op = .move x ∨ o.op = .assign x) : EffOK P cx o slots nm0 (purR (getV slots x) []) :=
  effok_pur fun c ρ hw hop _ => by
    refine ⟨ρ x, ?_, hop x (by rcases ho with ho | ho <;> simp [ho, Op.operands])⟩
    unfold execOp
    rcases ho with ho | ho <;> simp [ho]

abbrev Kt (cx : Cx) := FuncId → Option (List (A cx.ty) → Option (Bool × V cx.ty))

def evCallOp {β : Type} (P : Program) (Kc : Kt cx) (o : Oper) (cl : Call) (slots : List (V cx.ty)) (nm0 : Nat) (k : Eff cx.ty → Option β) : Option β :=
  match cl.callee with
  | .value (.func f) => evCall P Kc slots f cl.args.toList cl.argTypes.toList nm0 k
  | .builtin .len => match cl.args.toList, cl.argTypes.toList with
    | [x], [t] => evLen P o slots t x k
    | _, _ => none
  | .builtin .append => match cl.args.toList, cl.argTypes.toList with
    | [x, y], [t, t'] => if t = t' then evAppendAll P cx slots t x y nm0 k else none
    | _, _ => none
  | _ => evGen P o slots k

theorem evCallOp_ok (ok : cx.Ok) (hZ : cx.POk P) {Kc : Kt cx} (hK : KOk P cx Kc) {β : Type} {o : Oper} {cl : Call} {slots : List (V cx.ty)} {nm0 : Nat} (ho : o.op = .call cl) {k : Eff cx.ty → Option β} {r : β}
    (h : evCallOp P Kc o cl slots nm0 k = some r) : ∃ ef, k ef = some r ∧ EffOK P cx o slots nm0 ef := by
  obtain ⟨callee, args, ts⟩ := cl
  unfold evCallOp at h
  dsimp only at h
  split at h
  · exact evCall_ok ok hK ho h
  · split at h
    · rename_i x t ha ht
      have ha' : args = #[x] := Array.ext' (by simpa using ha)
      have ht' : ts = #[t] := Array.ext' (by simpa using ht)
      subst ha'; subst ht'
      exact evLen_ok ok ho h
    · simp at h
  · split at h
    · rename_i x y t t2 ha ht
      split at h
      · rename_i htt
        subst htt
        have ha' : args = #[x, y] := Array.ext' (by simpa using ha)
        have ht' : ts = #[t, t] := Array.ext' (by simpa using ht)
        subst ha'; subst ht'
        exact evAppendAll_ok ok hZ ho h
      · simp at h
    · simp at h
  · exact evGen_ok h

def evOp {β : Type} (P : Program) (Kc : Kt cx) (o : Oper) (slots : List (V cx.ty)) (nm0 : Nat) (k : Eff cx.ty → Option β) : Option β :=
  match o.op with
  | .move x => k (purR (getV slots x) [])
  | .assign x => k (purR (getV slots x) [])
  | .pick c a b => evPick slots c a b k
  | .extract x i => evExtract slots x i k
  | .field t x i => evField P slots t x i k
  | .fieldAddr t x i => evFieldAddr P slots t x i k
  | .indexAddr t x ix => evIndexAddrB P slots t x ix k
  | .load t x => evLoad P slots t x k
  | .nilCheck x => evNil P o slots x k
  | .index t x ix => evIndex P o slots t x ix k
  | .binOp .eql t x y _ => evEqS P o slots .eql t x y k
  | .binOp op _ x y _ => evBin P o slots op x y k
  | .call cl => evCallOp P Kc o cl slots nm0 k
  | .alloc t => evAlloc P t nm0 k
  | .box _ x => evBox slots x nm0 k
  | .build t parts => evBuildR P slots t parts.toList k
  | .buildSlice t len parts => evBuildAll P cx slots t len parts.toList nm0 k
  | .makeSlice t l c => evMake P cx slots t l c nm0 k
  | .convert src dst x => evConv P cx o slots src dst x k
  | .slice t x lo hi mx => evSliceB P cx slots t x lo hi mx k
  | _ => evGen P o slots k

theorem evOp_ok (ok : cx.Ok) (hZ : cx.POk P) {Kc : Kt cx} (hK : KOk P cx Kc) {β : Type} {o : Oper} {slots : List (V cx.ty)} {nm0 : Nat} {k : Eff cx.ty → Option β} {r : β}
    (h : evOp P Kc o slots nm0 k = some r) : ∃ ef, k ef = some r ∧ EffOK P cx o slots nm0 ef := by
  unfold evOp at h
  split at h
  · rename_i x ho; exact ⟨_, h, effok_move (.inl ho)⟩
  · rename_i x ho; exact ⟨_, h, effok_move (.inr ho)⟩
  · rename_i ho; exact evPick_ok ho h
  · rename_i ho; exact evExtract_ok ho h
  · rename_i ho; exact evField_ok ho h
  · rename_i ho; exact evFieldAddr_ok ok ho h
  · rename_i ho; exact evIndexAddrB_ok ok ho h
  · rename_i ho; exact evLoad_ok ok ho h
  · rename_i ho; exact evNil_ok ho h
  · rename_i ho; exact evIndex_ok ho h
  · rename_i ho; exact evEqS_ok ho h
  · rename_i ho; exact evBin_ok ho h
  · rename_i ho; exact evCallOp_ok ok hZ hK ho h
  · rename_i ho; exact evAlloc_ok ho h
  · rename_i ho; exact evBox_ok ho h
  · rename_i ho; exact evBuildR_ok ho h
  · rename_i ho; exact evBuildAll_ok ok hZ ho h
  · rename_i ho; exact evMake_ok ok hZ ho h
  · rename_i ho; exact evConv_ok ok hZ ho h
  · rename_i ho; exact evSliceB_ok ok ho h
  · exact evGen_ok h

/-- A guard, as the slots show it. -/
def guardV {ty : Nat → Type} (ops : Array Oper) (slots : List (V ty)) (j : Nat) : Option Bool :=
  match (ops[j]?).bind (·.dst) with
  | some d => match slots.getD d junk with
    | .inl (.inl (some (.inl (.bool b)))) => some b
    | _ => none
  | none => none

theorem guardV_spec {c : Ct cx.ty} {slots : List (V cx.ty)} {a : Act} (h : ∀ t, RepV cx c (slots.getD t junk) (a.tmps.getD t undef)) {ops : Array Oper} {j : Nat} {b : Bool} (hg : guardV ops slots j = some b) : yielded ops a.tmps j = some b := by
  unfold guardV at hg
  unfold yielded
  cases hd : (ops[j]?).bind (·.dst) with
  | none => simp [hd] at hg
  | some d =>
    simp only [hd] at hg
    split at hg
    · rename_i b' hb
      simp only [Option.some.injEq] at hg
      subst hg
      have := h d
      rw [hb] at this
      have this : a.tmps.getD d undef = .bool b' := this
      simp only [Option.bind_some]
      cases ht : a.tmps[d]? with
      | none =>
        simp [Array.getD_eq_getD_getElem?, ht, undef] at this
      | some v =>
        have hv : v = .bool b' := by simpa [Array.getD_eq_getD_getElem?, ht] using this
        rw [hv]
    · simp at hg

/-- A guard that was itself passed by. -/
def guardU {ty : Nat → Type} (ops : Array Oper) (slots : List (V ty)) (j : Nat) : Bool :=
  match (ops[j]?).bind (·.dst) with
  | some d => match slots.getD d junk with
    | .inl (.inl (some (.inl (.bool _)))) => false
    | .inl (.inl (some (.inl _))) => true
    | _ => false
  | none => false

theorem guardU_spec {c : Ct cx.ty} {slots : List (V cx.ty)} {a : Act} (h : ∀ t, RepV cx c (slots.getD t junk) (a.tmps.getD t undef)) {ops : Array Oper} {j : Nat} (hg : guardU ops slots j = true) : yielded ops a.tmps j = none := by
  unfold guardU at hg
  unfold yielded
  cases hd : (ops[j]?).bind (·.dst) with
  | none => simp
  | some d =>
    simp only [hd] at hg
    split at hg
    · simp at hg
    · rename_i v hnb hv
      have hr := h d
      rw [hv] at hr
      have hr : a.tmps.getD d undef = v := hr
      simp only [Option.bind_some]
      cases ht : a.tmps[d]? with
      | none => rfl
      | some x =>
        have hx : x = v := by simpa [Array.getD_eq_getD_getElem?, ht] using hr
        subst hx
        cases x with
        | bool b => exact absurd rfl (hnb b)
        | _ => rfl
    · simp at hg

/-- What a guard has told is known from there on. -/
def setG {ty : Nat → Type} (ops : Array Oper) (slots : List (V ty)) (j : Nat) (b : Bool) : List (V ty) :=
  match (ops[j]?).bind (·.dst) with
  | some d => slots.set d (vv (.bool b))
  | none => slots

theorem setG_eq {ty : Nat → Type} {ops : Array Oper} {slots : List (V ty)} {j : Nat} {b : Bool} (h : guardV ops slots j = some b) : setG ops slots j b = slots := by
  unfold guardV at h
  unfold setG
  split at h
  · rename_i d hd
    split at h
    · rename_i b' hb
      simp only [Option.some.injEq] at h
      subst h
      simp only [List.getD] at hb
      cases hx : slots[d]? with
      | none => rw [hx] at hb; simp [junk] at hb
      | some v =>
        rw [hx] at hb
        simp only [Option.getD_some] at hb
        subst hb
        obtain ⟨hlt, hv⟩ := List.getElem?_eq_some_iff.1 hx
        show slots.set d (vv (.bool b')) = slots
        have : vv (.bool b') = slots[d] := hv.symm
        rw [this, List.set_getElem_self]
    · simp at h
  · simp at h

theorem both {α : Type} (b : Bool) (E : Bool → α) : (bif b then E true else E false) = E b := by cases b <;> rfl

def storeOf (o : Oper) : Option (TypeId × Operand × Operand) :=
  match o.op with
  | .store t a x => if o.dst.isNone && o.guard.isNone then some (t, a, x) else none
  | _ => none

theorem storeOf_eq {o : Oper} {t : TypeId} {a x : Operand} (h : storeOf o = some (t, a, x)) : o.op = .store t a x ∧ o.dst = none ∧ o.guard = none := by
  unfold storeOf at h
  split at h
  · rename_i t' a' x' ho
    split at h
    · rename_i hc
      simp only [Option.some.injEq, Prod.mk.injEq] at h
      obtain ⟨rfl, rfl, rfl⟩ := h
      simp only [Bool.and_eq_true, Option.isNone_iff_eq_none] at hc
      exact ⟨ho, hc.1, hc.2⟩
    · simp at h
  · simp at h

/-- Operations in the order of the text. -/
def evSeq {β : Type} (P : Program) (Kc : Kt cx) (Kw : Kwt cx) (kt : Value → St cx.ty → Option β) (ops : Array Oper) (k : St cx.ty → Option β) : List Oper → St cx.ty → Option β
  | [], st => k st
  | o :: rest, st0 => (fun st : St cx.ty =>
    match storeOf o with
    | some (t, a, x) => match stA P st t a x with
      | some st' => evSeq P Kc Kw kt ops k rest st'
      | none => none
    | none =>
      match wcallOf Kw o with
      | some (f, W, cl) => if smallO o.dst && loO st.lo o.dst then
          match W.p with
          | 0 => evCallW P f W st.slots cl.args.toList cl.argTypes.toList (nmOf st.ctr o.dst) fun ef ps => if chk st ef then evSeq P Kc Kw kt ops k rest (st.appW o.dst ef ps) else none
          | 1 => evCallP P f W st o.dst cl.args.toList cl.argTypes.toList fun st' => evSeq P Kc Kw kt ops k rest st'
          | 3 => evCallT P f W st cl.args.toList cl.argTypes.toList (nmOf st.ctr o.dst) kt fun ef => if chk st ef then evSeq P Kc Kw kt ops k rest (st.app o.dst ef) else none
          | _ => evCallN P f W st.slots cl.args.toList cl.argTypes.toList (nmOf st.ctr o.dst) fun ef => if chk st ef then evSeq P Kc Kw kt ops k rest (st.app o.dst ef) else none
        else none
      | none =>
      match arrBoxL P cx ops st.slots o with
      | some (p, ⟨e, xs⟩) => if loO st.lo o.dst then evSeq P Kc Kw kt ops k rest (st.frzB o.dst p.nm (vs (ro e xs))) else none
      | none =>
      match stC P cx st o with
      | some st' => if loO st.lo o.dst then evSeq P Kc Kw kt ops k rest st' else none
      | none =>
      if smallO o.dst && loO st.lo o.dst then
        match o.guard with
        | none => evOp P Kc o st.slots (nmOf st.ctr o.dst) fun ef => if chk st ef then evSeq P Kc Kw kt ops k rest (st.app o.dst ef) else none
        | some (g, want) => match guardV ops st.slots g with
          | some b => bif b then
              (bif true == want then evOp P Kc o (setG ops st.slots g true) (nmOf st.ctr o.dst) fun ef => if chk { st with slots := setG ops st.slots g true } ef then evSeq P Kc Kw kt ops k rest (St.app { st with slots := setG ops st.slots g true } o.dst ef) else none
               else evSeq P Kc Kw kt ops k rest (St.app { st with slots := setG ops st.slots g true } o.dst (purR (vv undef) [])))
            else
              (bif false == want then evOp P Kc o (setG ops st.slots g false) (nmOf st.ctr o.dst) fun ef => if chk { st with slots := setG ops st.slots g false } ef then evSeq P Kc Kw kt ops k rest (St.app { st with slots := setG ops st.slots g false } o.dst ef) else none
               else evSeq P Kc Kw kt ops k rest (St.app { st with slots := setG ops st.slots g false } o.dst (purR (vv undef) [])))
          | none => if guardU ops st.slots g then evSeq P Kc Kw kt ops k rest (st.app o.dst (purR (vv undef) [])) else none
      else none) (preSt P cx st0 o)

/-- What a run of code ends in: a state that stands for the machine's. -/
def Post (cx : Cx) (W : World) {β : Type} (S N : Nat → Prop) (KK : List (Nat × Value)) (k : Exit → St cx.ty → Option β) (r : β) (e : Exit) (a : Act) (w : World) : Prop :=
  ∃ c st, RS cx c st a ∧ c.w = w ∧ c.S = S ∧ (c.N = N ∧ c.K = KK) ∧ Kept N W w ∧ k e st = some r

theorem RS.skip {c : Ct cx.ty} {st : St cx.ty} {a : Act} (h : RS cx c st a) {d : Option Tmp} (hlo : loO st.lo d = true) : RS cx c (st.app d (purR (vv undef) [])) (a.put d undef) := by
  refine ⟨h.wf, put_size h.size d _ _, put_rep h.size h.rep d (by exact rfl), by rw [put_defers]; exact h.defers, fun n => by simp [St.app, purR, h.dead n], fun n => by simp [St.app, purR, h.frz n], fun n hn => ?_, fun p u' hp => ⟨(h.kp p u' hp).1, (put_lo hlo undef (h.kp p u' hp).1).trans (h.kp p u' hp).2⟩⟩
  exact Nat.lt_of_lt_of_le (h.names n hn) (Nat.mul_le_mul_right _ (Nat.le_succ _))

/-- One operation of a sequence, whatever follows. -/
theorem evSeq_step (ok : cx.Ok) (hZ : cx.POk P) {Kc : Kt cx} (hK : KOk P cx Kc) {Kw : Kwt cx} (hKw : KwOk P cx Kw) {β : Type} {W : World} {S N : Nat → Prop} {KK : List (Nat × Value)} {ops : Array Oper} {Q : Exit → Act → World → Prop} {k : St cx.ty → Option β} {kt : Value → St cx.ty → Option β} {r : β} (hQt : ∀ v c st a, RS cx c st a → c.S = S → (c.N = N ∧ c.K = KK) → Kept N W c.w → kt v st = some r → Q (.panic [{ v := v, recovered := false }]) a c.w) {o : Oper} {rest : List Oper} {i : Nat} (h0 : ops[i]? = some o)
    {st0 : St cx.ty} {c0 : Ct cx.ty} {a : Act} (h00 : RS cx c0 st0 a) (hS : c0.S = S) (hb : (c0.N = N ∧ c0.K = KK)) (hbl : Kept N W c0.w) (he : evSeq P Kc Kw kt ops k (o :: rest) st0 = some r) {K : Act → World → Prop}
    (hKn : ∀ c' st' a', RS cx c' st' a' → c'.S = S → (c'.N = N ∧ c'.K = KK) → Kept N W c'.w → evSeq P Kc Kw kt ops k rest st' = some r → K a' c'.w) : wpOp P ops Q i K a c0.w := by
  unfold wpOp
  simp only [h0]
  simp only [evSeq] at he
  obtain ⟨c, h, q1, q2, q3, q4⟩ := preSt_ok (P := P) ok o h00
  generalize preSt P cx st0 o = st at h he
  rw [← q1] at hbl ⊢
  replace hS := q2.trans hS
  replace hb := (⟨q3.trans hb.1, q4.trans hb.2⟩ : c.N = N ∧ c.K = KK)
  clear h00 q1 q2 q3 q4
  cases hso : storeOf o with
  | some q =>
    obtain ⟨t, sa, sx⟩ := q
    rw [hso] at he
    obtain ⟨ho, hdst, hgd⟩ := storeOf_eq hso
    simp only at he
    split at he
    · rename_i st' hst
      obtain ⟨w', T', hrun, hrs, hbel⟩ := stA_ok ok ho hst h
      have hwant : Region.wanted o (yielded ops a.tmps) = true := by simp [Region.wanted, hgd]
      rw [if_pos hwant]
      refine .inl (Oper.wp_of_runs ?_)
      unfold Runs
      rw [hrun]
      have hput : a.put o.dst undef = a := by rw [hdst]; rfl
      show K (a.put o.dst undef) w'
      rw [hput]
      exact hKn _ _ _ hrs hS hb (hbl.trans (by rw [← hb.1]; exact hbel)) he
    · simp at he
  | none =>
  rw [hso] at he
  simp only at he
  cases hwc : wcallOf Kw o with
  | some q =>
    obtain ⟨f, F, cl⟩ := q
    rw [hwc] at he
    simp only at he
    split at he
    · rename_i hsm0
      obtain ⟨hsm, hlo⟩ := Bool.and_eq_true_iff.1 hsm0
      obtain ⟨hgd, hkw, hop⟩ := wcallOf_eq hwc
      have hso' := hKw f F hkw
      unfold SatOf at hso'
      have hwant : Region.wanted o (yielded ops a.tmps) = true := by simp [Region.wanted, hgd]
      split at he
      · rename_i hp0
        rw [hp0] at hso'
        obtain ⟨ef, ps, hk, hrun⟩ := evCallW_ok (nm0 := nmOf st.ctr o.dst) ok hso' hop he
        split at hk
        · rename_i hc
          have hcs := chk_spec h hc
          rw [if_pos hwant]
          refine .inl (Oper.wp_of_runs ?_)
          refine (hrun c a.eval h.wf (fun x _ => eval_rep h.rep x) hcs.1 (h.fresh _)).mono fun u w' ⟨T', hg⟩ => ?_
          exact hKn _ _ _ (h.appW hsm hlo hg) hS hb (hbl.trans (by rw [← hb.1]; exact hg.below)) hk
        · simp at hk
      · rename_i hp1
        rw [hp1] at hso'
        rw [if_pos hwant]
        refine .inl (Oper.wp_of_runs ?_)
        refine (evCallP_ok ok hso' hop h hsm hlo he).mono fun u w' ⟨c', st', hk, hrs, hw', h1, h2, h3, h4⟩ => ?_
        subst hw'
        exact hKn _ _ _ hrs (h1.trans hS) ⟨h2.trans hb.1, h3.trans hb.2⟩ (hbl.trans (by rw [← hb.1]; exact h4)) hk
      · rename_i hp3
        rw [hp3] at hso'
        rw [if_pos hwant]
        rcases evCallT_ok (nm0 := nmOf st.ctr o.dst) ok hso' hop he with ⟨ef, hk, hef⟩ | ⟨v, hk, hthr⟩
        · split at hk
          · rename_i hc
            have hcs := chk_spec h hc
            refine .inl (Oper.wp_of_runs ?_)
            have hrun := hef.go c a.eval h.wf (fun x _ => eval_rep h.rep x) hcs.1 hcs.2 (h.fresh _)
            refine hrun.mono fun u w' ⟨T', hg⟩ => ?_
            exact hKn _ _ _ (h.app hsm hlo hg) hS hb (hbl.trans (by rw [← hb.1]; exact hg.below)) hk
          · simp at hk
        · obtain ⟨hrun, hcall⟩ := hthr c a h
          refine .inl ?_
          unfold Oper.wp
          rw [hrun]
          refine hcall.mono fun e w' ⟨he2, hbw⟩ => ?_
          subst he2
          obtain ⟨c', hrs, e1, e2, e3, e4, e5⟩ := h.later hbw
          show Q (.panic [{ v := v, recovered := false }]) a w'
          rw [← e1]
          exact hQt v c' st a hrs (e2.trans hS) ⟨e3.trans hb.1, e4.trans hb.2⟩ (by rw [e1]; exact hbl.trans (by rw [← hb.1]; exact e5)) hk
      · rename_i hp0 hp1 hp3
        have hso2 : SatN P cx f F.F := by
          revert hso'
          split
          · rename_i hh; exact absurd hh hp0
          · rename_i hh; exact absurd hh hp1
          · rename_i hh; exact absurd hh hp3
          · exact fun h => h
        obtain ⟨ef, hk, hef⟩ := evCallN_ok (nm0 := nmOf st.ctr o.dst) (slots := st.slots) ok hso2 hop he
        split at hk
        · rename_i hc
          have hcs := chk_spec h hc
          rw [if_pos hwant]
          refine .inl (Oper.wp_of_runs ?_)
          have hrun := hef.go c a.eval h.wf (fun x _ => eval_rep h.rep x) hcs.1 hcs.2 (h.fresh _)
          refine hrun.mono fun u w' ⟨T', hg⟩ => ?_
          exact hKn _ _ _ (h.app hsm hlo hg) hS hb (hbl.trans (by rw [← hb.1]; exact hg.below)) hk
        · simp at hk
    · simp at he
  | none =>
  rw [hwc] at he
  simp only at he
  cases hab : arrBoxL P cx ops st.slots o with
  | some q =>
    obtain ⟨p, e, xs⟩ := q
    rw [hab] at he
    simp only at he
    split at he
    · rename_i hlo
      obtain ⟨hgd, hrun⟩ := arrBox_ok ok (arrBoxL_eq hab) h hlo
      have hwant : Region.wanted o (yielded ops a.tmps) = true := by simp [Region.wanted, hgd]
      rw [if_pos hwant]
      refine .inl (Oper.wp_of_runs ?_)
      refine hrun.mono fun u w' ⟨c', hrs, hw', h1, h2, h3, h4⟩ => ?_
      rw [← hw']
      exact hKn _ _ _ hrs (h1.trans hS) ⟨h2.trans hb.1, h3.trans hb.2⟩ (by rw [hw', h4]; exact hbl) he
    · simp at he
  | none =>
  rw [hab] at he
  simp only at he
  cases hsc : stC P cx st o with
  | some st' =>
    rw [hsc] at he
    simp only at he
    split at he
    · rename_i hlo
      obtain ⟨hgd, hrun⟩ := stC_ok ok hZ hsc h hlo
      have hwant : Region.wanted o (yielded ops a.tmps) = true := by simp [Region.wanted, hgd]
      rw [if_pos hwant]
      refine .inl (Oper.wp_of_runs ?_)
      refine hrun.mono fun u w' ⟨c', hrs, hw', h1, h2, h3, h4⟩ => ?_
      rw [← hw']
      exact hKn _ _ _ hrs (h1.trans hS) ⟨h2.trans hb.1, h3.trans hb.2⟩ (by rw [hw']; exact hbl.trans (by rw [← hb.1]; exact h4)) he
    · simp at he
  | none =>
  rw [hsc] at he
  simp only at he
  split at he
  · rename_i hsm0
    obtain ⟨hsm, hlo⟩ := Bool.and_eq_true_iff.1 hsm0
    have run : ∀ hr : (evOp P Kc o st.slots (nmOf st.ctr o.dst) fun ef => if chk st ef then evSeq P Kc Kw kt ops k rest (st.app o.dst ef) else none) = some r, o.wp P a c.w K Q := by
      intro hr
      obtain ⟨ef, hk, hef⟩ := evOp_ok (nm0 := nmOf st.ctr o.dst) ok hZ hK hr
      split at hk
      · rename_i hc
        have hcs := chk_spec h hc
        apply Oper.wp_of_runs
        have hrun := hef.go c a.eval h.wf (fun x _ => eval_rep h.rep x) hcs.1 hcs.2 (h.fresh _)
        refine hrun.mono fun u w' ⟨T', hg⟩ => ?_
        exact hKn _ _ _ (h.app hsm hlo hg) hS hb (hbl.trans (by rw [← hb.1]; exact hg.below)) hk
      · simp at hk
    split at he
    · rename_i hg
      simp only [Region.wanted, hg, if_true]
      exact .inl (run he)
    · rename_i g want hg
      split at he
      · rename_i b hb'
        have hy := guardV_spec h.rep hb'
        replace he := (both b (fun v => (bif v == want then evOp P Kc o (setG ops st.slots g v) (nmOf st.ctr o.dst) fun ef => if chk { st with slots := setG ops st.slots g v } ef then evSeq P Kc Kw kt ops k rest (St.app { st with slots := setG ops st.slots g v } o.dst ef) else none
               else evSeq P Kc Kw kt ops k rest (St.app { st with slots := setG ops st.slots g v } o.dst (purR (vv undef) []))))).symm.trans he
        simp only [setG_eq hb'] at he
        cases hbw : (b == want) with
        | true =>
          rw [hbw] at he
          have : Region.wanted o (yielded ops a.tmps) = true := by simp only [Region.wanted, hg, hy]; simpa using hbw
          rw [if_pos this]
          exact .inl (run he)
        | false =>
          rw [hbw] at he
          have : Region.wanted o (yielded ops a.tmps) = false := by simp only [Region.wanted, hg, hy]; simpa using hbw
          rw [if_neg (by simp [this])]
          exact hKn c _ _ (h.skip hlo) hS hb hbl he
      · split at he
        · rename_i hu
          have hy := guardU_spec h.rep hu
          have : Region.wanted o (yielded ops a.tmps) = false := by simp only [Region.wanted, hg, hy]; rfl
          rw [if_neg (by simp [this])]
          exact hKn c _ _ (h.skip hlo) hS hb hbl he
        · simp at he
  · simp at he

theorem evSeq_ok (ok : cx.Ok) (hZ : cx.POk P) {Kc : Kt cx} (hK : KOk P cx Kc) {Kw : Kwt cx} (hKw : KwOk P cx Kw) {β : Type} {W : World} {S N : Nat → Prop} {KK : List (Nat × Value)} {ops : Array Oper} {Q : Exit → Act → World → Prop} {k : St cx.ty → Option β} {kt : Value → St cx.ty → Option β} {r : β}
    (hQt : ∀ v c st a, RS cx c st a → c.S = S → (c.N = N ∧ c.K = KK) → Kept N W c.w → kt v st = some r → Q (.panic [{ v := v, recovered := false }]) a c.w)
    (hQ : ∀ c st a, RS cx c st a → c.S = S → (c.N = N ∧ c.K = KK) → Kept N W c.w → k st = some r → Q .normal a c.w) :
    ∀ (l : List Oper) (i : Nat), (∀ j, l[j]? = ops[i + j]?) → ∀ (st : St cx.ty) (c : Ct cx.ty) (a : Act), RS cx c st a → c.S = S → (c.N = N ∧ c.K = KK) → Kept N W c.w → evSeq P Kc Kw kt ops k l st = some r →
      wpOps P ops Q (List.range' i l.length) a c.w
  | [], i, _, st, c, a, h, hS, hb, hbl, he => hQ c st a h hS hb hbl he
  | o :: rest, i, hl, st, c, a, h, hS, hb, hbl, he => by
    have h0 : ops[i]? = some o := by simpa using (hl 0).symm
    have hl' : ∀ j, rest[j]? = ops[i + 1 + j]? := fun j => by have := hl (j + 1); simpa [Nat.add_assoc, Nat.add_comm 1 j] using this
    simp only [List.length_cons, List.range'_succ]
    rw [wpOps_cons]
    exact evSeq_step ok hZ hK hKw hQt h0 h hS hb hbl he fun c' st' a' h1 h2 h3 h4 h5 => evSeq_ok ok hZ hK hKw hQt hQ rest (i + 1) hl' st' c' a' h1 h2 h3 h4 h5

end
end Go.VM
