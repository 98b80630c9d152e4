/- A part of the proof of FnExactWrapGre: VmC. -/
import Derived.Test.YtaegcoihgnobiaaVmB
namespace Go.VM
open Go.RowKit
section
variable {cx : Cx} {P : Program}

def afterOf (ops : Array Oper) (i : Nat) : List Nat :=
  match ops[i]? with
  | some o => (o.after.toList.filter (Region.binds .any)).map (·.on)
  | none => []

def clos (ops : Array Oper) : Nat → List Nat → List Nat
  | 0, l => l
  | n + 1, l => clos ops n (l ++ l.flatMap (afterOf ops)).eraseDups

/-- Each of the operations from 'p' on waits for all ahead of it. -/
def lateB (ops : Array Oper) (p : Nat) : Bool :=
  (List.range ops.size).all fun r => decide (r < p) || (List.range r).all fun i => (clos ops 3 (afterOf ops r)).contains i

/-- Each waits for those ahead alone; two of the first 'p' are apart, or the one waits for the other; no two write one slot. -/
def earlyB (ops : Array Oper) (p : Nat) : Bool :=
  ((List.range ops.size).all fun j => (afterOf ops j).all fun i => decide (i < j)) &&
  ((List.range p).all fun j => (List.range j).all fun i =>
    match ops[i]?, ops[j]? with
    | some oi, some oj => ((afterOf ops j).contains i || oi.apart ops oj) && oi.dst != oj.dst
    | _, _ => false)

def quietE {ty : Nat → Type} (D : List Nat) (ef : Eff ty) : Bool := ef.dead.isEmpty && ef.frz.isEmpty && ef.live.isEmpty && ef.read.all (fun n => !D.contains n)

theorem quietE_eq {D : List Nat} {ef : Eff cx.ty} (h : quietE D ef = true) : ef = purR ef.v ef.read ∧ ∀ n ∈ ef.read, n ∉ D := by
  obtain ⟨v, d, f, l, r⟩ := ef
  simp only [quietE, Bool.and_eq_true, List.isEmpty_iff, List.all_eq_true] at h
  obtain ⟨⟨⟨rfl, rfl⟩, rfl⟩, h4⟩ := h
  exact ⟨rfl, fun n hn => by have := h4 n hn; simpa using this⟩

def dstOk (len lo : Nat) (d : Option Nat) : Bool := smallO d && loO lo d && (match d with | some d => decide (d < len) | none => true)

theorem dstOk_spec {len lo : Nat} {d : Option Nat} (h : dstOk len lo d = true) : smallO d = true ∧ loO lo d = true ∧ ∀ x, d = some x → x < len := by
  simp only [dstOk, Bool.and_eq_true] at h
  exact ⟨h.1.1, h.1.2, fun x hx => by rw [hx] at h; simpa using h.2⟩

def evPre {β : Type} (P : Program) (Kc : Kt cx) (ops : Array Oper) (ctr len lo : Nat) (D : List Nat) (k : List (V cx.ty) → Option β) : List Oper → List (V cx.ty) → Option β
  | [], slots => k slots
  | o :: rest, slots =>
    if dstOk len lo o.dst then
      match o.guard with
      | none => evOp P Kc o slots (nmOf ctr o.dst) fun ef => if quietE D ef then evPre P Kc ops ctr len lo D k rest (setO slots o.dst ef.v) else none
      | some (g, want) => match guardV ops slots g with
        | some b => bif b then
            (bif true == want then evOp P Kc o (setG ops slots g true) (nmOf ctr o.dst) fun ef => if quietE D ef then evPre P Kc ops ctr len lo D k rest (setO (setG ops slots g true) o.dst ef.v) else none
             else evPre P Kc ops ctr len lo D k rest (setO (setG ops slots g true) o.dst (vv undef)))
          else
            (bif false == want then evOp P Kc o (setG ops slots g false) (nmOf ctr o.dst) fun ef => if quietE D ef then evPre P Kc ops ctr len lo D k rest (setO (setG ops slots g false) o.dst ef.v) else none
             else evPre P Kc ops ctr len lo D k rest (setO (setG ops slots g false) o.dst (vv undef)))
        | none => if guardU ops slots g then evPre P Kc ops ctr len lo D k rest (setO slots o.dst (vv undef)) else none
    else none

def fillL {ty : Nat → Type} : List Oper → List (V ty) → List (V ty) → List (V ty)
  | o :: l, v :: E, s => fillL l E (setO s o.dst v)
  | _, _, s => s

def guardOk {ty : Nat → Type} (ops : Array Oper) (o : Oper) (slots : List (V ty)) : Prop :=
  match o.guard with
  | none => True
  | some (g, want) => ∃ b, guardV ops slots g = some b ∧ (b == want) = true

def OpFact (P : Program) (cx : Cx) (ops : Array Oper) (D : List Nat) (ctr len lo : Nat) (o : Oper) (slots : List (V cx.ty)) (v : V cx.ty) : Prop :=
  smallO o.dst = true ∧ loO lo o.dst = true ∧ (∀ d, o.dst = some d → d < len) ∧
  ((∃ rd, guardOk ops o slots ∧ EffOK P cx o slots (nmOf ctr o.dst) (purR v rd) ∧ ∀ n ∈ rd, n ∉ D) ∨
   (v = vv undef ∧ ∃ g want, o.guard = some (g, want) ∧ ((∃ b, guardV ops slots g = some b ∧ (b == want) = false) ∨ guardU ops slots g = true)))

theorem evPre_facts (ok : cx.Ok) (hZ : cx.POk P) {Kc : Kt cx} (hK : KOk P cx Kc) {β : Type} {ops : Array Oper} {ctr len lo : Nat} {D : List Nat} {k : List (V cx.ty) → Option β} {r : β} :
    ∀ (l : List Oper) (slots : List (V cx.ty)), evPre P Kc ops ctr len lo D k l slots = some r → ∃ E : List (V cx.ty), E.length = l.length ∧ k (fillL l E slots) = some r ∧
      ∀ (j : Nat) o v, l[j]? = some o → E[j]? = some v → OpFact P cx ops D ctr len lo o (fillL (l.take j) (E.take j) slots) v
  | [], slots, h => ⟨[], rfl, h, fun j o v h => by simp at h⟩
  | o :: rest, slots, h => by
    simp only [evPre] at h
    split at h
    · rename_i hsm
      obtain ⟨hsm, hlo, hlen⟩ := dstOk_spec hsm
      have glue : ∀ v, OpFact P cx ops D ctr len lo o slots v → evPre P Kc ops ctr len lo D k rest (setO slots o.dst v) = some r →
          ∃ E : List (V cx.ty), E.length = (o :: rest).length ∧ k (fillL (o :: rest) E slots) = some r ∧
            ∀ (j : Nat) o' v, (o :: rest)[j]? = some o' → E[j]? = some v → OpFact P cx ops D ctr len lo o' (fillL ((o :: rest).take j) (E.take j) slots) v := by
        intro v hv hr
        obtain ⟨E, h1, h2, h3⟩ := evPre_facts ok hZ hK rest _ hr
        refine ⟨v :: E, by simp [h1], h2, fun j o' v' e1 e2 => ?_⟩
        cases j with
        | zero =>
          simp only [List.getElem?_cons_zero, Option.some.injEq] at e1 e2
          subst e1; subst e2
          exact hv
        | succ j => exact h3 j o' v' (by simpa using e1) (by simpa using e2)
      have run : guardOk ops o slots → (evOp P Kc o slots (nmOf ctr o.dst) fun ef => if quietE D ef then evPre P Kc ops ctr len lo D k rest (setO slots o.dst ef.v) else none) = some r →
          ∃ E : List (V cx.ty), E.length = (o :: rest).length ∧ k (fillL (o :: rest) E slots) = some r ∧
            ∀ (j : Nat) o' v, (o :: rest)[j]? = some o' → E[j]? = some v → OpFact P cx ops D ctr len lo o' (fillL ((o :: rest).take j) (E.take j) slots) v := by
        intro hg hr
        obtain ⟨ef, hk, hef⟩ := evOp_ok (nm0 := nmOf ctr o.dst) ok hZ hK hr
        split at hk
        · rename_i hq
          obtain ⟨he, hrd⟩ := quietE_eq hq
          rw [he] at hef
          exact glue ef.v ⟨hsm, hlo, hlen, .inl ⟨ef.read, hg, hef, hrd⟩⟩ hk
        · simp at hk
      split at h
      · rename_i hg
        exact run (by unfold guardOk; rw [hg]; trivial) h
      · rename_i g want hg
        split at h
        · rename_i b hb
          replace h := (both b (fun v => (bif v == want then evOp P Kc o (setG ops slots g v) (nmOf ctr o.dst) fun ef => if quietE D ef then evPre P Kc ops ctr len lo D k rest (setO (setG ops slots g v) o.dst ef.v) else none
             else evPre P Kc ops ctr len lo D k rest (setO (setG ops slots g v) o.dst (vv undef))))).symm.trans h
          simp only [setG_eq hb] at h
          cases hbw : (b == want) with
          | true =>
            rw [hbw] at h
            exact run (by unfold guardOk; rw [hg]; exact ⟨b, hb, hbw⟩) h
          | false =>
            rw [hbw] at h
            exact glue (vv undef) ⟨hsm, hlo, hlen, .inr ⟨rfl, g, want, hg, .inl ⟨b, hb, hbw⟩⟩⟩ h
        · split at h
          · rename_i hu
            exact glue (vv undef) ⟨hsm, hlo, hlen, .inr ⟨rfl, g, want, hg, .inr hu⟩⟩ h
          · simp at h
    · simp at h

/-- The slots once the operations of 'X' have come up. -/
def vOf {ty : Nat → Type} (dst : Nat → Option Nat) (E : Nat → V ty) (s0 : Nat → V ty) (p : Nat) (X : Nat → Bool) (t : Nat) : V ty :=
  match (List.range p).find? (fun i => X i && dst i == some t) with
  | some i => E i
  | none => s0 t

theorem vOf_congr {ty : Nat → Type} {dst : Nat → Option Nat} {E : Nat → V ty} {s0 : Nat → V ty} {p : Nat} {X Y : Nat → Bool} {t : Nat} (h : ∀ i, i < p → dst i = some t → X i = Y i) : vOf dst E s0 p X t = vOf dst E s0 p Y t := by
  unfold vOf
  have : (List.range p).find? (fun i => X i && dst i == some t) = (List.range p).find? (fun i => Y i && dst i == some t) := by
    have key : ∀ l : List Nat, (∀ i ∈ l, i < p) → l.find? (fun i => X i && dst i == some t) = l.find? (fun i => Y i && dst i == some t) := by
      intro l
      induction l with
      | nil => intro _; rfl
      | cons a r ih =>
        intro hl
        have ha := hl a (List.mem_cons_self ..)
        have hr := ih (fun i hi => hl i (List.mem_cons_of_mem _ hi))
        simp only [List.find?_cons]
        by_cases hd : dst a = some t
        · rw [h a ha hd, hr]
        · have : (dst a == some t) = false := by simpa using hd
          simp only [this, Bool.and_false]
          exact hr
    exact key _ (fun i hi => List.mem_range.1 hi)
  rw [this]

theorem vOf_hit {ty : Nat → Type} {dst : Nat → Option Nat} {E : Nat → V ty} {s0 : Nat → V ty} {p : Nat} {X : Nat → Bool} {t i : Nat} (hd : ∀ i j, i < p → j < p → dst i = some t → dst j = some t → i = j) (hi : i < p) (hX : X i = true) (ht : dst i = some t) : vOf dst E s0 p X t = E i := by
  unfold vOf
  cases hf : (List.range p).find? (fun i => X i && dst i == some t) with
  | none =>
    have := List.find?_eq_none.1 hf i (List.mem_range.2 hi)
    simp [hX, ht] at this
  | some j =>
    have h1 := List.find?_some hf
    have h2 := List.mem_range.1 (List.mem_of_find?_eq_some hf)
    simp only [Bool.and_eq_true, beq_iff_eq] at h1
    rw [hd i j hi h2 ht h1.2]

theorem vOf_miss {ty : Nat → Type} {dst : Nat → Option Nat} {E : Nat → V ty} {s0 : Nat → V ty} {p : Nat} {X : Nat → Bool} {t : Nat} (h : ∀ i, i < p → X i = true → dst i ≠ some t) : vOf dst E s0 p X t = s0 t := by
  unfold vOf
  have : (List.range p).find? (fun i => X i && dst i == some t) = none := by
    rw [List.find?_eq_none]
    intro i hi
    have := h i (List.mem_range.1 hi)
    simp only [Bool.and_eq_true, beq_iff_eq, not_and]
    exact this
  rw [this]

theorem fillL_length {ty : Nat → Type} : ∀ (l : List Oper) (E : List (V ty)) (s : List (V ty)), (fillL l E s).length = s.length
  | [], _, _ => rfl
  | _ :: _, [], _ => rfl
  | o :: l, v :: E, s => by
    simp only [fillL]
    rw [fillL_length l E]
    cases o.dst <;> simp [setO]

theorem fillL_snoc {ty : Nat → Type} : ∀ (l : List Oper) (E : List (V ty)) (s : List (V ty)) (o : Oper) (v : V ty), E.length = l.length → fillL (l ++ [o]) (E ++ [v]) s = setO (fillL l E s) o.dst v
  | [], [], _, _, _, _ => rfl
  | [], _ :: _, _, _, _, h => by simp at h
  | _ :: _, [], _, _, _, h => by simp at h
  | a :: l, b :: E, s, o, v, h => by
    simp only [List.cons_append, fillL]
    exact fillL_snoc l E _ o v (by simpa using h)

theorem setO_getD {ty : Nat → Type} (s : List (V ty)) (d : Option Nat) (v : V ty) (t : Nat) (hd : ∀ x, d = some x → x < s.length) : (setO s d v).getD t junk = if d = some t then v else s.getD t junk := by
  cases d with
  | none => simp [setO]
  | some d =>
    have := hd d rfl
    by_cases h : d = t
    · subst h; simp [setO, List.getD, this]
    · have h' : ¬ some d = some t := by simpa using h
      simp [setO, List.getD, List.getElem?_set_ne h, h']

/-- The slots behind the first 'j' operations of the text. -/
theorem fill_vOf {ty : Nat → Type} {l : List Oper} {E : List (V ty)} {s : List (V ty)} (hE : E.length = l.length) (hlen : ∀ (j : Nat) o d, l[j]? = some o → o.dst = some d → d < s.length)
    (hdist : ∀ t i j, i < l.length → j < l.length → (l[i]?).bind (·.dst) = some t → (l[j]?).bind (·.dst) = some t → i = j) :
    ∀ j, j ≤ l.length → ∀ t, (fillL (l.take j) (E.take j) s).getD t junk = vOf (fun i => (l[i]?).bind (·.dst)) (fun i => E.getD i junk) (fun t => s.getD t junk) l.length (fun i => decide (i < j)) t
  | 0, _, t => by
    rw [vOf_miss (fun i _ h => by simp at h)]
    rfl
  | j + 1, hj, t => by
    have hlt : j < l.length := hj
    have hltE : j < E.length := by omega
    have e1 : l.take (j + 1) = l.take j ++ [l[j]] := by rw [List.take_succ_eq_append_getElem hlt]
    have e2 : E.take (j + 1) = E.take j ++ [E[j]] := by rw [List.take_succ_eq_append_getElem hltE]
    rw [e1, e2, fillL_snoc _ _ _ _ _ (by simp; omega), setO_getD _ _ _ _ (fun x hx => by rw [fillL_length]; exact hlen j _ x (List.getElem?_eq_getElem hlt) hx)]
    by_cases hd : l[j].dst = some t
    · have hdj : (l[j]?).bind (·.dst) = some t := by rw [List.getElem?_eq_getElem hlt]; exact hd
      rw [if_pos hd, vOf_hit (fun a b ha hb h1 h2 => hdist t a b ha hb h1 h2) hlt (by simp) hdj]
      simp [List.getD, List.getElem?_eq_getElem hltE]
    · rw [if_neg hd, fill_vOf hE hlen hdist j (by omega) t]
      apply vOf_congr
      intro i hi ht
      have hij : i ≠ j := by
        intro h
        subst h
        rw [List.getElem?_eq_getElem hlt] at ht
        exact hd ht
      simp only [decide_eq_decide]
      omega

theorem effok_congr {o : Oper} {s s' : List (V cx.ty)} {nm0 : Nat} {ef : Eff cx.ty} (h : EffOK P cx o s nm0 ef) (hs : ∀ x ∈ o.op.operands, getV s' x = getV s x) : EffOK P cx o s' nm0 ef :=
  ⟨fun c ρ hw ho => h.go c ρ hw (fun x hx => by rw [← hs x hx]; exact ho x hx)⟩

theorem mem_looks_operand {ops : Array Oper} {o : Oper} {t : Nat} (h : Operand.tmp t ∈ o.op.operands) : t ∈ o.looksAt ops := by
  unfold Oper.looksAt
  refine List.mem_append.2 (.inl (List.mem_filterMap.2 ⟨.tmp t, by simpa using h, rfl⟩))

theorem mem_looks_guard {ops : Array Oper} {o : Oper} {g : Nat} {want : Bool} {t : Nat} (h : o.guard = some (g, want)) (ht : (ops[g]?).bind (·.dst) = some t) : t ∈ o.looksAt ops := by
  unfold Oper.looksAt
  refine List.mem_append.2 (.inr ?_)
  rw [h]
  simp [ht]

end
end Go.VM
