/- A part of the proof of FnExactWithoutShare: VmC. -/
import Derived.Test.YtmdmeakelebfcaaVmB
namespace Go.VM
open Go.RowKit
section
variable {cx : Cx} {P : Program}

def afterOf (ops : Array Oper) (i : Nat) : List Nat :=
  match ops[i]? with
  | some o => (o.after.toList.filter (Region.binds .any)).map (·.on)
  | none => []

def clos (ops : Array Oper) : Nat → List Nat → List Nat
  | 0, l => l
  | n + 1, l => clos ops n (l ++ l.flatMap (afterOf ops)).eraseDups

/-- Each of the operations from 'p' on waits for all ahead of it. -/
def lateB (ops : Array Oper) (p : Nat) : Bool :=
  (List.range ops.size).all fun r => decide (r < p) || (List.range r).all fun i => (clos ops 3 (afterOf ops r)).contains i

/-- Each waits for those ahead alone; two of the first 'p' are apart, or the one waits for the other; no two write one slot. -/
def earlyB (ops : Array Oper) (p : Nat) : Bool :=
  ((List.range ops.size).all fun j => (afterOf ops j).all fun i => decide (i < j)) &&
  ((List.range p).all fun j => (List.range j).all fun i =>
    match ops[i]?, ops[j]? with
    | some oi, some oj => ((afterOf ops j).contains i || oi.apart ops oj) && oi.dst != oj.dst
    | _, _ => false)

/-- What may come up in any order: it kills nothing that another one looks at. -/
def quietE {ty : Nat → Type} (D F R : List Nat) (ef : Eff ty) : Bool := ef.frz.isEmpty && ef.live.all (fun n => !D.contains n && !F.contains n) && ef.read.all (fun n => !D.contains n) && ef.dead.all (fun n => !R.contains n)

theorem quietE_eq {D F R : List Nat} {ef : Eff cx.ty} (h : quietE D F R ef = true) : ef.frz = [] ∧ (∀ n ∈ ef.live, n ∉ D ∧ n ∉ F) ∧ (∀ n ∈ ef.read, n ∉ D) ∧ ∀ n ∈ ef.dead, n ∉ R := by
  simp only [quietE, Bool.and_eq_true, List.isEmpty_iff, List.all_eq_true] at h
  obtain ⟨⟨⟨h1, h2⟩, h3⟩, h4⟩ := h
  exact ⟨h1, fun n hn => by have := h2 n hn; simpa using this, fun n hn => by have := h3 n hn; simpa using this, fun n hn => by have := h4 n hn; simpa using this⟩

def dstOk (len lo : Nat) (d : Option Nat) : Bool := smallO d && loO lo d && (match d with | some d => decide (d < len) | none => true)

theorem dstOk_spec {len lo : Nat} {d : Option Nat} (h : dstOk len lo d = true) : smallO d = true ∧ loO lo d = true ∧ ∀ x, d = some x → x < len := by
  simp only [dstOk, Bool.and_eq_true] at h
  exact ⟨h.1.1, h.1.2, fun x hx => by rw [hx] at h; simpa using h.2⟩

def evPre {β : Type} (P : Program) (Kc : Kt cx) (ops : Array Oper) (ctr len lo : Nat) (F : List Nat) (k : List (V cx.ty) → List Nat → Option β) : List Oper → List (V cx.ty) → List Nat → List Nat → Option β
  | [], slots, D, _ => k slots D
  | o :: rest, slots, D, R =>
    if dstOk len lo o.dst then
      match o.guard with
      | none => evOp P Kc o slots (nmOf ctr o.dst) fun ef => if quietE D F R ef then evPre P Kc ops ctr len lo F k rest (setO slots o.dst ef.v) (ef.dead ++ D) ((ef.read ++ ef.live) ++ R) else none
      | some (g, want) => match guardV ops slots g with
        | some b => bif b then
            (bif true == want then evOp P Kc o (setG ops slots g true) (nmOf ctr o.dst) fun ef => if quietE D F R ef then evPre P Kc ops ctr len lo F k rest (setO (setG ops slots g true) o.dst ef.v) (ef.dead ++ D) ((ef.read ++ ef.live) ++ R) else none
             else evPre P Kc ops ctr len lo F k rest (setO (setG ops slots g true) o.dst (vv undef)) D R)
          else
            (bif false == want then evOp P Kc o (setG ops slots g false) (nmOf ctr o.dst) fun ef => if quietE D F R ef then evPre P Kc ops ctr len lo F k rest (setO (setG ops slots g false) o.dst ef.v) (ef.dead ++ D) ((ef.read ++ ef.live) ++ R) else none
             else evPre P Kc ops ctr len lo F k rest (setO (setG ops slots g false) o.dst (vv undef)) D R)
        | none => if guardU ops slots g then evPre P Kc ops ctr len lo F k rest (setO slots o.dst (vv undef)) D R else none
    else none

def fillL {ty : Nat → Type} : List Oper → List (V ty) → List (V ty) → List (V ty)
  | o :: l, v :: E, s => fillL l E (setO s o.dst v)
  | _, _, s => s

def guardOk {ty : Nat → Type} (ops : Array Oper) (o : Oper) (slots : List (V ty)) : Prop :=
  match o.guard with
  | none => True
  | some (g, want) => ∃ b, guardV ops slots g = some b ∧ (b == want) = true

def OpFact (P : Program) (cx : Cx) (ops : Array Oper) (D F : List Nat) (ctr len lo : Nat) (o : Oper) (slots : List (V cx.ty)) (v : V cx.ty) (dj : List Nat) (oth : Nat → Prop) : Prop :=
  smallO o.dst = true ∧ loO lo o.dst = true ∧ (∀ d, o.dst = some d → d < len) ∧
  ((∃ ef, guardOk ops o slots ∧ EffOK P cx o slots (nmOf ctr o.dst) ef ∧ ef.v = v ∧ ef.frz = [] ∧ ef.dead = dj ∧ (∀ n ∈ ef.read, n ∉ D ∧ ¬ oth n) ∧ ∀ n ∈ ef.live, (n ∉ D ∧ n ∉ F) ∧ ¬ oth n) ∨
   (v = vv undef ∧ dj = [] ∧ ∃ g want, o.guard = some (g, want) ∧ ((∃ b, guardV ops slots g = some b ∧ (b == want) = false) ∨ guardU ops slots g = true)))

theorem OpFact.mono {ops : Array Oper} {D D1 F : List Nat} {ctr len lo : Nat} {o : Oper} {slots : List (V cx.ty)} {v : V cx.ty} {dj : List Nat} {oth oth1 : Nat → Prop} (h : OpFact P cx ops D1 F ctr len lo o slots v dj oth1)
    (hD : ∀ n, n ∈ D → n ∈ D1) (ho : ∀ n, oth n → n ∈ D1 ∨ oth1 n) : OpFact P cx ops D F ctr len lo o slots v dj oth := by
  obtain ⟨h1, h2, h3, h4⟩ := h
  refine ⟨h1, h2, h3, ?_⟩
  rcases h4 with ⟨ef, g1, g2, g3, g4, g5, g6, g7⟩ | h4
  · exact .inl ⟨ef, g1, g2, g3, g4, g5, fun n hn => ⟨fun h => (g6 n hn).1 (hD n h), fun h => (ho n h).elim (g6 n hn).1 (g6 n hn).2⟩,
      fun n hn => ⟨⟨fun h => (g7 n hn).1.1 (hD n h), (g7 n hn).1.2⟩, fun h => (ho n h).elim (g7 n hn).1.1 (g7 n hn).2⟩⟩
  · exact .inr h4

theorem evPre_facts (ok : cx.Ok) (hZ : cx.POk P) {Kc : Kt cx} (hK : KOk P cx Kc) {β : Type} {ops : Array Oper} {ctr len lo : Nat} {F : List Nat} {k : List (V cx.ty) → List Nat → Option β} {r : β} :
    ∀ (l : List Oper) (slots : List (V cx.ty)) (D R : List Nat), evPre P Kc ops ctr len lo F k l slots D R = some r → ∃ (E : List (V cx.ty)) (dd : List (List Nat)) (D' : List Nat), E.length = l.length ∧ k (fillL l E slots) D' = some r ∧
      (∀ n, n ∈ D' ↔ n ∈ D ∨ ∃ i, i < l.length ∧ n ∈ dd.getD i []) ∧ (∀ i, ∀ n ∈ dd.getD i [], n ∉ R) ∧
      ∀ (j : Nat) o v, l[j]? = some o → E[j]? = some v → OpFact P cx ops D F ctr len lo o (fillL (l.take j) (E.take j) slots) v (dd.getD j []) (fun n => ∃ i, i ≠ j ∧ n ∈ dd.getD i [])
  | [], slots, D, R, h => ⟨[], [], D, rfl, h, fun n => by simp, fun i n hn => by simp at hn, fun j o v h => by simp at h⟩
  | o :: rest, slots, D, R, h => by
    simp only [evPre] at h
    split at h
    · rename_i hsm
      obtain ⟨hsm, hlo, hlen⟩ := dstOk_spec hsm
      have glue : ∀ v (dj RR : List Nat), (∀ oth : Nat → Prop, (∀ n ∈ RR, ¬ oth n) → OpFact P cx ops D F ctr len lo o slots v dj oth) → (∀ n ∈ dj, n ∉ R) → evPre P Kc ops ctr len lo F k rest (setO slots o.dst v) (dj ++ D) (RR ++ R) = some r →
          ∃ (E : List (V cx.ty)) (dd : List (List Nat)) (D' : List Nat), E.length = (o :: rest).length ∧ k (fillL (o :: rest) E slots) D' = some r ∧
            (∀ n, n ∈ D' ↔ n ∈ D ∨ ∃ i, i < (o :: rest).length ∧ n ∈ dd.getD i []) ∧ (∀ i, ∀ n ∈ dd.getD i [], n ∉ R) ∧
            ∀ (j : Nat) o' v, (o :: rest)[j]? = some o' → E[j]? = some v → OpFact P cx ops D F ctr len lo o' (fillL ((o :: rest).take j) (E.take j) slots) v (dd.getD j []) (fun n => ∃ i, i ≠ j ∧ n ∈ dd.getD i []) := by
        intro v dj RR hv hdj hr
        obtain ⟨E, dd, D', h1, h2, h4, h5, h3⟩ := evPre_facts ok hZ hK rest _ _ _ hr
        refine ⟨v :: E, dj :: dd, D', by simp [h1], h2, fun n => ?_, fun i n hn => ?_, fun j o' v' e1 e2 => ?_⟩
        · rw [h4 n]
          constructor
          · rintro (hn | ⟨i, hi, hn⟩)
            · rcases List.mem_append.1 hn with hn | hn
              · exact .inr ⟨0, by simp, by simpa using hn⟩
              · exact .inl hn
            · exact .inr ⟨i + 1, by simp; omega, by simpa using hn⟩
          · rintro (hn | ⟨i, hi, hn⟩)
            · exact .inl (List.mem_append.2 (.inr hn))
            · cases i with
              | zero => exact .inl (List.mem_append.2 (.inl (by simpa using hn)))
              | succ i => exact .inr ⟨i, by simp at hi; omega, by simpa using hn⟩
        · cases i with
          | zero => exact hdj n (by simpa using hn)
          | succ i => exact fun hR => h5 i n (by simpa using hn) (List.mem_append.2 (.inr hR))
        · cases j with
          | zero =>
            simp only [List.getElem?_cons_zero, Option.some.injEq] at e1 e2
            subst e1; subst e2
            refine hv _ fun n hn => ?_
            rintro ⟨i, hi, hni⟩
            cases i with
            | zero => exact hi rfl
            | succ i => exact h5 i n (by simpa using hni) (List.mem_append.2 (.inl hn))
          | succ j =>
            have hf := h3 j o' v' (by simpa using e1) (by simpa using e2)
            have hf2 : OpFact P cx ops D F ctr len lo o' (fillL ((o :: rest).take (j + 1)) ((v :: E).take (j + 1)) slots) v' (dd.getD j []) (fun n => ∃ i, i ≠ j + 1 ∧ n ∈ (dj :: dd).getD i []) := by
              refine OpFact.mono (D1 := dj ++ D) (oth1 := fun n => ∃ i, i ≠ j ∧ n ∈ dd.getD i []) hf (fun n hn => List.mem_append.2 (.inr hn)) ?_
              rintro n ⟨i, hi, hn⟩
              cases i with
              | zero => exact .inl (List.mem_append.2 (.inl (by simpa using hn)))
              | succ i => exact .inr ⟨i, fun e => hi (by rw [e]), by simpa using hn⟩
            simpa using hf2
      have run : guardOk ops o slots → (evOp P Kc o slots (nmOf ctr o.dst) fun ef => if quietE D F R ef then evPre P Kc ops ctr len lo F k rest (setO slots o.dst ef.v) (ef.dead ++ D) ((ef.read ++ ef.live) ++ R) else none) = some r →
          ∃ (E : List (V cx.ty)) (dd : List (List Nat)) (D' : List Nat), E.length = (o :: rest).length ∧ k (fillL (o :: rest) E slots) D' = some r ∧
            (∀ n, n ∈ D' ↔ n ∈ D ∨ ∃ i, i < (o :: rest).length ∧ n ∈ dd.getD i []) ∧ (∀ i, ∀ n ∈ dd.getD i [], n ∉ R) ∧
            ∀ (j : Nat) o' v, (o :: rest)[j]? = some o' → E[j]? = some v → OpFact P cx ops D F ctr len lo o' (fillL ((o :: rest).take j) (E.take j) slots) v (dd.getD j []) (fun n => ∃ i, i ≠ j ∧ n ∈ dd.getD i []) := by
        intro hg hr
        obtain ⟨ef, hk, hef⟩ := evOp_ok (nm0 := nmOf ctr o.dst) ok hZ hK hr
        split at hk
        · rename_i hq
          obtain ⟨hfz, hlv, hrd, hdd⟩ := quietE_eq hq
          exact glue ef.v ef.dead (ef.read ++ ef.live) (fun oth hoth => ⟨hsm, hlo, hlen, .inl ⟨ef, hg, hef, rfl, hfz, rfl, fun n hn => ⟨hrd n hn, hoth n (List.mem_append.2 (.inl hn))⟩, fun n hn => ⟨hlv n hn, hoth n (List.mem_append.2 (.inr hn))⟩⟩⟩) hdd hk
        · simp at hk
      split at h
      · rename_i hg
        exact run (by unfold guardOk; rw [hg]; trivial) h
      · rename_i g want hg
        split at h
        · rename_i b hb
          replace h := (both b (fun v => (bif v == want then evOp P Kc o (setG ops slots g v) (nmOf ctr o.dst) fun ef => if quietE D F R ef then evPre P Kc ops ctr len lo F k rest (setO (setG ops slots g v) o.dst ef.v) (ef.dead ++ D) ((ef.read ++ ef.live) ++ R) else none
             else evPre P Kc ops ctr len lo F k rest (setO (setG ops slots g v) o.dst (vv undef)) D R))).symm.trans h
          simp only [setG_eq hb] at h
          cases hbw : (b == want) with
          | true =>
            rw [hbw] at h
            exact run (by unfold guardOk; rw [hg]; exact ⟨b, hb, hbw⟩) h
          | false =>
            rw [hbw] at h
            exact glue (vv undef) [] [] (fun _ _ => ⟨hsm, hlo, hlen, .inr ⟨rfl, rfl, g, want, hg, .inl ⟨b, hb, hbw⟩⟩⟩) (fun n hn => by cases hn) h
        · split at h
          · rename_i hu
            exact glue (vv undef) [] [] (fun _ _ => ⟨hsm, hlo, hlen, .inr ⟨rfl, rfl, g, want, hg, .inr hu⟩⟩) (fun n hn => by cases hn) h
          · simp at h
    · simp at h

/-- The slots once the operations of 'X' have come up. -/
def vOf {ty : Nat → Type} (dst : Nat → Option Nat) (E : Nat → V ty) (s0 : Nat → V ty) (p : Nat) (X : Nat → Bool) (t : Nat) : V ty :=
  match (List.range p).find? (fun i => X i && dst i == some t) with
  | some i => E i
  | none => s0 t

theorem vOf_congr {ty : Nat → Type} {dst : Nat → Option Nat} {E : Nat → V ty} {s0 : Nat → V ty} {p : Nat} {X Y : Nat → Bool} {t : Nat} (h : ∀ i, i < p → dst i = some t → X i = Y i) : vOf dst E s0 p X t = vOf dst E s0 p Y t := by
  unfold vOf
  have : (List.range p).find? (fun i => X i && dst i == some t) = (List.range p).find? (fun i => Y i && dst i == some t) := by
    have key : ∀ l : List Nat, (∀ i ∈ l, i < p) → l.find? (fun i => X i && dst i == some t) = l.find? (fun i => Y i && dst i == some t) := by
      intro l
      induction l with
      | nil => intro _; rfl
      | cons a r ih =>
        intro hl
        have ha := hl a (List.mem_cons_self ..)
        have hr := ih (fun i hi => hl i (List.mem_cons_of_mem _ hi))
        simp only [List.find?_cons]
        by_cases hd : dst a = some t
        · rw [h a ha hd, hr]
        · have : (dst a == some t) = false := by simpa using hd
          simp only [this, Bool.and_false]
          exact hr
    exact key _ (fun i hi => List.mem_range.1 hi)
  rw [this]

theorem vOf_hit {ty : Nat → Type} {dst : Nat → Option Nat} {E : Nat → V ty} {s0 : Nat → V ty} {p : Nat} {X : Nat → Bool} {t i : Nat} (hd : ∀ i j, i < p → j < p → dst i = some t → dst j = some t → i = j) (hi : i < p) (hX : X i = true) (ht : dst i = some t) : vOf dst E s0 p X t = E i := by
  unfold vOf
  cases hf : (List.range p).find? (fun i => X i && dst i == some t) with
  | none =>
    have := List.find?_eq_none.1 hf i (List.mem_range.2 hi)
    simp [hX, ht] at this
  | some j =>
    have h1 := List.find?_some hf
    have h2 := List.mem_range.1 (List.mem_of_find?_eq_some hf)
    simp only [Bool.and_eq_true, beq_iff_eq] at h1
    rw [hd i j hi h2 ht h1.2]

theorem vOf_miss {ty : Nat → Type} {dst : Nat → Option Nat} {E : Nat → V ty} {s0 : Nat → V ty} {p : Nat} {X : Nat → Bool} {t : Nat} (h : ∀ i, i < p → X i = true → dst i ≠ some t) : vOf dst E s0 p X t = s0 t := by
  unfold vOf
  have : (List.range p).find? (fun i => X i && dst i == some t) = none := by
    rw [List.find?_eq_none]
    intro i hi
    have := h i (List.mem_range.1 hi)
    simp only [Bool.and_eq_true, beq_iff_eq, not_and]
    exact this
  rw [this]

theorem fillL_length {ty : Nat → Type} : ∀ (l : List Oper) (E : List (V ty)) (s : List (V ty)), (fillL l E s).length = s.length
  | [], _, _ => rfl
  | _ :: _, [], _ => rfl
  | o :: l, v :: E, s => by
    simp only [fillL]
    rw [fillL_length l E]
    cases o.dst <;> simp [setO]

theorem fillL_snoc {ty : Nat → Type} : ∀ (l : List Oper) (E : List (V ty)) (s : List (V ty)) (o : Oper) (v : V ty), E.length = l.length → fillL (l ++ [o]) (E ++ [v]) s = setO (fillL l E s) o.dst v
  | [], [], _, _, _, _ => rfl
  | [], _ :: _, _, _, _, h => by simp at h
  | _ :: _, [], _, _, _, h => by simp at h
  | a :: l, b :: E, s, o, v, h => by
    simp only [List.cons_append, fillL]
    exact fillL_snoc l E _ o v (by simpa using h)

theorem setO_getD {ty : Nat → Type} (s : List (V ty)) (d : Option Nat) (v : V ty) (t : Nat) (hd : ∀ x, d = some x → x < s.length) : (setO s d v).getD t junk = if d = some t then v else s.getD t junk := by
  cases d with
  | none => simp [setO]
  | some d =>
    have := hd d rfl
    by_cases h : d = t
    · subst h; simp [setO, List.getD, this]
    · have h' : ¬ some d = some t := by simpa using h
      simp [setO, List.getD, List.getElem?_set_ne h, h']

/-- The slots behind the first 'j' operations of the text. -/
theorem fill_vOf {ty : Nat → Type} {l : List Oper} {E : List (V ty)} {s : List (V ty)} (hE : E.length = l.length) (hlen : ∀ (j : Nat) o d, l[j]? = some o → o.dst = some d → d < s.length)
    (hdist : ∀ t i j, i < l.length → j < l.length → (l[i]?).bind (·.dst) = some t → (l[j]?).bind (·.dst) = some t → i = j) :
    ∀ j, j ≤ l.length → ∀ t, (fillL (l.take j) (E.take j) s).getD t junk = vOf (fun i => (l[i]?).bind (·.dst)) (fun i => E.getD i junk) (fun t => s.getD t junk) l.length (fun i => decide (i < j)) t
  | 0, _, t => by
    rw [vOf_miss (fun i _ h => by simp at h)]
    rfl
  | j + 1, hj, t => by
    have hlt : j < l.length := hj
    have hltE : j < E.length := by omega
    have e1 : l.take (j + 1) = l.take j ++ [l[j]] := by rw [List.take_succ_eq_append_getElem hlt]
    have e2 : E.take (j + 1) = E.take j ++ [E[j]] := by rw [List.take_succ_eq_append_getElem hltE]
    rw [e1, e2, fillL_snoc _ _ _ _ _ (by simp; omega), setO_getD _ _ _ _ (fun x hx => by rw [fillL_length]; exact hlen j _ x (List.getElem?_eq_getElem hlt) hx)]
    by_cases hd : l[j].dst = some t
    · have hdj : (l[j]?).bind (·.dst) = some t := by rw [List.getElem?_eq_getElem hlt]; exact hd
      rw [if_pos hd, vOf_hit (fun a b ha hb h1 h2 => hdist t a b ha hb h1 h2) hlt (by simp) hdj]
      simp [List.getD, List.getElem?_eq_getElem hltE]
    · rw [if_neg hd, fill_vOf hE hlen hdist j (by omega) t]
      apply vOf_congr
      intro i hi ht
      have hij : i ≠ j := by
        intro h
        subst h
        rw [List.getElem?_eq_getElem hlt] at ht
        exact hd ht
      simp only [decide_eq_decide]
      omega

theorem effok_congr {o : Oper} {s s' : List (V cx.ty)} {nm0 : Nat} {ef : Eff cx.ty} (h : EffOK P cx o s nm0 ef) (hs : ∀ x ∈ o.op.operands, getV s' x = getV s x) : EffOK P cx o s' nm0 ef :=
  ⟨fun c ρ hw ho => h.go c ρ hw (fun x hx => by rw [← hs x hx]; exact ho x hx)⟩

theorem mem_looks_operand {ops : Array Oper} {o : Oper} {t : Nat} (h : Operand.tmp t ∈ o.op.operands) : t ∈ o.looksAt ops := by
  unfold Oper.looksAt
  refine List.mem_append.2 (.inl (List.mem_filterMap.2 ⟨.tmp t, by simpa using h, rfl⟩))

theorem mem_looks_guard {ops : Array Oper} {o : Oper} {g : Nat} {want : Bool} {t : Nat} (h : o.guard = some (g, want)) (ht : (ops[g]?).bind (·.dst) = some t) : t ∈ o.looksAt ops := by
  unfold Oper.looksAt
  refine List.mem_append.2 (.inr ?_)
  rw [h]
  simp [ht]

end
end Go.VM
