/- A part of the proof of FnExactWithoutShare: VmA6. -/
import Derived.Test.YtmdmeakelebfcaaVmA5
namespace Go.VM
open Go.RowKit
section
variable {cx : Cx} {P : Program}

/-! ### States, and operations one behind the other -/
structure St (ty : Nat → Type) where
  slots : List (V ty)
  D : List Nat
  F : List Nat
  ctr : Nat
  lo : Nat := 0

structure RS (cx : Cx) (c : Ct cx.ty) (st : St cx.ty) (a : Act) : Prop where
  wf : Wf cx c
  size : a.tmps.size = st.slots.length
  rep : ∀ t, RepV cx c (st.slots.getD t junk) (a.tmps.getD t undef)
  defers : a.defers = []
  dead : ∀ n, n ∈ c.D ↔ n ∈ st.D
  frz : ∀ n, n ∈ c.F ↔ n ∈ st.F
  names : ∀ n, Nm c n → n < st.ctr * 65536
  kp : ∀ p u, (p, u) ∈ c.K → p < st.lo ∧ a.tmps.getD p undef = u

def nmOf (ctr : Nat) (d : Option Nat) : Nat := ctr * 65536 + (match d with | some d => d | none => 1000) * 64

def setO {ty : Nat → Type} (slots : List (V ty)) (d : Option Tmp) (v : V ty) : List (V ty) :=
  match d with
  | some d => slots.set d v
  | none => slots

def chk {ty : Nat → Type} (st : St ty) (ef : Eff ty) : Bool :=
  ef.live.all (fun n => !st.D.contains n && !st.F.contains n) && ef.read.all (fun n => !st.D.contains n)

def St.app {ty : Nat → Type} (st : St ty) (d : Option Tmp) (ef : Eff ty) : St ty :=
  { slots := setO st.slots d ef.v, D := ef.dead ++ st.D, F := ef.frz ++ st.F, ctr := st.ctr + 1, lo := st.lo }

/-- The first slots are not written. -/
def loO (lo : Nat) (d : Option Nat) : Bool := match d with | some d => decide (lo ≤ d) | none => true

theorem put_lo {a : Act} {lo : Nat} {d : Option Nat} (h : loO lo d = true) (u : Value) {p : Nat} (hp : p < lo) : (a.put d u).tmps.getD p undef = a.tmps.getD p undef := by
  cases d with
  | none => rfl
  | some d =>
    have h : lo ≤ d := by simpa [loO] using h
    have hd : d ≠ p := by omega
    simp [Act.put, Array.getElem?_setIfInBounds_ne hd]

def smallO (d : Option Nat) : Bool := match d with | some d => decide (d < 1000) | none => true

theorem eval_rep {c : Ct cx.ty} {slots : List (V cx.ty)} {a : Act} (h : ∀ t, RepV cx c (slots.getD t junk) (a.tmps.getD t undef)) (x : Operand) : RepV cx c (getV slots x) (a.eval x) := by
  cases x with
  | tmp t => exact h t
  | const v => exact rfl
  | global g => trivial
  | func f => exact rfl

theorem put_rep {c : Ct cx.ty} {slots : List (V cx.ty)} {a : Act} (hs : a.tmps.size = slots.length) (h : ∀ t, RepV cx c (slots.getD t junk) (a.tmps.getD t undef)) (d : Option Tmp) {v : V cx.ty} {u : Value} (hv : RepV cx c v u) :
    ∀ t, RepV cx c ((setO slots d v).getD t junk) ((a.put d u).tmps.getD t undef) := by
  intro t
  cases d with
  | none => exact h t
  | some d =>
    by_cases hd : d = t
    · subst hd
      by_cases hl : d < slots.length
      · have e1 : (setO slots (some d) v).getD d junk = v := by simp [setO, List.getD, hl]
        have e2 : (a.put (some d) u).tmps.getD d undef = u := by simp [Act.put, hs, hl]
        rw [e1, e2]; exact hv
      · have e1 : (setO slots (some d) v).getD d junk = junk := by simp [setO, List.getD, Nat.le_of_not_lt hl]
        rw [e1]; trivial
    · have e1 : (setO slots (some d) v).getD t junk = slots.getD t junk := by simp [setO, List.getD, List.getElem?_set_ne hd]
      have e2 : (a.put (some d) u).tmps.getD t undef = a.tmps.getD t undef := by simp [Act.put, Array.getElem?_setIfInBounds_ne hd]
      rw [e1, e2]; exact h t

theorem put_size {a : Act} {slots : List (V cx.ty)} (hs : a.tmps.size = slots.length) (d : Option Tmp) (v : V cx.ty) (u : Value) : (a.put d u).tmps.size = (setO slots d v).length := by
  cases d <;> simp [Act.put, setO, hs]

theorem put_defers (a : Act) (d : Option Tmp) (u : Value) : (a.put d u).defers = a.defers := by cases d <;> rfl

theorem band_lt {ctr : Nat} {d : Option Nat} (hd : smallO d = true) {n : Nat} (h : nmOf ctr d ≤ n ∧ n < nmOf ctr d + 64) : n < (ctr + 1) * 65536 := by
  unfold nmOf at h
  cases d with
  | none => simp only at h; omega
  | some d =>
    have hd : d < 1000 := by simpa [smallO] using hd
    simp only at h
    omega

/-- The state behind an operation that has been carried out. -/
theorem RS.app {c : Ct cx.ty} {st : St cx.ty} {a : Act} (h : RS cx c st a) {d : Option Tmp} (hd : smallO d = true) (hlo : loO st.lo d = true) {ef : Eff cx.ty} {u : Value} {w' : World} {T' : List (Tk cx.ty)} (hg : Good cx c ef (nmOf st.ctr d) u w' T') :
    RS cx (c.nx ef w' T') (st.app d ef) (a.put d u) := by
  refine ⟨hg.wf, put_size h.size d ef.v u, ?_, by rw [put_defers]; exact h.defers, fun n => ?_, fun n => ?_, fun n hn => ?_, fun p u' hp => ⟨(h.kp p u' hp).1, (put_lo hlo u (h.kp p u' hp).1).trans (h.kp p u' hp).2⟩⟩
  · exact put_rep h.size (fun t => RepV.pres cx hg.pres (h.rep t)) d hg.rep
  · simp [Ct.nx, St.app, h.dead n]
  · simp [Ct.nx, St.app, h.frz n]
  · rcases hg.names n hn with hn | hn
    · exact Nat.lt_of_lt_of_le (h.names n hn) (Nat.mul_le_mul_right _ (Nat.le_succ _))
    · exact band_lt hd hn

theorem RS.fresh {c : Ct cx.ty} {st : St cx.ty} {a : Act} (h : RS cx c st a) (d : Option Tmp) : ∀ n, Nm c n → ¬ (nmOf st.ctr d ≤ n ∧ n < nmOf st.ctr d + 64) := by
  intro n hn hb
  have := h.names n hn
  unfold nmOf at hb
  omega

theorem chk_spec {c : Ct cx.ty} {st : St cx.ty} {a : Act} (h : RS cx c st a) {ef : Eff cx.ty} (hc : chk st ef = true) : (∀ n ∈ ef.live, n ∉ c.D ∧ n ∉ c.F) ∧ ∀ n ∈ ef.read, n ∉ c.D := by
  simp only [chk, Bool.and_eq_true, List.all_eq_true] at hc
  refine ⟨fun n hn => ?_, fun n hn => ?_⟩
  · have := hc.1 n hn
    rw [h.dead, h.frz]
    simpa using this
  · have := hc.2 n hn
    rw [h.dead]
    simpa using this

theorem Oper.wp_of_runs {o : Oper} {a : Act} {w : World} {next : Act → World → Prop} {Q : Exit → Act → World → Prop} (h : Runs P o a.eval w (fun u w' => next (a.put o.dst u) w')) : o.wp P a w next Q := by
  unfold Oper.wp
  unfold Runs at h
  generalize (execOp a.eval o).run P w = r at h
  cases r with
  | ok n w' =>
    cases n <;> first | exact h | exact h.elim | skip
    case enter f args =>
      refine h.mono fun e w'' ⟨v, he, hn⟩ => ?_
      subst he
      exact hn
  | halt x w' => exact h.elim

theorem Runs.mono {o : Oper} {ρ : Operand → Value} {w : World} {K K' : Value → World → Prop} (h : Runs P o ρ w K) (hk : ∀ u w', K u w' → K' u w') : Runs P o ρ w K' := by
  unfold Runs at h ⊢
  generalize (execOp ρ o).run P w = r at h
  cases r with
  | ok n w' =>
    cases n <;> first | exact hk _ _ h | exact h.elim | skip
    case enter f args => exact h.mono fun e w'' ⟨v, he, hn⟩ => ⟨v, he, hk _ _ hn⟩
  | halt x w' => exact h.elim


end
end Go.VM
namespace Go.VM
open Go.RowKit
section
variable {cx : Cx} {P : Program}

/-! ### Stores -/
/-- From one state of the table to another, where the things named in 'X' may have turned. -/
structure PresX (X : Nat → Prop) (c c' : Ct cx.ty) : Prop where
  rd : ∀ b, Rd c b → Rd c' b ∧ c'.w.heap[b]? = c.w.heap[b]?
  dead : c'.D = c.D
  frz : c'.F = c.F
  tok : ∀ tk ∈ c.T, ¬ X tk.nm → ∀ s, tk.c = .inl s → tk ∈ c'.T
  box : ∀ tk ∈ c.T, ¬ X tk.nm → ∀ l, tk.c = .inr l → ∃ tk' ∈ c'.T, tk'.nm = tk.nm ∧ tk'.u = tk.u ∧ tk'.c = .inr l

def touchL {ty : Nat → Type} (X : Nat → Prop) : L ty → Prop
  | some (.inr s) => s.own = 1 ∧ X s.nm
  | _ => False

theorem RepLS.presX {X : Nat → Prop} {c c' : Ct cx.ty} (h : PresX X c c') {l : L cx.ty} {u : Value} (ht : ¬ touchL X l) (hr : RepLS cx c l u) : RepLS cx c' l u := by
  have up : ∀ {n : Nat} {l : L cx.ty} {u : Value}, RepL cx c.w (Rd c) n l u → RepL cx c'.w (Rd c') n l u := fun hr => RepL_mono cx (fun b hb => (h.rd b hb).2) (fun b hb => (h.rd b hb).1) _ _ _ hr
  match l, hr with
  | none, _ => trivial
  | some (.inl v), hr => exact hr
  | some (.inr s), hr =>
    unfold RepLS at hr ⊢
    by_cases h1 : s.own = 1
    · have hX : ¬ X s.nm := fun hx => ht ⟨h1, hx⟩
      simp only [h1, if_true, h.dead, h.frz] at hr ⊢
      obtain ⟨hsl, hr⟩ := hr
      refine ⟨hsl, ?_⟩
      split at hr
      · rename_i hd; rw [if_pos hd]; trivial
      · rename_i hd
        rw [if_neg hd]
        split at hr
        · rename_i hf
          rw [if_pos hf]
          obtain ⟨n, hr⟩ := hr
          exact ⟨n, up hr⟩
        · rename_i hf
          rw [if_neg hf]
          obtain ⟨tk, k1, k2, k3, k4⟩ := hr
          exact ⟨tk, h.tok tk k1 (by rw [k2]; exact hX) s k3, k2, k3, k4⟩
    · simp only [h1, if_false] at hr ⊢
      obtain ⟨n, hr⟩ := hr
      exact ⟨n, up hr⟩

/-- A box that is stored into: its cells as they are then, wherever it is met. -/
def updB {ty : Nat → Type} (nm : Nat) (cells : List (L ty)) (v : V ty) : V ty :=
  match v with
  | .inr (.inr p) => if p.kind == 0 && p.nm == nm then .inr (.inr { p with cells := cells }) else .inr (.inr p)
  | v => v

theorem no_touch {l : L cx.ty} : ¬ touchL (fun _ => False) l := by
  intro h
  match l, h with
  | some (.inr s), h => exact h.2

theorem repLS_box {nm : Nat} {c c' : Ct cx.ty} (h : PresX (fun n => n = nm) c c') (hib : ∀ tk ∈ c.T, tk.nm = nm → ∃ l, tk.c = .inr l) {l : L cx.ty} {u : Value} (hl : RepLS cx c l u) : RepLS cx c' l u := by
  by_cases ht : touchL (fun n => n = nm) l
  · match l, hl, ht with
    | some (.inr s), hl, ⟨h1, h2⟩ =>
      unfold RepLS at hl ⊢
      simp only [h1, if_true, h.dead, h.frz] at hl ⊢
      obtain ⟨hsl, hl⟩ := hl
      refine ⟨hsl, ?_⟩
      split at hl
      · rename_i hd; rw [if_pos hd]; trivial
      · rename_i hd
        rw [if_neg hd]
        split at hl
        · rename_i hf
          rw [if_pos hf]
          obtain ⟨n, hr⟩ := hl
          exact ⟨n, RepL_mono cx (fun b hb => (h.rd b hb).2) (fun b hb => (h.rd b hb).1) _ _ _ hr⟩
        · obtain ⟨tk, k1, k2, k3, _⟩ := hl
          obtain ⟨l, hl⟩ := hib tk k1 (by rw [k2]; exact h2)
          rw [k3] at hl
          cases hl
  · exact hl.presX h ht

theorem updB_rep {nm : Nat} {cells : List (L cx.ty)} {c c' : Ct cx.ty} (h : PresX (fun n => n = nm) c c') (hbox : ∀ tk ∈ c.T, tk.nm = nm → ∃ tk' ∈ c'.T, tk'.nm = nm ∧ tk'.u = tk.u ∧ tk'.c = .inr cells) (hib : ∀ tk ∈ c.T, tk.nm = nm → ∃ l, tk.c = .inr l)
    {v : V cx.ty} {u : Value} (hr : RepV cx c v u) : RepV cx c' (updB nm cells v) u := by
  have leaf : ∀ {l : L cx.ty} {u : Value}, RepLS cx c l u → RepLS cx c' l u := fun hl => repLS_box h hib hl
  have agg : ∀ {a : A cx.ty} {u : Value}, RepA cx c a u → RepA cx c' a u := by
    intro a u ha
    match a, ha with
    | .inl l, ha => exact leaf ha
    | .inr l, ⟨us, hu, h1, h2⟩ => exact ⟨us, hu, h1, fun j a b e1 e2 => leaf (h2 j a b e1 e2)⟩
  have el : ∀ {s : SlD cx.ty} {i b o : Nat}, RepEl cx c s i b o → RepEl cx c' s i b o := by
    rintro s i b o ⟨hb, x, hx, n, hr⟩
    refine ⟨(h.rd b hb).1, x, hx, n, fun j l hl => ?_⟩
    obtain ⟨v, hv, hr⟩ := hr j l hl
    exact ⟨v, by rw [World.cell?_of_block (h.rd b hb).2]; exact hv, RepL_mono cx (fun b hb => (h.rd b hb).2) (fun b hb => (h.rd b hb).1) _ _ _ hr⟩
  match v, hr with
  | .inl a, hr => exact agg hr
  | .inr (.inl l), ⟨us, hu, h1, h2⟩ => exact ⟨us, hu, h1, fun j a b e1 e2 => agg (h2 j a b e1 e2)⟩
  | .inr (.inr p), hr =>
    have hr : RepP cx c p u := hr
    simp only [updB]
    unfold RepP at hr
    split at hr
    · rename_i hk
      obtain ⟨tk, k1, k2, k3, g, k4, k5⟩ := hr
      by_cases hn : p.nm = nm
      · have : (p.kind == 0 && p.nm == nm) = true := by simp [hk, hn]
        rw [if_pos this]
        obtain ⟨tk', m1, m2, m3, m4⟩ := hbox tk k1 (by rw [k2, hn])
        show RepP cx c' _ u
        unfold RepP
        simp only [hk]
        exact ⟨tk', m1, by rw [m2, hn], m4, g, by rw [m3]; exact k4, k5⟩
      · have : ¬ (p.kind == 0 && p.nm == nm) = true := by simp [hn]
        rw [if_neg this]
        obtain ⟨tk', m1, m2, m3, m4⟩ := h.box tk k1 (by rw [k2]; exact hn) _ k3
        show RepP cx c' p u
        unfold RepP
        simp only [hk]
        exact ⟨tk', m1, by rw [m2, k2], m4, g, by rw [m3]; exact k4, k5⟩
    · rename_i hk
      have : ¬ (p.kind == 0 && p.nm == nm) = true := by simp [hk]
      rw [if_neg this]
      show RepP cx c' p u
      unfold RepP
      simp only [hk, h.dead, h.frz] at hr ⊢
      split at hr
      · rename_i hd; rw [if_pos hd]; trivial
      · rename_i hd
        rw [if_neg hd]
        split at hr
        · rename_i hf
          rw [if_pos hf]
          obtain ⟨b, o, hu, hr⟩ := hr
          exact ⟨b, o, hu, el hr⟩
        · rename_i hf
          rw [if_neg hf]
          obtain ⟨tk, k1, k2, k3, k4⟩ := hr
          by_cases hn : tk.nm = nm
          · obtain ⟨l, hl⟩ := hib tk k1 hn
            rw [k3] at hl
            cases hl
          · exact ⟨tk, h.tok tk k1 hn _ k3, k2, k3, k4⟩
    · rename_i hk
      have : ¬ (p.kind == 0 && p.nm == nm) = true := by simp [hk]
      rw [if_neg this]
      show RepP cx c' p u
      unfold RepP
      simp only [hk]
      obtain ⟨b, o, hu, hr⟩ := hr
      exact ⟨b, o, hu, el hr⟩
    · rename_i k0 k1 k2
      have : ¬ (p.kind == 0 && p.nm == nm) = true := by
        have : p.kind ≠ 0 := k0
        simp [this]
      rw [if_neg this]
      show RepP cx c' p u
      unfold RepP
      split <;> first | trivial | (rename_i hh; first | exact (k0 hh).elim | exact (k1 hh).elim | exact (k2 hh).elim)

theorem leafOk_one {c : Ct cx.ty} {l : L cx.ty} {u : Value} (h : RepLS cx c l u) (ho : leafOk l = true) : u.oneCell' = true := by
  match l, h, ho with
  | some (.inl v), h, ho =>
    have h : u = v := h
    subst h
    cases u <;> first | rfl | (simp [leafOk] at ho)
  | some (.inr s), h, _ =>
    have : ∃ a n cap, u = .slice a n cap := by
      unfold RepLS at h
      by_cases h1 : s.own = 1
      · simp only [h1, if_true] at h
        exact h.1
      · simp only [h1, if_false] at h
        obtain ⟨n, h⟩ := h
        obtain ⟨a, cap, hu⟩ := RepL_slice h
        exact ⟨a, _, cap, hu⟩
    obtain ⟨a, n, cap, rfl⟩ := this
    rfl

/-- What a store leaves: the slots as they are then. -/
def stB (P : Program) (st : St cx.ty) (t : TypeId) (a x : Operand) : Option (St cx.ty) :=
  match getV st.slots a, cellsV (getV st.slots x) with
  | .inr (.inr p), some l => if p.kind == 0 && p.i == 0 && l.all leafOk && (P.underlying t).isSome && l.length == P.cellsOf t && decide (p.off + l.length ≤ p.cells.length) then
      some { st with slots := st.slots.map (updB p.nm (splice p.cells p.off l)) }
    else none
  | _, _ => none

theorem stB_ok {o : Oper} {t : TypeId} {a x : Operand} (ho : o.op = .store t a x) {st st' : St cx.ty} (hst : stB P st t a x = some st') {c : Ct cx.ty} {act : Act} (h : RS cx c st act) :
    ∃ w' T', (execOp act.eval o).run P c.w = .ok .skip w' ∧ RS cx { c with T := T', w := w' } st' act ∧ Kept c.N c.w w' := by
  unfold stB at hst
  split at hst
  · rename_i p l hp hl
    split at hst
    · rename_i hc
      simp only [Bool.and_eq_true, beq_iff_eq, decide_eq_true_eq] at hc
      obtain ⟨⟨⟨⟨⟨hk, hi0⟩, hlo⟩, hund⟩, hsz⟩, hoff⟩ := hc
      simp only [Option.some.injEq] at hst
      subst hst
      obtain ⟨d, hd⟩ := Option.isSome_iff_exists.1 hund
      have hra := eval_rep h.rep a
      rw [hp] at hra
      have hra : RepP cx c p (act.eval a) := hra
      unfold RepP at hra
      simp only [hk, hi0] at hra
      obtain ⟨tk, ht, hn, hcc, g, hu, hpa⟩ := hra
      have hpa : act.eval a = .pointer (some ⟨g, p.off, none⟩) := hpa
      have htr := h.wf.rep tk ht
      unfold TokRep at htr
      rw [hcc] at htr
      obtain ⟨hfp, g', cur, e, hu', hh, hcells⟩ := htr
      rw [hu] at hu'
      simp only [Value.pointer.injEq, Option.some.injEq, Addr.mk.injEq] at hu'
      obtain ⟨rfl, _⟩ := hu'
      have hcv := cellsV_rep (eval_rep h.rep x) hl
      have hlen : (act.eval x).cells.toList.length = l.length := hcv.1
      have hone : ∀ v ∈ (act.eval x).cells.toList, v.oneCell' = true := by
        intro v hv
        obtain ⟨j, hj⟩ := List.getElem?_of_mem hv
        have hjl : j < l.length := by rw [← hlen]; exact (List.getElem?_eq_some_iff.1 hj).1
        exact leafOk_one (hcv.2 j _ v (List.getElem?_eq_getElem hjl) hj) (List.all_eq_true.1 hlo _ (List.getElem_mem hjl))
      have hcs : cur.toList.length = p.cells.length := hcells.1
      have hstore := run_storeCells_at P g p.off e (act.eval x).cells.toList 0 cur c.w hh (by simp at hcs; omega) hone
      simp only [Nat.add_zero] at hstore
      have hrun : (execOp act.eval o).run P c.w = .ok .skip (c.w.setRow g (splice cur.toList p.off (act.eval x).cells.toList).toArray) := by
        have hsize : (act.eval x).cells.size = P.cellsOf t := by rw [← hsz, ← hlen]; simp
        unfold execOp
        simp only [ho, Instr.storeAt, Instr.sureAddr, hpa, storeVar, Sem.run_bind, Sem.run_pure, Result.andThen_ok, run_sizeOf' hd, hsize, ne_eq, not_true_eq_false, if_false]
        unfold splice
        rw [hstore]
        rfl
      have hheap : ∀ k, k ≠ g → (c.w.setRow g (splice cur.toList p.off (act.eval x).cells.toList).toArray).heap[k]? = c.w.heap[k]? := fun k hk => setRow_other c.w g k _ hk
      have hsame : (c.w.setRow g (splice cur.toList p.off (act.eval x).cells.toList).toArray).heap.size = c.w.heap.size := by simp [World.setRow]
      have hg : g ∈ vb tk.u := by rw [hu]; simp [vb]
      have hgb := h.wf.bound tk ht g (List.mem_append.2 (.inl hg))
      let up : Tk cx.ty → Tk cx.ty := fun t2 => if t2.nm = p.nm then { t2 with c := .inr (splice p.cells p.off l) } else t2
      have upnm : ∀ t2, (up t2).nm = t2.nm := fun t2 => by simp only [up]; split <;> rfl
      have upu : ∀ t2, (up t2).u = t2.u := fun t2 => by simp only [up]; split <;> rfl
      have upfp : ∀ t2, (up t2).fp = t2.fp := fun t2 => by simp only [up]; split <;> rfl
      have huniq : ∀ t2 ∈ c.T, t2.nm = p.nm → t2 = tk := by
        intro t2 ht2 hn2
        have hnd := h.wf.names
        rcases Classical.em (t2 = tk) with h | h
        · exact h
        · exfalso
          obtain ⟨l1, l2, hl⟩ := List.append_of_mem ht
          rw [hl] at hnd ht2
          rw [List.map_append, List.map_cons, List.nodup_append] at hnd
          rcases List.mem_append.1 ht2 with h3 | h3
          · exact hnd.2.2 t2.nm (List.mem_map.2 ⟨t2, h3, rfl⟩) tk.nm (List.mem_cons_self ..) (by rw [hn2, hn])
          · rcases List.mem_cons.1 h3 with h3 | h3
            · exact h h3
            · exact (List.nodup_cons.1 hnd.2.1).1 (List.mem_map.2 ⟨t2, h3, by rw [hn2, hn]⟩)
      have hib : ∀ t2 ∈ c.T, t2.nm = p.nm → ∃ l, t2.c = .inr l := fun t2 ht2 hn2 => by rw [huniq t2 ht2 hn2]; exact ⟨_, hcc⟩
      have hP : PresX (fun n => n = p.nm) c { c with T := c.T.map up, w := c.w.setRow g (splice cur.toList p.off (act.eval x).cells.toList).toArray } := by
        refine ⟨fun b hb => ?_, rfl, rfl, fun t2 ht2 hX s hs => ?_, fun t2 ht2 hX l' hl' => ?_⟩
        · have hbg : b ≠ g := fun e => hb.2.2 tk ht (e ▸ hg)
          refine ⟨⟨Nat.lt_of_lt_of_eq hb.1 hsame.symm, hb.2.1, fun t2 ht2 => ?_⟩, hheap b hbg⟩
          obtain ⟨t3, h3, rfl⟩ := List.mem_map.1 ht2
          rw [upu]
          exact hb.2.2 t3 h3
        · exact List.mem_map.2 ⟨t2, ht2, by simp only [up]; rw [if_neg hX]⟩
        · exact ⟨up t2, List.mem_map.2 ⟨t2, ht2, rfl⟩, upnm t2, upu t2, by simp only [up]; rw [if_neg hX]; exact hl'⟩
      refine ⟨_, c.T.map up, hrun, ⟨⟨?_, ?_, ?_, ?_, h.wf.start, ?_, ?_⟩, by simp [h.size], fun t2 => ?_, h.defers, h.dead, h.frz, fun n hn' => ?_, h.kp⟩, ?_⟩
      · show ((c.T.map up).map (·.nm)).Nodup
        rw [List.map_map]
        have : ((fun t2 : Tk cx.ty => t2.nm) ∘ up) = fun t2 => t2.nm := funext upnm
        rw [this]; exact h.wf.names
      · show ((c.T.map up).flatMap _).Nodup
        rw [List.flatMap_map]
        have : (fun t2 => vb (up t2).u ++ (up t2).fp) = fun t2 : Tk cx.ty => vb t2.u ++ t2.fp := funext fun t2 => by rw [upu, upfp]
        rw [this]; exact h.wf.nodup
      · intro t2 ht2 b hb
        obtain ⟨t3, h3, rfl⟩ := List.mem_map.1 ht2
        rw [upu, upfp] at hb
        have := h.wf.bound t3 h3 b hb
        exact ⟨this.1, Nat.lt_of_lt_of_eq this.2 hsame.symm⟩
      · intro t2 ht2
        obtain ⟨t3, h3, rfl⟩ := List.mem_map.1 ht2
        have hold := h.wf.rep t3 h3
        by_cases hn3 : t3.nm = p.nm
        · have e3 := huniq t3 h3 hn3
          subst e3
          unfold TokRep
          simp only [up, hn3, if_true]
          refine ⟨hfp, g, _, e, hu, setRow_heap c.w g cur _ e _ hh, ?_⟩
          have a1 : RepLs cx { c with T := c.T.map up, w := c.w.setRow g (splice cur.toList p.off (act.eval x).cells.toList).toArray } p.cells cur.toList := ⟨hcells.1, fun j a b e1 e2 => repLS_box hP hib (hcells.2 j a b e1 e2)⟩
          have a2 : RepLs cx { c with T := c.T.map up, w := c.w.setRow g (splice cur.toList p.off (act.eval x).cells.toList).toArray } l (act.eval x).cells.toList := ⟨hcv.1, fun j a b e1 e2 => repLS_box hP hib (hcv.2 j a b e1 e2)⟩
          simpa using a1.splice a2 hoff
        · have hup : up t3 = t3 := by simp only [up]; rw [if_neg hn3]
          rw [hup]
          have hblk : ∀ b ∈ vb t3.u ++ t3.fp, (c.w.setRow g (splice cur.toList p.off (act.eval x).cells.toList).toArray).heap[b]? = c.w.heap[b]? := fun b hb => hheap b (fun e => disjoint_toks h.wf h3 ht (fun e2 => hn3 (by rw [e2, hn])) hb (by rw [e]; exact List.mem_append.2 (.inl hg)))
          unfold TokRep at hold ⊢
          split at hold
          · rename_i s hs
            obtain ⟨hv, hold⟩ := hold
            refine ⟨hv, ?_⟩
            split at hold
            · rename_i hso
              rw [if_pos hso]
              obtain ⟨n, hold⟩ := hold
              exact ⟨n, OwnL_mono cx n _ _ _ hblk hold⟩
            · rename_i hso
              rw [if_neg hso]
              obtain ⟨hf, us, n, hrow, hl2, hr⟩ := hold
              refine ⟨hf, us, n, ?_, hl2, fun j l v h1 h2 => RepL_mono cx (fun b hb => (hP.rd b hb).2) (fun b hb => (hP.rd b hb).1) n l v (hr j l v h1 h2)⟩
              obtain ⟨hx, hcx⟩ := hrow
              refine ⟨hx, ?_⟩
              rcases hcx with hcx | ⟨g2, cap2, cur2, hv', hg2, hh2, hrest⟩
              · exact .inl hcx
              · refine .inr ⟨g2, cap2, cur2, hv', hg2, ?_, hrest⟩
                rw [hblk g2 (by rw [hv']; simp [vb])]
                exact hh2
          · obtain ⟨hf, g2, cur2, e2, hu2, hh2, hr⟩ := hold
            refine ⟨hf, g2, cur2, e2, hu2, ?_, hr.1, fun j a b e1 e2 => repLS_box hP hib (hr.2 j a b e1 e2)⟩
            rw [hblk g2 (by rw [hu2]; simp [vb])]
            exact hh2
      · intro t2 ht2
        obtain ⟨t3, h3, rfl⟩ := List.mem_map.1 ht2
        rw [upnm]
        exact h.wf.live t3 h3
      · exact fun b hb => h.wf.size b (Nat.le_trans (Nat.le_of_eq hsame.symm) hb)
      · have hbase := updB_rep (cells := splice p.cells p.off l) hP (fun t3 h3 hn3 => ⟨up t3, List.mem_map.2 ⟨t3, h3, rfl⟩, by rw [upnm, hn3], upu t3, by simp only [up]; rw [if_pos hn3]⟩) hib (h.rep t2)
        have : (st.slots.map (updB p.nm (splice p.cells p.off l))).getD t2 junk = updB p.nm (splice p.cells p.off l) (st.slots.getD t2 junk) := by
          by_cases hlt : t2 < st.slots.length
          · simp [List.getD, hlt]
          · simp [List.getD, List.getElem?_eq_none (Nat.le_of_not_lt hlt), junk, updB]
        show RepV cx _ ((st.slots.map (updB p.nm (splice p.cells p.off l))).getD t2 junk) _
        rw [this]
        exact hbase
      · rcases hn' with ⟨t2, ht2, rfl⟩ | hn' | hn'
        · obtain ⟨t3, h3, rfl⟩ := List.mem_map.1 ht2
          rw [upnm]
          exact h.names _ (.inl ⟨t3, h3, rfl⟩)
        · exact h.names _ (.inr (.inl hn'))
        · exact h.names _ (.inr (.inr hn'))
      · exact ⟨rfl, rfl, rfl, by rw [hsame]; exact Nat.le_refl _, fun k hk => hheap k (fun e => hk (e ▸ hgb.1))⟩
    · simp at hst
  · simp at hst

end
end Go.VM
