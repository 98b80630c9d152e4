/- A part of the proof of FnExactVerdictFor: VmA17, VmA18, VmA19, VmA20, VmA21, VmA22. -/
import Derived.Test.YtklmlomaleaaaaaVmA9
set_option linter.unusedVariables false
namespace Go.VM
open Go.RowKit
section
variable {cx : Cx} {P : Program}

/-! ### Windows into an array that lies in a box; what is copied into them -/
theorem RS.forget {c : Ct cx.ty} {st : St cx.ty} {a : Act} (h : RS cx c st a) {d : Option Tmp} (hlo : loO st.lo d = true) (u : Value) : RS cx c { st with slots := setO st.slots d junk, pend := none } (a.put d u) :=
  ⟨h.wf, put_size h.size d _ _, put_rep h.size h.rep d trivial, by rw [put_defers]; exact h.defers, h.dead, h.frz, h.names, fun p u' hp => ⟨(h.kp p u' hp).1, (put_lo hlo u (h.kp p u' hp).1).trans (h.kp p u' hp).2⟩, h.pr, PdOK.none⟩

/-- What 'copy' into a window leaves. -/
def stC (P : Program) (cx : Cx) (st : St cx.ty) (o : Oper) : Option (St cx.ty) := none
theorem stC_ok (ok : cx.Ok) (hZ : cx.POk P) {st st' : St cx.ty} {o : Oper} (hst : stC P cx st o = some st') {c : Ct cx.ty} {a : Act} (h : RS cx c st a) (hlo : loO st.lo o.dst = true) :
    o.guard = none ∧ Runs P o a.eval c.w (fun u w' => ∃ c', RS cx c' st' (a.put o.dst u) ∧ c'.w = w' ∧ c'.S = c.S ∧ c'.N = c.N ∧ c'.K = c.K ∧ Kept c.N c.w w') := by
  unfold stC at hst
  cases hst
/-! ### A place in an array, a window into one -/
def evIndexAddrB {β : Type} (P : Program) (slots : List (V cx.ty)) (t : TypeId) (x ix : Operand) (k : Eff cx.ty → Option β) : Option β :=
  match getV slots x with
  | .inr (.inr p) => match getV slots ix, arrOf P t with
    | .inl (.inl (some (.inl (.int _ i)))), some (n, e) =>
      if p.kind == 0 && p.i == 0 && p.off == 0 && n == p.cells.length && decide (1 < n) && (P.underlying e).isSome && P.cellsOf e == 1 then
        bif decide (0 ≤ i) && decide (i < n) then k (purR (.inr (.inr { p with off := i.toNat })) []) else none
      else if p.kind == 0 && p.i == 0 && p.off == 0 && n * P.cellsOf e == p.cells.length && decide (1 < P.cellsOf e) && (P.underlying e).isSome then
        bif decide (0 ≤ i) && decide (i < n) then k (purR (.inr (.inr { p with off := i.toNat * P.cellsOf e })) []) else none
      else none
    | _, _ => none
  | _ => evIndexAddr P slots t x ix k

theorem arrOf_eq {t : TypeId} {n : Nat} {e : TypeId} (h : arrOf P t = some (n, e)) : P.underlying t = some (.array n e) := by
  unfold arrOf at h
  split at h
  · rename_i n2 e2 hq
    simp only [Option.some.injEq, Prod.mk.injEq] at h
    obtain ⟨rfl, rfl⟩ := h
    exact hq
  · simp at h

theorem evIndexAddrB_ok (ok : cx.Ok) {β : Type} {o : Oper} {slots : List (V cx.ty)} {nm0 : Nat} {t : TypeId} {x ix : Operand} (ho : o.op = .indexAddr t x ix) {k : Eff cx.ty → Option β} {r : β}
    (h : evIndexAddrB P slots t x ix k = some r) : ∃ ef, k ef = some r ∧ EffOK P cx o slots nm0 ef := by
  unfold evIndexAddrB at h
  split at h
  · rename_i p hx
    split at h
    · rename_i ki i n e hix ha
      split at h
      · rename_i hc
        simp only [Bool.and_eq_true, beq_iff_eq, decide_eq_true_eq] at hc
        obtain ⟨⟨⟨⟨⟨⟨hk, hi0⟩, hoff⟩, hn⟩, hn1⟩, hund⟩, hsz⟩ := hc
        cases hb : (decide (0 ≤ i) && decide (i < n)) with
        | false => rw [hb] at h; simp at h
        | true =>
          rw [hb] at h
          simp only [Bool.and_eq_true, decide_eq_true_eq] at hb
          refine ⟨_, h, effok_pur fun c ρ hw hop _ => ?_⟩
          have hr := hop x (by simp [ho, Op.operands])
          rw [hx] at hr
          have hri := hop ix (by simp [ho, Op.operands])
          rw [hix] at hri
          have hri : ρ ix = .int ki i := hri
          have hr : RepP cx c p (ρ x) := hr
          unfold RepP at hr
          simp only [hk, hi0, hoff] at hr
          obtain ⟨tk, ht, hnm, hcc, g, hu, hpa⟩ := hr
          have hpa : ρ x = .pointer (some ⟨g, 0, none⟩) := hpa
          obtain ⟨dd, hd⟩ := Option.isSome_iff_exists.1 hund
          refine ⟨.pointer (some ⟨g, i.toNat, none⟩), ?_, ?_⟩
          · have hlt : 0 ≤ i ∧ i < (n : Int) := ⟨hb.1, hb.2⟩
            have hn1' : ¬ n ≤ 1 := by omega
            unfold execOp
            simp [ho, Instr.indexAt, Instr.sureAddr, hri, hpa, asIntOf, run_underlying (arrOf_eq ha), hlt, run_sizeOf' hd, hsz, Addr.add_lit]
          · show RepP cx c { p with off := i.toNat } _
            unfold RepP
            simp only [hk, hi0]
            exact ⟨tk, ht, hnm, hcc, g, hu, rfl⟩
      · split at h
        · rename_i hc
          simp only [Bool.and_eq_true, beq_iff_eq, decide_eq_true_eq] at hc
          obtain ⟨⟨⟨⟨⟨hk, hi0⟩, hoff⟩, hn⟩, hn1⟩, hund⟩ := hc
          cases hb : (decide (0 ≤ i) && decide (i < n)) with
          | false => rw [hb] at h; simp at h
          | true =>
            rw [hb] at h
            simp only [Bool.and_eq_true, decide_eq_true_eq] at hb
            refine ⟨_, h, effok_pur fun c ρ hw hop _ => ?_⟩
            have hr := hop x (by simp [ho, Op.operands])
            rw [hx] at hr
            have hri := hop ix (by simp [ho, Op.operands])
            rw [hix] at hri
            have hri : ρ ix = .int ki i := hri
            have hr : RepP cx c p (ρ x) := hr
            unfold RepP at hr
            simp only [hk, hi0, hoff] at hr
            obtain ⟨tk, ht, hnm, hcc, g, hu, hpa⟩ := hr
            have hpa : ρ x = .pointer (some ⟨g, 0, none⟩) := hpa
            obtain ⟨dd, hd⟩ := Option.isSome_iff_exists.1 hund
            refine ⟨.pointer (some ⟨g, i.toNat * P.cellsOf e, none⟩), ?_, ?_⟩
            · have hlt : 0 ≤ i ∧ i < (n : Int) := ⟨hb.1, hb.2⟩
              unfold execOp
              simp [ho, Instr.indexAt, Instr.sureAddr, hri, hpa, asIntOf, run_underlying (arrOf_eq ha), hlt, run_sizeOf' hd, Addr.add_lit]
            · show RepP cx c { p with off := i.toNat * P.cellsOf e } _
              unfold RepP
              simp only [hk, hi0]
              exact ⟨tk, ht, hnm, hcc, g, hu, rfl⟩
        · simp at h
    · simp at h
  · exact evIndexAddr_ok ok ho h

def evSliceB {β : Type} (P : Program) (cx : Cx) (slots : List (V cx.ty)) (t : TypeId) (x : Operand) (lo hi mx : Option Operand) (k : Eff cx.ty → Option β) : Option β :=
  match getV slots x with
  | .inr (.inr p) => match arrOf P t, hi, mx with
    | some (n, e), none, none =>
      if p.kind == 0 && p.i == 0 && p.off == 0 && n == p.cells.length && (P.underlying e).isSome && P.cellsOf e == 1 && n != 0 then
        match lo with
        | none => k (purR (.inr (.inr { p with i := n + 1 })) [])
        | some lx => match getV slots lx with
          | .inl (.inl (some (.inl (.int _ i)))) => bif decide (0 ≤ i) && decide (i < n) then k (purR (.inr (.inr { p with off := i.toNat, i := n - i.toNat + 1 })) []) else none
          | _ => none
      else none
    | _, _, _ => none
  | _ => evSlice P cx slots t x lo hi mx k

theorem evSliceB_ok (ok : cx.Ok) {β : Type} {o : Oper} {slots : List (V cx.ty)} {nm0 : Nat} {t : TypeId} {x : Operand} {lo hi mx : Option Operand} (ho : o.op = .slice t x lo hi mx) {k : Eff cx.ty → Option β} {r : β}
    (h : evSliceB P cx slots t x lo hi mx k = some r) : ∃ ef, k ef = some r ∧ EffOK P cx o slots nm0 ef := by
  unfold evSliceB at h
  split at h
  · rename_i p hx
    split at h
    · rename_i n e ha
      split at h
      · rename_i hc
        simp only [Bool.and_eq_true, beq_iff_eq, bne_iff_ne, ne_eq] at hc
        obtain ⟨⟨⟨⟨⟨⟨hk, hi0⟩, hoff⟩, hn⟩, hund⟩, hsz⟩, hn0⟩ := hc
        obtain ⟨dd, hd⟩ := Option.isSome_iff_exists.1 hund
        split at h
        · refine ⟨_, h, effok_pur fun c ρ hw hop _ => ?_⟩
          have hr := hop x (by simp [ho, Op.operands])
          rw [hx] at hr
          have hr : RepP cx c p (ρ x) := hr
          unfold RepP at hr
          simp only [hk, hi0, hoff] at hr
          obtain ⟨tk, ht, hnm, hcc, g, hu, hpa⟩ := hr
          have hpa : ρ x = .pointer (some ⟨g, 0, none⟩) := hpa
          refine ⟨.slice (some ⟨g, 0, none⟩) n n, ?_, ?_⟩
          · unfold execOp
            simp [ho, Instr.sliceAt, Instr.sureAddr, hpa, run_underlying (arrOf_eq ha), Instr.sliceBounds, run_sizeOf' hd, Addr.add_lit]
          · show RepP cx c { p with i := n + 1 } _
            unfold RepP
            simp only [hk, hoff]
            exact ⟨tk, ht, hnm, hcc, g, hu, (boxAt_win hn0).symm⟩
        · rename_i lx
          split at h
          · rename_i ki i hlx
            cases hb : (decide (0 ≤ i) && decide (i < n)) with
            | false => rw [hb] at h; simp at h
            | true =>
              rw [hb] at h
              simp only [Bool.and_eq_true, decide_eq_true_eq] at hb
              refine ⟨_, h, effok_pur fun c ρ hw hop _ => ?_⟩
              have hr := hop x (by simp [ho, Op.operands])
              rw [hx] at hr
              have hrl := hop lx (by simp [ho, Op.operands])
              rw [hlx] at hrl
              have hrl : ρ lx = .int ki i := hrl
              have hr : RepP cx c p (ρ x) := hr
              unfold RepP at hr
              simp only [hk, hi0, hoff] at hr
              obtain ⟨tk, ht, hnm, hcc, g, hu, hpa⟩ := hr
              have hpa : ρ x = .pointer (some ⟨g, 0, none⟩) := hpa
              refine ⟨.slice (some ⟨g, i.toNat, none⟩) (n - i.toNat) (n - i.toNat), ?_, ?_⟩
              · have hle : i ≤ (n : Int) := by omega
                have hne : ¬ n = i.toNat := by omega
                unfold execOp
                simp [ho, Instr.sliceAt, Instr.sureAddr, hpa, run_underlying (arrOf_eq ha), Instr.sliceBounds, Instr.sliceBound, hrl, asIntOf, hb.1, hle, hne, run_sizeOf' hd, hsz, Addr.add_lit]
              · show RepP cx c { p with off := i.toNat, i := n - i.toNat + 1 } _
                unfold RepP
                simp only [hk]
                exact ⟨tk, ht, hnm, hcc, g, hu, (boxAt_win (by omega)).symm⟩
          · simp at h
      · simp at h
    · simp at h
  · exact evSlice_ok ok ho h

/-- An array is sliced for a literal of rows alone: its box is frozen. -/
def inLit (ops : Array Oper) (d : Option Tmp) : Bool := ops.toList.any fun q => match q.op, d with
  | .buildSlice _ _ parts, some d => parts.toList.any fun y => match y.2 with
    | .tmp t => t == d
    | _ => false
  | _, _ => false

def arrBoxL (P : Program) (cx : Cx) (ops : Array Oper) (slots : List (V cx.ty)) (o : Oper) : Option (Pt cx.ty × (e : Nat) × List (cx.ty e)) :=
  if inLit ops o.dst then arrBox P cx slots o else none

theorem arrBoxL_eq {ops : Array Oper} {slots : List (V cx.ty)} {o : Oper} {r : Pt cx.ty × (e : Nat) × List (cx.ty e)} (h : arrBoxL P cx ops slots o = some r) : arrBox P cx slots o = some r := by
  unfold arrBoxL at h
  split at h
  · exact h
  · simp at h

end
end Go.VM

namespace Go.VM
open Go.RowKit
section
variable {cx : Cx} {P : Program}

/-! ### A window that is put into a row of rows: its box is frozen there -/
theorem winA_repS (ok : cx.Ok) {c : Ct cx.ty} (hw : Wf cx c) {t : TypeId} {p : Pt cx.ty} {a : A cx.ty} (ha : winA P cx t p = some a) {u : Value} (h : RepP cx c p u) {S : Nat → Prop}
    (hS : ∀ tk ∈ c.T, ∀ g, tk.nm = p.nm → tk.u = .pointer (some ⟨g, 0, none⟩) → S g) : p.kind = 0 ∧ (∃ tk ∈ c.T, tk.nm = p.nm ∧ ∃ l, tk.c = .inr l) ∧ ∃ s, a = .inl (some (.inr s)) ∧ s.own = 0 ∧ ∃ n, RepL cx c.w S n (some (.inr s)) u := by
  unfold winA at ha
  split at ha
  · rename_i e he
    split at ha
    · rename_i hc
      simp only [Bool.and_eq_true, beq_iff_eq, decide_eq_true_eq] at hc
      obtain ⟨⟨⟨⟨hk0, hi⟩, hflat⟩, hsz⟩, hfit⟩ := hc
      split at ha
      · rename_i xs hxs
        simp only [Option.some.injEq] at ha
        subst ha
        obtain ⟨m, hm⟩ : ∃ m, p.i = m + 1 := ⟨p.i - 1, by omega⟩
        rw [hm] at hxs hfit
        simp only [Nat.add_sub_cancel] at hxs hfit
        unfold RepP at h
        simp only [hk0, hm] at h
        obtain ⟨tk, ht, hnm, hcc, g, htu, hpa⟩ := h
        have hpa : u = .slice (some ⟨g, p.off, none⟩) m m := hpa.trans (boxAt_win (by omega))
        have htr := hw.rep tk ht
        unfold TokRep at htr
        rw [hcc] at htr
        obtain ⟨hfp, g', cur, et, hu', hh, hcells⟩ := htr
        rw [htu] at hu'
        simp only [Value.pointer.injEq, Option.some.injEq, Addr.mk.injEq] at hu'
        obtain ⟨rfl, _⟩ := hu'
        obtain ⟨hxl, hxw⟩ := decN_spec ok false m _ xs hxs
        refine ⟨hk0, ⟨tk, ht, hnm, _, hcc⟩, _, rfl, rfl, 2, some ⟨g, p.off, none⟩, m, by rw [hpa, ← hxl]; rfl, by show xs.length ≤ m; omega, .inr ⟨g, p.off, rfl, hS tk ht g hnm htu, fun i y hy j l hl => ?_⟩⟩
        have hl : (cx.enc e false y)[j]? = some l := hl
        have hy : xs[i]? = some y := hy
        have hj : j < 1 := by
          have h8 := (List.getElem?_eq_some_iff.1 hl).1
          have h9 : (cx.enc e false y).length = cx.size e := ok.len e false y
          omega
        have hfg := flat_get (cx.enc e false) 1 (fun x => by rw [ok.len, hsz]) xs i y hy j hj
        rw [← hxw, hl, List.getElem?_map] at hfg
        obtain ⟨v, hv⟩ := ok.flat e false y hflat l (List.mem_of_getElem? hl)
        subst hv
        cases hl0 : ((p.cells.drop p.off).take m)[i * 1 + j]? with
        | none => rw [hl0] at hfg; simp at hfg
        | some l0 =>
          rw [hl0] at hfg
          simp only [Option.map_some, Option.some.injEq] at hfg
          have hl1 : l0 = some (.inl v) := by
            unfold weak at hfg
            split at hfg
            · simp at hfg
            · exact hfg
          have hlm : i * 1 + j < m := by
            have := (List.getElem?_eq_some_iff.1 hl0).1
            simp at this
            omega
          have hl2 : p.cells[p.off + (i * 1 + j)]? = some l0 := by
            rw [List.getElem?_take_of_lt hlm, List.getElem?_drop] at hl0
            exact hl0
          have hlt : p.off + (i * 1 + j) < cur.toList.length := by
            rw [hcells.1]
            exact (List.getElem?_eq_some_iff.1 hl2).1
          have hcv := hcells.2 _ l0 _ hl2 (List.getElem?_eq_getElem hlt)
          rw [hl1] at hcv
          have hcv : cur.toList[p.off + (i * 1 + j)] = v := hcv
          refine ⟨v, ?_, rfl⟩
          show c.w.cell? ⟨g, p.off + (i * cx.size e + j), none⟩ = some v
          rw [hsz]
          simp only [World.cell?, hh]
          simp only [← hcv]
          simp
      · simp at ha
    · simp at ha
  · simp at ha

def St.frzW {ty : Nat → Type} (st : St ty) (t nm : Nat) (a : A ty) : St ty := { st with slots := (st.slots.map (killB nm)).set t (.inl a), pend := none }

theorem frzW_ok (ok : cx.Ok) {st : St cx.ty} {c : Ct cx.ty} {act : Act} (h : RS cx c st act) {t : Nat} {p : Pt cx.ty} (hp : st.slots.getD t junk = .inr (.inr p)) {te : TypeId} {s : A cx.ty} (hwin : winA P cx te p = some s) :
    ∃ c', RS cx c' (st.frzW t p.nm s) act ∧ c'.w = c.w ∧ c'.S = c.S ∧ c'.N = c.N ∧ c'.K = c.K := by
  have hr := h.rep t
  rw [hp] at hr
  have hr : RepP cx c p (act.tmps.getD t undef) := hr
  let c' : Ct cx.ty := { c with T := c.T.filter (fun t2 => !(t2.nm == p.nm)) }
  have hmem : ∀ t2, t2 ∈ c'.T ↔ t2 ∈ c.T ∧ t2.nm ≠ p.nm := fun t2 => by simp [c', List.mem_filter]
  obtain ⟨hk0, ⟨tk, ht, hnm, lb, hcc⟩, sl, hs, hown, n, hrep⟩ := winA_repS ok h.wf hwin hr (S := Rd c') (fun tk ht g hnm htu => by
    have hgv : g ∈ vb tk.u := by rw [htu]; simp [vb]
    have hgb := h.wf.bound tk ht g (List.mem_append.2 (.inl hgv))
    exact ⟨hgb.2, .inr hgb.1, fun t2 h2 hv => by
      obtain ⟨q1, q2⟩ := (hmem t2).1 h2
      exact disjoint_toks h.wf q1 ht (fun e => q2 (e.trans hnm)) (List.mem_append.2 (.inl hv)) (List.mem_append.2 (.inl hgv))⟩)
  have hib : ∀ t2 ∈ c.T, t2.nm = p.nm → ∃ l, t2.c = .inr l := fun t2 h2 hn2 => by
    have := uniq_tok h.wf h2 ht (hn2.trans hnm.symm)
    subst this
    exact ⟨_, hcc⟩
  have hP : PresX (fun n => n = p.nm) c c' := ⟨fun b hb => ⟨⟨hb.1, hb.2.1, fun t2 h2 => hb.2.2 t2 ((hmem t2).1 h2).1⟩, rfl⟩, rfl, rfl, fun t2 h2 hX s hs => (hmem t2).2 ⟨h2, hX⟩, fun t2 h2 hX l hl => ⟨t2, (hmem t2).2 ⟨h2, hX⟩, rfl, rfl, hl⟩⟩
  have hnew : RepLS cx c' (some (.inr sl)) (act.tmps.getD t undef) := by
    unfold RepLS
    have : ¬ sl.own = 1 := by omega
    simp only [this, if_false]
    exact ⟨n, hrep⟩
  refine ⟨c', ⟨⟨?_, ?_, fun t2 h2 => h.wf.bound t2 ((hmem t2).1 h2).1, fun t2 h2 => ?_, h.wf.start, fun t2 h2 => h.wf.live t2 ((hmem t2).1 h2).1, h.wf.size⟩, ?_, fun t2 => ?_, h.defers, h.dead, h.frz, fun n hn => ?_, h.kp, h.pr, PdOK.none⟩, rfl, rfl, rfl, rfl⟩
  · exact (List.Sublist.map _ List.filter_sublist).nodup h.wf.names
  · exact filter_sub_nodup _ h.wf.nodup
  · obtain ⟨q1, q2⟩ := (hmem t2).1 h2
    have hold := h.wf.rep t2 q1
    unfold TokRep at hold ⊢
    split at hold
    · obtain ⟨hv, hold⟩ := hold
      refine ⟨hv, ?_⟩
      split at hold
      · rename_i hso
        rw [if_pos hso]
        exact hold
      · rename_i hso
        rw [if_neg hso]
        obtain ⟨hf, us, m, hrow, hl2, hr⟩ := hold
        exact ⟨hf, us, m, hrow, hl2, fun j l v h1 h2 => RepL_mono cx (fun b hb => (hP.rd b hb).2) (fun b hb => (hP.rd b hb).1) m l v (hr j l v h1 h2)⟩
    · obtain ⟨hf, g2, cur2, e2, hu2, hh2, hr⟩ := hold
      exact ⟨hf, g2, cur2, e2, hu2, hh2, hr.1, fun j a b e1 e2 => repLS_box hP hib (hr.2 j a b e1 e2)⟩
  · show act.tmps.size = ((st.slots.map (killB p.nm)).set t (.inl s)).length
    rw [List.length_set, List.length_map]
    exact h.size
  · have hk : (st.slots.map (killB p.nm)).getD t2 junk = killB p.nm (st.slots.getD t2 junk) := by
      by_cases hlt : t2 < st.slots.length
      · simp [List.getD, hlt]
      · simp [List.getD, List.getElem?_eq_none (Nat.le_of_not_lt hlt), junk, killB]
    have hold := killB_rep hP hib (h.rep t2)
    rw [← hk] at hold
    show RepV cx c' (((st.slots.map (killB p.nm)).set t (.inl s)).getD t2 junk) _
    by_cases htt : t = t2
    · subst htt
      by_cases hlt : t < (st.slots.map (killB p.nm)).length
      · have : ((st.slots.map (killB p.nm)).set t (.inl s)).getD t junk = .inl s := by
          simp only [List.getD, List.getElem?_set_self hlt, Option.getD_some]
        rw [this, hs]
        exact hnew
      · rw [List.set_eq_of_length_le (by omega)]
        exact hold
    · have : ((st.slots.map (killB p.nm)).set t (.inl s)).getD t2 junk = (st.slots.map (killB p.nm)).getD t2 junk := by
        simp only [List.getD, List.getElem?_set_ne htt]
      rw [this]
      exact hold
  · have hn' : Nm c n := by
      rcases hn with ⟨t2, h2, rfl⟩ | hn | hn
      · exact .inl ⟨t2, ((hmem t2).1 h2).1, rfl⟩
      · exact .inr (.inl hn)
      · exact .inr (.inr hn)
    exact h.names n hn'

def frzParts (P : Program) (cx : Cx) (te : TypeId) : List Operand → St cx.ty → St cx.ty
  | [], st => st
  | x :: r, st => match x with
    | .tmp t => match st.slots.getD t junk with
      | .inr (.inr p) => match winA P cx te p with
        | some a => frzParts P cx te r (st.frzW t p.nm a)
        | none => frzParts P cx te r st
      | _ => frzParts P cx te r st
    | _ => frzParts P cx te r st

theorem frzParts_ok (ok : cx.Ok) {te : TypeId} {act : Act} : ∀ (l : List Operand) (st : St cx.ty) (c : Ct cx.ty), RS cx c st act → ∃ c', RS cx c' (frzParts P cx te l st) act ∧ c'.w = c.w ∧ c'.S = c.S ∧ c'.N = c.N ∧ c'.K = c.K
  | [], st, c, h => ⟨c, h, rfl, rfl, rfl, rfl⟩
  | x :: r, st, c, h => by
    unfold frzParts
    split
    · split
      · rename_i p hp
        split
        · rename_i a ha
          obtain ⟨c1, h1, e1, e2, e3, e4⟩ := frzW_ok ok h hp ha
          obtain ⟨c2, h2, f1, f2, f3, f4⟩ := frzParts_ok ok r _ c1 h1
          exact ⟨c2, h2, f1.trans e1, f2.trans e2, f3.trans e3, f4.trans e4⟩
        · exact frzParts_ok ok r st c h
      · exact frzParts_ok ok r st c h
    · exact frzParts_ok ok r st c h

/-- The state ahead of an operation. -/
def preSt (P : Program) (cx : Cx) (st : St cx.ty) (o : Oper) : St cx.ty :=
  match o.op with
  | .buildSlice t _ parts => match sliceElem P t with
    | some te => frzParts P cx te (parts.toList.map (·.2)) st
    | none => st
  | _ => st

theorem preSt_ok (ok : cx.Ok) {act : Act} {st : St cx.ty} {c : Ct cx.ty} (o : Oper) (h : RS cx c st act) : ∃ c', RS cx c' (preSt P cx st o) act ∧ c'.w = c.w ∧ c'.S = c.S ∧ c'.N = c.N ∧ c'.K = c.K := by
  unfold preSt
  split
  · split
    · exact frzParts_ok ok _ st c h
    · exact ⟨c, h, rfl, rfl, rfl, rfl⟩
  · exact ⟨c, h, rfl, rfl, rfl, rfl⟩

end
end Go.VM

namespace Go.VM
open Go.RowKit
section
variable {cx : Cx} {P : Program}

/-! ### Functions that may throw -/
/-- What a function that throws hands back, read as one that does not: outside of where it throws. -/
def retF {ty : Nat → Type} (F : List (A ty) → Option (Bool × List (A ty))) (as : List (A ty)) : Option (Bool × V ty) :=
  match F as with
  | some (pre, .inl (some (.inl (.bool thr))) :: .inl (some (.inl _)) :: rs) => some (bif thr then false else pre, packV rs)
  | _ => none

theorem SatT.ret {f : FuncId} {F : List (A cx.ty) → Option (Bool × List (A cx.ty))} (h : SatT P cx f F) : Sat P cx f (retF F) := by
  intro w A0 l us r hA hargs hF
  unfold retF at hF
  split at hF
  · rename_i pre thr v rs hFl
    simp only [Option.some.injEq, Prod.mk.injEq] at hF
    obtain ⟨h1, rfl⟩ := hF
    cases thr with
    | true => simp at h1
    | false =>
      simp only [cond_false] at h1
      subst h1
      refine (h w A0 l us false v rs hA hargs hFl).mono fun e w' ⟨hb, he⟩ => ?_
      simp only [cond_false] at he
      obtain ⟨u, he, hr⟩ := he
      exact ⟨u, he, hb, hr⟩
  · simp at hF

def evCallT {β : Type} (P : Program) (f : FuncId) (W : WFn cx) (st : St cx.ty) (args : List Operand) (ts : List TypeId) (nm0 : Nat) (kt : Value → St cx.ty → Option β) (k : Eff cx.ty → Option β) : Option β := none
/-- The same state in a later world: nothing that was there has changed. -/
theorem RS.later {st : St cx.ty} {c : Ct cx.ty} {a : Act} (h : RS cx c st a) {w' : World} (hb : Below c.w.heap.size c.w w') :
    ∃ c', RS cx c' st a ∧ c'.w = w' ∧ c'.S = c.S ∧ c'.N = c.N ∧ c'.K = c.K ∧ Kept c.N c.w w' := by
  have hbase : ∀ b, c.w.heap.size ≤ b → c.N b := by exact h.wf.size
  have hg : Good cx c (purR (junk : V cx.ty) []) (st.ctr * 65536) undef w' ([] ++ c.T) :=
    good_add (N := []) h.wf hb hbase (by simp) (by simp) (by simp) (by simp) (fun n hn hh => by have := h.names n hn; omega) (by simp) trivial
  exact ⟨_, ⟨hg.wf, h.size, fun t => RepV.pres cx hg.pres (h.rep t), h.defers, h.dead, h.frz, h.names, h.kp, h.pr.keep rfl rfl (fun b hb => (hg.pres.rd b (h.wf.rdS hb)).2), fun d p hq => by
    obtain ⟨h1, h2, tk, h3, h4, h5, h6, g, n, cap, h7, h8⟩ := h.pd d p hq
    refine ⟨by simpa [Ct.nx, purR] using h1, by simpa [Ct.nx, purR] using h2, tk, h3, h4, h5, h6, g, n, cap, h7, ?_⟩
    have hg1 := (h.wf.bound tk h3 g (List.mem_append.2 (.inl (by rw [h7]; simp [vb])))).2
    show w'.cell? _ = _
    rw [World.cell?_of_block (hb.block g hg1)]
    exact h8⟩, rfl, rfl, rfl, rfl, hg.below⟩

theorem evCallT_ok (ok : cx.Ok) {β : Type} {o : Oper} {nm0 : Nat} {f : FuncId} {args : Array Operand} {ts : Array TypeId} {W : WFn cx} (hK : SatT P cx f W.F)
    (ho : o.op = .call { callee := .value (.func f), args := args, argTypes := ts }) {st : St cx.ty} {kt : Value → St cx.ty → Option β} {k : Eff cx.ty → Option β} {r : β}
    (h : evCallT P f W st args.toList ts.toList nm0 kt k = some r) :
    (∃ ef, k ef = some r ∧ EffOK P cx o st.slots nm0 ef) ∨
    (∃ v, kt v st = some r ∧ ∀ (c : Ct cx.ty) (a : Act), RS cx c st a → (execOp a.eval o).run P c.w = .ok (.enter f (args.map a.eval)) c.w ∧
      Calls P f (args.map a.eval) c.w fun e w' => e = .panicked [{ v := v, recovered := false }] ∧ Below c.w.heap.size c.w w') := by
  unfold evCallT at h
  cases h
end
end Go.VM

namespace Go.VM
open Go.RowKit
section
variable {cx : Cx} {P : Program}

/-! ### Calls that write into rows of rows: what was only read is lost, but for what was lent -/
/-- A piece that is handed over whole, and its name. -/
def giveHL (cx : Cx) (P : Program) (t : TypeId) (l : L cx.ty) : Option (L cx.ty × List Nat) :=
  match l with
  | some (.inl (.slice none 0 0)) => match sliceElem P t with
    | some e => some (ls { own := 2, nm := 0, e := e, o := true, xs := [] }, [])
    | none => none
  | some (.inl v) => some (lv v, [])
  | some (.inr s) => if s.own == 1 && s.o then some (ls { own := 2, nm := 0, e := s.e, o := true, xs := s.xs }, [s.nm]) else none
  | none => none

def giveHLs (cx : Cx) (P : Program) : List TypeId → List (L cx.ty) → Option (List (L cx.ty) × List Nat)
  | t :: ts, l :: r => match giveHL cx P t l, giveHLs cx P ts r with
    | some (a, n), some (as, ns) => some (a :: as, n ++ ns)
    | _, _ => none
  | [], [] => some ([], [])
  | _, _ => none

def giveHA (cx : Cx) (P : Program) (t : TypeId) (a : A cx.ty) : Option (A cx.ty × List Nat) :=
  match a with
  | .inl l => match giveHL cx P t l with
    | some (a, n) => some (.inl a, n)
    | none => none
  | .inr l => match giveHLs cx P (leafTypes P 8 t) l with
    | some (as, n) => some (.inr as, n)
    | none => none

def giveHVs (cx : Cx) (P : Program) : List TypeId → List (V cx.ty) → Option (List (A cx.ty) × List Nat)
  | t :: ts, .inl a :: r => match giveHA cx P t a, giveHVs cx P ts r with
    | some (a, n), some (as, ns) => some (a :: as, n ++ ns)
    | _, _ => none
  | [], [] => some ([], [])
  | _, _ => none

/-- The blocks of the things named, in their order. -/
def GivesH (c : Ct cx.ty) (ns : List Nat) (fp : List Nat) : Prop := ∃ tks : List (Tk cx.ty), tks.map (·.nm) = ns ∧ (∀ tk ∈ tks, tk ∈ c.T ∧ ∃ s, tk.c = .inl s) ∧ fp = tks.flatMap blocks

theorem GivesH.nil (c : Ct cx.ty) : GivesH c [] [] := ⟨[], rfl, by simp, rfl⟩
theorem GivesH.app {c : Ct cx.ty} {a b f g : List Nat} (h1 : GivesH c a f) (h2 : GivesH c b g) : GivesH c (a ++ b) (f ++ g) := by
  obtain ⟨t1, p1, q1, r1⟩ := h1
  obtain ⟨t2, p2, q2, r2⟩ := h2
  exact ⟨t1 ++ t2, by simp [p1, p2], fun tk ht => (List.mem_append.1 ht).elim (q1 tk) (q2 tk), by rw [List.flatMap_append, r1, r2]⟩

theorem giveHL_rep (_ok : cx.Ok) {c : Ct cx.ty} (hw : Wf cx c) {t : TypeId} {l l' : L cx.ty} {n : List Nat} (ha : giveHL cx P t l = some (l', n)) {u : Value} (h : RepLS cx c l u) (hd : ∀ k ∈ n, k ∉ c.D ∧ k ∉ c.F) :
    ∃ fp, ResL cx c.w (fun _ => False) l' u fp ∧ GivesH c n fp := by
  unfold giveHL at ha
  split at ha
  · split at ha
    · simp only [Option.some.injEq, Prod.mk.injEq] at ha
      obtain ⟨rfl, rfl⟩ := ha
      have h : u = .slice none 0 0 := h
      subst h
      refine ⟨[], ?_, GivesH.nil c⟩
      unfold ResL
      simp only [ls, if_true]
      exact ⟨trivial, 1, [], [], World.ownsRow_nil _ _ _ _, rfl, rfl, rfl, fun j l c f h => by simp at h⟩
    · simp at ha
  · simp only [Option.some.injEq, Prod.mk.injEq] at ha
    obtain ⟨rfl, rfl⟩ := ha
    exact ⟨[], ⟨h, rfl⟩, GivesH.nil c⟩
  · rename_i s
    split at ha
    · rename_i hc
      simp only [Bool.and_eq_true, beq_iff_eq] at hc
      simp only [Option.some.injEq, Prod.mk.injEq] at ha
      obtain ⟨rfl, rfl⟩ := ha
      have h2 := hd s.nm (by simp)
      unfold RepLS at h
      simp only [hc.1, if_true, h2.1, h2.2, if_false] at h
      obtain ⟨_, tk, ht, hn, hcc, hu⟩ := h
      have htr := hw.rep tk ht
      unfold TokRep at htr
      rw [hcc] at htr
      simp only [hc.2, if_true] at htr
      obtain ⟨hv, m, htr⟩ := htr
      refine ⟨blocks tk, ?_, [tk], by simp [hn], by simp only [List.mem_singleton]; rintro _ rfl; exact ⟨ht, s, hcc⟩, by simp⟩
      unfold ResL
      simp only [ls, if_true]
      refine ⟨trivial, m, ?_⟩
      rw [← hu]
      cases m with
      | zero => simp [OwnL] at htr
      | succ m => exact htr
    · simp at ha
  · simp at ha

theorem giveHLs_rep (ok : cx.Ok) {c : Ct cx.ty} (hw : Wf cx c) : ∀ (ts : List TypeId) (l l' : List (L cx.ty)) (n : List Nat) (us : List Value), giveHLs cx P ts l = some (l', n) → RepLs cx c l us → (∀ k ∈ n, k ∉ c.D ∧ k ∉ c.F) →
    ∃ fps, ResLs cx c.w (fun _ => False) l' us fps ∧ GivesH c n (List.flatten fps)
  | [], [], l', n, us, ha, h, _ => by
    simp only [giveHLs, Option.some.injEq, Prod.mk.injEq] at ha
    obtain ⟨rfl, rfl⟩ := ha
    exact ⟨[], ⟨h.1, rfl, fun j a u f h1 => by simp at h1⟩, GivesH.nil c⟩
  | t :: ts, l :: r, l', n, us, ha, h, hd => by
    simp only [giveHLs] at ha
    split at ha
    · rename_i a n1 as ns e1 e2
      simp only [Option.some.injEq, Prod.mk.injEq] at ha
      obtain ⟨rfl, rfl⟩ := ha
      match us, h with
      | [], h => simp [RepLs] at h
      | u :: us, h =>
        obtain ⟨f, k1, k2⟩ := giveHL_rep ok hw e1 (h.2 0 l u rfl rfl) (fun k hk => hd k (List.mem_append.2 (.inl hk)))
        obtain ⟨fps, k3, k4⟩ := giveHLs_rep ok hw ts r as ns us e2 ⟨by have := h.1; simpa using this, fun j a b h1 h2 => h.2 (j + 1) a b (by simpa using h1) (by simpa using h2)⟩ (fun k hk => hd k (List.mem_append.2 (.inr hk)))
        refine ⟨f :: fps, ⟨by simp [k3.1], by simp [k3.2.1], fun j a' u' f' h1 h2 h3 => ?_⟩, by rw [List.flatten_cons]; exact k2.app k4⟩
        cases j with
        | zero =>
          simp only [List.getElem?_cons_zero, Option.some.injEq] at h1 h2 h3
          subst h1; subst h2; subst h3
          exact k1
        | succ j => exact k3.2.2 j a' u' f' (by simpa using h1) (by simpa using h2) (by simpa using h3)
    · simp at ha
  | [], _ :: _, _, _, _, ha, _, _ => by simp [giveHLs] at ha
  | _ :: _, [], _, _, _, ha, _, _ => by simp [giveHLs] at ha

theorem giveHA_rep (ok : cx.Ok) {c : Ct cx.ty} (hw : Wf cx c) {t : TypeId} {a a' : A cx.ty} {n : List Nat} (ha : giveHA cx P t a = some (a', n)) {u : Value} (h : RepA cx c a u) (hd : ∀ k ∈ n, k ∉ c.D ∧ k ∉ c.F) :
    ∃ fp, ResA cx c.w (fun _ => False) a' u fp ∧ GivesH c n fp := by
  unfold giveHA at ha
  split at ha
  · split at ha
    · rename_i a n e1
      simp only [Option.some.injEq, Prod.mk.injEq] at ha
      obtain ⟨rfl, rfl⟩ := ha
      exact giveHL_rep ok hw e1 h hd
    · simp at ha
  · split at ha
    · rename_i as n e1
      simp only [Option.some.injEq, Prod.mk.injEq] at ha
      obtain ⟨rfl, rfl⟩ := ha
      obtain ⟨us, hu, h⟩ := h
      obtain ⟨fps, h1, h2⟩ := giveHLs_rep ok hw _ _ _ _ us e1 h hd
      exact ⟨_, ⟨us, fps, hu, rfl, h1⟩, h2⟩
    · simp at ha

theorem giveHVs_rep (ok : cx.Ok) {c : Ct cx.ty} (hw : Wf cx c) : ∀ (ts : List TypeId) (l : List (V cx.ty)) (l' : List (A cx.ty)) (n : List Nat) (us : List Value), giveHVs cx P ts l = some (l', n) →
    us.length = l.length → (∀ (j : Nat) a u, l[j]? = some a → us[j]? = some u → RepV cx c a u) → (∀ k ∈ n, k ∉ c.D ∧ k ∉ c.F) → ∃ fps, ResAs cx c.w (fun _ => False) l' us fps ∧ GivesH c n (List.flatten fps)
  | [], [], l', n, us, ha, hl, h, _ => by
    simp only [giveHVs, Option.some.injEq, Prod.mk.injEq] at ha
    obtain ⟨rfl, rfl⟩ := ha
    exact ⟨[], ⟨hl, rfl, fun j a u f h1 => by simp at h1⟩, GivesH.nil c⟩
  | t :: ts, .inl l :: r, l', n, us, ha, hl, h, hd => by
    simp only [giveHVs] at ha
    split at ha
    · rename_i a n1 as ns e1 e2
      simp only [Option.some.injEq, Prod.mk.injEq] at ha
      obtain ⟨rfl, rfl⟩ := ha
      match us, hl, h with
      | [], hl, h => simp at hl
      | u :: us, hl, h =>
        obtain ⟨f, k1, k2⟩ := giveHA_rep ok hw e1 (h 0 _ u rfl rfl) (fun k hk => hd k (List.mem_append.2 (.inl hk)))
        obtain ⟨fps, k3, k4⟩ := giveHVs_rep ok hw ts r as ns us e2 (by simpa using hl) (fun j a b h1 h2 => h (j + 1) a b (by simpa using h1) (by simpa using h2)) (fun k hk => hd k (List.mem_append.2 (.inr hk)))
        refine ⟨f :: fps, ⟨by simp [k3.1], by simp [k3.2.1], fun j a' u' f' h1 h2 h3 => ?_⟩, by rw [List.flatten_cons]; exact k2.app k4⟩
        cases j with
        | zero =>
          simp only [List.getElem?_cons_zero, Option.some.injEq] at h1 h2 h3
          subst h1; subst h2; subst h3
          exact k1
        | succ j => exact k3.2.2 j a' u' f' (by simpa using h1) (by simpa using h2) (by simpa using h3)
    · simp at ha
  | [], _ :: _, _, _, _, ha, _, _, _ => by simp [giveHVs] at ha
  | _ :: _, [], _, _, _, ha, _, _, _ => by simp [giveHVs] at ha
  | _ :: _, .inr _ :: _, _, _, _, ha, _, _, _ => by simp [giveHVs] at ha

/-- What is left of a piece: what is owned as a whole. -/
def killL {ty : Nat → Type} (F : List Nat) (l : L ty) : L ty :=
  match l with
  | some (.inr s) => if s.own == 1 && s.o && !F.contains s.nm then some (.inr s) else none
  | l => l

def killA {ty : Nat → Type} (F : List Nat) : A ty → A ty
  | .inl l => .inl (killL F l)
  | .inr l => .inr (l.map (killL F))

def killV {ty : Nat → Type} (F : List Nat) : V ty → V ty
  | .inl a => .inl (killA F a)
  | .inr (.inl l) => .inr (.inl (l.map (killA F)))
  | .inr (.inr p) => match p.kind with
    | 0 => .inr (.inr { p with cells := p.cells.map (killL F) })
    | 1 => if p.s.o && !F.contains p.nm then .inr (.inr p) else junk
    | _ => junk

structure RenH (cx : Cx) (c c' : Ct cx.ty) (gs : List Nat) (ps : List (Nat × SlD cx.ty)) (Fl : List Nat) : Prop where
  dead : ∀ n, n ∈ c'.D ↔ n ∈ gs ∨ n ∈ c.D
  frz : ∀ n, n ∈ c'.F ↔ n ∈ c.F
  fl : ∀ n, n ∈ c.F ↔ n ∈ Fl
  tok : ∀ tk ∈ c.T, tk.nm ∉ gs → ∀ s, tk.c = .inl s → s.o = true → tk ∈ c'.T
  box : ∀ tk ∈ c.T, ∀ l, tk.c = .inr l → ∃ tk' ∈ c'.T, tk'.nm = tk.nm ∧ tk'.u = tk.u ∧ tk'.c = .inr (l.map fun x => renL ps (killL Fl x))
  ok : ∀ p ∈ ps, ∀ tk ∈ c.T, tk.nm = p.1 → p.2.own = 1 ∧ p.2.nm ∉ c'.D ∧ p.2.nm ∉ c'.F ∧ ∃ tk' ∈ c'.T, tk'.nm = p.2.nm ∧ tk'.c = .inl p.2 ∧ tk'.u = tk.u
  live : ∀ p ∈ ps, p.1 ∉ c.D ∧ p.1 ∉ c.F

theorem renHL_rep {c c' : Ct cx.ty} {gs Fl : List Nat} {ps : List (Nat × SlD cx.ty)} (hr : RenH cx c c' gs ps Fl) {l : L cx.ty} {u : Value} (h : RepLS cx c l u) : RepLS cx c' (renL ps (killL Fl l)) u := by
  match l, h with
  | none, _ => trivial
  | some (.inl v), h => exact h
  | some (.inr s), h =>
    unfold killL
    simp only
    split
    · rename_i hk
      simp only [Bool.and_eq_true, beq_iff_eq, Bool.not_eq_true', List.contains_eq_mem, decide_eq_false_iff_not] at hk
      obtain ⟨⟨h1, ho⟩, hF⟩ := hk
      have hFc : s.nm ∉ c.F := fun hx => hF ((hr.fl _).1 hx)
      unfold RepLS at h
      simp only [h1, if_true, hFc, if_false] at h
      obtain ⟨hsl, h⟩ := h
      unfold renL
      simp only [h1, beq_self_eq_true, if_true]
      split
      · rename_i p hp'
        have hm := List.mem_of_find?_eq_some hp'
        have he : p.1 = s.nm := by simpa using List.find?_some hp'
        have hl := hr.live p hm
        rw [he] at hl
        simp only [hl.1, if_false] at h
        obtain ⟨tk, k1, k2, k3, k4⟩ := h
        obtain ⟨q1, q2, q3, tk', q4, q5, q6, q7⟩ := hr.ok p hm tk k1 (by rw [k2, he])
        unfold RepLS
        simp only [q1, if_true, q2, q3, if_false]
        exact ⟨hsl, tk', q4, q5, q6, q7.trans k4⟩
      · unfold RepLS
        simp only [h1, if_true]
        refine ⟨hsl, ?_⟩
        by_cases h2 : s.nm ∈ c'.D
        · rw [if_pos h2]; trivial
        · rw [if_neg h2, if_neg (fun hx => hFc ((hr.frz _).1 hx))]
          have h2' : s.nm ∉ gs ∧ s.nm ∉ c.D := ⟨fun hx => h2 ((hr.dead _).2 (.inl hx)), fun hx => h2 ((hr.dead _).2 (.inr hx))⟩
          simp only [h2'.2, if_false] at h
          obtain ⟨tk, k1, k2, k3, k4⟩ := h
          exact ⟨tk, hr.tok tk k1 (by rw [k2]; exact h2'.1) s k3 ho, k2, k3, k4⟩
    · trivial

theorem renHA_rep {c c' : Ct cx.ty} {gs Fl : List Nat} {ps : List (Nat × SlD cx.ty)} (hr : RenH cx c c' gs ps Fl) {a : A cx.ty} {u : Value} (h : RepA cx c a u) : RepA cx c' (renA ps (killA Fl a)) u := by
  match a, h with
  | .inl l, h => exact renHL_rep hr h
  | .inr l, ⟨us, hu, h⟩ =>
    refine ⟨us, hu, ?_⟩
    rw [List.map_map]
    exact h.mapE fun l u h => renHL_rep hr h

theorem renHV_rep {c c' : Ct cx.ty} {gs Fl : List Nat} {ps : List (Nat × SlD cx.ty)} (hr : RenH cx c c' gs ps Fl) {v : V cx.ty} {u : Value} (h : RepV cx c v u) : RepV cx c' (renV ps (killV Fl v)) u := by
  match v, h with
  | .inl a, h => exact renHA_rep hr h
  | .inr (.inl l), ⟨us, hu, h⟩ =>
    refine ⟨us, hu, by rw [List.length_map, List.length_map]; exact h.1, fun j a u e1 e2 => ?_⟩
    rw [List.getElem?_map, List.getElem?_map] at e1
    cases e0 : l[j]? with
    | none => rw [e0] at e1; simp at e1
    | some a0 =>
      rw [e0] at e1
      simp only [Option.map_some, Option.some.injEq] at e1
      subst e1
      exact renHA_rep hr (h.2 j a0 u e0 e2)
  | .inr (.inr q), h =>
    have hq : RepP cx c q u := h
    have hj : RepV cx c' (renV ps (junk : V cx.ty)) u := trivial
    unfold killV
    simp only
    split
    · rename_i hk0
      unfold RepP at hq
      simp only [hk0] at hq
      obtain ⟨t2, k1, k2, k3, g2, k4, k5⟩ := hq
      obtain ⟨t3, m1, m2, m3, m4⟩ := hr.box t2 k1 _ k3
      simp only [renV, hk0]
      show RepP cx c' { kind := 0, nm := q.nm, cells := List.map (renL ps) (List.map (killL Fl) q.cells), s := q.s, i := q.i, off := q.off } u
      unfold RepP
      simp only
      refine ⟨t3, m1, m2.trans k2, ?_, g2, by rw [m3]; exact k4, k5⟩
      rw [m4, List.map_map]
      rfl
    · rename_i hk1
      split
      · rename_i hc
        simp only [Bool.and_eq_true, Bool.not_eq_true', List.contains_eq_mem, decide_eq_false_iff_not] at hc
        obtain ⟨ho, hF⟩ := hc
        have hFc : q.nm ∉ c.F := fun hx => hF ((hr.fl _).1 hx)
        simp only [renV, hk1]
        show RepP cx c' q u
        unfold RepP at hq ⊢
        simp only [hk1] at hq ⊢
        by_cases h2 : q.nm ∈ c'.D
        · rw [if_pos h2]; trivial
        · rw [if_neg h2, if_neg (fun hx => hFc ((hr.frz _).1 hx))]
          have h2' : q.nm ∉ gs ∧ q.nm ∉ c.D := ⟨fun hx => h2 ((hr.dead _).2 (.inl hx)), fun hx => h2 ((hr.dead _).2 (.inr hx))⟩
          simp only [h2'.2, hFc, if_false] at hq
          obtain ⟨t2, k1, k2, k3, k4⟩ := hq
          exact ⟨t2, hr.tok t2 k1 (by rw [k2]; exact h2'.1) _ k3 ho, k2, k3, k4⟩
      · exact hj
    · exact hj

theorem TokRep.renH {c c' : Ct cx.ty} {gs Fl : List Nat} {ps : List (Nat × SlD cx.ty)} (hr : RenH cx c c' gs ps Fl) {tk tk' : Tk cx.ty} (hu : tk'.u = tk.u) (hfp : tk'.fp = tk.fp) (hc : tk'.c = match tk.c with | .inl s => .inl s | .inr l => .inr (l.map fun x => renL ps (killL Fl x)))
    (hk : ∀ s, tk.c = .inl s → s.o = true) (hb : ∀ b ∈ vb tk.u ++ tk.fp, c'.w.heap[b]? = c.w.heap[b]?) (h : TokRep cx c tk) : TokRep cx c' tk' := by
  unfold TokRep at h
  split at h
  · rename_i s hs
    have ho := hk s hs
    rw [hs] at hc
    simp only at hc
    unfold TokRep
    rw [hc]
    simp only
    rw [hu, hfp]
    simp only [ho, if_true] at h ⊢
    obtain ⟨hv, n, h⟩ := h
    exact ⟨hv, n, OwnL_mono cx n _ _ _ hb h⟩
  · rename_i cells hs
    rw [hs] at hc
    simp only at hc
    obtain ⟨hf, g2, cur2, e2, hu2, hh2, hx⟩ := h
    unfold TokRep
    rw [hc]
    simp only
    rw [hu, hfp]
    refine ⟨hf, g2, cur2, e2, hu2, ?_, hx.mapE fun l u h => renHL_rep hr h⟩
    rw [hb g2 (by rw [hu2]; simp [vb])]
    exact hh2

structure GoodH (cx : Cx) (c : Ct cx.ty) (ef : Eff cx.ty) (ps : List (Nat × SlD cx.ty)) (Fl : List Nat) (nm0 : Nat) (u : Value) (w' : World) (T' : List (Tk cx.ty)) : Prop where
  wf : Wf cx (c.nx ef w' T')
  ren : RenH cx c (c.nx ef w' T') ef.dead ps Fl
  rep : RepV cx (c.nx ef w' T') ef.v u
  below : Kept c.N c.w w'
  names : ∀ n, Nm (c.nx ef w' T') n → Nm c n ∨ (nm0 ≤ n ∧ n < nm0 + 64)

def keptT (gs : List Nat) (tk : Tk cx.ty) : Bool := !gs.contains tk.nm && (match tk.c with | .inl s => s.o | .inr _ => true)
def upH (ps : List (Nat × SlD cx.ty)) (Fl : List Nat) (tk : Tk cx.ty) : Tk cx.ty := match tk.c with
  | .inl _ => tk
  | .inr l => { tk with c := .inr (l.map fun x => renL ps (killL Fl x)) }

/-- The table behind a call that writes into 'G', blocks of the things named 'gs'; 'N': what is new in it. -/
theorem good_hard {c : Ct cx.ty} (hw : Wf cx c) {ef : Eff cx.ty} (heff : ef.frz = []) {Fl : List Nat} (hFl : ∀ n, n ∈ c.F ↔ n ∈ Fl) {nm0 : Nat} {ps : List (Nat × SlD cx.ty)} {u : Value} {w' : World} {N : List (Tk cx.ty)} {G : Nat → Prop}
    (hf : ∀ n, Nm c n → ¬ (nm0 ≤ n ∧ n < nm0 + 64)) (hgT : ∀ n ∈ ef.dead, ∃ tk ∈ c.T, tk.nm = n ∧ ∃ s, tk.c = .inl s) (hG : ∀ b, G b → ∃ tk ∈ c.T, tk.nm ∈ ef.dead ∧ b ∈ blocks tk)
    (hkept : Kept (fun b => c.w.heap.size ≤ b ∨ G b) c.w w') (hNnm : ∀ tk ∈ N, nm0 ≤ tk.nm ∧ tk.nm < nm0 + 64) (hNnd : (N.map (·.nm)).Nodup) (hNfp : (N.flatMap fun tk => vb tk.u ++ tk.fp).Nodup)
    (hNb : ∀ tk ∈ N, ∀ b ∈ vb tk.u ++ tk.fp, (c.w.heap.size ≤ b ∨ ∃ t2 ∈ c.T, t2.nm ∈ ef.dead ∧ b ∈ blocks t2) ∧ b < w'.heap.size)
    (hNrep : ∀ tk ∈ N, TokRep cx (c.nx ef w' (N ++ (c.T.filter (keptT ef.dead)).map (upH ps Fl))) tk)
    (hpl : ∀ p ∈ ps, p.1 ∉ c.D ∧ p.1 ∉ c.F) (hpo : ∀ p ∈ ps, ∀ tk ∈ c.T, tk.nm = p.1 → p.2.own = 1 ∧ (nm0 ≤ p.2.nm ∧ p.2.nm < nm0 + 64) ∧ ∃ tk' ∈ N, tk'.nm = p.2.nm ∧ tk'.c = .inl p.2 ∧ tk'.u = tk.u)
    (hv : RepV cx (c.nx ef w' (N ++ (c.T.filter (keptT ef.dead)).map (upH ps Fl))) ef.v u) : GoodH cx c ef ps Fl nm0 u w' (N ++ (c.T.filter (keptT ef.dead)).map (upH ps Fl)) := by
  have hmem : ∀ tk, tk ∈ c.T.filter (keptT ef.dead) ↔ tk ∈ c.T ∧ tk.nm ∉ ef.dead ∧ ∀ s, tk.c = .inl s → s.o = true := fun tk => by
    rw [List.mem_filter]
    unfold keptT
    simp only [Bool.and_eq_true, Bool.not_eq_true', List.contains_eq_mem, decide_eq_false_iff_not]
    refine ⟨fun ⟨h1, h2, h3⟩ => ⟨h1, h2, fun s hs => by rw [hs] at h3; exact h3⟩, fun ⟨h1, h2, h3⟩ => ⟨h1, h2, ?_⟩⟩
    split
    · rename_i s hs; exact h3 s hs
    · rfl
  have upnm : ∀ tk : Tk cx.ty, (upH ps Fl tk).nm = tk.nm := fun tk => by unfold upH; split <;> rfl
  have upu : ∀ tk : Tk cx.ty, (upH ps Fl tk).u = tk.u := fun tk => by unfold upH; split <;> rfl
  have upfp : ∀ tk : Tk cx.ty, (upH ps Fl tk).fp = tk.fp := fun tk => by unfold upH; split <;> rfl
  have upl : ∀ (tk : Tk cx.ty) s, tk.c = .inl s → upH ps Fl tk = tk := fun tk s e => by unfold upH; rw [e]
  have upc : ∀ tk : Tk cx.ty, (upH ps Fl tk).c = match tk.c with | .inl s => .inl s | .inr l => .inr (l.map fun x => renL ps (killL Fl x)) := fun tk => by
    unfold upH
    split
    · rename_i s hs; rw [hs]
    · rfl
  have upm : ∀ t2 ∈ (c.T.filter (keptT ef.dead)).map (upH ps Fl), ∃ tk ∈ c.T, tk.nm ∉ ef.dead ∧ (∀ s, tk.c = .inl s → s.o = true) ∧ t2 = upH ps Fl tk := fun t2 h2 => by
    obtain ⟨tk, k1, k2⟩ := List.mem_map.1 h2
    have := (hmem tk).1 k1
    exact ⟨tk, this.1, this.2.1, this.2.2, k2.symm⟩
  have upin : ∀ tk, tk ∈ c.T → tk.nm ∉ ef.dead → (∀ s, tk.c = .inl s → s.o = true) → upH ps Fl tk ∈ (c.T.filter (keptT ef.dead)).map (upH ps Fl) := fun tk h1 h2 h3 => List.mem_map.2 ⟨tk, (hmem tk).2 ⟨h1, h2, h3⟩, rfl⟩
  have hgs_nm : ∀ n ∈ ef.dead, Nm c n := fun n hn => by
    obtain ⟨tk, k1, k2, _⟩ := hgT n hn
    exact .inl ⟨tk, k1, k2⟩
  have hother : ∀ tk ∈ c.T, tk.nm ∉ ef.dead → ∀ b ∈ blocks tk, ∀ t2 ∈ c.T, t2.nm ∈ ef.dead → b ∉ blocks t2 := fun tk ht hn b hb t2 h2 hn2 hb2 =>
    disjoint_toks hw ht h2 (fun e => hn (e ▸ hn2)) hb hb2
  have hheap : ∀ b, b < c.w.heap.size → ¬ G b → w'.heap[b]? = c.w.heap[b]? := fun b h1 h2 => hkept.block b (by
    rintro (h3 | h3)
    · omega
    · exact h2 h3)
  have hnewD : ∀ n, nm0 ≤ n ∧ n < nm0 + 64 → n ∉ (c.nx ef w' (N ++ (c.T.filter (keptT ef.dead)).map (upH ps Fl))).D ∧ n ∉ (c.nx ef w' (N ++ (c.T.filter (keptT ef.dead)).map (upH ps Fl))).F := fun n hn => by
    refine ⟨fun hd => ?_, fun hd => ?_⟩
    · rcases List.mem_append.1 hd with h1 | h1
      · exact hf n (hgs_nm n h1) hn
      · exact hf n (.inr (.inl h1)) hn
    · rcases List.mem_append.1 hd with h1 | h1
      · rw [heff] at h1; simp at h1
      · exact hf n (.inr (.inr h1)) hn
  have hGN : ∀ b, G b → c.N b := fun b h1 => by
    obtain ⟨t2, k1, _, k3⟩ := hG b h1
    exact (hw.bound t2 k1 b k3).1
  have hren : RenH cx c (c.nx ef w' (N ++ (c.T.filter (keptT ef.dead)).map (upH ps Fl))) ef.dead ps Fl := by
    refine ⟨fun n => List.mem_append, fun n => ?_, hFl, fun tk ht hn s hs ho => ?_, fun tk ht l hl => ?_, fun p hp tk ht hn => ?_, hpl⟩
    · show n ∈ ef.frz ++ c.F ↔ _
      rw [heff]; simp
    · have := upin tk ht hn (fun s2 h2 => by rw [hs] at h2; cases h2; exact ho)
      rw [upl tk s hs] at this
      exact List.mem_append.2 (.inr this)
    · have hn : tk.nm ∉ ef.dead := fun hd => by
        obtain ⟨t2, k1, k2, s, hs⟩ := hgT _ hd
        have := uniq_tok hw k1 ht k2
        subst this
        rw [hl] at hs
        cases hs
      refine ⟨upH ps Fl tk, List.mem_append.2 (.inr (upin tk ht hn (fun s hs => by rw [hl] at hs; cases hs))), upnm tk, upu tk, ?_⟩
      rw [upc, hl]
    · obtain ⟨a1, a2, tk', a3, a4, a5, a6⟩ := hpo p hp tk ht hn
      have := hnewD p.2.nm a2
      exact ⟨a1, this.1, this.2, tk', List.mem_append.2 (.inl a3), a4, a5, a6⟩
  refine ⟨⟨?_, ?_, ?_, ?_, hw.start, ?_, fun b hb => hw.size b (Nat.le_trans hkept.size hb)⟩, hren, hv, ⟨hkept.os, hkept.tape, hkept.output, hkept.size, fun b hb => hkept.block b (fun h1 => hb ?_)⟩, ?_⟩
  · show ((N ++ _).map (·.nm)).Nodup
    rw [List.map_append, List.nodup_append]
    have e0 : ((c.T.filter (keptT ef.dead)).map (upH ps Fl)).map (·.nm) = (c.T.filter (keptT ef.dead)).map (·.nm) := by
      rw [List.map_map]
      exact List.map_congr_left (fun tk _ => upnm tk)
    rw [e0]
    refine ⟨hNnd, (List.Sublist.map _ List.filter_sublist).nodup hw.names, fun a ha b hb' he => ?_⟩
    obtain ⟨t1, h1, rfl⟩ := List.mem_map.1 ha
    obtain ⟨t2, h2, rfl⟩ := List.mem_map.1 hb'
    exact hf t2.nm (.inl ⟨t2, ((hmem t2).1 h2).1, rfl⟩) (by have := hNnm t1 h1; omega)
  · show ((N ++ _).flatMap _).Nodup
    have e0 : (((c.T.filter (keptT ef.dead)).map (upH ps Fl)).flatMap fun tk => vb tk.u ++ tk.fp) = ((c.T.filter (keptT ef.dead)).flatMap fun tk => vb tk.u ++ tk.fp) := by
      rw [List.flatMap_map]
      congr 1
      exact funext fun tk => by rw [upu, upfp]
    rw [List.flatMap_append, List.nodup_append, e0]
    refine ⟨hNfp, filter_sub_nodup _ hw.nodup, fun a ha b hb' he => ?_⟩
    subst he
    obtain ⟨t1, h1, h1'⟩ := List.mem_flatMap.1 ha
    obtain ⟨t2, h2, h2'⟩ := List.mem_flatMap.1 hb'
    obtain ⟨q1, q2, _⟩ := (hmem t2).1 h2
    rcases (hNb t1 h1 a h1').1 with h3 | ⟨t3, k1, k2, k3⟩
    · have := (hw.bound t2 q1 a h2').2
      omega
    · exact hother t2 q1 q2 a h2' t3 k1 k2 k3
  · intro tk ht b hb'
    rcases List.mem_append.1 ht with ht | ht
    · have := hNb tk ht b hb'
      refine ⟨?_, this.2⟩
      rcases this.1 with h1 | ⟨t2, k1, _, k3⟩
      · exact hw.size b h1
      · exact (hw.bound t2 k1 b k3).1
    · obtain ⟨t2, q1, q2, _, rfl⟩ := upm tk ht
      rw [upu, upfp] at hb'
      have := hw.bound t2 q1 b hb'
      exact ⟨this.1, Nat.lt_of_lt_of_le this.2 hkept.size⟩
  · intro tk ht
    rcases List.mem_append.1 ht with ht | ht
    · exact hNrep tk ht
    · obtain ⟨t2, q1, q2, q3, rfl⟩ := upm tk ht
      exact TokRep.renH hren (upu t2) (upfp t2) (upc t2) q3 (fun b hb' => hheap b (hw.bound t2 q1 b hb').2 (fun hg => by
        obtain ⟨t3, k1, k2, k3⟩ := hG b hg
        exact hother t2 q1 q2 b hb' t3 k1 k2 k3)) (hw.rep t2 q1)
  · intro tk ht
    rcases List.mem_append.1 ht with ht | ht
    · exact hnewD tk.nm (hNnm tk ht)
    · obtain ⟨t2, q1, q2, _, rfl⟩ := upm tk ht
      rw [upnm]
      refine ⟨fun hd => ?_, fun hd => ?_⟩
      · rcases List.mem_append.1 hd with h1 | h1
        · exact q2 h1
        · exact (hw.live t2 q1).1 h1
      · rcases List.mem_append.1 hd with h1 | h1
        · rw [heff] at h1; simp at h1
        · exact (hw.live t2 q1).2 h1
  · rcases h1 with h1 | h1
    · exact hw.size b h1
    · exact hGN b h1
  · intro n hn
    rcases hn with ⟨tk, ht, rfl⟩ | hn | hn
    · rcases List.mem_append.1 ht with ht | ht
      · exact .inr (hNnm tk ht)
      · obtain ⟨t2, q1, q2, _, rfl⟩ := upm tk ht
        rw [upnm]
        exact .inl (.inl ⟨t2, q1, rfl⟩)
    · rcases List.mem_append.1 hn with h1 | h1
      · exact .inl (hgs_nm n h1)
      · exact .inl (.inr (.inl h1))
    · rcases List.mem_append.1 hn with h1 | h1
      · rw [heff] at h1; simp at h1
      · exact .inl (.inr (.inr h1))

def evCallH {β : Type} (P : Program) (f : FuncId) (W : WFn cx) (slots : List (V cx.ty)) (args : List Operand) (ts : List TypeId) (nm0 : Nat) (k : Eff cx.ty → List (Nat × SlD cx.ty) → Option β) : Option β :=
  match P.funcs[f]?, giveHVs cx P ts (args.map (getV slots)) with
  | some fn, some (as, gs) => if fn.body.isSome && fn.name != "runtime.NumGoroutine" && nodupB gs then
      match W.F as with
      | some (pre, cs) => bif pre then
          (if fitsV (.inr (.inl cs) : V cx.ty) && noRoV (.inr (.inl cs) : V cx.ty) then
            match pairVs (args.map (getV slots)) ((bindAs nm0 cs).drop W.nres) with
            | some ps => if ps.all (fun p => decide (nm0 ≤ p.2.nm) && decide (p.2.nm < nm0 + 64)) then k { v := packV ((bindAs nm0 cs).take W.nres), dead := gs, frz := [], live := gs ++ ps.map (·.1), read := [] } ps else none
            | none => none
          else none)
        else none
      | none => none
    else none
  | _, _ => none

theorem evCallH_ok (ok : cx.Ok) {β : Type} {o : Oper} {slots : List (V cx.ty)} {nm0 : Nat} {f : FuncId} {args : Array Operand} {ts : Array TypeId} {W : WFn cx} (hK : SatW P cx f W.nres W.n W.F)
    (ho : o.op = .call { callee := .value (.func f), args := args, argTypes := ts }) {k : Eff cx.ty → List (Nat × SlD cx.ty) → Option β} {r : β}
    (h : evCallH P f W slots args.toList ts.toList nm0 k = some r) : ∃ ef ps, k ef ps = some r ∧
      ∀ (c : Ct cx.ty) (ρ : Operand → Value) (Fl : List Nat), Wf cx c → (∀ x ∈ o.op.operands, RepV cx c (getV slots x) (ρ x)) → (∀ n ∈ ef.live, n ∉ c.D ∧ n ∉ c.F) →
        (∀ n, Nm c n → ¬ (nm0 ≤ n ∧ n < nm0 + 64)) → (∀ n, n ∈ c.F ↔ n ∈ Fl) → Runs P o ρ c.w (fun u w' => ∃ T', GoodH cx c ef ps Fl nm0 u w' T') := by
  unfold evCallH at h
  split at h
  · rename_i fn as gs hfn hargs
    split at h
    · rename_i hc
      simp only [Bool.and_eq_true, bne_iff_ne, ne_eq] at hc
      obtain ⟨⟨hbody, hname⟩, hgs⟩ := hc
      split at h
      · rename_i pre cs hF
        cases pre with
        | false => simp at h
        | true =>
          simp only [cond_true] at h
          split at h
          · rename_i hfit
            simp only [Bool.and_eq_true] at hfit
            obtain ⟨hfit, hro⟩ := hfit
            split at h
            · rename_i ps hps
              split at h
              · rename_i hband
                refine ⟨_, ps, h, fun c ρ Fl hw hop hlive hf hFl => ?_⟩
                have hopj : ∀ (j : Nat) a u, (args.toList.map (getV slots))[j]? = some a → (args.toList.map ρ)[j]? = some u → RepV cx c a u := fun j a u h1 h2 => by
                  simp only [List.getElem?_map] at h1 h2
                  cases hx : args.toList[j]? with
                  | none => simp [hx] at h1
                  | some x =>
                    simp only [hx, Option.map_some, Option.some.injEq] at h1 h2
                    subst h1; subst h2
                    exact hop x (by
                      have : x ∈ args := by simpa using List.mem_of_getElem? hx
                      simp [ho, Op.operands, Call.operands, this])
                obtain ⟨fps, hres, tks, hg1, hg2, hg3⟩ := giveHVs_rep ok hw ts.toList _ as gs (args.toList.map ρ) hargs (by simp) hopj (fun n hn => hlive n (List.mem_append.2 (.inl hn)))
                have hgn : gs.Nodup := nodupB_spec gs hgs
                have hfnd : (List.flatten fps).Nodup := by
                  rw [hg3]
                  exact flatMap_inj_nodup hw.nodup hw.names tks (by rw [hg1]; exact hgn) (fun tk ht => (hg2 tk ht).1)
                have hfb : ∀ b ∈ List.flatten fps, ∃ tk ∈ c.T, tk.nm ∈ gs ∧ b ∈ blocks tk := fun b hb => by
                  rw [hg3] at hb
                  obtain ⟨tk, k1, k2⟩ := List.mem_flatMap.1 hb
                  exact ⟨tk, (hg2 tk k1).1, by rw [← hg1]; exact List.mem_map.2 ⟨tk, k1, rfl⟩, k2⟩
                have hflt : ∀ b ∈ List.flatten fps, b < c.w.heap.size := fun b hb => by
                  obtain ⟨tk, k1, _, k3⟩ := hfb b hb
                  exact (hw.bound tk k1 b k3).2
                unfold Runs
                have hrun : (execOp ρ o).run P c.w = .ok (.enter f (args.map ρ)) c.w := by
                  have hb : ¬ fn.body = none := by
                    intro hbb
                    simp [hbb] at hbody
                  have hfv := hop (.func f) (by simp [ho, Op.operands, Call.operands])
                  have hfv : ρ (.func f) = .func (.func f) #[] #[] := hfv
                  unfold execOp
                  simp [ho, resolve, Deferred.ofValue, invoke, callFunc, hfv, hfn, hb, hname]
                rw [hrun]
                have hcall := hK c.w as (args.toList.map ρ) fps cs hres hfnd hflt hF
                have hargsEq : (args.toList.map ρ).toArray = args.map ρ := Array.ext' (by simp)
                rw [hargsEq] at hcall
                refine hcall.mono fun e w' ⟨rs, he, hrl, hkept, hresv⟩ => ⟨_, he, ?_⟩
                obtain ⟨fp, N, hnd, hbd, hN⟩ := ResV.bind nm0 hfit hresv
                generalize hef : ({ v := packV ((bindAs nm0 cs).take W.nres), dead := gs, frz := [], live := gs ++ ps.map (·.1), read := [] } : Eff cx.ty) = ef
                have hefd : ef.dead = gs := by rw [← hef]
                have heff : ef.frz = [] := by rw [← hef]
                have hefv : ef.v = packV ((bindAs nm0 cs).take W.nres) := by rw [← hef]
                have hblkN : ∀ tk ∈ N, ∀ b ∈ blocks tk, b ∈ fp := fun tk ht b hb => by
                  rw [← hN.fp]
                  exact List.mem_flatMap.2 ⟨tk, ht, hb⟩
                have hgT : ∀ n ∈ gs, ∃ tk ∈ c.T, tk.nm = n ∧ ∃ s, tk.c = .inl s := fun n hn => by
                  rw [← hg1] at hn
                  obtain ⟨tk, k1, k2⟩ := List.mem_map.1 hn
                  exact ⟨tk, (hg2 tk k1).1, k2, (hg2 tk k1).2⟩
                have hgs_nm : ∀ n ∈ gs, Nm c n := fun n hn => by
                  obtain ⟨tk, k1, k2, _⟩ := hgT n hn
                  exact .inl ⟨tk, k1, k2⟩
                have hlv : ∀ p ∈ ps, p.1 ∉ c.D ∧ p.1 ∉ c.F := fun p hp => by
                  refine hlive p.1 ?_
                  exact List.mem_append.2 (.inr (List.mem_map.2 ⟨p, hp, rfl⟩))
                let T' := N ++ (c.T.filter (keptT ef.dead)).map (upH ps Fl)
                have hnewD : ∀ n, nm0 ≤ n ∧ n < nm0 + 64 → n ∉ (c.nx ef w' T').D ∧ n ∉ (c.nx ef w' T').F := fun n hn => by
                  refine ⟨fun hd => ?_, fun hd => ?_⟩
                  · rcases List.mem_append.1 hd with h1 | h1
                    · rw [hefd] at h1
                      exact hf n (hgs_nm n h1) hn
                    · exact hf n (.inr (.inl h1)) hn
                  · rcases List.mem_append.1 hd with h1 | h1
                    · rw [heff] at h1; simp at h1
                    · exact hf n (.inr (.inr h1)) hn
                have hother : ∀ tk ∈ c.T, tk.nm ∉ gs → ∀ b ∈ blocks tk, b ∉ List.flatten fps := fun tk ht hn b hb hb2 => by
                  obtain ⟨t2, k1, k2, k3⟩ := hfb b hb2
                  exact disjoint_toks hw ht k1 (fun e => hn (e ▸ k2)) hb k3
                have hNboth := hN.both (c.nx ef w' T') rfl (fun tk ht => ⟨List.mem_append.2 (.inl ht), (hnewD tk.nm (hN.nm tk ht)).1, (hnewD tk.nm (hN.nm tk ht)).2⟩) (fun b hb => by
                  rcases hb with hb | ⟨h1, h2, h3⟩
                  · exact hb.elim
                  · refine ⟨h2, .inr ?_, fun tk ht hv => ?_⟩
                    · rcases h1 with h1 | h1
                      · exact hw.size b h1
                      · obtain ⟨tk, k1, _, k3⟩ := hfb b h1
                        exact (hw.bound tk k1 b k3).1
                    · rcases List.mem_append.1 ht with ht | ht
                      · exact h3 (hblkN tk ht b (List.mem_append.2 (.inl hv)))
                      · obtain ⟨t2, q1, q2⟩ := List.mem_map.1 ht
                        subst q2
                        have q3 := List.mem_filter.1 q1
                        have hu : (upH ps Fl t2).u = t2.u := by unfold upH; split <;> rfl
                        rw [hu] at hv
                        have hn2 : t2.nm ∉ gs := by
                          have := q3.2
                          unfold keptT at this
                          rw [hefd] at this
                          simp only [Bool.and_eq_true, Bool.not_eq_true', List.contains_eq_mem, decide_eq_false_iff_not] at this
                          exact this.1
                        rcases h1 with h1 | h1
                        · have := (hw.bound t2 q3.1 b (List.mem_append.2 (.inl hv))).2
                          omega
                        · exact hother t2 q3.1 hn2 b (List.mem_append.2 (.inl hv)) h1)
                obtain ⟨us', hus', hreps⟩ := hNboth.1
                have hus : us' = rs ++ (args.toList.map ρ).take W.n := by
                  simp only [Value.tuple.injEq] at hus'
                  have := congrArg Array.toList hus'
                  simpa using this.symm
                subst hus
                refine ⟨T', good_hard hw heff hFl (G := fun b => b ∈ List.flatten fps) hf (by rw [hefd]; exact hgT) (by rw [hefd]; exact hfb) hkept hN.nm hN.nd (by rw [hN.fp]; exact hnd) (fun tk ht b hb' => ?_) (fun tk ht => ?_) hlv (fun p hp tk ht hn => ?_) ?_⟩
                · have := hbd b (hblkN tk ht b hb')
                  refine ⟨?_, this.2⟩
                  rcases this.1 with h1 | h1
                  · exact .inl h1
                  · rw [hefd]; exact .inr (hfb b h1)
                · exact hNboth.2 tk ht
                · have hd := repAs_drop hreps W.nres
                  have e1 : (rs ++ (args.toList.map ρ).take W.n).drop W.nres = (args.toList.map ρ).take W.n := by rw [← hrl, List.drop_left]
                  rw [e1] at hd
                  have hpo := pairVs_ok (c := c) _ _ (args.toList.map ρ) _ ps hopj (by simp) hd (by
                    rw [← hd.1, List.length_take, List.take_eq_take_min]) hps
                  obtain ⟨u, s, a1, a2, a3, a4, a5⟩ := hpo p hp
                  have hb0 := List.all_eq_true.1 hband p hp
                  simp only [Bool.and_eq_true, decide_eq_true_eq] at hb0
                  have hnD := hnewD p.2.nm hb0
                  refine ⟨a4, hb0, ?_⟩
                  unfold RepLS at a3 a5
                  have hl := hlv p hp
                  simp only [a1, a2, if_true, hl.1, hl.2, if_false] at a3
                  obtain ⟨_, tk1, b1, b2, _, b4⟩ := a3
                  have := uniq_tok hw b1 ht (b2.trans hn.symm)
                  subst this
                  simp only [a4, if_true, hnD.1, hnD.2, if_false] at a5
                  obtain ⟨_, tk2, d1, d2, d3, d4⟩ := a5
                  rcases List.mem_append.1 d1 with d1 | d1
                  · exact ⟨tk2, d1, d2, d3, d4.trans b4.symm⟩
                  · exfalso
                    obtain ⟨t3, q1, q2⟩ := List.mem_map.1 d1
                    have hu : (upH ps Fl t3).nm = t3.nm := by unfold upH; split <;> rfl
                    rw [← q2, hu] at d2
                    exact hf p.2.nm (.inl ⟨t3, (List.mem_filter.1 q1).1, d2⟩) hb0
                · rw [hefv]
                  have ht := repAs_take hreps W.nres
                  have : (rs ++ (args.toList.map ρ).take W.n).take W.nres = rs := by rw [← hrl, List.take_left]
                  rw [this] at ht
                  exact packV_rep ht
              · simp at h
            · simp at h
          · simp at h
      · simp at h
    · simp at h
  · simp at h

/-- What was lent is put back. -/
def ptV {ty : Nat → Type} (s : SlD ty) : V ty := .inr (.inr { kind := 2, nm := s.nm, cells := [], s := s, i := 0, off := 0 })
def argV {ty : Nat → Type} (a : A ty) : V ty := match a with
  | .inl (some (.inr s)) => bif s.own == 3 then ptV { own := 0, nm := s.nm, e := s.e, o := false, xs := s.xs } else .inl (.inl (some (.inr s)))
  | a => .inl a
def psV {ty : Nat → Type} : A ty ⊕ SlD ty → V ty
  | .inl a => argV a
  | .inr s => ptV s
def restP {ty : Nat → Type} (ps : List (Nat × (A ty ⊕ SlD ty))) (slots : List (V ty)) : List (V ty) := ps.foldl (fun s q => s.set q.1 (psV q.2)) slots

theorem restP_length {ty : Nat → Type} : ∀ (ps : List (Nat × (A ty ⊕ SlD ty))) (slots : List (V ty)), (restP ps slots).length = slots.length
  | [], _ => rfl
  | q :: r, slots => by
    show (restP r (slots.set q.1 (psV q.2))).length = _
    rw [restP_length r, List.length_set]

theorem restP_rep {c : Ct cx.ty} {g : Nat → Value} : ∀ (ps : List (Nat × (A cx.ty ⊕ SlD cx.ty))) (slots : List (V cx.ty)), (∀ t, RepV cx c (slots.getD t junk) (g t)) → (∀ p a, (p, a) ∈ ps → RepV cx c (psV a) (g p)) → ∀ t, RepV cx c ((restP ps slots).getD t junk) (g t)
  | [], _, h, _ => h
  | (p, a) :: r, slots, h, hp => by
    refine restP_rep r (slots.set p (psV a)) (fun t => ?_) (fun q b hq => hp q b (List.mem_cons_of_mem _ hq))
    by_cases hpt : p = t
    · subst hpt
      by_cases hl : p < slots.length
      · have : (slots.set p (psV a)).getD p junk = psV a := by simp [List.getD, hl]
        rw [this]
        exact hp p a (List.mem_cons_self ..)
      · have : (slots.set p (psV a)).getD p junk = junk := by simp [List.getD, Nat.le_of_not_lt hl]
        rw [this]; trivial
    · have : (slots.set p (psV a)).getD t junk = slots.getD t junk := by simp [List.getD, List.getElem?_set_ne hpt]
      rw [this]; exact h t

theorem ArgL.repS {c : Ct cx.ty} {A0 : Nat → Prop} (hA : ∀ b, A0 b → Rd c b) {l : L cx.ty} {u : Value} (h : ArgL cx c.w A0 l u) : RepLS cx c l u := by
  match l, h with
  | some (.inl v), h => exact h
  | some (.inr s), ⟨h0, n, h⟩ =>
    have h1 : ¬ s.own = 1 := by omega
    simp only [RepLS, h1, if_false]
    exact ⟨n, RepL_mono cx (fun _ _ => rfl) hA n _ u h⟩
theorem PtS.rep {c : Ct cx.ty} {A0 : Nat → Prop} (hA : ∀ b, A0 b → Rd c b) {s : SlD cx.ty} {u : Value} (h : PtS cx c.w A0 s u) : RepV cx c (ptV s) u := by
  obtain ⟨g, off, hu, hg, x, hx, n, hn⟩ := h
  show RepP cx c { kind := 2, nm := s.nm, cells := [], s := s, i := 0, off := 0 } u
  refine ⟨g, off, hu, hA g hg, x, hx, n, fun j l hl => ?_⟩
  obtain ⟨v, h1, h2⟩ := hn j l hl
  exact ⟨v, h1, RepL_mono cx (fun _ _ => rfl) hA _ _ _ h2⟩
theorem ArgA.repV {c : Ct cx.ty} {A0 : Nat → Prop} (hA : ∀ b, A0 b → Rd c b) {a : A cx.ty} {u : Value} (h : ArgA cx c.w A0 a u) : RepV cx c (argV a) u := by
  match a, h with
  | .inl none, h => exact h.elim
  | .inl (some (.inl v)), h => exact h
  | .inl (some (.inr s)), h =>
    by_cases h3 : s.own = 3
    · rw [ArgA.atPt h3] at h
      have e : argV (.inl (some (.inr s)) : A cx.ty) = ptV { own := 0, nm := s.nm, e := s.e, o := false, xs := s.xs } := by simp [argV, h3]
      rw [e]
      exact PtS.rep hA (s := { own := 0, nm := s.nm, e := s.e, o := false, xs := s.xs }) h
    · rw [ArgA.atLeaf (show isPt (some (.inr s) : L cx.ty) = false by simp [isPt, h3])] at h
      have e : argV (.inl (some (.inr s)) : A cx.ty) = .inl (.inl (some (.inr s))) := by
        have : (s.own == 3) = false := by simpa using h3
        simp [argV, this]
      rw [e]
      exact ArgL.repS hA h
  | .inr l, ⟨us, hu, hl, h⟩ => exact ⟨us, hu, hl, fun j a b e1 e2 => ArgL.repS hA (h j a b e1 e2)⟩
theorem PsO.repS {c : Ct cx.ty} (hw : Wf cx c) {a : A cx.ty ⊕ SlD cx.ty} {u : Value} (h : PsO cx c.w c.S a u) : RepV cx c (psV a) u := by
  match a, h with
  | .inl a, h => exact ArgA.repV (fun b hb => hw.rdS hb) h
  | .inr s, h => exact PtS.rep (fun b hb => hw.rdS hb) h

/-- The state behind such a call. -/
def St.appH {ty : Nat → Type} (st : St ty) (d : Option Tmp) (ef : Eff ty) (ps : List (Nat × SlD ty)) : St ty :=
  { slots := restP st.ps (setO (st.slots.map fun v => renV ps (killV st.F v)) d ef.v), D := ef.dead ++ st.D, F := ef.frz ++ st.F, ctr := st.ctr + 1, lo := st.lo, ps := st.ps }

theorem killV_junk {ty : Nat → Type} (F : List Nat) (ps : List (Nat × SlD ty)) : renV ps (killV F (junk : V ty)) = junk := rfl

theorem RS.appH {c : Ct cx.ty} {st : St cx.ty} {a : Act} (h : RS cx c st a) {d : Option Tmp} (hd : smallO d = true) (hlo : loO st.lo d = true) {ef : Eff cx.ty} {u : Value} {w' : World} {T' : List (Tk cx.ty)} {ps : List (Nat × SlD cx.ty)} (hg : GoodH cx c ef ps st.F (nmOf st.ctr d) u w' T') : RS cx (c.nx ef w' T') (st.appH d ef ps) (a.put d u) := by
  have hs : a.tmps.size = (st.slots.map fun v => renV ps (killV st.F v)).length := by rw [List.length_map]; exact h.size
  have hSk : ∀ b, c.S b → w'.heap[b]? = c.w.heap[b]? := fun b hb => hg.below.block b (h.wf.start b hb)
  have hpr : PrOK cx (c.nx ef w' T') st.ps := h.pr.keep rfl rfl hSk
  have hkp : ∀ p u', (p, u') ∈ (c.nx ef w' T').K → p < st.lo ∧ (a.put d u).tmps.getD p undef = u' := fun p u' hp => ⟨(h.kp p u' hp).1, (put_lo hlo u (h.kp p u' hp).1).trans (h.kp p u' hp).2⟩
  refine ⟨hg.wf, ?_, ?_, by rw [put_defers]; exact h.defers, fun n => ?_, fun n => ?_, fun n hn => ?_, hkp, hpr, PdOK.none⟩
  · show (a.put d u).tmps.size = (restP _ _).length
    rw [restP_length]
    exact put_size hs d ef.v u
  · show ∀ t, RepV cx _ ((restP _ _).getD t junk) _
    refine restP_rep _ _ (put_rep hs (fun t => ?_) d hg.rep) (fun p a' hp => ?_)
    · have : (st.slots.map fun v => renV ps (killV st.F v)).getD t junk = renV ps (killV st.F (st.slots.getD t junk)) := by
        by_cases hlt : t < st.slots.length
        · simp [List.getD, hlt]
        · simp [List.getD, List.getElem?_eq_none (Nat.le_of_not_lt hlt), killV_junk]
      rw [this]
      exact renHV_rep hg.ren (h.rep t)
    · obtain ⟨u', h1, h2⟩ := hpr p a' hp
      rw [(hkp p u' h1).2]
      exact PsO.repS hg.wf h2
  · simp [Ct.nx, St.appH, h.dead n]
  · simp [Ct.nx, St.appH, h.frz n]
  · rcases hg.names n hn with hn | hn
    · exact Nat.lt_of_lt_of_le (h.names n hn) (Nat.mul_le_mul_right _ (Nat.le_succ _))
    · exact band_lt hd hn
end
end Go.VM
namespace Go.VM
open Go.RowKit
section
variable {cx : Cx} {P : Program}

/-! ### Calls that are handed a pointer to a box, with the rows that it bears: all come back -/
def evCallQ {β : Type} (P : Program) (f : FuncId) (W : WFn cx) (st : St cx.ty) (d : Option Tmp) (args : List Operand) (ts : List TypeId) (k : St cx.ty → Option β) : Option β := none
theorem evCallQ_ok (ok : cx.Ok) {β : Type} {o : Oper} {st : St cx.ty} {d : Option Tmp} {f : FuncId} {args : Array Operand} {ts : Array TypeId} {W : WFn cx} (hK : SatQ P cx f W.nres W.F W.bx)
    (ho : o.op = .call { callee := .value (.func f), args := args, argTypes := ts }) {c : Ct cx.ty} {a : Act} (h : RS cx c st a) (hsm : smallO d = true) (hlo : loO st.lo d = true) {k : St cx.ty → Option β} {r : β}
    (he : evCallQ P f W st d args.toList ts.toList k = some r) : Runs P o a.eval c.w (fun u w' => ∃ c' st', k st' = some r ∧ RS cx c' st' (a.put d u) ∧ c'.w = w' ∧ c'.S = c.S ∧ c'.N = c.N ∧ c'.K = c.K ∧ Kept c.N c.w w') := by
  unfold evCallQ at he
  cases he
end
end Go.VM
namespace Go.VM
open Go.RowKit
section
variable {cx : Cx} {P : Program}

/-! ### Calls that take rows over -/
def evCallI {β : Type} (P : Program) (f : FuncId) (W : WFn cx) (st : St cx.ty) (d : Option Tmp) (args : List Operand) (ts : List TypeId) (k : St cx.ty → Option β) : Option β := none
theorem evCallI_ok (ok : cx.Ok) {β : Type} {o : Oper} {st : St cx.ty} {d : Option Tmp} {f : FuncId} {args : Array Operand} {ts : Array TypeId} {W : WFn cx} (hK : SatI P cx f W.nres W.F)
    (ho : o.op = .call { callee := .value (.func f), args := args, argTypes := ts }) {c : Ct cx.ty} {a : Act} (h : RS cx c st a) (hsm : smallO d = true) (hlo : loO st.lo d = true) {k : St cx.ty → Option β} {r : β}
    (he : evCallI P f W st d args.toList ts.toList k = some r) : Runs P o a.eval c.w (fun u w' => ∃ c' st', k st' = some r ∧ RS cx c' st' (a.put d u) ∧ c'.w = w' ∧ c'.S = c.S ∧ c'.N = c.N ∧ c'.K = c.K ∧ Kept c.N c.w w') := by
  unfold evCallI at he
  cases he
end
end Go.VM

namespace Go.VM
open Go.RowKit
section
variable {cx : Cx} {P : Program}

/-! ### Stores of plain values into rows of rows -/
def scL {ty : Nat → Type} : L ty → Bool
  | some (.inl _) => true
  | _ => false

/-- What a store of plain values into a row of rows leaves. -/
def stN (P : Program) (st : St cx.ty) (t : TypeId) (a x : Operand) : Option (St cx.ty) :=
  match getV st.slots a, cellsV (getV st.slots x) with
  | .inr (.inr p), some l =>
    if p.kind == 1 && p.s.o && p.s.own == 1 && p.s.nm == p.nm && !st.D.contains p.nm && !st.F.contains p.nm && l.all valOk && (P.underlying t).isSome && l.length == P.cellsOf t && decide (p.off + l.length ≤ cx.size p.s.e) && (((cx.enc p.s.e true (p.s.xs.getD p.i (cx.dflt p.s.e))).drop p.off).take l.length).all scL then
      match cx.dec p.s.e (splice (cx.enc p.s.e true (p.s.xs.getD p.i (cx.dflt p.s.e))) p.off l) with
      | some x' => some { st with slots := st.slots.map (updEV p.nm { p.s with xs := setE cx p.s.e p.s.xs p.i p.off l x' }), pend := none }
      | none => none
    else none
  | _, _ => none

theorem stN_ok (ok : cx.Ok) {o : Oper} {t : TypeId} {a x : Operand} (ho : o.op = .store t a x) {st st' : St cx.ty} (hst : stN P st t a x = some st') {c : Ct cx.ty} {act : Act} (h : RS cx c st act) :
    ∃ w' T', (execOp act.eval o).run P c.w = .ok .skip w' ∧ RS cx { c with T := T', w := w' } st' act ∧ Kept c.N c.w w' := by
  unfold stN at hst
  split at hst
  · rename_i p l hp hl
    split at hst
    · rename_i hc
      simp only [Bool.and_eq_true, beq_iff_eq, decide_eq_true_eq, Bool.not_eq_true'] at hc
      obtain ⟨⟨⟨⟨⟨⟨⟨⟨⟨⟨hk, hso⟩, hown⟩, hsn⟩, hnD⟩, hnF⟩, hlo⟩, hund⟩, hsz⟩, hoff⟩, hscl⟩ := hc
      split at hst
      · rename_i x' hdec
        simp only [Option.some.injEq] at hst
        subst hst
        obtain ⟨d, hd⟩ := Option.isSome_iff_exists.1 hund
        have hnD : p.nm ∉ c.D := by rw [h.dead]; simpa using hnD
        have hnF : p.nm ∉ c.F := by rw [h.frz]; simpa using hnF
        have hra := eval_rep h.rep a
        rw [hp] at hra
        have hra : RepP cx c p (act.eval a) := hra
        unfold RepP at hra
        simp only [hk, hnD, hnF, if_false] at hra
        obtain ⟨tk, ht, hn, hcc, hi, g, n0, cap0, hu, hpa⟩ := hra
        rw [setE_eq hi hdec]
        have htr := h.wf.rep tk ht
        unfold TokRep at htr
        rw [hcc] at htr
        simp only [hso, if_true] at htr
        obtain ⟨hvb, nn, htr⟩ := htr
        obtain ⟨nn, rfl⟩ : ∃ m, nn = m + 1 := by
          cases nn with
          | zero => simp [OwnL] at htr
          | succ m => exact ⟨m, rfl⟩
        obtain ⟨us, fpl, hrow, hfp, hul, hfl, hown1⟩ := htr
        obtain ⟨hrl, hrow⟩ := hrow
        have hfp0 : tk.fp = List.flatten fpl := by
          rw [hvb] at hfp
          exact List.append_cancel_left hfp
        rcases hrow with ⟨hbad, _⟩ | ⟨g', cap, cur, hu', hg0, hh, hncap, hcapm, hcur, htake⟩
        · rw [hu] at hbad; simp at hbad
        rw [hu] at hu'
        simp only [Value.slice.injEq, Option.some.injEq, Addr.mk.injEq] at hu'
        obtain ⟨⟨rfl, _⟩, rfl, rfl⟩ := hu'
        have hcv := cellsV_rep (eval_rep h.rep x) hl
        have hlen : (act.eval x).cells.toList.length = l.length := hcv.1
        have hlv : l = (act.eval x).cells.toList.map lv := by
          apply List.ext_getElem?
          intro j
          rw [List.getElem?_map]
          cases e1 : l[j]? with
          | none =>
            have : l.length ≤ j := List.getElem?_eq_none_iff.1 e1
            rw [List.getElem?_eq_none (by omega)]; rfl
          | some q =>
            have hj : j < l.length := (List.getElem?_eq_some_iff.1 e1).1
            rw [List.getElem?_eq_getElem (by omega)]
            have hq := List.all_eq_true.1 hlo q (List.mem_of_getElem? e1)
            have := hcv.2 j q _ e1 (List.getElem?_eq_getElem (by omega))
            match q, hq, this with
            | some (.inl v), hq, this =>
              have this : _ = v := this
              rw [this]; rfl
        have hone : ∀ v ∈ (act.eval x).cells.toList, v.oneCell' = true := by
          intro v hv
          have hm : lv v ∈ l := by rw [hlv]; exact List.mem_map.2 ⟨v, hv, rfl⟩
          have hq := List.all_eq_true.1 hlo _ hm
          cases v <;> first | rfl | (simp [lv, valOk] at hq)
        -- the element
        have hxi : p.s.xs[p.i]? = some (p.s.xs.getD p.i (cx.dflt p.s.e)) := by
          rw [List.getElem?_eq_getElem hi]; simp [List.getD, hi]
        have henc : cx.enc p.s.e true x' = splice (cx.enc p.s.e true (p.s.xs.getD p.i (cx.dflt p.s.e))) p.off l := by
          rw [← ok.dec _ _ _ true hdec, splice_map, ok.weak, hlv, List.map_map]
          rfl
        have hset := flat_set (cx.enc p.s.e true) (cx.size p.s.e) (fun x => ok.len p.s.e true x) p.s.xs p.i _ x' hxi p.off l hoff henc
        have hmul : (p.i + 1) * cx.size p.s.e ≤ p.s.xs.length * cx.size p.s.e := Nat.mul_le_mul_right _ hi
        have hmul2 : p.s.xs.length * cx.size p.s.e ≤ cap0 * cx.size p.s.e := Nat.mul_le_mul_right _ hncap
        rw [Nat.add_mul, Nat.one_mul] at hmul
        have hfit : p.i * cx.size p.s.e + p.off + (act.eval x).cells.toList.length ≤ cur.toList.length := by
          have : cur.toList.length = cur.size := by simp
          omega
        have hstore := run_storeCells_at P g (p.i * cx.size p.s.e + p.off) p.s.e (act.eval x).cells.toList 0 cur c.w hh (by omega) hone
        simp only [Nat.add_zero] at hstore
        have hrun : (execOp act.eval o).run P c.w = .ok .skip (c.w.setRow g (splice cur.toList (p.i * cx.size p.s.e + p.off) (act.eval x).cells.toList).toArray) := by
          have hsize : (act.eval x).cells.size = P.cellsOf t := by rw [← hsz, ← hlen]; simp
          unfold execOp
          simp only [ho, Instr.storeAt, Instr.sureAddr, hpa, storeVar, Sem.run_bind, Sem.run_pure, Result.andThen_ok, run_sizeOf' hd, hsize, ne_eq, not_true_eq_false, if_false]
          unfold splice
          rw [hstore]
          rfl
        generalize hW : c.w.setRow g (splice cur.toList (p.i * cx.size p.s.e + p.off) (act.eval x).cells.toList).toArray = w' at hrun
        have hheap : ∀ k, k ≠ g → w'.heap[k]? = c.w.heap[k]? := fun k hk => by rw [← hW]; exact setRow_other c.w g k _ hk
        have hsame : w'.heap.size = c.w.heap.size := by rw [← hW]; simp [World.setRow]
        have hnewrow : w'.heap[g]? = some (.cells (splice cur.toList (p.i * cx.size p.s.e + p.off) (act.eval x).cells.toList).toArray p.s.e (0, 0)) := by rw [← hW]; exact setRow_heap c.w g cur _ _ _ hh
        have hg : g ∈ vb tk.u := by rw [hu]; simp [vb]
        have hgb := h.wf.bound tk ht g (List.mem_append.2 (.inl hg))
        generalize hs' : ({ p.s with xs := p.s.xs.set p.i x' } : SlD cx.ty) = s'
        have hs'own : s'.own = 1 := by rw [← hs']; exact hown
        have hs'nm : s'.nm = p.nm := by rw [← hs']; exact hsn
        have hs'o : s'.o = true := by rw [← hs']; exact hso
        have huniq : ∀ t2 ∈ c.T, t2.nm = p.nm → t2 = tk := by
          intro t2 ht2 hn2
          have hnd := h.wf.names
          rcases Classical.em (t2 = tk) with h | h
          · exact h
          · exfalso
            obtain ⟨l1, l2, hl⟩ := List.append_of_mem ht
            rw [hl] at hnd ht2
            rw [List.map_append, List.map_cons, List.nodup_append] at hnd
            rcases List.mem_append.1 ht2 with h3 | h3
            · exact hnd.2.2 t2.nm (List.mem_map.2 ⟨t2, h3, rfl⟩) tk.nm (List.mem_cons_self ..) (by rw [hn2, hn])
            · rcases List.mem_cons.1 h3 with h3 | h3
              · exact h h3
              · exact (List.nodup_cons.1 hnd.2.1).1 (List.mem_map.2 ⟨t2, h3, by rw [hn2, hn]⟩)
        let up : Tk cx.ty → Tk cx.ty := fun t2 => match t2.c with
          | .inl _ => if t2.nm = p.nm then { t2 with c := .inl s' } else t2
          | .inr cells => { t2 with c := .inr (cells.map (updEL p.nm s')) }
        have upnm : ∀ t2, (up t2).nm = t2.nm := fun t2 => by simp only [up]; split <;> (try split) <;> rfl
        have upu : ∀ t2, (up t2).u = t2.u := fun t2 => by simp only [up]; split <;> (try split) <;> rfl
        have upfp : ∀ t2, (up t2).fp = t2.fp := fun t2 => by simp only [up]; split <;> (try split) <;> rfl
        have upl : ∀ t2 s, t2.c = .inl s → t2.nm ≠ p.nm → up t2 = t2 := fun t2 s e hne => by simp only [up]; rw [e]; simp only; rw [if_neg hne]
        have up0 : up tk = { tk with c := .inl s' } := by simp only [up]; rw [hcc]; simp only; rw [if_pos hn]
        have hrd : ∀ b, Rd c b → Rd { c with T := c.T.map up, w := w' } b ∧ w'.heap[b]? = c.w.heap[b]? := by
          intro b hb
          have hbg : b ≠ g := fun e => hb.2.2 tk ht (e ▸ hg)
          refine ⟨⟨Nat.lt_of_lt_of_eq hb.1 hsame.symm, hb.2.1, fun t2 ht2 => ?_⟩, hheap b hbg⟩
          obtain ⟨t3, h3, rfl⟩ := List.mem_map.1 ht2
          rw [upu]
          exact hb.2.2 t3 h3
        have hleaf : ∀ (q : L cx.ty) (u : Value), RepLS cx c q u → RepLS cx { c with T := c.T.map up, w := w' } (updEL p.nm s' q) u := fun q u hq =>
          stE_leaf (s := p.s) hs'own hs'nm hnD hnF hrd ht hn hcc huniq (List.mem_map.2 ⟨tk, ht, up0⟩) (fun t2 h2 hne s hs => List.mem_map.2 ⟨t2, h2, upl t2 s hs hne⟩) hq
        have hagg : ∀ (q : A cx.ty) (u : Value), RepA cx c q u → RepA cx { c with T := c.T.map up, w := w' } (updEA p.nm s' q) u := by
          intro q u hq
          match q, hq with
          | .inl q, hq => exact hleaf q u hq
          | .inr q, ⟨us, hu, hq⟩ => exact ⟨us, hu, hq.mapE hleaf⟩
        have hel : ∀ {s : SlD cx.ty} {i b o : Nat}, RepEl cx c s i b o → RepEl cx { c with T := c.T.map up, w := w' } s i b o := by
          rintro s i b o ⟨hb, y, hy, n, hr⟩
          refine ⟨(hrd b hb).1, y, hy, n, fun j q hq => ?_⟩
          obtain ⟨v, hv, hr⟩ := hr j q hq
          exact ⟨v, by rw [World.cell?_of_block (hrd b hb).2]; exact hv, RepL_mono cx (fun b hb => (hrd b hb).2) (fun b hb => (hrd b hb).1) _ _ _ hr⟩
        have hval : ∀ (q : V cx.ty) (u : Value), RepV cx c q u → RepV cx { c with T := c.T.map up, w := w' } (updEV p.nm s' q) u := by
          intro q u hq
          match q, hq with
          | .inl q, hq => exact hagg q u hq
          | .inr (.inl q), ⟨us, hu, h1, h2⟩ =>
            refine ⟨us, hu, by rw [List.length_map]; exact h1, fun j a b e1 e2 => ?_⟩
            rw [List.getElem?_map] at e1
            cases e0 : q[j]? with
            | none => rw [e0] at e1; simp at e1
            | some a0 =>
              rw [e0] at e1
              simp only [Option.map_some, Option.some.injEq] at e1
              subst e1
              exact hagg _ _ (h2 j a0 b e0 e2)
          | .inr (.inr q), hq =>
            have hq : RepP cx c q u := hq
            unfold RepP at hq
            simp only [updEV]
            split at hq
            · rename_i hk0
              obtain ⟨t2, k1, k2, k3, g2, k4, k5⟩ := hq
              simp only [hk0]
              show RepP cx { c with T := c.T.map up, w := w' } { q with kind := 0, cells := q.cells.map (updEL p.nm s') } u
              unfold RepP
              simp only
              exact ⟨up t2, List.mem_map.2 ⟨t2, k1, rfl⟩, by rw [upnm]; exact k2, by simp only [up]; rw [k3], g2, by rw [upu]; exact k4, k5⟩
            · rename_i hk1
              simp only [hk1]
              by_cases hne : q.nm = p.nm
              · rw [if_pos (by simp [hne])]
                show RepP cx { c with T := c.T.map up, w := w' } { q with kind := 1, s := s' } u
                unfold RepP
                simp only [hne, hnD, hnF, if_false] at hq ⊢
                obtain ⟨t2, k1, k2, k3, k4, g2, n2, cap2, k5, k6⟩ := hq
                have e2 := huniq t2 k1 k2
                subst e2
                have hqs : q.s = p.s := by
                  rw [hcc] at k3
                  exact (Sum.inl.inj k3).symm
                refine ⟨up t2, List.mem_map.2 ⟨t2, k1, rfl⟩, by rw [upnm]; exact k2, by rw [up0], ?_, g2, n2, cap2, by rw [upu]; exact k5, ?_⟩
                · rw [← hs']; simp only [List.length_set]; rw [← hqs]; exact k4
                · rw [← hs']; simp only; rw [← hqs]; exact k6
              · rw [if_neg (by simp [hne])]
                show RepP cx { c with T := c.T.map up, w := w' } q u
                unfold RepP
                simp only [hk1] at hq ⊢
                split at hq
                · rename_i hd'; rw [if_pos hd']; trivial
                · rename_i hd'
                  rw [if_neg hd']
                  split at hq
                  · rename_i hf'
                    rw [if_pos hf']
                    obtain ⟨b, o, hu, hr⟩ := hq
                    exact ⟨b, o, hu, hel hr⟩
                  · rename_i hf'
                    rw [if_neg hf']
                    obtain ⟨t2, k1, k2, k3, k4⟩ := hq
                    exact ⟨t2, List.mem_map.2 ⟨t2, k1, upl t2 _ k3 (by rw [k2]; exact hne)⟩, k2, k3, k4⟩
            · rename_i hk2
              simp only [hk2]
              show RepP cx { c with T := c.T.map up, w := w' } q u
              unfold RepP
              simp only [hk2]
              obtain ⟨b, o, hu, hr⟩ := hq
              exact ⟨b, o, hu, hel hr⟩
            · rename_i k0 k1 k2
              have : updEV p.nm s' (.inr (.inr q) : V cx.ty) = .inr (.inr q) := by
                unfold updEV
                simp only
              show RepV cx { c with T := c.T.map up, w := w' } (updEV p.nm s' (.inr (.inr q))) u
              rw [this]
              show RepP cx { c with T := c.T.map up, w := w' } q u
              unfold RepP
              split <;> first | trivial | (rename_i hh; first | exact (k0 hh).elim | exact (k1 hh).elim | exact (k2 hh).elim)
        refine ⟨w', c.T.map up, hrun, ⟨⟨?_, ?_, ?_, ?_, h.wf.start, ?_, ?_⟩, by simp [h.size], fun t2 => ?_, h.defers, h.dead, h.frz, fun n hn' => ?_, h.kp, h.pr.keep rfl rfl (fun b hb => (hrd b (h.wf.rdS hb)).2), PdOK.none⟩, ?_⟩
        · show ((c.T.map up).map (·.nm)).Nodup
          rw [List.map_map]
          have : ((fun t2 : Tk cx.ty => t2.nm) ∘ up) = fun t2 => t2.nm := funext upnm
          rw [this]; exact h.wf.names
        · show ((c.T.map up).flatMap _).Nodup
          rw [List.flatMap_map]
          have : (fun t2 => vb (up t2).u ++ (up t2).fp) = fun t2 : Tk cx.ty => vb t2.u ++ t2.fp := funext fun t2 => by rw [upu, upfp]
          rw [this]; exact h.wf.nodup
        · intro t2 ht2 b hb
          obtain ⟨t3, h3, rfl⟩ := List.mem_map.1 ht2
          rw [upu, upfp] at hb
          have := h.wf.bound t3 h3 b hb
          exact ⟨this.1, Nat.lt_of_lt_of_eq this.2 hsame.symm⟩
        · intro t2 ht2
          obtain ⟨t3, h3, rfl⟩ := List.mem_map.1 ht2
          have hold := h.wf.rep t3 h3
          by_cases hn3 : t3.nm = p.nm
          · have e3 := huniq t3 h3 hn3
            subst e3
            rw [up0]
            unfold TokRep
            simp only [hs'o, if_true]
            have hlenE : (p.s.xs.flatMap (cx.enc p.s.e true)).length = p.s.xs.length * cx.size p.s.e := flat_len _ _ (fun x => ok.len p.s.e true x) _
            have husl : us.length = p.s.xs.length * cx.size p.s.e := by rw [hul, hlenE]
            have hfit2 : p.i * cx.size p.s.e + p.off + (act.eval x).cells.toList.length ≤ us.length := by omega
            have hll : (act.eval x).cells.toList.length = l.length := hlen
            have hgf : ∀ f ∈ fpl, g ∉ f := fun f hf hg2 => by
              have hnd := h.wf.nodup
              obtain ⟨l1, l2, hl2⟩ := List.append_of_mem ht
              rw [hl2] at hnd
              simp only [List.flatMap_append, List.flatMap_cons] at hnd
              have := (List.nodup_append.1 (List.nodup_append.1 hnd).2.1).1
              rw [hfp0] at this
              exact (List.nodup_append.1 this).2.2 g hg g (List.mem_flatten.2 ⟨f, hf, hg2⟩) rfl
            refine ⟨hvb, nn + 1, splice us (p.i * cx.size p.s.e + p.off) (act.eval x).cells.toList, fpl, ?_, by rw [← hvb, hfp0], ?_, by rw [splice_len hfit2]; exact hfl, fun j q v f e1 e2 e3 => ?_⟩
            · rw [← hs']
              simp only [List.length_set]
              refine ⟨by rw [splice_len hfit2]; exact hrl, .inr ⟨g, cap0, _, hu, Nat.zero_le _, hnewrow, hncap, hcapm, ?_, ?_⟩⟩
              · simp only [List.size_toArray]
                rw [splice_len hfit]
                simpa using hcur
              · simp only
                rw [splice_take cur.toList (act.eval x).cells.toList (p.i * cx.size p.s.e + p.off) _ (by omega) hfit, htake]
            · rw [splice_len hfit2, ← hs']
              simp only
              rw [hul, flat_len _ _ (fun x => ok.len p.s.e true x), flat_len _ _ (fun x => ok.len p.s.e true x), List.length_set]
            · rw [← hs'] at e1
              simp only at e1
              rw [hset, splice_get (by rw [hlenE]; omega)] at e1
              rw [splice_get hfit2] at e2
              rw [hll] at e2
              by_cases hr : p.i * cx.size p.s.e + p.off ≤ j ∧ j < p.i * cx.size p.s.e + p.off + l.length
              · rw [if_pos hr] at e1 e2
                rw [hlv, List.getElem?_map, e2] at e1
                simp only [Option.map_some, Option.some.injEq] at e1
                have hold0 : (p.s.xs.flatMap (cx.enc p.s.e true))[j]? = (cx.enc p.s.e true (p.s.xs.getD p.i (cx.dflt p.s.e)))[j - p.i * cx.size p.s.e]? := by
                  have := flat_get (cx.enc p.s.e true) (cx.size p.s.e) (fun x => ok.len p.s.e true x) p.s.xs p.i _ hxi (j - p.i * cx.size p.s.e) (by omega)
                  rw [show p.i * cx.size p.s.e + (j - p.i * cx.size p.s.e) = j by omega] at this
                  exact this
                have hjl : j - p.i * cx.size p.s.e < (cx.enc p.s.e true (p.s.xs.getD p.i (cx.dflt p.s.e))).length := by rw [ok.len]; omega
                have hq0 := List.all_eq_true.1 hscl ((cx.enc p.s.e true (p.s.xs.getD p.i (cx.dflt p.s.e)))[j - p.i * cx.size p.s.e]) (by
                  refine List.mem_iff_getElem?.2 ⟨j - (p.i * cx.size p.s.e + p.off), ?_⟩
                  rw [List.getElem?_take, if_pos (by omega), List.getElem?_drop, show p.off + (j - (p.i * cx.size p.s.e + p.off)) = j - p.i * cx.size p.s.e by omega, List.getElem?_eq_getElem hjl])
                rw [List.getElem?_eq_getElem hjl] at hold0
                have hju : j < us.length := by omega
                have hof := hown1 j _ us[j] f hold0 (List.getElem?_eq_getElem hju) e3
                have hf0 : f = [] := by
                  revert hq0 hof
                  generalize (cx.enc p.s.e true (p.s.xs.getD p.i (cx.dflt p.s.e)))[j - p.i * cx.size p.s.e] = q0
                  intro hq0 hof
                  match q0, hq0 with
                  | some (.inl v0), _ => cases nn <;> exact (by simpa [OwnL] using hof : us[j] = v0 ∧ f = []).2
                subst hf0
                subst e1
                cases nn <;> simp [OwnL, lv]
              · rw [if_neg hr] at e1 e2
                exact OwnL_mono cx nn q v f (fun b hb => hheap b (fun e => hgf f (List.mem_of_getElem? e3) (e ▸ hb))) (hown1 j q v f e1 e2 e3)
          · have hblk : ∀ b ∈ vb t3.u ++ t3.fp, w'.heap[b]? = c.w.heap[b]? := fun b hb => hheap b (fun e => disjoint_toks h.wf h3 ht (fun e2 => hn3 (by rw [e2, hn])) hb (by rw [e]; exact List.mem_append.2 (.inl hg)))
            unfold TokRep at hold
            split at hold
            · rename_i s hs
              rw [upl t3 s hs hn3]
              unfold TokRep
              rw [hs]
              simp only
              obtain ⟨hv, hold⟩ := hold
              refine ⟨hv, ?_⟩
              split at hold
              · rename_i hso2
                rw [if_pos hso2]
                obtain ⟨n, hold⟩ := hold
                exact ⟨n, OwnL_mono cx n _ _ _ hblk hold⟩
              · rename_i hso2
                rw [if_neg hso2]
                obtain ⟨hf, us, n, hrow, hl2, hr⟩ := hold
                refine ⟨hf, us, n, ?_, hl2, fun j l v h1 h2 => RepL_mono cx (fun b hb => (hrd b hb).2) (fun b hb => (hrd b hb).1) n l v (hr j l v h1 h2)⟩
                obtain ⟨hx, hcx⟩ := hrow
                refine ⟨hx, ?_⟩
                rcases hcx with hcx | ⟨g2, cap2, cur2, hv', hg2, hh2, hrest⟩
                · exact .inl hcx
                · refine .inr ⟨g2, cap2, cur2, hv', hg2, ?_, hrest⟩
                  rw [hblk g2 (by rw [hv']; simp [vb])]
                  exact hh2
            · rename_i cells hs
              obtain ⟨hf, g2, cur2, e2, hu2, hh2, hr⟩ := hold
              have hup : up t3 = { t3 with c := .inr (cells.map (updEL p.nm s')) } := by simp only [up]; rw [hs]
              rw [hup]
              unfold TokRep
              refine ⟨hf, g2, cur2, e2, hu2, ?_, hr.mapE hleaf⟩
              rw [hblk g2 (by rw [hu2]; simp [vb])]
              exact hh2
        · intro t2 ht2
          obtain ⟨t3, h3, rfl⟩ := List.mem_map.1 ht2
          rw [upnm]
          exact h.wf.live t3 h3
        · exact fun b hb => h.wf.size b (Nat.le_trans (Nat.le_of_eq hsame.symm) hb)
        · have : (st.slots.map (updEV p.nm s')).getD t2 junk = updEV p.nm s' (st.slots.getD t2 junk) := by
            by_cases hlt : t2 < st.slots.length
            · simp [List.getD, hlt]
            · simp [List.getD, List.getElem?_eq_none (Nat.le_of_not_lt hlt), junk, updEV, updEA, updEL]
          show RepV cx _ ((st.slots.map (updEV p.nm s')).getD t2 junk) _
          rw [this]
          exact hval _ _ (h.rep t2)
        · rcases hn' with ⟨t2, ht2, rfl⟩ | hn' | hn'
          · obtain ⟨t3, h3, rfl⟩ := List.mem_map.1 ht2
            rw [upnm]
            exact h.names _ (.inl ⟨t3, h3, rfl⟩)
          · exact h.names _ (.inr (.inl hn'))
          · exact h.names _ (.inr (.inr hn'))
        · exact ⟨by rw [← hW]; rfl, by rw [← hW]; rfl, by rw [← hW]; rfl, by rw [hsame]; exact Nat.le_refl _, fun k hk => hheap k (fun e => hk (e ▸ hgb.1))⟩
      · simp at hst
    · simp at hst
  · simp at hst
end
end Go.VM
namespace Go.VM
open Go.RowKit
section
variable {cx : Cx} {P : Program}

/-! ### make of things that hold rows -/
theorem own_nil {w : World} {s : SlD cx.ty} (h : s.xs = []) (n : Nat) : OwnL cx w (n + 1) (some (.inr s)) (.slice none 0 0) [] := by
  refine ⟨[], [], ⟨by simp [h], .inl ⟨rfl, by simp [h]⟩⟩, rfl, by simp [h], rfl, fun j l c f h1 h2 h3 => by simp at h2⟩

def zeroLf {ty : Nat → Type} (l : L ty) (v : Value) : Bool :=
  match l, v with
  | some (.inr s), .slice none 0 0 => s.xs.isEmpty
  | some (.inl (.int k x)), .int k' y => decide (k = k') && decide (x = y)
  | some (.inl (.bool x)), .bool y => x == y
  | some (.inl (.string x)), .string y => decide (x = y)
  | _, _ => false

theorem zeroLf_own {w : World} {l : L cx.ty} {v : Value} (h : zeroLf l v = true) : OwnL cx w 1 l v [] ∧ v.oneCell' = true := by
  unfold zeroLf at h
  split at h
  · exact ⟨own_nil (by simpa using h) 0, rfl⟩
  · simp only [Bool.and_eq_true, decide_eq_true_eq] at h
    obtain ⟨rfl, rfl⟩ := h
    exact ⟨⟨rfl, rfl⟩, rfl⟩
  · have h := eq_of_beq h
    subst h
    exact ⟨⟨rfl, rfl⟩, rfl⟩
  · have h := of_decide_eq_true h
    subst h
    exact ⟨⟨rfl, rfl⟩, rfl⟩
  · simp at h

def zeroAll {ty : Nat → Type} : List (L ty) → List Value → Bool
  | [], [] => true
  | l :: ls, v :: vs => zeroLf l v && zeroAll ls vs
  | _, _ => false

theorem zeroAll_get {ls : List (L cx.ty)} {vs : List Value} (h : zeroAll ls vs = true) : ∀ {j : Nat} {l : L cx.ty} {v : Value}, ls[j]? = some l → vs[j]? = some v → zeroLf l v = true := by
  induction ls generalizing vs with
  | nil => intro j l v h1 _; simp at h1
  | cons a r ih =>
    intro j l v h1 h2
    cases vs with
    | nil => simp at h2
    | cons b q =>
      simp only [zeroAll, Bool.and_eq_true] at h
      cases j with
      | zero =>
        simp only [List.getElem?_cons_zero, Option.some.injEq] at h1 h2
        subst h1; subst h2
        exact h.1
      | succ j => exact ih h.2 h1 h2

def evMakeN {β : Type} (P : Program) (cx : Cx) (slots : List (V cx.ty)) (t : TypeId) (lo co : Operand) (nm0 : Nat) (k : Eff cx.ty → Option β) : Option β :=
  match getV slots lo, getV slots co, sliceElem P t with
  | .inl (.inl (some (.inl (.int _ l)))), .inl (.inl (some (.inl (.int _ c)))), some e =>
    match P.info? e with
    | some i => match i.zero with
      | some z => if decide (i.size = cx.size e) && decide (i.bytes ≤ 100000) && decide (z.cells.size = cx.size e) && decide (0 < cx.size e) && zeroAll (cx.enc e true (cx.dflt e)) z.cells.toList then
          bif decide (0 ≤ l) && decide (l ≤ c) && decide (c ≤ 1000000000) then k (purR (tokV nm0 e (List.replicate l.toNat (cx.dflt e))) []) else none
        else none
      | none => none
    | none => none
  | _, _, _ => none

theorem flatMap_rep {α β : Type} (f : α → List β) (x : α) : ∀ n, (List.replicate n x).flatMap f = List.flatten (List.replicate n (f x))
  | 0 => rfl
  | n + 1 => by rw [List.replicate_succ, List.replicate_succ, List.flatten_cons, List.flatMap_cons, flatMap_rep f x n]

theorem evMakeN_ok (ok : cx.Ok) {β : Type} {o : Oper} {slots : List (V cx.ty)} {nm0 : Nat} {t : TypeId} {lo co : Operand} (ho : o.op = .makeSlice t lo co) {k : Eff cx.ty → Option β} {r : β}
    (h : evMakeN P cx slots t lo co nm0 k = some r) : ∃ ef, k ef = some r ∧ EffOK P cx o slots nm0 ef := by
  unfold evMakeN at h
  split at h
  · rename_i kl l kc cc e hl hc he
    split at h
    · rename_i i hi
      split at h
      · rename_i z hz
        split at h
        · rename_i hcd
          simp only [Bool.and_eq_true, decide_eq_true_eq] at hcd
          obtain ⟨⟨⟨⟨hsz, hby⟩, hzs⟩, hpos⟩, hzero⟩ := hcd
          cases hb : (decide (0 ≤ l) && decide (l ≤ cc) && decide (cc ≤ 1000000000)) with
          | false => rw [hb] at h; simp at h
          | true =>
            rw [hb] at h
            simp only [Bool.and_eq_true, decide_eq_true_eq] at hb
            obtain ⟨⟨h0, hlc⟩, hcm⟩ := hb
            refine ⟨_, h, ⟨fun c ρ hw hop _ _ hf => ?_⟩⟩
            have h1 := hop lo (by simp [ho, Op.operands]); rw [hl] at h1; have h1 : ρ lo = .int kl l := h1
            have h2 := hop co (by simp [ho, Op.operands]); rw [hc] at h2; have h2 : ρ co = .int kc cc := h2
            have hbytes : (i.bytes : Int) * cc ≤ 281474976710656 := by
              have a1 : (i.bytes : Int) * cc ≤ 100000 * cc := Int.mul_le_mul_of_nonneg_right (by omega) (by omega)
              omega
            have hrun0 := run_make (P := P) c.w t e i z (sliceElem_eq he) hi hz kl kc l cc h0 hlc hbytes (by omega)
            have hrun : (execOp ρ o).run P c.w = .ok (.value (.slice (some ⟨c.w.heap.size, 0, none⟩) l.toNat cc.toNat)) (c.w.alloc (.cells (madeCells z.cells (cc.toNat * i.size)) e)) := by
              unfold execOp
              simp only [ho, h1, h2, Sem.run_bind, hrun0, Result.andThen_ok, Sem.run_pure]
            unfold Runs
            rw [hrun]
            have htake : (madeCells z.cells (cc.toNat * i.size)).toList.take (l.toNat * cx.size e) = List.flatten (List.replicate l.toNat z.cells.toList) := by
              rw [hsz, ← hzs]
              exact made_take (by rw [hzs]; exact hpos) (by omega)
            have hflen : (List.flatten (List.replicate l.toNat z.cells.toList)).length = l.toNat * cx.size e := by
              simp [hzs]
            have hb := below_alloc c.w (.cells (madeCells z.cells (cc.toNat * i.size)) e)
            let tk0 : Tk cx.ty := { nm := nm0, u := .slice (some ⟨c.w.heap.size, 0, none⟩) l.toNat cc.toNat, fp := [], c := .inl { own := 1, nm := nm0, e := e, o := true, xs := List.replicate l.toNat (cx.dflt e) } }
            have hbd : ∀ tk ∈ [tk0], ∀ b ∈ vb tk.u ++ tk.fp, c.w.heap.size ≤ b ∧ b < (c.w.alloc (.cells (madeCells z.cells (cc.toNat * i.size)) e)).heap.size := by
              intro tk ht b hb'
              simp only [List.mem_singleton] at ht
              subst ht
              simp [vb, tk0] at hb'
              subst hb'
              simp
            refine ⟨[tk0] ++ c.T, good_add hw hb hw.size (by simp [tk0]) (by simp) (by simp [vb, tk0]) hbd hf (fun tk htk => ?_) ?_⟩
            · simp only [List.mem_singleton] at htk
              subst htk
              refine ⟨rfl, 2, List.flatten (List.replicate l.toNat z.cells.toList), List.replicate (l.toNat * cx.size e) [], ?_, ?_, ?_, by rw [hflen]; simp, fun j q v f e1 e2 e3 => ?_⟩
              · simp only [List.length_replicate]
                exact ⟨hflen, .inr ⟨c.w.heap.size, cc.toNat, _, rfl, Nat.zero_le _, heap_alloc_new c.w _, by omega, by simp [maxLen]; omega, by simp [size_madeCells, hsz], htake⟩⟩
              · have : List.flatten (List.replicate (l.toNat * cx.size e) ([] : List Nat)) = [] := by simp
                rw [this]; rfl
              · rw [hflen, flat_len _ _ (fun x => ok.len e true x)]; simp
              · have hf0 : f = [] := (List.mem_replicate.1 (List.mem_of_getElem? e3)).2
                subst hf0
                have hj : j < l.toNat * cx.size e := by
                  have := (List.getElem?_eq_some_iff.1 e2).1
                  omega
                have e1 : ((List.replicate l.toNat (cx.dflt e)).flatMap (cx.enc e true))[j]? = some q := e1
                rw [flatMap_rep, flatten_rep_get _ (by rw [ok.len]; exact hpos) _ _ (by rw [ok.len]; exact hj), ok.len] at e1
                rw [flatten_rep_get _ (by simpa [hzs] using hpos) _ _ (by simpa [hzs] using hj)] at e2
                have hzl : z.cells.toList.length = cx.size e := by simpa using hzs
                rw [hzl] at e2
                exact (zeroLf_own (zeroAll_get hzero e1 e2)).1
            · refine rep_tok (repLS_tok (s := { own := 1, nm := nm0, e := e, o := true, xs := List.replicate l.toNat (cx.dflt e) }) rfl ?_ ?_ (List.mem_append.2 (.inl (List.mem_singleton.2 rfl))) rfl rfl rfl ⟨_, _, _, rfl⟩)
              · exact fun hd => hf _ (.inr (.inl hd)) ⟨Nat.le_refl _, by show nm0 < nm0 + 64; omega⟩
              · exact fun hd => hf _ (.inr (.inr hd)) ⟨Nat.le_refl _, by show nm0 < nm0 + 64; omega⟩
        · simp at h
      · simp at h
    · simp at h
  · simp at h

def evMake2 {β : Type} (P : Program) (cx : Cx) (slots : List (V cx.ty)) (t : TypeId) (lo co : Operand) (nm0 : Nat) (k : Eff cx.ty → Option β) : Option β :=
  match sliceElem P t with
  | some e => if cx.flat e then evMake P cx slots t lo co nm0 k else evMakeN P cx slots t lo co nm0 k
  | none => none

theorem evMake2_ok (ok : cx.Ok) (hZ : cx.POk P) {β : Type} {o : Oper} {slots : List (V cx.ty)} {nm0 : Nat} {t : TypeId} {lo co : Operand} (ho : o.op = .makeSlice t lo co) {k : Eff cx.ty → Option β} {r : β}
    (h : evMake2 P cx slots t lo co nm0 k = some r) : ∃ ef, k ef = some r ∧ EffOK P cx o slots nm0 ef := by
  unfold evMake2 at h
  split at h
  · split at h
    · exact evMake_ok ok hZ ho h
    · exact evMakeN_ok ok ho h
  · simp at h
end
end Go.VM
namespace Go.VM
open Go.RowKit
section
variable {cx : Cx} {P : Program}

theorem flatten_splice_mem {α : Type} {a b : List (List α)} {k : Nat} {x : α} (h : x ∈ List.flatten (splice a k b)) : x ∈ List.flatten a ∨ x ∈ List.flatten b := by
  unfold splice at h
  rw [List.flatten_append, List.flatten_append] at h
  rcases List.mem_append.1 h with h | h
  · rcases List.mem_append.1 h with h | h
    · obtain ⟨l, h1, h2⟩ := List.mem_flatten.1 h
      exact .inl (List.mem_flatten.2 ⟨l, List.mem_of_mem_take h1, h2⟩)
    · exact .inr h
  · obtain ⟨l, h1, h2⟩ := List.mem_flatten.1 h
    exact .inl (List.mem_flatten.2 ⟨l, List.mem_of_mem_drop h1, h2⟩)

theorem flatten_splice_nodup {α : Type} {a b : List (List α)} {k : Nat} (ha : (List.flatten a).Nodup) (hb : (List.flatten b).Nodup) (hd : ∀ x ∈ List.flatten b, x ∉ List.flatten a) : (List.flatten (splice a k b)).Nodup := by
  unfold splice
  rw [List.flatten_append, List.flatten_append]
  have e : List.flatten a = List.flatten (a.take k) ++ List.flatten (a.drop k) := by rw [← List.flatten_append, List.take_append_drop]
  have hs : List.Sublist (List.flatten (a.drop (k + b.length))) (List.flatten (a.drop k)) := by
    have e2 : List.flatten (a.drop k) = List.flatten ((a.drop k).take b.length) ++ List.flatten ((a.drop k).drop b.length) := by rw [← List.flatten_append, List.take_append_drop]
    rw [e2, ← List.drop_drop]
    exact List.sublist_append_right _ _
  rw [e, List.nodup_append] at ha
  obtain ⟨h1, h2, h3⟩ := ha
  rw [List.nodup_append, List.nodup_append]
  refine ⟨⟨h1, hb, fun x hx y hy he => ?_⟩, hs.nodup h2, fun x hx y hy he => ?_⟩
  · subst he
    exact hd x hy (by rw [e]; exact List.mem_append.2 (.inl hx))
  · subst he
    rcases List.mem_append.1 hx with hx | hx
    · exact h3 x hx x (hs.mem hy) rfl
    · exact hd x hx (by rw [e]; exact List.mem_append.2 (.inr (hs.mem hy)))

theorem map_flatMap_same {up : Tk cx.ty → Tk cx.ty} : ∀ {T : List (Tk cx.ty)}, (∀ t ∈ T, blocks (up t) = blocks t) → (T.map up).flatMap blocks = T.flatMap blocks
  | [], _ => rfl
  | t :: r, h => by
    rw [List.map_cons, List.flatMap_cons, List.flatMap_cons, h t (List.mem_cons_self ..), map_flatMap_same (fun t ht => h t (List.mem_cons_of_mem _ ht))]

theorem nodup_swap {T : List (Tk cx.ty)} {tk : Tk cx.ty} (ht : tk ∈ T) (hnm : (T.map (·.nm)).Nodup) (h : (T.flatMap blocks).Nodup) {up : Tk cx.ty → Tk cx.ty} (hB : (blocks (up tk)).Nodup) (hsub : ∀ b ∈ blocks (up tk), b ∈ blocks tk ∨ ∀ t ∈ T, b ∉ blocks t)
    (hup : ∀ t ∈ T, t.nm ≠ tk.nm → blocks (up t) = blocks t) : ((T.map up).flatMap blocks).Nodup := by
  obtain ⟨l1, l2, rfl⟩ := List.append_of_mem ht
  rw [List.map_append, List.map_cons, List.nodup_append] at hnm
  have n1 : ∀ t ∈ l1, t.nm ≠ tk.nm := fun t h1 => hnm.2.2 _ (List.mem_map.2 ⟨t, h1, rfl⟩) _ (List.mem_cons_self ..)
  have n2 : ∀ t ∈ l2, t.nm ≠ tk.nm := fun t h1 he => (List.nodup_cons.1 hnm.2.1).1 (List.mem_map.2 ⟨t, h1, he⟩)
  rw [List.flatMap_append, List.flatMap_cons, List.nodup_append, List.nodup_append] at h
  obtain ⟨h1, ⟨h2, h3, h4⟩, h5⟩ := h
  have e1 : (l1.map up).flatMap blocks = l1.flatMap blocks := map_flatMap_same (fun t h => hup t (List.mem_append.2 (.inl h)) (n1 t h))
  have e2 : (l2.map up).flatMap blocks = l2.flatMap blocks := map_flatMap_same (fun t h => hup t (List.mem_append.2 (.inr (List.mem_cons_of_mem _ h))) (n2 t h))
  have hin1 : ∀ b ∈ l1.flatMap blocks, ∃ t ∈ l1, b ∈ blocks t := fun b hb => by obtain ⟨t, k1, k2⟩ := List.mem_flatMap.1 hb; exact ⟨t, k1, k2⟩
  have hin2 : ∀ b ∈ l2.flatMap blocks, ∃ t ∈ l2, b ∈ blocks t := fun b hb => by obtain ⟨t, k1, k2⟩ := List.mem_flatMap.1 hb; exact ⟨t, k1, k2⟩
  rw [List.map_append, List.map_cons, List.flatMap_append, List.flatMap_cons, e1, e2, List.nodup_append, List.nodup_append]
  refine ⟨h1, ⟨hB, h3, fun x hx y hy he => ?_⟩, fun x hx y hy he => ?_⟩
  · subst he
    rcases hsub x hx with k | k
    · exact h4 x k x hy rfl
    · obtain ⟨t, k1, k2⟩ := hin2 x hy
      exact k t (List.mem_append.2 (.inr (List.mem_cons_of_mem _ k1))) k2
  · subst he
    rcases List.mem_append.1 hy with hy | hy
    · rcases hsub x hy with k | k
      · exact h5 x hx x (List.mem_append.2 (.inl k)) rfl
      · obtain ⟨t, k1, k2⟩ := hin1 x hx
        exact k t (List.mem_append.2 (.inl k1)) k2
    · exact h5 x hx x (List.mem_append.2 (.inr hy)) rfl

theorem stE_leaf2 {c : Ct cx.ty} {T' : List (Tk cx.ty)} {w' : World} {nm : Nat} {s s' : SlD cx.ty} {tk0 : Tk cx.ty} (hown : s'.own = 1) (hsn : s'.nm = nm) (hD : nm ∉ c.D) (hF : nm ∉ c.F)
    (hrd : ∀ b, Rd c b → Rd { c with T := T', w := w' } b ∧ w'.heap[b]? = c.w.heap[b]?) (_h0 : tk0 ∈ c.T) (_hn0 : tk0.nm = nm) (_hc0 : tk0.c = .inl s) (huniq : ∀ t2 ∈ c.T, t2.nm = nm → t2 = tk0)
    {tkn : Tk cx.ty} (hnew : tkn ∈ T') (hnn : tkn.nm = nm) (hnc : tkn.c = .inl s') (hnu : tkn.u = tk0.u) (hkeep : ∀ t2 ∈ c.T, t2.nm ≠ nm → ∀ s, t2.c = .inl s → t2 ∈ T') {l : L cx.ty} {u : Value} (hl : RepLS cx c l u) : RepLS cx { c with T := T', w := w' } (updEL nm s' l) u := by
  match l, hl with
  | none, _ => trivial
  | some (.inl v), hl => exact hl
  | some (.inr q), hl =>
    simp only [updEL]
    by_cases h1 : q.own = 1
    · by_cases h2 : q.nm = nm
      · rw [if_pos (by simp [h1, h2])]
        unfold RepLS at hl ⊢
        simp only [h1, if_true, h2, hD, hF, if_false, hown, hsn] at hl ⊢
        obtain ⟨hsl, tk, k1, k2, k3, k4⟩ := hl
        refine ⟨hsl, ⟨_, hnew, hnn, hnc, ?_⟩⟩
        rw [hnu, ← huniq tk k1 k2]; exact k4
      · rw [if_neg (by simp [h2])]
        unfold RepLS at hl ⊢
        simp only [h1, if_true] at hl ⊢
        obtain ⟨hsl, hl⟩ := hl
        refine ⟨hsl, ?_⟩
        split at hl
        · rename_i hd; rw [if_pos hd]; trivial
        · rename_i hd
          rw [if_neg hd]
          split at hl
          · rename_i hf
            rw [if_pos hf]
            obtain ⟨n, hl⟩ := hl
            exact ⟨n, RepL_mono cx (fun b hb => (hrd b hb).2) (fun b hb => (hrd b hb).1) _ _ _ hl⟩
          · rename_i hf
            rw [if_neg hf]
            obtain ⟨tk, k1, k2, k3, k4⟩ := hl
            exact ⟨tk, hkeep tk k1 (by rw [k2]; exact h2) q k3, k2, k3, k4⟩
    · rw [if_neg (by simp [h1])]
      unfold RepLS at hl ⊢
      simp only [h1, if_false] at hl ⊢
      obtain ⟨n, hl⟩ := hl
      exact ⟨n, RepL_mono cx (fun b hb => (hrd b hb).2) (fun b hb => (hrd b hb).1) _ _ _ hl⟩

theorem stT_core (ok : cx.Ok) {o : Oper} {t : TypeId} {a x : Operand} (ho : o.op = .store t a x) {st : St cx.ty} {c : Ct cx.ty} {act : Act} (h : RS cx c st act)
    {p : Pt cx.ty} (hp : getV st.slots a = .inr (.inr p)) (hk : p.kind = 1) (hso : p.s.o = true) (hown : p.s.own = 1) (hsn : p.s.nm = p.nm) (hnD : p.nm ∉ c.D) (hnF : p.nm ∉ c.F) {d : TypeDesc} (hd : P.underlying t = some d)
    {lw : List (L cx.ty)} (hlen : (act.eval x).cells.toList.length = lw.length) (hsz : lw.length = P.cellsOf t) (hone : ∀ v ∈ (act.eval x).cells.toList, v.oneCell' = true) (hoff : p.off + lw.length ≤ cx.size p.s.e)
    {x' : cx.ty p.s.e} (henc : cx.enc p.s.e true x' = splice (cx.enc p.s.e true (p.s.xs.getD p.i (cx.dflt p.s.e))) p.off lw)
    {m0 : Nat} {fl : List (List Nat)} (hfll : fl.length = lw.length) (hleaf0 : ∀ (j : Nat) q v f, lw[j]? = some q → (act.eval x).cells.toList[j]? = some v → fl[j]? = some f → OwnL cx c.w m0 q v f)
    (hfln : (List.flatten fl).Nodup) (hflb : ∀ b ∈ List.flatten fl, c.N b ∧ b < c.w.heap.size ∧ ∀ tk ∈ c.T, b ∉ blocks tk) :
    ∃ w' T', (execOp act.eval o).run P c.w = .ok .skip w' ∧ RS cx { c with T := T', w := w' } { st with slots := st.slots.map (updEV p.nm { p.s with xs := p.s.xs.set p.i x' }), pend := none } act ∧ Kept c.N c.w w' := by
  have hra := eval_rep h.rep a
  rw [hp] at hra
  have hra : RepP cx c p (act.eval a) := hra
  unfold RepP at hra
  simp only [hk, hnD, hnF, if_false] at hra
  obtain ⟨tk, ht, hn, hcc, hi, g, n0, cap0, hu, hpa⟩ := hra
  have htr := h.wf.rep tk ht
  unfold TokRep at htr
  rw [hcc] at htr
  simp only [hso, if_true] at htr
  obtain ⟨hvb, nn, htr⟩ := htr
  obtain ⟨nn, rfl⟩ : ∃ m, nn = m + 1 := by
    cases nn with
    | zero => simp [OwnL] at htr
    | succ m => exact ⟨m, rfl⟩
  obtain ⟨us, fpl, hrow, hfp, hul, hfl, hown1⟩ := htr
  obtain ⟨hrl, hrow⟩ := hrow
  have hfp0 : tk.fp = List.flatten fpl := by
    rw [hvb] at hfp
    exact List.append_cancel_left hfp
  rcases hrow with ⟨hbad, _⟩ | ⟨g', cap, cur, hu', hg0, hh, hncap, hcapm, hcur, htake⟩
  · rw [hu] at hbad; simp at hbad
  rw [hu] at hu'
  simp only [Value.slice.injEq, Option.some.injEq, Addr.mk.injEq] at hu'
  obtain ⟨⟨rfl, _⟩, rfl, rfl⟩ := hu'
  -- the element
  have hxi : p.s.xs[p.i]? = some (p.s.xs.getD p.i (cx.dflt p.s.e)) := by
    rw [List.getElem?_eq_getElem hi]; simp [List.getD, hi]
  have hset := flat_set (cx.enc p.s.e true) (cx.size p.s.e) (fun x => ok.len p.s.e true x) p.s.xs p.i _ x' hxi p.off lw hoff henc
  have hmul : (p.i + 1) * cx.size p.s.e ≤ p.s.xs.length * cx.size p.s.e := Nat.mul_le_mul_right _ hi
  have hmul2 : p.s.xs.length * cx.size p.s.e ≤ cap0 * cx.size p.s.e := Nat.mul_le_mul_right _ hncap
  rw [Nat.add_mul, Nat.one_mul] at hmul
  have hfit : p.i * cx.size p.s.e + p.off + (act.eval x).cells.toList.length ≤ cur.toList.length := by
    have : cur.toList.length = cur.size := by simp
    omega
  have hstore := run_storeCells_at P g (p.i * cx.size p.s.e + p.off) p.s.e (act.eval x).cells.toList 0 cur c.w hh (by omega) hone
  simp only [Nat.add_zero] at hstore
  have hrun : (execOp act.eval o).run P c.w = .ok .skip (c.w.setRow g (splice cur.toList (p.i * cx.size p.s.e + p.off) (act.eval x).cells.toList).toArray) := by
    have hsize : (act.eval x).cells.size = P.cellsOf t := by rw [← hsz, ← hlen]; simp
    unfold execOp
    simp only [ho, Instr.storeAt, Instr.sureAddr, hpa, storeVar, Sem.run_bind, Sem.run_pure, Result.andThen_ok, run_sizeOf' hd, hsize, ne_eq, not_true_eq_false, if_false]
    unfold splice
    rw [hstore]
    rfl
  generalize hW : c.w.setRow g (splice cur.toList (p.i * cx.size p.s.e + p.off) (act.eval x).cells.toList).toArray = w' at hrun
  have hheap : ∀ k, k ≠ g → w'.heap[k]? = c.w.heap[k]? := fun k hk => by rw [← hW]; exact setRow_other c.w g k _ hk
  have hsame : w'.heap.size = c.w.heap.size := by rw [← hW]; simp [World.setRow]
  have hnewrow : w'.heap[g]? = some (.cells (splice cur.toList (p.i * cx.size p.s.e + p.off) (act.eval x).cells.toList).toArray p.s.e (0, 0)) := by rw [← hW]; exact setRow_heap c.w g cur _ _ _ hh
  have hg : g ∈ vb tk.u := by rw [hu]; simp [vb]
  have hgb := h.wf.bound tk ht g (List.mem_append.2 (.inl hg))
  generalize hs' : ({ p.s with xs := p.s.xs.set p.i x' } : SlD cx.ty) = s'
  have hs'own : s'.own = 1 := by rw [← hs']; exact hown
  have hs'nm : s'.nm = p.nm := by rw [← hs']; exact hsn
  have hs'o : s'.o = true := by rw [← hs']; exact hso
  have huniq : ∀ t2 ∈ c.T, t2.nm = p.nm → t2 = tk := by
    intro t2 ht2 hn2
    have hnd := h.wf.names
    rcases Classical.em (t2 = tk) with h | h
    · exact h
    · exfalso
      obtain ⟨l1, l2, hl⟩ := List.append_of_mem ht
      rw [hl] at hnd ht2
      rw [List.map_append, List.map_cons, List.nodup_append] at hnd
      rcases List.mem_append.1 ht2 with h3 | h3
      · exact hnd.2.2 t2.nm (List.mem_map.2 ⟨t2, h3, rfl⟩) tk.nm (List.mem_cons_self ..) (by rw [hn2, hn])
      · rcases List.mem_cons.1 h3 with h3 | h3
        · exact h h3
        · exact (List.nodup_cons.1 hnd.2.1).1 (List.mem_map.2 ⟨t2, h3, by rw [hn2, hn]⟩)
  generalize hfp' : splice fpl (p.i * cx.size p.s.e + p.off) fl = fpl'
  let up : Tk cx.ty → Tk cx.ty := fun t2 => match t2.c with
    | .inl _ => if t2.nm = p.nm then { t2 with c := .inl s', fp := List.flatten fpl' } else t2
    | .inr cells => { t2 with c := .inr (cells.map (updEL p.nm s')) }
  have upnm : ∀ t2, (up t2).nm = t2.nm := fun t2 => by simp only [up]; split <;> (try split) <;> rfl
  have upu : ∀ t2, (up t2).u = t2.u := fun t2 => by simp only [up]; split <;> (try split) <;> rfl
  have upfp : ∀ t2, t2.nm ≠ p.nm → (up t2).fp = t2.fp := fun t2 hne => by
    simp only [up]; split
    · rw [if_neg hne]
    · rfl
  have upl : ∀ t2 s, t2.c = .inl s → t2.nm ≠ p.nm → up t2 = t2 := fun t2 s e hne => by simp only [up]; rw [e]; simp only; rw [if_neg hne]
  have up0 : up tk = { tk with c := .inl s', fp := List.flatten fpl' } := by simp only [up]; rw [hcc]; simp only; rw [if_pos hn]
  have hrd : ∀ b, Rd c b → Rd { c with T := c.T.map up, w := w' } b ∧ w'.heap[b]? = c.w.heap[b]? := by
    intro b hb
    have hbg : b ≠ g := fun e => hb.2.2 tk ht (e ▸ hg)
    refine ⟨⟨Nat.lt_of_lt_of_eq hb.1 hsame.symm, hb.2.1, fun t2 ht2 => ?_⟩, hheap b hbg⟩
    obtain ⟨t3, h3, rfl⟩ := List.mem_map.1 ht2
    rw [upu]
    exact hb.2.2 t3 h3
  have hleaf : ∀ (q : L cx.ty) (u : Value), RepLS cx c q u → RepLS cx { c with T := c.T.map up, w := w' } (updEL p.nm s' q) u := fun q u hq =>
    stE_leaf2 (s := p.s) hs'own hs'nm hnD hnF hrd ht hn hcc huniq (List.mem_map.2 ⟨tk, ht, up0⟩) hn rfl rfl (fun t2 h2 hne s hs => List.mem_map.2 ⟨t2, h2, upl t2 s hs hne⟩) hq
  have hagg : ∀ (q : A cx.ty) (u : Value), RepA cx c q u → RepA cx { c with T := c.T.map up, w := w' } (updEA p.nm s' q) u := by
    intro q u hq
    match q, hq with
    | .inl q, hq => exact hleaf q u hq
    | .inr q, ⟨us, hu, hq⟩ => exact ⟨us, hu, hq.mapE hleaf⟩
  have hel : ∀ {s : SlD cx.ty} {i b o : Nat}, RepEl cx c s i b o → RepEl cx { c with T := c.T.map up, w := w' } s i b o := by
    rintro s i b o ⟨hb, y, hy, n, hr⟩
    refine ⟨(hrd b hb).1, y, hy, n, fun j q hq => ?_⟩
    obtain ⟨v, hv, hr⟩ := hr j q hq
    exact ⟨v, by rw [World.cell?_of_block (hrd b hb).2]; exact hv, RepL_mono cx (fun b hb => (hrd b hb).2) (fun b hb => (hrd b hb).1) _ _ _ hr⟩
  have hval : ∀ (q : V cx.ty) (u : Value), RepV cx c q u → RepV cx { c with T := c.T.map up, w := w' } (updEV p.nm s' q) u := by
    intro q u hq
    match q, hq with
    | .inl q, hq => exact hagg q u hq
    | .inr (.inl q), ⟨us, hu, h1, h2⟩ =>
      refine ⟨us, hu, by rw [List.length_map]; exact h1, fun j a b e1 e2 => ?_⟩
      rw [List.getElem?_map] at e1
      cases e0 : q[j]? with
      | none => rw [e0] at e1; simp at e1
      | some a0 =>
        rw [e0] at e1
        simp only [Option.map_some, Option.some.injEq] at e1
        subst e1
        exact hagg _ _ (h2 j a0 b e0 e2)
    | .inr (.inr q), hq =>
      have hq : RepP cx c q u := hq
      unfold RepP at hq
      simp only [updEV]
      split at hq
      · rename_i hk0
        obtain ⟨t2, k1, k2, k3, g2, k4, k5⟩ := hq
        simp only [hk0]
        show RepP cx { c with T := c.T.map up, w := w' } { q with kind := 0, cells := q.cells.map (updEL p.nm s') } u
        unfold RepP
        simp only
        exact ⟨up t2, List.mem_map.2 ⟨t2, k1, rfl⟩, by rw [upnm]; exact k2, by simp only [up]; rw [k3], g2, by rw [upu]; exact k4, k5⟩
      · rename_i hk1
        simp only [hk1]
        by_cases hne : q.nm = p.nm
        · rw [if_pos (by simp [hne])]
          show RepP cx { c with T := c.T.map up, w := w' } { q with kind := 1, s := s' } u
          unfold RepP
          simp only [hne, hnD, hnF, if_false] at hq ⊢
          obtain ⟨t2, k1, k2, k3, k4, g2, n2, cap2, k5, k6⟩ := hq
          have e2 := huniq t2 k1 k2
          subst e2
          have hqs : q.s = p.s := by
            rw [hcc] at k3
            exact (Sum.inl.inj k3).symm
          refine ⟨up t2, List.mem_map.2 ⟨t2, k1, rfl⟩, by rw [upnm]; exact k2, by rw [up0], ?_, g2, n2, cap2, by rw [upu]; exact k5, ?_⟩
          · rw [← hs']; simp only [List.length_set]; rw [← hqs]; exact k4
          · rw [← hs']; simp only; rw [← hqs]; exact k6
        · rw [if_neg (by simp [hne])]
          show RepP cx { c with T := c.T.map up, w := w' } q u
          unfold RepP
          simp only [hk1] at hq ⊢
          split at hq
          · rename_i hd'; rw [if_pos hd']; trivial
          · rename_i hd'
            rw [if_neg hd']
            split at hq
            · rename_i hf'
              rw [if_pos hf']
              obtain ⟨b, o, hu, hr⟩ := hq
              exact ⟨b, o, hu, hel hr⟩
            · rename_i hf'
              rw [if_neg hf']
              obtain ⟨t2, k1, k2, k3, k4⟩ := hq
              exact ⟨t2, List.mem_map.2 ⟨t2, k1, upl t2 _ k3 (by rw [k2]; exact hne)⟩, k2, k3, k4⟩
      · rename_i hk2
        simp only [hk2]
        show RepP cx { c with T := c.T.map up, w := w' } q u
        unfold RepP
        simp only [hk2]
        obtain ⟨b, o, hu, hr⟩ := hq
        exact ⟨b, o, hu, hel hr⟩
      · rename_i k0 k1 k2
        have : updEV p.nm s' (.inr (.inr q) : V cx.ty) = .inr (.inr q) := by
          unfold updEV
          simp only
        show RepV cx { c with T := c.T.map up, w := w' } (updEV p.nm s' (.inr (.inr q))) u
        rw [this]
        show RepP cx { c with T := c.T.map up, w := w' } q u
        unfold RepP
        split <;> first | trivial | (rename_i hh; first | exact (k0 hh).elim | exact (k1 hh).elim | exact (k2 hh).elim)
  have hlenE : (p.s.xs.flatMap (cx.enc p.s.e true)).length = p.s.xs.length * cx.size p.s.e := flat_len _ _ (fun x => ok.len p.s.e true x) _
  have husl : us.length = p.s.xs.length * cx.size p.s.e := by rw [hul, hlenE]
  have hfit2 : p.i * cx.size p.s.e + p.off + (act.eval x).cells.toList.length ≤ us.length := by omega
  have hll : (act.eval x).cells.toList.length = lw.length := hlen
  have hfit3 : p.i * cx.size p.s.e + p.off + fl.length ≤ fpl.length := by omega
  have hndtk : (vb tk.u ++ List.flatten fpl).Nodup := by
    have hnd := h.wf.nodup
    obtain ⟨l1, l2, hl2⟩ := List.append_of_mem ht
    rw [hl2] at hnd
    simp only [List.flatMap_append, List.flatMap_cons] at hnd
    have := (List.nodup_append.1 (List.nodup_append.1 hnd).2.1).1
    rw [hfp0] at this
    exact this
  have hfpm : ∀ b ∈ List.flatten fpl', b ∈ List.flatten fpl ∨ b ∈ List.flatten fl := fun b hb => by rw [← hfp'] at hb; exact flatten_splice_mem hb
  have hgf : ∀ f ∈ fpl, g ∉ f := fun f hf hg2 => (List.nodup_append.1 hndtk).2.2 g hg g (List.mem_flatten.2 ⟨f, hf, hg2⟩) rfl
  have hgfl : ∀ f ∈ fl, g ∉ f := fun f hf hg2 => (hflb g (List.mem_flatten.2 ⟨f, hf, hg2⟩)).2.2 tk ht (List.mem_append.2 (.inl hg))
  have hndup : (vb tk.u ++ List.flatten fpl').Nodup := by
    rw [List.nodup_append]
    refine ⟨(List.nodup_append.1 hndtk).1, ?_, fun x hx y hy he => ?_⟩
    · rw [← hfp']
      exact flatten_splice_nodup (List.nodup_append.1 hndtk).2.1 hfln (fun b hb hb2 => (hflb b hb).2.2 tk ht (List.mem_append.2 (.inr (by rw [hfp0]; exact hb2))))
    · subst he
      rcases hfpm x hy with hy | hy
      · exact (List.nodup_append.1 hndtk).2.2 x hx x hy rfl
      · exact (hflb x hy).2.2 tk ht (List.mem_append.2 (.inl hx))
  refine ⟨w', c.T.map up, hrun, ⟨⟨?_, ?_, ?_, ?_, h.wf.start, ?_, ?_⟩, by simp [h.size], fun t2 => ?_, h.defers, h.dead, h.frz, fun n hn' => ?_, h.kp, h.pr.keep rfl rfl (fun b hb => (hrd b (h.wf.rdS hb)).2), PdOK.none⟩, ?_⟩
  · show ((c.T.map up).map (·.nm)).Nodup
    rw [List.map_map]
    have : ((fun t2 : Tk cx.ty => t2.nm) ∘ up) = fun t2 => t2.nm := funext upnm
    rw [this]; exact h.wf.names
  · show ((c.T.map up).flatMap _).Nodup
    refine nodup_swap ht h.wf.names h.wf.nodup ?_ (fun b hb => ?_) (fun t2 _ hne => ?_)
    · show (vb (up tk).u ++ (up tk).fp).Nodup
      rw [up0]; exact hndup
    · have hb : b ∈ vb (up tk).u ++ (up tk).fp := hb
      rw [up0] at hb
      rcases List.mem_append.1 hb with hb | hb
      · exact .inl (List.mem_append.2 (.inl hb))
      · rcases hfpm b hb with hb | hb
        · exact .inl (List.mem_append.2 (.inr (by rw [hfp0]; exact hb)))
        · exact .inr (hflb b hb).2.2
    · show vb (up t2).u ++ (up t2).fp = _
      rw [upu, upfp t2 (by rw [hn] at hne; exact hne)]; rfl
  · intro t2 ht2 b hb
    obtain ⟨t3, h3, rfl⟩ := List.mem_map.1 ht2
    by_cases hn3 : t3.nm = p.nm
    · have e3 := huniq t3 h3 hn3
      subst e3
      rw [up0] at hb
      rcases List.mem_append.1 hb with hb | hb
      · have := h.wf.bound t3 h3 b (List.mem_append.2 (.inl hb))
        exact ⟨this.1, Nat.lt_of_lt_of_eq this.2 hsame.symm⟩
      · rcases hfpm b hb with hb | hb
        · have := h.wf.bound t3 h3 b (List.mem_append.2 (.inr (by rw [hfp0]; exact hb)))
          exact ⟨this.1, Nat.lt_of_lt_of_eq this.2 hsame.symm⟩
        · exact ⟨(hflb b hb).1, Nat.lt_of_lt_of_eq (hflb b hb).2.1 hsame.symm⟩
    · rw [upu, upfp t3 hn3] at hb
      have := h.wf.bound t3 h3 b hb
      exact ⟨this.1, Nat.lt_of_lt_of_eq this.2 hsame.symm⟩
  · intro t2 ht2
    obtain ⟨t3, h3, rfl⟩ := List.mem_map.1 ht2
    have hold := h.wf.rep t3 h3
    by_cases hn3 : t3.nm = p.nm
    · have e3 := huniq t3 h3 hn3
      subst e3
      rw [up0]
      unfold TokRep
      simp only [hs'o, if_true]
      refine ⟨hvb, nn + m0 + 1, splice us (p.i * cx.size p.s.e + p.off) (act.eval x).cells.toList, fpl', ?_, by rw [← hvb], ?_, by rw [splice_len hfit2, ← hfp', splice_len hfit3]; exact hfl, fun j q v f e1 e2 e3 => ?_⟩
      · rw [← hs']
        simp only [List.length_set]
        refine ⟨by rw [splice_len hfit2]; exact hrl, .inr ⟨g, cap0, _, hu, Nat.zero_le _, hnewrow, hncap, hcapm, ?_, ?_⟩⟩
        · simp only [List.size_toArray]
          rw [splice_len hfit]
          simpa using hcur
        · simp only
          rw [splice_take cur.toList (act.eval x).cells.toList (p.i * cx.size p.s.e + p.off) _ (by omega) hfit, htake]
      · rw [splice_len hfit2, ← hs']
        simp only
        rw [hul, flat_len _ _ (fun x => ok.len p.s.e true x), flat_len _ _ (fun x => ok.len p.s.e true x), List.length_set]
      · rw [← hs'] at e1
        simp only at e1
        rw [hset, splice_get (by rw [hlenE]; omega)] at e1
        rw [splice_get hfit2] at e2
        rw [← hfp', splice_get hfit3] at e3
        rw [hll] at e2
        rw [hfll] at e3
        by_cases hr : p.i * cx.size p.s.e + p.off ≤ j ∧ j < p.i * cx.size p.s.e + p.off + lw.length
        · rw [if_pos hr] at e1 e2 e3
          have := OwnL_up nn (hleaf0 _ q v f e1 e2 e3)
          rw [Nat.add_comm nn m0]
          exact OwnL_mono cx _ q v f (fun b hb => hheap b (fun e => hgfl f (List.mem_of_getElem? e3) (e ▸ hb))) this
        · rw [if_neg hr] at e1 e2 e3
          exact OwnL_up m0 (OwnL_mono cx nn q v f (fun b hb => hheap b (fun e => hgf f (List.mem_of_getElem? e3) (e ▸ hb))) (hown1 j q v f e1 e2 e3))
    · have hblk : ∀ b ∈ vb t3.u ++ t3.fp, w'.heap[b]? = c.w.heap[b]? := fun b hb => hheap b (fun e => disjoint_toks h.wf h3 ht (fun e2 => hn3 (by rw [e2, hn])) hb (by rw [e]; exact List.mem_append.2 (.inl hg)))
      unfold TokRep at hold
      split at hold
      · rename_i s hs
        rw [upl t3 s hs hn3]
        unfold TokRep
        rw [hs]
        simp only
        obtain ⟨hv, hold⟩ := hold
        refine ⟨hv, ?_⟩
        split at hold
        · rename_i hso2
          rw [if_pos hso2]
          obtain ⟨n, hold⟩ := hold
          exact ⟨n, OwnL_mono cx n _ _ _ hblk hold⟩
        · rename_i hso2
          rw [if_neg hso2]
          obtain ⟨hf, us, n, hrow, hl2, hr⟩ := hold
          refine ⟨hf, us, n, ?_, hl2, fun j l v h1 h2 => RepL_mono cx (fun b hb => (hrd b hb).2) (fun b hb => (hrd b hb).1) n l v (hr j l v h1 h2)⟩
          obtain ⟨hx, hcx⟩ := hrow
          refine ⟨hx, ?_⟩
          rcases hcx with hcx | ⟨g2, cap2, cur2, hv', hg2, hh2, hrest⟩
          · exact .inl hcx
          · refine .inr ⟨g2, cap2, cur2, hv', hg2, ?_, hrest⟩
            rw [hblk g2 (by rw [hv']; simp [vb])]
            exact hh2
      · rename_i cells hs
        obtain ⟨hf, g2, cur2, e2, hu2, hh2, hr⟩ := hold
        have hup : up t3 = { t3 with c := .inr (cells.map (updEL p.nm s')) } := by simp only [up]; rw [hs]
        rw [hup]
        unfold TokRep
        refine ⟨hf, g2, cur2, e2, hu2, ?_, hr.mapE hleaf⟩
        rw [hblk g2 (by rw [hu2]; simp [vb])]
        exact hh2
  · intro t2 ht2
    obtain ⟨t3, h3, rfl⟩ := List.mem_map.1 ht2
    rw [upnm]
    exact h.wf.live t3 h3
  · exact fun b hb => h.wf.size b (Nat.le_trans (Nat.le_of_eq hsame.symm) hb)
  · have : (st.slots.map (updEV p.nm s')).getD t2 junk = updEV p.nm s' (st.slots.getD t2 junk) := by
      by_cases hlt : t2 < st.slots.length
      · simp [List.getD, hlt]
      · simp [List.getD, List.getElem?_eq_none (Nat.le_of_not_lt hlt), junk, updEV, updEA, updEL]
    show RepV cx _ ((st.slots.map (updEV p.nm s')).getD t2 junk) _
    rw [this]
    exact hval _ _ (h.rep t2)
  · rcases hn' with ⟨t2, ht2, rfl⟩ | hn' | hn'
    · obtain ⟨t3, h3, rfl⟩ := List.mem_map.1 ht2
      rw [upnm]
      exact h.names _ (.inl ⟨t3, h3, rfl⟩)
    · exact h.names _ (.inr (.inl hn'))
    · exact h.names _ (.inr (.inr hn'))
  · exact ⟨by rw [← hW]; rfl, by rw [← hW]; rfl, by rw [← hW]; rfl, by rw [hsame]; exact Nat.le_refl _, fun k hk => hheap k (fun e => hk (e ▸ hgb.1))⟩

/-- Things that go into another one leave the table. -/
theorem killT_ok {st : St cx.ty} {c : Ct cx.ty} {act : Act} (h : RS cx c st act) (dn : List Nat) (hrow : ∀ tk ∈ c.T, tk.nm ∈ dn → ∃ s, tk.c = .inl s) (hdT : ∀ n ∈ dn, ∃ tk ∈ c.T, tk.nm = n) :
    RS cx { c with T := c.T.filter (fun tk => !dn.contains tk.nm), D := dn ++ c.D } { st with D := dn ++ st.D, pend := none } act := by
  let c1 : Ct cx.ty := { c with T := c.T.filter (fun tk => !dn.contains tk.nm), D := dn ++ c.D }
  have hmem : ∀ tk, tk ∈ c1.T ↔ tk ∈ c.T ∧ tk.nm ∉ dn := fun tk => by simp [c1, List.mem_filter]
  have hP : Pres cx c c1 := by
    refine ⟨fun b hb => ⟨⟨hb.1, hb.2.1, fun tk ht => hb.2.2 tk ((hmem tk).1 ht).1⟩, rfl⟩, fun n hn => List.mem_append.2 (.inr hn), fun n hn => hn, fun tk ht hD _ => (hmem tk).2 ⟨ht, fun hd => hD (List.mem_append.2 (.inl hd))⟩, fun tk ht l hl => (hmem tk).2 ⟨ht, fun hd => ?_⟩, fun tk ht _ _ _ hF => absurd hF (h.wf.live tk ht).2⟩
    obtain ⟨s, hs⟩ := hrow tk ht hd
    rw [hl] at hs
    cases hs
  refine ⟨⟨?_, ?_, fun tk ht => h.wf.bound tk ((hmem tk).1 ht).1, fun tk ht => ?_, h.wf.start, fun tk ht => ⟨fun hd => ?_, (h.wf.live tk ((hmem tk).1 ht).1).2⟩, h.wf.size⟩, h.size, fun t => RepV.pres cx hP (h.rep t), h.defers, fun n => ?_, h.frz, fun n hn => ?_, h.kp, h.pr, PdOK.none⟩
  · exact (List.Sublist.map _ List.filter_sublist).nodup h.wf.names
  · exact filter_sub_nodup _ h.wf.nodup
  · exact TokRep.pres cx hP (fun b _ => rfl) (h.wf.rep tk ((hmem tk).1 ht).1)
  · rcases List.mem_append.1 hd with hd | hd
    · exact ((hmem tk).1 ht).2 hd
    · exact (h.wf.live tk ((hmem tk).1 ht).1).1 hd
  · show n ∈ dn ++ c.D ↔ n ∈ dn ++ st.D
    rw [List.mem_append, List.mem_append, h.dead n]
  · refine h.names n ?_
    rcases hn with ⟨tk, ht, rfl⟩ | hn | hn
    · exact .inl ⟨tk, ((hmem tk).1 ht).1, rfl⟩
    · rcases List.mem_append.1 hn with hn | hn
      · exact .inl (hdT n hn)
      · exact .inr (.inl hn)
    · exact .inr (.inr hn)

def tokOk (st : St cx.ty) : L cx.ty → Bool
  | none => false
  | some (.inl (.agg _)) => false
  | some (.inl (.tuple _)) => false
  | some (.inl _) => true
  | some (.inr s) => s.own == 1 && s.o && !st.D.contains s.nm && !st.F.contains s.nm

def tokNs {ty : Nat → Type} : List (L ty) → List Nat
  | [] => []
  | some (.inr s) :: r => s.nm :: tokNs r
  | _ :: r => tokNs r

def fixL {ty : Nat → Type} (old new : L ty) : L ty :=
  match new with
  | some (.inr s) => some (.inr { own := 2, nm := 0, e := s.e, o := true, xs := s.xs })
  | some (.inl (.slice none 0 0)) => match old with
    | some (.inr s) => some (.inr { own := 2, nm := 0, e := s.e, o := true, xs := [] })
    | _ => new
  | l => l

theorem fixL_weak {ty : Nat → Type} (old new : L ty) : weak true (fixL old new) = fixL old new := by
  unfold fixL
  split
  · rfl
  · split
    · rfl
    · rfl
  · rename_i h1 h2
    match new with
    | none => rfl
    | some (.inl v) => rfl
    | some (.inr s) => exact absurd rfl (h1 s)

def fixLs {ty : Nat → Type} : List (L ty) → List (L ty) → List (L ty)
  | _, [] => []
  | [], n :: ns => fixL none n :: fixLs [] ns
  | o :: os, n :: ns => fixL o n :: fixLs os ns

theorem fixLs_len {ty : Nat → Type} : ∀ (os ns : List (L ty)), (fixLs os ns).length = ns.length
  | [], [] => rfl
  | _ :: _, [] => rfl
  | [], n :: ns => by simp only [fixLs, List.length_cons, fixLs_len]
  | o :: os, n :: ns => by simp only [fixLs, List.length_cons, fixLs_len]
theorem fixLs_get {ty : Nat → Type} : ∀ (os ns : List (L ty)) (j : Nat) (q : L ty), (fixLs os ns)[j]? = some q → ∃ o n, ns[j]? = some n ∧ q = fixL o n
  | [], [], j, q, h => by simp [fixLs] at h
  | _ :: _, [], j, q, h => by simp [fixLs] at h
  | [], n :: ns, 0, q, h => by simp only [fixLs, List.getElem?_cons_zero, Option.some.injEq] at h; exact ⟨_, n, rfl, h.symm⟩
  | o :: os, n :: ns, 0, q, h => by simp only [fixLs, List.getElem?_cons_zero, Option.some.injEq] at h; exact ⟨_, n, rfl, h.symm⟩
  | [], n :: ns, j + 1, q, h => by simp only [fixLs, List.getElem?_cons_succ] at h ⊢; exact fixLs_get [] ns j q h
  | o :: os, n :: ns, j + 1, q, h => by simp only [fixLs, List.getElem?_cons_succ] at h ⊢; exact fixLs_get os ns j q h
theorem fixLs_weak {ty : Nat → Type} (os ns : List (L ty)) : (fixLs os ns).map (weak true) = fixLs os ns := by
  apply List.ext_getElem?
  intro j
  rw [List.getElem?_map]
  cases e : (fixLs os ns)[j]? with
  | none => rfl
  | some q =>
    obtain ⟨o, n, _, rfl⟩ := fixLs_get os ns j q e
    simp only [Option.map_some, fixL_weak]

/-- The blocks of what goes in. -/
def tokB (c : Ct cx.ty) : L cx.ty → List Nat
  | some (.inr s) => ((c.T.find? (fun tk => tk.nm == s.nm)).map blocks).getD []
  | _ => []

theorem tokB_inr (c : Ct cx.ty) (s : SlD cx.ty) : tokB c (some (.inr s)) = ((c.T.find? (fun tk => tk.nm == s.nm)).map blocks).getD [] := rfl

theorem tokB_eq {c : Ct cx.ty} (hw : Wf cx c) {s : SlD cx.ty} {tk : Tk cx.ty} (ht : tk ∈ c.T) (hn : tk.nm = s.nm) : tokB c (some (.inr s)) = blocks tk := by
  rw [tokB_inr]
  cases e : c.T.find? (fun tk => tk.nm == s.nm) with
  | none =>
    have := List.find?_eq_none.1 e tk ht
    simp [hn] at this
  | some t2 =>
    have h1 := List.mem_of_find?_eq_some e
    have h2 := List.find?_some e
    have := uniq_tok hw h1 ht (by simpa [hn] using h2)
    subst this
    rfl

theorem tokB_mem {c : Ct cx.ty} (hw : Wf cx c) : ∀ {l : List (L cx.ty)} {b : Nat}, b ∈ List.flatten (l.map (tokB c)) → ∃ tk ∈ c.T, tk.nm ∈ tokNs l ∧ b ∈ blocks tk
  | [], b, h => by simp at h
  | q :: r, b, h => by
    rw [List.map_cons, List.flatten_cons] at h
    rcases List.mem_append.1 h with h | h
    · match q, h with
      | some (.inr s), h =>
        rw [tokB_inr] at h
        cases e : c.T.find? (fun tk => tk.nm == s.nm) with
        | none => rw [e] at h; simp at h
        | some t2 =>
          rw [e] at h
          have h1 := List.mem_of_find?_eq_some e
          have h2 := List.find?_some e
          exact ⟨t2, h1, by simp only [tokNs]; exact List.mem_cons.2 (.inl (by simpa using h2)), h⟩
      | none, h => simp [tokB] at h
      | some (.inl _), h => simp [tokB] at h
    · obtain ⟨tk, k1, k2, k3⟩ := tokB_mem hw h
      refine ⟨tk, k1, ?_, k3⟩
      match q with
      | some (.inr s) => simp only [tokNs]; exact List.mem_cons_of_mem _ k2
      | none => exact k2
      | some (.inl _) => exact k2

theorem tokB_nodup {c : Ct cx.ty} (hw : Wf cx c) : ∀ {l : List (L cx.ty)}, (tokNs l).Nodup → (List.flatten (l.map (tokB c))).Nodup
  | [], _ => by simp
  | q :: r, h => by
    rw [List.map_cons, List.flatten_cons]
    have ih := tokB_nodup hw (l := r)
    match q, h with
    | none, h => simpa [tokB] using ih h
    | some (.inl _), h => simpa [tokB] using ih h
    | some (.inr s), h =>
      simp only [tokNs, List.nodup_cons] at h
      rw [List.nodup_append]
      refine ⟨?_, ih h.2, fun x hx y hy he => ?_⟩
      · rw [tokB_inr]
        cases e : c.T.find? (fun tk => tk.nm == s.nm) with
        | none => simp
        | some t2 =>
          have ht := List.mem_of_find?_eq_some e
          have hnd := hw.nodup
          obtain ⟨p1, p2, hp⟩ := List.append_of_mem ht
          rw [hp] at hnd
          simp only [List.flatMap_append, List.flatMap_cons] at hnd
          exact (List.nodup_append.1 (List.nodup_append.1 hnd).2.1).1
      · subst he
        obtain ⟨t3, k1, k2, k3⟩ := tokB_mem hw hy
        have hx1 : x ∈ List.flatten ([some (.inr s)].map (tokB c)) := by simpa using hx
        obtain ⟨t2, j1, j2, j3⟩ := tokB_mem hw hx1
        have j2 : t2.nm = s.nm := by simpa [tokNs] using j2
        exact disjoint_toks hw k1 j1 (fun e => h.1 (by rw [← j2, ← e]; exact k2)) k3 j3

/-- What a store leaves that puts owned things into a row of rows. -/
def stT (P : Program) (st : St cx.ty) (t : TypeId) (a x : Operand) : Option (St cx.ty) :=
  match getV st.slots a, cellsV (getV st.slots x) with
  | .inr (.inr p), some l =>
    if p.kind == 1 && p.s.o && p.s.own == 1 && p.s.nm == p.nm && !st.D.contains p.nm && !st.F.contains p.nm && l.all (tokOk st) && nodupB (tokNs l) && !(tokNs l).contains p.nm && (P.underlying t).isSome && l.length == P.cellsOf t && decide (p.off + l.length ≤ cx.size p.s.e) then
      match cx.dec p.s.e (splice (cx.enc p.s.e true (p.s.xs.getD p.i (cx.dflt p.s.e))) p.off (fixLs ((cx.enc p.s.e true (p.s.xs.getD p.i (cx.dflt p.s.e))).drop p.off) l)) with
      | some x' => some { st with slots := st.slots.map (updEV p.nm { p.s with xs := p.s.xs.set p.i x' }), D := tokNs l ++ st.D, pend := none }
      | none => none
    else none
  | _, _ => none

theorem tok_of {c : Ct cx.ty} {st : St cx.ty} {act : Act} (h : RS cx c st act) {s : SlD cx.ty} {u : Value} (hr : RepLS cx c (some (.inr s)) u) (ho : tokOk st (some (.inr s)) = true) : s.o = true ∧ ∃ tk ∈ c.T, tk.nm = s.nm ∧ tk.c = .inl s ∧ tk.u = u := by
  simp only [tokOk, Bool.and_eq_true, beq_iff_eq, Bool.not_eq_true'] at ho
  obtain ⟨⟨⟨h1, h2⟩, h3⟩, h4⟩ := ho
  have h3 : s.nm ∉ c.D := by rw [h.dead]; simpa using h3
  have h4 : s.nm ∉ c.F := by rw [h.frz]; simpa using h4
  unfold RepLS at hr
  simp only [h1, h3, h4, if_true, if_false] at hr
  exact ⟨h2, hr.2⟩

theorem tokNs_mem {ty : Nat → Type} : ∀ {l : List (L ty)} {n : Nat}, n ∈ tokNs l → ∃ s : SlD ty, some (.inr s) ∈ l ∧ s.nm = n
  | [], n, h => by simp [tokNs] at h
  | some (.inr s) :: r, n, h => by
    simp only [tokNs] at h
    rcases List.mem_cons.1 h with h | h
    · exact ⟨s, List.mem_cons_self .., h.symm⟩
    · obtain ⟨s2, k1, k2⟩ := tokNs_mem h
      exact ⟨s2, List.mem_cons_of_mem _ k1, k2⟩
  | none :: r, n, h => by
    obtain ⟨s2, k1, k2⟩ := tokNs_mem (l := r) h
    exact ⟨s2, List.mem_cons_of_mem _ k1, k2⟩
  | some (.inl _) :: r, n, h => by
    obtain ⟨s2, k1, k2⟩ := tokNs_mem (l := r) h
    exact ⟨s2, List.mem_cons_of_mem _ k1, k2⟩

theorem ownL_same {w : World} {n : Nat} {s : SlD cx.ty} {u : Value} {f : List Nat} (h : OwnL cx w n (some (.inr s)) u f) : OwnL cx w n (some (.inr { own := 2, nm := 0, e := s.e, o := true, xs := s.xs })) u f := by
  cases n with
  | zero => simp [OwnL] at h
  | succ n => exact h

theorem stT_ok (ok : cx.Ok) {o : Oper} {t : TypeId} {a x : Operand} (ho : o.op = .store t a x) {st st' : St cx.ty} (hst : stT P st t a x = some st') {c : Ct cx.ty} {act : Act} (h : RS cx c st act) :
    ∃ w' c', (execOp act.eval o).run P c.w = .ok .skip w' ∧ RS cx c' st' act ∧ c'.w = w' ∧ c'.S = c.S ∧ c'.N = c.N ∧ c'.K = c.K ∧ Kept c.N c.w w' := by
  unfold stT at hst
  split at hst
  · rename_i p l hp hl
    split at hst
    · rename_i hc
      simp only [Bool.and_eq_true, beq_iff_eq, decide_eq_true_eq, Bool.not_eq_true'] at hc
      obtain ⟨⟨⟨⟨⟨⟨⟨⟨⟨⟨⟨hk, hso⟩, hown⟩, hsn⟩, hnD⟩, hnF⟩, hlo⟩, hnd⟩, hpn⟩, hund⟩, hsz⟩, hoff⟩ := hc
      split at hst
      · rename_i x' hdec
        simp only [Option.some.injEq] at hst
        subst hst
        obtain ⟨d, hd⟩ := Option.isSome_iff_exists.1 hund
        have hnD : p.nm ∉ c.D := by rw [h.dead]; simpa using hnD
        have hnF : p.nm ∉ c.F := by rw [h.frz]; simpa using hnF
        have hpn : p.nm ∉ tokNs l := by simpa using hpn
        have hcv := cellsV_rep (eval_rep h.rep x) hl
        have hlen : (act.eval x).cells.toList.length = l.length := hcv.1
        have htok : ∀ s : SlD cx.ty, some (.inr s) ∈ l → ∃ j : Nat, l[j]? = some (some (.inr s)) ∧ ∃ u, (act.eval x).cells.toList[j]? = some u ∧ RepLS cx c (some (.inr s)) u := by
          intro s hs
          obtain ⟨j, hj⟩ := List.getElem?_of_mem hs
          have hjl : j < (act.eval x).cells.toList.length := by rw [hlen]; exact (List.getElem?_eq_some_iff.1 hj).1
          exact ⟨j, hj, _, List.getElem?_eq_getElem hjl, hcv.2 j _ _ hj (List.getElem?_eq_getElem hjl)⟩
        have hT : ∀ n ∈ tokNs l, ∃ tk ∈ c.T, tk.nm = n ∧ ∃ s : SlD cx.ty, tk.c = .inl s := by
          intro n hn
          obtain ⟨s, hs, rfl⟩ := tokNs_mem hn
          obtain ⟨j, _, u, _, hr⟩ := htok s hs
          obtain ⟨_, tk, k1, k2, k3, _⟩ := tok_of h hr (List.all_eq_true.1 hlo _ hs)
          exact ⟨tk, k1, k2, s, k3⟩
        have h1 := killT_ok h (tokNs l) (fun tk ht hn => by
          obtain ⟨t2, k1, k2, k3⟩ := hT _ hn
          have := uniq_tok h.wf ht k1 k2.symm
          subst this
          exact k3) (fun n hn => by obtain ⟨t2, k1, k2, _⟩ := hT n hn; exact ⟨t2, k1, k2⟩)
        have henc : cx.enc p.s.e true x' = splice (cx.enc p.s.e true (p.s.xs.getD p.i (cx.dflt p.s.e))) p.off (fixLs ((cx.enc p.s.e true (p.s.xs.getD p.i (cx.dflt p.s.e))).drop p.off) l) := by
          rw [← ok.dec _ _ _ true hdec, splice_map, ok.weak, fixLs_weak]
        have hleaf : ∀ (j : Nat) q v, l[j]? = some q → (act.eval x).cells.toList[j]? = some v → v.oneCell' = true ∧ ∃ n, ∀ o2, OwnL cx c.w (n + 1) (fixL o2 q) v (tokB c q) := by
          intro j q v e1 e2
          have hq := List.all_eq_true.1 hlo q (List.mem_of_getElem? e1)
          have hr := hcv.2 j q v e1 e2
          match q, hq, hr with
          | some (.inl u), hq, hr =>
            have hr : v = u := hr
            subst hr
            refine ⟨by cases v <;> first | rfl | (simp [tokOk] at hq), 0, fun o2 => ?_⟩
            unfold fixL
            split
            · rename_i hh; cases hh
            · rename_i hh
              cases hh
              split
              · exact own_nil rfl 0
              · exact ⟨rfl, rfl⟩
            · exact ⟨rfl, rfl⟩
          | some (.inr s), hq, hr =>
            obtain ⟨hso2, tk, k1, k2, k3, k4⟩ := tok_of h hr hq
            have htr := h.wf.rep tk k1
            unfold TokRep at htr
            rw [k3] at htr
            simp only [hso2, if_true] at htr
            obtain ⟨_, n, htr⟩ := htr
            obtain ⟨_, _, _, a2, m2, cp, hu⟩ := OwnL_slice htr
            rw [k4] at htr hu
            refine ⟨by rw [hu]; rfl, n, fun o2 => ?_⟩
            rw [tokB_eq h.wf k1 k2]
            have : blocks tk = vb v ++ tk.fp := by unfold blocks; rw [k4]
            rw [this]
            exact OwnL_up 1 (ownL_same htr)
        have hbig : ∃ m, ∀ (j : Nat) q v, l[j]? = some q → (act.eval x).cells.toList[j]? = some v → ∀ o2, OwnL cx c.w m (fixL o2 q) v (tokB c q) := by
          have : ∀ k, ∃ m, ∀ (j : Nat) q v, j < k → l[j]? = some q → (act.eval x).cells.toList[j]? = some v → ∀ o2, OwnL cx c.w m (fixL o2 q) v (tokB c q) := by
            intro k
            induction k with
            | zero => exact ⟨0, fun j q v hj => by omega⟩
            | succ k ih =>
              obtain ⟨m, hm⟩ := ih
              by_cases hkl : k < l.length
              · obtain ⟨_, n, hn⟩ := hleaf k _ _ (List.getElem?_eq_getElem hkl) (List.getElem?_eq_getElem (by omega))
                refine ⟨m + (n + 1), fun j q v hj e1 e2 o2 => ?_⟩
                by_cases hjk : j < k
                · exact OwnL_up (n + 1) (hm j q v hjk e1 e2 o2)
                · have : j = k := by omega
                  subst this
                  rw [List.getElem?_eq_getElem hkl] at e1
                  rw [List.getElem?_eq_getElem (by omega)] at e2
                  simp only [Option.some.injEq] at e1 e2
                  subst e1; subst e2
                  rw [Nat.add_comm]
                  exact OwnL_up m (hn o2)
              · exact ⟨m, fun j q v hj e1 e2 o2 => hm j q v (by have := (List.getElem?_eq_some_iff.1 e1).1; omega) e1 e2 o2⟩
          obtain ⟨m, hm⟩ := this l.length
          exact ⟨m, fun j q v e1 e2 => hm j q v (List.getElem?_eq_some_iff.1 e1).1 e1 e2⟩
        obtain ⟨m, hm⟩ := hbig
        obtain ⟨w', T', q1, q2, q3⟩ := stT_core ok ho h1 (p := p) hp hk hso hown hsn (by
            intro hd2
            rcases List.mem_append.1 hd2 with hd2 | hd2
            · exact hpn hd2
            · exact hnD hd2) hnF hd (lw := fixLs ((cx.enc p.s.e true (p.s.xs.getD p.i (cx.dflt p.s.e))).drop p.off) l) (by rw [fixLs_len]; exact hlen) (by rw [fixLs_len]; exact hsz)
            (fun v hv => by
              obtain ⟨j, hj⟩ := List.getElem?_of_mem hv
              have hjl : j < l.length := by rw [← hlen]; exact (List.getElem?_eq_some_iff.1 hj).1
              exact (hleaf j _ v (List.getElem?_eq_getElem hjl) hj).1) (by rw [fixLs_len]; exact hoff) henc (m0 := m) (fl := l.map (tokB c)) (by rw [fixLs_len, List.length_map])
            (fun j q v f e1 e2 e3 => by
              obtain ⟨o2, n2, k1, rfl⟩ := fixLs_get _ _ _ _ e1
              rw [List.getElem?_map, k1] at e3
              simp only [Option.map_some, Option.some.injEq] at e3
              subst e3
              exact hm j n2 v k1 e2 o2)
            (tokB_nodup h.wf (nodupB_spec _ hnd)) (fun b hb => by
              obtain ⟨tk, k1, k2, k3⟩ := tokB_mem h.wf hb
              have hbd := h.wf.bound tk k1 b k3
              refine ⟨hbd.1, hbd.2, fun t2 ht2 hb2 => ?_⟩
              have ht2 := List.mem_filter.1 ht2
              have hne : t2.nm ∉ tokNs l := by simpa using ht2.2
              exact disjoint_toks h.wf ht2.1 k1 (fun e => hne (by rw [e]; exact k2)) hb2 k3)
        exact ⟨w', _, q1, q2, rfl, rfl, rfl, rfl, q3⟩
      · simp at hst
    · simp at hst
  · simp at hst

/-- A store into a box, or into a row. -/
def stA2 (P : Program) (st : St cx.ty) (t : TypeId) (a x : Operand) : Option (St cx.ty) :=
  match stA P st t a x with
  | some st' => some st'
  | none => match stN P st t a x with
    | some st' => some st'
    | none => stT P st t a x

theorem stA2_ok (ok : cx.Ok) {o : Oper} {t : TypeId} {a x : Operand} (ho : o.op = .store t a x) {st st' : St cx.ty} (hst : stA2 P st t a x = some st') {c : Ct cx.ty} {act : Act} (h : RS cx c st act) :
    ∃ w' c', (execOp act.eval o).run P c.w = .ok .skip w' ∧ RS cx c' st' act ∧ c'.w = w' ∧ c'.S = c.S ∧ c'.N = c.N ∧ c'.K = c.K ∧ Kept c.N c.w w' := by
  unfold stA2 at hst
  split at hst
  · rename_i s1 e1
    simp only [Option.some.injEq] at hst
    subst hst
    obtain ⟨w', T', h1, h2, h3⟩ := stA_ok ok ho e1 h
    exact ⟨w', _, h1, h2, rfl, rfl, rfl, rfl, h3⟩
  · split at hst
    · rename_i s1 e1
      simp only [Option.some.injEq] at hst
      subst hst
      obtain ⟨w', T', h1, h2, h3⟩ := stN_ok ok ho e1 h
      exact ⟨w', _, h1, h2, rfl, rfl, rfl, rfl, h3⟩
    · exact stT_ok ok ho hst h
end
end Go.VM

namespace Go.VM
open Go.RowKit
section
variable {cx : Cx} {P : Program}

/-! ### A piece of a row of rows, read out and handed on to be written -/
def callE (Kw : Kwt cx) (d : Nat) (o : Oper) : Bool :=
  match wcallOf Kw o with
  | some (_, W, cl) => W.p == 5 && (match cl.args.toList with | .tmp t :: _ => t == d | _ => false)
  | none => false

def wantE (Kw : Kwt cx) (d : Nat) : List Oper → Bool
  | o1 :: r => callE Kw d o1 || (match o1.op with | .move _ => (match r with | o2 :: _ => callE Kw d o2 | [] => false) | _ => false)
  | [] => false

def loadE (P : Program) (Kw : Kwt cx) (st : St cx.ty) (o : Oper) (rest : List Oper) : Option (Nat × Pt cx.ty) :=
  match o.op, o.dst with
  | .load t x, some d => match getV st.slots x with
    | .inr (.inr p) => if o.guard.isNone && p.kind == 1 && p.s.own == 1 && p.s.nm == p.nm && p.s.o && !st.D.contains p.nm && !st.F.contains p.nm && !aggType P t && (P.underlying t).isSome && decide (p.off < cx.size p.s.e) && decide (d < st.slots.length) && wantE Kw d rest then some (d, p) else none
    | _ => none
  | _, _ => none

def moveE (st : St cx.ty) (o : Oper) : Option (V cx.ty) :=
  match st.pend with
  | none => none
  | some (d, _) => match o.op, o.dst with
    | .move x, some d' => if o.guard.isNone && d' != d then some (getV st.slots x) else none
    | _, _ => none

theorem loadE_ok (_ok : cx.Ok) {Kw : Kwt cx} {st : St cx.ty} {o : Oper} {rest : List Oper} {d : Nat} {p : Pt cx.ty} (he : loadE P Kw st o rest = some (d, p)) {c : Ct cx.ty} {a : Act} (h : RS cx c st a) (hlo : loO st.lo o.dst = true) :
    o.guard = none ∧ o.dst = some d ∧ Runs P o a.eval c.w (fun u w' => w' = c.w ∧ RS cx c { st with slots := setO st.slots o.dst junk, pend := some (d, p) } (a.put o.dst u)) := by
  unfold loadE at he
  split at he
  · rename_i t x d' ho hd
    split at he
    · rename_i q hx
      split at he
      · rename_i hc
        simp only [Option.some.injEq, Prod.mk.injEq] at he
        obtain ⟨rfl, rfl⟩ := he
        simp only [Bool.and_eq_true, beq_iff_eq, Bool.not_eq_true', decide_eq_true_eq] at hc
        obtain ⟨⟨⟨⟨⟨⟨⟨⟨⟨⟨⟨hg, hk⟩, hown⟩, hsn⟩, hso⟩, hnD⟩, hnF⟩, hag⟩, hund⟩, hoff⟩, hdl⟩, _⟩ := hc
        have hnD : q.nm ∉ c.D := by rw [h.dead]; simpa using hnD
        have hnF : q.nm ∉ c.F := by rw [h.frz]; simpa using hnF
        have hra := eval_rep h.rep x
        rw [hx] at hra
        have hra : RepP cx c q (a.eval x) := hra
        unfold RepP at hra
        simp only [hk, hnD, hnF, if_false] at hra
        obtain ⟨tk, ht, hn, hcc, hi, g, n0, cap0, hu, hpa⟩ := hra
        have htr := h.wf.rep tk ht
        unfold TokRep at htr
        rw [hcc] at htr
        simp only [hso, if_true] at htr
        obtain ⟨hvb, nn, htr⟩ := htr
        have hcell : ∃ u, c.w.cell? ⟨g, q.i * cx.size q.s.e + q.off, none⟩ = some u := by
          cases nn with
          | zero => simp [OwnL] at htr
          | succ m =>
            obtain ⟨us, fpl, ⟨hrl, hrow⟩, _⟩ := htr
            rcases hrow with ⟨hbad, _⟩ | ⟨g', cap, cur, hu', hg0, hh, hncap, hcapm, hcur, htake⟩
            · rw [hu] at hbad; simp at hbad
            · rw [hu] at hu'
              simp only [Value.slice.injEq, Option.some.injEq, Addr.mk.injEq] at hu'
              obtain ⟨⟨rfl, _⟩, rfl, rfl⟩ := hu'
              have hmul : (q.i + 1) * cx.size q.s.e ≤ q.s.xs.length * cx.size q.s.e := Nat.mul_le_mul_right _ hi
              have hmul2 : q.s.xs.length * cx.size q.s.e ≤ cap0 * cx.size q.s.e := Nat.mul_le_mul_right _ hncap
              rw [Nat.add_mul, Nat.one_mul] at hmul
              have hlt : q.i * cx.size q.s.e + q.off < cur.size := by omega
              exact ⟨cur[q.i * cx.size q.s.e + q.off], by simp [World.cell?, hh, hlt]⟩
        obtain ⟨u, hu1⟩ := hcell
        refine ⟨by simpa using hg, hd, ?_⟩
        have hrun : (execOp a.eval o).run P c.w = .ok (.value u) c.w := by
          obtain ⟨dd, hdd⟩ := Option.isSome_iff_exists.1 hund
          unfold execOp
          simp only [ho, Instr.loadAt, Instr.sureAddr, hpa, Sem.run_bind, Sem.run_pure, Result.andThen_ok]
          unfold loadVar
          simp only [Sem.run_bind, run_isAgg hdd, Result.andThen_ok, hag]
          simp [hu1]
        unfold Runs
        rw [hrun]
        refine ⟨rfl, ?_⟩
        rw [hd] at hlo ⊢
        have hf := h.forget hlo u
        refine ⟨hf.wf, hf.size, hf.rep, hf.defers, hf.dead, hf.frz, hf.names, hf.kp, hf.pr, fun d2 p2 hq => ?_⟩
        simp only [Option.some.injEq, Prod.mk.injEq] at hq
        obtain ⟨rfl, rfl⟩ := hq
        refine ⟨hnD, hnF, tk, ht, hn, hcc, hi, g, n0, cap0, hu, ?_⟩
        have : (a.put (some d') u).tmps.getD d' undef = u := by simp [Act.put, h.size, hdl]
        rw [this]
        exact hu1
      · simp at he
    · simp at he
  · simp at he

theorem moveE_ok {st : St cx.ty} {o : Oper} {v : V cx.ty} (he : moveE st o = some v) {c : Ct cx.ty} {a : Act} (h : RS cx c st a) (hlo : loO st.lo o.dst = true) :
    o.guard = none ∧ Runs P o a.eval c.w (fun u w' => w' = c.w ∧ RS cx c { st with slots := setO st.slots o.dst v } (a.put o.dst u)) := by
  unfold moveE at he
  split at he
  · simp at he
  · rename_i d p hp
    split at he
    · rename_i x d' ho hd
      split at he
      · rename_i hc
        simp only [Option.some.injEq] at he
        subst he
        simp only [Bool.and_eq_true, bne_iff_ne, ne_eq] at hc
        refine ⟨by simpa using hc.1, ?_⟩
        have hrun : (execOp a.eval o).run P c.w = .ok (.value (a.eval x)) c.w := by
          unfold execOp
          simp [ho]
        unfold Runs
        rw [hrun]
        refine ⟨rfl, h.wf, put_size h.size _ _ _, put_rep h.size h.rep _ (eval_rep h.rep x), by rw [put_defers]; exact h.defers, h.dead, h.frz, h.names, fun p u' hp => ⟨(h.kp p u' hp).1, (put_lo hlo _ (h.kp p u' hp).1).trans (h.kp p u' hp).2⟩, h.pr, fun d2 p2 hq => ?_⟩
        obtain ⟨h1, h2, tk, h3, h4, h5, h6, g, n, cap, h7, h8⟩ := h.pd d2 p2 hq
        refine ⟨h1, h2, tk, h3, h4, h5, h6, g, n, cap, h7, ?_⟩
        have hdd : d2 = d := by
          have hq : st.pend = some (d2, p2) := hq
          rw [hp] at hq
          simp only [Option.some.injEq, Prod.mk.injEq] at hq
          exact hq.1.symm
        have : (a.put o.dst (a.eval x)).tmps.getD d2 undef = a.tmps.getD d2 undef := by
          rw [hd, hdd]
          simp [Act.put, Array.getElem?_setIfInBounds_ne hc.2]
        rw [this]
        exact h8
      · simp at he
    · simp at he

def scV {ty : Nat → Type} : V ty → Option Value
  | .inl (.inl (some (.inl v))) => some v
  | _ => none
def scVs {ty : Nat → Type} : List (V ty) → Option (List Value)
  | [] => some []
  | x :: r => match scV x, scVs r with
    | some v, some l => some (v :: l)
    | _, _ => none
def rsA {ty : Nat → Type} : List (A ty) → Option (List Value)
  | [] => some []
  | .inl (some (.inl v)) :: r => match rsA r with
    | some l => some (v :: l)
    | none => none
  | _ :: _ => none

theorem scVs_rep {c : Ct cx.ty} : ∀ (l : List (V cx.ty)) (vs us : List Value), scVs l = some vs → us.length = l.length → (∀ (j : Nat) a u, l[j]? = some a → us[j]? = some u → RepV cx c a u) → us = vs
  | [], vs, us, h, hl, _ => by
    simp only [scVs, Option.some.injEq] at h
    subst h
    simpa using hl
  | x :: r, vs, us, h, hl, hr => by
    simp only [scVs] at h
    split at h
    · rename_i v l e1 e2
      simp only [Option.some.injEq] at h
      subst h
      match us, hl with
      | u :: us, hl =>
        have h1 := hr 0 x u rfl rfl
        have h2 := scVs_rep r l us e2 (by simpa using hl) (fun j a b h1 h2 => hr (j + 1) a b (by simpa using h1) (by simpa using h2))
        subst h2
        congr 1
        unfold scV at e1
        split at e1
        · simp only [Option.some.injEq] at e1
          subst e1
          exact h1
        · simp at e1
    · simp at h

theorem rsA_eq {ty : Nat → Type} : ∀ (l : List (A ty)) (vs : List Value), rsA l = some vs → l = vs.map fun v => .inl (lv v)
  | [], vs, h => by
    simp only [rsA, Option.some.injEq] at h
    subst h
    rfl
  | .inl (some (.inl v)) :: r, vs, h => by
    simp only [rsA] at h
    split at h
    · rename_i l e
      simp only [Option.some.injEq] at h
      subst h
      rw [rsA_eq r l e]
      rfl
    · simp at h
  | .inl none :: _, _, h => by simp [rsA] at h
  | .inl (some (.inr _)) :: _, _, h => by simp [rsA] at h
  | .inr _ :: _, _, h => by simp [rsA] at h

theorem OwnL_le {w : World} {n m : Nat} (hnm : n ≤ m) {l : L cx.ty} {u : Value} {fp : List Nat} (h : OwnL cx w n l u fp) : OwnL cx w m l u fp := by
  induction hnm with
  | refl => exact h
  | step _ ih => exact OwnL_succ _ _ _ _ ih

theorem set_splice {α : Type} (l : List α) (i : Nat) (x : α) (h : i < l.length) : l.set i x = splice l i [x] := by
  unfold splice
  rw [List.set_eq_take_append_cons_drop, if_pos h]
  simp

/-- The row with one leaf of a piece changed; of a wide piece the change alone is kept. -/
def setEL (cx : Cx) (e : Nat) (xs : List (cx.ty e)) (i off : Nat) (l : L cx.ty) (x' : cx.ty e) : List (cx.ty e) :=
  match Nat.ble (cx.size e) 5 with
  | true => xs.set i x'
  | false => xs.modify i fun y => match cx.dec e ((cx.enc e true y).set off l) with
    | some z => z
    | none => y
theorem setEL_eq {e : Nat} {xs : List (cx.ty e)} {i off : Nat} {l : L cx.ty} {x' : cx.ty e} (hi : i < xs.length) (h : cx.dec e ((cx.enc e true (xs.getD i (cx.dflt e))).set off l) = some x') : setEL cx e xs i off l x' = xs.set i x' := by
  unfold setEL
  split
  · rfl
  · apply List.ext_getElem?
    intro j
    rw [List.getElem?_modify, List.getElem?_set]
    by_cases hj : i = j
    · subst hj
      have hx : xs.getD i (cx.dflt e) = xs[i] := by simp [List.getD, hi]
      rw [hx] at h
      rw [if_pos rfl, if_pos hi, List.getElem?_eq_getElem hi]
      show some (if i = i then _ else _) = _
      rw [if_pos rfl, h]
    · rw [if_neg hj]
      cases xs[j]? <;> simp [hj]

def evCallE {β : Type} (P : Program) (f : FuncId) (W : WFn cx) (st : St cx.ty) (args : List Operand) (nm0 : Nat) (k : Eff cx.ty → List (Nat × SlD cx.ty) → Option β) : Option β :=
  match st.pend, args with
  | some (d, p), .tmp d' :: xs =>
    match P.funcs[f]?, scVs (xs.map (getV st.slots)), (cx.enc p.s.e true (p.s.xs.getD p.i (cx.dflt p.s.e)))[p.off]? with
    | some fn, some vs, some (some (.inr si)) =>
      if d' == d && fn.body.isSome && fn.name != "runtime.NumGoroutine" && si.own == 2 && W.n == 1 && p.s.own == 1 && p.s.nm == p.nm && p.s.o && decide (p.off < cx.size p.s.e) then
        match W.F (.inl (some (.inr si)) :: vs.map fun v => .inl (lv v)) with
        | some (pre, cs) => bif pre then
            match rsA (cs.take W.nres), cs.drop W.nres with
            | some rs, [.inl (some (.inr si'))] =>
              if si'.own == 2 && si'.nm == 0 && si'.o then
                match cx.dec p.s.e ((cx.enc p.s.e true (p.s.xs.getD p.i (cx.dflt p.s.e))).set p.off (some (.inr si'))) with
                | some x' => k { v := packV (rs.map fun v => .inl (lv v)), dead := [p.nm], frz := [], live := [p.nm], read := [] } [(p.nm, { own := 1, nm := nm0, e := p.s.e, o := true, xs := setEL cx p.s.e p.s.xs p.i p.off (some (.inr si')) x' })]
                | none => none
              else none
            | _, _ => none
          else none
        | none => none
      else none
    | _, _, _ => none
  | _, _ => none

theorem evCallE_ok (ok : cx.Ok) {β : Type} {o : Oper} {st : St cx.ty} {nm0 : Nat} {f : FuncId} {args : Array Operand} {ts : Array TypeId} {W : WFn cx} (hK : SatW P cx f W.nres W.n W.F)
    (ho : o.op = .call { callee := .value (.func f), args := args, argTypes := ts }) {k : Eff cx.ty → List (Nat × SlD cx.ty) → Option β} {r : β}
    (h : evCallE P f W st args.toList nm0 k = some r) : ∃ ef ps, k ef ps = some r ∧
      ∀ (c : Ct cx.ty) (a : Act), RS cx c st a → (∀ n ∈ ef.live, n ∉ c.D ∧ n ∉ c.F) → (∀ n, Nm c n → ¬ (nm0 ≤ n ∧ n < nm0 + 64)) → Runs P o a.eval c.w (fun u w' => ∃ T', GoodH cx c ef ps st.F nm0 u w' T') := by
  unfold evCallE at h
  split at h
  · rename_i d p d' xs hpend hargs
    split at h
    · rename_i fn vs si hfn hvs hleaf
      split at h
      · rename_i hc
        simp only [Bool.and_eq_true, beq_iff_eq, bne_iff_ne, ne_eq, decide_eq_true_eq] at hc
        obtain ⟨⟨⟨⟨⟨⟨⟨⟨rfl, hbody⟩, hname⟩, hsi⟩, hWn⟩, hown⟩, hsn⟩, hso⟩, hoff⟩ := hc
        split at h
        · rename_i pre cs hF
          cases pre with
          | false => simp at h
          | true =>
            simp only [cond_true] at h
            split at h
            · rename_i rs si' hrs hcs
              split at h
              · rename_i hc2
                simp only [Bool.and_eq_true, beq_iff_eq] at hc2
                obtain ⟨⟨hsi1, hsi2⟩, hsi3⟩ := hc2
                split at h
                · rename_i x' hdec
                  refine ⟨_, _, h, fun c a hrsx hlive hf => ?_⟩
                  have hw := hrsx.wf
                  obtain ⟨hnD, hnF, tk, ht, hn, hcc, hi, g, n0, cap0, hu, hcell⟩ := hrsx.pd d' p hpend
                  rw [setEL_eq hi hdec]
                  have htr := hw.rep tk ht
                  unfold TokRep at htr
                  rw [hcc] at htr
                  simp only [hso, if_true] at htr
                  obtain ⟨hvb, nn, htr⟩ := htr
                  obtain ⟨nn, rfl⟩ : ∃ m, nn = m + 1 := by
                    cases nn with
                    | zero => simp [OwnL] at htr
                    | succ m => exact ⟨m, rfl⟩
                  obtain ⟨us, fpl, ⟨hrl, hrow⟩, hfp, hul, hfl, hown1⟩ := htr
                  have hfp0 : tk.fp = List.flatten fpl := by
                    rw [hvb] at hfp
                    exact List.append_cancel_left hfp
                  rcases hrow with ⟨hbad, _⟩ | ⟨g', cap, cur, hu', hg0, hh, hncap, hcapm, hcur, htake⟩
                  · rw [hu] at hbad; simp at hbad
                  rw [hu] at hu'
                  simp only [Value.slice.injEq, Option.some.injEq, Addr.mk.injEq] at hu'
                  obtain ⟨⟨rfl, _⟩, rfl, rfl⟩ := hu'
                  -- the place
                  generalize hK0 : p.i * cx.size p.s.e + p.off = K0 at hcell
                  have hxi : p.s.xs[p.i]? = some (p.s.xs.getD p.i (cx.dflt p.s.e)) := by
                    rw [List.getElem?_eq_getElem hi]; simp [List.getD, hi]
                  have hlenE : (p.s.xs.flatMap (cx.enc p.s.e true)).length = p.s.xs.length * cx.size p.s.e := flat_len _ _ (fun x => ok.len p.s.e true x) _
                  have hmul : (p.i + 1) * cx.size p.s.e ≤ p.s.xs.length * cx.size p.s.e := Nat.mul_le_mul_right _ hi
                  have hmul2 : p.s.xs.length * cx.size p.s.e ≤ cap0 * cx.size p.s.e := Nat.mul_le_mul_right _ hncap
                  rw [Nat.add_mul, Nat.one_mul] at hmul
                  have husl : us.length = p.s.xs.length * cx.size p.s.e := by rw [hul, hlenE]
                  have hKu : K0 < us.length := by omega
                  have hKf : K0 < fpl.length := by omega
                  have hleafK : (p.s.xs.flatMap (cx.enc p.s.e true))[K0]? = some (some (.inr si)) := by
                    have := flat_get (cx.enc p.s.e true) (cx.size p.s.e) (fun x => ok.len p.s.e true x) p.s.xs p.i _ hxi p.off hoff
                    rw [hK0] at this
                    rw [this]; exact hleaf
                  have hu0 : a.tmps.getD d' undef = us[K0] := by
                    have h1 : c.w.cell? ⟨g, K0, none⟩ = some us[K0] := by
                      have hlt : K0 < cur.size := by omega
                      have : us[K0] = cur[K0] := by
                        have e : us[K0]? = cur[K0]? := by
                          rw [← htake, List.getElem?_take, if_pos (by omega)]
                          simp
                        rw [List.getElem?_eq_getElem hKu, Array.getElem?_eq_getElem hlt] at e
                        exact Option.some.inj e
                      rw [this]
                      simp [World.cell?, hh, hlt]
                    rw [hcell] at h1
                    exact Option.some.inj h1
                  have hin := hown1 K0 _ us[K0] fpl[K0] hleafK (List.getElem?_eq_getElem hKu) (List.getElem?_eq_getElem hKf)
                  generalize hfk : fpl[K0] = fk at hin
                  have hfkm : ∀ b ∈ fk, b ∈ tk.fp := fun b hb => by
                    rw [hfp0]
                    exact List.mem_flatten.2 ⟨fk, by rw [← hfk]; exact List.getElem_mem hKf, hb⟩
                  have htkn : (vb tk.u ++ tk.fp).Nodup := by
                    have hnd := hw.nodup
                    obtain ⟨l1, l2, hl2⟩ := List.append_of_mem ht
                    rw [hl2] at hnd
                    simp only [List.flatMap_append, List.flatMap_cons] at hnd
                    exact (List.nodup_append.1 (List.nodup_append.1 hnd).2.1).1
                  have hsplit : fpl = fpl.take K0 ++ fk :: fpl.drop (K0 + 1) := by
                    conv => lhs; rw [← List.take_append_drop K0 fpl, List.drop_eq_getElem_cons hKf, hfk]
                  have hflat : List.flatten fpl = List.flatten (fpl.take K0) ++ (fk ++ List.flatten (fpl.drop (K0 + 1))) := by
                    conv => lhs; rw [hsplit]
                    rw [List.flatten_append, List.flatten_cons]
                  have hfkn : fk.Nodup := by
                    have h1 := (List.nodup_append.1 htkn).2.1
                    rw [hfp0, hflat] at h1
                    exact (List.nodup_append.1 (List.nodup_append.1 h1).2.1).1
                  -- the call
                  have hvals : xs.map a.eval = vs := scVs_rep (c := c) _ _ _ hvs (by simp) (fun j b u e1 e2 => by
                    rw [List.getElem?_map] at e1 e2
                    cases hx : xs[j]? with
                    | none => rw [hx] at e1; simp at e1
                    | some y =>
                      rw [hx] at e1 e2
                      simp only [Option.map_some, Option.some.injEq] at e1 e2
                      subst e1; subst e2
                      exact eval_rep hrsx.rep y)
                  have hev : (args.map a.eval) = (us[K0] :: vs).toArray := by
                    apply Array.ext'
                    rw [Array.toList_map, hargs, List.map_cons, hvals]
                    show a.tmps.getD d' undef :: vs = us[K0] :: vs
                    rw [hu0]
                  have hresA : ResAs cx c.w (fun _ => False) (.inl (some (.inr si)) :: vs.map fun v => .inl (lv v)) (us[K0] :: vs) (fk :: List.replicate vs.length []) := by
                    refine ⟨by simp, by simp, fun j b u f' e1 e2 e3 => ?_⟩
                    cases j with
                    | zero =>
                      simp only [List.getElem?_cons_zero, Option.some.injEq] at e1 e2 e3
                      subst e1; subst e2; subst e3
                      show ResL cx c.w _ (some (.inr si)) us[K0] fk
                      unfold ResL
                      simp only [hsi, if_true]
                      refine ⟨?_, nn, hin⟩
                      rcases ok.leaf p.s.e true _ _ (List.mem_of_getElem? hleaf) with ⟨v, hv, _⟩ | ⟨s2, hs2, _⟩
                      · cases hv
                      · have h1 := congrArg (fun l => l[p.off]?) (ok.weak p.s.e true true (p.s.xs.getD p.i (cx.dflt p.s.e)))
                        simp only [List.getElem?_map, hleaf, Option.map_some, Option.some.injEq] at h1
                        have h2 := congrArg (fun q : L cx.ty => match q with | some (.inr s) => s.o | _ => true) h1
                        exact h2.symm
                    | succ j =>
                      simp only [List.getElem?_cons_succ, List.getElem?_map] at e1 e2 e3
                      rw [e2] at e1
                      simp only [Option.map_some, Option.some.injEq] at e1
                      subst e1
                      have : f' = [] := (List.mem_replicate.1 (List.mem_of_getElem? e3)).2
                      exact ⟨rfl, this⟩
                  have hflt0 : List.flatten (fk :: List.replicate vs.length []) = fk := by
                    rw [List.flatten_cons]
                    have : List.flatten (List.replicate vs.length ([] : List Nat)) = [] := flatten_nil (fun f hf => (List.mem_replicate.1 hf).2)
                    rw [this, List.append_nil]
                  have hcall := hK c.w _ _ _ cs hresA (by rw [hflt0]; exact hfkn) (by rw [hflt0]; exact fun b hb => (hw.bound tk ht b (List.mem_append.2 (.inr (hfkm b hb)))).2) hF
                  rw [hflt0] at hcall
                  unfold Runs
                  have hrun : (execOp a.eval o).run P c.w = .ok (.enter f (args.map a.eval)) c.w := by
                    have hb : ¬ fn.body = none := by
                      intro hbb
                      simp [hbb] at hbody
                    have hfv : a.eval (.func f) = .func (.func f) #[] #[] := rfl
                    unfold execOp
                    simp [ho, resolve, Deferred.ofValue, invoke, callFunc, hfv, hfn, hb, hname]
                  rw [hrun, hev]
                  refine hcall.mono fun e w' ⟨rv, he, hrl2, hkept, hresv⟩ => ⟨_, he, ?_⟩
                  rw [hWn] at hresv
                  obtain ⟨fpn, hnd2, hbd2, us2, fps2, hus2, hfp2, hres2⟩ := hresv
                  have hus2 : us2 = rv ++ [us[K0]] := by
                    simp only [Value.tuple.injEq] at hus2
                    have := congrArg Array.toList hus2
                    simpa using this.symm
                  subst hus2
                  have hcse : cs = (rs.map fun v => .inl (lv v)) ++ [.inl (some (.inr si'))] := by
                    rw [← rsA_eq _ _ hrs, ← hcs, List.take_append_drop]
                  have hrsl : rs.length = rv.length := by
                    have := hres2.1
                    rw [hcse] at this
                    simp at this
                    omega
                  have hfl2 : fps2.length = rs.length + 1 := by rw [hres2.2.1, hcse]; simp
                  have hrv : rv = rs ∧ ∀ j, j < rs.length → fps2[j]? = some [] := by
                    have key : ∀ j, j < rs.length → rv[j]? = rs[j]? ∧ fps2[j]? = some [] := fun j hj => by
                      have hjv : j < rv.length := by omega
                      have hjf : j < fps2.length := by omega
                      have := hres2.2.2 j (.inl (lv rs[j])) rv[j] fps2[j] (by rw [hcse, List.getElem?_append_left (by simpa using hj), List.getElem?_map, List.getElem?_eq_getElem hj]; rfl) (by rw [List.getElem?_append_left hjv, List.getElem?_eq_getElem hjv]) (List.getElem?_eq_getElem hjf)
                      obtain ⟨h1, h2⟩ := (this : rv[j] = rs[j] ∧ fps2[j] = [])
                      exact ⟨by rw [List.getElem?_eq_getElem hjv, List.getElem?_eq_getElem hj, h1], by rw [List.getElem?_eq_getElem hjf, h2]⟩
                    refine ⟨?_, fun j hj => (key j hj).2⟩
                    apply List.ext_getElem?
                    intro j
                    by_cases hj : j < rs.length
                    · exact (key j hj).1
                    · rw [List.getElem?_eq_none (by omega), List.getElem?_eq_none (by omega)]
                  obtain ⟨hrv, hfe⟩ := hrv
                  subst hrv
                  have hKl : rv.length < fps2.length := by omega
                  have hfps2 : fps2 = List.replicate rv.length [] ++ [fps2[rv.length]] := by
                    apply List.ext_getElem?
                    intro j
                    by_cases hj : j < rv.length
                    · rw [hfe j hj, List.getElem?_append_left (by simpa using hj)]
                      simp [hj]
                    · by_cases hj2 : j = rv.length
                      · subst hj2
                        rw [List.getElem?_append_right (by simp), List.length_replicate, Nat.sub_self, List.getElem?_eq_getElem hKl]
                        rfl
                      · rw [List.getElem?_eq_none (by omega), List.getElem?_eq_none (by simp; omega)]
                  have hfpn : fpn = fps2[rv.length] := by
                    rw [hfp2]
                    conv => lhs; rw [hfps2]
                    rw [List.flatten_append, flatten_nil (fun f hf => (List.mem_replicate.1 hf).2)]
                    simp
                  have hlast := hres2.2.2 rv.length (.inl (some (.inr si'))) us[K0] fps2[rv.length] (by rw [hcse, List.getElem?_append_right (by simp)]; simp) (by rw [List.getElem?_append_right (Nat.le_refl _)]; simp) (List.getElem?_eq_getElem hKl)
                  rw [← hfpn] at hlast
                  have hlast : ResL cx w' _ (some (.inr si')) us[K0] fpn := hlast
                  unfold ResL at hlast
                  simp only [hsi1, if_true] at hlast
                  obtain ⟨_, m, hnew⟩ := hlast
                  -- the row anew
                  have hgin : g ∈ vb tk.u := by rw [hu]; simp [vb]
                  have hgb := hw.bound tk ht g (List.mem_append.2 (.inl hgin))
                  have hgfp : g ∉ tk.fp := fun hg2 => (List.nodup_append.1 htkn).2.2 g hgin g hg2 rfl
                  have hheap : ∀ b, b < c.w.heap.size → b ∉ fk → w'.heap[b]? = c.w.heap[b]? := fun b h1 h2 => hkept.block b (by
                    rintro (h3 | h3)
                    · omega
                    · exact h2 h3)
                  have hdisj : ∀ b ∈ fpn, b ∉ vb tk.u ∧ b ∉ List.flatten (fpl.take K0) ∧ b ∉ List.flatten (fpl.drop (K0 + 1)) := fun b hb => by
                    rcases (hbd2 b hb).1 with h1 | h1
                    · have old : ∀ b2 ∈ vb tk.u ++ tk.fp, b2 < c.w.heap.size := fun b2 h2 => (hw.bound tk ht b2 h2).2
                      refine ⟨fun h2 => ?_, fun h2 => ?_, fun h2 => ?_⟩
                      · have := old b (List.mem_append.2 (.inl h2)); omega
                      · have := old b (List.mem_append.2 (.inr (by rw [hfp0, hflat]; exact List.mem_append.2 (.inl h2)))); omega
                      · have := old b (List.mem_append.2 (.inr (by rw [hfp0, hflat]; exact List.mem_append.2 (.inr (List.mem_append.2 (.inr h2)))))); omega
                    · have h3 := (List.nodup_append.1 htkn).2.1
                      rw [hfp0, hflat] at h3
                      refine ⟨fun h2 => (List.nodup_append.1 htkn).2.2 b h2 b (hfkm b h1) rfl, fun h2 => (List.nodup_append.1 h3).2.2 b h2 b (List.mem_append.2 (.inl h1)) rfl, fun h2 => (List.nodup_append.1 (List.nodup_append.1 h3).2.1).2.2 b h1 b h2 rfl⟩
                  have hfset : List.flatten (fpl.set K0 fpn) = List.flatten (fpl.take K0) ++ (fpn ++ List.flatten (fpl.drop (K0 + 1))) := by
                    rw [List.set_eq_take_append_cons_drop, if_pos hKf, List.flatten_append, List.flatten_cons]
                  have henc : cx.enc p.s.e true x' = splice (cx.enc p.s.e true (p.s.xs.getD p.i (cx.dflt p.s.e))) p.off [some (.inr si')] := by
                    have hofl : p.off < (cx.enc p.s.e true (p.s.xs.getD p.i (cx.dflt p.s.e))).length := by rw [ok.len]; exact hoff
                    rw [← ok.dec _ _ _ true hdec, set_splice _ _ _ hofl, splice_map, ok.weak]
                    congr 1
                    obtain ⟨o1, o2, o3, o4, o5⟩ := si'
                    simp only at hsi1 hsi2 hsi3
                    subst hsi1; subst hsi2; subst hsi3
                    rfl
                  have hset := flat_set (cx.enc p.s.e true) (cx.size p.s.e) (fun x => ok.len p.s.e true x) p.s.xs p.i _ x' hxi p.off [some (.inr si')] (by simp only [List.length_cons, List.length_nil]; omega) henc
                  rw [hK0] at hset
                  let tkn : Tk cx.ty := { nm := nm0, u := tk.u, fp := List.flatten (fpl.set K0 fpn), c := .inl { own := 1, nm := nm0, e := p.s.e, o := true, xs := p.s.xs.set p.i x' } }
                  refine ⟨_, good_hard (N := [tkn]) (G := fun b => b ∈ fk) hw rfl hrsx.frz hf (fun n hn2 => ?_) (fun b hb => ⟨tk, ht, ?_, List.mem_append.2 (.inr (hfkm b hb))⟩) hkept (fun t2 h2 => ?_) (by simp) ?_ (fun t2 h2 b hb => ?_) (fun t2 h2 => ?_) (fun q hq => ?_) (fun q hq t2 h2 hn2 => ?_) ?_⟩
                  · simp only [List.mem_singleton] at hn2
                    subst hn2
                    exact ⟨tk, ht, hn, _, hcc⟩
                  · show tk.nm ∈ [p.nm]
                    rw [hn]; simp
                  · simp only [List.mem_singleton] at h2
                    subst h2
                    exact ⟨Nat.le_refl _, by show nm0 < nm0 + 64; omega⟩
                  · show (List.flatMap (fun tk : Tk cx.ty => vb tk.u ++ tk.fp) [tkn]).Nodup
                    simp only [List.flatMap_cons, List.flatMap_nil, List.append_nil]
                    show (vb tk.u ++ List.flatten (fpl.set K0 fpn)).Nodup
                    have h3 := htkn
                    rw [hfp0, hflat] at h3
                    obtain ⟨n1, n2, n3⟩ := List.nodup_append.1 h3
                    obtain ⟨n4, n5, n6⟩ := List.nodup_append.1 n2
                    obtain ⟨n7, n8, n9⟩ := List.nodup_append.1 n5
                    rw [hfset, List.nodup_append]
                    refine ⟨n1, ?_, fun x hx y hy he => ?_⟩
                    · rw [List.nodup_append]
                      refine ⟨n4, ?_, fun x hx y hy he => ?_⟩
                      · rw [List.nodup_append]
                        exact ⟨hnd2, n8, fun x hx y hy he => by subst he; exact (hdisj x hx).2.2 hy⟩
                      · subst he
                        rcases List.mem_append.1 hy with hy | hy
                        · exact (hdisj x hy).2.1 hx
                        · exact n6 x hx x (List.mem_append.2 (.inr hy)) rfl
                    · subst he
                      rcases List.mem_append.1 hy with hy | hy
                      · exact n3 x hx x (List.mem_append.2 (.inl hy)) rfl
                      · rcases List.mem_append.1 hy with hy | hy
                        · exact (hdisj x hy).1 hx
                        · exact n3 x hx x (List.mem_append.2 (.inr (List.mem_append.2 (.inr hy)))) rfl
                  · simp only [List.mem_singleton] at h2
                    subst h2
                    have hb : b ∈ vb tk.u ++ List.flatten (fpl.set K0 fpn) := hb
                    have hold : b ∈ vb tk.u ++ tk.fp → (c.w.heap.size ≤ b ∨ ∃ t2 ∈ c.T, t2.nm ∈ [p.nm] ∧ b ∈ blocks t2) ∧ b < w'.heap.size := fun hb => ⟨.inr ⟨tk, ht, by rw [hn]; simp, hb⟩, Nat.lt_of_lt_of_le (hw.bound tk ht b hb).2 hkept.size⟩
                    rw [hfset] at hb
                    rcases List.mem_append.1 hb with hb | hb
                    · exact hold (List.mem_append.2 (.inl hb))
                    · rcases List.mem_append.1 hb with hb | hb
                      · exact hold (List.mem_append.2 (.inr (by rw [hfp0, hflat]; exact List.mem_append.2 (.inl hb))))
                      · rcases List.mem_append.1 hb with hb | hb
                        · refine ⟨?_, (hbd2 b hb).2⟩
                          rcases (hbd2 b hb).1 with h1 | h1
                          · exact .inl h1
                          · exact .inr ⟨tk, ht, by rw [hn]; simp, List.mem_append.2 (.inr (hfkm b h1))⟩
                        · exact hold (List.mem_append.2 (.inr (by rw [hfp0, hflat]; exact List.mem_append.2 (.inr (List.mem_append.2 (.inr hb))))))
                  · simp only [List.mem_singleton] at h2
                    subst h2
                    unfold TokRep
                    simp only
                    refine ⟨hvb, nn + m + 1, us, fpl.set K0 fpn, ?_, by rw [← hvb], ?_, by rw [List.length_set]; exact hfl, fun j q v f' e1 e2 e3 => ?_⟩
                    · refine ⟨by simp only [List.length_set]; exact hrl, .inr ⟨g, cap0, cur, ?_, hg0, ?_, ?_, hcapm, hcur, ?_⟩⟩
                      · simp only [List.length_set]; exact hu
                      · show w'.heap[g]? = _; rw [hheap g hgb.2 (fun hx => hgfp (hfkm g hx))]; exact hh
                      · simp only [List.length_set]; exact hncap
                      · simp only [List.length_set]; exact htake
                    · simp only
                      rw [hul, flat_len _ _ (fun x => ok.len p.s.e true x), flat_len _ _ (fun x => ok.len p.s.e true x), List.length_set]
                    · simp only at e1
                      rw [hset, splice_get (by simp only [List.length_cons, List.length_nil]; omega)] at e1
                      by_cases hj : j = K0
                      · subst hj
                        rw [if_pos ⟨Nat.le_refl _, by simp⟩, Nat.sub_self] at e1
                        simp only [List.getElem?_cons_zero, Option.some.injEq] at e1
                        subst e1
                        rw [List.getElem?_eq_getElem hKu] at e2
                        rw [List.getElem?_set_self hKf] at e3
                        cases e2
                        cases e3
                        exact OwnL_le (by omega) hnew
                      · rw [if_neg (by simp only [List.length_cons, List.length_nil]; omega)] at e1
                        rw [List.getElem?_set_ne (Ne.symm hj)] at e3
                        refine OwnL_le (by omega) (OwnL_mono cx nn q v f' (fun b hb => ?_) (hown1 j q v f' e1 e2 e3))
                        have hjf : j < fpl.length := (List.getElem?_eq_some_iff.1 e3).1
                        have hbf : b ∈ tk.fp := by rw [hfp0]; exact List.mem_flatten.2 ⟨f', List.mem_of_getElem? e3, hb⟩
                        refine hheap b (hw.bound tk ht b (List.mem_append.2 (.inr hbf))).2 (fun hbk => ?_)
                        -- two pieces of one tree
                        have h3 := (List.nodup_append.1 htkn).2.1
                        rw [hfp0, hflat] at h3
                        obtain ⟨n4, n5, n6⟩ := List.nodup_append.1 h3
                        obtain ⟨n7, n8, n9⟩ := List.nodup_append.1 n5
                        rcases Nat.lt_or_gt_of_ne hj with hlt | hgt
                        · exact n6 b (List.mem_flatten.2 ⟨f', List.mem_of_getElem? (by rw [List.getElem?_take, if_pos hlt]; exact e3), hb⟩) b (List.mem_append.2 (.inl hbk)) rfl
                        · exact n9 b hbk b (List.mem_flatten.2 ⟨f', List.mem_of_getElem? (i := j - (K0 + 1)) (by rw [List.getElem?_drop, show K0 + 1 + (j - (K0 + 1)) = j by omega]; exact e3), hb⟩) rfl
                  · simp only [List.mem_singleton] at hq
                    subst hq
                    exact hlive p.nm (by simp)
                  · simp only [List.mem_singleton] at hq
                    subst hq
                    have := uniq_tok hw h2 ht (hn2.trans hn.symm)
                    subst this
                    exact ⟨rfl, ⟨Nat.le_refl _, by show nm0 < nm0 + 64; omega⟩, tkn, by simp, rfl, rfl, rfl⟩
                  · refine packV_rep ⟨by simp, fun j b u e1 e2 => ?_⟩
                    rw [List.getElem?_map, e2] at e1
                    simp only [Option.map_some, Option.some.injEq] at e1
                    subst e1
                    exact rfl
                · simp at h
              · simp at h
            · simp at h
        · simp at h
      · simp at h
    · simp at h
  · simp at h
end
end Go.VM
