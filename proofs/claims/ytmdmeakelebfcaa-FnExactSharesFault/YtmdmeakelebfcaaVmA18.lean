/- A part of the proof of FnExactSharesFault: VmA18. -/
import Derived.Test.YtmdmeakelebfcaaVmA17
namespace Go.VM
open Go.RowKit
section
variable {cx : Cx} {P : Program}

/-! ### A window that is put into a row of rows: its box is frozen there -/
theorem winA_repS (ok : cx.Ok) {c : Ct cx.ty} (hw : Wf cx c) {t : TypeId} {p : Pt cx.ty} {a : A cx.ty} (ha : winA P cx t p = some a) {u : Value} (h : RepP cx c p u) {S : Nat → Prop}
    (hS : ∀ tk ∈ c.T, ∀ g, tk.nm = p.nm → tk.u = .pointer (some ⟨g, 0, none⟩) → S g) : p.kind = 0 ∧ (∃ tk ∈ c.T, tk.nm = p.nm ∧ ∃ l, tk.c = .inr l) ∧ ∃ s, a = .inl (some (.inr s)) ∧ s.own = 0 ∧ ∃ n, RepL cx c.w S n (some (.inr s)) u := by
  unfold winA at ha
  split at ha
  · rename_i e he
    split at ha
    · rename_i hc
      simp only [Bool.and_eq_true, beq_iff_eq, decide_eq_true_eq] at hc
      obtain ⟨⟨⟨⟨hk0, hi⟩, hflat⟩, hsz⟩, hfit⟩ := hc
      split at ha
      · rename_i xs hxs
        simp only [Option.some.injEq] at ha
        subst ha
        obtain ⟨m, hm⟩ : ∃ m, p.i = m + 1 := ⟨p.i - 1, by omega⟩
        rw [hm] at hxs hfit
        simp only [Nat.add_sub_cancel] at hxs hfit
        unfold RepP at h
        simp only [hk0, hm] at h
        obtain ⟨tk, ht, hnm, hcc, g, htu, hpa⟩ := h
        have hpa : u = .slice (some ⟨g, p.off, none⟩) m m := hpa
        have htr := hw.rep tk ht
        unfold TokRep at htr
        rw [hcc] at htr
        obtain ⟨hfp, g', cur, et, hu', hh, hcells⟩ := htr
        rw [htu] at hu'
        simp only [Value.pointer.injEq, Option.some.injEq, Addr.mk.injEq] at hu'
        obtain ⟨rfl, _⟩ := hu'
        obtain ⟨hxl, hxw⟩ := decN_spec ok false m _ xs hxs
        refine ⟨hk0, ⟨tk, ht, hnm, _, hcc⟩, _, rfl, rfl, 2, some ⟨g, p.off, none⟩, m, by rw [hpa, ← hxl]; rfl, by show xs.length ≤ m; omega, .inr ⟨g, p.off, rfl, hS tk ht g hnm htu, fun i y hy j l hl => ?_⟩⟩
        have hl : (cx.enc e false y)[j]? = some l := hl
        have hy : xs[i]? = some y := hy
        have hj : j < 1 := by
          have h8 := (List.getElem?_eq_some_iff.1 hl).1
          have h9 : (cx.enc e false y).length = cx.size e := ok.len e false y
          omega
        have hfg := flat_get (cx.enc e false) 1 (fun x => by rw [ok.len, hsz]) xs i y hy j hj
        rw [← hxw, hl, List.getElem?_map] at hfg
        obtain ⟨v, hv⟩ := ok.flat e false y hflat l (List.mem_of_getElem? hl)
        subst hv
        cases hl0 : ((p.cells.drop p.off).take m)[i * 1 + j]? with
        | none => rw [hl0] at hfg; simp at hfg
        | some l0 =>
          rw [hl0] at hfg
          simp only [Option.map_some, Option.some.injEq] at hfg
          have hl1 : l0 = some (.inl v) := by
            unfold weak at hfg
            split at hfg
            · simp at hfg
            · exact hfg
          have hlm : i * 1 + j < m := by
            have := (List.getElem?_eq_some_iff.1 hl0).1
            simp at this
            omega
          have hl2 : p.cells[p.off + (i * 1 + j)]? = some l0 := by
            rw [List.getElem?_take_of_lt hlm, List.getElem?_drop] at hl0
            exact hl0
          have hlt : p.off + (i * 1 + j) < cur.toList.length := by
            rw [hcells.1]
            exact (List.getElem?_eq_some_iff.1 hl2).1
          have hcv := hcells.2 _ l0 _ hl2 (List.getElem?_eq_getElem hlt)
          rw [hl1] at hcv
          have hcv : cur.toList[p.off + (i * 1 + j)] = v := hcv
          refine ⟨v, ?_, rfl⟩
          show c.w.cell? ⟨g, p.off + (i * cx.size e + j), none⟩ = some v
          rw [hsz]
          simp only [World.cell?, hh]
          simp only [← hcv]
          simp
      · simp at ha
    · simp at ha
  · simp at ha

def St.frzW {ty : Nat → Type} (st : St ty) (t nm : Nat) (a : A ty) : St ty := { st with slots := (st.slots.map (killB nm)).set t (.inl a) }

theorem frzW_ok (ok : cx.Ok) {st : St cx.ty} {c : Ct cx.ty} {act : Act} (h : RS cx c st act) {t : Nat} {p : Pt cx.ty} (hp : st.slots.getD t junk = .inr (.inr p)) {te : TypeId} {s : A cx.ty} (hwin : winA P cx te p = some s) :
    ∃ c', RS cx c' (st.frzW t p.nm s) act ∧ c'.w = c.w ∧ c'.S = c.S ∧ c'.N = c.N ∧ c'.K = c.K := by
  have hr := h.rep t
  rw [hp] at hr
  have hr : RepP cx c p (act.tmps.getD t undef) := hr
  let c' : Ct cx.ty := { c with T := c.T.filter (fun t2 => !(t2.nm == p.nm)) }
  have hmem : ∀ t2, t2 ∈ c'.T ↔ t2 ∈ c.T ∧ t2.nm ≠ p.nm := fun t2 => by simp [c', List.mem_filter]
  obtain ⟨hk0, ⟨tk, ht, hnm, lb, hcc⟩, sl, hs, hown, n, hrep⟩ := winA_repS ok h.wf hwin hr (S := Rd c') (fun tk ht g hnm htu => by
    have hgv : g ∈ vb tk.u := by rw [htu]; simp [vb]
    have hgb := h.wf.bound tk ht g (List.mem_append.2 (.inl hgv))
    exact ⟨hgb.2, .inr hgb.1, fun t2 h2 hv => by
      obtain ⟨q1, q2⟩ := (hmem t2).1 h2
      exact disjoint_toks h.wf q1 ht (fun e => q2 (e.trans hnm)) (List.mem_append.2 (.inl hv)) (List.mem_append.2 (.inl hgv))⟩)
  have hib : ∀ t2 ∈ c.T, t2.nm = p.nm → ∃ l, t2.c = .inr l := fun t2 h2 hn2 => by
    have := uniq_tok h.wf h2 ht (hn2.trans hnm.symm)
    subst this
    exact ⟨_, hcc⟩
  have hP : PresX (fun n => n = p.nm) c c' := ⟨fun b hb => ⟨⟨hb.1, hb.2.1, fun t2 h2 => hb.2.2 t2 ((hmem t2).1 h2).1⟩, rfl⟩, rfl, rfl, fun t2 h2 hX s hs => (hmem t2).2 ⟨h2, hX⟩, fun t2 h2 hX l hl => ⟨t2, (hmem t2).2 ⟨h2, hX⟩, rfl, rfl, hl⟩⟩
  have hnew : RepLS cx c' (some (.inr sl)) (act.tmps.getD t undef) := by
    unfold RepLS
    have : ¬ sl.own = 1 := by omega
    simp only [this, if_false]
    exact ⟨n, hrep⟩
  refine ⟨c', ⟨⟨?_, ?_, fun t2 h2 => h.wf.bound t2 ((hmem t2).1 h2).1, fun t2 h2 => ?_, h.wf.start, fun t2 h2 => h.wf.live t2 ((hmem t2).1 h2).1, h.wf.size⟩, ?_, fun t2 => ?_, h.defers, h.dead, h.frz, fun n hn => ?_, h.kp⟩, rfl, rfl, rfl, rfl⟩
  · exact (List.Sublist.map _ List.filter_sublist).nodup h.wf.names
  · exact filter_sub_nodup _ h.wf.nodup
  · obtain ⟨q1, q2⟩ := (hmem t2).1 h2
    have hold := h.wf.rep t2 q1
    unfold TokRep at hold ⊢
    split at hold
    · obtain ⟨hv, hold⟩ := hold
      refine ⟨hv, ?_⟩
      split at hold
      · rename_i hso
        rw [if_pos hso]
        exact hold
      · rename_i hso
        rw [if_neg hso]
        obtain ⟨hf, us, m, hrow, hl2, hr⟩ := hold
        exact ⟨hf, us, m, hrow, hl2, fun j l v h1 h2 => RepL_mono cx (fun b hb => (hP.rd b hb).2) (fun b hb => (hP.rd b hb).1) m l v (hr j l v h1 h2)⟩
    · obtain ⟨hf, g2, cur2, e2, hu2, hh2, hr⟩ := hold
      exact ⟨hf, g2, cur2, e2, hu2, hh2, hr.1, fun j a b e1 e2 => repLS_box hP hib (hr.2 j a b e1 e2)⟩
  · show act.tmps.size = ((st.slots.map (killB p.nm)).set t (.inl s)).length
    rw [List.length_set, List.length_map]
    exact h.size
  · have hk : (st.slots.map (killB p.nm)).getD t2 junk = killB p.nm (st.slots.getD t2 junk) := by
      by_cases hlt : t2 < st.slots.length
      · simp [List.getD, hlt]
      · simp [List.getD, List.getElem?_eq_none (Nat.le_of_not_lt hlt), junk, killB]
    have hold := killB_rep hP hib (h.rep t2)
    rw [← hk] at hold
    show RepV cx c' (((st.slots.map (killB p.nm)).set t (.inl s)).getD t2 junk) _
    by_cases htt : t = t2
    · subst htt
      by_cases hlt : t < (st.slots.map (killB p.nm)).length
      · have : ((st.slots.map (killB p.nm)).set t (.inl s)).getD t junk = .inl s := by
          simp only [List.getD, List.getElem?_set_self hlt, Option.getD_some]
        rw [this, hs]
        exact hnew
      · rw [List.set_eq_of_length_le (by omega)]
        exact hold
    · have : ((st.slots.map (killB p.nm)).set t (.inl s)).getD t2 junk = (st.slots.map (killB p.nm)).getD t2 junk := by
        simp only [List.getD, List.getElem?_set_ne htt]
      rw [this]
      exact hold
  · have hn' : Nm c n := by
      rcases hn with ⟨t2, h2, rfl⟩ | hn | hn
      · exact .inl ⟨t2, ((hmem t2).1 h2).1, rfl⟩
      · exact .inr (.inl hn)
      · exact .inr (.inr hn)
    exact h.names n hn'

def frzParts (P : Program) (cx : Cx) (te : TypeId) : List Operand → St cx.ty → St cx.ty
  | [], st => st
  | x :: r, st => match x with
    | .tmp t => match st.slots.getD t junk with
      | .inr (.inr p) => match winA P cx te p with
        | some a => frzParts P cx te r (st.frzW t p.nm a)
        | none => frzParts P cx te r st
      | _ => frzParts P cx te r st
    | _ => frzParts P cx te r st

theorem frzParts_ok (ok : cx.Ok) {te : TypeId} {act : Act} : ∀ (l : List Operand) (st : St cx.ty) (c : Ct cx.ty), RS cx c st act → ∃ c', RS cx c' (frzParts P cx te l st) act ∧ c'.w = c.w ∧ c'.S = c.S ∧ c'.N = c.N ∧ c'.K = c.K
  | [], st, c, h => ⟨c, h, rfl, rfl, rfl, rfl⟩
  | x :: r, st, c, h => by
    unfold frzParts
    split
    · split
      · rename_i p hp
        split
        · rename_i a ha
          obtain ⟨c1, h1, e1, e2, e3, e4⟩ := frzW_ok ok h hp ha
          obtain ⟨c2, h2, f1, f2, f3, f4⟩ := frzParts_ok ok r _ c1 h1
          exact ⟨c2, h2, f1.trans e1, f2.trans e2, f3.trans e3, f4.trans e4⟩
        · exact frzParts_ok ok r st c h
      · exact frzParts_ok ok r st c h
    · exact frzParts_ok ok r st c h

/-- The state ahead of an operation. -/
def preSt (P : Program) (cx : Cx) (st : St cx.ty) (o : Oper) : St cx.ty :=
  match o.op with
  | .buildSlice t _ parts => match sliceElem P t with
    | some te => frzParts P cx te (parts.toList.map (·.2)) st
    | none => st
  | _ => st

theorem preSt_ok (ok : cx.Ok) {act : Act} {st : St cx.ty} {c : Ct cx.ty} (o : Oper) (h : RS cx c st act) : ∃ c', RS cx c' (preSt P cx st o) act ∧ c'.w = c.w ∧ c'.S = c.S ∧ c'.N = c.N ∧ c'.K = c.K := by
  unfold preSt
  split
  · split
    · exact frzParts_ok ok _ st c h
    · exact ⟨c, h, rfl, rfl, rfl, rfl⟩
  · exact ⟨c, h, rfl, rfl, rfl, rfl⟩

end
end Go.VM
