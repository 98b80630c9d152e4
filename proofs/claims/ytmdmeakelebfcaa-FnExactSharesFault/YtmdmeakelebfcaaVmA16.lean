/- A part of the proof of FnExactSharesFault: VmA16. -/
import Derived.Test.YtmdmeakelebfcaaVmA15
namespace Go.VM
open Go.RowKit
section
variable {cx : Cx} {P : Program}

/-! ### An array in a box, sliced whole: it is read alone from then on -/
def killB {ty : Nat → Type} (nm : Nat) (v : V ty) : V ty :=
  match v with
  | .inr (.inr p) => if p.kind == 0 && p.nm == nm then junk else .inr (.inr p)
  | v => v

theorem killB_rep {nm : Nat} {c c' : Ct cx.ty} (h : PresX (fun n => n = nm) c c') (hib : ∀ tk ∈ c.T, tk.nm = nm → ∃ l, tk.c = .inr l)
    {v : V cx.ty} {u : Value} (hr : RepV cx c v u) : RepV cx c' (killB nm v) u := by
  have leaf : ∀ {l : L cx.ty} {u : Value}, RepLS cx c l u → RepLS cx c' l u := fun hl => repLS_box h hib hl
  have agg : ∀ {a : A cx.ty} {u : Value}, RepA cx c a u → RepA cx c' a u := by
    intro a u ha
    match a, ha with
    | .inl l, ha => exact leaf ha
    | .inr l, ⟨us, hu, h1, h2⟩ => exact ⟨us, hu, h1, fun j a b e1 e2 => leaf (h2 j a b e1 e2)⟩
  have el : ∀ {s : SlD cx.ty} {i b o : Nat}, RepEl cx c s i b o → RepEl cx c' s i b o := by
    rintro s i b o ⟨hb, x, hx, n, hr⟩
    refine ⟨(h.rd b hb).1, x, hx, n, fun j l hl => ?_⟩
    obtain ⟨v, hv, hr⟩ := hr j l hl
    exact ⟨v, by rw [World.cell?_of_block (h.rd b hb).2]; exact hv, RepL_mono cx (fun b hb => (h.rd b hb).2) (fun b hb => (h.rd b hb).1) _ _ _ hr⟩
  match v, hr with
  | .inl a, hr => exact agg hr
  | .inr (.inl l), ⟨us, hu, h1, h2⟩ => exact ⟨us, hu, h1, fun j a b e1 e2 => agg (h2 j a b e1 e2)⟩
  | .inr (.inr p), hr =>
    have hr : RepP cx c p u := hr
    simp only [killB]
    by_cases hkn : (p.kind == 0 && p.nm == nm) = true
    · rw [if_pos hkn]; trivial
    · rw [if_neg hkn]
      show RepP cx c' p u
      unfold RepP at hr ⊢
      split at hr
      · rename_i hk
        obtain ⟨tk, k1, k2, k3, g, k4, k5⟩ := hr
        have hn : p.nm ≠ nm := fun e => hkn (by simp [hk, e])
        obtain ⟨tk', m1, m2, m3, m4⟩ := h.box tk k1 (by rw [k2]; exact hn) _ k3
        exact ⟨tk', m1, by rw [m2, k2], m4, g, by rw [m3]; exact k4, k5⟩
      · simp only [h.dead, h.frz] at hr ⊢
        split at hr
        · rename_i hd; rw [if_pos hd]; trivial
        · rename_i hd
          rw [if_neg hd]
          split at hr
          · rename_i hf
            rw [if_pos hf]
            obtain ⟨b, o, hu, hr⟩ := hr
            exact ⟨b, o, hu, el hr⟩
          · rename_i hf
            rw [if_neg hf]
            obtain ⟨tk, k1, k2, k3, k4⟩ := hr
            by_cases hn : tk.nm = nm
            · obtain ⟨l, hl⟩ := hib tk k1 hn
              rw [k3] at hl
              cases hl
            · exact ⟨tk, h.tok tk k1 hn _ k3, k2, k3, k4⟩
      · obtain ⟨b, o, hu, hr⟩ := hr
        exact ⟨b, o, hu, el hr⟩
      · trivial

/-- The pointer, the element's type, what the array bears. -/
def arrBox (P : Program) (cx : Cx) (slots : List (V cx.ty)) (o : Oper) : Option (Pt cx.ty × (e : Nat) × List (cx.ty e)) :=
  match o.guard, o.op with
  | none, .slice t x none none none => match getV slots x, arrOf P t with
    | .inr (.inr p), some (n, e) => if p.kind == 0 && p.off == 0 && p.i == 0 && n == p.cells.length && decide (0 < n) && cx.flat e && elemOk P cx e && cx.size e == 1 then
          match decN cx e n p.cells with
          | some xs => some (p, ⟨e, xs⟩)
          | none => none
        else none
    | _, _ => none
  | _, _ => none

def St.frzB {ty : Nat → Type} (st : St ty) (d : Option Tmp) (nm : Nat) (v : V ty) : St ty :=
  { slots := setO (st.slots.map (killB nm)) d v, D := st.D, F := st.F, ctr := st.ctr + 1, lo := st.lo }

theorem arrBox_ok (ok : cx.Ok) {st : St cx.ty} {o : Oper} {p : Pt cx.ty} {e : Nat} {xs : List (cx.ty e)} (hb : arrBox P cx st.slots o = some (p, ⟨e, xs⟩)) {c : Ct cx.ty} {a : Act} (h : RS cx c st a) (hlo : loO st.lo o.dst = true) :
    o.guard = none ∧ Runs P o a.eval c.w (fun u w' => ∃ c', RS cx c' (st.frzB o.dst p.nm (vs (ro e xs))) (a.put o.dst u) ∧ c'.w = w' ∧ c'.S = c.S ∧ c'.N = c.N ∧ c'.K = c.K ∧ w' = c.w) := by
  unfold arrBox at hb
  split at hb
  · rename_i t x hgd hop
    split at hb
    · rename_i p' n e' hp harr
      · split at hb
        · rename_i hc
          simp only [Bool.and_eq_true, beq_iff_eq, decide_eq_true_eq] at hc
          obtain ⟨⟨⟨⟨⟨⟨⟨hk0, hoff⟩, hi0⟩, hn⟩, hpos⟩, hflat⟩, hel⟩, hsz⟩ := hc
          split at hb
          · rename_i xs' hxs
            simp only [Option.some.injEq, Prod.mk.injEq] at hb
            obtain ⟨rfl, hb⟩ := hb
            cases hb
            refine ⟨hgd, ?_⟩
            obtain ⟨⟨d, hd⟩, hcs⟩ := elemOk_spec hel
            have hra := eval_rep h.rep x
            rw [hp] at hra
            have hra : RepP cx c p' (a.eval x) := hra
            unfold RepP at hra
            simp only [hk0, hi0] at hra
            obtain ⟨tk, ht, hnm, hcc, g, htu, hpa⟩ := hra
            rw [hoff] at hpa
            have hpa : a.eval x = .pointer (some ⟨g, 0, none⟩) := hpa
            have htr := h.wf.rep tk ht
            unfold TokRep at htr
            rw [hcc] at htr
            obtain ⟨hfp, g', cur, et, hu', hh, hcells⟩ := htr
            rw [htu] at hu'
            simp only [Value.pointer.injEq, Option.some.injEq, Addr.mk.injEq] at hu'
            obtain ⟨rfl, _⟩ := hu'
            have hgv : g ∈ vb tk.u := by rw [htu]; simp [vb]
            have hgb := h.wf.bound tk ht g (List.mem_append.2 (.inl hgv))
            have hund : P.underlying t = some (.array n e) := by
              unfold arrOf at harr
              split at harr
              · rename_i n2 e2 hq
                simp only [Option.some.injEq, Prod.mk.injEq] at harr
                obtain ⟨rfl, rfl⟩ := harr
                exact hq
              · simp at harr
            have hrun : (execOp a.eval o).run P c.w = .ok (.value (.slice (some ⟨g, 0, none⟩) n n)) c.w := by
              unfold execOp
              simp [hop, Instr.sliceAt, Instr.sureAddr, hpa, run_underlying hund, Instr.sliceBounds, run_sizeOf' hd, Addr.add_lit]
            unfold Runs
            rw [hrun]
            let c' : Ct cx.ty := { c with T := c.T.filter (fun t2 => !(t2.nm == p'.nm)) }
            have hmem : ∀ t2, t2 ∈ c'.T ↔ t2 ∈ c.T ∧ t2.nm ≠ p'.nm := fun t2 => by simp [c', List.mem_filter]
            have hib : ∀ t2 ∈ c.T, t2.nm = p'.nm → ∃ l, t2.c = .inr l := fun t2 h2 hn2 => by
              have := uniq_tok h.wf h2 ht (hn2.trans hnm.symm)
              subst this
              exact ⟨_, hcc⟩
            have hP : PresX (fun n => n = p'.nm) c c' := ⟨fun b hb => ⟨⟨hb.1, hb.2.1, fun t2 h2 => hb.2.2 t2 ((hmem t2).1 h2).1⟩, rfl⟩, rfl, rfl, fun t2 h2 hX s hs => (hmem t2).2 ⟨h2, hX⟩, fun t2 h2 hX l hl => ⟨t2, (hmem t2).2 ⟨h2, hX⟩, rfl, rfl, hl⟩⟩
            have hgr : Rd c' g := ⟨hgb.2, .inr hgb.1, fun t2 h2 hv => by
              obtain ⟨q1, q2⟩ := (hmem t2).1 h2
              exact disjoint_toks h.wf q1 ht (fun e => q2 (e.trans hnm)) (List.mem_append.2 (.inl hv)) (List.mem_append.2 (.inl hgv))⟩
            obtain ⟨hxl, hxw⟩ := decN_spec ok false n p'.cells xs hxs
            have hnew : RepLS cx c' (some (.inr (ro e xs))) (.slice (some ⟨g, 0, none⟩) n n) := by
              refine ⟨1, some ⟨g, 0, none⟩, n, by rw [← hxl]; rfl, by show xs.length ≤ n; omega, .inr ⟨g, 0, rfl, hgr, fun i y hy j l hl => ?_⟩⟩
              have hl : (cx.enc e false y)[j]? = some l := hl
              have hy : xs[i]? = some y := hy
              have hj : j < 1 := by
                have h8 := (List.getElem?_eq_some_iff.1 hl).1
                have h9 : (cx.enc e false y).length = cx.size e := ok.len e false y
                omega
              have hfg := flat_get (cx.enc e false) 1 (fun x => by rw [ok.len, hsz]) xs i y hy j hj
              rw [← hxw, hl, List.getElem?_map] at hfg
              obtain ⟨v, hv⟩ := ok.flat e false y hflat l (List.mem_of_getElem? hl)
              subst hv
              cases hl0 : p'.cells[i * 1 + j]? with
              | none => rw [hl0] at hfg; simp at hfg
              | some l0 =>
                rw [hl0] at hfg
                simp only [Option.map_some, Option.some.injEq] at hfg
                have hl1 : l0 = some (.inl v) := by
                  unfold weak at hfg
                  split at hfg
                  · simp at hfg
                  · exact hfg
                have hlt : i * 1 + j < cur.toList.length := by
                  rw [hcells.1]
                  exact (List.getElem?_eq_some_iff.1 hl0).1
                have hcv := hcells.2 (i * 1 + j) l0 _ hl0 (List.getElem?_eq_getElem hlt)
                rw [hl1] at hcv
                have hcv : cur.toList[i * 1 + j] = v := hcv
                refine ⟨v, ?_, rfl⟩
                show c.w.cell? ⟨g, 0 + (i * cx.size e + j), none⟩ = some v
                rw [hsz, Nat.zero_add]
                simp only [World.cell?, hh]
                simp only [← hcv]
                simp
            refine ⟨c', ⟨⟨?_, ?_, fun t2 h2 => h.wf.bound t2 ((hmem t2).1 h2).1, fun t2 h2 => ?_, h.wf.start, fun t2 h2 => h.wf.live t2 ((hmem t2).1 h2).1, h.wf.size⟩, ?_, ?_, by rw [put_defers]; exact h.defers, h.dead, h.frz, fun n hn => ?_, fun q u' hq => ⟨(h.kp q u' hq).1, (put_lo hlo _ (h.kp q u' hq).1).trans (h.kp q u' hq).2⟩⟩, rfl, rfl, rfl, rfl, rfl⟩
            · exact (List.Sublist.map _ List.filter_sublist).nodup h.wf.names
            · exact filter_sub_nodup _ h.wf.nodup
            · obtain ⟨q1, q2⟩ := (hmem t2).1 h2
              have hold := h.wf.rep t2 q1
              unfold TokRep at hold ⊢
              split at hold
              · obtain ⟨hv, hold⟩ := hold
                refine ⟨hv, ?_⟩
                split at hold
                · rename_i hso
                  rw [if_pos hso]
                  exact hold
                · rename_i hso
                  rw [if_neg hso]
                  obtain ⟨hf, us, m, hrow, hl2, hr⟩ := hold
                  exact ⟨hf, us, m, hrow, hl2, fun j l v h1 h2 => RepL_mono cx (fun b hb => (hP.rd b hb).2) (fun b hb => (hP.rd b hb).1) m l v (hr j l v h1 h2)⟩
              · obtain ⟨hf, g2, cur2, e2, hu2, hh2, hr⟩ := hold
                exact ⟨hf, g2, cur2, e2, hu2, hh2, hr.1, fun j a b e1 e2 => repLS_box hP hib (hr.2 j a b e1 e2)⟩
            · refine put_size ?_ o.dst _ _
              rw [List.length_map]
              exact h.size
            · refine put_rep (by rw [List.length_map]; exact h.size) (fun t2 => ?_) o.dst hnew
              have : (st.slots.map (killB p'.nm)).getD t2 junk = killB p'.nm (st.slots.getD t2 junk) := by
                by_cases hlt : t2 < st.slots.length
                · simp [List.getD, hlt]
                · simp [List.getD, List.getElem?_eq_none (Nat.le_of_not_lt hlt), junk, killB]
              rw [this]
              exact killB_rep hP hib (h.rep t2)
            · have hn' : Nm c n := by
                rcases hn with ⟨t2, h2, rfl⟩ | hn | hn
                · exact .inl ⟨t2, ((hmem t2).1 h2).1, rfl⟩
                · exact .inr (.inl hn)
                · exact .inr (.inr hn)
              exact Nat.lt_of_lt_of_le (h.names n hn') (Nat.mul_le_mul_right _ (Nat.le_succ _))
          · simp at hb
        · simp at hb
    · simp at hb
  · simp at hb

end
end Go.VM
