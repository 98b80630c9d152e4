/- A part of the proof of FnExactSharesFault: VmA17. -/
import Derived.Test.YtmdmeakelebfcaaVmA16
namespace Go.VM
open Go.RowKit
section
variable {cx : Cx} {P : Program}

/-! ### Windows into an array that lies in a box; what is copied into them -/
theorem box_set {st : St cx.ty} {c : Ct cx.ty} {act : Act} (h : RS cx c st act) {tk : Tk cx.ty} (ht : tk ∈ c.T) {nm : Nat} (hn : tk.nm = nm) {l l' : List (L cx.ty)} (hcc : tk.c = .inr l) {g : Nat} {cur : Array Value} {e : TypeId}
    (hu : tk.u = .pointer (some ⟨g, 0, none⟩)) (hh : c.w.heap[g]? = some (.cells cur e (0, 0))) (hfp : tk.fp = []) {us : List Value} (hr : RepLs cx c l' us) :
    ∃ T', RS cx { c with T := T', w := c.w.setRow g us.toArray } { st with slots := st.slots.map (updB nm l') } act ∧ Kept c.N c.w (c.w.setRow g us.toArray) := by
  have hheap : ∀ k, k ≠ g → (c.w.setRow g us.toArray).heap[k]? = c.w.heap[k]? := fun k hk => setRow_other c.w g k _ hk
  have hsame : (c.w.setRow g us.toArray).heap.size = c.w.heap.size := by simp [World.setRow]
  have hg : g ∈ vb tk.u := by rw [hu]; simp [vb]
  have hgb := h.wf.bound tk ht g (List.mem_append.2 (.inl hg))
  let up : Tk cx.ty → Tk cx.ty := fun t2 => if t2.nm = nm then { t2 with c := .inr (l') } else t2
  have upnm : ∀ t2, (up t2).nm = t2.nm := fun t2 => by simp only [up]; split <;> rfl
  have upu : ∀ t2, (up t2).u = t2.u := fun t2 => by simp only [up]; split <;> rfl
  have upfp : ∀ t2, (up t2).fp = t2.fp := fun t2 => by simp only [up]; split <;> rfl
  have huniq : ∀ t2 ∈ c.T, t2.nm = nm → t2 = tk := by
    intro t2 ht2 hn2
    have hnd := h.wf.names
    rcases Classical.em (t2 = tk) with h | h
    · exact h
    · exfalso
      obtain ⟨l1, l2, hl⟩ := List.append_of_mem ht
      rw [hl] at hnd ht2
      rw [List.map_append, List.map_cons, List.nodup_append] at hnd
      rcases List.mem_append.1 ht2 with h3 | h3
      · exact hnd.2.2 t2.nm (List.mem_map.2 ⟨t2, h3, rfl⟩) tk.nm (List.mem_cons_self ..) (by rw [hn2, hn])
      · rcases List.mem_cons.1 h3 with h3 | h3
        · exact h h3
        · exact (List.nodup_cons.1 hnd.2.1).1 (List.mem_map.2 ⟨t2, h3, by rw [hn2, hn]⟩)
  have hib : ∀ t2 ∈ c.T, t2.nm = nm → ∃ l, t2.c = .inr l := fun t2 ht2 hn2 => by rw [huniq t2 ht2 hn2]; exact ⟨_, hcc⟩
  have hP : PresX (fun n => n = nm) c { c with T := c.T.map up, w := c.w.setRow g us.toArray } := by
    refine ⟨fun b hb => ?_, rfl, rfl, fun t2 ht2 hX s hs => ?_, fun t2 ht2 hX l2 hl2 => ?_⟩
    · have hbg : b ≠ g := fun e => hb.2.2 tk ht (e ▸ hg)
      refine ⟨⟨Nat.lt_of_lt_of_eq hb.1 hsame.symm, hb.2.1, fun t2 ht2 => ?_⟩, hheap b hbg⟩
      obtain ⟨t3, h3, rfl⟩ := List.mem_map.1 ht2
      rw [upu]
      exact hb.2.2 t3 h3
    · exact List.mem_map.2 ⟨t2, ht2, by simp only [up]; rw [if_neg hX]⟩
    · exact ⟨up t2, List.mem_map.2 ⟨t2, ht2, rfl⟩, upnm t2, upu t2, by simp only [up]; rw [if_neg hX]; exact hl2⟩
  refine ⟨c.T.map up, ⟨⟨?_, ?_, ?_, ?_, h.wf.start, ?_, ?_⟩, by simp [h.size], fun t2 => ?_, h.defers, h.dead, h.frz, fun n hn' => ?_, h.kp⟩, ?_⟩
  · show ((c.T.map up).map (·.nm)).Nodup
    rw [List.map_map]
    have : ((fun t2 : Tk cx.ty => t2.nm) ∘ up) = fun t2 => t2.nm := funext upnm
    rw [this]; exact h.wf.names
  · show ((c.T.map up).flatMap _).Nodup
    rw [List.flatMap_map]
    have : (fun t2 => vb (up t2).u ++ (up t2).fp) = fun t2 : Tk cx.ty => vb t2.u ++ t2.fp := funext fun t2 => by rw [upu, upfp]
    rw [this]; exact h.wf.nodup
  · intro t2 ht2 b hb
    obtain ⟨t3, h3, rfl⟩ := List.mem_map.1 ht2
    rw [upu, upfp] at hb
    have := h.wf.bound t3 h3 b hb
    exact ⟨this.1, Nat.lt_of_lt_of_eq this.2 hsame.symm⟩
  · intro t2 ht2
    obtain ⟨t3, h3, rfl⟩ := List.mem_map.1 ht2
    have hold := h.wf.rep t3 h3
    by_cases hn3 : t3.nm = nm
    · have e3 := huniq t3 h3 hn3
      subst e3
      unfold TokRep
      simp only [up, hn3, if_true]
      refine ⟨hfp, g, _, e, hu, setRow_heap c.w g cur _ e _ hh, ?_⟩
      exact ⟨by simp [hr.1], fun j a b e1 e2 => repLS_box hP hib (hr.2 j a b e1 (by simpa using e2))⟩
    · have hup : up t3 = t3 := by simp only [up]; rw [if_neg hn3]
      rw [hup]
      have hblk : ∀ b ∈ vb t3.u ++ t3.fp, (c.w.setRow g us.toArray).heap[b]? = c.w.heap[b]? := fun b hb => hheap b (fun e => disjoint_toks h.wf h3 ht (fun e2 => hn3 (by rw [e2, hn])) hb (by rw [e]; exact List.mem_append.2 (.inl hg)))
      unfold TokRep at hold ⊢
      split at hold
      · rename_i s hs
        obtain ⟨hv, hold⟩ := hold
        refine ⟨hv, ?_⟩
        split at hold
        · rename_i hso
          rw [if_pos hso]
          obtain ⟨n, hold⟩ := hold
          exact ⟨n, OwnL_mono cx n _ _ _ hblk hold⟩
        · rename_i hso
          rw [if_neg hso]
          obtain ⟨hf, us, n, hrow, hl2, hr⟩ := hold
          refine ⟨hf, us, n, ?_, hl2, fun j l v h1 h2 => RepL_mono cx (fun b hb => (hP.rd b hb).2) (fun b hb => (hP.rd b hb).1) n l v (hr j l v h1 h2)⟩
          obtain ⟨hx, hcx⟩ := hrow
          refine ⟨hx, ?_⟩
          rcases hcx with hcx | ⟨g2, cap2, cur2, hv', hg2, hh2, hrest⟩
          · exact .inl hcx
          · refine .inr ⟨g2, cap2, cur2, hv', hg2, ?_, hrest⟩
            rw [hblk g2 (by rw [hv']; simp [vb])]
            exact hh2
      · obtain ⟨hf, g2, cur2, e2, hu2, hh2, hr⟩ := hold
        refine ⟨hf, g2, cur2, e2, hu2, ?_, hr.1, fun j a b e1 e2 => repLS_box hP hib (hr.2 j a b e1 e2)⟩
        rw [hblk g2 (by rw [hu2]; simp [vb])]
        exact hh2
  · intro t2 ht2
    obtain ⟨t3, h3, rfl⟩ := List.mem_map.1 ht2
    rw [upnm]
    exact h.wf.live t3 h3
  · exact fun b hb => h.wf.size b (Nat.le_trans (Nat.le_of_eq hsame.symm) hb)
  · have hbase := updB_rep (cells := l') hP (fun t3 h3 hn3 => ⟨up t3, List.mem_map.2 ⟨t3, h3, rfl⟩, by rw [upnm, hn3], upu t3, by simp only [up]; rw [if_pos hn3]⟩) hib (h.rep t2)
    have : (st.slots.map (updB nm (l'))).getD t2 junk = updB nm (l') (st.slots.getD t2 junk) := by
      by_cases hlt : t2 < st.slots.length
      · simp [List.getD, hlt]
      · simp [List.getD, List.getElem?_eq_none (Nat.le_of_not_lt hlt), junk, updB]
    show RepV cx _ ((st.slots.map (updB nm (l'))).getD t2 junk) _
    rw [this]
    exact hbase
  · rcases hn' with ⟨t2, ht2, rfl⟩ | hn' | hn'
    · obtain ⟨t3, h3, rfl⟩ := List.mem_map.1 ht2
      rw [upnm]
      exact h.names _ (.inl ⟨t3, h3, rfl⟩)
    · exact h.names _ (.inr (.inl hn'))
    · exact h.names _ (.inr (.inr hn'))
  · exact ⟨rfl, rfl, rfl, by rw [hsame]; exact Nat.le_refl _, fun k hk => hheap k (fun e => hk (e ▸ hgb.1))⟩

theorem RS.forget {c : Ct cx.ty} {st : St cx.ty} {a : Act} (h : RS cx c st a) {d : Option Tmp} (hlo : loO st.lo d = true) (u : Value) : RS cx c { st with slots := setO st.slots d junk } (a.put d u) :=
  ⟨h.wf, put_size h.size d _ _, put_rep h.size h.rep d trivial, by rw [put_defers]; exact h.defers, h.dead, h.frz, h.names, fun p u' hp => ⟨(h.kp p u' hp).1, (put_lo hlo u (h.kp p u' hp).1).trans (h.kp p u' hp).2⟩⟩

/-- The number that an element is. -/
def intEl (cx : Cx) (e : Nat) (x : cx.ty e) : Int := match cx.enc e true x with
  | [some (.inl (.int _ n))] => n
  | _ => 0

theorem flat_ints (hZ : cx.POk P) {e : Nat} (hd : cx.dom e = true) (hu : P.underlying e = some (.int .u8)) : ∀ xs : List (cx.ty e), flatVals cx e xs = xs.map fun x => .int .u8 (intEl cx e x)
  | [] => rfl
  | x :: r => by
    obtain ⟨n, hn⟩ := hZ.u8 e hd hu true x
    have ih := flat_ints hZ hd hu r
    unfold flatVals at ih ⊢
    have e1 : intEl cx e x = n := by unfold intEl; rw [hn]; rfl
    rw [List.flatMap_cons, hn, List.map_cons, e1, ← ih]
    rfl

def goCopy {α : Type} (val : α → Int) (d : α) (xs : List α) : Nat → List Int → List Int
  | _, [] => []
  | i, o :: r => cond (decide (i < xs.length)) (val (xs.getD i d)) o :: goCopy val d xs (i + 1) r

theorem goCopy_eq {α : Type} (val : α → Int) (d : α) (xs : List α) : ∀ (i : Nat) (r : List Int), goCopy val d xs i r = ((xs.drop i).take r.length).map val ++ r.drop ((xs.drop i).take r.length).length
  | i, [] => by simp [goCopy]
  | i, o :: r => by
    rw [goCopy, goCopy_eq val d xs (i + 1) r]
    by_cases hi : i < xs.length
    · have h1 : xs.drop i = xs.getD i d :: xs.drop (i + 1) := by
        rw [List.drop_eq_getElem_cons hi]
        simp [List.getD, hi]
      rw [h1]
      simp only [hi, decide_true, cond_true, List.length_cons, List.take_succ_cons, List.map_cons, List.cons_append, List.drop_succ_cons]
    · have a1 : xs.drop i = [] := List.drop_eq_nil_of_le (by omega)
      have a2 : xs.drop (i + 1) = [] := List.drop_eq_nil_of_le (by omega)
      rw [a1, a2]
      simp [hi]

def copyInts {α : Type} (val : α → Int) (d : α) (xs : List α) (off : Nat) (ys : List Int) : List Int := ys.take off ++ goCopy val d xs 0 (ys.drop off)

def copyOf (o : Oper) : Option (Operand × Operand × TypeId × TypeId) :=
  match o.guard, o.op with
  | none, .call cl => match cl.callee, cl.args.toList, cl.argTypes.toList with
    | .builtin .copy, [d, s], [dT, sT] => some (d, s, dT, sT)
    | _, _, _ => none
  | _, _ => none

theorem copyOf_eq {o : Oper} {d s : Operand} {dT sT : TypeId} (h : copyOf o = some (d, s, dT, sT)) : o.guard = none ∧ o.op = .call { callee := .builtin .copy, args := #[d, s], argTypes := #[dT, sT] } := by
  unfold copyOf at h
  split at h
  · rename_i cl hg ho
    split at h
    · rename_i d' s' dT' sT' hc ha ht
      simp only [Option.some.injEq, Prod.mk.injEq] at h
      obtain ⟨rfl, rfl, rfl, rfl⟩ := h
      refine ⟨hg, ?_⟩
      rw [ho]
      obtain ⟨c, a, t⟩ := cl
      simp only at hc ha ht
      have ha' : a = #[d', s'] := Array.ext' (by simpa using ha)
      have ht' : t = #[dT', sT'] := Array.ext' (by simpa using ht)
      subst hc; subst ha'; subst ht'
      rfl
    · simp at h
  · simp at h

/-- What 'copy' into a window leaves. -/
def stC (P : Program) (cx : Cx) (st : St cx.ty) (o : Oper) : Option (St cx.ty) :=
  match copyOf o with
  | some (d, s, dT, _) => match getV st.slots d, getV st.slots s, sliceElem P dT with
    | .inr (.inr p), .inl (.inl (some (.inr q))), some e =>
      if p.kind == 0 && decide (0 < p.i) && p.off + (p.i - 1) == p.cells.length && isU8 P e && q.e == e && cx.dom q.e && cx.flat q.e && elemOk P cx e && (rdn q).all (fun n => !st.D.contains n) then
        match leafInts .u8 p.cells with
        | some ys => some { st with slots := setO (st.slots.map (updB p.nm ((copyInts (intEl cx q.e) (cx.dflt q.e) q.xs p.off ys).map fun a => lv (.int .u8 a)))) o.dst junk }
        | none => none
      else none
    | _, _, _ => none
  | none => none

theorem stC_ok (ok : cx.Ok) (hZ : cx.POk P) {st st' : St cx.ty} {o : Oper} (hst : stC P cx st o = some st') {c : Ct cx.ty} {a : Act} (h : RS cx c st a) (hlo : loO st.lo o.dst = true) :
    o.guard = none ∧ Runs P o a.eval c.w (fun u w' => ∃ c', RS cx c' st' (a.put o.dst u) ∧ c'.w = w' ∧ c'.S = c.S ∧ c'.N = c.N ∧ c'.K = c.K ∧ Kept c.N c.w w') := by
  unfold stC at hst
  split at hst
  · rename_i d s dT sT hco
    obtain ⟨hgd, ho⟩ := copyOf_eq hco
    refine ⟨hgd, ?_⟩
    split at hst
    · rename_i p q e hp hq he
      split at hst
      · rename_i hc
        simp only [Bool.and_eq_true, beq_iff_eq, decide_eq_true_eq] at hc
        obtain ⟨⟨⟨⟨⟨⟨⟨⟨hk, hi⟩, hfit⟩, hu8⟩, rfl⟩, hdom⟩, hflat⟩, hel⟩, hrd⟩ := hc
        have hu8 := isU8_eq hu8
        split at hst
        · rename_i ys hys
          simp only [Option.some.injEq] at hst
          subst hst
          obtain ⟨m, hm⟩ : ∃ m, p.i = m + 1 := ⟨p.i - 1, by omega⟩
          rw [hm] at hfit
          simp only [Nat.add_sub_cancel] at hfit
          have hra := eval_rep h.rep d
          rw [hp] at hra
          have hra : RepP cx c p (a.eval d) := hra
          unfold RepP at hra
          simp only [hk, hm] at hra
          obtain ⟨tk, ht, hn, hcc, g, hu, hpa⟩ := hra
          have hpa : a.eval d = .slice (some ⟨g, p.off, none⟩) m m := hpa
          have htr := h.wf.rep tk ht
          unfold TokRep at htr
          rw [hcc] at htr
          obtain ⟨hfp, g', cur, et, hu', hh, hcells⟩ := htr
          rw [hu] at hu'
          simp only [Value.pointer.injEq, Option.some.injEq, Addr.mk.injEq] at hu'
          obtain ⟨rfl, _⟩ := hu'
          have hcur := leafInts_rep p.cells cur.toList ys hcells hys
          have hyl : ys.length = p.cells.length := by rw [← hcells.1, hcur, List.length_map]
          -- the source
          have hrq := eval_rep h.rep s
          rw [hq] at hrq
          have hsz : cx.size q.e = 1 := by
            obtain ⟨n, hn⟩ := hZ.u8 q.e hdom hu8 true (cx.dflt q.e)
            rw [← ok.len q.e true (cx.dflt q.e), hn]
            rfl
          have hrdD : ∀ n ∈ rdn q, n ∉ c.D := fun n hn => by
            have := List.all_eq_true.1 hrd n hn
            rw [h.dead]
            simpa using this
          have hrq : RepLS cx c (some (.inr q)) (a.eval s) := hrq
          obtain ⟨sa, scap, hsv, hsc⟩ := rep_cells ok h.wf hflat (by omega) hrq hrdD
          obtain ⟨⟨dd, hdd⟩, hcs⟩ := elemOk_spec hel
          have hinfo : (P.info? q.e).map (·.size) = some 1 := by
            have := hcs
            unfold Program.underlying at hdd
            unfold Program.cellsOf at this
            cases hi2 : P.info? q.e with
            | none => rw [hi2] at hdd; simp at hdd
            | some i2 => rw [hi2] at this; simp only [Option.map_some, Option.some.injEq]; simp at this; omega
          let f : cx.ty q.e → Value := fun x => .int .u8 (intEl cx q.e x)
          let cs : List Value := (q.xs.take m).map f
          have hcsl : cs.length = Nat.min q.xs.length m := by simp [cs, Nat.min_comm, Nat.min_def]
          have hsrc : ∀ ad, sa = some ad → ∀ j v, cs[j]? = some v → c.w.cell? (ad.add j) = some v := by
            intro ad had j v hj
            rcases hsc with h0 | ⟨ad2, had2, hc2⟩
            · simp [cs, h0] at hj
            · rw [had] at had2
              cases had2
              refine hc2 j v ?_
              rw [flat_ints hZ hdom hu8]
              have hjm : j < m := by
                have := (List.getElem?_eq_some_iff.1 hj).1
                simp [cs] at this
                omega
              simp only [cs, List.getElem?_map, List.getElem?_take_of_lt hjm] at hj
              rw [List.getElem?_map]
              exact hj
          have hone : ∀ v ∈ cs, v.oneCell' = true := by
            intro v hv
            obtain ⟨x, _, rfl⟩ := List.mem_map.1 hv
            rfl
          let us : List Value := cur.toList.take p.off ++ cs ++ cur.toList.drop (p.off + cs.length)
          have hsz2 : cur.size = p.off + m := by
            have := hcells.1
            simp at this
            omega
          have hrun : (execOp a.eval o).run P c.w = .ok (.value (goInt cs.length)) (c.w.setRow g us.toArray) := by
            by_cases h0 : cs.length = 0
            · have hcn : cs = [] := List.eq_nil_of_length_eq_zero h0
              have hus : us.toArray = cur := by simp [us, hcn]
              have hrun := run_copy_none (P := P) c.w dT sT o.type q.e (some ⟨g, p.off, none⟩) sa m m q.xs.length scap (sliceElem_eq he) hinfo (by rw [← hcsl]; exact h0)
              rw [hus, setRow_self c.w g cur et (0, 0) hh]
              simp [execOp, ho, resolve, invoke, builtin, hpa, hsv, hrun, h0]
            · cases sa with
              | none =>
                rcases hsc with h1 | ⟨_, h1, _⟩
                · exact absurd (by simp [cs, h1]) h0
                · cases h1
              | some ad =>
                have h9 : cs.length ≤ m := by rw [hcsl]; exact Nat.min_le_right _ _
                have hrun := run_copy_row (P := P) c.w dT sT o.type q.e g p.off m m ad q.xs.length scap cur et cs (sliceElem_eq he) hinfo hh hcsl (hsrc ad rfl) (by omega) hone
                simp [execOp, ho, resolve, invoke, builtin, hpa, hsv, hrun, us]
          have hnew : RepLs cx c ((copyInts (intEl cx q.e) (cx.dflt q.e) q.xs p.off ys).map fun a => lv (.int .u8 a)) us := by
            have hue : us = (copyInts (intEl cx q.e) (cx.dflt q.e) q.xs p.off ys).map fun a => .int .u8 a := by
              have e1 : (ys.drop p.off).length = m := by simp; omega
              unfold copyInts
              rw [goCopy_eq, e1]
              simp only [us, cs, hcur, f, List.drop_zero, List.map_append, List.map_take, List.map_map, List.length_map, List.length_take, List.drop_drop, List.append_assoc, List.map_drop, Function.comp_def]
            rw [hue]
            refine ⟨by simp, fun j b u h1 h2 => ?_⟩
            rw [List.getElem?_map] at h1 h2
            cases hj : (copyInts (intEl cx q.e) (cx.dflt q.e) q.xs p.off ys)[j]? with
            | none => rw [hj] at h1; simp at h1
            | some y =>
              rw [hj] at h1 h2
              simp only [Option.map_some, Option.some.injEq] at h1 h2
              subst h1; subst h2
              exact rfl
          obtain ⟨T', hrs, hkept⟩ := box_set h ht hn hcc hu hh hfp hnew
          unfold Runs
          rw [hrun]
          exact ⟨_, RS.forget hrs hlo _, rfl, rfl, rfl, rfl, hkept⟩
        · simp at hst
      · simp at hst
    · simp at hst
  · simp at hst

/-! ### A place in an array, a window into one -/
def evIndexAddrB {β : Type} (P : Program) (slots : List (V cx.ty)) (t : TypeId) (x ix : Operand) (k : Eff cx.ty → Option β) : Option β :=
  match getV slots x with
  | .inr (.inr p) => match getV slots ix, arrOf P t with
    | .inl (.inl (some (.inl (.int _ i)))), some (n, e) =>
      if p.kind == 0 && p.i == 0 && p.off == 0 && n == p.cells.length && decide (1 < n) && (P.underlying e).isSome && P.cellsOf e == 1 then
        bif decide (0 ≤ i) && decide (i < n) then k (purR (.inr (.inr { p with off := i.toNat })) []) else none
      else none
    | _, _ => none
  | _ => evIndexAddr P slots t x ix k

theorem arrOf_eq {t : TypeId} {n : Nat} {e : TypeId} (h : arrOf P t = some (n, e)) : P.underlying t = some (.array n e) := by
  unfold arrOf at h
  split at h
  · rename_i n2 e2 hq
    simp only [Option.some.injEq, Prod.mk.injEq] at h
    obtain ⟨rfl, rfl⟩ := h
    exact hq
  · simp at h

theorem evIndexAddrB_ok (ok : cx.Ok) {β : Type} {o : Oper} {slots : List (V cx.ty)} {nm0 : Nat} {t : TypeId} {x ix : Operand} (ho : o.op = .indexAddr t x ix) {k : Eff cx.ty → Option β} {r : β}
    (h : evIndexAddrB P slots t x ix k = some r) : ∃ ef, k ef = some r ∧ EffOK P cx o slots nm0 ef := by
  unfold evIndexAddrB at h
  split at h
  · rename_i p hx
    split at h
    · rename_i ki i n e hix ha
      split at h
      · rename_i hc
        simp only [Bool.and_eq_true, beq_iff_eq, decide_eq_true_eq] at hc
        obtain ⟨⟨⟨⟨⟨⟨hk, hi0⟩, hoff⟩, hn⟩, hn1⟩, hund⟩, hsz⟩ := hc
        cases hb : (decide (0 ≤ i) && decide (i < n)) with
        | false => rw [hb] at h; simp at h
        | true =>
          rw [hb] at h
          simp only [Bool.and_eq_true, decide_eq_true_eq] at hb
          refine ⟨_, h, effok_pur fun c ρ hw hop _ => ?_⟩
          have hr := hop x (by simp [ho, Op.operands])
          rw [hx] at hr
          have hri := hop ix (by simp [ho, Op.operands])
          rw [hix] at hri
          have hri : ρ ix = .int ki i := hri
          have hr : RepP cx c p (ρ x) := hr
          unfold RepP at hr
          simp only [hk, hi0, hoff] at hr
          obtain ⟨tk, ht, hnm, hcc, g, hu, hpa⟩ := hr
          have hpa : ρ x = .pointer (some ⟨g, 0, none⟩) := hpa
          obtain ⟨dd, hd⟩ := Option.isSome_iff_exists.1 hund
          refine ⟨.pointer (some ⟨g, i.toNat, none⟩), ?_, ?_⟩
          · have hlt : 0 ≤ i ∧ i < (n : Int) := ⟨hb.1, hb.2⟩
            have hn1' : ¬ n ≤ 1 := by omega
            unfold execOp
            simp [ho, Instr.indexAt, Instr.sureAddr, hri, hpa, asIntOf, run_underlying (arrOf_eq ha), hlt, run_sizeOf' hd, hsz, Addr.add_lit]
          · show RepP cx c { p with off := i.toNat } _
            unfold RepP
            simp only [hk, hi0]
            exact ⟨tk, ht, hnm, hcc, g, hu, rfl⟩
      · simp at h
    · simp at h
  · exact evIndexAddr_ok ok ho h

def evSliceB {β : Type} (P : Program) (cx : Cx) (slots : List (V cx.ty)) (t : TypeId) (x : Operand) (lo hi mx : Option Operand) (k : Eff cx.ty → Option β) : Option β :=
  match getV slots x with
  | .inr (.inr p) => match arrOf P t, hi, mx with
    | some (n, e), none, none =>
      if p.kind == 0 && p.i == 0 && p.off == 0 && n == p.cells.length && (P.underlying e).isSome && P.cellsOf e == 1 then
        match lo with
        | none => k (purR (.inr (.inr { p with i := n + 1 })) [])
        | some lx => match getV slots lx with
          | .inl (.inl (some (.inl (.int _ i)))) => bif decide (0 ≤ i) && decide (i < n) then k (purR (.inr (.inr { p with off := i.toNat, i := n - i.toNat + 1 })) []) else none
          | _ => none
      else none
    | _, _, _ => none
  | _ => evSlice P cx slots t x lo hi mx k

theorem evSliceB_ok (ok : cx.Ok) {β : Type} {o : Oper} {slots : List (V cx.ty)} {nm0 : Nat} {t : TypeId} {x : Operand} {lo hi mx : Option Operand} (ho : o.op = .slice t x lo hi mx) {k : Eff cx.ty → Option β} {r : β}
    (h : evSliceB P cx slots t x lo hi mx k = some r) : ∃ ef, k ef = some r ∧ EffOK P cx o slots nm0 ef := by
  unfold evSliceB at h
  split at h
  · rename_i p hx
    split at h
    · rename_i n e ha
      split at h
      · rename_i hc
        simp only [Bool.and_eq_true, beq_iff_eq] at hc
        obtain ⟨⟨⟨⟨⟨hk, hi0⟩, hoff⟩, hn⟩, hund⟩, hsz⟩ := hc
        obtain ⟨dd, hd⟩ := Option.isSome_iff_exists.1 hund
        split at h
        · refine ⟨_, h, effok_pur fun c ρ hw hop _ => ?_⟩
          have hr := hop x (by simp [ho, Op.operands])
          rw [hx] at hr
          have hr : RepP cx c p (ρ x) := hr
          unfold RepP at hr
          simp only [hk, hi0, hoff] at hr
          obtain ⟨tk, ht, hnm, hcc, g, hu, hpa⟩ := hr
          have hpa : ρ x = .pointer (some ⟨g, 0, none⟩) := hpa
          refine ⟨.slice (some ⟨g, 0, none⟩) n n, ?_, ?_⟩
          · unfold execOp
            simp [ho, Instr.sliceAt, Instr.sureAddr, hpa, run_underlying (arrOf_eq ha), Instr.sliceBounds, run_sizeOf' hd, Addr.add_lit]
          · show RepP cx c { p with i := n + 1 } _
            unfold RepP
            simp only [hk, hoff]
            exact ⟨tk, ht, hnm, hcc, g, hu, rfl⟩
        · rename_i lx
          split at h
          · rename_i ki i hlx
            cases hb : (decide (0 ≤ i) && decide (i < n)) with
            | false => rw [hb] at h; simp at h
            | true =>
              rw [hb] at h
              simp only [Bool.and_eq_true, decide_eq_true_eq] at hb
              refine ⟨_, h, effok_pur fun c ρ hw hop _ => ?_⟩
              have hr := hop x (by simp [ho, Op.operands])
              rw [hx] at hr
              have hrl := hop lx (by simp [ho, Op.operands])
              rw [hlx] at hrl
              have hrl : ρ lx = .int ki i := hrl
              have hr : RepP cx c p (ρ x) := hr
              unfold RepP at hr
              simp only [hk, hi0, hoff] at hr
              obtain ⟨tk, ht, hnm, hcc, g, hu, hpa⟩ := hr
              have hpa : ρ x = .pointer (some ⟨g, 0, none⟩) := hpa
              refine ⟨.slice (some ⟨g, i.toNat, none⟩) (n - i.toNat) (n - i.toNat), ?_, ?_⟩
              · have hle : i ≤ (n : Int) := by omega
                have hne : ¬ n = i.toNat := by omega
                unfold execOp
                simp [ho, Instr.sliceAt, Instr.sureAddr, hpa, run_underlying (arrOf_eq ha), Instr.sliceBounds, Instr.sliceBound, hrl, asIntOf, hb.1, hle, hne, run_sizeOf' hd, hsz, Addr.add_lit]
              · show RepP cx c { p with off := i.toNat, i := n - i.toNat + 1 } _
                unfold RepP
                simp only [hk]
                exact ⟨tk, ht, hnm, hcc, g, hu, rfl⟩
          · simp at h
      · simp at h
    · simp at h
  · exact evSlice_ok ok ho h

/-- An array is sliced for a literal of rows alone: its box is frozen. -/
def inLit (ops : Array Oper) (d : Option Tmp) : Bool := ops.toList.any fun q => match q.op, d with
  | .buildSlice _ _ parts, some d => parts.toList.any fun y => match y.2 with
    | .tmp t => t == d
    | _ => false
  | _, _ => false

def arrBoxL (P : Program) (cx : Cx) (ops : Array Oper) (slots : List (V cx.ty)) (o : Oper) : Option (Pt cx.ty × (e : Nat) × List (cx.ty e)) :=
  if inLit ops o.dst then arrBox P cx slots o else none

theorem arrBoxL_eq {ops : Array Oper} {slots : List (V cx.ty)} {o : Oper} {r : Pt cx.ty × (e : Nat) × List (cx.ty e)} (h : arrBoxL P cx ops slots o = some r) : arrBox P cx slots o = some r := by
  unfold arrBoxL at h
  split at h
  · exact h
  · simp at h

end
end Go.VM
