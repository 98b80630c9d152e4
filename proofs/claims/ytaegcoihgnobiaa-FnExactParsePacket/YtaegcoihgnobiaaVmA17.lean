/- A part of the proof of FnExactParsePacket: VmA17, VmA18, VmA19, VmB, VmC. -/
import Derived.Test.YtaegcoihgnobiaaVmA11
namespace Go.VM
open Go.RowKit
section
variable {cx : Cx} {P : Program}

/-! ### Windows into an array that lies in a box; what is copied into them -/
theorem box_set {st : St cx.ty} {c : Ct cx.ty} {act : Act} (h : RS cx c st act) {tk : Tk cx.ty} (ht : tk ∈ c.T) {nm : Nat} (hn : tk.nm = nm) {l l' : List (L cx.ty)} (hcc : tk.c = .inr l) {g : Nat} {cur : Array Value} {e : TypeId}
    (hu : tk.u = .pointer (some ⟨g, 0, none⟩)) (hh : c.w.heap[g]? = some (.cells cur e (0, 0))) (hfp : tk.fp = []) {us : List Value} (hr : RepLs cx c l' us) :
    ∃ T', RS cx { c with T := T', w := c.w.setRow g us.toArray } { st with slots := st.slots.map (updB nm l') } act ∧ Kept c.N c.w (c.w.setRow g us.toArray) := by
  have hheap : ∀ k, k ≠ g → (c.w.setRow g us.toArray).heap[k]? = c.w.heap[k]? := fun k hk => setRow_other c.w g k _ hk
  have hsame : (c.w.setRow g us.toArray).heap.size = c.w.heap.size := by simp [World.setRow]
  have hg : g ∈ vb tk.u := by rw [hu]; simp [vb]
  have hgb := h.wf.bound tk ht g (List.mem_append.2 (.inl hg))
  let up : Tk cx.ty → Tk cx.ty := fun t2 => if t2.nm = nm then { t2 with c := .inr (l') } else t2
  have upnm : ∀ t2, (up t2).nm = t2.nm := fun t2 => by simp only [up]; split <;> rfl
  have upu : ∀ t2, (up t2).u = t2.u := fun t2 => by simp only [up]; split <;> rfl
  have upfp : ∀ t2, (up t2).fp = t2.fp := fun t2 => by simp only [up]; split <;> rfl
  have huniq : ∀ t2 ∈ c.T, t2.nm = nm → t2 = tk := by
    intro t2 ht2 hn2
    have hnd := h.wf.names
    rcases Classical.em (t2 = tk) with h | h
    · exact h
    · exfalso
      obtain ⟨l1, l2, hl⟩ := List.append_of_mem ht
      rw [hl] at hnd ht2
      rw [List.map_append, List.map_cons, List.nodup_append] at hnd
      rcases List.mem_append.1 ht2 with h3 | h3
      · exact hnd.2.2 t2.nm (List.mem_map.2 ⟨t2, h3, rfl⟩) tk.nm (List.mem_cons_self ..) (by rw [hn2, hn])
      · rcases List.mem_cons.1 h3 with h3 | h3
        · exact h h3
        · exact (List.nodup_cons.1 hnd.2.1).1 (List.mem_map.2 ⟨t2, h3, by rw [hn2, hn]⟩)
  have hib : ∀ t2 ∈ c.T, t2.nm = nm → ∃ l, t2.c = .inr l := fun t2 ht2 hn2 => by rw [huniq t2 ht2 hn2]; exact ⟨_, hcc⟩
  have hP : PresX (fun n => n = nm) c { c with T := c.T.map up, w := c.w.setRow g us.toArray } := by
    refine ⟨fun b hb => ?_, rfl, rfl, fun t2 ht2 hX s hs => ?_, fun t2 ht2 hX l2 hl2 => ?_⟩
    · have hbg : b ≠ g := fun e => hb.2.2 tk ht (e ▸ hg)
      refine ⟨⟨Nat.lt_of_lt_of_eq hb.1 hsame.symm, hb.2.1, fun t2 ht2 => ?_⟩, hheap b hbg⟩
      obtain ⟨t3, h3, rfl⟩ := List.mem_map.1 ht2
      rw [upu]
      exact hb.2.2 t3 h3
    · exact List.mem_map.2 ⟨t2, ht2, by simp only [up]; rw [if_neg hX]⟩
    · exact ⟨up t2, List.mem_map.2 ⟨t2, ht2, rfl⟩, upnm t2, upu t2, by simp only [up]; rw [if_neg hX]; exact hl2⟩
  refine ⟨c.T.map up, ⟨⟨?_, ?_, ?_, ?_, h.wf.start, ?_, ?_⟩, by simp [h.size], fun t2 => ?_, h.defers, h.dead, h.frz, fun n hn' => ?_, h.kp⟩, ?_⟩
  · show ((c.T.map up).map (·.nm)).Nodup
    rw [List.map_map]
    have : ((fun t2 : Tk cx.ty => t2.nm) ∘ up) = fun t2 => t2.nm := funext upnm
    rw [this]; exact h.wf.names
  · show ((c.T.map up).flatMap _).Nodup
    rw [List.flatMap_map]
    have : (fun t2 => vb (up t2).u ++ (up t2).fp) = fun t2 : Tk cx.ty => vb t2.u ++ t2.fp := funext fun t2 => by rw [upu, upfp]
    rw [this]; exact h.wf.nodup
  · intro t2 ht2 b hb
    obtain ⟨t3, h3, rfl⟩ := List.mem_map.1 ht2
    rw [upu, upfp] at hb
    have := h.wf.bound t3 h3 b hb
    exact ⟨this.1, Nat.lt_of_lt_of_eq this.2 hsame.symm⟩
  · intro t2 ht2
    obtain ⟨t3, h3, rfl⟩ := List.mem_map.1 ht2
    have hold := h.wf.rep t3 h3
    by_cases hn3 : t3.nm = nm
    · have e3 := huniq t3 h3 hn3
      subst e3
      unfold TokRep
      simp only [up, hn3, if_true]
      refine ⟨hfp, g, _, e, hu, setRow_heap c.w g cur _ e _ hh, ?_⟩
      exact ⟨by simp [hr.1], fun j a b e1 e2 => repLS_box hP hib (hr.2 j a b e1 (by simpa using e2))⟩
    · have hup : up t3 = t3 := by simp only [up]; rw [if_neg hn3]
      rw [hup]
      have hblk : ∀ b ∈ vb t3.u ++ t3.fp, (c.w.setRow g us.toArray).heap[b]? = c.w.heap[b]? := fun b hb => hheap b (fun e => disjoint_toks h.wf h3 ht (fun e2 => hn3 (by rw [e2, hn])) hb (by rw [e]; exact List.mem_append.2 (.inl hg)))
      unfold TokRep at hold ⊢
      split at hold
      · rename_i s hs
        obtain ⟨hv, hold⟩ := hold
        refine ⟨hv, ?_⟩
        split at hold
        · rename_i hso
          rw [if_pos hso]
          obtain ⟨n, hold⟩ := hold
          exact ⟨n, OwnL_mono cx n _ _ _ hblk hold⟩
        · rename_i hso
          rw [if_neg hso]
          obtain ⟨hf, us, n, hrow, hl2, hr⟩ := hold
          refine ⟨hf, us, n, ?_, hl2, fun j l v h1 h2 => RepL_mono cx (fun b hb => (hP.rd b hb).2) (fun b hb => (hP.rd b hb).1) n l v (hr j l v h1 h2)⟩
          obtain ⟨hx, hcx⟩ := hrow
          refine ⟨hx, ?_⟩
          rcases hcx with hcx | ⟨g2, cap2, cur2, hv', hg2, hh2, hrest⟩
          · exact .inl hcx
          · refine .inr ⟨g2, cap2, cur2, hv', hg2, ?_, hrest⟩
            rw [hblk g2 (by rw [hv']; simp [vb])]
            exact hh2
      · obtain ⟨hf, g2, cur2, e2, hu2, hh2, hr⟩ := hold
        refine ⟨hf, g2, cur2, e2, hu2, ?_, hr.1, fun j a b e1 e2 => repLS_box hP hib (hr.2 j a b e1 e2)⟩
        rw [hblk g2 (by rw [hu2]; simp [vb])]
        exact hh2
  · intro t2 ht2
    obtain ⟨t3, h3, rfl⟩ := List.mem_map.1 ht2
    rw [upnm]
    exact h.wf.live t3 h3
  · exact fun b hb => h.wf.size b (Nat.le_trans (Nat.le_of_eq hsame.symm) hb)
  · have hbase := updB_rep (cells := l') hP (fun t3 h3 hn3 => ⟨up t3, List.mem_map.2 ⟨t3, h3, rfl⟩, by rw [upnm, hn3], upu t3, by simp only [up]; rw [if_pos hn3]⟩) hib (h.rep t2)
    have : (st.slots.map (updB nm (l'))).getD t2 junk = updB nm (l') (st.slots.getD t2 junk) := by
      by_cases hlt : t2 < st.slots.length
      · simp [List.getD, hlt]
      · simp [List.getD, List.getElem?_eq_none (Nat.le_of_not_lt hlt), junk, updB]
    show RepV cx _ ((st.slots.map (updB nm (l'))).getD t2 junk) _
    rw [this]
    exact hbase
  · rcases hn' with ⟨t2, ht2, rfl⟩ | hn' | hn'
    · obtain ⟨t3, h3, rfl⟩ := List.mem_map.1 ht2
      rw [upnm]
      exact h.names _ (.inl ⟨t3, h3, rfl⟩)
    · exact h.names _ (.inr (.inl hn'))
    · exact h.names _ (.inr (.inr hn'))
  · exact ⟨rfl, rfl, rfl, by rw [hsame]; exact Nat.le_refl _, fun k hk => hheap k (fun e => hk (e ▸ hgb.1))⟩

theorem RS.forget {c : Ct cx.ty} {st : St cx.ty} {a : Act} (h : RS cx c st a) {d : Option Tmp} (hlo : loO st.lo d = true) (u : Value) : RS cx c { st with slots := setO st.slots d junk } (a.put d u) :=
  ⟨h.wf, put_size h.size d _ _, put_rep h.size h.rep d trivial, by rw [put_defers]; exact h.defers, h.dead, h.frz, h.names, fun p u' hp => ⟨(h.kp p u' hp).1, (put_lo hlo u (h.kp p u' hp).1).trans (h.kp p u' hp).2⟩⟩

/-- The number that an element is. -/
def intEl (cx : Cx) (e : Nat) (x : cx.ty e) : Int := match cx.enc e true x with
  | [some (.inl (.int _ n))] => n
  | _ => 0

theorem flat_ints (hZ : cx.POk P) {e : Nat} (hd : cx.dom e = true) (hu : P.underlying e = some (.int .u8)) : ∀ xs : List (cx.ty e), flatVals cx e xs = xs.map fun x => .int .u8 (intEl cx e x)
  | [] => rfl
  | x :: r => by
    obtain ⟨n, hn⟩ := hZ.u8 e hd hu true x
    have ih := flat_ints hZ hd hu r
    unfold flatVals at ih ⊢
    have e1 : intEl cx e x = n := by unfold intEl; rw [hn]; rfl
    rw [List.flatMap_cons, hn, List.map_cons, e1, ← ih]
    rfl

def goCopy {α : Type} (val : α → Int) (d : α) (xs : List α) : Nat → List Int → List Int
  | _, [] => []
  | i, o :: r => cond (decide (i < xs.length)) (val (xs.getD i d)) o :: goCopy val d xs (i + 1) r

theorem goCopy_eq {α : Type} (val : α → Int) (d : α) (xs : List α) : ∀ (i : Nat) (r : List Int), goCopy val d xs i r = ((xs.drop i).take r.length).map val ++ r.drop ((xs.drop i).take r.length).length
  | i, [] => by simp [goCopy]
  | i, o :: r => by
    rw [goCopy, goCopy_eq val d xs (i + 1) r]
    by_cases hi : i < xs.length
    · have h1 : xs.drop i = xs.getD i d :: xs.drop (i + 1) := by
        rw [List.drop_eq_getElem_cons hi]
        simp [List.getD, hi]
      rw [h1]
      simp only [hi, decide_true, cond_true, List.length_cons, List.take_succ_cons, List.map_cons, List.cons_append, List.drop_succ_cons]
    · have a1 : xs.drop i = [] := List.drop_eq_nil_of_le (by omega)
      have a2 : xs.drop (i + 1) = [] := List.drop_eq_nil_of_le (by omega)
      rw [a1, a2]
      simp [hi]

def copyInts {α : Type} (val : α → Int) (d : α) (xs : List α) (off : Nat) (ys : List Int) : List Int := ys.take off ++ goCopy val d xs 0 (ys.drop off)

def copyOf (o : Oper) : Option (Operand × Operand × TypeId × TypeId) :=
  match o.guard, o.op with
  | none, .call cl => match cl.callee, cl.args.toList, cl.argTypes.toList with
    | .builtin .copy, [d, s], [dT, sT] => some (d, s, dT, sT)
    | _, _, _ => none
  | _, _ => none

theorem copyOf_eq {o : Oper} {d s : Operand} {dT sT : TypeId} (h : copyOf o = some (d, s, dT, sT)) : o.guard = none ∧ o.op = .call { callee := .builtin .copy, args := #[d, s], argTypes := #[dT, sT] } := by
  unfold copyOf at h
  split at h
  · rename_i cl hg ho
    split at h
    · rename_i d' s' dT' sT' hc ha ht
      simp only [Option.some.injEq, Prod.mk.injEq] at h
      obtain ⟨rfl, rfl, rfl, rfl⟩ := h
      refine ⟨hg, ?_⟩
      rw [ho]
      obtain ⟨c, a, t⟩ := cl
      simp only at hc ha ht
      have ha' : a = #[d', s'] := Array.ext' (by simpa using ha)
      have ht' : t = #[dT', sT'] := Array.ext' (by simpa using ht)
      subst hc; subst ha'; subst ht'
      rfl
    · simp at h
  · simp at h

/-- What 'copy' into a window leaves. -/
def stC (P : Program) (cx : Cx) (st : St cx.ty) (o : Oper) : Option (St cx.ty) :=
  match copyOf o with
  | some (d, s, dT, _) => match getV st.slots d, getV st.slots s, sliceElem P dT with
    | .inr (.inr p), .inl (.inl (some (.inr q))), some e =>
      if p.kind == 0 && decide (0 < p.i) && p.off + (p.i - 1) == p.cells.length && isU8 P e && q.e == e && cx.dom q.e && cx.flat q.e && elemOk P cx e && (rdn q).all (fun n => !st.D.contains n) then
        match leafInts .u8 p.cells with
        | some ys => some { st with slots := setO (st.slots.map (updB p.nm ((copyInts (intEl cx q.e) (cx.dflt q.e) q.xs p.off ys).map fun a => lv (.int .u8 a)))) o.dst junk }
        | none => none
      else none
    | _, _, _ => none
  | none => none

theorem stC_ok (ok : cx.Ok) (hZ : cx.POk P) {st st' : St cx.ty} {o : Oper} (hst : stC P cx st o = some st') {c : Ct cx.ty} {a : Act} (h : RS cx c st a) (hlo : loO st.lo o.dst = true) :
    o.guard = none ∧ Runs P o a.eval c.w (fun u w' => ∃ c', RS cx c' st' (a.put o.dst u) ∧ c'.w = w' ∧ c'.S = c.S ∧ c'.N = c.N ∧ c'.K = c.K ∧ Kept c.N c.w w') := by
  unfold stC at hst
  split at hst
  · rename_i d s dT sT hco
    obtain ⟨hgd, ho⟩ := copyOf_eq hco
    refine ⟨hgd, ?_⟩
    split at hst
    · rename_i p q e hp hq he
      split at hst
      · rename_i hc
        simp only [Bool.and_eq_true, beq_iff_eq, decide_eq_true_eq] at hc
        obtain ⟨⟨⟨⟨⟨⟨⟨⟨hk, hi⟩, hfit⟩, hu8⟩, rfl⟩, hdom⟩, hflat⟩, hel⟩, hrd⟩ := hc
        have hu8 := isU8_eq hu8
        split at hst
        · rename_i ys hys
          simp only [Option.some.injEq] at hst
          subst hst
          obtain ⟨m, hm⟩ : ∃ m, p.i = m + 1 := ⟨p.i - 1, by omega⟩
          rw [hm] at hfit
          simp only [Nat.add_sub_cancel] at hfit
          have hra := eval_rep h.rep d
          rw [hp] at hra
          have hra : RepP cx c p (a.eval d) := hra
          unfold RepP at hra
          simp only [hk, hm] at hra
          obtain ⟨tk, ht, hn, hcc, g, hu, hpa⟩ := hra
          have hpa : a.eval d = .slice (some ⟨g, p.off, none⟩) m m := hpa
          have htr := h.wf.rep tk ht
          unfold TokRep at htr
          rw [hcc] at htr
          obtain ⟨hfp, g', cur, et, hu', hh, hcells⟩ := htr
          rw [hu] at hu'
          simp only [Value.pointer.injEq, Option.some.injEq, Addr.mk.injEq] at hu'
          obtain ⟨rfl, _⟩ := hu'
          have hcur := leafInts_rep p.cells cur.toList ys hcells hys
          have hyl : ys.length = p.cells.length := by rw [← hcells.1, hcur, List.length_map]
          -- the source
          have hrq := eval_rep h.rep s
          rw [hq] at hrq
          have hsz : cx.size q.e = 1 := by
            obtain ⟨n, hn⟩ := hZ.u8 q.e hdom hu8 true (cx.dflt q.e)
            rw [← ok.len q.e true (cx.dflt q.e), hn]
            rfl
          have hrdD : ∀ n ∈ rdn q, n ∉ c.D := fun n hn => by
            have := List.all_eq_true.1 hrd n hn
            rw [h.dead]
            simpa using this
          have hrq : RepLS cx c (some (.inr q)) (a.eval s) := hrq
          obtain ⟨sa, scap, hsv, hsc⟩ := rep_cells ok h.wf hflat (by omega) hrq hrdD
          obtain ⟨⟨dd, hdd⟩, hcs⟩ := elemOk_spec hel
          have hinfo : (P.info? q.e).map (·.size) = some 1 := by
            have := hcs
            unfold Program.underlying at hdd
            unfold Program.cellsOf at this
            cases hi2 : P.info? q.e with
            | none => rw [hi2] at hdd; simp at hdd
            | some i2 => rw [hi2] at this; simp only [Option.map_some, Option.some.injEq]; simp at this; omega
          let f : cx.ty q.e → Value := fun x => .int .u8 (intEl cx q.e x)
          let cs : List Value := (q.xs.take m).map f
          have hcsl : cs.length = Nat.min q.xs.length m := by simp [cs, Nat.min_comm, Nat.min_def]
          have hsrc : ∀ ad, sa = some ad → ∀ j v, cs[j]? = some v → c.w.cell? (ad.add j) = some v := by
            intro ad had j v hj
            rcases hsc with h0 | ⟨ad2, had2, hc2⟩
            · simp [cs, h0] at hj
            · rw [had] at had2
              cases had2
              refine hc2 j v ?_
              rw [flat_ints hZ hdom hu8]
              have hjm : j < m := by
                have := (List.getElem?_eq_some_iff.1 hj).1
                simp [cs] at this
                omega
              simp only [cs, List.getElem?_map, List.getElem?_take_of_lt hjm] at hj
              rw [List.getElem?_map]
              exact hj
          have hone : ∀ v ∈ cs, v.oneCell' = true := by
            intro v hv
            obtain ⟨x, _, rfl⟩ := List.mem_map.1 hv
            rfl
          let us : List Value := cur.toList.take p.off ++ cs ++ cur.toList.drop (p.off + cs.length)
          have hsz2 : cur.size = p.off + m := by
            have := hcells.1
            simp at this
            omega
          have hrun : (execOp a.eval o).run P c.w = .ok (.value (goInt cs.length)) (c.w.setRow g us.toArray) := by
            by_cases h0 : cs.length = 0
            · have hcn : cs = [] := List.eq_nil_of_length_eq_zero h0
              have hus : us.toArray = cur := by simp [us, hcn]
              have hrun := run_copy_none (P := P) c.w dT sT o.type q.e (some ⟨g, p.off, none⟩) sa m m q.xs.length scap (sliceElem_eq he) hinfo (by rw [← hcsl]; exact h0)
              rw [hus, setRow_self c.w g cur et (0, 0) hh]
              simp [execOp, ho, resolve, invoke, builtin, hpa, hsv, hrun, h0]
            · cases sa with
              | none =>
                rcases hsc with h1 | ⟨_, h1, _⟩
                · exact absurd (by simp [cs, h1]) h0
                · cases h1
              | some ad =>
                have h9 : cs.length ≤ m := by rw [hcsl]; exact Nat.min_le_right _ _
                have hrun := run_copy_row (P := P) c.w dT sT o.type q.e g p.off m m ad q.xs.length scap cur et cs (sliceElem_eq he) hinfo hh hcsl (hsrc ad rfl) (by omega) hone
                simp [execOp, ho, resolve, invoke, builtin, hpa, hsv, hrun, us]
          have hnew : RepLs cx c ((copyInts (intEl cx q.e) (cx.dflt q.e) q.xs p.off ys).map fun a => lv (.int .u8 a)) us := by
            have hue : us = (copyInts (intEl cx q.e) (cx.dflt q.e) q.xs p.off ys).map fun a => .int .u8 a := by
              have e1 : (ys.drop p.off).length = m := by simp; omega
              unfold copyInts
              rw [goCopy_eq, e1]
              simp only [us, cs, hcur, f, List.drop_zero, List.map_append, List.map_take, List.map_map, List.length_map, List.length_take, List.drop_drop, List.append_assoc, List.map_drop, Function.comp_def]
            rw [hue]
            refine ⟨by simp, fun j b u h1 h2 => ?_⟩
            rw [List.getElem?_map] at h1 h2
            cases hj : (copyInts (intEl cx q.e) (cx.dflt q.e) q.xs p.off ys)[j]? with
            | none => rw [hj] at h1; simp at h1
            | some y =>
              rw [hj] at h1 h2
              simp only [Option.map_some, Option.some.injEq] at h1 h2
              subst h1; subst h2
              exact rfl
          obtain ⟨T', hrs, hkept⟩ := box_set h ht hn hcc hu hh hfp hnew
          unfold Runs
          rw [hrun]
          exact ⟨_, RS.forget hrs hlo _, rfl, rfl, rfl, rfl, hkept⟩
        · simp at hst
      · simp at hst
    · simp at hst
  · simp at hst

/-! ### A place in an array, a window into one -/
def evIndexAddrB {β : Type} (P : Program) (slots : List (V cx.ty)) (t : TypeId) (x ix : Operand) (k : Eff cx.ty → Option β) : Option β :=
  match getV slots x with
  | .inr (.inr p) => match getV slots ix, arrOf P t with
    | .inl (.inl (some (.inl (.int _ i)))), some (n, e) =>
      if p.kind == 0 && p.i == 0 && p.off == 0 && n == p.cells.length && decide (1 < n) && (P.underlying e).isSome && P.cellsOf e == 1 then
        bif decide (0 ≤ i) && decide (i < n) then k (purR (.inr (.inr { p with off := i.toNat })) []) else none
      else none
    | _, _ => none
  | _ => evIndexAddr P slots t x ix k

theorem arrOf_eq {t : TypeId} {n : Nat} {e : TypeId} (h : arrOf P t = some (n, e)) : P.underlying t = some (.array n e) := by
  unfold arrOf at h
  split at h
  · rename_i n2 e2 hq
    simp only [Option.some.injEq, Prod.mk.injEq] at h
    obtain ⟨rfl, rfl⟩ := h
    exact hq
  · simp at h

theorem evIndexAddrB_ok (ok : cx.Ok) {β : Type} {o : Oper} {slots : List (V cx.ty)} {nm0 : Nat} {t : TypeId} {x ix : Operand} (ho : o.op = .indexAddr t x ix) {k : Eff cx.ty → Option β} {r : β}
    (h : evIndexAddrB P slots t x ix k = some r) : ∃ ef, k ef = some r ∧ EffOK P cx o slots nm0 ef := by
  unfold evIndexAddrB at h
  split at h
  · rename_i p hx
    split at h
    · rename_i ki i n e hix ha
      split at h
      · rename_i hc
        simp only [Bool.and_eq_true, beq_iff_eq, decide_eq_true_eq] at hc
        obtain ⟨⟨⟨⟨⟨⟨hk, hi0⟩, hoff⟩, hn⟩, hn1⟩, hund⟩, hsz⟩ := hc
        cases hb : (decide (0 ≤ i) && decide (i < n)) with
        | false => rw [hb] at h; simp at h
        | true =>
          rw [hb] at h
          simp only [Bool.and_eq_true, decide_eq_true_eq] at hb
          refine ⟨_, h, effok_pur fun c ρ hw hop _ => ?_⟩
          have hr := hop x (by simp [ho, Op.operands])
          rw [hx] at hr
          have hri := hop ix (by simp [ho, Op.operands])
          rw [hix] at hri
          have hri : ρ ix = .int ki i := hri
          have hr : RepP cx c p (ρ x) := hr
          unfold RepP at hr
          simp only [hk, hi0, hoff] at hr
          obtain ⟨tk, ht, hnm, hcc, g, hu, hpa⟩ := hr
          have hpa : ρ x = .pointer (some ⟨g, 0, none⟩) := hpa
          obtain ⟨dd, hd⟩ := Option.isSome_iff_exists.1 hund
          refine ⟨.pointer (some ⟨g, i.toNat, none⟩), ?_, ?_⟩
          · have hlt : 0 ≤ i ∧ i < (n : Int) := ⟨hb.1, hb.2⟩
            have hn1' : ¬ n ≤ 1 := by omega
            unfold execOp
            simp [ho, Instr.indexAt, Instr.sureAddr, hri, hpa, asIntOf, run_underlying (arrOf_eq ha), hlt, run_sizeOf' hd, hsz, Addr.add_lit]
          · show RepP cx c { p with off := i.toNat } _
            unfold RepP
            simp only [hk, hi0]
            exact ⟨tk, ht, hnm, hcc, g, hu, rfl⟩
      · simp at h
    · simp at h
  · exact evIndexAddr_ok ok ho h

def evSliceB {β : Type} (P : Program) (cx : Cx) (slots : List (V cx.ty)) (t : TypeId) (x : Operand) (lo hi mx : Option Operand) (k : Eff cx.ty → Option β) : Option β :=
  match getV slots x with
  | .inr (.inr p) => match arrOf P t, hi, mx with
    | some (n, e), none, none =>
      if p.kind == 0 && p.i == 0 && p.off == 0 && n == p.cells.length && (P.underlying e).isSome && P.cellsOf e == 1 then
        match lo with
        | none => k (purR (.inr (.inr { p with i := n + 1 })) [])
        | some lx => match getV slots lx with
          | .inl (.inl (some (.inl (.int _ i)))) => bif decide (0 ≤ i) && decide (i < n) then k (purR (.inr (.inr { p with off := i.toNat, i := n - i.toNat + 1 })) []) else none
          | _ => none
      else none
    | _, _, _ => none
  | _ => evSlice P cx slots t x lo hi mx k

theorem evSliceB_ok (ok : cx.Ok) {β : Type} {o : Oper} {slots : List (V cx.ty)} {nm0 : Nat} {t : TypeId} {x : Operand} {lo hi mx : Option Operand} (ho : o.op = .slice t x lo hi mx) {k : Eff cx.ty → Option β} {r : β}
    (h : evSliceB P cx slots t x lo hi mx k = some r) : ∃ ef, k ef = some r ∧ EffOK P cx o slots nm0 ef := by
  unfold evSliceB at h
  split at h
  · rename_i p hx
    split at h
    · rename_i n e ha
      split at h
      · rename_i hc
        simp only [Bool.and_eq_true, beq_iff_eq] at hc
        obtain ⟨⟨⟨⟨⟨hk, hi0⟩, hoff⟩, hn⟩, hund⟩, hsz⟩ := hc
        obtain ⟨dd, hd⟩ := Option.isSome_iff_exists.1 hund
        split at h
        · refine ⟨_, h, effok_pur fun c ρ hw hop _ => ?_⟩
          have hr := hop x (by simp [ho, Op.operands])
          rw [hx] at hr
          have hr : RepP cx c p (ρ x) := hr
          unfold RepP at hr
          simp only [hk, hi0, hoff] at hr
          obtain ⟨tk, ht, hnm, hcc, g, hu, hpa⟩ := hr
          have hpa : ρ x = .pointer (some ⟨g, 0, none⟩) := hpa
          refine ⟨.slice (some ⟨g, 0, none⟩) n n, ?_, ?_⟩
          · unfold execOp
            simp [ho, Instr.sliceAt, Instr.sureAddr, hpa, run_underlying (arrOf_eq ha), Instr.sliceBounds, run_sizeOf' hd, Addr.add_lit]
          · show RepP cx c { p with i := n + 1 } _
            unfold RepP
            simp only [hk, hoff]
            exact ⟨tk, ht, hnm, hcc, g, hu, rfl⟩
        · rename_i lx
          split at h
          · rename_i ki i hlx
            cases hb : (decide (0 ≤ i) && decide (i < n)) with
            | false => rw [hb] at h; simp at h
            | true =>
              rw [hb] at h
              simp only [Bool.and_eq_true, decide_eq_true_eq] at hb
              refine ⟨_, h, effok_pur fun c ρ hw hop _ => ?_⟩
              have hr := hop x (by simp [ho, Op.operands])
              rw [hx] at hr
              have hrl := hop lx (by simp [ho, Op.operands])
              rw [hlx] at hrl
              have hrl : ρ lx = .int ki i := hrl
              have hr : RepP cx c p (ρ x) := hr
              unfold RepP at hr
              simp only [hk, hi0, hoff] at hr
              obtain ⟨tk, ht, hnm, hcc, g, hu, hpa⟩ := hr
              have hpa : ρ x = .pointer (some ⟨g, 0, none⟩) := hpa
              refine ⟨.slice (some ⟨g, i.toNat, none⟩) (n - i.toNat) (n - i.toNat), ?_, ?_⟩
              · have hle : i ≤ (n : Int) := by omega
                have hne : ¬ n = i.toNat := by omega
                unfold execOp
                simp [ho, Instr.sliceAt, Instr.sureAddr, hpa, run_underlying (arrOf_eq ha), Instr.sliceBounds, Instr.sliceBound, hrl, asIntOf, hb.1, hle, hne, run_sizeOf' hd, hsz, Addr.add_lit]
              · show RepP cx c { p with off := i.toNat, i := n - i.toNat + 1 } _
                unfold RepP
                simp only [hk]
                exact ⟨tk, ht, hnm, hcc, g, hu, rfl⟩
          · simp at h
      · simp at h
    · simp at h
  · exact evSlice_ok ok ho h

/-- An array is sliced for a literal of rows alone: its box is frozen. -/
def inLit (ops : Array Oper) (d : Option Tmp) : Bool := ops.toList.any fun q => match q.op, d with
  | .buildSlice _ _ parts, some d => parts.toList.any fun y => match y.2 with
    | .tmp t => t == d
    | _ => false
  | _, _ => false

def arrBoxL (P : Program) (cx : Cx) (ops : Array Oper) (slots : List (V cx.ty)) (o : Oper) : Option (Pt cx.ty × (e : Nat) × List (cx.ty e)) :=
  if inLit ops o.dst then arrBox P cx slots o else none

theorem arrBoxL_eq {ops : Array Oper} {slots : List (V cx.ty)} {o : Oper} {r : Pt cx.ty × (e : Nat) × List (cx.ty e)} (h : arrBoxL P cx ops slots o = some r) : arrBox P cx slots o = some r := by
  unfold arrBoxL at h
  split at h
  · exact h
  · simp at h

end
end Go.VM

namespace Go.VM
open Go.RowKit
section
variable {cx : Cx} {P : Program}

/-! ### A window that is put into a row of rows: its box is frozen there -/
theorem winA_repS (ok : cx.Ok) {c : Ct cx.ty} (hw : Wf cx c) {t : TypeId} {p : Pt cx.ty} {a : A cx.ty} (ha : winA P cx t p = some a) {u : Value} (h : RepP cx c p u) {S : Nat → Prop}
    (hS : ∀ tk ∈ c.T, ∀ g, tk.nm = p.nm → tk.u = .pointer (some ⟨g, 0, none⟩) → S g) : p.kind = 0 ∧ (∃ tk ∈ c.T, tk.nm = p.nm ∧ ∃ l, tk.c = .inr l) ∧ ∃ s, a = .inl (some (.inr s)) ∧ s.own = 0 ∧ ∃ n, RepL cx c.w S n (some (.inr s)) u := by
  unfold winA at ha
  split at ha
  · rename_i e he
    split at ha
    · rename_i hc
      simp only [Bool.and_eq_true, beq_iff_eq, decide_eq_true_eq] at hc
      obtain ⟨⟨⟨⟨hk0, hi⟩, hflat⟩, hsz⟩, hfit⟩ := hc
      split at ha
      · rename_i xs hxs
        simp only [Option.some.injEq] at ha
        subst ha
        obtain ⟨m, hm⟩ : ∃ m, p.i = m + 1 := ⟨p.i - 1, by omega⟩
        rw [hm] at hxs hfit
        simp only [Nat.add_sub_cancel] at hxs hfit
        unfold RepP at h
        simp only [hk0, hm] at h
        obtain ⟨tk, ht, hnm, hcc, g, htu, hpa⟩ := h
        have hpa : u = .slice (some ⟨g, p.off, none⟩) m m := hpa
        have htr := hw.rep tk ht
        unfold TokRep at htr
        rw [hcc] at htr
        obtain ⟨hfp, g', cur, et, hu', hh, hcells⟩ := htr
        rw [htu] at hu'
        simp only [Value.pointer.injEq, Option.some.injEq, Addr.mk.injEq] at hu'
        obtain ⟨rfl, _⟩ := hu'
        obtain ⟨hxl, hxw⟩ := decN_spec ok false m _ xs hxs
        refine ⟨hk0, ⟨tk, ht, hnm, _, hcc⟩, _, rfl, rfl, 2, some ⟨g, p.off, none⟩, m, by rw [hpa, ← hxl]; rfl, by show xs.length ≤ m; omega, .inr ⟨g, p.off, rfl, hS tk ht g hnm htu, fun i y hy j l hl => ?_⟩⟩
        have hl : (cx.enc e false y)[j]? = some l := hl
        have hy : xs[i]? = some y := hy
        have hj : j < 1 := by
          have h8 := (List.getElem?_eq_some_iff.1 hl).1
          have h9 : (cx.enc e false y).length = cx.size e := ok.len e false y
          omega
        have hfg := flat_get (cx.enc e false) 1 (fun x => by rw [ok.len, hsz]) xs i y hy j hj
        rw [← hxw, hl, List.getElem?_map] at hfg
        obtain ⟨v, hv⟩ := ok.flat e false y hflat l (List.mem_of_getElem? hl)
        subst hv
        cases hl0 : ((p.cells.drop p.off).take m)[i * 1 + j]? with
        | none => rw [hl0] at hfg; simp at hfg
        | some l0 =>
          rw [hl0] at hfg
          simp only [Option.map_some, Option.some.injEq] at hfg
          have hl1 : l0 = some (.inl v) := by
            unfold weak at hfg
            split at hfg
            · simp at hfg
            · exact hfg
          have hlm : i * 1 + j < m := by
            have := (List.getElem?_eq_some_iff.1 hl0).1
            simp at this
            omega
          have hl2 : p.cells[p.off + (i * 1 + j)]? = some l0 := by
            rw [List.getElem?_take_of_lt hlm, List.getElem?_drop] at hl0
            exact hl0
          have hlt : p.off + (i * 1 + j) < cur.toList.length := by
            rw [hcells.1]
            exact (List.getElem?_eq_some_iff.1 hl2).1
          have hcv := hcells.2 _ l0 _ hl2 (List.getElem?_eq_getElem hlt)
          rw [hl1] at hcv
          have hcv : cur.toList[p.off + (i * 1 + j)] = v := hcv
          refine ⟨v, ?_, rfl⟩
          show c.w.cell? ⟨g, p.off + (i * cx.size e + j), none⟩ = some v
          rw [hsz]
          simp only [World.cell?, hh]
          simp only [← hcv]
          simp
      · simp at ha
    · simp at ha
  · simp at ha

def St.frzW {ty : Nat → Type} (st : St ty) (t nm : Nat) (a : A ty) : St ty := { st with slots := (st.slots.map (killB nm)).set t (.inl a) }

theorem frzW_ok (ok : cx.Ok) {st : St cx.ty} {c : Ct cx.ty} {act : Act} (h : RS cx c st act) {t : Nat} {p : Pt cx.ty} (hp : st.slots.getD t junk = .inr (.inr p)) {te : TypeId} {s : A cx.ty} (hwin : winA P cx te p = some s) :
    ∃ c', RS cx c' (st.frzW t p.nm s) act ∧ c'.w = c.w ∧ c'.S = c.S ∧ c'.N = c.N ∧ c'.K = c.K := by
  have hr := h.rep t
  rw [hp] at hr
  have hr : RepP cx c p (act.tmps.getD t undef) := hr
  let c' : Ct cx.ty := { c with T := c.T.filter (fun t2 => !(t2.nm == p.nm)) }
  have hmem : ∀ t2, t2 ∈ c'.T ↔ t2 ∈ c.T ∧ t2.nm ≠ p.nm := fun t2 => by simp [c', List.mem_filter]
  obtain ⟨hk0, ⟨tk, ht, hnm, lb, hcc⟩, sl, hs, hown, n, hrep⟩ := winA_repS ok h.wf hwin hr (S := Rd c') (fun tk ht g hnm htu => by
    have hgv : g ∈ vb tk.u := by rw [htu]; simp [vb]
    have hgb := h.wf.bound tk ht g (List.mem_append.2 (.inl hgv))
    exact ⟨hgb.2, .inr hgb.1, fun t2 h2 hv => by
      obtain ⟨q1, q2⟩ := (hmem t2).1 h2
      exact disjoint_toks h.wf q1 ht (fun e => q2 (e.trans hnm)) (List.mem_append.2 (.inl hv)) (List.mem_append.2 (.inl hgv))⟩)
  have hib : ∀ t2 ∈ c.T, t2.nm = p.nm → ∃ l, t2.c = .inr l := fun t2 h2 hn2 => by
    have := uniq_tok h.wf h2 ht (hn2.trans hnm.symm)
    subst this
    exact ⟨_, hcc⟩
  have hP : PresX (fun n => n = p.nm) c c' := ⟨fun b hb => ⟨⟨hb.1, hb.2.1, fun t2 h2 => hb.2.2 t2 ((hmem t2).1 h2).1⟩, rfl⟩, rfl, rfl, fun t2 h2 hX s hs => (hmem t2).2 ⟨h2, hX⟩, fun t2 h2 hX l hl => ⟨t2, (hmem t2).2 ⟨h2, hX⟩, rfl, rfl, hl⟩⟩
  have hnew : RepLS cx c' (some (.inr sl)) (act.tmps.getD t undef) := by
    unfold RepLS
    have : ¬ sl.own = 1 := by omega
    simp only [this, if_false]
    exact ⟨n, hrep⟩
  refine ⟨c', ⟨⟨?_, ?_, fun t2 h2 => h.wf.bound t2 ((hmem t2).1 h2).1, fun t2 h2 => ?_, h.wf.start, fun t2 h2 => h.wf.live t2 ((hmem t2).1 h2).1, h.wf.size⟩, ?_, fun t2 => ?_, h.defers, h.dead, h.frz, fun n hn => ?_, h.kp⟩, rfl, rfl, rfl, rfl⟩
  · exact (List.Sublist.map _ List.filter_sublist).nodup h.wf.names
  · exact filter_sub_nodup _ h.wf.nodup
  · obtain ⟨q1, q2⟩ := (hmem t2).1 h2
    have hold := h.wf.rep t2 q1
    unfold TokRep at hold ⊢
    split at hold
    · obtain ⟨hv, hold⟩ := hold
      refine ⟨hv, ?_⟩
      split at hold
      · rename_i hso
        rw [if_pos hso]
        exact hold
      · rename_i hso
        rw [if_neg hso]
        obtain ⟨hf, us, m, hrow, hl2, hr⟩ := hold
        exact ⟨hf, us, m, hrow, hl2, fun j l v h1 h2 => RepL_mono cx (fun b hb => (hP.rd b hb).2) (fun b hb => (hP.rd b hb).1) m l v (hr j l v h1 h2)⟩
    · obtain ⟨hf, g2, cur2, e2, hu2, hh2, hr⟩ := hold
      exact ⟨hf, g2, cur2, e2, hu2, hh2, hr.1, fun j a b e1 e2 => repLS_box hP hib (hr.2 j a b e1 e2)⟩
  · show act.tmps.size = ((st.slots.map (killB p.nm)).set t (.inl s)).length
    rw [List.length_set, List.length_map]
    exact h.size
  · have hk : (st.slots.map (killB p.nm)).getD t2 junk = killB p.nm (st.slots.getD t2 junk) := by
      by_cases hlt : t2 < st.slots.length
      · simp [List.getD, hlt]
      · simp [List.getD, List.getElem?_eq_none (Nat.le_of_not_lt hlt), junk, killB]
    have hold := killB_rep hP hib (h.rep t2)
    rw [← hk] at hold
    show RepV cx c' (((st.slots.map (killB p.nm)).set t (.inl s)).getD t2 junk) _
    by_cases htt : t = t2
    · subst htt
      by_cases hlt : t < (st.slots.map (killB p.nm)).length
      · have : ((st.slots.map (killB p.nm)).set t (.inl s)).getD t junk = .inl s := by
          simp only [List.getD, List.getElem?_set_self hlt, Option.getD_some]
        rw [this, hs]
        exact hnew
      · rw [List.set_eq_of_length_le (by omega)]
        exact hold
    · have : ((st.slots.map (killB p.nm)).set t (.inl s)).getD t2 junk = (st.slots.map (killB p.nm)).getD t2 junk := by
        simp only [List.getD, List.getElem?_set_ne htt]
      rw [this]
      exact hold
  · have hn' : Nm c n := by
      rcases hn with ⟨t2, h2, rfl⟩ | hn | hn
      · exact .inl ⟨t2, ((hmem t2).1 h2).1, rfl⟩
      · exact .inr (.inl hn)
      · exact .inr (.inr hn)
    exact h.names n hn'

def frzParts (P : Program) (cx : Cx) (te : TypeId) : List Operand → St cx.ty → St cx.ty
  | [], st => st
  | x :: r, st => match x with
    | .tmp t => match st.slots.getD t junk with
      | .inr (.inr p) => match winA P cx te p with
        | some a => frzParts P cx te r (st.frzW t p.nm a)
        | none => frzParts P cx te r st
      | _ => frzParts P cx te r st
    | _ => frzParts P cx te r st

theorem frzParts_ok (ok : cx.Ok) {te : TypeId} {act : Act} : ∀ (l : List Operand) (st : St cx.ty) (c : Ct cx.ty), RS cx c st act → ∃ c', RS cx c' (frzParts P cx te l st) act ∧ c'.w = c.w ∧ c'.S = c.S ∧ c'.N = c.N ∧ c'.K = c.K
  | [], st, c, h => ⟨c, h, rfl, rfl, rfl, rfl⟩
  | x :: r, st, c, h => by
    unfold frzParts
    split
    · split
      · rename_i p hp
        split
        · rename_i a ha
          obtain ⟨c1, h1, e1, e2, e3, e4⟩ := frzW_ok ok h hp ha
          obtain ⟨c2, h2, f1, f2, f3, f4⟩ := frzParts_ok ok r _ c1 h1
          exact ⟨c2, h2, f1.trans e1, f2.trans e2, f3.trans e3, f4.trans e4⟩
        · exact frzParts_ok ok r st c h
      · exact frzParts_ok ok r st c h
    · exact frzParts_ok ok r st c h

/-- The state ahead of an operation. -/
def preSt (P : Program) (cx : Cx) (st : St cx.ty) (o : Oper) : St cx.ty :=
  match o.op with
  | .buildSlice t _ parts => match sliceElem P t with
    | some te => frzParts P cx te (parts.toList.map (·.2)) st
    | none => st
  | _ => st

theorem preSt_ok (ok : cx.Ok) {act : Act} {st : St cx.ty} {c : Ct cx.ty} (o : Oper) (h : RS cx c st act) : ∃ c', RS cx c' (preSt P cx st o) act ∧ c'.w = c.w ∧ c'.S = c.S ∧ c'.N = c.N ∧ c'.K = c.K := by
  unfold preSt
  split
  · split
    · exact frzParts_ok ok _ st c h
    · exact ⟨c, h, rfl, rfl, rfl, rfl⟩
  · exact ⟨c, h, rfl, rfl, rfl, rfl⟩

end
end Go.VM

namespace Go.VM
open Go.RowKit
section
variable {cx : Cx} {P : Program}

/-! ### Functions that may throw -/
/-- What a function that throws hands back, read as one that does not: outside of where it throws. -/
def retF {ty : Nat → Type} (F : List (A ty) → Option (Bool × List (A ty))) (as : List (A ty)) : Option (Bool × V ty) :=
  match F as with
  | some (pre, .inl (some (.inl (.bool thr))) :: .inl (some (.inl _)) :: rs) => some (bif thr then false else pre, packV rs)
  | _ => none

theorem SatT.ret {f : FuncId} {F : List (A cx.ty) → Option (Bool × List (A cx.ty))} (h : SatT P cx f F) : Sat P cx f (retF F) := by
  intro w A0 l us r hA hargs hF
  unfold retF at hF
  split at hF
  · rename_i pre thr v rs hFl
    simp only [Option.some.injEq, Prod.mk.injEq] at hF
    obtain ⟨h1, rfl⟩ := hF
    cases thr with
    | true => simp at h1
    | false =>
      simp only [cond_false] at h1
      subst h1
      refine (h w A0 l us false v rs hA hargs hFl).mono fun e w' ⟨hb, he⟩ => ?_
      simp only [cond_false] at he
      obtain ⟨u, he, hr⟩ := he
      exact ⟨u, he, hb, hr⟩
  · simp at hF

def oneK (f : FuncId) (F : List (A cx.ty) → Option (Bool × V cx.ty)) : FuncId → Option (List (A cx.ty) → Option (Bool × V cx.ty)) := fun g => if g = f then some F else none

def evCallT {β : Type} (P : Program) (f : FuncId) (W : WFn cx) (st : St cx.ty) (args : List Operand) (ts : List TypeId) (nm0 : Nat) (kt : Value → St cx.ty → Option β) (k : Eff cx.ty → Option β) : Option β :=
  match P.funcs[f]?, argVs P cx ts (args.map (getV st.slots)) with
  | some fn, some (as, rd) => match W.F as with
    | some (pre, .inl (some (.inl (.bool thr))) :: .inl (some (.inl v)) :: _) =>
      bif pre then
        (bif thr then (if fn.body.isSome && fn.name != "runtime.NumGoroutine" && rd.all (fun n => !st.D.contains n) then kt v st else none)
        else evCall P (oneK f (retF W.F)) st.slots f args ts nm0 k)
      else none
    | _ => none
  | _, _ => none

/-- The same state in a later world: nothing that was there has changed. -/
theorem RS.later {st : St cx.ty} {c : Ct cx.ty} {a : Act} (h : RS cx c st a) {w' : World} (hb : Below c.w.heap.size c.w w') :
    ∃ c', RS cx c' st a ∧ c'.w = w' ∧ c'.S = c.S ∧ c'.N = c.N ∧ c'.K = c.K ∧ Kept c.N c.w w' := by
  have hbase : ∀ b, c.w.heap.size ≤ b → c.N b := by exact h.wf.size
  have hg : Good cx c (purR (junk : V cx.ty) []) (st.ctr * 65536) undef w' ([] ++ c.T) :=
    good_add (N := []) h.wf hb hbase (by simp) (by simp) (by simp) (by simp) (fun n hn hh => by have := h.names n hn; omega) (by simp) trivial
  exact ⟨_, ⟨hg.wf, h.size, fun t => RepV.pres cx hg.pres (h.rep t), h.defers, h.dead, h.frz, h.names, h.kp⟩, rfl, rfl, rfl, rfl, hg.below⟩

theorem evCallT_ok (ok : cx.Ok) {β : Type} {o : Oper} {nm0 : Nat} {f : FuncId} {args : Array Operand} {ts : Array TypeId} {W : WFn cx} (hK : SatT P cx f W.F)
    (ho : o.op = .call { callee := .value (.func f), args := args, argTypes := ts }) {st : St cx.ty} {kt : Value → St cx.ty → Option β} {k : Eff cx.ty → Option β} {r : β}
    (h : evCallT P f W st args.toList ts.toList nm0 kt k = some r) :
    (∃ ef, k ef = some r ∧ EffOK P cx o st.slots nm0 ef) ∨
    (∃ v, kt v st = some r ∧ ∀ (c : Ct cx.ty) (a : Act), RS cx c st a → (execOp a.eval o).run P c.w = .ok (.enter f (args.map a.eval)) c.w ∧
      Calls P f (args.map a.eval) c.w fun e w' => e = .panicked [{ v := v, recovered := false }] ∧ Below c.w.heap.size c.w w') := by
  unfold evCallT at h
  split at h
  · rename_i fn as rd hfn hargs
    split at h
    · rename_i pre thr v rs hF
      cases pre with
      | false => simp at h
      | true =>
      simp only [cond_true] at h
      cases thr with
      | false =>
        simp only [cond_false] at h
        refine .inl (evCall_ok ok (fun g F hg => ?_) ho h)
        unfold oneK at hg
        split at hg
        · rename_i hgf
          simp only [Option.some.injEq] at hg
          subst hgf; subst hg
          exact hK.ret
        · simp at hg
      | true =>
        simp only [cond_true] at h
        · split at h
          · rename_i hc
            simp only [Bool.and_eq_true, bne_iff_ne, ne_eq] at hc
            obtain ⟨⟨hbody, hname⟩, hrd⟩ := hc
            refine .inr ⟨v, h, fun c a hrs => ?_⟩
            have hop : ∀ x, RepV cx c (getV st.slots x) (a.eval x) := fun x => eval_rep hrs.rep x
            have harep := argVs_rep ok hrs.wf ts.toList _ as rd (args.toList.map a.eval) hargs (by simp) (fun j b u h1 h2 => by
              simp only [List.getElem?_map] at h1 h2
              cases hx : args.toList[j]? with
              | none => simp [hx] at h1
              | some x =>
                simp only [hx, Option.map_some, Option.some.injEq] at h1 h2
                subst h1; subst h2
                exact hop x) (fun n hn => by
                  have := List.all_eq_true.1 hrd n hn
                  rw [hrs.dead]
                  simpa using this)
            have hrun : (execOp a.eval o).run P c.w = .ok (.enter f (args.map a.eval)) c.w := by
              have hb : ¬ fn.body = none := by
                intro hbb
                simp [hbb] at hbody
              have hfv : a.eval (.func f) = .func (.func f) #[] #[] := rfl
              unfold execOp
              simp [ho, resolve, Deferred.ofValue, invoke, callFunc, hfv, hfn, hb, hname]
            refine ⟨hrun, ?_⟩
            have hcall := hK c.w (All c) as (args.toList.map a.eval) true v rs (fun b hb => hb.1) harep.1 hF
            have hargsEq : (args.toList.map a.eval).toArray = args.map a.eval := Array.ext' (by simp)
            rw [hargsEq] at hcall
            exact hcall.mono fun e w' ⟨hb, he⟩ => ⟨he, hb⟩
          · simp at h
    · simp at h
  · simp at h

end
end Go.VM

namespace Go.VM
open Go.RowKit
section
variable {cx : Cx} {P : Program}

/-- Division, remainder and shifts: their tests stand open. -/
def evBin {β : Type} (P : Program) (o : Oper) (slots : List (V cx.ty)) (op : BinOp) (x y : Operand) (k : Eff cx.ty → Option β) : Option β :=
  match op, getV slots x, getV slots y with
  | .quo, .inl (.inl (some (.inl (.int kx a)))), .inl (.inl (some (.inl (.int ky b)))) =>
    if kx = ky then bif b == 0 then none else k (purR (vv (.int kx (kx.wrap (a.tdiv b)))) []) else none
  | .rem, .inl (.inl (some (.inl (.int kx a)))), .inl (.inl (some (.inl (.int ky b)))) =>
    if kx = ky then bif b == 0 then none else k (purR (vv (.int kx (a.tmod b))) []) else none
  | .shl, .inl (.inl (some (.inl (.int kx a)))), .inl (.inl (some (.inl (.int _ b)))) =>
    bif decide (b < 0) then none else k (purR (vv (.int kx (kx.wrap (a * 2 ^ (min b.toNat kx.bits))))) [])
  | .shr, .inl (.inl (some (.inl (.int kx a)))), .inl (.inl (some (.inl (.int _ b)))) =>
    bif decide (b < 0) then none else k (purR (vv (.int kx (a.fdiv (2 ^ (min b.toNat kx.bits))))) [])
  | _, _, _ => evGen P o slots k

theorem evBin_ok {β : Type} {o : Oper} {slots : List (V cx.ty)} {nm0 : Nat} {op : BinOp} {xt yt : TypeId} {x y : Operand} (ho : o.op = .binOp op xt x y yt) {k : Eff cx.ty → Option β} {r : β}
    (h : evBin P o slots op x y k = some r) : ∃ ef, k ef = some r ∧ EffOK P cx o slots nm0 ef := by
  have hxm : x ∈ o.op.operands := by simp [ho, Op.operands]
  have hym : y ∈ o.op.operands := by simp [ho, Op.operands]
  unfold evBin at h
  split at h
  · rename_i kx a ky b hx hy
    split at h
    · rename_i hk
      subst hk
      cases hb : (b == 0) with
      | true => rw [hb] at h; simp at h
      | false =>
        rw [hb] at h
        refine ⟨_, h, effok_pur fun c ρ hw hop _ => ?_⟩
        have h1 := hop x hxm; rw [hx] at h1; have h1 : ρ x = .int kx a := h1
        have h2 := hop y hym; rw [hy] at h2; have h2 : ρ y = .int kx b := h2
        have hb0 : ¬ b = 0 := by simpa using hb
        refine ⟨_, ?_, rfl⟩
        unfold execOp
        simp [ho, h1, h2, eqGuard, binOp, Op.intDiv, hb0]
    · simp at h
  · rename_i kx a ky b hx hy
    split at h
    · rename_i hk
      subst hk
      cases hb : (b == 0) with
      | true => rw [hb] at h; simp at h
      | false =>
        rw [hb] at h
        refine ⟨_, h, effok_pur fun c ρ hw hop _ => ?_⟩
        have h1 := hop x hxm; rw [hx] at h1; have h1 : ρ x = .int kx a := h1
        have h2 := hop y hym; rw [hy] at h2; have h2 : ρ y = .int kx b := h2
        have hb0 : ¬ b = 0 := by simpa using hb
        refine ⟨_, ?_, rfl⟩
        unfold execOp
        simp [ho, h1, h2, eqGuard, binOp, Op.intDiv, hb0]
    · simp at h
  · rename_i kx a ky b hx hy
    cases hb : decide (b < 0) with
    | true => rw [hb] at h; simp at h
    | false =>
      rw [hb] at h
      refine ⟨_, h, effok_pur fun c ρ hw hop _ => ?_⟩
      have h1 := hop x hxm; rw [hx] at h1; have h1 : ρ x = .int kx a := h1
      have h2 := hop y hym; rw [hy] at h2; have h2 : ρ y = .int ky b := h2
      have hb0 : ¬ b < 0 := by simpa using hb
      refine ⟨_, ?_, rfl⟩
      unfold execOp
      simp [ho, h1, h2, eqGuard, binOp, Op.shift, hb0]
  · rename_i kx a ky b hx hy
    cases hb : decide (b < 0) with
    | true => rw [hb] at h; simp at h
    | false =>
      rw [hb] at h
      refine ⟨_, h, effok_pur fun c ρ hw hop _ => ?_⟩
      have h1 := hop x hxm; rw [hx] at h1; have h1 : ρ x = .int kx a := h1
      have h2 := hop y hym; rw [hy] at h2; have h2 : ρ y = .int ky b := h2
      have hb0 : ¬ b < 0 := by simpa using hb
      refine ⟨_, ?_, rfl⟩
      unfold execOp
      simp [ho, h1, h2, eqGuard, binOp, Op.shift, hb0]
  · exact evGen_ok h

theorem effok_move {o : Oper} {slots : List (V cx.ty)} {nm0 : Nat} {x : Operand} (ho : o.op = .move x ∨ o.op = .assign x) : EffOK P cx o slots nm0 (purR (getV slots x) []) :=
  effok_pur fun c ρ hw hop _ => by
    refine ⟨ρ x, ?_, hop x (by rcases ho with ho | ho <;> simp [ho, Op.operands])⟩
    unfold execOp
    rcases ho with ho | ho <;> simp [ho]

abbrev Kt (cx : Cx) := FuncId → Option (List (A cx.ty) → Option (Bool × V cx.ty))

def evCallOp {β : Type} (P : Program) (Kc : Kt cx) (o : Oper) (cl : Call) (slots : List (V cx.ty)) (nm0 : Nat) (k : Eff cx.ty → Option β) : Option β :=
  match cl.callee with
  | .value (.func f) => evCall P Kc slots f cl.args.toList cl.argTypes.toList nm0 k
  | .builtin .len => match cl.args.toList, cl.argTypes.toList with
    | [x], [t] => evLen P o slots t x k
    | _, _ => none
  | .builtin .append => match cl.args.toList, cl.argTypes.toList with
    | [x, y], [t, t'] => if t = t' then evAppendAll P cx slots t x y nm0 k else none
    | _, _ => none
  | _ => evGen P o slots k

theorem evCallOp_ok (ok : cx.Ok) (hZ : cx.POk P) {Kc : Kt cx} (hK : KOk P cx Kc) {β : Type} {o : Oper} {cl : Call} {slots : List (V cx.ty)} {nm0 : Nat} (ho : o.op = .call cl) {k : Eff cx.ty → Option β} {r : β}
    (h : evCallOp P Kc o cl slots nm0 k = some r) : ∃ ef, k ef = some r ∧ EffOK P cx o slots nm0 ef := by
  obtain ⟨callee, args, ts⟩ := cl
  unfold evCallOp at h
  dsimp only at h
  split at h
  · exact evCall_ok ok hK ho h
  · split at h
    · rename_i x t ha ht
      have ha' : args = #[x] := Array.ext' (by simpa using ha)
      have ht' : ts = #[t] := Array.ext' (by simpa using ht)
      subst ha'; subst ht'
      exact evLen_ok ok ho h
    · simp at h
  · split at h
    · rename_i x y t t2 ha ht
      split at h
      · rename_i htt
        subst htt
        have ha' : args = #[x, y] := Array.ext' (by simpa using ha)
        have ht' : ts = #[t, t] := Array.ext' (by simpa using ht)
        subst ha'; subst ht'
        exact evAppendAll_ok ok hZ ho h
      · simp at h
    · simp at h
  · exact evGen_ok h

def evOp {β : Type} (P : Program) (Kc : Kt cx) (o : Oper) (slots : List (V cx.ty)) (nm0 : Nat) (k : Eff cx.ty → Option β) : Option β :=
  match o.op with
  | .move x => k (purR (getV slots x) [])
  | .assign x => k (purR (getV slots x) [])
  | .pick c a b => evPick slots c a b k
  | .extract x i => evExtract slots x i k
  | .field t x i => evField P slots t x i k
  | .fieldAddr t x i => evFieldAddr P slots t x i k
  | .indexAddr t x ix => evIndexAddrB P slots t x ix k
  | .load t x => evLoad P slots t x k
  | .nilCheck x => evNil P o slots x k
  | .index t x ix => evIndex P o slots t x ix k
  | .binOp .eql t x y _ => evEqS P o slots .eql t x y k
  | .binOp op _ x y _ => evBin P o slots op x y k
  | .call cl => evCallOp P Kc o cl slots nm0 k
  | .alloc t => evAlloc P t nm0 k
  | .box _ x => evBox slots x nm0 k
  | .build t parts => evBuildR P slots t parts.toList k
  | .buildSlice t len parts => evBuildAll P cx slots t len parts.toList nm0 k
  | .makeSlice t l c => evMake P cx slots t l c nm0 k
  | .convert src dst x => evConv P cx o slots src dst x k
  | .slice t x lo hi mx => evSliceB P cx slots t x lo hi mx k
  | _ => evGen P o slots k

theorem evOp_ok (ok : cx.Ok) (hZ : cx.POk P) {Kc : Kt cx} (hK : KOk P cx Kc) {β : Type} {o : Oper} {slots : List (V cx.ty)} {nm0 : Nat} {k : Eff cx.ty → Option β} {r : β}
    (h : evOp P Kc o slots nm0 k = some r) : ∃ ef, k ef = some r ∧ EffOK P cx o slots nm0 ef := by
  unfold evOp at h
  split at h
  · rename_i x ho; exact ⟨_, h, effok_move (.inl ho)⟩
  · rename_i x ho; exact ⟨_, h, effok_move (.inr ho)⟩
  · rename_i ho; exact evPick_ok ho h
  · rename_i ho; exact evExtract_ok ho h
  · rename_i ho; exact evField_ok ho h
  · rename_i ho; exact evFieldAddr_ok ok ho h
  · rename_i ho; exact evIndexAddrB_ok ok ho h
  · rename_i ho; exact evLoad_ok ok ho h
  · rename_i ho; exact evNil_ok ho h
  · rename_i ho; exact evIndex_ok ho h
  · rename_i ho; exact evEqS_ok ho h
  · rename_i ho; exact evBin_ok ho h
  · rename_i ho; exact evCallOp_ok ok hZ hK ho h
  · rename_i ho; exact evAlloc_ok ho h
  · rename_i ho; exact evBox_ok ho h
  · rename_i ho; exact evBuildR_ok ho h
  · rename_i ho; exact evBuildAll_ok ok hZ ho h
  · rename_i ho; exact evMake_ok ok hZ ho h
  · rename_i ho; exact evConv_ok ok hZ ho h
  · rename_i ho; exact evSliceB_ok ok ho h
  · exact evGen_ok h

/-- A guard, as the slots show it. -/
def guardV {ty : Nat → Type} (ops : Array Oper) (slots : List (V ty)) (j : Nat) : Option Bool :=
  match (ops[j]?).bind (·.dst) with
  | some d => match slots.getD d junk with
    | .inl (.inl (some (.inl (.bool b)))) => some b
    | _ => none
  | none => none

theorem guardV_spec {c : Ct cx.ty} {slots : List (V cx.ty)} {a : Act} (h : ∀ t, RepV cx c (slots.getD t junk) (a.tmps.getD t undef)) {ops : Array Oper} {j : Nat} {b : Bool} (hg : guardV ops slots j = some b) : yielded ops a.tmps j = some b := by
  unfold guardV at hg
  unfold yielded
  cases hd : (ops[j]?).bind (·.dst) with
  | none => simp [hd] at hg
  | some d =>
    simp only [hd] at hg
    split at hg
    · rename_i b' hb
      simp only [Option.some.injEq] at hg
      subst hg
      have := h d
      rw [hb] at this
      have this : a.tmps.getD d undef = .bool b' := this
      simp only [Option.bind_some]
      cases ht : a.tmps[d]? with
      | none =>
        simp [Array.getD_eq_getD_getElem?, ht, undef] at this
      | some v =>
        have hv : v = .bool b' := by simpa [Array.getD_eq_getD_getElem?, ht] using this
        rw [hv]
    · simp at hg

/-- A guard that was itself passed by. -/
def guardU {ty : Nat → Type} (ops : Array Oper) (slots : List (V ty)) (j : Nat) : Bool :=
  match (ops[j]?).bind (·.dst) with
  | some d => match slots.getD d junk with
    | .inl (.inl (some (.inl (.bool _)))) => false
    | .inl (.inl (some (.inl _))) => true
    | _ => false
  | none => false

theorem guardU_spec {c : Ct cx.ty} {slots : List (V cx.ty)} {a : Act} (h : ∀ t, RepV cx c (slots.getD t junk) (a.tmps.getD t undef)) {ops : Array Oper} {j : Nat} (hg : guardU ops slots j = true) : yielded ops a.tmps j = none := by
  unfold guardU at hg
  unfold yielded
  cases hd : (ops[j]?).bind (·.dst) with
  | none => simp
  | some d =>
    simp only [hd] at hg
    split at hg
    · simp at hg
    · rename_i v hnb hv
      have hr := h d
      rw [hv] at hr
      have hr : a.tmps.getD d undef = v := hr
      simp only [Option.bind_some]
      cases ht : a.tmps[d]? with
      | none => rfl
      | some x =>
        have hx : x = v := by simpa [Array.getD_eq_getD_getElem?, ht] using hr
        subst hx
        cases x with
        | bool b => exact absurd rfl (hnb b)
        | _ => rfl
    · simp at hg

/-- What a guard has told is known from there on. -/
def setG {ty : Nat → Type} (ops : Array Oper) (slots : List (V ty)) (j : Nat) (b : Bool) : List (V ty) :=
  match (ops[j]?).bind (·.dst) with
  | some d => slots.set d (vv (.bool b))
  | none => slots

theorem setG_eq {ty : Nat → Type} {ops : Array Oper} {slots : List (V ty)} {j : Nat} {b : Bool} (h : guardV ops slots j = some b) : setG ops slots j b = slots := by
  unfold guardV at h
  unfold setG
  split at h
  · rename_i d hd
    split at h
    · rename_i b' hb
      simp only [Option.some.injEq] at h
      subst h
      simp only [List.getD] at hb
      cases hx : slots[d]? with
      | none => rw [hx] at hb; simp [junk] at hb
      | some v =>
        rw [hx] at hb
        simp only [Option.getD_some] at hb
        subst hb
        obtain ⟨hlt, hv⟩ := List.getElem?_eq_some_iff.1 hx
        show slots.set d (vv (.bool b')) = slots
        have : vv (.bool b') = slots[d] := hv.symm
        rw [this, List.set_getElem_self]
    · simp at h
  · simp at h

theorem both {α : Type} (b : Bool) (E : Bool → α) : (bif b then E true else E false) = E b := by cases b <;> rfl

def storeOf (o : Oper) : Option (TypeId × Operand × Operand) :=
  match o.op with
  | .store t a x => if o.dst.isNone && o.guard.isNone then some (t, a, x) else none
  | _ => none

theorem storeOf_eq {o : Oper} {t : TypeId} {a x : Operand} (h : storeOf o = some (t, a, x)) : o.op = .store t a x ∧ o.dst = none ∧ o.guard = none := by
  unfold storeOf at h
  split at h
  · rename_i t' a' x' ho
    split at h
    · rename_i hc
      simp only [Option.some.injEq, Prod.mk.injEq] at h
      obtain ⟨rfl, rfl, rfl⟩ := h
      simp only [Bool.and_eq_true, Option.isNone_iff_eq_none] at hc
      exact ⟨ho, hc.1, hc.2⟩
    · simp at h
  · simp at h

/-- Operations in the order of the text. -/
def evSeq {β : Type} (P : Program) (Kc : Kt cx) (Kw : Kwt cx) (kt : Value → St cx.ty → Option β) (ops : Array Oper) (k : St cx.ty → Option β) : List Oper → St cx.ty → Option β
  | [], st => k st
  | o :: rest, st0 => (fun st : St cx.ty =>
    match storeOf o with
    | some (t, a, x) => match stA P st t a x with
      | some st' => evSeq P Kc Kw kt ops k rest st'
      | none => none
    | none =>
      match wcallOf Kw o with
      | some (f, W, cl) => if smallO o.dst && loO st.lo o.dst then
          match W.p with
          | 0 => evCallW P f W st.slots cl.args.toList cl.argTypes.toList (nmOf st.ctr o.dst) fun ef ps => if chk st ef then evSeq P Kc Kw kt ops k rest (st.appW o.dst ef ps) else none
          | 1 => evCallP P f W st o.dst cl.args.toList cl.argTypes.toList fun st' => evSeq P Kc Kw kt ops k rest st'
          | 3 => evCallT P f W st cl.args.toList cl.argTypes.toList (nmOf st.ctr o.dst) kt fun ef => if chk st ef then evSeq P Kc Kw kt ops k rest (st.app o.dst ef) else none
          | _ => evCallN P f W st.slots cl.args.toList cl.argTypes.toList (nmOf st.ctr o.dst) fun ef => if chk st ef then evSeq P Kc Kw kt ops k rest (st.app o.dst ef) else none
        else none
      | none =>
      match arrBoxL P cx ops st.slots o with
      | some (p, ⟨e, xs⟩) => if loO st.lo o.dst then evSeq P Kc Kw kt ops k rest (st.frzB o.dst p.nm (vs (ro e xs))) else none
      | none =>
      match stC P cx st o with
      | some st' => if loO st.lo o.dst then evSeq P Kc Kw kt ops k rest st' else none
      | none =>
      if smallO o.dst && loO st.lo o.dst then
        match o.guard with
        | none => evOp P Kc o st.slots (nmOf st.ctr o.dst) fun ef => if chk st ef then evSeq P Kc Kw kt ops k rest (st.app o.dst ef) else none
        | some (g, want) => match guardV ops st.slots g with
          | some b => bif b then
              (bif true == want then evOp P Kc o (setG ops st.slots g true) (nmOf st.ctr o.dst) fun ef => if chk { st with slots := setG ops st.slots g true } ef then evSeq P Kc Kw kt ops k rest (St.app { st with slots := setG ops st.slots g true } o.dst ef) else none
               else evSeq P Kc Kw kt ops k rest (St.app { st with slots := setG ops st.slots g true } o.dst (purR (vv undef) [])))
            else
              (bif false == want then evOp P Kc o (setG ops st.slots g false) (nmOf st.ctr o.dst) fun ef => if chk { st with slots := setG ops st.slots g false } ef then evSeq P Kc Kw kt ops k rest (St.app { st with slots := setG ops st.slots g false } o.dst ef) else none
               else evSeq P Kc Kw kt ops k rest (St.app { st with slots := setG ops st.slots g false } o.dst (purR (vv undef) [])))
          | none => if guardU ops st.slots g then evSeq P Kc Kw kt ops k rest (st.app o.dst (purR (vv undef) [])) else none
      else none) (preSt P cx st0 o)

/-- What a run of code ends in: a state that stands for the machine's. -/
def Post (cx : Cx) (W : World) {β : Type} (S N : Nat → Prop) (KK : List (Nat × Value)) (k : Exit → St cx.ty → Option β) (r : β) (e : Exit) (a : Act) (w : World) : Prop :=
  ∃ c st, RS cx c st a ∧ c.w = w ∧ c.S = S ∧ (c.N = N ∧ c.K = KK) ∧ Kept N W w ∧ k e st = some r

theorem RS.skip {c : Ct cx.ty} {st : St cx.ty} {a : Act} (h : RS cx c st a) {d : Option Tmp} (hlo : loO st.lo d = true) : RS cx c (st.app d (purR (vv undef) [])) (a.put d undef) := by
  refine ⟨h.wf, put_size h.size d _ _, put_rep h.size h.rep d (by exact rfl), by rw [put_defers]; exact h.defers, fun n => by simp [St.app, purR, h.dead n], fun n => by simp [St.app, purR, h.frz n], fun n hn => ?_, fun p u' hp => ⟨(h.kp p u' hp).1, (put_lo hlo undef (h.kp p u' hp).1).trans (h.kp p u' hp).2⟩⟩
  exact Nat.lt_of_lt_of_le (h.names n hn) (Nat.mul_le_mul_right _ (Nat.le_succ _))

/-- One operation of a sequence, whatever follows. -/
theorem evSeq_step (ok : cx.Ok) (hZ : cx.POk P) {Kc : Kt cx} (hK : KOk P cx Kc) {Kw : Kwt cx} (hKw : KwOk P cx Kw) {β : Type} {W : World} {S N : Nat → Prop} {KK : List (Nat × Value)} {ops : Array Oper} {Q : Exit → Act → World → Prop} {k : St cx.ty → Option β} {kt : Value → St cx.ty → Option β} {r : β} (hQt : ∀ v c st a, RS cx c st a → c.S = S → (c.N = N ∧ c.K = KK) → Kept N W c.w → kt v st = some r → Q (.panic [{ v := v, recovered := false }]) a c.w) {o : Oper} {rest : List Oper} {i : Nat} (h0 : ops[i]? = some o)
    {st0 : St cx.ty} {c0 : Ct cx.ty} {a : Act} (h00 : RS cx c0 st0 a) (hS : c0.S = S) (hb : (c0.N = N ∧ c0.K = KK)) (hbl : Kept N W c0.w) (he : evSeq P Kc Kw kt ops k (o :: rest) st0 = some r) {K : Act → World → Prop}
    (hKn : ∀ c' st' a', RS cx c' st' a' → c'.S = S → (c'.N = N ∧ c'.K = KK) → Kept N W c'.w → evSeq P Kc Kw kt ops k rest st' = some r → K a' c'.w) : wpOp P ops Q i K a c0.w := by
  unfold wpOp
  simp only [h0]
  simp only [evSeq] at he
  obtain ⟨c, h, q1, q2, q3, q4⟩ := preSt_ok (P := P) ok o h00
  generalize preSt P cx st0 o = st at h he
  rw [← q1] at hbl ⊢
  replace hS := q2.trans hS
  replace hb := (⟨q3.trans hb.1, q4.trans hb.2⟩ : c.N = N ∧ c.K = KK)
  clear h00 q1 q2 q3 q4
  cases hso : storeOf o with
  | some q =>
    obtain ⟨t, sa, sx⟩ := q
    rw [hso] at he
    obtain ⟨ho, hdst, hgd⟩ := storeOf_eq hso
    simp only at he
    split at he
    · rename_i st' hst
      obtain ⟨w', T', hrun, hrs, hbel⟩ := stA_ok ok ho hst h
      have hwant : Region.wanted o (yielded ops a.tmps) = true := by simp [Region.wanted, hgd]
      rw [if_pos hwant]
      refine .inl (Oper.wp_of_runs ?_)
      unfold Runs
      rw [hrun]
      have hput : a.put o.dst undef = a := by rw [hdst]; rfl
      show K (a.put o.dst undef) w'
      rw [hput]
      exact hKn _ _ _ hrs hS hb (hbl.trans (by rw [← hb.1]; exact hbel)) he
    · simp at he
  | none =>
  rw [hso] at he
  simp only at he
  cases hwc : wcallOf Kw o with
  | some q =>
    obtain ⟨f, F, cl⟩ := q
    rw [hwc] at he
    simp only at he
    split at he
    · rename_i hsm0
      obtain ⟨hsm, hlo⟩ := Bool.and_eq_true_iff.1 hsm0
      obtain ⟨hgd, hkw, hop⟩ := wcallOf_eq hwc
      have hso' := hKw f F hkw
      unfold SatOf at hso'
      have hwant : Region.wanted o (yielded ops a.tmps) = true := by simp [Region.wanted, hgd]
      split at he
      · rename_i hp0
        rw [hp0] at hso'
        obtain ⟨ef, ps, hk, hrun⟩ := evCallW_ok (nm0 := nmOf st.ctr o.dst) ok hso' hop he
        split at hk
        · rename_i hc
          have hcs := chk_spec h hc
          rw [if_pos hwant]
          refine .inl (Oper.wp_of_runs ?_)
          refine (hrun c a.eval h.wf (fun x _ => eval_rep h.rep x) hcs.1 (h.fresh _)).mono fun u w' ⟨T', hg⟩ => ?_
          exact hKn _ _ _ (h.appW hsm hlo hg) hS hb (hbl.trans (by rw [← hb.1]; exact hg.below)) hk
        · simp at hk
      · rename_i hp1
        rw [hp1] at hso'
        rw [if_pos hwant]
        refine .inl (Oper.wp_of_runs ?_)
        refine (evCallP_ok ok hso' hop h hsm hlo he).mono fun u w' ⟨c', st', hk, hrs, hw', h1, h2, h3, h4⟩ => ?_
        subst hw'
        exact hKn _ _ _ hrs (h1.trans hS) ⟨h2.trans hb.1, h3.trans hb.2⟩ (hbl.trans (by rw [← hb.1]; exact h4)) hk
      · rename_i hp3
        rw [hp3] at hso'
        rw [if_pos hwant]
        rcases evCallT_ok (nm0 := nmOf st.ctr o.dst) ok hso' hop he with ⟨ef, hk, hef⟩ | ⟨v, hk, hthr⟩
        · split at hk
          · rename_i hc
            have hcs := chk_spec h hc
            refine .inl (Oper.wp_of_runs ?_)
            have hrun := hef.go c a.eval h.wf (fun x _ => eval_rep h.rep x) hcs.1 hcs.2 (h.fresh _)
            refine hrun.mono fun u w' ⟨T', hg⟩ => ?_
            exact hKn _ _ _ (h.app hsm hlo hg) hS hb (hbl.trans (by rw [← hb.1]; exact hg.below)) hk
          · simp at hk
        · obtain ⟨hrun, hcall⟩ := hthr c a h
          refine .inl ?_
          unfold Oper.wp
          rw [hrun]
          refine hcall.mono fun e w' ⟨he2, hbw⟩ => ?_
          subst he2
          obtain ⟨c', hrs, e1, e2, e3, e4, e5⟩ := h.later hbw
          show Q (.panic [{ v := v, recovered := false }]) a w'
          rw [← e1]
          exact hQt v c' st a hrs (e2.trans hS) ⟨e3.trans hb.1, e4.trans hb.2⟩ (by rw [e1]; exact hbl.trans (by rw [← hb.1]; exact e5)) hk
      · rename_i hp0 hp1 hp3
        have hso2 : SatN P cx f F.F := by
          revert hso'
          split
          · rename_i hh; exact absurd hh hp0
          · rename_i hh; exact absurd hh hp1
          · rename_i hh; exact absurd hh hp3
          · exact fun h => h
        obtain ⟨ef, hk, hef⟩ := evCallN_ok (nm0 := nmOf st.ctr o.dst) (slots := st.slots) ok hso2 hop he
        split at hk
        · rename_i hc
          have hcs := chk_spec h hc
          rw [if_pos hwant]
          refine .inl (Oper.wp_of_runs ?_)
          have hrun := hef.go c a.eval h.wf (fun x _ => eval_rep h.rep x) hcs.1 hcs.2 (h.fresh _)
          refine hrun.mono fun u w' ⟨T', hg⟩ => ?_
          exact hKn _ _ _ (h.app hsm hlo hg) hS hb (hbl.trans (by rw [← hb.1]; exact hg.below)) hk
        · simp at hk
    · simp at he
  | none =>
  rw [hwc] at he
  simp only at he
  cases hab : arrBoxL P cx ops st.slots o with
  | some q =>
    obtain ⟨p, e, xs⟩ := q
    rw [hab] at he
    simp only at he
    split at he
    · rename_i hlo
      obtain ⟨hgd, hrun⟩ := arrBox_ok ok (arrBoxL_eq hab) h hlo
      have hwant : Region.wanted o (yielded ops a.tmps) = true := by simp [Region.wanted, hgd]
      rw [if_pos hwant]
      refine .inl (Oper.wp_of_runs ?_)
      refine hrun.mono fun u w' ⟨c', hrs, hw', h1, h2, h3, h4⟩ => ?_
      rw [← hw']
      exact hKn _ _ _ hrs (h1.trans hS) ⟨h2.trans hb.1, h3.trans hb.2⟩ (by rw [hw', h4]; exact hbl) he
    · simp at he
  | none =>
  rw [hab] at he
  simp only at he
  cases hsc : stC P cx st o with
  | some st' =>
    rw [hsc] at he
    simp only at he
    split at he
    · rename_i hlo
      obtain ⟨hgd, hrun⟩ := stC_ok ok hZ hsc h hlo
      have hwant : Region.wanted o (yielded ops a.tmps) = true := by simp [Region.wanted, hgd]
      rw [if_pos hwant]
      refine .inl (Oper.wp_of_runs ?_)
      refine hrun.mono fun u w' ⟨c', hrs, hw', h1, h2, h3, h4⟩ => ?_
      rw [← hw']
      exact hKn _ _ _ hrs (h1.trans hS) ⟨h2.trans hb.1, h3.trans hb.2⟩ (by rw [hw']; exact hbl.trans (by rw [← hb.1]; exact h4)) he
    · simp at he
  | none =>
  rw [hsc] at he
  simp only at he
  split at he
  · rename_i hsm0
    obtain ⟨hsm, hlo⟩ := Bool.and_eq_true_iff.1 hsm0
    have run : ∀ hr : (evOp P Kc o st.slots (nmOf st.ctr o.dst) fun ef => if chk st ef then evSeq P Kc Kw kt ops k rest (st.app o.dst ef) else none) = some r, o.wp P a c.w K Q := by
      intro hr
      obtain ⟨ef, hk, hef⟩ := evOp_ok (nm0 := nmOf st.ctr o.dst) ok hZ hK hr
      split at hk
      · rename_i hc
        have hcs := chk_spec h hc
        apply Oper.wp_of_runs
        have hrun := hef.go c a.eval h.wf (fun x _ => eval_rep h.rep x) hcs.1 hcs.2 (h.fresh _)
        refine hrun.mono fun u w' ⟨T', hg⟩ => ?_
        exact hKn _ _ _ (h.app hsm hlo hg) hS hb (hbl.trans (by rw [← hb.1]; exact hg.below)) hk
      · simp at hk
    split at he
    · rename_i hg
      simp only [Region.wanted, hg, if_true]
      exact .inl (run he)
    · rename_i g want hg
      split at he
      · rename_i b hb'
        have hy := guardV_spec h.rep hb'
        replace he := (both b (fun v => (bif v == want then evOp P Kc o (setG ops st.slots g v) (nmOf st.ctr o.dst) fun ef => if chk { st with slots := setG ops st.slots g v } ef then evSeq P Kc Kw kt ops k rest (St.app { st with slots := setG ops st.slots g v } o.dst ef) else none
               else evSeq P Kc Kw kt ops k rest (St.app { st with slots := setG ops st.slots g v } o.dst (purR (vv undef) []))))).symm.trans he
        simp only [setG_eq hb'] at he
        cases hbw : (b == want) with
        | true =>
          rw [hbw] at he
          have : Region.wanted o (yielded ops a.tmps) = true := by simp only [Region.wanted, hg, hy]; simpa using hbw
          rw [if_pos this]
          exact .inl (run he)
        | false =>
          rw [hbw] at he
          have : Region.wanted o (yielded ops a.tmps) = false := by simp only [Region.wanted, hg, hy]; simpa using hbw
          rw [if_neg (by simp [this])]
          exact hKn c _ _ (h.skip hlo) hS hb hbl he
      · split at he
        · rename_i hu
          have hy := guardU_spec h.rep hu
          have : Region.wanted o (yielded ops a.tmps) = false := by simp only [Region.wanted, hg, hy]; rfl
          rw [if_neg (by simp [this])]
          exact hKn c _ _ (h.skip hlo) hS hb hbl he
        · simp at he
  · simp at he

theorem evSeq_ok (ok : cx.Ok) (hZ : cx.POk P) {Kc : Kt cx} (hK : KOk P cx Kc) {Kw : Kwt cx} (hKw : KwOk P cx Kw) {β : Type} {W : World} {S N : Nat → Prop} {KK : List (Nat × Value)} {ops : Array Oper} {Q : Exit → Act → World → Prop} {k : St cx.ty → Option β} {kt : Value → St cx.ty → Option β} {r : β}
    (hQt : ∀ v c st a, RS cx c st a → c.S = S → (c.N = N ∧ c.K = KK) → Kept N W c.w → kt v st = some r → Q (.panic [{ v := v, recovered := false }]) a c.w)
    (hQ : ∀ c st a, RS cx c st a → c.S = S → (c.N = N ∧ c.K = KK) → Kept N W c.w → k st = some r → Q .normal a c.w) :
    ∀ (l : List Oper) (i : Nat), (∀ j, l[j]? = ops[i + j]?) → ∀ (st : St cx.ty) (c : Ct cx.ty) (a : Act), RS cx c st a → c.S = S → (c.N = N ∧ c.K = KK) → Kept N W c.w → evSeq P Kc Kw kt ops k l st = some r →
      wpOps P ops Q (List.range' i l.length) a c.w
  | [], i, _, st, c, a, h, hS, hb, hbl, he => hQ c st a h hS hb hbl he
  | o :: rest, i, hl, st, c, a, h, hS, hb, hbl, he => by
    have h0 : ops[i]? = some o := by simpa using (hl 0).symm
    have hl' : ∀ j, rest[j]? = ops[i + 1 + j]? := fun j => by have := hl (j + 1); simpa [Nat.add_assoc, Nat.add_comm 1 j] using this
    simp only [List.length_cons, List.range'_succ]
    rw [wpOps_cons]
    exact evSeq_step ok hZ hK hKw hQt h0 h hS hb hbl he fun c' st' a' h1 h2 h3 h4 h5 => evSeq_ok ok hZ hK hKw hQt hQ rest (i + 1) hl' st' c' a' h1 h2 h3 h4 h5

end
end Go.VM

namespace Go.VM
open Go.RowKit
section
variable {cx : Cx} {P : Program}

def afterOf (ops : Array Oper) (i : Nat) : List Nat :=
  match ops[i]? with
  | some o => (o.after.toList.filter (Region.binds .any)).map (·.on)
  | none => []

def clos (ops : Array Oper) : Nat → List Nat → List Nat
  | 0, l => l
  | n + 1, l => clos ops n (l ++ l.flatMap (afterOf ops)).eraseDups

/-- Each of the operations from 'p' on waits for all ahead of it. -/
def lateB (ops : Array Oper) (p : Nat) : Bool :=
  (List.range ops.size).all fun r => decide (r < p) || (List.range r).all fun i => (clos ops 3 (afterOf ops r)).contains i

/-- Each waits for those ahead alone; two of the first 'p' are apart, or the one waits for the other; no two write one slot. -/
def earlyB (ops : Array Oper) (p : Nat) : Bool :=
  ((List.range ops.size).all fun j => (afterOf ops j).all fun i => decide (i < j)) &&
  ((List.range p).all fun j => (List.range j).all fun i =>
    match ops[i]?, ops[j]? with
    | some oi, some oj => ((afterOf ops j).contains i || oi.apart ops oj) && oi.dst != oj.dst
    | _, _ => false)

/-- What may come up in any order: it kills nothing that another one looks at. -/
def quietE {ty : Nat → Type} (D F R : List Nat) (ef : Eff ty) : Bool := ef.frz.isEmpty && ef.live.all (fun n => !D.contains n && !F.contains n) && ef.read.all (fun n => !D.contains n) && ef.dead.all (fun n => !R.contains n)

theorem quietE_eq {D F R : List Nat} {ef : Eff cx.ty} (h : quietE D F R ef = true) : ef.frz = [] ∧ (∀ n ∈ ef.live, n ∉ D ∧ n ∉ F) ∧ (∀ n ∈ ef.read, n ∉ D) ∧ ∀ n ∈ ef.dead, n ∉ R := by
  simp only [quietE, Bool.and_eq_true, List.isEmpty_iff, List.all_eq_true] at h
  obtain ⟨⟨⟨h1, h2⟩, h3⟩, h4⟩ := h
  exact ⟨h1, fun n hn => by have := h2 n hn; simpa using this, fun n hn => by have := h3 n hn; simpa using this, fun n hn => by have := h4 n hn; simpa using this⟩

def dstOk (len lo : Nat) (d : Option Nat) : Bool := smallO d && loO lo d && (match d with | some d => decide (d < len) | none => true)

theorem dstOk_spec {len lo : Nat} {d : Option Nat} (h : dstOk len lo d = true) : smallO d = true ∧ loO lo d = true ∧ ∀ x, d = some x → x < len := by
  simp only [dstOk, Bool.and_eq_true] at h
  exact ⟨h.1.1, h.1.2, fun x hx => by rw [hx] at h; simpa using h.2⟩

def evPre {β : Type} (P : Program) (Kc : Kt cx) (ops : Array Oper) (ctr len lo : Nat) (F : List Nat) (k : List (V cx.ty) → List Nat → Option β) : List Oper → List (V cx.ty) → List Nat → List Nat → Option β
  | [], slots, D, _ => k slots D
  | o :: rest, slots, D, R =>
    if dstOk len lo o.dst then
      match o.guard with
      | none => evOp P Kc o slots (nmOf ctr o.dst) fun ef => if quietE D F R ef then evPre P Kc ops ctr len lo F k rest (setO slots o.dst ef.v) (ef.dead ++ D) ((ef.read ++ ef.live) ++ R) else none
      | some (g, want) => match guardV ops slots g with
        | some b => bif b then
            (bif true == want then evOp P Kc o (setG ops slots g true) (nmOf ctr o.dst) fun ef => if quietE D F R ef then evPre P Kc ops ctr len lo F k rest (setO (setG ops slots g true) o.dst ef.v) (ef.dead ++ D) ((ef.read ++ ef.live) ++ R) else none
             else evPre P Kc ops ctr len lo F k rest (setO (setG ops slots g true) o.dst (vv undef)) D R)
          else
            (bif false == want then evOp P Kc o (setG ops slots g false) (nmOf ctr o.dst) fun ef => if quietE D F R ef then evPre P Kc ops ctr len lo F k rest (setO (setG ops slots g false) o.dst ef.v) (ef.dead ++ D) ((ef.read ++ ef.live) ++ R) else none
             else evPre P Kc ops ctr len lo F k rest (setO (setG ops slots g false) o.dst (vv undef)) D R)
        | none => if guardU ops slots g then evPre P Kc ops ctr len lo F k rest (setO slots o.dst (vv undef)) D R else none
    else none

def fillL {ty : Nat → Type} : List Oper → List (V ty) → List (V ty) → List (V ty)
  | o :: l, v :: E, s => fillL l E (setO s o.dst v)
  | _, _, s => s

def guardOk {ty : Nat → Type} (ops : Array Oper) (o : Oper) (slots : List (V ty)) : Prop :=
  match o.guard with
  | none => True
  | some (g, want) => ∃ b, guardV ops slots g = some b ∧ (b == want) = true

def OpFact (P : Program) (cx : Cx) (ops : Array Oper) (D F : List Nat) (ctr len lo : Nat) (o : Oper) (slots : List (V cx.ty)) (v : V cx.ty) (dj : List Nat) (oth : Nat → Prop) : Prop :=
  smallO o.dst = true ∧ loO lo o.dst = true ∧ (∀ d, o.dst = some d → d < len) ∧
  ((∃ ef, guardOk ops o slots ∧ EffOK P cx o slots (nmOf ctr o.dst) ef ∧ ef.v = v ∧ ef.frz = [] ∧ ef.dead = dj ∧ (∀ n ∈ ef.read, n ∉ D ∧ ¬ oth n) ∧ ∀ n ∈ ef.live, (n ∉ D ∧ n ∉ F) ∧ ¬ oth n) ∨
   (v = vv undef ∧ dj = [] ∧ ∃ g want, o.guard = some (g, want) ∧ ((∃ b, guardV ops slots g = some b ∧ (b == want) = false) ∨ guardU ops slots g = true)))

theorem OpFact.mono {ops : Array Oper} {D D1 F : List Nat} {ctr len lo : Nat} {o : Oper} {slots : List (V cx.ty)} {v : V cx.ty} {dj : List Nat} {oth oth1 : Nat → Prop} (h : OpFact P cx ops D1 F ctr len lo o slots v dj oth1)
    (hD : ∀ n, n ∈ D → n ∈ D1) (ho : ∀ n, oth n → n ∈ D1 ∨ oth1 n) : OpFact P cx ops D F ctr len lo o slots v dj oth := by
  obtain ⟨h1, h2, h3, h4⟩ := h
  refine ⟨h1, h2, h3, ?_⟩
  rcases h4 with ⟨ef, g1, g2, g3, g4, g5, g6, g7⟩ | h4
  · exact .inl ⟨ef, g1, g2, g3, g4, g5, fun n hn => ⟨fun h => (g6 n hn).1 (hD n h), fun h => (ho n h).elim (g6 n hn).1 (g6 n hn).2⟩,
      fun n hn => ⟨⟨fun h => (g7 n hn).1.1 (hD n h), (g7 n hn).1.2⟩, fun h => (ho n h).elim (g7 n hn).1.1 (g7 n hn).2⟩⟩
  · exact .inr h4

theorem evPre_facts (ok : cx.Ok) (hZ : cx.POk P) {Kc : Kt cx} (hK : KOk P cx Kc) {β : Type} {ops : Array Oper} {ctr len lo : Nat} {F : List Nat} {k : List (V cx.ty) → List Nat → Option β} {r : β} :
    ∀ (l : List Oper) (slots : List (V cx.ty)) (D R : List Nat), evPre P Kc ops ctr len lo F k l slots D R = some r → ∃ (E : List (V cx.ty)) (dd : List (List Nat)) (D' : List Nat), E.length = l.length ∧ k (fillL l E slots) D' = some r ∧
      (∀ n, n ∈ D' ↔ n ∈ D ∨ ∃ i, i < l.length ∧ n ∈ dd.getD i []) ∧ (∀ i, ∀ n ∈ dd.getD i [], n ∉ R) ∧
      ∀ (j : Nat) o v, l[j]? = some o → E[j]? = some v → OpFact P cx ops D F ctr len lo o (fillL (l.take j) (E.take j) slots) v (dd.getD j []) (fun n => ∃ i, i ≠ j ∧ n ∈ dd.getD i [])
  | [], slots, D, R, h => ⟨[], [], D, rfl, h, fun n => by simp, fun i n hn => by simp at hn, fun j o v h => by simp at h⟩
  | o :: rest, slots, D, R, h => by
    simp only [evPre] at h
    split at h
    · rename_i hsm
      obtain ⟨hsm, hlo, hlen⟩ := dstOk_spec hsm
      have glue : ∀ v (dj RR : List Nat), (∀ oth : Nat → Prop, (∀ n ∈ RR, ¬ oth n) → OpFact P cx ops D F ctr len lo o slots v dj oth) → (∀ n ∈ dj, n ∉ R) → evPre P Kc ops ctr len lo F k rest (setO slots o.dst v) (dj ++ D) (RR ++ R) = some r →
          ∃ (E : List (V cx.ty)) (dd : List (List Nat)) (D' : List Nat), E.length = (o :: rest).length ∧ k (fillL (o :: rest) E slots) D' = some r ∧
            (∀ n, n ∈ D' ↔ n ∈ D ∨ ∃ i, i < (o :: rest).length ∧ n ∈ dd.getD i []) ∧ (∀ i, ∀ n ∈ dd.getD i [], n ∉ R) ∧
            ∀ (j : Nat) o' v, (o :: rest)[j]? = some o' → E[j]? = some v → OpFact P cx ops D F ctr len lo o' (fillL ((o :: rest).take j) (E.take j) slots) v (dd.getD j []) (fun n => ∃ i, i ≠ j ∧ n ∈ dd.getD i []) := by
        intro v dj RR hv hdj hr
        obtain ⟨E, dd, D', h1, h2, h4, h5, h3⟩ := evPre_facts ok hZ hK rest _ _ _ hr
        refine ⟨v :: E, dj :: dd, D', by simp [h1], h2, fun n => ?_, fun i n hn => ?_, fun j o' v' e1 e2 => ?_⟩
        · rw [h4 n]
          constructor
          · rintro (hn | ⟨i, hi, hn⟩)
            · rcases List.mem_append.1 hn with hn | hn
              · exact .inr ⟨0, by simp, by simpa using hn⟩
              · exact .inl hn
            · exact .inr ⟨i + 1, by simp; omega, by simpa using hn⟩
          · rintro (hn | ⟨i, hi, hn⟩)
            · exact .inl (List.mem_append.2 (.inr hn))
            · cases i with
              | zero => exact .inl (List.mem_append.2 (.inl (by simpa using hn)))
              | succ i => exact .inr ⟨i, by simp at hi; omega, by simpa using hn⟩
        · cases i with
          | zero => exact hdj n (by simpa using hn)
          | succ i => exact fun hR => h5 i n (by simpa using hn) (List.mem_append.2 (.inr hR))
        · cases j with
          | zero =>
            simp only [List.getElem?_cons_zero, Option.some.injEq] at e1 e2
            subst e1; subst e2
            refine hv _ fun n hn => ?_
            rintro ⟨i, hi, hni⟩
            cases i with
            | zero => exact hi rfl
            | succ i => exact h5 i n (by simpa using hni) (List.mem_append.2 (.inl hn))
          | succ j =>
            have hf := h3 j o' v' (by simpa using e1) (by simpa using e2)
            have hf2 : OpFact P cx ops D F ctr len lo o' (fillL ((o :: rest).take (j + 1)) ((v :: E).take (j + 1)) slots) v' (dd.getD j []) (fun n => ∃ i, i ≠ j + 1 ∧ n ∈ (dj :: dd).getD i []) := by
              refine OpFact.mono (D1 := dj ++ D) (oth1 := fun n => ∃ i, i ≠ j ∧ n ∈ dd.getD i []) hf (fun n hn => List.mem_append.2 (.inr hn)) ?_
              rintro n ⟨i, hi, hn⟩
              cases i with
              | zero => exact .inl (List.mem_append.2 (.inl (by simpa using hn)))
              | succ i => exact .inr ⟨i, fun e => hi (by rw [e]), by simpa using hn⟩
            simpa using hf2
      have run : guardOk ops o slots → (evOp P Kc o slots (nmOf ctr o.dst) fun ef => if quietE D F R ef then evPre P Kc ops ctr len lo F k rest (setO slots o.dst ef.v) (ef.dead ++ D) ((ef.read ++ ef.live) ++ R) else none) = some r →
          ∃ (E : List (V cx.ty)) (dd : List (List Nat)) (D' : List Nat), E.length = (o :: rest).length ∧ k (fillL (o :: rest) E slots) D' = some r ∧
            (∀ n, n ∈ D' ↔ n ∈ D ∨ ∃ i, i < (o :: rest).length ∧ n ∈ dd.getD i []) ∧ (∀ i, ∀ n ∈ dd.getD i [], n ∉ R) ∧
            ∀ (j : Nat) o' v, (o :: rest)[j]? = some o' → E[j]? = some v → OpFact P cx ops D F ctr len lo o' (fillL ((o :: rest).take j) (E.take j) slots) v (dd.getD j []) (fun n => ∃ i, i ≠ j ∧ n ∈ dd.getD i []) := by
        intro hg hr
        obtain ⟨ef, hk, hef⟩ := evOp_ok (nm0 := nmOf ctr o.dst) ok hZ hK hr
        split at hk
        · rename_i hq
          obtain ⟨hfz, hlv, hrd, hdd⟩ := quietE_eq hq
          exact glue ef.v ef.dead (ef.read ++ ef.live) (fun oth hoth => ⟨hsm, hlo, hlen, .inl ⟨ef, hg, hef, rfl, hfz, rfl, fun n hn => ⟨hrd n hn, hoth n (List.mem_append.2 (.inl hn))⟩, fun n hn => ⟨hlv n hn, hoth n (List.mem_append.2 (.inr hn))⟩⟩⟩) hdd hk
        · simp at hk
      split at h
      · rename_i hg
        exact run (by unfold guardOk; rw [hg]; trivial) h
      · rename_i g want hg
        split at h
        · rename_i b hb
          replace h := (both b (fun v => (bif v == want then evOp P Kc o (setG ops slots g v) (nmOf ctr o.dst) fun ef => if quietE D F R ef then evPre P Kc ops ctr len lo F k rest (setO (setG ops slots g v) o.dst ef.v) (ef.dead ++ D) ((ef.read ++ ef.live) ++ R) else none
             else evPre P Kc ops ctr len lo F k rest (setO (setG ops slots g v) o.dst (vv undef)) D R))).symm.trans h
          simp only [setG_eq hb] at h
          cases hbw : (b == want) with
          | true =>
            rw [hbw] at h
            exact run (by unfold guardOk; rw [hg]; exact ⟨b, hb, hbw⟩) h
          | false =>
            rw [hbw] at h
            exact glue (vv undef) [] [] (fun _ _ => ⟨hsm, hlo, hlen, .inr ⟨rfl, rfl, g, want, hg, .inl ⟨b, hb, hbw⟩⟩⟩) (fun n hn => by cases hn) h
        · split at h
          · rename_i hu
            exact glue (vv undef) [] [] (fun _ _ => ⟨hsm, hlo, hlen, .inr ⟨rfl, rfl, g, want, hg, .inr hu⟩⟩) (fun n hn => by cases hn) h
          · simp at h
    · simp at h

/-- The slots once the operations of 'X' have come up. -/
def vOf {ty : Nat → Type} (dst : Nat → Option Nat) (E : Nat → V ty) (s0 : Nat → V ty) (p : Nat) (X : Nat → Bool) (t : Nat) : V ty :=
  match (List.range p).find? (fun i => X i && dst i == some t) with
  | some i => E i
  | none => s0 t

theorem vOf_congr {ty : Nat → Type} {dst : Nat → Option Nat} {E : Nat → V ty} {s0 : Nat → V ty} {p : Nat} {X Y : Nat → Bool} {t : Nat} (h : ∀ i, i < p → dst i = some t → X i = Y i) : vOf dst E s0 p X t = vOf dst E s0 p Y t := by
  unfold vOf
  have : (List.range p).find? (fun i => X i && dst i == some t) = (List.range p).find? (fun i => Y i && dst i == some t) := by
    have key : ∀ l : List Nat, (∀ i ∈ l, i < p) → l.find? (fun i => X i && dst i == some t) = l.find? (fun i => Y i && dst i == some t) := by
      intro l
      induction l with
      | nil => intro _; rfl
      | cons a r ih =>
        intro hl
        have ha := hl a (List.mem_cons_self ..)
        have hr := ih (fun i hi => hl i (List.mem_cons_of_mem _ hi))
        simp only [List.find?_cons]
        by_cases hd : dst a = some t
        · rw [h a ha hd, hr]
        · have : (dst a == some t) = false := by simpa using hd
          simp only [this, Bool.and_false]
          exact hr
    exact key _ (fun i hi => List.mem_range.1 hi)
  rw [this]

theorem vOf_hit {ty : Nat → Type} {dst : Nat → Option Nat} {E : Nat → V ty} {s0 : Nat → V ty} {p : Nat} {X : Nat → Bool} {t i : Nat} (hd : ∀ i j, i < p → j < p → dst i = some t → dst j = some t → i = j) (hi : i < p) (hX : X i = true) (ht : dst i = some t) : vOf dst E s0 p X t = E i := by
  unfold vOf
  cases hf : (List.range p).find? (fun i => X i && dst i == some t) with
  | none =>
    have := List.find?_eq_none.1 hf i (List.mem_range.2 hi)
    simp [hX, ht] at this
  | some j =>
    have h1 := List.find?_some hf
    have h2 := List.mem_range.1 (List.mem_of_find?_eq_some hf)
    simp only [Bool.and_eq_true, beq_iff_eq] at h1
    rw [hd i j hi h2 ht h1.2]

theorem vOf_miss {ty : Nat → Type} {dst : Nat → Option Nat} {E : Nat → V ty} {s0 : Nat → V ty} {p : Nat} {X : Nat → Bool} {t : Nat} (h : ∀ i, i < p → X i = true → dst i ≠ some t) : vOf dst E s0 p X t = s0 t := by
  unfold vOf
  have : (List.range p).find? (fun i => X i && dst i == some t) = none := by
    rw [List.find?_eq_none]
    intro i hi
    have := h i (List.mem_range.1 hi)
    simp only [Bool.and_eq_true, beq_iff_eq, not_and]
    exact this
  rw [this]

theorem fillL_length {ty : Nat → Type} : ∀ (l : List Oper) (E : List (V ty)) (s : List (V ty)), (fillL l E s).length = s.length
  | [], _, _ => rfl
  | _ :: _, [], _ => rfl
  | o :: l, v :: E, s => by
    simp only [fillL]
    rw [fillL_length l E]
    cases o.dst <;> simp [setO]

theorem fillL_snoc {ty : Nat → Type} : ∀ (l : List Oper) (E : List (V ty)) (s : List (V ty)) (o : Oper) (v : V ty), E.length = l.length → fillL (l ++ [o]) (E ++ [v]) s = setO (fillL l E s) o.dst v
  | [], [], _, _, _, _ => rfl
  | [], _ :: _, _, _, _, h => by simp at h
  | _ :: _, [], _, _, _, h => by simp at h
  | a :: l, b :: E, s, o, v, h => by
    simp only [List.cons_append, fillL]
    exact fillL_snoc l E _ o v (by simpa using h)

theorem setO_getD {ty : Nat → Type} (s : List (V ty)) (d : Option Nat) (v : V ty) (t : Nat) (hd : ∀ x, d = some x → x < s.length) : (setO s d v).getD t junk = if d = some t then v else s.getD t junk := by
  cases d with
  | none => simp [setO]
  | some d =>
    have := hd d rfl
    by_cases h : d = t
    · subst h; simp [setO, List.getD, this]
    · have h' : ¬ some d = some t := by simpa using h
      simp [setO, List.getD, List.getElem?_set_ne h, h']

/-- The slots behind the first 'j' operations of the text. -/
theorem fill_vOf {ty : Nat → Type} {l : List Oper} {E : List (V ty)} {s : List (V ty)} (hE : E.length = l.length) (hlen : ∀ (j : Nat) o d, l[j]? = some o → o.dst = some d → d < s.length)
    (hdist : ∀ t i j, i < l.length → j < l.length → (l[i]?).bind (·.dst) = some t → (l[j]?).bind (·.dst) = some t → i = j) :
    ∀ j, j ≤ l.length → ∀ t, (fillL (l.take j) (E.take j) s).getD t junk = vOf (fun i => (l[i]?).bind (·.dst)) (fun i => E.getD i junk) (fun t => s.getD t junk) l.length (fun i => decide (i < j)) t
  | 0, _, t => by
    rw [vOf_miss (fun i _ h => by simp at h)]
    rfl
  | j + 1, hj, t => by
    have hlt : j < l.length := hj
    have hltE : j < E.length := by omega
    have e1 : l.take (j + 1) = l.take j ++ [l[j]] := by rw [List.take_succ_eq_append_getElem hlt]
    have e2 : E.take (j + 1) = E.take j ++ [E[j]] := by rw [List.take_succ_eq_append_getElem hltE]
    rw [e1, e2, fillL_snoc _ _ _ _ _ (by simp; omega), setO_getD _ _ _ _ (fun x hx => by rw [fillL_length]; exact hlen j _ x (List.getElem?_eq_getElem hlt) hx)]
    by_cases hd : l[j].dst = some t
    · have hdj : (l[j]?).bind (·.dst) = some t := by rw [List.getElem?_eq_getElem hlt]; exact hd
      rw [if_pos hd, vOf_hit (fun a b ha hb h1 h2 => hdist t a b ha hb h1 h2) hlt (by simp) hdj]
      simp [List.getD, List.getElem?_eq_getElem hltE]
    · rw [if_neg hd, fill_vOf hE hlen hdist j (by omega) t]
      apply vOf_congr
      intro i hi ht
      have hij : i ≠ j := by
        intro h
        subst h
        rw [List.getElem?_eq_getElem hlt] at ht
        exact hd ht
      simp only [decide_eq_decide]
      omega

theorem effok_congr {o : Oper} {s s' : List (V cx.ty)} {nm0 : Nat} {ef : Eff cx.ty} (h : EffOK P cx o s nm0 ef) (hs : ∀ x ∈ o.op.operands, getV s' x = getV s x) : EffOK P cx o s' nm0 ef :=
  ⟨fun c ρ hw ho => h.go c ρ hw (fun x hx => by rw [← hs x hx]; exact ho x hx)⟩

theorem mem_looks_operand {ops : Array Oper} {o : Oper} {t : Nat} (h : Operand.tmp t ∈ o.op.operands) : t ∈ o.looksAt ops := by
  unfold Oper.looksAt
  refine List.mem_append.2 (.inl (List.mem_filterMap.2 ⟨.tmp t, by simpa using h, rfl⟩))

theorem mem_looks_guard {ops : Array Oper} {o : Oper} {g : Nat} {want : Bool} {t : Nat} (h : o.guard = some (g, want)) (ht : (ops[g]?).bind (·.dst) = some t) : t ∈ o.looksAt ops := by
  unfold Oper.looksAt
  refine List.mem_append.2 (.inr ?_)
  rw [h]
  simp [ht]

end
end Go.VM
