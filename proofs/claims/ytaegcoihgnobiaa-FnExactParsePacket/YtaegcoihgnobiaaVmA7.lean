/- A part of the proof of FnExactParsePacket: VmA7, VmA8, VmA9, VmA10. -/
import Derived.Test.YtaegcoihgnobiaaVmA2
namespace Go.VM
open Go.RowKit
section
variable {cx : Cx} {P : Program}

/-! ### Stores into a row that is owned -/
def updEL {ty : Nat → Type} (nm : Nat) (s' : SlD ty) : L ty → L ty
  | some (.inr s) => if s.own == 1 && s.nm == nm then some (.inr s') else some (.inr s)
  | l => l

def updEA {ty : Nat → Type} (nm : Nat) (s' : SlD ty) : A ty → A ty
  | .inl l => .inl (updEL nm s' l)
  | .inr l => .inr (l.map (updEL nm s'))

def updEV {ty : Nat → Type} (nm : Nat) (s' : SlD ty) : V ty → V ty
  | .inl a => .inl (updEA nm s' a)
  | .inr (.inl l) => .inr (.inl (l.map (updEA nm s')))
  | .inr (.inr p) => match p.kind with
    | 0 => .inr (.inr { p with cells := p.cells.map (updEL nm s') })
    | 1 => if p.nm == nm then .inr (.inr { p with s := s' }) else .inr (.inr p)
    | _ => .inr (.inr p)

def valOk {ty : Nat → Type} : L ty → Bool
  | some (.inl (.agg _)) => false
  | some (.inl (.tuple _)) => false
  | some (.inl _) => true
  | _ => false

/-- What a store into a row leaves. -/
def stE (P : Program) (st : St cx.ty) (t : TypeId) (a x : Operand) : Option (St cx.ty) :=
  match getV st.slots a, cellsV (getV st.slots x) with
  | .inr (.inr p), some l =>
    if p.kind == 1 && p.s.o && p.s.own == 1 && p.s.nm == p.nm && cx.flat p.s.e && !st.D.contains p.nm && !st.F.contains p.nm && l.all valOk && (P.underlying t).isSome && l.length == P.cellsOf t && decide (p.off + l.length ≤ cx.size p.s.e) then
      match cx.dec p.s.e (splice (cx.enc p.s.e true (p.s.xs.getD p.i (cx.dflt p.s.e))) p.off l) with
      | some x' => some { st with slots := st.slots.map (updEV p.nm { p.s with xs := p.s.xs.set p.i x' }) }
      | none => none
    else none
  | _, _ => none

theorem splice_mid {α : Type} (F1 B F2 l : List α) (off : Nat) (h : off + l.length ≤ B.length) : splice (F1 ++ B ++ F2) (F1.length + off) l = F1 ++ splice B off l ++ F2 := by
  unfold splice
  have e1 : (F1 ++ B ++ F2).take (F1.length + off) = F1 ++ B.take off := by
    rw [List.append_assoc, List.take_length_add_append, List.take_append_of_le_length (by omega)]
  have e2 : (F1 ++ B ++ F2).drop (F1.length + off + l.length) = B.drop (off + l.length) ++ F2 := by
    rw [List.append_assoc, Nat.add_assoc, List.drop_length_add_append, List.drop_append_of_le_length (by omega)]
  rw [e1, e2]
  simp

theorem splice_map {α β : Type} (f : α → β) (l p : List α) (off : Nat) : (splice l off p).map f = splice (l.map f) off (p.map f) := by
  simp [splice, List.map_take, List.map_drop]

theorem splice_take {α : Type} (l p : List α) (off m : Nat) (h : off + p.length ≤ m) (hl : off + p.length ≤ l.length) : (splice l off p).take m = splice (l.take m) off p := by
  apply List.ext_getElem?
  intro j
  rw [List.getElem?_take, splice_get hl, splice_get (by simp; omega), List.getElem?_take]
  by_cases h1 : off ≤ j ∧ j < off + p.length
  · rw [if_pos h1, if_pos h1, if_pos (by omega)]
  · rw [if_neg h1, if_neg h1]

theorem flat_set {α β : Type} (f : α → List β) (k : Nat) (hf : ∀ x, (f x).length = k) (xs : List α) (i : Nat) (x x' : α) (hx : xs[i]? = some x) (off : Nat) (l : List β) (hl : off + l.length ≤ k) (he : f x' = splice (f x) off l) :
    (xs.set i x').flatMap f = splice (xs.flatMap f) (i * k + off) l := by
  have hi : i < xs.length := (List.getElem?_eq_some_iff.1 hx).1
  have hxe : xs[i] = x := (List.getElem?_eq_some_iff.1 hx).2
  have hsplit : xs = xs.take i ++ x :: xs.drop (i + 1) := by
    rw [← hxe]
    conv => lhs; rw [← List.take_append_drop i xs, List.drop_eq_getElem_cons hi]
  have hset : xs.set i x' = xs.take i ++ x' :: xs.drop (i + 1) := by
    rw [List.set_eq_take_append_cons_drop, if_pos hi]
  have hlen : ((xs.take i).flatMap f).length = i * k := by
    rw [flat_len _ _ hf, List.length_take, Nat.min_eq_left (by omega)]
  rw [hset]
  conv => rhs; rw [hsplit]
  simp only [List.flatMap_append, List.flatMap_cons]
  rw [← List.append_assoc, ← List.append_assoc, ← hlen, splice_mid _ _ _ _ _ (by rw [hf]; exact hl), he]

theorem stE_leaf {c : Ct cx.ty} {T' : List (Tk cx.ty)} {w' : World} {nm : Nat} {s s' : SlD cx.ty} {tk0 : Tk cx.ty} (hown : s'.own = 1) (hsn : s'.nm = nm) (hD : nm ∉ c.D) (hF : nm ∉ c.F)
    (hrd : ∀ b, Rd c b → Rd { c with T := T', w := w' } b ∧ w'.heap[b]? = c.w.heap[b]?) (_h0 : tk0 ∈ c.T) (hn0 : tk0.nm = nm) (_hc0 : tk0.c = .inl s) (huniq : ∀ t2 ∈ c.T, t2.nm = nm → t2 = tk0)
    (hnew : { tk0 with c := .inl s' } ∈ T') (hkeep : ∀ t2 ∈ c.T, t2.nm ≠ nm → ∀ s, t2.c = .inl s → t2 ∈ T') {l : L cx.ty} {u : Value} (hl : RepLS cx c l u) : RepLS cx { c with T := T', w := w' } (updEL nm s' l) u := by
  match l, hl with
  | none, _ => trivial
  | some (.inl v), hl => exact hl
  | some (.inr q), hl =>
    simp only [updEL]
    by_cases h1 : q.own = 1
    · by_cases h2 : q.nm = nm
      · rw [if_pos (by simp [h1, h2])]
        unfold RepLS at hl ⊢
        simp only [h1, if_true, h2, hD, hF, if_false, hown, hsn] at hl ⊢
        obtain ⟨hsl, tk, k1, k2, k3, k4⟩ := hl
        refine ⟨hsl, ⟨_, hnew, hn0, rfl, ?_⟩⟩
        rw [← huniq tk k1 k2]; exact k4
      · rw [if_neg (by simp [h2])]
        unfold RepLS at hl ⊢
        simp only [h1, if_true] at hl ⊢
        obtain ⟨hsl, hl⟩ := hl
        refine ⟨hsl, ?_⟩
        split at hl
        · rename_i hd; rw [if_pos hd]; trivial
        · rename_i hd
          rw [if_neg hd]
          split at hl
          · rename_i hf
            rw [if_pos hf]
            obtain ⟨n, hl⟩ := hl
            exact ⟨n, RepL_mono cx (fun b hb => (hrd b hb).2) (fun b hb => (hrd b hb).1) _ _ _ hl⟩
          · rename_i hf
            rw [if_neg hf]
            obtain ⟨tk, k1, k2, k3, k4⟩ := hl
            exact ⟨tk, hkeep tk k1 (by rw [k2]; exact h2) q k3, k2, k3, k4⟩
    · rw [if_neg (by simp [h1])]
      unfold RepLS at hl ⊢
      simp only [h1, if_false] at hl ⊢
      obtain ⟨n, hl⟩ := hl
      exact ⟨n, RepL_mono cx (fun b hb => (hrd b hb).2) (fun b hb => (hrd b hb).1) _ _ _ hl⟩

theorem RepLs.mapE {c c' : Ct cx.ty} {f : L cx.ty → L cx.ty} (hf : ∀ l u, RepLS cx c l u → RepLS cx c' (f l) u) {l : List (L cx.ty)} {us : List Value} (h : RepLs cx c l us) : RepLs cx c' (l.map f) us := by
  refine ⟨by rw [List.length_map]; exact h.1, fun j a u e1 e2 => ?_⟩
  rw [List.getElem?_map] at e1
  cases e0 : l[j]? with
  | none => rw [e0] at e1; simp at e1
  | some a0 =>
    rw [e0] at e1
    simp only [Option.map_some, Option.some.injEq] at e1
    subst e1
    exact hf _ _ (h.2 j a0 u e0 e2)

theorem stE_ok (ok : cx.Ok) {o : Oper} {t : TypeId} {a x : Operand} (ho : o.op = .store t a x) {st st' : St cx.ty} (hst : stE P st t a x = some st') {c : Ct cx.ty} {act : Act} (h : RS cx c st act) :
    ∃ w' T', (execOp act.eval o).run P c.w = .ok .skip w' ∧ RS cx { c with T := T', w := w' } st' act ∧ Kept c.N c.w w' := by
  unfold stE at hst
  split at hst
  · rename_i p l hp hl
    split at hst
    · rename_i hc
      simp only [Bool.and_eq_true, beq_iff_eq, decide_eq_true_eq, Bool.not_eq_true'] at hc
      obtain ⟨⟨⟨⟨⟨⟨⟨⟨⟨⟨hk, hso⟩, hown⟩, hsn⟩, hflat⟩, hnD⟩, hnF⟩, hlo⟩, hund⟩, hsz⟩, hoff⟩ := hc
      split at hst
      · rename_i x' hdec
        simp only [Option.some.injEq] at hst
        subst hst
        obtain ⟨d, hd⟩ := Option.isSome_iff_exists.1 hund
        have hnD : p.nm ∉ c.D := by rw [h.dead]; simpa using hnD
        have hnF : p.nm ∉ c.F := by rw [h.frz]; simpa using hnF
        have hra := eval_rep h.rep a
        rw [hp] at hra
        have hra : RepP cx c p (act.eval a) := hra
        unfold RepP at hra
        simp only [hk, hnD, hnF, if_false] at hra
        obtain ⟨tk, ht, hn, hcc, hi, g, n0, cap0, hu, hpa⟩ := hra
        have htr := h.wf.rep tk ht
        unfold TokRep at htr
        rw [hcc] at htr
        simp only [hso, if_true] at htr
        obtain ⟨hvb, nn, htr⟩ := htr
        obtain ⟨hrow, hfp⟩ := flat_of_own ok hflat htr
        obtain ⟨hrl, hrow⟩ := hrow
        have hfp0 : tk.fp = [] := by
          rw [hvb] at hfp
          simpa using hfp
        rcases hrow with ⟨hbad, _⟩ | ⟨g', cap, cur, hu', hg0, hh, hncap, hcapm, hcur, htake⟩
        · rw [hu] at hbad; simp at hbad
        rw [hu] at hu'
        simp only [Value.slice.injEq, Option.some.injEq, Addr.mk.injEq] at hu'
        obtain ⟨⟨rfl, _⟩, rfl, rfl⟩ := hu'
        have hcv := cellsV_rep (eval_rep h.rep x) hl
        have hlen : (act.eval x).cells.toList.length = l.length := hcv.1
        have hlv : l = (act.eval x).cells.toList.map lv := by
          apply List.ext_getElem?
          intro j
          rw [List.getElem?_map]
          cases e1 : l[j]? with
          | none =>
            have : l.length ≤ j := List.getElem?_eq_none_iff.1 e1
            rw [List.getElem?_eq_none (by omega)]; rfl
          | some q =>
            have hj : j < l.length := (List.getElem?_eq_some_iff.1 e1).1
            rw [List.getElem?_eq_getElem (by omega)]
            have hq := List.all_eq_true.1 hlo q (List.mem_of_getElem? e1)
            have := hcv.2 j q _ e1 (List.getElem?_eq_getElem (by omega))
            match q, hq, this with
            | some (.inl v), hq, this =>
              have this : _ = v := this
              rw [this]; rfl
        have hone : ∀ v ∈ (act.eval x).cells.toList, v.oneCell' = true := by
          intro v hv
          have hm : lv v ∈ l := by rw [hlv]; exact List.mem_map.2 ⟨v, hv, rfl⟩
          have hq := List.all_eq_true.1 hlo _ hm
          cases v <;> first | rfl | (simp [lv, valOk] at hq)
        -- the element
        have hxi : p.s.xs[p.i]? = some (p.s.xs.getD p.i (cx.dflt p.s.e)) := by
          rw [List.getElem?_eq_getElem hi]; simp [List.getD, hi]
        have henc : cx.enc p.s.e true x' = splice (cx.enc p.s.e true (p.s.xs.getD p.i (cx.dflt p.s.e))) p.off l := by
          rw [← ok.dec _ _ _ true hdec]
          have : ∀ q ∈ splice (cx.enc p.s.e true (p.s.xs.getD p.i (cx.dflt p.s.e))) p.off l, weak true q = q := by
            intro q hq
            unfold splice at hq
            have hv : ∃ v, q = some (.inl v) := by
              rcases List.mem_append.1 hq with hq | hq
              · rcases List.mem_append.1 hq with hq | hq
                · exact ok.flat _ _ _ hflat q (List.mem_of_mem_take hq)
                · rw [hlv] at hq
                  obtain ⟨v, _, rfl⟩ := List.mem_map.1 hq
                  exact ⟨v, rfl⟩
              · exact ok.flat _ _ _ hflat q (List.mem_of_mem_drop hq)
            obtain ⟨v, rfl⟩ := hv
            rfl
          conv => rhs; rw [← List.map_id (splice _ _ _)]
          exact List.map_congr_left this
        have hset := flat_set (cx.enc p.s.e true) (cx.size p.s.e) (fun x => ok.len p.s.e true x) p.s.xs p.i _ x' hxi p.off l hoff henc
        have hfv : flatVals cx p.s.e (p.s.xs.set p.i x') = splice (flatVals cx p.s.e p.s.xs) (p.i * cx.size p.s.e + p.off) (act.eval x).cells.toList := by
          rw [flat_enc ok hflat true, flat_enc ok hflat true, hlv, ← splice_map] at hset
          have inj : ∀ a b : Value, (lv a : L cx.ty) = lv b → a = b := fun a b e => by simpa [lv] using e
          exact (List.map_inj_right inj).1 hset
        have hmul : (p.i + 1) * cx.size p.s.e ≤ p.s.xs.length * cx.size p.s.e := Nat.mul_le_mul_right _ hi
        have hmul2 : p.s.xs.length * cx.size p.s.e ≤ cap0 * cx.size p.s.e := Nat.mul_le_mul_right _ hncap
        rw [Nat.add_mul, Nat.one_mul] at hmul
        have hfit : p.i * cx.size p.s.e + p.off + (act.eval x).cells.toList.length ≤ cur.toList.length := by
          have : cur.toList.length = cur.size := by simp
          omega
        have hstore := run_storeCells_at P g (p.i * cx.size p.s.e + p.off) p.s.e (act.eval x).cells.toList 0 cur c.w hh (by omega) hone
        simp only [Nat.add_zero] at hstore
        have hrun : (execOp act.eval o).run P c.w = .ok .skip (c.w.setRow g (splice cur.toList (p.i * cx.size p.s.e + p.off) (act.eval x).cells.toList).toArray) := by
          have hsize : (act.eval x).cells.size = P.cellsOf t := by rw [← hsz, ← hlen]; simp
          unfold execOp
          simp only [ho, Instr.storeAt, Instr.sureAddr, hpa, storeVar, Sem.run_bind, Sem.run_pure, Result.andThen_ok, run_sizeOf' hd, hsize, ne_eq, not_true_eq_false, if_false]
          unfold splice
          rw [hstore]
          rfl
        generalize hW : c.w.setRow g (splice cur.toList (p.i * cx.size p.s.e + p.off) (act.eval x).cells.toList).toArray = w' at hrun
        have hheap : ∀ k, k ≠ g → w'.heap[k]? = c.w.heap[k]? := fun k hk => by rw [← hW]; exact setRow_other c.w g k _ hk
        have hsame : w'.heap.size = c.w.heap.size := by rw [← hW]; simp [World.setRow]
        have hnewrow : w'.heap[g]? = some (.cells (splice cur.toList (p.i * cx.size p.s.e + p.off) (act.eval x).cells.toList).toArray p.s.e (0, 0)) := by rw [← hW]; exact setRow_heap c.w g cur _ _ _ hh
        have hg : g ∈ vb tk.u := by rw [hu]; simp [vb]
        have hgb := h.wf.bound tk ht g (List.mem_append.2 (.inl hg))
        generalize hs' : ({ p.s with xs := p.s.xs.set p.i x' } : SlD cx.ty) = s'
        have hs'own : s'.own = 1 := by rw [← hs']; exact hown
        have hs'nm : s'.nm = p.nm := by rw [← hs']; exact hsn
        have hs'o : s'.o = true := by rw [← hs']; exact hso
        have huniq : ∀ t2 ∈ c.T, t2.nm = p.nm → t2 = tk := by
          intro t2 ht2 hn2
          have hnd := h.wf.names
          rcases Classical.em (t2 = tk) with h | h
          · exact h
          · exfalso
            obtain ⟨l1, l2, hl⟩ := List.append_of_mem ht
            rw [hl] at hnd ht2
            rw [List.map_append, List.map_cons, List.nodup_append] at hnd
            rcases List.mem_append.1 ht2 with h3 | h3
            · exact hnd.2.2 t2.nm (List.mem_map.2 ⟨t2, h3, rfl⟩) tk.nm (List.mem_cons_self ..) (by rw [hn2, hn])
            · rcases List.mem_cons.1 h3 with h3 | h3
              · exact h h3
              · exact (List.nodup_cons.1 hnd.2.1).1 (List.mem_map.2 ⟨t2, h3, by rw [hn2, hn]⟩)
        let up : Tk cx.ty → Tk cx.ty := fun t2 => match t2.c with
          | .inl _ => if t2.nm = p.nm then { t2 with c := .inl s' } else t2
          | .inr cells => { t2 with c := .inr (cells.map (updEL p.nm s')) }
        have upnm : ∀ t2, (up t2).nm = t2.nm := fun t2 => by simp only [up]; split <;> (try split) <;> rfl
        have upu : ∀ t2, (up t2).u = t2.u := fun t2 => by simp only [up]; split <;> (try split) <;> rfl
        have upfp : ∀ t2, (up t2).fp = t2.fp := fun t2 => by simp only [up]; split <;> (try split) <;> rfl
        have upl : ∀ t2 s, t2.c = .inl s → t2.nm ≠ p.nm → up t2 = t2 := fun t2 s e hne => by simp only [up]; rw [e]; simp only; rw [if_neg hne]
        have up0 : up tk = { tk with c := .inl s' } := by simp only [up]; rw [hcc]; simp only; rw [if_pos hn]
        have hrd : ∀ b, Rd c b → Rd { c with T := c.T.map up, w := w' } b ∧ w'.heap[b]? = c.w.heap[b]? := by
          intro b hb
          have hbg : b ≠ g := fun e => hb.2.2 tk ht (e ▸ hg)
          refine ⟨⟨Nat.lt_of_lt_of_eq hb.1 hsame.symm, hb.2.1, fun t2 ht2 => ?_⟩, hheap b hbg⟩
          obtain ⟨t3, h3, rfl⟩ := List.mem_map.1 ht2
          rw [upu]
          exact hb.2.2 t3 h3
        have hleaf : ∀ (q : L cx.ty) (u : Value), RepLS cx c q u → RepLS cx { c with T := c.T.map up, w := w' } (updEL p.nm s' q) u := fun q u hq =>
          stE_leaf (s := p.s) hs'own hs'nm hnD hnF hrd ht hn hcc huniq (List.mem_map.2 ⟨tk, ht, up0⟩) (fun t2 h2 hne s hs => List.mem_map.2 ⟨t2, h2, upl t2 s hs hne⟩) hq
        have hagg : ∀ (q : A cx.ty) (u : Value), RepA cx c q u → RepA cx { c with T := c.T.map up, w := w' } (updEA p.nm s' q) u := by
          intro q u hq
          match q, hq with
          | .inl q, hq => exact hleaf q u hq
          | .inr q, ⟨us, hu, hq⟩ => exact ⟨us, hu, hq.mapE hleaf⟩
        have hel : ∀ {s : SlD cx.ty} {i b o : Nat}, RepEl cx c s i b o → RepEl cx { c with T := c.T.map up, w := w' } s i b o := by
          rintro s i b o ⟨hb, y, hy, n, hr⟩
          refine ⟨(hrd b hb).1, y, hy, n, fun j q hq => ?_⟩
          obtain ⟨v, hv, hr⟩ := hr j q hq
          exact ⟨v, by rw [World.cell?_of_block (hrd b hb).2]; exact hv, RepL_mono cx (fun b hb => (hrd b hb).2) (fun b hb => (hrd b hb).1) _ _ _ hr⟩
        have hval : ∀ (q : V cx.ty) (u : Value), RepV cx c q u → RepV cx { c with T := c.T.map up, w := w' } (updEV p.nm s' q) u := by
          intro q u hq
          match q, hq with
          | .inl q, hq => exact hagg q u hq
          | .inr (.inl q), ⟨us, hu, h1, h2⟩ =>
            refine ⟨us, hu, by rw [List.length_map]; exact h1, fun j a b e1 e2 => ?_⟩
            rw [List.getElem?_map] at e1
            cases e0 : q[j]? with
            | none => rw [e0] at e1; simp at e1
            | some a0 =>
              rw [e0] at e1
              simp only [Option.map_some, Option.some.injEq] at e1
              subst e1
              exact hagg _ _ (h2 j a0 b e0 e2)
          | .inr (.inr q), hq =>
            have hq : RepP cx c q u := hq
            unfold RepP at hq
            simp only [updEV]
            split at hq
            · rename_i hk0
              obtain ⟨t2, k1, k2, k3, g2, k4, k5⟩ := hq
              simp only [hk0]
              show RepP cx { c with T := c.T.map up, w := w' } { q with kind := 0, cells := q.cells.map (updEL p.nm s') } u
              unfold RepP
              simp only
              exact ⟨up t2, List.mem_map.2 ⟨t2, k1, rfl⟩, by rw [upnm]; exact k2, by simp only [up]; rw [k3], g2, by rw [upu]; exact k4, k5⟩
            · rename_i hk1
              simp only [hk1]
              by_cases hne : q.nm = p.nm
              · rw [if_pos (by simp [hne])]
                show RepP cx { c with T := c.T.map up, w := w' } { q with kind := 1, s := s' } u
                unfold RepP
                simp only [hne, hnD, hnF, if_false] at hq ⊢
                obtain ⟨t2, k1, k2, k3, k4, g2, n2, cap2, k5, k6⟩ := hq
                have e2 := huniq t2 k1 k2
                subst e2
                have hqs : q.s = p.s := by
                  rw [hcc] at k3
                  exact (Sum.inl.inj k3).symm
                refine ⟨up t2, List.mem_map.2 ⟨t2, k1, rfl⟩, by rw [upnm]; exact k2, by rw [up0], ?_, g2, n2, cap2, by rw [upu]; exact k5, ?_⟩
                · rw [← hs']; simp only [List.length_set]; rw [← hqs]; exact k4
                · rw [← hs']; simp only; rw [← hqs]; exact k6
              · rw [if_neg (by simp [hne])]
                show RepP cx { c with T := c.T.map up, w := w' } q u
                unfold RepP
                simp only [hk1] at hq ⊢
                split at hq
                · rename_i hd'; rw [if_pos hd']; trivial
                · rename_i hd'
                  rw [if_neg hd']
                  split at hq
                  · rename_i hf'
                    rw [if_pos hf']
                    obtain ⟨b, o, hu, hr⟩ := hq
                    exact ⟨b, o, hu, hel hr⟩
                  · rename_i hf'
                    rw [if_neg hf']
                    obtain ⟨t2, k1, k2, k3, k4⟩ := hq
                    exact ⟨t2, List.mem_map.2 ⟨t2, k1, upl t2 _ k3 (by rw [k2]; exact hne)⟩, k2, k3, k4⟩
            · rename_i hk2
              simp only [hk2]
              show RepP cx { c with T := c.T.map up, w := w' } q u
              unfold RepP
              simp only [hk2]
              obtain ⟨b, o, hu, hr⟩ := hq
              exact ⟨b, o, hu, hel hr⟩
            · rename_i k0 k1 k2
              have : (match q.kind with
                | 0 => (.inr (.inr { q with cells := q.cells.map (updEL p.nm s') }) : V cx.ty)
                | 1 => if (q.nm == p.nm) = true then .inr (.inr { q with s := s' }) else .inr (.inr q)
                | _ => .inr (.inr q)) = .inr (.inr q) := by
                split <;> first | rfl | (rename_i hh; first | exact (k0 hh).elim | exact (k1 hh).elim)
              rw [this]
              show RepP cx { c with T := c.T.map up, w := w' } q u
              unfold RepP
              split <;> first | trivial | (rename_i hh; first | exact (k0 hh).elim | exact (k1 hh).elim | exact (k2 hh).elim)
        refine ⟨w', c.T.map up, hrun, ⟨⟨?_, ?_, ?_, ?_, h.wf.start, ?_, ?_⟩, by simp [h.size], fun t2 => ?_, h.defers, h.dead, h.frz, fun n hn' => ?_, h.kp⟩, ?_⟩
        · show ((c.T.map up).map (·.nm)).Nodup
          rw [List.map_map]
          have : ((fun t2 : Tk cx.ty => t2.nm) ∘ up) = fun t2 => t2.nm := funext upnm
          rw [this]; exact h.wf.names
        · show ((c.T.map up).flatMap _).Nodup
          rw [List.flatMap_map]
          have : (fun t2 => vb (up t2).u ++ (up t2).fp) = fun t2 : Tk cx.ty => vb t2.u ++ t2.fp := funext fun t2 => by rw [upu, upfp]
          rw [this]; exact h.wf.nodup
        · intro t2 ht2 b hb
          obtain ⟨t3, h3, rfl⟩ := List.mem_map.1 ht2
          rw [upu, upfp] at hb
          have := h.wf.bound t3 h3 b hb
          exact ⟨this.1, Nat.lt_of_lt_of_eq this.2 hsame.symm⟩
        · intro t2 ht2
          obtain ⟨t3, h3, rfl⟩ := List.mem_map.1 ht2
          have hold := h.wf.rep t3 h3
          by_cases hn3 : t3.nm = p.nm
          · have e3 := huniq t3 h3 hn3
            subst e3
            rw [up0]
            unfold TokRep
            simp only [hs'o, if_true]
            refine ⟨hvb, 1, ?_⟩
            have hro : w'.ownsRow 0 s'.e (cx.size s'.e) t3.u s'.xs.length (flatVals cx s'.e s'.xs) := by
              rw [← hs']
              simp only [List.length_set]
              refine ⟨by rw [flatVals_len ok hflat, List.length_set], .inr ⟨g, cap0, _, hu, Nat.zero_le _, hnewrow, hncap, hcapm, ?_, ?_⟩⟩
              · simp only [List.size_toArray]
                rw [splice_len hfit]
                simpa using hcur
              · simp only
                rw [splice_take cur.toList (act.eval x).cells.toList (p.i * cx.size p.s.e + p.off) _ (by omega) hfit, htake, hfv]
            have := own_flat ok (s := s') (by rw [← hs']; exact hflat) hro
            rw [hfp0, List.append_nil, hvb]
            exact this
          · have hblk : ∀ b ∈ vb t3.u ++ t3.fp, w'.heap[b]? = c.w.heap[b]? := fun b hb => hheap b (fun e => disjoint_toks h.wf h3 ht (fun e2 => hn3 (by rw [e2, hn])) hb (by rw [e]; exact List.mem_append.2 (.inl hg)))
            unfold TokRep at hold
            split at hold
            · rename_i s hs
              rw [upl t3 s hs hn3]
              unfold TokRep
              rw [hs]
              simp only
              obtain ⟨hv, hold⟩ := hold
              refine ⟨hv, ?_⟩
              split at hold
              · rename_i hso2
                rw [if_pos hso2]
                obtain ⟨n, hold⟩ := hold
                exact ⟨n, OwnL_mono cx n _ _ _ hblk hold⟩
              · rename_i hso2
                rw [if_neg hso2]
                obtain ⟨hf, us, n, hrow, hl2, hr⟩ := hold
                refine ⟨hf, us, n, ?_, hl2, fun j l v h1 h2 => RepL_mono cx (fun b hb => (hrd b hb).2) (fun b hb => (hrd b hb).1) n l v (hr j l v h1 h2)⟩
                obtain ⟨hx, hcx⟩ := hrow
                refine ⟨hx, ?_⟩
                rcases hcx with hcx | ⟨g2, cap2, cur2, hv', hg2, hh2, hrest⟩
                · exact .inl hcx
                · refine .inr ⟨g2, cap2, cur2, hv', hg2, ?_, hrest⟩
                  rw [hblk g2 (by rw [hv']; simp [vb])]
                  exact hh2
            · rename_i cells hs
              obtain ⟨hf, g2, cur2, e2, hu2, hh2, hr⟩ := hold
              have hup : up t3 = { t3 with c := .inr (cells.map (updEL p.nm s')) } := by simp only [up]; rw [hs]
              rw [hup]
              unfold TokRep
              refine ⟨hf, g2, cur2, e2, hu2, ?_, hr.mapE hleaf⟩
              rw [hblk g2 (by rw [hu2]; simp [vb])]
              exact hh2
        · intro t2 ht2
          obtain ⟨t3, h3, rfl⟩ := List.mem_map.1 ht2
          rw [upnm]
          exact h.wf.live t3 h3
        · exact fun b hb => h.wf.size b (Nat.le_trans (Nat.le_of_eq hsame.symm) hb)
        · have : (st.slots.map (updEV p.nm s')).getD t2 junk = updEV p.nm s' (st.slots.getD t2 junk) := by
            by_cases hlt : t2 < st.slots.length
            · simp [List.getD, hlt]
            · simp [List.getD, List.getElem?_eq_none (Nat.le_of_not_lt hlt), junk, updEV, updEA, updEL]
          show RepV cx _ ((st.slots.map (updEV p.nm s')).getD t2 junk) _
          rw [this]
          exact hval _ _ (h.rep t2)
        · rcases hn' with ⟨t2, ht2, rfl⟩ | hn' | hn'
          · obtain ⟨t3, h3, rfl⟩ := List.mem_map.1 ht2
            rw [upnm]
            exact h.names _ (.inl ⟨t3, h3, rfl⟩)
          · exact h.names _ (.inr (.inl hn'))
          · exact h.names _ (.inr (.inr hn'))
        · exact ⟨by rw [← hW]; rfl, by rw [← hW]; rfl, by rw [← hW]; rfl, by rw [hsame]; exact Nat.le_refl _, fun k hk => hheap k (fun e => hk (e ▸ hgb.1))⟩
      · simp at hst
    · simp at hst
  · simp at hst

end
end Go.VM
namespace Go.VM
open Go.RowKit
section
variable {cx : Cx} {P : Program}
/-- A store into a box or into a row. -/
def stA (P : Program) (st : St cx.ty) (t : TypeId) (a x : Operand) : Option (St cx.ty) :=
  match stB P st t a x with
  | some st' => some st'
  | none => stE P st t a x

theorem stA_ok (ok : cx.Ok) {o : Oper} {t : TypeId} {a x : Operand} (ho : o.op = .store t a x) {st st' : St cx.ty} (hst : stA P st t a x = some st') {c : Ct cx.ty} {act : Act} (h : RS cx c st act) :
    ∃ w' T', (execOp act.eval o).run P c.w = .ok .skip w' ∧ RS cx { c with T := T', w := w' } st' act ∧ Kept c.N c.w w' := by
  unfold stA at hst
  split at hst
  · rename_i s1 e1
    simp only [Option.some.injEq] at hst
    subst hst
    exact stB_ok ho e1 h
  · exact stE_ok ok ho hst h
end
end Go.VM

namespace Go.VM
open Go.RowKit
section
variable {cx : Cx} {P : Program}

/-! ### Calls of functions that write into what they are handed -/
def packR (rs : List Value) : Value := if h : rs.length = 1 then rs[0] else .tuple rs.toArray

/-- The contract: the first 'n' things handed are the callee's while it runs; they come back behind the results. -/
def SatW (P : Program) (cx : Cx) (f : FuncId) (nres n : Nat) (F : List (A cx.ty) → Option (Bool × List (A cx.ty))) : Prop :=
  ∀ (w : World) (l : List (A cx.ty)) (us : List Value) (fps : List (List Nat)) (cs : List (A cx.ty)), ResAs cx w (fun _ => False) l us fps → (List.flatten fps).Nodup → (∀ b ∈ List.flatten fps, b < w.heap.size) → F l = some (true, cs) →
    Calls P f us.toArray w (fun e w' => ∃ rs : List Value, e = .returned (packR rs) ∧ rs.length = nres ∧ Kept (fun b => w.heap.size ≤ b ∨ b ∈ List.flatten fps) w w' ∧
      ResV cx w' (fun _ => False) (fun b => w.heap.size ≤ b ∨ b ∈ List.flatten fps) (.inr (.inl cs)) (.tuple (rs ++ us.take n).toArray))

/-- A piece that is handed over whole, and its name. -/
def giveL (cx : Cx) (P : Program) (t : TypeId) (l : L cx.ty) : Option (L cx.ty × List Nat) :=
  match l with
  | some (.inl (.slice none 0 0)) => match sliceElem P t with
    | some e => some (ls { own := 2, nm := 0, e := e, o := true, xs := [] }, [])
    | none => none
  | some (.inl v) => some (lv v, [])
  | some (.inr s) => if s.own == 1 && s.o && cx.flat s.e then some (ls { own := 2, nm := 0, e := s.e, o := true, xs := s.xs }, [s.nm]) else none
  | none => none

def giveLs (cx : Cx) (P : Program) : List TypeId → List (L cx.ty) → Option (List (L cx.ty) × List Nat)
  | t :: ts, l :: r => match giveL cx P t l, giveLs cx P ts r with
    | some (a, n), some (as, ns) => some (a :: as, n ++ ns)
    | _, _ => none
  | [], [] => some ([], [])
  | _, _ => none

def giveA (cx : Cx) (P : Program) (t : TypeId) (a : A cx.ty) : Option (A cx.ty × List Nat) :=
  match a with
  | .inl l => match giveL cx P t l with
    | some (a, n) => some (.inl a, n)
    | none => none
  | .inr l => match giveLs cx P (leafTypes P 8 t) l with
    | some (as, n) => some (.inr as, n)
    | none => none

def giveVs (cx : Cx) (P : Program) : List TypeId → List (V cx.ty) → Option (List (A cx.ty) × List Nat)
  | t :: ts, .inl a :: r => match giveA cx P t a, giveVs cx P ts r with
    | some (a, n), some (as, ns) => some (a :: as, n ++ ns)
    | _, _ => none
  | [], [] => some ([], [])
  | _, _ => none

/-- The blocks of the things named, in their order. -/
def Gives (c : Ct cx.ty) (ns : List Nat) (fp : List Nat) : Prop := ∃ tks : List (Tk cx.ty), tks.map (·.nm) = ns ∧ (∀ tk ∈ tks, tk ∈ c.T ∧ tk.fp = [] ∧ ∃ s, tk.c = .inl s) ∧ fp = tks.flatMap blocks

theorem Gives.nil (c : Ct cx.ty) : Gives c [] [] := ⟨[], rfl, by simp, rfl⟩
theorem Gives.app {c : Ct cx.ty} {a b f g : List Nat} (h1 : Gives c a f) (h2 : Gives c b g) : Gives c (a ++ b) (f ++ g) := by
  obtain ⟨t1, p1, q1, r1⟩ := h1
  obtain ⟨t2, p2, q2, r2⟩ := h2
  exact ⟨t1 ++ t2, by simp [p1, p2], fun tk ht => (List.mem_append.1 ht).elim (q1 tk) (q2 tk), by rw [List.flatMap_append, r1, r2]⟩

theorem giveL_rep (ok : cx.Ok) {c : Ct cx.ty} (hw : Wf cx c) {t : TypeId} {l l' : L cx.ty} {n : List Nat} (ha : giveL cx P t l = some (l', n)) {u : Value} (h : RepLS cx c l u) (hd : ∀ k ∈ n, k ∉ c.D ∧ k ∉ c.F) :
    ∃ fp, ResL cx c.w (fun _ => False) l' u fp ∧ Gives c n fp := by
  unfold giveL at ha
  split at ha
  · split at ha
    · simp only [Option.some.injEq, Prod.mk.injEq] at ha
      obtain ⟨rfl, rfl⟩ := ha
      have h : u = .slice none 0 0 := h
      subst h
      refine ⟨[], ?_, Gives.nil c⟩
      unfold ResL
      simp only [ls, if_true]
      exact ⟨trivial, 1, [], [], World.ownsRow_nil _ _ _ _, rfl, rfl, rfl, fun j l c f h => by simp at h⟩
    · simp at ha
  · simp only [Option.some.injEq, Prod.mk.injEq] at ha
    obtain ⟨rfl, rfl⟩ := ha
    exact ⟨[], ⟨h, rfl⟩, Gives.nil c⟩
  · rename_i s
    split at ha
    · rename_i hc
      simp only [Bool.and_eq_true, beq_iff_eq] at hc
      simp only [Option.some.injEq, Prod.mk.injEq] at ha
      obtain ⟨rfl, rfl⟩ := ha
      have h2 := hd s.nm (by simp)
      unfold RepLS at h
      simp only [hc.1.1, if_true, h2.1, h2.2, if_false] at h
      obtain ⟨_, tk, ht, hn, hcc, hu⟩ := h
      have htr := hw.rep tk ht
      unfold TokRep at htr
      rw [hcc] at htr
      simp only [hc.1.2, if_true] at htr
      obtain ⟨hv, m, htr⟩ := htr
      have hfp0 : tk.fp = [] := by
        have := (flat_of_own ok hc.2 htr).2
        rw [← hv] at this
        exact List.append_cancel_left (this.trans (List.append_nil _).symm)
      refine ⟨blocks tk, ?_, [tk], by simp [hn], by simp only [List.mem_singleton]; rintro _ rfl; exact ⟨ht, hfp0, s, hcc⟩, by simp⟩
      unfold ResL
      simp only [ls, if_true]
      refine ⟨trivial, m, ?_⟩
      rw [← hu]
      cases m with
      | zero => simp [OwnL] at htr
      | succ m => exact htr
    · simp at ha
  · simp at ha

theorem giveLs_rep (ok : cx.Ok) {c : Ct cx.ty} (hw : Wf cx c) : ∀ (ts : List TypeId) (l l' : List (L cx.ty)) (n : List Nat) (us : List Value), giveLs cx P ts l = some (l', n) → RepLs cx c l us → (∀ k ∈ n, k ∉ c.D ∧ k ∉ c.F) →
    ∃ fps, ResLs cx c.w (fun _ => False) l' us fps ∧ Gives c n (List.flatten fps)
  | [], [], l', n, us, ha, h, _ => by
    simp only [giveLs, Option.some.injEq, Prod.mk.injEq] at ha
    obtain ⟨rfl, rfl⟩ := ha
    exact ⟨[], ⟨h.1, rfl, fun j a u f h1 => by simp at h1⟩, Gives.nil c⟩
  | t :: ts, l :: r, l', n, us, ha, h, hd => by
    simp only [giveLs] at ha
    split at ha
    · rename_i a n1 as ns e1 e2
      simp only [Option.some.injEq, Prod.mk.injEq] at ha
      obtain ⟨rfl, rfl⟩ := ha
      match us, h with
      | [], h => simp [RepLs] at h
      | u :: us, h =>
        obtain ⟨f, k1, k2⟩ := giveL_rep ok hw e1 (h.2 0 l u rfl rfl) (fun k hk => hd k (List.mem_append.2 (.inl hk)))
        obtain ⟨fps, k3, k4⟩ := giveLs_rep ok hw ts r as ns us e2 ⟨by have := h.1; simpa using this, fun j a b h1 h2 => h.2 (j + 1) a b (by simpa using h1) (by simpa using h2)⟩ (fun k hk => hd k (List.mem_append.2 (.inr hk)))
        refine ⟨f :: fps, ⟨by simp [k3.1], by simp [k3.2.1], fun j a' u' f' h1 h2 h3 => ?_⟩, by rw [List.flatten_cons]; exact k2.app k4⟩
        cases j with
        | zero =>
          simp only [List.getElem?_cons_zero, Option.some.injEq] at h1 h2 h3
          subst h1; subst h2; subst h3
          exact k1
        | succ j => exact k3.2.2 j a' u' f' (by simpa using h1) (by simpa using h2) (by simpa using h3)
    · simp at ha
  | [], _ :: _, _, _, _, ha, _, _ => by simp [giveLs] at ha
  | _ :: _, [], _, _, _, ha, _, _ => by simp [giveLs] at ha

theorem giveA_rep (ok : cx.Ok) {c : Ct cx.ty} (hw : Wf cx c) {t : TypeId} {a a' : A cx.ty} {n : List Nat} (ha : giveA cx P t a = some (a', n)) {u : Value} (h : RepA cx c a u) (hd : ∀ k ∈ n, k ∉ c.D ∧ k ∉ c.F) :
    ∃ fp, ResA cx c.w (fun _ => False) a' u fp ∧ Gives c n fp := by
  unfold giveA at ha
  split at ha
  · split at ha
    · rename_i a n e1
      simp only [Option.some.injEq, Prod.mk.injEq] at ha
      obtain ⟨rfl, rfl⟩ := ha
      exact giveL_rep ok hw e1 h hd
    · simp at ha
  · split at ha
    · rename_i as n e1
      simp only [Option.some.injEq, Prod.mk.injEq] at ha
      obtain ⟨rfl, rfl⟩ := ha
      obtain ⟨us, hu, h⟩ := h
      obtain ⟨fps, h1, h2⟩ := giveLs_rep ok hw _ _ _ _ us e1 h hd
      exact ⟨_, ⟨us, fps, hu, rfl, h1⟩, h2⟩
    · simp at ha

theorem giveVs_rep (ok : cx.Ok) {c : Ct cx.ty} (hw : Wf cx c) : ∀ (ts : List TypeId) (l : List (V cx.ty)) (l' : List (A cx.ty)) (n : List Nat) (us : List Value), giveVs cx P ts l = some (l', n) →
    us.length = l.length → (∀ (j : Nat) a u, l[j]? = some a → us[j]? = some u → RepV cx c a u) → (∀ k ∈ n, k ∉ c.D ∧ k ∉ c.F) → ∃ fps, ResAs cx c.w (fun _ => False) l' us fps ∧ Gives c n (List.flatten fps)
  | [], [], l', n, us, ha, hl, h, _ => by
    simp only [giveVs, Option.some.injEq, Prod.mk.injEq] at ha
    obtain ⟨rfl, rfl⟩ := ha
    exact ⟨[], ⟨hl, rfl, fun j a u f h1 => by simp at h1⟩, Gives.nil c⟩
  | t :: ts, .inl l :: r, l', n, us, ha, hl, h, hd => by
    simp only [giveVs] at ha
    split at ha
    · rename_i a n1 as ns e1 e2
      simp only [Option.some.injEq, Prod.mk.injEq] at ha
      obtain ⟨rfl, rfl⟩ := ha
      match us, hl, h with
      | [], hl, h => simp at hl
      | u :: us, hl, h =>
        obtain ⟨f, k1, k2⟩ := giveA_rep ok hw e1 (h 0 _ u rfl rfl) (fun k hk => hd k (List.mem_append.2 (.inl hk)))
        obtain ⟨fps, k3, k4⟩ := giveVs_rep ok hw ts r as ns us e2 (by simpa using hl) (fun j a b h1 h2 => h (j + 1) a b (by simpa using h1) (by simpa using h2)) (fun k hk => hd k (List.mem_append.2 (.inr hk)))
        refine ⟨f :: fps, ⟨by simp [k3.1], by simp [k3.2.1], fun j a' u' f' h1 h2 h3 => ?_⟩, by rw [List.flatten_cons]; exact k2.app k4⟩
        cases j with
        | zero =>
          simp only [List.getElem?_cons_zero, Option.some.injEq] at h1 h2 h3
          subst h1; subst h2; subst h3
          exact k1
        | succ j => exact k3.2.2 j a' u' f' (by simpa using h1) (by simpa using h2) (by simpa using h3)
    · simp at ha
  | [], _ :: _, _, _, _, ha, _, _, _ => by simp [giveVs] at ha
  | _ :: _, [], _, _, _, ha, _, _, _ => by simp [giveVs] at ha
  | _ :: _, .inr _ :: _, _, _, _, ha, _, _, _ => by simp [giveVs] at ha

theorem flatMap_inj_nodup {T : List (Tk cx.ty)} (h : (T.flatMap blocks).Nodup) (_hn : (T.map (·.nm)).Nodup) : ∀ tks : List (Tk cx.ty), (tks.map (·.nm)).Nodup → (∀ tk ∈ tks, tk ∈ T) → (tks.flatMap blocks).Nodup := by
  have hdis : ∀ t1 ∈ T, ∀ t2 ∈ T, t1.nm ≠ t2.nm → ∀ b ∈ blocks t1, b ∉ blocks t2 := by
    intro t1 h1 t2 h2 hne b hb1 hb2
    obtain ⟨l1, l2, hl⟩ := List.append_of_mem h1
    rw [hl] at h h2
    simp only [List.flatMap_append, List.flatMap_cons] at h
    rcases List.mem_append.1 h2 with h3 | h3
    · exact (List.nodup_append.1 h).2.2 b (List.mem_flatMap.2 ⟨t2, h3, hb2⟩) b (List.mem_append.2 (.inl hb1)) rfl
    · rcases List.mem_cons.1 h3 with h3 | h3
      · exact hne (by rw [h3])
      · exact (List.nodup_append.1 (List.nodup_append.1 h).2.1).2.2 b hb1 b (List.mem_flatMap.2 ⟨t2, h3, hb2⟩) rfl
  intro tks
  induction tks with
  | nil => simp
  | cons a r ih =>
    intro hn2 hm
    rw [List.map_cons, List.nodup_cons] at hn2
    rw [List.flatMap_cons, List.nodup_append]
    refine ⟨?_, ih hn2.2 (fun tk ht => hm tk (List.mem_cons_of_mem _ ht)), fun x hx y hy he => ?_⟩
    · obtain ⟨l1, l2, hl⟩ := List.append_of_mem (hm a (List.mem_cons_self ..))
      rw [hl] at h
      simp only [List.flatMap_append, List.flatMap_cons] at h
      exact (List.nodup_append.1 (List.nodup_append.1 h).2.1).1
    · subst he
      obtain ⟨t2, k1, k2⟩ := List.mem_flatMap.1 hy
      exact hdis a (hm a (List.mem_cons_self ..)) t2 (hm t2 (List.mem_cons_of_mem _ k1)) (fun e => hn2.1 (List.mem_map.2 ⟨t2, k1, e.symm⟩)) x hx k2

/-- What the names stand for from then on. -/
def renL {ty : Nat → Type} (ps : List (Nat × SlD ty)) (l : L ty) : L ty :=
  match l with
  | some (.inr s) => if s.own == 1 then (match ps.find? (fun p => p.1 == s.nm) with
      | some p => some (.inr p.2)
      | none => some (.inr s)) else some (.inr s)
  | l => l

def renA {ty : Nat → Type} (ps : List (Nat × SlD ty)) : A ty → A ty
  | .inl l => .inl (renL ps l)
  | .inr l => .inr (l.map (renL ps))

def renV {ty : Nat → Type} (ps : List (Nat × SlD ty)) : V ty → V ty
  | .inl a => .inl (renA ps a)
  | .inr (.inl l) => .inr (.inl (l.map (renA ps)))
  | .inr (.inr p) => match p.kind with
    | 0 => .inr (.inr { p with cells := p.cells.map (renL ps) })
    | _ => .inr (.inr p)

structure Ren (cx : Cx) (c c' : Ct cx.ty) (gs : List Nat) (ps : List (Nat × SlD cx.ty)) : Prop where
  rd : ∀ b, Rd c b → Rd c' b ∧ c'.w.heap[b]? = c.w.heap[b]?
  dead : ∀ n, n ∈ c'.D ↔ n ∈ gs ∨ n ∈ c.D
  frz : ∀ n, n ∈ c'.F ↔ n ∈ c.F
  tok : ∀ tk ∈ c.T, tk.nm ∉ gs → ∀ s, tk.c = .inl s → tk ∈ c'.T
  box : ∀ tk ∈ c.T, ∀ l, tk.c = .inr l → ∃ tk' ∈ c'.T, tk'.nm = tk.nm ∧ tk'.u = tk.u ∧ tk'.c = .inr (l.map (renL ps))
  ok : ∀ p ∈ ps, ∀ tk ∈ c.T, tk.nm = p.1 → p.2.own = 1 ∧ p.2.nm ∉ c'.D ∧ p.2.nm ∉ c'.F ∧ ∃ tk' ∈ c'.T, tk'.nm = p.2.nm ∧ tk'.c = .inl p.2 ∧ tk'.u = tk.u
  live : ∀ p ∈ ps, p.1 ∉ c.D ∧ p.1 ∉ c.F

theorem renL_rep {c c' : Ct cx.ty} {gs : List Nat} {ps : List (Nat × SlD cx.ty)} (hr : Ren cx c c' gs ps) {l : L cx.ty} {u : Value} (h : RepLS cx c l u) : RepLS cx c' (renL ps l) u := by
  have up : ∀ {n : Nat} {l : L cx.ty} {u : Value}, RepL cx c.w (Rd c) n l u → RepL cx c'.w (Rd c') n l u := fun hx => RepL_mono cx (fun b hb => (hr.rd b hb).2) (fun b hb => (hr.rd b hb).1) _ _ _ hx
  have old : ∀ {l : L cx.ty}, RepLS cx c l u → RepLS cx c' l u := by
    intro l h
    match l, h with
    | none, _ => trivial
    | some (.inl v), h => exact h
    | some (.inr s), h =>
      unfold RepLS at h ⊢
      by_cases h1 : s.own = 1
      · simp only [h1, if_true] at h ⊢
        obtain ⟨hsl, h⟩ := h
        refine ⟨hsl, ?_⟩
        by_cases h2 : s.nm ∈ c'.D
        · rw [if_pos h2]; trivial
        · rw [if_neg h2]
          have h2' : s.nm ∉ gs ∧ s.nm ∉ c.D := ⟨fun hx => h2 ((hr.dead _).2 (.inl hx)), fun hx => h2 ((hr.dead _).2 (.inr hx))⟩
          simp only [h2'.2, if_false] at h
          by_cases h3 : s.nm ∈ c.F
          · rw [if_pos ((hr.frz _).2 h3)]
            simp only [h3, if_true] at h
            obtain ⟨n, h⟩ := h
            exact ⟨n, up h⟩
          · rw [if_neg (fun hx => h3 ((hr.frz _).1 hx))]
            simp only [h3, if_false] at h
            obtain ⟨tk, k1, k2, k3, k4⟩ := h
            exact ⟨tk, hr.tok tk k1 (by rw [k2]; exact h2'.1) s k3, k2, k3, k4⟩
      · simp only [h1, if_false] at h ⊢
        obtain ⟨n, h⟩ := h
        exact ⟨n, up h⟩
  unfold renL
  split
  · rename_i s
    split
    · rename_i h1
      have h1 : s.own = 1 := by simpa using h1
      split
      · rename_i p hp'
        have hm := List.mem_of_find?_eq_some hp'
        have he : p.1 = s.nm := by simpa using List.find?_some hp'
        have hl := hr.live p hm
        rw [he] at hl
        unfold RepLS at h
        simp only [h1, if_true, hl.1, hl.2, if_false] at h
        obtain ⟨hsl, tk, k1, k2, k3, k4⟩ := h
        obtain ⟨q1, q2, q3, tk', q4, q5, q6, q7⟩ := hr.ok p hm tk k1 (by rw [k2, he])
        unfold RepLS
        simp only [q1, if_true, q2, q3, if_false]
        exact ⟨hsl, tk', q4, q5, q6, q7.trans k4⟩
      · exact old h
    · exact old h
  · exact old h

theorem renA_rep {c c' : Ct cx.ty} {gs : List Nat} {ps : List (Nat × SlD cx.ty)} (hr : Ren cx c c' gs ps) {a : A cx.ty} {u : Value} (h : RepA cx c a u) : RepA cx c' (renA ps a) u := by
  match a, h with
  | .inl l, h => exact renL_rep hr h
  | .inr l, ⟨us, hu, h⟩ => exact ⟨us, hu, h.mapE fun l u h => renL_rep hr h⟩

theorem renV_rep {c c' : Ct cx.ty} {gs : List Nat} {ps : List (Nat × SlD cx.ty)} (hr : Ren cx c c' gs ps) {v : V cx.ty} {u : Value} (h : RepV cx c v u) : RepV cx c' (renV ps v) u := by
  have hel : ∀ {s : SlD cx.ty} {i b o : Nat}, RepEl cx c s i b o → RepEl cx c' s i b o := by
    rintro s i b o ⟨hb, y, hy, n, hx⟩
    refine ⟨(hr.rd b hb).1, y, hy, n, fun j q hq => ?_⟩
    obtain ⟨v, hv, hx⟩ := hx j q hq
    exact ⟨v, by rw [World.cell?_of_block (hr.rd b hb).2]; exact hv, RepL_mono cx (fun b hb => (hr.rd b hb).2) (fun b hb => (hr.rd b hb).1) _ _ _ hx⟩
  match v, h with
  | .inl a, h => exact renA_rep hr h
  | .inr (.inl l), ⟨us, hu, h⟩ =>
    refine ⟨us, hu, by rw [List.length_map]; exact h.1, fun j a u e1 e2 => ?_⟩
    rw [List.getElem?_map] at e1
    cases e0 : l[j]? with
    | none => rw [e0] at e1; simp at e1
    | some a0 =>
      rw [e0] at e1
      simp only [Option.map_some, Option.some.injEq] at e1
      subst e1
      exact renA_rep hr (h.2 j a0 u e0 e2)
  | .inr (.inr q), h =>
    have hq : RepP cx c q u := h
    unfold RepP at hq
    simp only [renV]
    split at hq
    · rename_i hk0
      obtain ⟨t2, k1, k2, k3, g2, k4, k5⟩ := hq
      obtain ⟨t3, m1, m2, m3, m4⟩ := hr.box t2 k1 _ k3
      simp only [hk0]
      show RepP cx c' { q with kind := 0, cells := q.cells.map (renL ps) } u
      unfold RepP
      simp only
      exact ⟨t3, m1, m2.trans k2, m4, g2, by rw [m3]; exact k4, k5⟩
    · rename_i hk1
      simp only [hk1]
      show RepP cx c' q u
      unfold RepP
      simp only [hk1]
      by_cases h2 : q.nm ∈ c'.D
      · rw [if_pos h2]; trivial
      · rw [if_neg h2]
        have h2' : q.nm ∉ gs ∧ q.nm ∉ c.D := ⟨fun hx => h2 ((hr.dead _).2 (.inl hx)), fun hx => h2 ((hr.dead _).2 (.inr hx))⟩
        simp only [h2'.2, if_false] at hq
        by_cases h3 : q.nm ∈ c.F
        · rw [if_pos ((hr.frz _).2 h3)]
          simp only [h3, if_true] at hq
          obtain ⟨b, o, hu, hx⟩ := hq
          exact ⟨b, o, hu, hel hx⟩
        · rw [if_neg (fun hx => h3 ((hr.frz _).1 hx))]
          simp only [h3, if_false] at hq
          obtain ⟨t2, k1, k2, k3, k4⟩ := hq
          exact ⟨t2, hr.tok t2 k1 (by rw [k2]; exact h2'.1) _ k3, k2, k3, k4⟩
    · rename_i hk2
      simp only [hk2]
      show RepP cx c' q u
      unfold RepP
      simp only [hk2]
      obtain ⟨b, o, hu, hx⟩ := hq
      exact ⟨b, o, hu, hel hx⟩
    · rename_i k0 k1 k2
      have : (match q.kind with
        | 0 => (.inr (.inr { q with cells := q.cells.map (renL ps) }) : V cx.ty)
        | _ => .inr (.inr q)) = .inr (.inr q) := by
        split
        · rename_i hh; exact (k0 hh).elim
        · rfl
      rw [this]
      show RepP cx c' q u
      unfold RepP
      split <;> first | trivial | (rename_i hh; first | exact (k0 hh).elim | exact (k1 hh).elim | exact (k2 hh).elim)

/-- What is not handed stays as it is. -/
theorem TokRep.ren {c c' : Ct cx.ty} {gs : List Nat} {ps : List (Nat × SlD cx.ty)} (hr : Ren cx c c' gs ps) {tk tk' : Tk cx.ty} (hu : tk'.u = tk.u) (hfp : tk'.fp = tk.fp) (hc : tk'.c = match tk.c with | .inl s => .inl s | .inr l => .inr (l.map (renL ps)))
    (hb : ∀ b ∈ vb tk.u ++ tk.fp, c'.w.heap[b]? = c.w.heap[b]?) (h : TokRep cx c tk) : TokRep cx c' tk' := by
  unfold TokRep at h
  split at h
  · rename_i s hs
    rw [hs] at hc
    simp only at hc
    unfold TokRep
    rw [hc]
    simp only
    rw [hu, hfp]
    obtain ⟨hv, h⟩ := h
    refine ⟨hv, ?_⟩
    split at h
    · rename_i ho
      rw [if_pos ho]
      obtain ⟨n, h⟩ := h
      exact ⟨n, OwnL_mono cx n _ _ _ hb h⟩
    · rename_i ho
      rw [if_neg ho]
      obtain ⟨hf, us, n, hrow, hl2, hx⟩ := h
      refine ⟨hf, us, n, ?_, hl2, fun j l v h1 h2 => RepL_mono cx (fun b hb => (hr.rd b hb).2) (fun b hb => (hr.rd b hb).1) n l v (hx j l v h1 h2)⟩
      obtain ⟨hx, hcx⟩ := hrow
      refine ⟨hx, ?_⟩
      rcases hcx with hcx | ⟨g2, cap2, cur2, hv', hg2, hh2, hrest⟩
      · exact .inl hcx
      · refine .inr ⟨g2, cap2, cur2, hv', hg2, ?_, hrest⟩
        rw [hb g2 (by rw [hv']; simp [vb])]
        exact hh2
  · rename_i cells hs
    rw [hs] at hc
    simp only at hc
    obtain ⟨hf, g2, cur2, e2, hu2, hh2, hx⟩ := h
    unfold TokRep
    rw [hc]
    simp only
    rw [hu, hfp]
    refine ⟨hf, g2, cur2, e2, hu2, ?_, hx.mapE fun l u h => renL_rep hr h⟩
    rw [hb g2 (by rw [hu2]; simp [vb])]
    exact hh2

/-- A state of the table behind such a call. -/
structure GoodW (cx : Cx) (c : Ct cx.ty) (ef : Eff cx.ty) (ps : List (Nat × SlD cx.ty)) (nm0 : Nat) (u : Value) (w' : World) (T' : List (Tk cx.ty)) : Prop where
  wf : Wf cx (c.nx ef w' T')
  ren : Ren cx c (c.nx ef w' T') ef.dead ps
  rep : RepV cx (c.nx ef w' T') ef.v u
  below : Kept c.N c.w w'
  names : ∀ n, Nm (c.nx ef w' T') n → Nm c n ∨ (nm0 ≤ n ∧ n < nm0 + 64)

/-- The names of what was handed, beside what came back. -/
def pairL {ty : Nat → Type} : L ty → L ty → Option (List (Nat × SlD ty))
  | some (.inr s), some (.inr s') => if s.own == 1 && s'.own == 1 then some [(s.nm, s')] else none
  | some (.inl _), _ => some []
  | _, _ => none

def pairLs {ty : Nat → Type} : List (L ty) → List (L ty) → Option (List (Nat × SlD ty))
  | a :: r, b :: q => match pairL a b, pairLs r q with
    | some x, some y => some (x ++ y)
    | _, _ => none
  | [], [] => some []
  | _, _ => none

def pairA {ty : Nat → Type} : A ty → A ty → Option (List (Nat × SlD ty))
  | .inl a, .inl b => pairL a b
  | .inr a, .inr b => pairLs a b
  | _, _ => none

def pairVs {ty : Nat → Type} : List (V ty) → List (A ty) → Option (List (Nat × SlD ty))
  | .inl a :: r, b :: q => match pairA a b, pairVs r q with
    | some x, some y => some (x ++ y)
    | _, _ => none
  | _, [] => some []
  | _, _ => none

/-- Each pair's old thing and its new one lie in one value. -/
def PairOK (cx : Cx) (c c' : Ct cx.ty) (ps : List (Nat × SlD cx.ty)) : Prop :=
  ∀ p ∈ ps, ∃ u s, s.own = 1 ∧ s.nm = p.1 ∧ RepLS cx c (some (.inr s)) u ∧ p.2.own = 1 ∧ RepLS cx c' (some (.inr p.2)) u

theorem PairOK.app {c c' : Ct cx.ty} {a b : List (Nat × SlD cx.ty)} (h1 : PairOK cx c c' a) (h2 : PairOK cx c c' b) : PairOK cx c c' (a ++ b) :=
  fun p hp => (List.mem_append.1 hp).elim (h1 p) (h2 p)

theorem pairL_ok {c c' : Ct cx.ty} {a b : L cx.ty} {u : Value} {ps : List (Nat × SlD cx.ty)} (h1 : RepLS cx c a u) (h2 : RepLS cx c' b u) (h : pairL a b = some ps) : PairOK cx c c' ps := by
  unfold pairL at h
  split at h
  · rename_i s s'
    split at h
    · rename_i hc
      simp only [Bool.and_eq_true, beq_iff_eq] at hc
      simp only [Option.some.injEq] at h
      subst h
      intro p hp
      simp only [List.mem_singleton] at hp
      subst hp
      exact ⟨u, s, hc.1, rfl, h1, hc.2, h2⟩
    · simp at h
  · simp only [Option.some.injEq] at h
    subst h
    intro p hp
    simp at hp
  · simp at h

theorem pairLs_ok {c c' : Ct cx.ty} : ∀ (a b : List (L cx.ty)) (us : List Value) (ps : List (Nat × SlD cx.ty)), RepLs cx c a us → RepLs cx c' b us → pairLs a b = some ps → PairOK cx c c' ps
  | [], [], us, ps, _, _, h => by
    simp only [pairLs, Option.some.injEq] at h
    subst h
    intro p hp
    simp at hp
  | a :: r, b :: q, us, ps, h1, h2, h => by
    simp only [pairLs] at h
    split at h
    · rename_i x y e1 e2
      simp only [Option.some.injEq] at h
      subst h
      match us, h1, h2 with
      | [], h1, _ => simp [RepLs] at h1
      | u :: us, h1, h2 =>
        exact (pairL_ok (h1.2 0 a u rfl rfl) (h2.2 0 b u rfl rfl) e1).app (pairLs_ok r q us y ⟨by simpa using h1.1, fun j a u e1 e2 => h1.2 (j + 1) a u (by simpa using e1) (by simpa using e2)⟩ ⟨by simpa using h2.1, fun j a u e1 e2 => h2.2 (j + 1) a u (by simpa using e1) (by simpa using e2)⟩ e2)
    · simp at h
  | [], _ :: _, _, _, _, _, h => by simp [pairLs] at h
  | _ :: _, [], _, _, _, _, h => by simp [pairLs] at h

theorem pairA_ok {c c' : Ct cx.ty} {a b : A cx.ty} {u : Value} {ps : List (Nat × SlD cx.ty)} (h1 : RepA cx c a u) (h2 : RepA cx c' b u) (h : pairA a b = some ps) : PairOK cx c c' ps := by
  match a, b, h1, h2, h with
  | .inl a, .inl b, h1, h2, h => exact pairL_ok h1 h2 h
  | .inr a, .inr b, ⟨us, hu, h1⟩, ⟨us2, hu2, h2⟩, h =>
    have : us = us2 := by
      rw [hu] at hu2
      simp only [Value.agg.injEq] at hu2
      have := congrArg Array.toList hu2
      simpa using this
    subst this
    exact pairLs_ok a b us ps h1 h2 h
  | .inl _, .inr _, _, _, h => simp [pairA] at h
  | .inr _, .inl _, _, _, h => simp [pairA] at h

theorem pairVs_ok {c c' : Ct cx.ty} : ∀ (a : List (V cx.ty)) (b : List (A cx.ty)) (us us' : List Value) (ps : List (Nat × SlD cx.ty)), (∀ (j : Nat) v u, a[j]? = some v → us[j]? = some u → RepV cx c v u) → us.length = a.length → RepAs cx c' b us' → us' = us.take b.length → pairVs a b = some ps → PairOK cx c c' ps
  | [], [], us, us', ps, _, _, _, _, h => by
    simp only [pairVs, Option.some.injEq] at h
    subst h
    intro p hp
    simp at hp
  | v :: r, [], us, us', ps, _, _, _, _, h => by
    have : ps = [] := by
      unfold pairVs at h
      split at h <;> simp_all
    subst this
    intro p hp
    simp at hp
  | v :: r, b :: q, us, us', ps, h1, hl, h2, he, h => by
    match us, hl with
    | [], hl => simp at hl
    | u :: us, hl =>
      subst he
      match v, h with
      | .inl a, h =>
        simp only [pairVs] at h
        split at h
        · rename_i x y e1 e2
          simp only [Option.some.injEq] at h
          subst h
          have k1 : RepA cx c a u := h1 0 _ u rfl rfl
          have k2 : RepA cx c' b u := h2.2 0 b u rfl (by simp)
          refine (pairA_ok k1 k2 e1).app (pairVs_ok r q us (us.take q.length) y (fun j a u e1 e2 => h1 (j + 1) a u (by simpa using e1) (by simpa using e2)) (by simpa using hl) ⟨?_, fun j a u e1 e2 => h2.2 (j + 1) a u (by simpa using e1) (by simpa using e2)⟩ rfl e2)
          have := h2.1
          simpa using this
        · simp at h
      | .inr _, h => simp [pairVs] at h
  | [], _ :: _, _, _, _, _, _, _, _, h => by simp [pairVs] at h

def packV {ty : Nat → Type} (l : List (A ty)) : V ty :=
  match l with
  | [a] => .inl a
  | l => .inr (.inl l)

structure WFn (cx : Cx) where
  nres : Nat
  n : Nat
  F : List (A cx.ty) → Option (Bool × List (A cx.ty))
  /-- 0: the first things come back; 1: the first is a pointer to a box; 2: a new box comes back -/
  p : Nat := 0

def nodupB : List Nat → Bool
  | [] => true
  | a :: r => !r.contains a && nodupB r

theorem nodupB_spec : ∀ l : List Nat, nodupB l = true → l.Nodup
  | [], _ => List.nodup_nil
  | a :: r, h => by
    simp only [nodupB, Bool.and_eq_true] at h
    exact List.nodup_cons.2 ⟨by simpa using h.1, nodupB_spec r h.2⟩

/-- The call: what it hands back, what the handed things are from then on. -/
def evCallW {β : Type} (P : Program) (f : FuncId) (W : WFn cx) (slots : List (V cx.ty)) (args : List Operand) (ts : List TypeId) (nm0 : Nat) (k : Eff cx.ty → List (Nat × SlD cx.ty) → Option β) : Option β :=
  match P.funcs[f]?, giveVs cx P ts (args.map (getV slots)) with
  | some fn, some (as, gs) => if fn.body.isSome && fn.name != "runtime.NumGoroutine" && nodupB gs then
      match W.F as with
      | some (pre, cs) => bif pre then
          (if fitsV (.inr (.inl cs) : V cx.ty) && noRoV (.inr (.inl cs) : V cx.ty) then
            match pairVs (args.map (getV slots)) ((bindAs nm0 cs).drop W.nres) with
            | some ps => if ps.all (fun p => decide (nm0 ≤ p.2.nm) && decide (p.2.nm < nm0 + 64)) then k { v := packV ((bindAs nm0 cs).take W.nres), dead := gs, frz := [], live := gs ++ ps.map (·.1), read := [] } ps else none
            | none => none
          else none)
        else none
      | none => none
    else none
  | _, _ => none

theorem bindAs_length {ty : Nat → Type} : ∀ (l : List (A ty)) (nm : Nat), (bindAs nm l).length = l.length
  | [], _ => rfl
  | a :: r, nm => by simp [bindAs, bindAs_length r]

theorem repAs_take {c : Ct cx.ty} {l : List (A cx.ty)} {us : List Value} (h : RepAs cx c l us) (n : Nat) : RepAs cx c (l.take n) (us.take n) :=
  ⟨by simp [h.1], fun j a u e1 e2 => by
    rw [List.getElem?_take] at e1 e2
    split at e1
    · rename_i hj
      rw [if_pos hj] at e2
      exact h.2 j a u e1 e2
    · simp at e1⟩

theorem repAs_drop {c : Ct cx.ty} {l : List (A cx.ty)} {us : List Value} (h : RepAs cx c l us) (n : Nat) : RepAs cx c (l.drop n) (us.drop n) :=
  ⟨by simp [h.1], fun j a u e1 e2 => by
    rw [List.getElem?_drop] at e1 e2
    exact h.2 _ a u e1 e2⟩

theorem packV_rep {c : Ct cx.ty} {l : List (A cx.ty)} {us : List Value} (h : RepAs cx c l us) : RepV cx c (packV l) (packR us) := by
  unfold packV packR
  split
  · rename_i a
    have hl : us.length = 1 := h.1
    rw [dif_pos hl]
    exact h.2 0 a _ rfl (List.getElem?_eq_getElem (by omega))
  · rename_i hne
    rw [dif_neg (fun hl => ?_)]
    · exact ⟨us, rfl, h⟩
    · rw [h.1] at hl
      match l, hl, hne with
      | [a], _, hne => exact hne a rfl

theorem uniq_tok {c : Ct cx.ty} (h : Wf cx c) {a b : Tk cx.ty} (ha : a ∈ c.T) (hb : b ∈ c.T) (hn : a.nm = b.nm) : a = b := by
  rcases Classical.em (a = b) with h1 | h1
  · exact h1
  · exfalso
    have hnd := h.names
    obtain ⟨l1, l2, hl⟩ := List.append_of_mem hb
    rw [hl] at hnd ha
    rw [List.map_append, List.map_cons, List.nodup_append] at hnd
    rcases List.mem_append.1 ha with h3 | h3
    · exact hnd.2.2 a.nm (List.mem_map.2 ⟨a, h3, rfl⟩) b.nm (List.mem_cons_self ..) hn
    · rcases List.mem_cons.1 h3 with h3 | h3
      · exact h1 h3
      · exact (List.nodup_cons.1 hnd.2.1).1 (List.mem_map.2 ⟨a, h3, hn⟩)

theorem evCallW_ok (ok : cx.Ok) {β : Type} {o : Oper} {slots : List (V cx.ty)} {nm0 : Nat} {f : FuncId} {args : Array Operand} {ts : Array TypeId} {W : WFn cx} (hK : SatW P cx f W.nres W.n W.F)
    (ho : o.op = .call { callee := .value (.func f), args := args, argTypes := ts }) {k : Eff cx.ty → List (Nat × SlD cx.ty) → Option β} {r : β}
    (h : evCallW P f W slots args.toList ts.toList nm0 k = some r) : ∃ ef ps, k ef ps = some r ∧
      ∀ (c : Ct cx.ty) (ρ : Operand → Value), Wf cx c → (∀ x ∈ o.op.operands, RepV cx c (getV slots x) (ρ x)) → (∀ n ∈ ef.live, n ∉ c.D ∧ n ∉ c.F) →
        (∀ n, Nm c n → ¬ (nm0 ≤ n ∧ n < nm0 + 64)) → Runs P o ρ c.w (fun u w' => ∃ T', GoodW cx c ef ps nm0 u w' T') := by
  unfold evCallW at h
  split at h
  · rename_i fn as gs hfn hargs
    split at h
    · rename_i hc
      simp only [Bool.and_eq_true, bne_iff_ne, ne_eq] at hc
      obtain ⟨⟨hbody, hname⟩, hgs⟩ := hc
      split at h
      · rename_i pre cs hF
        cases pre with
        | false => simp at h
        | true =>
          simp only [cond_true] at h
          split at h
          · rename_i hfit
            simp only [Bool.and_eq_true] at hfit
            obtain ⟨hfit, hro⟩ := hfit
            split at h
            · rename_i ps hps
              split at h
              · rename_i hband
                refine ⟨_, ps, h, fun c ρ hw hop hlive hf => ?_⟩
                have hopj : ∀ (j : Nat) a u, (args.toList.map (getV slots))[j]? = some a → (args.toList.map ρ)[j]? = some u → RepV cx c a u := fun j a u h1 h2 => by
                  simp only [List.getElem?_map] at h1 h2
                  cases hx : args.toList[j]? with
                  | none => simp [hx] at h1
                  | some x =>
                    simp only [hx, Option.map_some, Option.some.injEq] at h1 h2
                    subst h1; subst h2
                    exact hop x (by
                      have : x ∈ args := by simpa using List.mem_of_getElem? hx
                      simp [ho, Op.operands, Call.operands, this])
                obtain ⟨fps, hres, tks, hg1, hg2, hg3⟩ := giveVs_rep ok hw ts.toList _ as gs (args.toList.map ρ) hargs (by simp) hopj (fun n hn => hlive n (List.mem_append.2 (.inl hn)))
                have hgn : gs.Nodup := nodupB_spec gs hgs
                have hfnd : (List.flatten fps).Nodup := by
                  rw [hg3]
                  exact flatMap_inj_nodup hw.nodup hw.names tks (by rw [hg1]; exact hgn) (fun tk ht => (hg2 tk ht).1)
                have hfb : ∀ b ∈ List.flatten fps, ∃ tk ∈ c.T, tk.nm ∈ gs ∧ b ∈ blocks tk := fun b hb => by
                  rw [hg3] at hb
                  obtain ⟨tk, k1, k2⟩ := List.mem_flatMap.1 hb
                  exact ⟨tk, (hg2 tk k1).1, by rw [← hg1]; exact List.mem_map.2 ⟨tk, k1, rfl⟩, k2⟩
                have hflt : ∀ b ∈ List.flatten fps, b < c.w.heap.size := fun b hb => by
                  obtain ⟨tk, k1, _, k3⟩ := hfb b hb
                  exact (hw.bound tk k1 b k3).2
                unfold Runs
                have hrun : (execOp ρ o).run P c.w = .ok (.enter f (args.map ρ)) c.w := by
                  have hb : ¬ fn.body = none := by
                    intro hbb
                    simp [hbb] at hbody
                  have hfv := hop (.func f) (by simp [ho, Op.operands, Call.operands])
                  have hfv : ρ (.func f) = .func (.func f) #[] #[] := hfv
                  unfold execOp
                  simp [ho, resolve, Deferred.ofValue, invoke, callFunc, hfv, hfn, hb, hname]
                rw [hrun]
                have hcall := hK c.w as (args.toList.map ρ) fps cs hres hfnd hflt hF
                have hargsEq : (args.toList.map ρ).toArray = args.map ρ := Array.ext' (by simp)
                rw [hargsEq] at hcall
                refine hcall.mono fun e w' ⟨rs, he, hrl, hkept, hresv⟩ => ⟨_, he, ?_⟩
                obtain ⟨fp, N, hnd, hbd, hN⟩ := ResV.bind nm0 hfit hresv
                have hother : ∀ tk ∈ c.T, tk.nm ∉ gs → ∀ b ∈ blocks tk, b ∉ List.flatten fps := fun tk ht hn b hb hb2 => by
                  obtain ⟨t2, k1, k2, k3⟩ := hfb b hb2
                  exact disjoint_toks hw ht k1 (fun e => hn (e ▸ k2)) hb k3
                have hheap : ∀ b, b < c.w.heap.size → b ∉ List.flatten fps → w'.heap[b]? = c.w.heap[b]? := fun b h1 h2 => hkept.block b (by
                  rintro (h3 | h3)
                  · omega
                  · exact h2 h3)
                have hgT : ∀ n ∈ gs, ∃ tk ∈ c.T, tk.nm = n := fun n hn => by
                  rw [← hg1] at hn
                  obtain ⟨tk, k1, k2⟩ := List.mem_map.1 hn
                  exact ⟨tk, (hg2 tk k1).1, k2⟩
                have hgfp : ∀ tk ∈ c.T, tk.nm ∈ gs → tk.fp = [] ∧ (∃ s, tk.c = .inl s) ∧ ∀ b ∈ blocks tk, b ∈ List.flatten fps := fun tk ht hn => by
                  rw [← hg1] at hn
                  obtain ⟨t2, k1, k2⟩ := List.mem_map.1 hn
                  have := uniq_tok hw (hg2 t2 k1).1 ht k2
                  subst this
                  refine ⟨(hg2 t2 k1).2.1, (hg2 t2 k1).2.2, fun b hb => ?_⟩
                  rw [hg3]
                  exact List.mem_flatMap.2 ⟨t2, k1, hb⟩
                -- the new table
                have hmem : ∀ tk, tk ∈ c.T.filter (fun tk => !gs.contains tk.nm) ↔ tk ∈ c.T ∧ tk.nm ∉ gs := fun tk => by simp [List.mem_filter]
                let upB : Tk cx.ty → Tk cx.ty := fun tk => match tk.c with
                  | .inl _ => tk
                  | .inr l => { tk with c := .inr (l.map (renL ps)) }
                have upnm : ∀ tk, (upB tk).nm = tk.nm := fun tk => by simp only [upB]; split <;> rfl
                have upu : ∀ tk, (upB tk).u = tk.u := fun tk => by simp only [upB]; split <;> rfl
                have upfp : ∀ tk, (upB tk).fp = tk.fp := fun tk => by simp only [upB]; split <;> rfl
                have upl : ∀ tk s, tk.c = .inl s → upB tk = tk := fun tk s e => by simp only [upB]; rw [e]
                have upc : ∀ tk, (upB tk).c = match tk.c with | .inl s => .inl s | .inr l => .inr (l.map (renL ps)) := fun tk => by
                  simp only [upB]
                  split
                  · rename_i s hs; rw [hs]
                  · rename_i l hs; rfl
                have upm : ∀ t2, t2 ∈ (c.T.filter (fun tk => !gs.contains tk.nm)).map upB → ∃ tk, tk ∈ c.T ∧ tk.nm ∉ gs ∧ t2 = upB tk := fun t2 h2 => by
                  obtain ⟨tk, k1, k2⟩ := List.mem_map.1 h2
                  exact ⟨tk, ((hmem tk).1 k1).1, ((hmem tk).1 k1).2, k2.symm⟩
                have upin : ∀ tk, tk ∈ c.T → tk.nm ∉ gs → upB tk ∈ (c.T.filter (fun tk => !gs.contains tk.nm)).map upB := fun tk h1 h2 => List.mem_map.2 ⟨tk, (hmem tk).2 ⟨h1, h2⟩, rfl⟩
                refine ⟨N ++ (c.T.filter (fun tk => !gs.contains tk.nm)).map upB, ?_⟩
                generalize hef : ({ v := packV ((bindAs nm0 cs).take W.nres), dead := gs, frz := [], live := gs ++ ps.map (·.1), read := [] } : Eff cx.ty) = ef
                have hefd : ef.dead = gs := by rw [← hef]
                have heff : ef.frz = [] := by rw [← hef]
                have hefv : ef.v = packV ((bindAs nm0 cs).take W.nres) := by rw [← hef]
                have hefl : ∀ n ∈ ef.live, n ∉ c.D ∧ n ∉ c.F := by rw [← hef]; exact hlive
                have hgs_nm : ∀ n ∈ gs, Nm c n := fun n hn => by
                  obtain ⟨tk, k1, k2⟩ := hgT n hn
                  exact .inl ⟨tk, k1, k2⟩
                have hblkN : ∀ tk ∈ N, ∀ b ∈ blocks tk, b ∈ fp := fun tk ht b hb => by
                  rw [← hN.fp]
                  exact List.mem_flatMap.2 ⟨tk, ht, hb⟩
                have hrd : ∀ b, Rd c b → Rd (c.nx ef w' (N ++ (c.T.filter (fun tk => !gs.contains tk.nm)).map upB)) b ∧ w'.heap[b]? = c.w.heap[b]? := by
                  intro b hb
                  obtain ⟨h1, h2, h3⟩ := hb
                  have hnf : b ∉ List.flatten fps := fun hb2 => by
                    obtain ⟨tk, k1, k2, k3⟩ := hfb b hb2
                    have := (hgfp tk k1 k2).1
                    simp only [blocks, this, List.append_nil] at k3
                    exact h3 tk k1 k3
                  refine ⟨⟨Nat.lt_of_lt_of_le h1 hkept.size, h2, fun tk ht hv => ?_⟩, hheap b h1 hnf⟩
                  rcases List.mem_append.1 ht with ht | ht
                  · have := (hbd b (hblkN tk ht b (List.mem_append.2 (.inl hv)))).1
                    rcases this with h4 | h4
                    · omega
                    · exact hnf h4
                  · obtain ⟨t2, q1, q2, rfl⟩ := upm tk ht
                    rw [upu] at hv
                    exact h3 t2 q1 hv
                have hnewD : ∀ n, nm0 ≤ n ∧ n < nm0 + 64 → n ∉ (c.nx ef w' (N ++ (c.T.filter (fun tk => !gs.contains tk.nm)).map upB)).D ∧ n ∉ (c.nx ef w' (N ++ (c.T.filter (fun tk => !gs.contains tk.nm)).map upB)).F := fun n hn => by
                  refine ⟨fun hd => ?_, fun hd => ?_⟩
                  · rcases List.mem_append.1 hd with h1 | h1
                    · rw [hefd] at h1
                      exact hf n (hgs_nm n h1) hn
                    · exact hf n (.inr (.inl h1)) hn
                  · rcases List.mem_append.1 hd with h1 | h1
                    · rw [heff] at h1; simp at h1
                    · exact hf n (.inr (.inr h1)) hn
                have hsub : List.Sublist ((c.T.filter (fun tk => !gs.contains tk.nm)).flatMap fun tk => vb tk.u ++ tk.fp) (c.T.flatMap fun tk => vb tk.u ++ tk.fp) := by
                  have : ∀ T : List (Tk cx.ty), List.Sublist ((T.filter (fun tk => !gs.contains tk.nm)).flatMap fun tk => vb tk.u ++ tk.fp) (T.flatMap fun tk => vb tk.u ++ tk.fp) := by
                    intro T
                    induction T with
                    | nil => exact List.Sublist.refl _
                    | cons x r ih =>
                      rw [List.filter_cons]
                      split
                      · rw [List.flatMap_cons, List.flatMap_cons]; exact (List.Sublist.refl _).append ih
                      · rw [List.flatMap_cons]; exact ih.trans (List.sublist_append_right _ _)
                  exact this _
                have hNrep := hN.rep (c.nx ef w' (N ++ (c.T.filter (fun tk => !gs.contains tk.nm)).map upB)) rfl (fun tk ht => ⟨List.mem_append.2 (.inl ht), (hnewD tk.nm (hN.nm tk ht)).1, (hnewD tk.nm (hN.nm tk ht)).2⟩) (fun b hb => by
                  rcases hb with hb | ⟨h1, h2, h3⟩
                  · exact hb.elim
                  · refine ⟨h2, .inr ?_, fun tk ht hv => ?_⟩
                    · rcases h1 with h1 | h1
                      · exact hw.size b h1
                      · obtain ⟨tk, k1, _, k3⟩ := hfb b h1
                        exact (hw.bound tk k1 b k3).1
                    · rcases List.mem_append.1 ht with ht | ht
                      · exact h3 (hblkN tk ht b (List.mem_append.2 (.inl hv)))
                      · obtain ⟨tk, q1, q2, rfl⟩ := upm tk ht
                        rw [upu] at hv
                        rcases h1 with h1 | h1
                        · have := (hw.bound tk q1 b (List.mem_append.2 (.inl hv))).2
                          omega
                        · exact hother tk q1 q2 b (List.mem_append.2 (.inl hv)) h1)
                obtain ⟨us', hus', hreps⟩ := hNrep
                have hus : us' = rs ++ (args.toList.map ρ).take W.n := by
                  simp only [Value.tuple.injEq] at hus'
                  have := congrArg Array.toList hus'
                  simpa using this.symm
                subst hus
                have hren : Ren cx c (c.nx ef w' (N ++ (c.T.filter (fun tk => !gs.contains tk.nm)).map upB)) ef.dead ps := by
                  refine ⟨hrd, fun n => ?_, fun n => ?_, fun tk ht hn s hs => ?_, fun tk ht l hl => ?_, ?_, ?_⟩
                  · show n ∈ ef.dead ++ c.D ↔ _
                    exact List.mem_append
                  · show n ∈ ef.frz ++ c.F ↔ _
                    rw [heff]; simp
                  · have := upin tk ht (by rw [← hefd]; exact hn)
                    rw [upl tk s hs] at this
                    exact List.mem_append.2 (.inr this)
                  · have hn : tk.nm ∉ gs := fun hd => by
                      obtain ⟨s, hs⟩ := (hgfp tk ht hd).2.1
                      rw [hl] at hs
                      cases hs
                    refine ⟨upB tk, List.mem_append.2 (.inr (upin tk ht hn)), upnm tk, upu tk, ?_⟩
                    rw [upc, hl]
                  · have hd := repAs_drop hreps W.nres
                    have e1 : (rs ++ (args.toList.map ρ).take W.n).drop W.nres = (args.toList.map ρ).take W.n := by rw [← hrl, List.drop_left]
                    rw [e1] at hd
                    have hpo := pairVs_ok (c := c) _ _ (args.toList.map ρ) _ ps hopj (by simp) hd (by
                      rw [← hd.1, List.length_take, List.take_eq_take_min]) hps
                    have hlv : ∀ p ∈ ps, p.1 ∉ c.D ∧ p.1 ∉ c.F := fun p hp => hlive p.1 (List.mem_append.2 (.inr (List.mem_map.2 ⟨p, hp, rfl⟩)))
                    intro p hp tk ht hn
                    obtain ⟨u, s, a1, a2, a3, a4, a5⟩ := hpo p hp
                    have hb0 := List.all_eq_true.1 hband p hp
                    simp only [Bool.and_eq_true, decide_eq_true_eq] at hb0
                    have hnD := hnewD p.2.nm hb0
                    refine ⟨a4, hnD.1, hnD.2, ?_⟩
                    unfold RepLS at a3 a5
                    have hl := hlv p hp
                    simp only [a1, a2, if_true, hl.1, hl.2, if_false] at a3
                    obtain ⟨_, tk1, b1, b2, _, b4⟩ := a3
                    have := uniq_tok hw b1 ht (b2.trans hn.symm)
                    subst this
                    simp only [a4, if_true, hnD.1, hnD.2, if_false] at a5
                    obtain ⟨_, tk2, d1, d2, d3, d4⟩ := a5
                    exact ⟨tk2, d1, d2, d3, d4.trans b4.symm⟩
                  · exact fun p hp => hlive p.1 (List.mem_append.2 (.inr (List.mem_map.2 ⟨p, hp, rfl⟩)))
                refine ⟨⟨?_, ?_, ?_, ?_, hw.start, ?_, fun b hb => hw.size b (Nat.le_trans hkept.size hb)⟩, hren, ?_, ⟨hkept.os, hkept.tape, hkept.output, hkept.size, fun b hb => hkept.block b (fun h1 => hb ?_)⟩, ?_⟩
                · show ((N ++ _).map (·.nm)).Nodup
                  rw [List.map_append, List.nodup_append]
                  have e0 : ((c.T.filter (fun tk => !gs.contains tk.nm)).map upB).map (·.nm) = (c.T.filter (fun tk => !gs.contains tk.nm)).map (·.nm) := by
                    rw [List.map_map]
                    exact List.map_congr_left (fun tk _ => upnm tk)
                  rw [e0]
                  refine ⟨hN.nd, (List.Sublist.map _ List.filter_sublist).nodup hw.names, fun a ha b hb' he => ?_⟩
                  obtain ⟨t1, h1, rfl⟩ := List.mem_map.1 ha
                  obtain ⟨t2, h2, rfl⟩ := List.mem_map.1 hb'
                  exact hf t2.nm (.inl ⟨t2, ((hmem t2).1 h2).1, rfl⟩) (by have := hN.nm t1 h1; omega)
                · show ((N ++ _).flatMap _).Nodup
                  have e0 : (((c.T.filter (fun tk => !gs.contains tk.nm)).map upB).flatMap fun tk => vb tk.u ++ tk.fp) = ((c.T.filter (fun tk => !gs.contains tk.nm)).flatMap fun tk => vb tk.u ++ tk.fp) := by
                    rw [List.flatMap_map]
                    congr 1
                    exact funext fun tk => by rw [upu, upfp]
                  rw [List.flatMap_append, List.nodup_append, e0]
                  refine ⟨by rw [hN.fp]; exact hnd, hsub.nodup hw.nodup, fun a ha b hb' he => ?_⟩
                  subst he
                  rw [hN.fp] at ha
                  obtain ⟨t2, h2, h2'⟩ := List.mem_flatMap.1 hb'
                  obtain ⟨q1, q2⟩ := (hmem t2).1 h2
                  rcases (hbd a ha).1 with h1 | h1
                  · have := (hw.bound t2 q1 a h2').2
                    omega
                  · exact hother t2 q1 q2 a h2' h1
                · intro tk ht b hb'
                  rcases List.mem_append.1 ht with ht | ht
                  · have := hbd b (hblkN tk ht b hb')
                    refine ⟨?_, this.2⟩
                    rcases this.1 with h1 | h1
                    · exact hw.size b h1
                    · obtain ⟨t2, k1, _, k3⟩ := hfb b h1
                      exact (hw.bound t2 k1 b k3).1
                  · obtain ⟨t2, q1, q2, rfl⟩ := upm tk ht
                    rw [upu, upfp] at hb'
                    have := hw.bound t2 q1 b hb'
                    exact ⟨this.1, Nat.lt_of_lt_of_le this.2 hkept.size⟩
                · intro tk ht
                  rcases List.mem_append.1 ht with ht | ht
                  · obtain ⟨s, h1, h2, h3, n, h4⟩ := hN.tok tk ht
                    unfold TokRep
                    rw [h1]
                    simp only [h2, if_true]
                    exact ⟨h3, n, h4⟩
                  · obtain ⟨t2, q1, q2, rfl⟩ := upm tk ht
                    exact TokRep.ren hren (upu t2) (upfp t2) (upc t2) (fun b hb' => hheap b (hw.bound t2 q1 b hb').2 (hother t2 q1 q2 b hb')) (hw.rep t2 q1)
                · intro tk ht
                  rcases List.mem_append.1 ht with ht | ht
                  · exact hnewD tk.nm (hN.nm tk ht)
                  · obtain ⟨t2, q1, q2, rfl⟩ := upm tk ht
                    rw [upnm]
                    refine ⟨fun hd => ?_, fun hd => ?_⟩
                    · rcases List.mem_append.1 hd with h1 | h1
                      · rw [hefd] at h1; exact q2 h1
                      · exact (hw.live t2 q1).1 h1
                    · rcases List.mem_append.1 hd with h1 | h1
                      · rw [heff] at h1; simp at h1
                      · exact (hw.live t2 q1).2 h1
                · rw [hefv]
                  have ht := repAs_take hreps W.nres
                  have : (rs ++ (args.toList.map ρ).take W.n).take W.nres = rs := by rw [← hrl, List.take_left]
                  rw [this] at ht
                  exact packV_rep ht
                · rcases h1 with h1 | h1
                  · exact hw.size b h1
                  · obtain ⟨t2, k1, _, k3⟩ := hfb b h1
                    exact (hw.bound t2 k1 b k3).1
                · intro n hn
                  rcases hn with ⟨tk, ht, rfl⟩ | hn | hn
                  · rcases List.mem_append.1 ht with ht | ht
                    · exact .inr (hN.nm tk ht)
                    · obtain ⟨t2, q1, q2, rfl⟩ := upm tk ht
                      rw [upnm]
                      exact .inl (.inl ⟨t2, q1, rfl⟩)
                  · rcases List.mem_append.1 hn with h1 | h1
                    · rw [hefd] at h1
                      exact .inl (hgs_nm n h1)
                    · exact .inl (.inr (.inl h1))
                  · rcases List.mem_append.1 hn with h1 | h1
                    · rw [heff] at h1; simp at h1
                    · exact .inl (.inr (.inr h1))
              · simp at h
            · simp at h
          · simp at h
      · simp at h
    · simp at h
  · simp at h

/-- The state behind such a call. -/
def St.appW {ty : Nat → Type} (st : St ty) (d : Option Tmp) (ef : Eff ty) (ps : List (Nat × SlD ty)) : St ty :=
  { slots := setO (st.slots.map (renV ps)) d ef.v, D := ef.dead ++ st.D, F := ef.frz ++ st.F, ctr := st.ctr + 1, lo := st.lo }

theorem RS.appW {c : Ct cx.ty} {st : St cx.ty} {a : Act} (h : RS cx c st a) {d : Option Tmp} (hd : smallO d = true) (hlo : loO st.lo d = true) {ef : Eff cx.ty} {u : Value} {w' : World} {T' : List (Tk cx.ty)} {ps : List (Nat × SlD cx.ty)} (hg : GoodW cx c ef ps (nmOf st.ctr d) u w' T') : RS cx (c.nx ef w' T') (st.appW d ef ps) (a.put d u) := by
  have hs : a.tmps.size = (st.slots.map (renV ps)).length := by rw [List.length_map]; exact h.size
  refine ⟨hg.wf, put_size hs d ef.v u, ?_, by rw [put_defers]; exact h.defers, fun n => ?_, fun n => ?_, fun n hn => ?_, fun p u' hp => ⟨(h.kp p u' hp).1, (put_lo hlo u (h.kp p u' hp).1).trans (h.kp p u' hp).2⟩⟩
  · refine put_rep hs (fun t => ?_) d hg.rep
    have : (st.slots.map (renV ps)).getD t junk = renV ps (st.slots.getD t junk) := by
      by_cases hlt : t < st.slots.length
      · simp [List.getD, hlt]
      · simp [List.getD, List.getElem?_eq_none (Nat.le_of_not_lt hlt), junk, renV, renA, renL]
    rw [this]
    exact renV_rep hg.ren (h.rep t)
  · simp [Ct.nx, St.appW, h.dead n]
  · simp [Ct.nx, St.appW, h.frz n]
  · rcases hg.names n hn with hn | hn
    · exact Nat.lt_of_lt_of_le (h.names n hn) (Nat.mul_le_mul_right _ (Nat.le_succ _))
    · exact band_lt hd hn

abbrev Kwt (cx : Cx) := FuncId → Option (WFn cx)

def wcallOf (Kw : Kwt cx) (o : Oper) : Option (FuncId × WFn cx × Call) :=
  if o.guard.isNone then
    match o.op with
    | .call cl => match cl.callee with
      | .value (.func f) => match Kw f with
        | some W => some (f, W, cl)
        | none => none
      | _ => none
    | _ => none
  else none

theorem wcallOf_eq {Kw : Kwt cx} {o : Oper} {f : FuncId} {W : WFn cx} {cl : Call} (h : wcallOf Kw o = some (f, W, cl)) : o.guard = none ∧ Kw f = some W ∧ o.op = .call { callee := .value (.func f), args := cl.args, argTypes := cl.argTypes } := by
  unfold wcallOf at h
  split at h
  · rename_i hg
    split at h
    · rename_i cl' ho
      split at h
      · rename_i f' hcal
        split at h
        · rename_i W' hk
          simp only [Option.some.injEq, Prod.mk.injEq] at h
          obtain ⟨rfl, rfl, rfl⟩ := h
          obtain ⟨cal, args, ts⟩ := cl'
          simp only at hcal
          subst hcal
          exact ⟨by simpa using hg, hk, ho⟩
        · simp at h
      · simp at h
    · simp at h
  · simp at h

end
end Go.VM

namespace Go.VM
open Go.RowKit
section
variable {cx : Cx} {P : Program}

/-! ### A slice written out whose elements are rows: the rows are read alone from there on -/
theorem Pres.trans {a b c : Ct cx.ty} (h : Pres cx a b) (k : Pres cx b c) : Pres cx a c := by
  refine ⟨fun x hx => ⟨(k.rd x (h.rd x hx).1).1, (k.rd x (h.rd x hx).1).2.trans (h.rd x hx).2⟩, fun n hn => k.dead n (h.dead n hn), fun n hn => k.frz n (h.frz n hn), fun tk ht hD hF => ?_, fun tk ht l hl => k.box tk (h.box tk ht l hl) l hl, fun tk ht s hs hD hF => ?_⟩
  · exact k.tok tk (h.tok tk ht (fun hx => hD (k.dead _ hx)) (fun hx => hF (k.frz _ hx))) hD hF
  · by_cases hb : tk.nm ∈ b.F
    · obtain ⟨n, hn⟩ := h.froze tk ht s hs (fun hx => hD (k.dead _ hx)) hb
      exact ⟨n, RepL.pres cx k hn⟩
    · exact k.froze tk (h.tok tk ht (fun hx => hD (k.dead _ hx)) hb) s hs hD hF

theorem RepL_up {w : World} {S : Nat → Prop} (d : Nat) : ∀ {n : Nat} {l : L cx.ty} {u : Value}, RepL cx w S n l u → RepL cx w S (n + d) l u := by
  induction d with
  | zero => intro n l u h; exact h
  | succ d ih => intro n l u h; exact RepL_succ cx _ _ _ (ih h)

theorem rep_uni {w : World} {S : Nat → Prop} : ∀ (l : List (L cx.ty)) (us : List Value), (∀ (j : Nat) a u, l[j]? = some a → us[j]? = some u → ∃ n, RepL cx w S n a u) → ∃ n, ∀ (j : Nat) a u, l[j]? = some a → us[j]? = some u → RepL cx w S n a u
  | [], _, _ => ⟨0, fun j a u h => by simp at h⟩
  | _ :: _, [], _ => ⟨0, fun j a u _ h => by simp at h⟩
  | a :: r, u :: us, h => by
    obtain ⟨n, hn⟩ := h 0 a u rfl rfl
    obtain ⟨m, hm⟩ := rep_uni r us (fun j b v e1 e2 => h (j + 1) b v (by simpa using e1) (by simpa using e2))
    refine ⟨n + m, fun j b v e1 e2 => ?_⟩
    cases j with
    | zero =>
      simp only [List.getElem?_cons_zero, Option.some.injEq] at e1 e2
      subst e1; subst e2
      exact RepL_up m hn
    | succ j =>
      rw [Nat.add_comm]
      exact RepL_up n (hm j b v (by simpa using e1) (by simpa using e2))

def nmsL {ty : Nat → Type} : L ty → List Nat
  | some (.inr s) => rdn s
  | _ => []

def frL {ty : Nat → Type} (mk : Option Nat) (l : L ty) : L ty :=
  match l with
  | some (.inl v) => match v, mk with
    | .slice none 0 0, some e => ls (ro e [])
    | v, _ => lv v
  | some (.inr s) => ls (ro s.e s.xs)
  | none => none

def frLs {ty : Nat → Type} : List (Option Nat) → List (L ty) → List (L ty)
  | _, [] => []
  | mks, l :: r => frL (mks.headD none) l :: frLs mks.tail r

theorem frLs_length {ty : Nat → Type} : ∀ (mks : List (Option Nat)) (l : List (L ty)), (frLs mks l).length = l.length
  | _, [] => rfl
  | mks, l :: r => by simp [frLs, frLs_length mks.tail r]

theorem frLs_get {ty : Nat → Type} : ∀ (mks : List (Option Nat)) (l : List (L ty)) (j : Nat) (a : L ty), (frLs mks l)[j]? = some a → ∃ b mk, l[j]? = some b ∧ a = frL mk b
  | _, [], j, a, h => by simp [frLs] at h
  | mks, l :: r, 0, a, h => by
    simp only [frLs, List.getElem?_cons_zero, Option.some.injEq] at h
    exact ⟨l, _, rfl, h.symm⟩
  | mks, l :: r, j + 1, a, h => by
    obtain ⟨b, mk, h1, h2⟩ := frLs_get mks.tail r j a (by simpa [frLs] using h)
    exact ⟨b, mk, by simpa using h1, h2⟩

theorem repL_flip {w : World} {S : Nat → Prop} {n : Nat} {s : SlD cx.ty} {u : Value} (h : RepL cx w S n (some (.inr s)) u) : RepL cx w S n (some (.inr (ro s.e s.xs))) u := by
  cases n with
  | zero => simp [RepL] at h
  | succ n => exact h

theorem frL_rep (ok : cx.Ok) {c c1 : Ct cx.ty} (hw : Wf cx c) (hw1 : c1.w = c.w) (hp : Pres cx c c1) {fn : List Nat} (hfz : ∀ tk ∈ c.T, tk.nm ∈ fn → ∀ b ∈ vb tk.u, Rd c1 b) {l : L cx.ty} {mk : Option Nat} {u : Value} (h : RepLS cx c l u) (hd : ∀ n ∈ nmsL l, n ∉ c.D ∧ n ∈ fn) :
    ∃ n, RepL cx c1.w (Rd c1) n (frL mk l) u := by
  match l, h, hd with
  | none, _, _ => exact ⟨0, by simp [frL, RepL]⟩
  | some (.inl v), h, _ =>
    have h : u = v := h
    subst h
    unfold frL
    split
    · rename_i l' v' hv
      simp only [Option.some.injEq, Sum.inl.injEq] at hv
      subst hv
      split
      · exact ⟨1, none, 0, rfl, Nat.le_refl _, .inl rfl⟩
      · exact ⟨0, by simp [lv, RepL]⟩
    · rename_i hv; simp at hv
    · rename_i hv; simp at hv
  | some (.inr s), h, hd =>
    unfold RepLS at h
    by_cases h1 : s.own = 1
    · have hn := hd s.nm (by simp [nmsL, rdn, h1])
      simp only [h1, if_true, hn.1, if_false] at h
      obtain ⟨_, h⟩ := h
      by_cases h3 : s.nm ∈ c.F
      · simp only [h3, if_true] at h
        obtain ⟨n, h⟩ := h
        exact ⟨n, repL_flip (RepL.pres cx hp h)⟩
      · simp only [h3, if_false] at h
        obtain ⟨tk, ht, hnm, hc, hu⟩ := h
        obtain ⟨n, h⟩ := tok_any ok hw ht hc (S := Rd c1) (fun b hb => (hp.rd b hb).1) (hfz tk ht (by rw [hnm]; exact hn.2))
        rw [hu] at h
        refine ⟨n, ?_⟩
        rw [hw1]
        exact repL_flip h
    · simp only [h1, if_false] at h
      obtain ⟨n, h⟩ := h
      exact ⟨n, repL_flip (RepL.pres cx hp h)⟩

def mksF (P : Program) (e len : Nat) : List (Option Nat) := List.flatten (List.replicate len ((leafTypes P 8 e).map (sliceElem P)))

def evBuildRows {β : Type} (P : Program) (cx : Cx) (slots : List (V cx.ty)) (t : TypeId) (len : Nat) (parts : List (Nat × Operand)) (nm0 : Nat) (k : Eff cx.ty → Option β) : Option β :=
  match sliceElem P t with
  | some e => if elemOk P cx e && decide (len * cx.size e ≤ 1000000) && decide (len ≤ 1000000) then
      match P.info? e with
      | some i => match i.zero with
        | some z => match fillA (fun j => some (j * cx.size e, cx.size e)) (zeroL (if len * cx.size e = 0 then #[] else z.cells) (len * cx.size e)) (parts.map fun (j, x) => (j, getV slots x)) with
          | some cells => match decN cx e len (frLs (mksF P e len) cells) with
            | some xs => k { v := vs { own := 1, nm := nm0, e := e, o := false, xs := xs }, dead := [], frz := cells.flatMap nmsL, live := [], read := cells.flatMap nmsL }
            | none => none
          | none => none
        | none => none
      | none => none
    else none
  | none => none

theorem evBuildRows_ok (ok : cx.Ok) {β : Type} {o : Oper} {slots : List (V cx.ty)} {nm0 : Nat} {t : TypeId} {len : Nat} {parts : Array (Nat × Operand)} (ho : o.op = .buildSlice t len parts) {k : Eff cx.ty → Option β} {r : β}
    (h : evBuildRows P cx slots t len parts.toList nm0 k = some r) : ∃ ef, k ef = some r ∧ EffOK P cx o slots nm0 ef := by
  unfold evBuildRows at h
  split at h
  · rename_i e he
    split at h
    · rename_i hc
      simp only [Bool.and_eq_true, decide_eq_true_eq] at hc
      obtain ⟨⟨hel, hlen⟩, hlen2⟩ := hc
      obtain ⟨⟨d, hd⟩, hcs⟩ := elemOk_spec hel
      split at h
      · rename_i i hi
        split at h
        · rename_i z hz
          split at h
          · rename_i cells hcells
            split at h
            · rename_i xs hxs
              refine ⟨_, h, ⟨fun c ρ hw hop _ hrd hf => ?_⟩⟩
              obtain ⟨us', h1, h2⟩ := fillA_rep (c := c) (parts.toList.map fun p => (p.1, getV slots p.2)) (parts.toList.map fun p => (p.1, ρ p.2)) (zeroL (if len * cx.size e = 0 then #[] else z.cells) (len * cx.size e)) ((Array.range (len * cx.size e)).map ((if len * cx.size e = 0 then #[] else z.cells)[· % (if len * cx.size e = 0 then #[] else z.cells).size]!)) cells (lv_rep _) (by simp) (fun j p q e1 e2 => by
                simp only [List.getElem?_map] at e1 e2
                cases hx : parts.toList[j]? with
                | none => simp [hx] at e1
                | some x =>
                  simp only [hx, Option.map_some, Option.some.injEq] at e1 e2
                  subst e1; subst e2
                  refine ⟨rfl, hop x.2 ?_⟩
                  simp only [ho, Op.operands, List.mem_toArray, List.mem_map]
                  exact ⟨x, List.mem_of_getElem? hx, rfl⟩) hcells
              obtain ⟨hxl, hxe⟩ := decN_spec ok false len (frLs (mksF P e len) cells) xs hxs
              have hflen := flat_len (cx.enc e false) (cx.size e) (fun x => ok.len e false x) xs
              have hclen : cells.length = len * cx.size e := by
                have := congrArg List.length hxe
                rw [List.length_map, frLs_length, hflen, hxl] at this
                exact this
              have hsize : us'.size = len * cx.size e := by
                have := h2.1
                simp at this
                omega
              have hrun : (execOp ρ o).run P c.w = .ok (.value (.slice (some ⟨c.w.heap.size, 0, none⟩) len len)) (c.w.alloc (.cells us' e)) := by
                have hso : (sizeOf e).run P c.w = .ok (cx.size e) c.w := by rw [run_sizeOf' hd, hcs]
                have hn24 : ¬ (2 ^ 24 < len * cx.size e) := by omega
                have h1' : Instr.fill (fun j => some (j * cx.size e, cx.size e)) ((Array.range (len * cx.size e)).map ((if len * cx.size e = 0 then #[] else z.cells)[· % (if len * cx.size e = 0 then #[] else z.cells).size]!)) (parts.map fun p => (p.1, ρ p.2)).toList = some us' := by simpa using h1
                have hz' : (zeroValue e).run P c.w = .ok z c.w := by simp [zeroValue, typeInfo, hi, hz]
                have hbuild : (Instr.buildSlice t len (parts.map fun p => (p.1, ρ p.2))).run P c.w = .ok (.slice (some ⟨c.w.heap.size, 0, none⟩) len len) (c.w.alloc (.cells us' e)) := by
                  unfold Instr.buildSlice
                  rw [Sem.run_bind, run_underlying (sliceElem_eq he), Result.andThen_ok]
                  dsimp only
                  rw [Sem.run_bind, hso, Result.andThen_ok]
                  by_cases hz0 : len * cx.size e = 0
                  · simp only [hz0, if_true] at h1' ⊢
                    simp at h1'
                    simp [h1', newRow]
                  · simp only [hz0, if_false] at h1' ⊢
                    simp at h1'
                    simp [hn24, hz', h1', newRow]
                unfold execOp
                simp only [ho, Sem.run_bind]
                rw [hbuild]
                rfl
              unfold Runs
              rw [hrun]
              generalize hfn : cells.flatMap nmsL = fn at hrd ⊢
              have hcn : ∀ (j : Nat) l, cells[j]? = some l → ∀ n ∈ nmsL l, n ∉ c.D ∧ n ∈ fn := fun j l hj n hn => by
                have : n ∈ fn := by rw [← hfn]; exact List.mem_flatMap.2 ⟨l, List.mem_of_getElem? hj, hn⟩
                exact ⟨hrd n this, this⟩
              have hsrc : ∀ n ∈ fn, n ∈ c.F ∨ ∃ tk ∈ c.T, tk.nm = n ∧ ∃ s, tk.c = .inl s := fun n hn => by
                rw [← hfn] at hn
                obtain ⟨l, hl, hnl⟩ := List.mem_flatMap.1 hn
                obtain ⟨j, hj⟩ := List.getElem?_of_mem hl
                have hju : j < us'.toList.length := by rw [h2.1]; exact (List.getElem?_eq_some_iff.1 hj).1
                have hr := h2.2 j l _ hj (List.getElem?_eq_getElem hju)
                match l, hnl, hr with
                | some (.inr s), hnl, hr =>
                  have hs1 : s.own = 1 := by
                    by_cases hx : s.own = 1
                    · exact hx
                    · simp [nmsL, rdn, hx] at hnl
                  have hsn : n = s.nm := by simpa [nmsL, rdn, hs1] using hnl
                  subst hsn
                  have hD : s.nm ∉ c.D := (hcn j _ hj s.nm (by simp [nmsL, rdn, hs1])).1
                  unfold RepLS at hr
                  simp only [hs1, if_true, hD, if_false] at hr
                  by_cases h3 : s.nm ∈ c.F
                  · exact .inl h3
                  · simp only [h3, if_false] at hr
                    obtain ⟨_, tk, k1, k2, k3, _⟩ := hr
                    exact .inr ⟨tk, k1, k2, s, k3⟩
              have hfnm : ∀ n ∈ fn, Nm c n := fun n hn => by
                rcases hsrc n hn with h3 | ⟨tk, k1, k2, _⟩
                · exact .inr (.inr h3)
                · exact .inl ⟨tk, k1, k2⟩
              have hsl : ∀ tk ∈ c.T, tk.nm ∈ fn → ∃ s, tk.c = .inl s := fun tk ht hn => by
                rcases hsrc _ hn with h3 | ⟨t2, k1, k2, s, k3⟩
                · exact absurd h3 (hw.live tk ht).2
                · have := uniq_tok hw k1 ht k2
                  subst this
                  exact ⟨s, k3⟩
              -- first the rows are frozen
              have hg1 := good_frz (nm0 := nm0) (r := []) (v := junk) (u := undef) ok hw hfnm hsl (fun _ _ _ _ => trivial)
              generalize hc1 : c.nx { v := (junk : V cx.ty), dead := [], frz := fn, live := [], read := [] } c.w (c.T.filter (fun tk => !fn.contains tk.nm)) = c1 at hg1
              have hwf1 : Wf cx c1 := by rw [← hc1]; exact hg1.wf
              have hp1 : Pres cx c c1 := by rw [← hc1]; exact hg1.pres
              have hw1 : c1.w = c.w := by rw [← hc1]; rfl
              have hfz : ∀ tk ∈ c.T, tk.nm ∈ fn → ∀ b ∈ vb tk.u, Rd c1 b := by
                intro tk ht hn b hb
                have hbd := hw.bound tk ht b (List.mem_append.2 (.inl hb))
                rw [← hc1]
                refine ⟨hbd.2, .inr hbd.1, fun t2 ht2 hb2 => ?_⟩
                obtain ⟨q1, q2⟩ := List.mem_filter.1 ht2
                exact disjoint_toks hw ht q1 (fun e => by simp [← e, hn] at q2) (List.mem_append.2 (.inl hb)) (List.mem_append.2 (.inl hb2))
              have hnm1 : ∀ n, Nm c1 n → Nm c n := fun n hn => by
                rw [← hc1] at hn
                rcases hn with ⟨tk, ht, rfl⟩ | hn | hn
                · exact .inl ⟨tk, (List.mem_filter.1 ht).1, rfl⟩
                · exact .inr (.inl (by simpa [Ct.nx] using hn))
                · rcases List.mem_append.1 hn with hn | hn
                  · exact hfnm n hn
                  · exact .inr (.inr hn)
              have hf1 : ∀ n, Nm c1 n → ¬ (nm0 ≤ n ∧ n < nm0 + 64) := fun n hn => hf n (hnm1 n hn)
              -- then the new row
              have hb := below_alloc c1.w (.cells us' e)
              generalize hu' : Value.slice (some ⟨c.w.heap.size, 0, none⟩) len len = u'
              have hvb : vb u' = [c1.w.heap.size] := by rw [← hu', hw1]; rfl
              let s' : SlD cx.ty := { own := 1, nm := nm0, e := e, o := false, xs := xs }
              let tk' : Tk cx.ty := { nm := nm0, u := u', fp := [], c := .inl s' }
              have hbd : ∀ tk ∈ [tk'], ∀ b ∈ vb tk.u ++ tk.fp, c1.w.heap.size ≤ b ∧ b < (c1.w.alloc (.cells us' e)).heap.size := by
                intro tk ht b hb'
                simp only [List.mem_singleton] at ht
                subst ht
                simp only [tk', hvb, List.append_nil, List.mem_singleton] at hb'
                subst hb'
                simp
              have hg2 : Good cx c1 (purR (vs s') []) nm0 u' (c1.w.alloc (.cells us' e)) ([tk'] ++ c1.T) := by
                have hpa := pres_add (v := vs s') (r := []) hwf1 hb hbd
                refine good_add hwf1 hb hwf1.size (by simp [tk']) (by simp) (by simp [tk', hvb]) hbd hf1 (fun tk htk => ?_) ?_
                · simp only [List.mem_singleton] at htk
                  subst htk
                  have hrow : (c1.w.alloc (.cells us' e)).ownsRow 0 e (cx.size e) u' xs.length us'.toList := by
                    refine ⟨by rw [hxl]; simp [hsize], .inr ⟨c1.w.heap.size, len, us', by rw [← hu', hw1, hxl], Nat.zero_le _, heap_alloc_new c1.w _, by omega, by simp [maxLen]; omega, hsize, ?_⟩⟩
                    rw [hxl, List.take_of_length_le]
                    simp [hsize]
                  have hall : ∀ (j : Nat) a u, (xs.flatMap (cx.enc e false))[j]? = some a → us'.toList[j]? = some u → ∃ n, RepL cx (c1.w.alloc (.cells us' e)) (Rd (c1.nx (purR (vs s') []) (c1.w.alloc (.cells us' e)) ([tk'] ++ c1.T))) n a u := by
                    intro j a u g1 g2
                    rw [← hxe, List.getElem?_map] at g1
                    cases hfr : (frLs (mksF P e len) cells)[j]? with
                    | none => rw [hfr] at g1; simp at g1
                    | some b =>
                      rw [hfr] at g1
                      simp only [Option.map_some, Option.some.injEq] at g1
                      subst g1
                      obtain ⟨l0, mk, q1, rfl⟩ := frLs_get _ _ _ _ hfr
                      obtain ⟨n, hn⟩ := frL_rep ok hw hw1 hp1 hfz (mk := mk) (h2.2 j l0 u q1 g2) (hcn j l0 q1)
                      exact ⟨n, (RepL_weak cx false).2 (RepL.pres cx hpa hn)⟩
                  obtain ⟨n, hn⟩ := rep_uni _ _ hall
                  unfold TokRep
                  simp only [tk', s']
                  refine ⟨by rw [← hu']; rfl, ?_⟩
                  rw [if_neg (by decide)]
                  exact ⟨trivial, us'.toList, n, hrow, by rw [hflen, hxl]; simp [hsize], hn⟩
                · refine repLS_tok (s := s') rfl ?_ ?_ (List.mem_append.2 (.inl (List.mem_singleton.2 rfl))) rfl rfl rfl ⟨_, _, _, hu'.symm⟩
                  · exact fun hd => hf1 _ (.inr (.inl hd)) ⟨Nat.le_refl _, by show nm0 < nm0 + 64; omega⟩
                  · exact fun hd => hf1 _ (.inr (.inr hd)) ⟨Nat.le_refl _, by show nm0 < nm0 + 64; omega⟩
              refine ⟨[tk'] ++ c1.T, ?_⟩
              have hcc : c.nx { v := vs s', dead := [], frz := fn, live := [], read := fn } (c.w.alloc (.cells us' e)) ([tk'] ++ c1.T) = c1.nx (purR (vs s') []) (c1.w.alloc (.cells us' e)) ([tk'] ++ c1.T) := by
                rw [← hc1]; rfl
              refine ⟨?_, ?_, ?_, ?_, fun n hn => ?_⟩
              · rw [hcc]; exact hg2.wf
              · rw [hcc]; exact hp1.trans hg2.pres
              · rw [hcc]; exact hg2.rep
              · have := hg2.below
                rw [← hc1] at this
                exact this
              · rw [hcc] at hn
                rcases hg2.names n hn with h3 | h3
                · exact .inl (hnm1 n h3)
                · exact .inr h3
            · simp at h
          · simp at h
        · simp at h
      · simp at h
    · simp at h
  · simp at h

def evBuildAny {β : Type} (P : Program) (cx : Cx) (slots : List (V cx.ty)) (t : TypeId) (len : Nat) (parts : List (Nat × Operand)) (nm0 : Nat) (k : Eff cx.ty → Option β) : Option β :=
  match sliceElem P t with
  | some e => if cx.flat e then evBuildSlice P cx slots t len parts nm0 k else evBuildRows P cx slots t len parts nm0 k
  | none => none

theorem evBuildAny_ok (ok : cx.Ok) (hZ : cx.POk P) {β : Type} {o : Oper} {slots : List (V cx.ty)} {nm0 : Nat} {t : TypeId} {len : Nat} {parts : Array (Nat × Operand)} (ho : o.op = .buildSlice t len parts) {k : Eff cx.ty → Option β} {r : β}
    (h : evBuildAny P cx slots t len parts.toList nm0 k = some r) : ∃ ef, k ef = some r ∧ EffOK P cx o slots nm0 ef := by
  unfold evBuildAny at h
  split at h
  · split at h
    · exact evBuildSlice_ok ok hZ ho h
    · exact evBuildRows_ok ok ho h
  · simp at h

end
end Go.VM

namespace Go.VM
open Go.RowKit
section
variable {cx : Cx} {P : Program}

/-! ### Bytes as a string -/
def byteOf : Value → Int
  | .int _ n => n
  | _ => 0

def strV (vs : List Value) : ByteArray := (vs.map byteOf).foldl (fun r n => r.push (UInt8.ofNat n.toNat)) ByteArray.empty

def isU8 (P : Program) (e : TypeId) : Bool := match P.underlying e with
  | some (.int .u8) => true
  | _ => false

def isStr (P : Program) (t : TypeId) : Bool := match P.underlying t with
  | some .string => true
  | _ => false

theorem isU8_eq {e : TypeId} (h : isU8 P e = true) : P.underlying e = some (.int .u8) := by
  unfold isU8 at h
  split at h
  · assumption
  · simp at h

theorem isStr_eq {e : TypeId} (h : isStr P e = true) : P.underlying e = some .string := by
  unfold isStr at h
  split at h
  · assumption
  · simp at h

def evConv {β : Type} (P : Program) (cx : Cx) (o : Oper) (slots : List (V cx.ty)) (src dst : TypeId) (x : Operand) (k : Eff cx.ty → Option β) : Option β :=
  match getV slots x, sliceElem P src with
  | .inl (.inl (some (.inr s))), some e => if isU8 P e && isStr P dst && s.e == e && cx.dom e && cx.flat e then k (purR (vv (.string (strV (flatVals cx s.e s.xs)))) (rdn s)) else none
  | _, _ => evGen P o slots k

theorem evConv_ok (ok : cx.Ok) (hZ : cx.POk P) {β : Type} {o : Oper} {slots : List (V cx.ty)} {nm0 : Nat} {src dst : TypeId} {x : Operand} (ho : o.op = .convert src dst x) {k : Eff cx.ty → Option β} {r : β}
    (h : evConv P cx o slots src dst x k = some r) : ∃ ef, k ef = some r ∧ EffOK P cx o slots nm0 ef := by
  unfold evConv at h
  split at h
  · rename_i s e hx he
    split at h
    · rename_i hc
      simp only [Bool.and_eq_true, beq_iff_eq] at hc
      obtain ⟨⟨⟨⟨hu, hst⟩, rfl⟩, hdom⟩, hflat⟩ := hc
      have hu := isU8_eq hu
      have hst := isStr_eq hst
      refine ⟨_, h, effok_pur fun c ρ hw hop hrd => ?_⟩
      have hr := hop x (by simp [ho, Op.operands])
      rw [hx] at hr
      have hsz : cx.size s.e = 1 := by
        obtain ⟨n, hn⟩ := hZ.u8 s.e hdom hu true (cx.dflt s.e)
        rw [← ok.len s.e true (cx.dflt s.e), hn]
        rfl
      have hr : RepLS cx c (some (.inr s)) (ρ x) := hr
      obtain ⟨a, cap, hu2, hcells⟩ := rep_cells ok hw hflat (by omega) hr hrd
      have hmap : (((flatVals cx s.e s.xs).map byteOf).map (Value.int .u8)) = flatVals cx s.e s.xs := by
        rw [List.map_map]
        have hall : ∀ v ∈ flatVals cx s.e s.xs, (Value.int .u8 ∘ byteOf) v = v := by
          intro v hv
          unfold flatVals at hv
          obtain ⟨l, hl, hlv⟩ := List.mem_filterMap.1 hv
          obtain ⟨y, hy, hly⟩ := List.mem_flatMap.1 hl
          obtain ⟨n, hn⟩ := hZ.u8 s.e hdom hu true y
          rw [hn] at hly
          simp only [List.mem_singleton] at hly
          subst hly
          simp only [lv, leafVal, Option.some.injEq] at hlv
          subst hlv
          rfl
        exact (List.map_congr_left hall).trans (List.map_id _)
      refine ⟨.string (strV (flatVals cx s.e s.xs)), ?_, rfl⟩
      have hlen := flatVals_len ok hflat s.xs
      have hb : (Conv.bytesToString (.slice a s.xs.length cap)).run P c.w = .ok (.string (strV (flatVals cx s.e s.xs))) c.w := by
        cases a with
        | none =>
          rcases hcells with h0 | ⟨ad, had, _⟩
          · have : flatVals cx s.e s.xs = [] := List.eq_nil_of_length_eq_zero (by rw [hlen, h0]; simp)
            rw [this]
            simp [Conv.bytesToString, strV]
          · cases had
        | some ad =>
          have hload : (loadCells ad s.xs.length).run P c.w = .ok (((flatVals cx s.e s.xs).map byteOf).map (Value.int .u8)).toArray c.w := by
            rw [hmap]
            have := run_loadCells_list (P := P) c.w ad (flatVals cx s.e s.xs) (fun j v hj => by
              rcases hcells with h0 | ⟨ad2, had, hc2⟩
              · have : flatVals cx s.e s.xs = [] := List.eq_nil_of_length_eq_zero (by rw [hlen, h0]; simp)
                rw [this] at hj
                simp at hj
              · simp only [Option.some.injEq] at had
                subst had
                exact hc2 j v hj)
            rw [hlen, hsz, Nat.mul_one] at this
            exact this
          exact run_bytesToString c.w ad _ cap _ hload
      unfold execOp
      simp only [ho, Sem.run_bind]
      rw [hu2, run_convert_bytes_string c.w src dst s.e a _ cap (sliceElem_eq he) hu hst, hb]
      rfl
    · simp at h
  · exact evGen_ok h

end
end Go.VM
