/- A part of the proof of FnExactWithoutShare: VmA7. -/
import Derived.Test.YtmdmeakelebfcaaVmA6
namespace Go.VM
open Go.RowKit
section
variable {cx : Cx} {P : Program}

/-! ### Stores into a row that is owned -/
def updEL {ty : Nat → Type} (nm : Nat) (s' : SlD ty) : L ty → L ty
  | some (.inr s) => if s.own == 1 && s.nm == nm then some (.inr s') else some (.inr s)
  | l => l

def updEA {ty : Nat → Type} (nm : Nat) (s' : SlD ty) : A ty → A ty
  | .inl l => .inl (updEL nm s' l)
  | .inr l => .inr (l.map (updEL nm s'))

def updEV {ty : Nat → Type} (nm : Nat) (s' : SlD ty) : V ty → V ty
  | .inl a => .inl (updEA nm s' a)
  | .inr (.inl l) => .inr (.inl (l.map (updEA nm s')))
  | .inr (.inr p) => match p.kind with
    | 0 => .inr (.inr { p with cells := p.cells.map (updEL nm s') })
    | 1 => if p.nm == nm then .inr (.inr { p with s := s' }) else .inr (.inr p)
    | _ => .inr (.inr p)

def valOk {ty : Nat → Type} : L ty → Bool
  | some (.inl (.agg _)) => false
  | some (.inl (.tuple _)) => false
  | some (.inl _) => true
  | _ => false

/-- What a store into a row leaves. -/
def stE (P : Program) (st : St cx.ty) (t : TypeId) (a x : Operand) : Option (St cx.ty) :=
  match getV st.slots a, cellsV (getV st.slots x) with
  | .inr (.inr p), some l =>
    if p.kind == 1 && p.s.o && p.s.own == 1 && p.s.nm == p.nm && cx.flat p.s.e && !st.D.contains p.nm && !st.F.contains p.nm && l.all valOk && (P.underlying t).isSome && l.length == P.cellsOf t && decide (p.off + l.length ≤ cx.size p.s.e) then
      match cx.dec p.s.e (splice (cx.enc p.s.e true (p.s.xs.getD p.i (cx.dflt p.s.e))) p.off l) with
      | some x' => some { st with slots := st.slots.map (updEV p.nm { p.s with xs := p.s.xs.set p.i x' }) }
      | none => none
    else none
  | _, _ => none

theorem splice_mid {α : Type} (F1 B F2 l : List α) (off : Nat) (h : off + l.length ≤ B.length) : splice (F1 ++ B ++ F2) (F1.length + off) l = F1 ++ splice B off l ++ F2 := by
  unfold splice
  have e1 : (F1 ++ B ++ F2).take (F1.length + off) = F1 ++ B.take off := by
    rw [List.append_assoc, List.take_length_add_append, List.take_append_of_le_length (by omega)]
  have e2 : (F1 ++ B ++ F2).drop (F1.length + off + l.length) = B.drop (off + l.length) ++ F2 := by
    rw [List.append_assoc, Nat.add_assoc, List.drop_length_add_append, List.drop_append_of_le_length (by omega)]
  rw [e1, e2]
  simp

theorem splice_map {α β : Type} (f : α → β) (l p : List α) (off : Nat) : (splice l off p).map f = splice (l.map f) off (p.map f) := by
  simp [splice, List.map_take, List.map_drop]

theorem splice_take {α : Type} (l p : List α) (off m : Nat) (h : off + p.length ≤ m) (hl : off + p.length ≤ l.length) : (splice l off p).take m = splice (l.take m) off p := by
  apply List.ext_getElem?
  intro j
  rw [List.getElem?_take, splice_get hl, splice_get (by simp; omega), List.getElem?_take]
  by_cases h1 : off ≤ j ∧ j < off + p.length
  · rw [if_pos h1, if_pos h1, if_pos (by omega)]
  · rw [if_neg h1, if_neg h1]

theorem flat_set {α β : Type} (f : α → List β) (k : Nat) (hf : ∀ x, (f x).length = k) (xs : List α) (i : Nat) (x x' : α) (hx : xs[i]? = some x) (off : Nat) (l : List β) (hl : off + l.length ≤ k) (he : f x' = splice (f x) off l) :
    (xs.set i x').flatMap f = splice (xs.flatMap f) (i * k + off) l := by
  have hi : i < xs.length := (List.getElem?_eq_some_iff.1 hx).1
  have hxe : xs[i] = x := (List.getElem?_eq_some_iff.1 hx).2
  have hsplit : xs = xs.take i ++ x :: xs.drop (i + 1) := by
    rw [← hxe]
    conv => lhs; rw [← List.take_append_drop i xs, List.drop_eq_getElem_cons hi]
  have hset : xs.set i x' = xs.take i ++ x' :: xs.drop (i + 1) := by
    rw [List.set_eq_take_append_cons_drop, if_pos hi]
  have hlen : ((xs.take i).flatMap f).length = i * k := by
    rw [flat_len _ _ hf, List.length_take, Nat.min_eq_left (by omega)]
  rw [hset]
  conv => rhs; rw [hsplit]
  simp only [List.flatMap_append, List.flatMap_cons]
  rw [← List.append_assoc, ← List.append_assoc, ← hlen, splice_mid _ _ _ _ _ (by rw [hf]; exact hl), he]

theorem stE_leaf {c : Ct cx.ty} {T' : List (Tk cx.ty)} {w' : World} {nm : Nat} {s s' : SlD cx.ty} {tk0 : Tk cx.ty} (hown : s'.own = 1) (hsn : s'.nm = nm) (hD : nm ∉ c.D) (hF : nm ∉ c.F)
    (hrd : ∀ b, Rd c b → Rd { c with T := T', w := w' } b ∧ w'.heap[b]? = c.w.heap[b]?) (_h0 : tk0 ∈ c.T) (hn0 : tk0.nm = nm) (_hc0 : tk0.c = .inl s) (huniq : ∀ t2 ∈ c.T, t2.nm = nm → t2 = tk0)
    (hnew : { tk0 with c := .inl s' } ∈ T') (hkeep : ∀ t2 ∈ c.T, t2.nm ≠ nm → ∀ s, t2.c = .inl s → t2 ∈ T') {l : L cx.ty} {u : Value} (hl : RepLS cx c l u) : RepLS cx { c with T := T', w := w' } (updEL nm s' l) u := by
  match l, hl with
  | none, _ => trivial
  | some (.inl v), hl => exact hl
  | some (.inr q), hl =>
    simp only [updEL]
    by_cases h1 : q.own = 1
    · by_cases h2 : q.nm = nm
      · rw [if_pos (by simp [h1, h2])]
        unfold RepLS at hl ⊢
        simp only [h1, if_true, h2, hD, hF, if_false, hown, hsn] at hl ⊢
        obtain ⟨hsl, tk, k1, k2, k3, k4⟩ := hl
        refine ⟨hsl, ⟨_, hnew, hn0, rfl, ?_⟩⟩
        rw [← huniq tk k1 k2]; exact k4
      · rw [if_neg (by simp [h2])]
        unfold RepLS at hl ⊢
        simp only [h1, if_true] at hl ⊢
        obtain ⟨hsl, hl⟩ := hl
        refine ⟨hsl, ?_⟩
        split at hl
        · rename_i hd; rw [if_pos hd]; trivial
        · rename_i hd
          rw [if_neg hd]
          split at hl
          · rename_i hf
            rw [if_pos hf]
            obtain ⟨n, hl⟩ := hl
            exact ⟨n, RepL_mono cx (fun b hb => (hrd b hb).2) (fun b hb => (hrd b hb).1) _ _ _ hl⟩
          · rename_i hf
            rw [if_neg hf]
            obtain ⟨tk, k1, k2, k3, k4⟩ := hl
            exact ⟨tk, hkeep tk k1 (by rw [k2]; exact h2) q k3, k2, k3, k4⟩
    · rw [if_neg (by simp [h1])]
      unfold RepLS at hl ⊢
      simp only [h1, if_false] at hl ⊢
      obtain ⟨n, hl⟩ := hl
      exact ⟨n, RepL_mono cx (fun b hb => (hrd b hb).2) (fun b hb => (hrd b hb).1) _ _ _ hl⟩

theorem RepLs.mapE {c c' : Ct cx.ty} {f : L cx.ty → L cx.ty} (hf : ∀ l u, RepLS cx c l u → RepLS cx c' (f l) u) {l : List (L cx.ty)} {us : List Value} (h : RepLs cx c l us) : RepLs cx c' (l.map f) us := by
  refine ⟨by rw [List.length_map]; exact h.1, fun j a u e1 e2 => ?_⟩
  rw [List.getElem?_map] at e1
  cases e0 : l[j]? with
  | none => rw [e0] at e1; simp at e1
  | some a0 =>
    rw [e0] at e1
    simp only [Option.map_some, Option.some.injEq] at e1
    subst e1
    exact hf _ _ (h.2 j a0 u e0 e2)

theorem stE_ok (ok : cx.Ok) {o : Oper} {t : TypeId} {a x : Operand} (ho : o.op = .store t a x) {st st' : St cx.ty} (hst : stE P st t a x = some st') {c : Ct cx.ty} {act : Act} (h : RS cx c st act) :
    ∃ w' T', (execOp act.eval o).run P c.w = .ok .skip w' ∧ RS cx { c with T := T', w := w' } st' act ∧ Kept c.N c.w w' := by
  unfold stE at hst
  split at hst
  · rename_i p l hp hl
    split at hst
    · rename_i hc
      simp only [Bool.and_eq_true, beq_iff_eq, decide_eq_true_eq, Bool.not_eq_true'] at hc
      obtain ⟨⟨⟨⟨⟨⟨⟨⟨⟨⟨hk, hso⟩, hown⟩, hsn⟩, hflat⟩, hnD⟩, hnF⟩, hlo⟩, hund⟩, hsz⟩, hoff⟩ := hc
      split at hst
      · rename_i x' hdec
        simp only [Option.some.injEq] at hst
        subst hst
        obtain ⟨d, hd⟩ := Option.isSome_iff_exists.1 hund
        have hnD : p.nm ∉ c.D := by rw [h.dead]; simpa using hnD
        have hnF : p.nm ∉ c.F := by rw [h.frz]; simpa using hnF
        have hra := eval_rep h.rep a
        rw [hp] at hra
        have hra : RepP cx c p (act.eval a) := hra
        unfold RepP at hra
        simp only [hk, hnD, hnF, if_false] at hra
        obtain ⟨tk, ht, hn, hcc, hi, g, n0, cap0, hu, hpa⟩ := hra
        have htr := h.wf.rep tk ht
        unfold TokRep at htr
        rw [hcc] at htr
        simp only [hso, if_true] at htr
        obtain ⟨hvb, nn, htr⟩ := htr
        obtain ⟨hrow, hfp⟩ := flat_of_own ok hflat htr
        obtain ⟨hrl, hrow⟩ := hrow
        have hfp0 : tk.fp = [] := by
          rw [hvb] at hfp
          simpa using hfp
        rcases hrow with ⟨hbad, _⟩ | ⟨g', cap, cur, hu', hg0, hh, hncap, hcapm, hcur, htake⟩
        · rw [hu] at hbad; simp at hbad
        rw [hu] at hu'
        simp only [Value.slice.injEq, Option.some.injEq, Addr.mk.injEq] at hu'
        obtain ⟨⟨rfl, _⟩, rfl, rfl⟩ := hu'
        have hcv := cellsV_rep (eval_rep h.rep x) hl
        have hlen : (act.eval x).cells.toList.length = l.length := hcv.1
        have hlv : l = (act.eval x).cells.toList.map lv := by
          apply List.ext_getElem?
          intro j
          rw [List.getElem?_map]
          cases e1 : l[j]? with
          | none =>
            have : l.length ≤ j := List.getElem?_eq_none_iff.1 e1
            rw [List.getElem?_eq_none (by omega)]; rfl
          | some q =>
            have hj : j < l.length := (List.getElem?_eq_some_iff.1 e1).1
            rw [List.getElem?_eq_getElem (by omega)]
            have hq := List.all_eq_true.1 hlo q (List.mem_of_getElem? e1)
            have := hcv.2 j q _ e1 (List.getElem?_eq_getElem (by omega))
            match q, hq, this with
            | some (.inl v), hq, this =>
              have this : _ = v := this
              rw [this]; rfl
        have hone : ∀ v ∈ (act.eval x).cells.toList, v.oneCell' = true := by
          intro v hv
          have hm : lv v ∈ l := by rw [hlv]; exact List.mem_map.2 ⟨v, hv, rfl⟩
          have hq := List.all_eq_true.1 hlo _ hm
          cases v <;> first | rfl | (simp [lv, valOk] at hq)
        -- the element
        have hxi : p.s.xs[p.i]? = some (p.s.xs.getD p.i (cx.dflt p.s.e)) := by
          rw [List.getElem?_eq_getElem hi]; simp [List.getD, hi]
        have henc : cx.enc p.s.e true x' = splice (cx.enc p.s.e true (p.s.xs.getD p.i (cx.dflt p.s.e))) p.off l := by
          rw [← ok.dec _ _ _ true hdec]
          have : ∀ q ∈ splice (cx.enc p.s.e true (p.s.xs.getD p.i (cx.dflt p.s.e))) p.off l, weak true q = q := by
            intro q hq
            unfold splice at hq
            have hv : ∃ v, q = some (.inl v) := by
              rcases List.mem_append.1 hq with hq | hq
              · rcases List.mem_append.1 hq with hq | hq
                · exact ok.flat _ _ _ hflat q (List.mem_of_mem_take hq)
                · rw [hlv] at hq
                  obtain ⟨v, _, rfl⟩ := List.mem_map.1 hq
                  exact ⟨v, rfl⟩
              · exact ok.flat _ _ _ hflat q (List.mem_of_mem_drop hq)
            obtain ⟨v, rfl⟩ := hv
            rfl
          conv => rhs; rw [← List.map_id (splice _ _ _)]
          exact List.map_congr_left this
        have hset := flat_set (cx.enc p.s.e true) (cx.size p.s.e) (fun x => ok.len p.s.e true x) p.s.xs p.i _ x' hxi p.off l hoff henc
        have hfv : flatVals cx p.s.e (p.s.xs.set p.i x') = splice (flatVals cx p.s.e p.s.xs) (p.i * cx.size p.s.e + p.off) (act.eval x).cells.toList := by
          rw [flat_enc ok hflat true, flat_enc ok hflat true, hlv, ← splice_map] at hset
          have inj : ∀ a b : Value, (lv a : L cx.ty) = lv b → a = b := fun a b e => by simpa [lv] using e
          exact (List.map_inj_right inj).1 hset
        have hmul : (p.i + 1) * cx.size p.s.e ≤ p.s.xs.length * cx.size p.s.e := Nat.mul_le_mul_right _ hi
        have hmul2 : p.s.xs.length * cx.size p.s.e ≤ cap0 * cx.size p.s.e := Nat.mul_le_mul_right _ hncap
        rw [Nat.add_mul, Nat.one_mul] at hmul
        have hfit : p.i * cx.size p.s.e + p.off + (act.eval x).cells.toList.length ≤ cur.toList.length := by
          have : cur.toList.length = cur.size := by simp
          omega
        have hstore := run_storeCells_at P g (p.i * cx.size p.s.e + p.off) p.s.e (act.eval x).cells.toList 0 cur c.w hh (by omega) hone
        simp only [Nat.add_zero] at hstore
        have hrun : (execOp act.eval o).run P c.w = .ok .skip (c.w.setRow g (splice cur.toList (p.i * cx.size p.s.e + p.off) (act.eval x).cells.toList).toArray) := by
          have hsize : (act.eval x).cells.size = P.cellsOf t := by rw [← hsz, ← hlen]; simp
          unfold execOp
          simp only [ho, Instr.storeAt, Instr.sureAddr, hpa, storeVar, Sem.run_bind, Sem.run_pure, Result.andThen_ok, run_sizeOf' hd, hsize, ne_eq, not_true_eq_false, if_false]
          unfold splice
          rw [hstore]
          rfl
        generalize hW : c.w.setRow g (splice cur.toList (p.i * cx.size p.s.e + p.off) (act.eval x).cells.toList).toArray = w' at hrun
        have hheap : ∀ k, k ≠ g → w'.heap[k]? = c.w.heap[k]? := fun k hk => by rw [← hW]; exact setRow_other c.w g k _ hk
        have hsame : w'.heap.size = c.w.heap.size := by rw [← hW]; simp [World.setRow]
        have hnewrow : w'.heap[g]? = some (.cells (splice cur.toList (p.i * cx.size p.s.e + p.off) (act.eval x).cells.toList).toArray p.s.e (0, 0)) := by rw [← hW]; exact setRow_heap c.w g cur _ _ _ hh
        have hg : g ∈ vb tk.u := by rw [hu]; simp [vb]
        have hgb := h.wf.bound tk ht g (List.mem_append.2 (.inl hg))
        generalize hs' : ({ p.s with xs := p.s.xs.set p.i x' } : SlD cx.ty) = s'
        have hs'own : s'.own = 1 := by rw [← hs']; exact hown
        have hs'nm : s'.nm = p.nm := by rw [← hs']; exact hsn
        have hs'o : s'.o = true := by rw [← hs']; exact hso
        have huniq : ∀ t2 ∈ c.T, t2.nm = p.nm → t2 = tk := by
          intro t2 ht2 hn2
          have hnd := h.wf.names
          rcases Classical.em (t2 = tk) with h | h
          · exact h
          · exfalso
            obtain ⟨l1, l2, hl⟩ := List.append_of_mem ht
            rw [hl] at hnd ht2
            rw [List.map_append, List.map_cons, List.nodup_append] at hnd
            rcases List.mem_append.1 ht2 with h3 | h3
            · exact hnd.2.2 t2.nm (List.mem_map.2 ⟨t2, h3, rfl⟩) tk.nm (List.mem_cons_self ..) (by rw [hn2, hn])
            · rcases List.mem_cons.1 h3 with h3 | h3
              · exact h h3
              · exact (List.nodup_cons.1 hnd.2.1).1 (List.mem_map.2 ⟨t2, h3, by rw [hn2, hn]⟩)
        let up : Tk cx.ty → Tk cx.ty := fun t2 => match t2.c with
          | .inl _ => if t2.nm = p.nm then { t2 with c := .inl s' } else t2
          | .inr cells => { t2 with c := .inr (cells.map (updEL p.nm s')) }
        have upnm : ∀ t2, (up t2).nm = t2.nm := fun t2 => by simp only [up]; split <;> (try split) <;> rfl
        have upu : ∀ t2, (up t2).u = t2.u := fun t2 => by simp only [up]; split <;> (try split) <;> rfl
        have upfp : ∀ t2, (up t2).fp = t2.fp := fun t2 => by simp only [up]; split <;> (try split) <;> rfl
        have upl : ∀ t2 s, t2.c = .inl s → t2.nm ≠ p.nm → up t2 = t2 := fun t2 s e hne => by simp only [up]; rw [e]; simp only; rw [if_neg hne]
        have up0 : up tk = { tk with c := .inl s' } := by simp only [up]; rw [hcc]; simp only; rw [if_pos hn]
        have hrd : ∀ b, Rd c b → Rd { c with T := c.T.map up, w := w' } b ∧ w'.heap[b]? = c.w.heap[b]? := by
          intro b hb
          have hbg : b ≠ g := fun e => hb.2.2 tk ht (e ▸ hg)
          refine ⟨⟨Nat.lt_of_lt_of_eq hb.1 hsame.symm, hb.2.1, fun t2 ht2 => ?_⟩, hheap b hbg⟩
          obtain ⟨t3, h3, rfl⟩ := List.mem_map.1 ht2
          rw [upu]
          exact hb.2.2 t3 h3
        have hleaf : ∀ (q : L cx.ty) (u : Value), RepLS cx c q u → RepLS cx { c with T := c.T.map up, w := w' } (updEL p.nm s' q) u := fun q u hq =>
          stE_leaf (s := p.s) hs'own hs'nm hnD hnF hrd ht hn hcc huniq (List.mem_map.2 ⟨tk, ht, up0⟩) (fun t2 h2 hne s hs => List.mem_map.2 ⟨t2, h2, upl t2 s hs hne⟩) hq
        have hagg : ∀ (q : A cx.ty) (u : Value), RepA cx c q u → RepA cx { c with T := c.T.map up, w := w' } (updEA p.nm s' q) u := by
          intro q u hq
          match q, hq with
          | .inl q, hq => exact hleaf q u hq
          | .inr q, ⟨us, hu, hq⟩ => exact ⟨us, hu, hq.mapE hleaf⟩
        have hel : ∀ {s : SlD cx.ty} {i b o : Nat}, RepEl cx c s i b o → RepEl cx { c with T := c.T.map up, w := w' } s i b o := by
          rintro s i b o ⟨hb, y, hy, n, hr⟩
          refine ⟨(hrd b hb).1, y, hy, n, fun j q hq => ?_⟩
          obtain ⟨v, hv, hr⟩ := hr j q hq
          exact ⟨v, by rw [World.cell?_of_block (hrd b hb).2]; exact hv, RepL_mono cx (fun b hb => (hrd b hb).2) (fun b hb => (hrd b hb).1) _ _ _ hr⟩
        have hval : ∀ (q : V cx.ty) (u : Value), RepV cx c q u → RepV cx { c with T := c.T.map up, w := w' } (updEV p.nm s' q) u := by
          intro q u hq
          match q, hq with
          | .inl q, hq => exact hagg q u hq
          | .inr (.inl q), ⟨us, hu, h1, h2⟩ =>
            refine ⟨us, hu, by rw [List.length_map]; exact h1, fun j a b e1 e2 => ?_⟩
            rw [List.getElem?_map] at e1
            cases e0 : q[j]? with
            | none => rw [e0] at e1; simp at e1
            | some a0 =>
              rw [e0] at e1
              simp only [Option.map_some, Option.some.injEq] at e1
              subst e1
              exact hagg _ _ (h2 j a0 b e0 e2)
          | .inr (.inr q), hq =>
            have hq : RepP cx c q u := hq
            unfold RepP at hq
            simp only [updEV]
            split at hq
            · rename_i hk0
              obtain ⟨t2, k1, k2, k3, g2, k4, k5⟩ := hq
              simp only [hk0]
              show RepP cx { c with T := c.T.map up, w := w' } { q with kind := 0, cells := q.cells.map (updEL p.nm s') } u
              unfold RepP
              simp only
              exact ⟨up t2, List.mem_map.2 ⟨t2, k1, rfl⟩, by rw [upnm]; exact k2, by simp only [up]; rw [k3], g2, by rw [upu]; exact k4, k5⟩
            · rename_i hk1
              simp only [hk1]
              by_cases hne : q.nm = p.nm
              · rw [if_pos (by simp [hne])]
                show RepP cx { c with T := c.T.map up, w := w' } { q with kind := 1, s := s' } u
                unfold RepP
                simp only [hne, hnD, hnF, if_false] at hq ⊢
                obtain ⟨t2, k1, k2, k3, k4, g2, n2, cap2, k5, k6⟩ := hq
                have e2 := huniq t2 k1 k2
                subst e2
                have hqs : q.s = p.s := by
                  rw [hcc] at k3
                  exact (Sum.inl.inj k3).symm
                refine ⟨up t2, List.mem_map.2 ⟨t2, k1, rfl⟩, by rw [upnm]; exact k2, by rw [up0], ?_, g2, n2, cap2, by rw [upu]; exact k5, ?_⟩
                · rw [← hs']; simp only [List.length_set]; rw [← hqs]; exact k4
                · rw [← hs']; simp only; rw [← hqs]; exact k6
              · rw [if_neg (by simp [hne])]
                show RepP cx { c with T := c.T.map up, w := w' } q u
                unfold RepP
                simp only [hk1] at hq ⊢
                split at hq
                · rename_i hd'; rw [if_pos hd']; trivial
                · rename_i hd'
                  rw [if_neg hd']
                  split at hq
                  · rename_i hf'
                    rw [if_pos hf']
                    obtain ⟨b, o, hu, hr⟩ := hq
                    exact ⟨b, o, hu, hel hr⟩
                  · rename_i hf'
                    rw [if_neg hf']
                    obtain ⟨t2, k1, k2, k3, k4⟩ := hq
                    exact ⟨t2, List.mem_map.2 ⟨t2, k1, upl t2 _ k3 (by rw [k2]; exact hne)⟩, k2, k3, k4⟩
            · rename_i hk2
              simp only [hk2]
              show RepP cx { c with T := c.T.map up, w := w' } q u
              unfold RepP
              simp only [hk2]
              obtain ⟨b, o, hu, hr⟩ := hq
              exact ⟨b, o, hu, hel hr⟩
            · rename_i k0 k1 k2
              have : (match q.kind with
                | 0 => (.inr (.inr { q with cells := q.cells.map (updEL p.nm s') }) : V cx.ty)
                | 1 => if (q.nm == p.nm) = true then .inr (.inr { q with s := s' }) else .inr (.inr q)
                | _ => .inr (.inr q)) = .inr (.inr q) := by
                split <;> first | rfl | (rename_i hh; first | exact (k0 hh).elim | exact (k1 hh).elim)
              rw [this]
              show RepP cx { c with T := c.T.map up, w := w' } q u
              unfold RepP
              split <;> first | trivial | (rename_i hh; first | exact (k0 hh).elim | exact (k1 hh).elim | exact (k2 hh).elim)
        refine ⟨w', c.T.map up, hrun, ⟨⟨?_, ?_, ?_, ?_, h.wf.start, ?_, ?_⟩, by simp [h.size], fun t2 => ?_, h.defers, h.dead, h.frz, fun n hn' => ?_, h.kp⟩, ?_⟩
        · show ((c.T.map up).map (·.nm)).Nodup
          rw [List.map_map]
          have : ((fun t2 : Tk cx.ty => t2.nm) ∘ up) = fun t2 => t2.nm := funext upnm
          rw [this]; exact h.wf.names
        · show ((c.T.map up).flatMap _).Nodup
          rw [List.flatMap_map]
          have : (fun t2 => vb (up t2).u ++ (up t2).fp) = fun t2 : Tk cx.ty => vb t2.u ++ t2.fp := funext fun t2 => by rw [upu, upfp]
          rw [this]; exact h.wf.nodup
        · intro t2 ht2 b hb
          obtain ⟨t3, h3, rfl⟩ := List.mem_map.1 ht2
          rw [upu, upfp] at hb
          have := h.wf.bound t3 h3 b hb
          exact ⟨this.1, Nat.lt_of_lt_of_eq this.2 hsame.symm⟩
        · intro t2 ht2
          obtain ⟨t3, h3, rfl⟩ := List.mem_map.1 ht2
          have hold := h.wf.rep t3 h3
          by_cases hn3 : t3.nm = p.nm
          · have e3 := huniq t3 h3 hn3
            subst e3
            rw [up0]
            unfold TokRep
            simp only [hs'o, if_true]
            refine ⟨hvb, 1, ?_⟩
            have hro : w'.ownsRow 0 s'.e (cx.size s'.e) t3.u s'.xs.length (flatVals cx s'.e s'.xs) := by
              rw [← hs']
              simp only [List.length_set]
              refine ⟨by rw [flatVals_len ok hflat, List.length_set], .inr ⟨g, cap0, _, hu, Nat.zero_le _, hnewrow, hncap, hcapm, ?_, ?_⟩⟩
              · simp only [List.size_toArray]
                rw [splice_len hfit]
                simpa using hcur
              · simp only
                rw [splice_take cur.toList (act.eval x).cells.toList (p.i * cx.size p.s.e + p.off) _ (by omega) hfit, htake, hfv]
            have := own_flat ok (s := s') (by rw [← hs']; exact hflat) hro
            rw [hfp0, List.append_nil, hvb]
            exact this
          · have hblk : ∀ b ∈ vb t3.u ++ t3.fp, w'.heap[b]? = c.w.heap[b]? := fun b hb => hheap b (fun e => disjoint_toks h.wf h3 ht (fun e2 => hn3 (by rw [e2, hn])) hb (by rw [e]; exact List.mem_append.2 (.inl hg)))
            unfold TokRep at hold
            split at hold
            · rename_i s hs
              rw [upl t3 s hs hn3]
              unfold TokRep
              rw [hs]
              simp only
              obtain ⟨hv, hold⟩ := hold
              refine ⟨hv, ?_⟩
              split at hold
              · rename_i hso2
                rw [if_pos hso2]
                obtain ⟨n, hold⟩ := hold
                exact ⟨n, OwnL_mono cx n _ _ _ hblk hold⟩
              · rename_i hso2
                rw [if_neg hso2]
                obtain ⟨hf, us, n, hrow, hl2, hr⟩ := hold
                refine ⟨hf, us, n, ?_, hl2, fun j l v h1 h2 => RepL_mono cx (fun b hb => (hrd b hb).2) (fun b hb => (hrd b hb).1) n l v (hr j l v h1 h2)⟩
                obtain ⟨hx, hcx⟩ := hrow
                refine ⟨hx, ?_⟩
                rcases hcx with hcx | ⟨g2, cap2, cur2, hv', hg2, hh2, hrest⟩
                · exact .inl hcx
                · refine .inr ⟨g2, cap2, cur2, hv', hg2, ?_, hrest⟩
                  rw [hblk g2 (by rw [hv']; simp [vb])]
                  exact hh2
            · rename_i cells hs
              obtain ⟨hf, g2, cur2, e2, hu2, hh2, hr⟩ := hold
              have hup : up t3 = { t3 with c := .inr (cells.map (updEL p.nm s')) } := by simp only [up]; rw [hs]
              rw [hup]
              unfold TokRep
              refine ⟨hf, g2, cur2, e2, hu2, ?_, hr.mapE hleaf⟩
              rw [hblk g2 (by rw [hu2]; simp [vb])]
              exact hh2
        · intro t2 ht2
          obtain ⟨t3, h3, rfl⟩ := List.mem_map.1 ht2
          rw [upnm]
          exact h.wf.live t3 h3
        · exact fun b hb => h.wf.size b (Nat.le_trans (Nat.le_of_eq hsame.symm) hb)
        · have : (st.slots.map (updEV p.nm s')).getD t2 junk = updEV p.nm s' (st.slots.getD t2 junk) := by
            by_cases hlt : t2 < st.slots.length
            · simp [List.getD, hlt]
            · simp [List.getD, List.getElem?_eq_none (Nat.le_of_not_lt hlt), junk, updEV, updEA, updEL]
          show RepV cx _ ((st.slots.map (updEV p.nm s')).getD t2 junk) _
          rw [this]
          exact hval _ _ (h.rep t2)
        · rcases hn' with ⟨t2, ht2, rfl⟩ | hn' | hn'
          · obtain ⟨t3, h3, rfl⟩ := List.mem_map.1 ht2
            rw [upnm]
            exact h.names _ (.inl ⟨t3, h3, rfl⟩)
          · exact h.names _ (.inr (.inl hn'))
          · exact h.names _ (.inr (.inr hn'))
        · exact ⟨by rw [← hW]; rfl, by rw [← hW]; rfl, by rw [← hW]; rfl, by rw [hsame]; exact Nat.le_refl _, fun k hk => hheap k (fun e => hk (e ▸ hgb.1))⟩
      · simp at hst
    · simp at hst
  · simp at hst

end
end Go.VM
namespace Go.VM
open Go.RowKit
section
variable {cx : Cx} {P : Program}
/-- A store into a box or into a row. -/
def stA (P : Program) (st : St cx.ty) (t : TypeId) (a x : Operand) : Option (St cx.ty) :=
  match stB P st t a x with
  | some st' => some st'
  | none => stE P st t a x

theorem stA_ok (ok : cx.Ok) {o : Oper} {t : TypeId} {a x : Operand} (ho : o.op = .store t a x) {st st' : St cx.ty} (hst : stA P st t a x = some st') {c : Ct cx.ty} {act : Act} (h : RS cx c st act) :
    ∃ w' T', (execOp act.eval o).run P c.w = .ok .skip w' ∧ RS cx { c with T := T', w := w' } st' act ∧ Kept c.N c.w w' := by
  unfold stA at hst
  split at hst
  · rename_i s1 e1
    simp only [Option.some.injEq] at hst
    subst hst
    exact stB_ok ho e1 h
  · exact stE_ok ok ho hst h
end
end Go.VM
