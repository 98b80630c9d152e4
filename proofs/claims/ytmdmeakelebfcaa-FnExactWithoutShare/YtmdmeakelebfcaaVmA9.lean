/- A part of the proof of FnExactWithoutShare: VmA9. -/
import Derived.Test.YtmdmeakelebfcaaVmA8
namespace Go.VM
open Go.RowKit
section
variable {cx : Cx} {P : Program}

/-! ### A slice written out whose elements are rows: the rows are read alone from there on -/
theorem Pres.trans {a b c : Ct cx.ty} (h : Pres cx a b) (k : Pres cx b c) : Pres cx a c := by
  refine ⟨fun x hx => ⟨(k.rd x (h.rd x hx).1).1, (k.rd x (h.rd x hx).1).2.trans (h.rd x hx).2⟩, fun n hn => k.dead n (h.dead n hn), fun n hn => k.frz n (h.frz n hn), fun tk ht hD hF => ?_, fun tk ht l hl => k.box tk (h.box tk ht l hl) l hl, fun tk ht s hs hD hF => ?_⟩
  · exact k.tok tk (h.tok tk ht (fun hx => hD (k.dead _ hx)) (fun hx => hF (k.frz _ hx))) hD hF
  · by_cases hb : tk.nm ∈ b.F
    · obtain ⟨n, hn⟩ := h.froze tk ht s hs (fun hx => hD (k.dead _ hx)) hb
      exact ⟨n, RepL.pres cx k hn⟩
    · exact k.froze tk (h.tok tk ht (fun hx => hD (k.dead _ hx)) hb) s hs hD hF

theorem RepL_up {w : World} {S : Nat → Prop} (d : Nat) : ∀ {n : Nat} {l : L cx.ty} {u : Value}, RepL cx w S n l u → RepL cx w S (n + d) l u := by
  induction d with
  | zero => intro n l u h; exact h
  | succ d ih => intro n l u h; exact RepL_succ cx _ _ _ (ih h)

theorem rep_uni {w : World} {S : Nat → Prop} : ∀ (l : List (L cx.ty)) (us : List Value), (∀ (j : Nat) a u, l[j]? = some a → us[j]? = some u → ∃ n, RepL cx w S n a u) → ∃ n, ∀ (j : Nat) a u, l[j]? = some a → us[j]? = some u → RepL cx w S n a u
  | [], _, _ => ⟨0, fun j a u h => by simp at h⟩
  | _ :: _, [], _ => ⟨0, fun j a u _ h => by simp at h⟩
  | a :: r, u :: us, h => by
    obtain ⟨n, hn⟩ := h 0 a u rfl rfl
    obtain ⟨m, hm⟩ := rep_uni r us (fun j b v e1 e2 => h (j + 1) b v (by simpa using e1) (by simpa using e2))
    refine ⟨n + m, fun j b v e1 e2 => ?_⟩
    cases j with
    | zero =>
      simp only [List.getElem?_cons_zero, Option.some.injEq] at e1 e2
      subst e1; subst e2
      exact RepL_up m hn
    | succ j =>
      rw [Nat.add_comm]
      exact RepL_up n (hm j b v (by simpa using e1) (by simpa using e2))

def nmsL {ty : Nat → Type} : L ty → List Nat
  | some (.inr s) => rdn s
  | _ => []

def frL {ty : Nat → Type} (mk : Option Nat) (l : L ty) : L ty :=
  match l with
  | some (.inl v) => match v, mk with
    | .slice none 0 0, some e => ls (ro e [])
    | v, _ => lv v
  | some (.inr s) => ls (ro s.e s.xs)
  | none => none

def frLs {ty : Nat → Type} : List (Option Nat) → List (L ty) → List (L ty)
  | _, [] => []
  | mks, l :: r => frL (mks.headD none) l :: frLs mks.tail r

theorem frLs_length {ty : Nat → Type} : ∀ (mks : List (Option Nat)) (l : List (L ty)), (frLs mks l).length = l.length
  | _, [] => rfl
  | mks, l :: r => by simp [frLs, frLs_length mks.tail r]

theorem frLs_get {ty : Nat → Type} : ∀ (mks : List (Option Nat)) (l : List (L ty)) (j : Nat) (a : L ty), (frLs mks l)[j]? = some a → ∃ b mk, l[j]? = some b ∧ a = frL mk b
  | _, [], j, a, h => by simp [frLs] at h
  | mks, l :: r, 0, a, h => by
    simp only [frLs, List.getElem?_cons_zero, Option.some.injEq] at h
    exact ⟨l, _, rfl, h.symm⟩
  | mks, l :: r, j + 1, a, h => by
    obtain ⟨b, mk, h1, h2⟩ := frLs_get mks.tail r j a (by simpa [frLs] using h)
    exact ⟨b, mk, by simpa using h1, h2⟩

theorem repL_flip {w : World} {S : Nat → Prop} {n : Nat} {s : SlD cx.ty} {u : Value} (h : RepL cx w S n (some (.inr s)) u) : RepL cx w S n (some (.inr (ro s.e s.xs))) u := by
  cases n with
  | zero => simp [RepL] at h
  | succ n => exact h

theorem frL_rep (ok : cx.Ok) {c c1 : Ct cx.ty} (hw : Wf cx c) (hw1 : c1.w = c.w) (hp : Pres cx c c1) {fn : List Nat} (hfz : ∀ tk ∈ c.T, tk.nm ∈ fn → ∀ b ∈ vb tk.u, Rd c1 b) {l : L cx.ty} {mk : Option Nat} {u : Value} (h : RepLS cx c l u) (hd : ∀ n ∈ nmsL l, n ∉ c.D ∧ n ∈ fn) :
    ∃ n, RepL cx c1.w (Rd c1) n (frL mk l) u := by
  match l, h, hd with
  | none, _, _ => exact ⟨0, by simp [frL, RepL]⟩
  | some (.inl v), h, _ =>
    have h : u = v := h
    subst h
    unfold frL
    split
    · rename_i l' v' hv
      simp only [Option.some.injEq, Sum.inl.injEq] at hv
      subst hv
      split
      · exact ⟨1, none, 0, rfl, Nat.le_refl _, .inl rfl⟩
      · exact ⟨0, by simp [lv, RepL]⟩
    · rename_i hv; simp at hv
    · rename_i hv; simp at hv
  | some (.inr s), h, hd =>
    unfold RepLS at h
    by_cases h1 : s.own = 1
    · have hn := hd s.nm (by simp [nmsL, rdn, h1])
      simp only [h1, if_true, hn.1, if_false] at h
      obtain ⟨_, h⟩ := h
      by_cases h3 : s.nm ∈ c.F
      · simp only [h3, if_true] at h
        obtain ⟨n, h⟩ := h
        exact ⟨n, repL_flip (RepL.pres cx hp h)⟩
      · simp only [h3, if_false] at h
        obtain ⟨tk, ht, hnm, hc, hu⟩ := h
        obtain ⟨n, h⟩ := tok_any ok hw ht hc (S := Rd c1) (fun b hb => (hp.rd b hb).1) (hfz tk ht (by rw [hnm]; exact hn.2))
        rw [hu] at h
        refine ⟨n, ?_⟩
        rw [hw1]
        exact repL_flip h
    · simp only [h1, if_false] at h
      obtain ⟨n, h⟩ := h
      exact ⟨n, repL_flip (RepL.pres cx hp h)⟩

def mksF (P : Program) (e len : Nat) : List (Option Nat) := List.flatten (List.replicate len ((leafTypes P 8 e).map (sliceElem P)))

def evBuildRows {β : Type} (P : Program) (cx : Cx) (slots : List (V cx.ty)) (t : TypeId) (len : Nat) (parts : List (Nat × Operand)) (nm0 : Nat) (k : Eff cx.ty → Option β) : Option β :=
  match sliceElem P t with
  | some e => if elemOk P cx e && decide (len * cx.size e ≤ 1000000) && decide (len ≤ 1000000) then
      match P.info? e with
      | some i => match i.zero with
        | some z => match fillA (fun j => some (j * cx.size e, cx.size e)) (zeroL (if len * cx.size e = 0 then #[] else z.cells) (len * cx.size e)) (parts.map fun (j, x) => (j, getV slots x)) with
          | some cells => match decN cx e len (frLs (mksF P e len) cells) with
            | some xs => k { v := vs { own := 1, nm := nm0, e := e, o := false, xs := xs }, dead := [], frz := cells.flatMap nmsL, live := [], read := cells.flatMap nmsL }
            | none => none
          | none => none
        | none => none
      | none => none
    else none
  | none => none

theorem evBuildRows_ok (ok : cx.Ok) {β : Type} {o : Oper} {slots : List (V cx.ty)} {nm0 : Nat} {t : TypeId} {len : Nat} {parts : Array (Nat × Operand)} (ho : o.op = .buildSlice t len parts) {k : Eff cx.ty → Option β} {r : β}
    (h : evBuildRows P cx slots t len parts.toList nm0 k = some r) : ∃ ef, k ef = some r ∧ EffOK P cx o slots nm0 ef := by
  unfold evBuildRows at h
  split at h
  · rename_i e he
    split at h
    · rename_i hc
      simp only [Bool.and_eq_true, decide_eq_true_eq] at hc
      obtain ⟨⟨hel, hlen⟩, hlen2⟩ := hc
      obtain ⟨⟨d, hd⟩, hcs⟩ := elemOk_spec hel
      split at h
      · rename_i i hi
        split at h
        · rename_i z hz
          split at h
          · rename_i cells hcells
            split at h
            · rename_i xs hxs
              refine ⟨_, h, ⟨fun c ρ hw hop _ hrd hf => ?_⟩⟩
              obtain ⟨us', h1, h2⟩ := fillA_rep (c := c) (parts.toList.map fun p => (p.1, getV slots p.2)) (parts.toList.map fun p => (p.1, ρ p.2)) (zeroL (if len * cx.size e = 0 then #[] else z.cells) (len * cx.size e)) ((Array.range (len * cx.size e)).map ((if len * cx.size e = 0 then #[] else z.cells)[· % (if len * cx.size e = 0 then #[] else z.cells).size]!)) cells (lv_rep _) (by simp) (fun j p q e1 e2 => by
                simp only [List.getElem?_map] at e1 e2
                cases hx : parts.toList[j]? with
                | none => simp [hx] at e1
                | some x =>
                  simp only [hx, Option.map_some, Option.some.injEq] at e1 e2
                  subst e1; subst e2
                  refine ⟨rfl, hop x.2 ?_⟩
                  simp only [ho, Op.operands, List.mem_toArray, List.mem_map]
                  exact ⟨x, List.mem_of_getElem? hx, rfl⟩) hcells
              obtain ⟨hxl, hxe⟩ := decN_spec ok false len (frLs (mksF P e len) cells) xs hxs
              have hflen := flat_len (cx.enc e false) (cx.size e) (fun x => ok.len e false x) xs
              have hclen : cells.length = len * cx.size e := by
                have := congrArg List.length hxe
                rw [List.length_map, frLs_length, hflen, hxl] at this
                exact this
              have hsize : us'.size = len * cx.size e := by
                have := h2.1
                simp at this
                omega
              have hrun : (execOp ρ o).run P c.w = .ok (.value (.slice (some ⟨c.w.heap.size, 0, none⟩) len len)) (c.w.alloc (.cells us' e)) := by
                have hso : (sizeOf e).run P c.w = .ok (cx.size e) c.w := by rw [run_sizeOf' hd, hcs]
                have hn24 : ¬ (2 ^ 24 < len * cx.size e) := by omega
                have h1' : Instr.fill (fun j => some (j * cx.size e, cx.size e)) ((Array.range (len * cx.size e)).map ((if len * cx.size e = 0 then #[] else z.cells)[· % (if len * cx.size e = 0 then #[] else z.cells).size]!)) (parts.map fun p => (p.1, ρ p.2)).toList = some us' := by simpa using h1
                have hz' : (zeroValue e).run P c.w = .ok z c.w := by simp [zeroValue, typeInfo, hi, hz]
                have hbuild : (Instr.buildSlice t len (parts.map fun p => (p.1, ρ p.2))).run P c.w = .ok (.slice (some ⟨c.w.heap.size, 0, none⟩) len len) (c.w.alloc (.cells us' e)) := by
                  unfold Instr.buildSlice
                  rw [Sem.run_bind, run_underlying (sliceElem_eq he), Result.andThen_ok]
                  dsimp only
                  rw [Sem.run_bind, hso, Result.andThen_ok]
                  by_cases hz0 : len * cx.size e = 0
                  · simp only [hz0, if_true] at h1' ⊢
                    simp at h1'
                    simp [h1', newRow]
                  · simp only [hz0, if_false] at h1' ⊢
                    simp at h1'
                    simp [hn24, hz', h1', newRow]
                unfold execOp
                simp only [ho, Sem.run_bind]
                rw [hbuild]
                rfl
              unfold Runs
              rw [hrun]
              generalize hfn : cells.flatMap nmsL = fn at hrd ⊢
              have hcn : ∀ (j : Nat) l, cells[j]? = some l → ∀ n ∈ nmsL l, n ∉ c.D ∧ n ∈ fn := fun j l hj n hn => by
                have : n ∈ fn := by rw [← hfn]; exact List.mem_flatMap.2 ⟨l, List.mem_of_getElem? hj, hn⟩
                exact ⟨hrd n this, this⟩
              have hsrc : ∀ n ∈ fn, n ∈ c.F ∨ ∃ tk ∈ c.T, tk.nm = n ∧ ∃ s, tk.c = .inl s := fun n hn => by
                rw [← hfn] at hn
                obtain ⟨l, hl, hnl⟩ := List.mem_flatMap.1 hn
                obtain ⟨j, hj⟩ := List.getElem?_of_mem hl
                have hju : j < us'.toList.length := by rw [h2.1]; exact (List.getElem?_eq_some_iff.1 hj).1
                have hr := h2.2 j l _ hj (List.getElem?_eq_getElem hju)
                match l, hnl, hr with
                | some (.inr s), hnl, hr =>
                  have hs1 : s.own = 1 := by
                    by_cases hx : s.own = 1
                    · exact hx
                    · simp [nmsL, rdn, hx] at hnl
                  have hsn : n = s.nm := by simpa [nmsL, rdn, hs1] using hnl
                  subst hsn
                  have hD : s.nm ∉ c.D := (hcn j _ hj s.nm (by simp [nmsL, rdn, hs1])).1
                  unfold RepLS at hr
                  simp only [hs1, if_true, hD, if_false] at hr
                  by_cases h3 : s.nm ∈ c.F
                  · exact .inl h3
                  · simp only [h3, if_false] at hr
                    obtain ⟨_, tk, k1, k2, k3, _⟩ := hr
                    exact .inr ⟨tk, k1, k2, s, k3⟩
              have hfnm : ∀ n ∈ fn, Nm c n := fun n hn => by
                rcases hsrc n hn with h3 | ⟨tk, k1, k2, _⟩
                · exact .inr (.inr h3)
                · exact .inl ⟨tk, k1, k2⟩
              have hsl : ∀ tk ∈ c.T, tk.nm ∈ fn → ∃ s, tk.c = .inl s := fun tk ht hn => by
                rcases hsrc _ hn with h3 | ⟨t2, k1, k2, s, k3⟩
                · exact absurd h3 (hw.live tk ht).2
                · have := uniq_tok hw k1 ht k2
                  subst this
                  exact ⟨s, k3⟩
              -- first the rows are frozen
              have hg1 := good_frz (nm0 := nm0) (r := []) (v := junk) (u := undef) ok hw hfnm hsl (fun _ _ _ _ => trivial)
              generalize hc1 : c.nx { v := (junk : V cx.ty), dead := [], frz := fn, live := [], read := [] } c.w (c.T.filter (fun tk => !fn.contains tk.nm)) = c1 at hg1
              have hwf1 : Wf cx c1 := by rw [← hc1]; exact hg1.wf
              have hp1 : Pres cx c c1 := by rw [← hc1]; exact hg1.pres
              have hw1 : c1.w = c.w := by rw [← hc1]; rfl
              have hfz : ∀ tk ∈ c.T, tk.nm ∈ fn → ∀ b ∈ vb tk.u, Rd c1 b := by
                intro tk ht hn b hb
                have hbd := hw.bound tk ht b (List.mem_append.2 (.inl hb))
                rw [← hc1]
                refine ⟨hbd.2, .inr hbd.1, fun t2 ht2 hb2 => ?_⟩
                obtain ⟨q1, q2⟩ := List.mem_filter.1 ht2
                exact disjoint_toks hw ht q1 (fun e => by simp [← e, hn] at q2) (List.mem_append.2 (.inl hb)) (List.mem_append.2 (.inl hb2))
              have hnm1 : ∀ n, Nm c1 n → Nm c n := fun n hn => by
                rw [← hc1] at hn
                rcases hn with ⟨tk, ht, rfl⟩ | hn | hn
                · exact .inl ⟨tk, (List.mem_filter.1 ht).1, rfl⟩
                · exact .inr (.inl (by simpa [Ct.nx] using hn))
                · rcases List.mem_append.1 hn with hn | hn
                  · exact hfnm n hn
                  · exact .inr (.inr hn)
              have hf1 : ∀ n, Nm c1 n → ¬ (nm0 ≤ n ∧ n < nm0 + 64) := fun n hn => hf n (hnm1 n hn)
              -- then the new row
              have hb := below_alloc c1.w (.cells us' e)
              generalize hu' : Value.slice (some ⟨c.w.heap.size, 0, none⟩) len len = u'
              have hvb : vb u' = [c1.w.heap.size] := by rw [← hu', hw1]; rfl
              let s' : SlD cx.ty := { own := 1, nm := nm0, e := e, o := false, xs := xs }
              let tk' : Tk cx.ty := { nm := nm0, u := u', fp := [], c := .inl s' }
              have hbd : ∀ tk ∈ [tk'], ∀ b ∈ vb tk.u ++ tk.fp, c1.w.heap.size ≤ b ∧ b < (c1.w.alloc (.cells us' e)).heap.size := by
                intro tk ht b hb'
                simp only [List.mem_singleton] at ht
                subst ht
                simp only [tk', hvb, List.append_nil, List.mem_singleton] at hb'
                subst hb'
                simp
              have hg2 : Good cx c1 (purR (vs s') []) nm0 u' (c1.w.alloc (.cells us' e)) ([tk'] ++ c1.T) := by
                have hpa := pres_add (v := vs s') (r := []) hwf1 hb hbd
                refine good_add hwf1 hb hwf1.size (by simp [tk']) (by simp) (by simp [tk', hvb]) hbd hf1 (fun tk htk => ?_) ?_
                · simp only [List.mem_singleton] at htk
                  subst htk
                  have hrow : (c1.w.alloc (.cells us' e)).ownsRow 0 e (cx.size e) u' xs.length us'.toList := by
                    refine ⟨by rw [hxl]; simp [hsize], .inr ⟨c1.w.heap.size, len, us', by rw [← hu', hw1, hxl], Nat.zero_le _, heap_alloc_new c1.w _, by omega, by simp [maxLen]; omega, hsize, ?_⟩⟩
                    rw [hxl, List.take_of_length_le]
                    simp [hsize]
                  have hall : ∀ (j : Nat) a u, (xs.flatMap (cx.enc e false))[j]? = some a → us'.toList[j]? = some u → ∃ n, RepL cx (c1.w.alloc (.cells us' e)) (Rd (c1.nx (purR (vs s') []) (c1.w.alloc (.cells us' e)) ([tk'] ++ c1.T))) n a u := by
                    intro j a u g1 g2
                    rw [← hxe, List.getElem?_map] at g1
                    cases hfr : (frLs (mksF P e len) cells)[j]? with
                    | none => rw [hfr] at g1; simp at g1
                    | some b =>
                      rw [hfr] at g1
                      simp only [Option.map_some, Option.some.injEq] at g1
                      subst g1
                      obtain ⟨l0, mk, q1, rfl⟩ := frLs_get _ _ _ _ hfr
                      obtain ⟨n, hn⟩ := frL_rep ok hw hw1 hp1 hfz (mk := mk) (h2.2 j l0 u q1 g2) (hcn j l0 q1)
                      exact ⟨n, (RepL_weak cx false).2 (RepL.pres cx hpa hn)⟩
                  obtain ⟨n, hn⟩ := rep_uni _ _ hall
                  unfold TokRep
                  simp only [tk', s']
                  refine ⟨by rw [← hu']; rfl, ?_⟩
                  rw [if_neg (by decide)]
                  exact ⟨trivial, us'.toList, n, hrow, by rw [hflen, hxl]; simp [hsize], hn⟩
                · refine repLS_tok (s := s') rfl ?_ ?_ (List.mem_append.2 (.inl (List.mem_singleton.2 rfl))) rfl rfl rfl ⟨_, _, _, hu'.symm⟩
                  · exact fun hd => hf1 _ (.inr (.inl hd)) ⟨Nat.le_refl _, by show nm0 < nm0 + 64; omega⟩
                  · exact fun hd => hf1 _ (.inr (.inr hd)) ⟨Nat.le_refl _, by show nm0 < nm0 + 64; omega⟩
              refine ⟨[tk'] ++ c1.T, ?_⟩
              have hcc : c.nx { v := vs s', dead := [], frz := fn, live := [], read := fn } (c.w.alloc (.cells us' e)) ([tk'] ++ c1.T) = c1.nx (purR (vs s') []) (c1.w.alloc (.cells us' e)) ([tk'] ++ c1.T) := by
                rw [← hc1]; rfl
              refine ⟨?_, ?_, ?_, ?_, fun n hn => ?_⟩
              · rw [hcc]; exact hg2.wf
              · rw [hcc]; exact hp1.trans hg2.pres
              · rw [hcc]; exact hg2.rep
              · have := hg2.below
                rw [← hc1] at this
                exact this
              · rw [hcc] at hn
                rcases hg2.names n hn with h3 | h3
                · exact .inl (hnm1 n h3)
                · exact .inr h3
            · simp at h
          · simp at h
        · simp at h
      · simp at h
    · simp at h
  · simp at h

def evBuildAny {β : Type} (P : Program) (cx : Cx) (slots : List (V cx.ty)) (t : TypeId) (len : Nat) (parts : List (Nat × Operand)) (nm0 : Nat) (k : Eff cx.ty → Option β) : Option β :=
  match sliceElem P t with
  | some e => if cx.flat e then evBuildSlice P cx slots t len parts nm0 k else evBuildRows P cx slots t len parts nm0 k
  | none => none

theorem evBuildAny_ok (ok : cx.Ok) (hZ : cx.POk P) {β : Type} {o : Oper} {slots : List (V cx.ty)} {nm0 : Nat} {t : TypeId} {len : Nat} {parts : Array (Nat × Operand)} (ho : o.op = .buildSlice t len parts) {k : Eff cx.ty → Option β} {r : β}
    (h : evBuildAny P cx slots t len parts.toList nm0 k = some r) : ∃ ef, k ef = some r ∧ EffOK P cx o slots nm0 ef := by
  unfold evBuildAny at h
  split at h
  · split at h
    · exact evBuildSlice_ok ok hZ ho h
    · exact evBuildRows_ok ok ho h
  · simp at h

end
end Go.VM
