/- A part of the proof of FnExactVerdictFor: VmA9, VmA10, VmA11, VmA12, VmA13, VmA14, VmA15, VmA16. -/
import Derived.Test.YtklmlomaleaaaaaVmA4
set_option linter.unusedVariables false
namespace Go.VM
open Go.RowKit
section
variable {cx : Cx} {P : Program}

/-! ### A slice written out whose elements are rows: the rows are read alone from there on -/
theorem Pres.trans {a b c : Ct cx.ty} (h : Pres cx a b) (k : Pres cx b c) : Pres cx a c := by
  refine ⟨fun x hx => ⟨(k.rd x (h.rd x hx).1).1, (k.rd x (h.rd x hx).1).2.trans (h.rd x hx).2⟩, fun n hn => k.dead n (h.dead n hn), fun n hn => k.frz n (h.frz n hn), fun tk ht hD hF => ?_, fun tk ht l hl => k.box tk (h.box tk ht l hl) l hl, fun tk ht s hs hD hF => ?_⟩
  · exact k.tok tk (h.tok tk ht (fun hx => hD (k.dead _ hx)) (fun hx => hF (k.frz _ hx))) hD hF
  · by_cases hb : tk.nm ∈ b.F
    · obtain ⟨n, hn⟩ := h.froze tk ht s hs (fun hx => hD (k.dead _ hx)) hb
      exact ⟨n, RepL.pres cx k hn⟩
    · exact k.froze tk (h.tok tk ht (fun hx => hD (k.dead _ hx)) hb) s hs hD hF

theorem RepL_up {w : World} {S : Nat → Prop} (d : Nat) : ∀ {n : Nat} {l : L cx.ty} {u : Value}, RepL cx w S n l u → RepL cx w S (n + d) l u := by
  induction d with
  | zero => intro n l u h; exact h
  | succ d ih => intro n l u h; exact RepL_succ cx _ _ _ (ih h)

theorem rep_uni {w : World} {S : Nat → Prop} : ∀ (l : List (L cx.ty)) (us : List Value), (∀ (j : Nat) a u, l[j]? = some a → us[j]? = some u → ∃ n, RepL cx w S n a u) → ∃ n, ∀ (j : Nat) a u, l[j]? = some a → us[j]? = some u → RepL cx w S n a u
  | [], _, _ => ⟨0, fun j a u h => by simp at h⟩
  | _ :: _, [], _ => ⟨0, fun j a u _ h => by simp at h⟩
  | a :: r, u :: us, h => by
    obtain ⟨n, hn⟩ := h 0 a u rfl rfl
    obtain ⟨m, hm⟩ := rep_uni r us (fun j b v e1 e2 => h (j + 1) b v (by simpa using e1) (by simpa using e2))
    refine ⟨n + m, fun j b v e1 e2 => ?_⟩
    cases j with
    | zero =>
      simp only [List.getElem?_cons_zero, Option.some.injEq] at e1 e2
      subst e1; subst e2
      exact RepL_up m hn
    | succ j =>
      rw [Nat.add_comm]
      exact RepL_up n (hm j b v (by simpa using e1) (by simpa using e2))

def nmsL {ty : Nat → Type} : L ty → List Nat
  | some (.inr s) => rdn s
  | _ => []

def frL {ty : Nat → Type} (mk : Option Nat) (l : L ty) : L ty :=
  match l with
  | some (.inl v) => match v, mk with
    | .slice none 0 0, some e => ls (ro e [])
    | v, _ => lv v
  | some (.inr s) => ls (ro s.e s.xs)
  | none => none

def frLs {ty : Nat → Type} : List (Option Nat) → List (L ty) → List (L ty)
  | _, [] => []
  | mks, l :: r => frL (mks.headD none) l :: frLs mks.tail r

theorem frLs_length {ty : Nat → Type} : ∀ (mks : List (Option Nat)) (l : List (L ty)), (frLs mks l).length = l.length
  | _, [] => rfl
  | mks, l :: r => by simp [frLs, frLs_length mks.tail r]

theorem frLs_get {ty : Nat → Type} : ∀ (mks : List (Option Nat)) (l : List (L ty)) (j : Nat) (a : L ty), (frLs mks l)[j]? = some a → ∃ b mk, l[j]? = some b ∧ a = frL mk b
  | _, [], j, a, h => by simp [frLs] at h
  | mks, l :: r, 0, a, h => by
    simp only [frLs, List.getElem?_cons_zero, Option.some.injEq] at h
    exact ⟨l, _, rfl, h.symm⟩
  | mks, l :: r, j + 1, a, h => by
    obtain ⟨b, mk, h1, h2⟩ := frLs_get mks.tail r j a (by simpa [frLs] using h)
    exact ⟨b, mk, by simpa using h1, h2⟩

theorem repL_flip {w : World} {S : Nat → Prop} {n : Nat} {s : SlD cx.ty} {u : Value} (h : RepL cx w S n (some (.inr s)) u) : RepL cx w S n (some (.inr (ro s.e s.xs))) u := by
  cases n with
  | zero => simp [RepL] at h
  | succ n => exact h

theorem frL_rep (ok : cx.Ok) {c c1 : Ct cx.ty} (hw : Wf cx c) (hw1 : c1.w = c.w) (hp : Pres cx c c1) {fn : List Nat} (hfz : ∀ tk ∈ c.T, tk.nm ∈ fn → ∀ b ∈ vb tk.u, Rd c1 b) {l : L cx.ty} {mk : Option Nat} {u : Value} (h : RepLS cx c l u) (hd : ∀ n ∈ nmsL l, n ∉ c.D ∧ n ∈ fn) :
    ∃ n, RepL cx c1.w (Rd c1) n (frL mk l) u := by
  match l, h, hd with
  | none, _, _ => exact ⟨0, by simp [frL, RepL]⟩
  | some (.inl v), h, _ =>
    have h : u = v := h
    subst h
    unfold frL
    split
    · rename_i l' v' hv
      simp only [Option.some.injEq, Sum.inl.injEq] at hv
      subst hv
      split
      · exact ⟨1, none, 0, rfl, Nat.le_refl _, .inl rfl⟩
      · exact ⟨0, by simp [lv, RepL]⟩
    · rename_i hv; simp at hv
    · rename_i hv; simp at hv
  | some (.inr s), h, hd =>
    unfold RepLS at h
    by_cases h1 : s.own = 1
    · have hn := hd s.nm (by simp [nmsL, rdn, h1])
      simp only [h1, if_true, hn.1, if_false] at h
      obtain ⟨_, h⟩ := h
      by_cases h3 : s.nm ∈ c.F
      · simp only [h3, if_true] at h
        obtain ⟨n, h⟩ := h
        exact ⟨n, repL_flip (RepL.pres cx hp h)⟩
      · simp only [h3, if_false] at h
        obtain ⟨tk, ht, hnm, hc, hu⟩ := h
        obtain ⟨n, h⟩ := tok_any ok hw ht hc (S := Rd c1) (fun b hb => (hp.rd b hb).1) (hfz tk ht (by rw [hnm]; exact hn.2))
        rw [hu] at h
        refine ⟨n, ?_⟩
        rw [hw1]
        exact repL_flip h
    · simp only [h1, if_false] at h
      obtain ⟨n, h⟩ := h
      exact ⟨n, repL_flip (RepL.pres cx hp h)⟩

def mksF (P : Program) (e len : Nat) : List (Option Nat) := List.flatten (List.replicate len ((leafTypes P 8 e).map (sliceElem P)))

def evBuildRows {β : Type} (P : Program) (cx : Cx) (slots : List (V cx.ty)) (t : TypeId) (len : Nat) (parts : List (Nat × Operand)) (nm0 : Nat) (k : Eff cx.ty → Option β) : Option β :=
  match sliceElem P t with
  | some e => if elemOk P cx e && decide (len * cx.size e ≤ 1000000) && decide (len ≤ 1000000) then
      match P.info? e with
      | some i => match i.zero with
        | some z => match fillA (fun j => some (j * cx.size e, cx.size e)) (zeroL (if len * cx.size e = 0 then #[] else z.cells) (len * cx.size e)) (parts.map fun (j, x) => (j, getV slots x)) with
          | some cells => match decN cx e len (frLs (mksF P e len) cells) with
            | some xs => k { v := vs { own := 1, nm := nm0, e := e, o := false, xs := xs }, dead := [], frz := cells.flatMap nmsL, live := [], read := cells.flatMap nmsL }
            | none => none
          | none => none
        | none => none
      | none => none
    else none
  | none => none

theorem evBuildRows_ok (ok : cx.Ok) {β : Type} {o : Oper} {slots : List (V cx.ty)} {nm0 : Nat} {t : TypeId} {len : Nat} {parts : Array (Nat × Operand)} (ho : o.op = .buildSlice t len parts) {k : Eff cx.ty → Option β} {r : β}
    (h : evBuildRows P cx slots t len parts.toList nm0 k = some r) : ∃ ef, k ef = some r ∧ EffOK P cx o slots nm0 ef := by
  unfold evBuildRows at h
  split at h
  · rename_i e he
    split at h
    · rename_i hc
      simp only [Bool.and_eq_true, decide_eq_true_eq] at hc
      obtain ⟨⟨hel, hlen⟩, hlen2⟩ := hc
      obtain ⟨⟨d, hd⟩, hcs⟩ := elemOk_spec hel
      split at h
      · rename_i i hi
        split at h
        · rename_i z hz
          split at h
          · rename_i cells hcells
            split at h
            · rename_i xs hxs
              refine ⟨_, h, ⟨fun c ρ hw hop _ hrd hf => ?_⟩⟩
              obtain ⟨us', h1, h2⟩ := fillA_rep (c := c) (parts.toList.map fun p => (p.1, getV slots p.2)) (parts.toList.map fun p => (p.1, ρ p.2)) (zeroL (if len * cx.size e = 0 then #[] else z.cells) (len * cx.size e)) ((Array.range (len * cx.size e)).map ((if len * cx.size e = 0 then #[] else z.cells)[· % (if len * cx.size e = 0 then #[] else z.cells).size]!)) cells (lv_rep _) (by simp) (fun j p q e1 e2 => by
                simp only [List.getElem?_map] at e1 e2
                cases hx : parts.toList[j]? with
                | none => simp [hx] at e1
                | some x =>
                  simp only [hx, Option.map_some, Option.some.injEq] at e1 e2
                  subst e1; subst e2
                  refine ⟨rfl, hop x.2 ?_⟩
                  simp only [ho, Op.operands, List.mem_toArray, List.mem_map]
                  exact ⟨x, List.mem_of_getElem? hx, rfl⟩) hcells
              obtain ⟨hxl, hxe⟩ := decN_spec ok false len (frLs (mksF P e len) cells) xs hxs
              have hflen := flat_len (cx.enc e false) (cx.size e) (fun x => ok.len e false x) xs
              have hclen : cells.length = len * cx.size e := by
                have := congrArg List.length hxe
                rw [List.length_map, frLs_length, hflen, hxl] at this
                exact this
              have hsize : us'.size = len * cx.size e := by
                have := h2.1
                simp at this
                omega
              have hrun : (execOp ρ o).run P c.w = .ok (.value (.slice (some ⟨c.w.heap.size, 0, none⟩) len len)) (c.w.alloc (.cells us' e)) := by
                have hso : (sizeOf e).run P c.w = .ok (cx.size e) c.w := by rw [run_sizeOf' hd, hcs]
                have hn24 : ¬ (2 ^ 24 < len * cx.size e) := by omega
                have h1' : Instr.fill (fun j => some (j * cx.size e, cx.size e)) ((Array.range (len * cx.size e)).map ((if len * cx.size e = 0 then #[] else z.cells)[· % (if len * cx.size e = 0 then #[] else z.cells).size]!)) (parts.map fun p => (p.1, ρ p.2)).toList = some us' := by simpa using h1
                have hz' : (zeroValue e).run P c.w = .ok z c.w := by simp [zeroValue, typeInfo, hi, hz]
                have hbuild : (Instr.buildSlice t len (parts.map fun p => (p.1, ρ p.2))).run P c.w = .ok (.slice (some ⟨c.w.heap.size, 0, none⟩) len len) (c.w.alloc (.cells us' e)) := by
                  unfold Instr.buildSlice
                  rw [Sem.run_bind, run_underlying (sliceElem_eq he), Result.andThen_ok]
                  dsimp only
                  rw [Sem.run_bind, hso, Result.andThen_ok]
                  by_cases hz0 : len * cx.size e = 0
                  · simp only [hz0, if_true] at h1' ⊢
                    simp at h1'
                    simp [h1', newRow]
                  · simp only [hz0, if_false] at h1' ⊢
                    simp at h1'
                    simp [hn24, hz', h1', newRow]
                unfold execOp
                simp only [ho, Sem.run_bind]
                rw [hbuild]
                rfl
              unfold Runs
              rw [hrun]
              generalize hfn : cells.flatMap nmsL = fn at hrd ⊢
              have hcn : ∀ (j : Nat) l, cells[j]? = some l → ∀ n ∈ nmsL l, n ∉ c.D ∧ n ∈ fn := fun j l hj n hn => by
                have : n ∈ fn := by rw [← hfn]; exact List.mem_flatMap.2 ⟨l, List.mem_of_getElem? hj, hn⟩
                exact ⟨hrd n this, this⟩
              have hsrc : ∀ n ∈ fn, n ∈ c.F ∨ ∃ tk ∈ c.T, tk.nm = n ∧ ∃ s, tk.c = .inl s := fun n hn => by
                rw [← hfn] at hn
                obtain ⟨l, hl, hnl⟩ := List.mem_flatMap.1 hn
                obtain ⟨j, hj⟩ := List.getElem?_of_mem hl
                have hju : j < us'.toList.length := by rw [h2.1]; exact (List.getElem?_eq_some_iff.1 hj).1
                have hr := h2.2 j l _ hj (List.getElem?_eq_getElem hju)
                match l, hnl, hr with
                | some (.inr s), hnl, hr =>
                  have hs1 : s.own = 1 := by
                    by_cases hx : s.own = 1
                    · exact hx
                    · simp [nmsL, rdn, hx] at hnl
                  have hsn : n = s.nm := by simpa [nmsL, rdn, hs1] using hnl
                  subst hsn
                  have hD : s.nm ∉ c.D := (hcn j _ hj s.nm (by simp [nmsL, rdn, hs1])).1
                  unfold RepLS at hr
                  simp only [hs1, if_true, hD, if_false] at hr
                  by_cases h3 : s.nm ∈ c.F
                  · exact .inl h3
                  · simp only [h3, if_false] at hr
                    obtain ⟨_, tk, k1, k2, k3, _⟩ := hr
                    exact .inr ⟨tk, k1, k2, s, k3⟩
              have hfnm : ∀ n ∈ fn, Nm c n := fun n hn => by
                rcases hsrc n hn with h3 | ⟨tk, k1, k2, _⟩
                · exact .inr (.inr h3)
                · exact .inl ⟨tk, k1, k2⟩
              have hsl : ∀ tk ∈ c.T, tk.nm ∈ fn → ∃ s, tk.c = .inl s := fun tk ht hn => by
                rcases hsrc _ hn with h3 | ⟨t2, k1, k2, s, k3⟩
                · exact absurd h3 (hw.live tk ht).2
                · have := uniq_tok hw k1 ht k2
                  subst this
                  exact ⟨s, k3⟩
              -- first the rows are frozen
              have hg1 := good_frz (nm0 := nm0) (r := []) (v := junk) (u := undef) ok hw hfnm hsl (fun _ _ _ _ => trivial)
              generalize hc1 : c.nx { v := (junk : V cx.ty), dead := [], frz := fn, live := [], read := [] } c.w (c.T.filter (fun tk => !fn.contains tk.nm)) = c1 at hg1
              have hwf1 : Wf cx c1 := by rw [← hc1]; exact hg1.wf
              have hp1 : Pres cx c c1 := by rw [← hc1]; exact hg1.pres
              have hw1 : c1.w = c.w := by rw [← hc1]; rfl
              have hfz : ∀ tk ∈ c.T, tk.nm ∈ fn → ∀ b ∈ vb tk.u, Rd c1 b := by
                intro tk ht hn b hb
                have hbd := hw.bound tk ht b (List.mem_append.2 (.inl hb))
                rw [← hc1]
                refine ⟨hbd.2, .inr hbd.1, fun t2 ht2 hb2 => ?_⟩
                obtain ⟨q1, q2⟩ := List.mem_filter.1 ht2
                exact disjoint_toks hw ht q1 (fun e => by simp [← e, hn] at q2) (List.mem_append.2 (.inl hb)) (List.mem_append.2 (.inl hb2))
              have hnm1 : ∀ n, Nm c1 n → Nm c n := fun n hn => by
                rw [← hc1] at hn
                rcases hn with ⟨tk, ht, rfl⟩ | hn | hn
                · exact .inl ⟨tk, (List.mem_filter.1 ht).1, rfl⟩
                · exact .inr (.inl (by simpa [Ct.nx] using hn))
                · rcases List.mem_append.1 hn with hn | hn
                  · exact hfnm n hn
                  · exact .inr (.inr hn)
              have hf1 : ∀ n, Nm c1 n → ¬ (nm0 ≤ n ∧ n < nm0 + 64) := fun n hn => hf n (hnm1 n hn)
              -- then the new row
              have hb := below_alloc c1.w (.cells us' e)
              generalize hu' : Value.slice (some ⟨c.w.heap.size, 0, none⟩) len len = u'
              have hvb : vb u' = [c1.w.heap.size] := by rw [← hu', hw1]; rfl
              let s' : SlD cx.ty := { own := 1, nm := nm0, e := e, o := false, xs := xs }
              let tk' : Tk cx.ty := { nm := nm0, u := u', fp := [], c := .inl s' }
              have hbd : ∀ tk ∈ [tk'], ∀ b ∈ vb tk.u ++ tk.fp, c1.w.heap.size ≤ b ∧ b < (c1.w.alloc (.cells us' e)).heap.size := by
                intro tk ht b hb'
                simp only [List.mem_singleton] at ht
                subst ht
                simp only [tk', hvb, List.append_nil, List.mem_singleton] at hb'
                subst hb'
                simp
              have hg2 : Good cx c1 (purR (vs s') []) nm0 u' (c1.w.alloc (.cells us' e)) ([tk'] ++ c1.T) := by
                have hpa := pres_add (v := vs s') (r := []) hwf1 hb hbd
                refine good_add hwf1 hb hwf1.size (by simp [tk']) (by simp) (by simp [tk', hvb]) hbd hf1 (fun tk htk => ?_) ?_
                · simp only [List.mem_singleton] at htk
                  subst htk
                  have hrow : (c1.w.alloc (.cells us' e)).ownsRow 0 e (cx.size e) u' xs.length us'.toList := by
                    refine ⟨by rw [hxl]; simp [hsize], .inr ⟨c1.w.heap.size, len, us', by rw [← hu', hw1, hxl], Nat.zero_le _, heap_alloc_new c1.w _, by omega, by simp [maxLen]; omega, hsize, ?_⟩⟩
                    rw [hxl, List.take_of_length_le]
                    simp [hsize]
                  have hall : ∀ (j : Nat) a u, (xs.flatMap (cx.enc e false))[j]? = some a → us'.toList[j]? = some u → ∃ n, RepL cx (c1.w.alloc (.cells us' e)) (Rd (c1.nx (purR (vs s') []) (c1.w.alloc (.cells us' e)) ([tk'] ++ c1.T))) n a u := by
                    intro j a u g1 g2
                    rw [← hxe, List.getElem?_map] at g1
                    cases hfr : (frLs (mksF P e len) cells)[j]? with
                    | none => rw [hfr] at g1; simp at g1
                    | some b =>
                      rw [hfr] at g1
                      simp only [Option.map_some, Option.some.injEq] at g1
                      subst g1
                      obtain ⟨l0, mk, q1, rfl⟩ := frLs_get _ _ _ _ hfr
                      obtain ⟨n, hn⟩ := frL_rep ok hw hw1 hp1 hfz (mk := mk) (h2.2 j l0 u q1 g2) (hcn j l0 q1)
                      exact ⟨n, (RepL_weak cx false).2 (RepL.pres cx hpa hn)⟩
                  obtain ⟨n, hn⟩ := rep_uni _ _ hall
                  unfold TokRep
                  simp only [tk', s']
                  refine ⟨by rw [← hu']; rfl, ?_⟩
                  rw [if_neg (by decide)]
                  exact ⟨trivial, us'.toList, n, hrow, by rw [hflen, hxl]; simp [hsize], hn⟩
                · refine repLS_tok (s := s') rfl ?_ ?_ (List.mem_append.2 (.inl (List.mem_singleton.2 rfl))) rfl rfl rfl ⟨_, _, _, hu'.symm⟩
                  · exact fun hd => hf1 _ (.inr (.inl hd)) ⟨Nat.le_refl _, by show nm0 < nm0 + 64; omega⟩
                  · exact fun hd => hf1 _ (.inr (.inr hd)) ⟨Nat.le_refl _, by show nm0 < nm0 + 64; omega⟩
              refine ⟨[tk'] ++ c1.T, ?_⟩
              have hcc : c.nx { v := vs s', dead := [], frz := fn, live := [], read := fn } (c.w.alloc (.cells us' e)) ([tk'] ++ c1.T) = c1.nx (purR (vs s') []) (c1.w.alloc (.cells us' e)) ([tk'] ++ c1.T) := by
                rw [← hc1]; rfl
              refine ⟨?_, ?_, ?_, ?_, fun n hn => ?_⟩
              · rw [hcc]; exact hg2.wf
              · rw [hcc]; exact hp1.trans hg2.pres
              · rw [hcc]; exact hg2.rep
              · have := hg2.below
                rw [← hc1] at this
                exact this
              · rw [hcc] at hn
                rcases hg2.names n hn with h3 | h3
                · exact .inl (hnm1 n h3)
                · exact .inr h3
            · simp at h
          · simp at h
        · simp at h
      · simp at h
    · simp at h
  · simp at h

end
end Go.VM

namespace Go.VM
open Go.RowKit
section
variable {cx : Cx} {P : Program}

/-! ### Bytes as a string -/
def byteOf : Value → Int
  | .int _ n => n
  | _ => 0

def strV (vs : List Value) : ByteArray := (vs.map byteOf).foldl (fun r n => r.push (UInt8.ofNat n.toNat)) ByteArray.empty

def isU8 (P : Program) (e : TypeId) : Bool := match P.underlying e with
  | some (.int .u8) => true
  | _ => false

def isStr (P : Program) (t : TypeId) : Bool := match P.underlying t with
  | some .string => true
  | _ => false

theorem isU8_eq {e : TypeId} (h : isU8 P e = true) : P.underlying e = some (.int .u8) := by
  unfold isU8 at h
  split at h
  · assumption
  · simp at h

theorem isStr_eq {e : TypeId} (h : isStr P e = true) : P.underlying e = some .string := by
  unfold isStr at h
  split at h
  · assumption
  · simp at h

def evConv {β : Type} (P : Program) (cx : Cx) (o : Oper) (slots : List (V cx.ty)) (src dst : TypeId) (x : Operand) (k : Eff cx.ty → Option β) : Option β :=
  match getV slots x, sliceElem P src with
  | .inl (.inl (some (.inr s))), some e => if isU8 P e && isStr P dst && s.e == e && cx.dom e && cx.flat e then k (purR (vv (.string (strV (flatVals cx s.e s.xs)))) (rdn s)) else none
  | _, _ => evGen P o slots k

theorem evConv_ok (ok : cx.Ok) (hZ : cx.POk P) {β : Type} {o : Oper} {slots : List (V cx.ty)} {nm0 : Nat} {src dst : TypeId} {x : Operand} (ho : o.op = .convert src dst x) {k : Eff cx.ty → Option β} {r : β}
    (h : evConv P cx o slots src dst x k = some r) : ∃ ef, k ef = some r ∧ EffOK P cx o slots nm0 ef := by
  unfold evConv at h
  split at h
  · rename_i s e hx he
    split at h
    · rename_i hc
      simp only [Bool.and_eq_true, beq_iff_eq] at hc
      obtain ⟨⟨⟨⟨hu, hst⟩, rfl⟩, hdom⟩, hflat⟩ := hc
      have hu := isU8_eq hu
      have hst := isStr_eq hst
      refine ⟨_, h, effok_pur fun c ρ hw hop hrd => ?_⟩
      have hr := hop x (by simp [ho, Op.operands])
      rw [hx] at hr
      have hsz : cx.size s.e = 1 := by
        obtain ⟨n, hn⟩ := hZ.u8 s.e hdom hu true (cx.dflt s.e)
        rw [← ok.len s.e true (cx.dflt s.e), hn]
        rfl
      have hr : RepLS cx c (some (.inr s)) (ρ x) := hr
      obtain ⟨a, cap, hu2, hcells⟩ := rep_cells ok hw hflat (by omega) hr hrd
      have hmap : (((flatVals cx s.e s.xs).map byteOf).map (Value.int .u8)) = flatVals cx s.e s.xs := by
        rw [List.map_map]
        have hall : ∀ v ∈ flatVals cx s.e s.xs, (Value.int .u8 ∘ byteOf) v = v := by
          intro v hv
          unfold flatVals at hv
          obtain ⟨l, hl, hlv⟩ := List.mem_filterMap.1 hv
          obtain ⟨y, hy, hly⟩ := List.mem_flatMap.1 hl
          obtain ⟨n, hn⟩ := hZ.u8 s.e hdom hu true y
          rw [hn] at hly
          simp only [List.mem_singleton] at hly
          subst hly
          simp only [lv, leafVal, Option.some.injEq] at hlv
          subst hlv
          rfl
        exact (List.map_congr_left hall).trans (List.map_id _)
      refine ⟨.string (strV (flatVals cx s.e s.xs)), ?_, rfl⟩
      have hlen := flatVals_len ok hflat s.xs
      have hb : (Conv.bytesToString (.slice a s.xs.length cap)).run P c.w = .ok (.string (strV (flatVals cx s.e s.xs))) c.w := by
        cases a with
        | none =>
          rcases hcells with h0 | ⟨ad, had, _⟩
          · have : flatVals cx s.e s.xs = [] := List.eq_nil_of_length_eq_zero (by rw [hlen, h0]; simp)
            rw [this]
            simp [Conv.bytesToString, strV]
          · cases had
        | some ad =>
          have hload : (loadCells ad s.xs.length).run P c.w = .ok (((flatVals cx s.e s.xs).map byteOf).map (Value.int .u8)).toArray c.w := by
            rw [hmap]
            have := run_loadCells_list (P := P) c.w ad (flatVals cx s.e s.xs) (fun j v hj => by
              rcases hcells with h0 | ⟨ad2, had, hc2⟩
              · have : flatVals cx s.e s.xs = [] := List.eq_nil_of_length_eq_zero (by rw [hlen, h0]; simp)
                rw [this] at hj
                simp at hj
              · simp only [Option.some.injEq] at had
                subst had
                exact hc2 j v hj)
            rw [hlen, hsz, Nat.mul_one] at this
            exact this
          exact run_bytesToString c.w ad _ cap _ hload
      unfold execOp
      simp only [ho, Sem.run_bind]
      rw [hu2, run_convert_bytes_string c.w src dst s.e a _ cap (sliceElem_eq he) hu hst, hb]
      rfl
    · simp at h
  · exact evGen_ok h

end
end Go.VM

namespace Go.VM
open Go.RowKit
section
variable {cx : Cx} {P : Program}

/-! ### Rows that own rows: written out -/
theorem OwnL_succ {w : World} : ∀ (n : Nat) (l : L cx.ty) (u : Value) (fp : List Nat), OwnL cx w n l u fp → OwnL cx w (n + 1) l u fp
  | _, none, _, _, h => by simp [OwnL] at h
  | n, some (.inl v), u, fp, h => by
    cases n <;> simpa [OwnL] using h
  | 0, some (.inr _), _, _, h => by simp [OwnL] at h
  | n + 1, some (.inr s), u, fp, h => by
    obtain ⟨us, fpl, h1, h2, h3, h4, h5⟩ := h
    exact ⟨us, fpl, h1, h2, h3, h4, fun j l c f a b d => OwnL_succ n l c f (h5 j l c f a b d)⟩

theorem OwnL_up {w : World} (d : Nat) : ∀ {n : Nat} {l : L cx.ty} {u : Value} {fp : List Nat}, OwnL cx w n l u fp → OwnL cx w (n + d) l u fp := by
  induction d with
  | zero => intro n l u fp h; exact h
  | succ d ih => intro n l u fp h; exact OwnL_succ _ _ _ _ (ih h)

/-- A piece that goes into another thing, and its name. -/
def intoL {ty : Nat → Type} (mk : Option Nat) (l : L ty) : Option (L ty × List Nat) :=
  match l with
  | some (.inl v) => match v, mk with
    | .slice none 0 0, some e => some (ls { own := 2, nm := 0, e := e, o := true, xs := [] }, [])
    | v, _ => some (lv v, [])
  | some (.inr s) => if s.own == 1 && s.o then some (ls { own := 2, nm := 0, e := s.e, o := true, xs := s.xs }, [s.nm]) else none
  | none => none

def intoLs {ty : Nat → Type} : List (Option Nat) → List (L ty) → Option (List (L ty) × List Nat)
  | _, [] => some ([], [])
  | mks, l :: r => match intoL (mks.headD none) l, intoLs mks.tail r with
    | some (a, n), some (as, ns) => some (a :: as, n ++ ns)
    | _, _ => none

def GivesO (c : Ct cx.ty) (ns : List Nat) (fp : List Nat) : Prop := ∃ tks : List (Tk cx.ty), tks.map (·.nm) = ns ∧ (∀ tk ∈ tks, tk ∈ c.T ∧ ∃ s, tk.c = .inl s) ∧ fp = tks.flatMap blocks

theorem GivesO.nil (c : Ct cx.ty) : GivesO c [] [] := ⟨[], rfl, by simp, rfl⟩
theorem GivesO.app {c : Ct cx.ty} {a b f g : List Nat} (h1 : GivesO c a f) (h2 : GivesO c b g) : GivesO c (a ++ b) (f ++ g) := by
  obtain ⟨t1, p1, q1, r1⟩ := h1
  obtain ⟨t2, p2, q2, r2⟩ := h2
  exact ⟨t1 ++ t2, by simp [p1, p2], fun tk ht => (List.mem_append.1 ht).elim (q1 tk) (q2 tk), by rw [List.flatMap_append, r1, r2]⟩

theorem intoL_rep {c : Ct cx.ty} (hw : Wf cx c) {mk : Option Nat} {l l' : L cx.ty} {n : List Nat} (ha : intoL mk l = some (l', n)) {u : Value} (h : RepLS cx c l u) (hd : ∀ k ∈ n, k ∉ c.D ∧ k ∉ c.F) :
    weak true l' = l' ∧ ∃ m fp, OwnL cx c.w m l' u fp ∧ GivesO c n fp := by
  unfold intoL at ha
  split at ha
  · rename_i v
    have h : u = v := h
    subst h
    split at ha
    · simp only [Option.some.injEq, Prod.mk.injEq] at ha
      obtain ⟨rfl, rfl⟩ := ha
      exact ⟨rfl, 1, [], ⟨[], [], World.ownsRow_nil _ _ _ _, rfl, rfl, rfl, fun j l c f h => by simp at h⟩, GivesO.nil c⟩
    · simp only [Option.some.injEq, Prod.mk.injEq] at ha
      obtain ⟨rfl, rfl⟩ := ha
      exact ⟨rfl, 0, [], ⟨rfl, rfl⟩, GivesO.nil c⟩
  · rename_i s
    split at ha
    · rename_i hc
      simp only [Bool.and_eq_true, beq_iff_eq] at hc
      simp only [Option.some.injEq, Prod.mk.injEq] at ha
      obtain ⟨rfl, rfl⟩ := ha
      have h2 := hd s.nm (by simp)
      unfold RepLS at h
      simp only [hc.1, if_true, h2.1, h2.2, if_false] at h
      obtain ⟨_, tk, ht, hn, hcc, hu⟩ := h
      have htr := hw.rep tk ht
      unfold TokRep at htr
      rw [hcc] at htr
      simp only [hc.2, if_true] at htr
      obtain ⟨hv, m, htr⟩ := htr
      refine ⟨rfl, m, blocks tk, ?_, [tk], by simp [hn], by simp only [List.mem_singleton]; rintro _ rfl; exact ⟨ht, s, hcc⟩, by simp⟩
      rw [← hu]
      cases m with
      | zero => simp [OwnL] at htr
      | succ m => exact htr
    · simp at ha
  · simp at ha

theorem intoLs_rep {c : Ct cx.ty} (hw : Wf cx c) : ∀ (mks : List (Option Nat)) (l l' : List (L cx.ty)) (n : List Nat) (us : List Value), intoLs mks l = some (l', n) → RepLs cx c l us → (∀ k ∈ n, k ∉ c.D ∧ k ∉ c.F) →
    l'.map (weak true) = l' ∧ l'.length = l.length ∧ ∃ m fpl, fpl.length = l.length ∧ (∀ (j : Nat) a u f, l'[j]? = some a → us[j]? = some u → fpl[j]? = some f → OwnL cx c.w m a u f) ∧ GivesO c n (List.flatten fpl)
  | mks, [], l', n, us, ha, h, _ => by
    simp only [intoLs, Option.some.injEq, Prod.mk.injEq] at ha
    obtain ⟨rfl, rfl⟩ := ha
    exact ⟨rfl, rfl, 0, [], rfl, fun j a u f h1 => by simp at h1, GivesO.nil c⟩
  | mks, l :: r, l', n, us, ha, h, hd => by
    simp only [intoLs] at ha
    split at ha
    · rename_i a n1 as ns e1 e2
      simp only [Option.some.injEq, Prod.mk.injEq] at ha
      obtain ⟨rfl, rfl⟩ := ha
      match us, h with
      | [], h => simp [RepLs] at h
      | u :: us, h =>
        obtain ⟨w1, m1, f, k1, k2⟩ := intoL_rep hw e1 (h.2 0 l u rfl rfl) (fun k hk => hd k (List.mem_append.2 (.inl hk)))
        obtain ⟨w2, len2, m2, fpl, k3, k4, k5⟩ := intoLs_rep hw mks.tail r as ns us e2 ⟨by have := h.1; simpa using this, fun j a b h1 h2 => h.2 (j + 1) a b (by simpa using h1) (by simpa using h2)⟩ (fun k hk => hd k (List.mem_append.2 (.inr hk)))
        refine ⟨by simp [w1, w2], by simp [len2], m1 + m2, f :: fpl, by simp [k3], fun j a' u' f' h1 h2 h3 => ?_, by rw [List.flatten_cons]; exact k2.app k5⟩
        cases j with
        | zero =>
          simp only [List.getElem?_cons_zero, Option.some.injEq] at h1 h2 h3
          subst h1; subst h2; subst h3
          exact OwnL_up m2 k1
        | succ j =>
          rw [Nat.add_comm]
          exact OwnL_up m1 (k4 j a' u' f' (by simpa using h1) (by simpa using h2) (by simpa using h3))
    · simp at ha

/-- Some things of the table go into a new one. -/
theorem good_into {c : Ct cx.ty} (h : Wf cx c) {w' : World} {nm0 : Nat} (hf : ∀ n, Nm c n → ¬ (nm0 ≤ n ∧ n < nm0 + 64)) {dn : List Nat} (hdn : ∀ tk ∈ c.T, tk.nm ∈ dn → ∃ s, tk.c = .inl s) (hdT : ∀ n ∈ dn, ∃ tk ∈ c.T, tk.nm = n) {u' : Value} {fp' : List Nat} {s' : SlD cx.ty} (hs' : s'.own = 1 ∧ s'.nm = nm0)
    (hblk : ∀ b ∈ vb u' ++ fp', (∃ tk ∈ c.T, tk.nm ∈ dn ∧ b ∈ blocks tk) ∨ (c.w.heap.size ≤ b ∧ b < w'.heap.size)) (hvb : ∀ b ∈ vb u', (∃ tk ∈ c.T, tk.nm ∈ dn ∧ b ∈ vb tk.u) ∨ c.w.heap.size ≤ b) (hnd : (vb u' ++ fp').Nodup)
    (hheap : ∀ b, b < c.w.heap.size → (∀ tk ∈ c.T, tk.nm ∈ dn → b ∉ vb tk.u) → w'.heap[b]? = c.w.heap[b]?) (hsz : c.w.heap.size ≤ w'.heap.size) (hbel : Kept c.N c.w w')
    (htok : ∀ c' : Ct cx.ty, c'.w = w' → TokRep cx c' { nm := nm0, u := u', fp := fp', c := .inl s' }) (hsl : ∃ a n cap, u' = .slice a n cap) :
    Good cx c { v := vs s', dead := dn, frz := [], live := dn, read := [] } nm0 u' w' ({ nm := nm0, u := u', fp := fp', c := .inl s' } :: c.T.filter (fun tk => !dn.contains tk.nm)) := by
  have hmem : ∀ tk, tk ∈ c.T.filter (fun tk => !dn.contains tk.nm) ↔ tk ∈ c.T ∧ tk.nm ∉ dn := fun tk => by simp [List.mem_filter]
  have hpres : Pres cx c (c.nx { v := vs s', dead := dn, frz := [], live := dn, read := [] } w' ({ nm := nm0, u := u', fp := fp', c := .inl s' } :: c.T.filter (fun tk => !dn.contains tk.nm))) := by
    refine ⟨fun b hb => ?_, fun n hn => List.mem_append.2 (.inr hn), fun n hn => hn, fun tk ht hD _ => ?_, fun tk ht l hl => ?_, fun tk ht _ _ _ hF => absurd hF (h.live tk ht).2⟩
    · obtain ⟨h1, h2, h3⟩ := hb
      refine ⟨⟨Nat.lt_of_lt_of_le h1 hsz, h2, fun tk ht hv => ?_⟩, hheap b h1 (fun tk ht _ => h3 tk ht)⟩
      rcases List.mem_cons.1 ht with ht | ht
      · subst ht
        rcases hvb b hv with ⟨tk, k1, _, k3⟩ | hk
        · exact h3 tk k1 k3
        · omega
      · exact h3 tk ((hmem tk).1 ht).1 hv
    · refine List.mem_cons_of_mem _ ((hmem tk).2 ⟨ht, fun hd => hD (List.mem_append.2 (.inl hd))⟩)
    · refine List.mem_cons_of_mem _ ((hmem tk).2 ⟨ht, fun hd => ?_⟩)
      obtain ⟨s, hs⟩ := hdn tk ht hd
      rw [hl] at hs
      cases hs
  have hother : ∀ tk ∈ c.T, tk.nm ∉ dn → ∀ b ∈ blocks tk, ∀ t2 ∈ c.T, t2.nm ∈ dn → b ∉ blocks t2 := fun tk ht hn b hb t2 ht2 hn2 hb2 =>
    disjoint_toks h ht ht2 (fun e => hn (e ▸ hn2)) hb hb2
  have hnewD : nm0 ∉ dn ++ c.D := fun hd => by
    rcases List.mem_append.1 hd with hd | hd
    · obtain ⟨tk, k1, k2⟩ := hdT _ hd
      exact hf _ (.inl ⟨tk, k1, k2⟩) ⟨Nat.le_refl _, by omega⟩
    · exact hf _ (.inr (.inl hd)) ⟨Nat.le_refl _, by omega⟩
  have hnewF : nm0 ∉ c.F := fun hd => hf _ (.inr (.inr hd)) ⟨Nat.le_refl _, by omega⟩
  refine ⟨⟨?_, ?_, ?_, ?_, h.start, ?_, fun b hb => h.size b (Nat.le_trans hsz hb)⟩, hpres, ?_, hbel, ?_⟩
  · show (List.map _ (_ :: _)).Nodup
    rw [List.map_cons, List.nodup_cons]
    refine ⟨fun hm => ?_, (List.Sublist.map _ List.filter_sublist).nodup h.names⟩
    obtain ⟨tk, ht, he⟩ := List.mem_map.1 hm
    have he : tk.nm = nm0 := he
    exact hf _ (.inl ⟨tk, ((hmem tk).1 ht).1, rfl⟩) ⟨by omega, by omega⟩
  · show (List.flatMap _ (_ :: _)).Nodup
    rw [List.flatMap_cons, List.nodup_append]
    refine ⟨hnd, filter_sub_nodup _ h.nodup, fun a ha b hb he => ?_⟩
    subst he
    obtain ⟨tk, ht, hb⟩ := List.mem_flatMap.1 hb
    obtain ⟨ht1, ht2⟩ := (hmem tk).1 ht
    rcases hblk a ha with ⟨t2, k1, k2, k3⟩ | hk
    · exact hother tk ht1 ht2 a hb t2 k1 k2 k3
    · have := (h.bound tk ht1 a hb).2
      omega
  · intro tk ht b hb
    rcases List.mem_cons.1 ht with ht | ht
    · subst ht
      rcases hblk b hb with ⟨t2, k1, k2, k3⟩ | hk
      · have := h.bound t2 k1 b k3
        exact ⟨this.1, Nat.lt_of_lt_of_le this.2 hsz⟩
      · exact ⟨h.size b hk.1, hk.2⟩
    · have := h.bound tk ((hmem tk).1 ht).1 b hb
      exact ⟨this.1, Nat.lt_of_lt_of_le this.2 hsz⟩
  · intro tk ht
    rcases List.mem_cons.1 ht with ht | ht
    · subst ht
      exact htok _ rfl
    · obtain ⟨h1, h2⟩ := (hmem tk).1 ht
      exact TokRep.pres cx hpres (fun b hb => hheap b (h.bound tk h1 b hb).2 (fun t2 ht2 hn2 hb2 => hother tk h1 h2 b hb t2 ht2 hn2 (List.mem_append.2 (.inl hb2)))) (h.rep tk h1)
  · intro tk ht
    rcases List.mem_cons.1 ht with ht | ht
    · subst ht
      exact ⟨hnewD, hnewF⟩
    · obtain ⟨h1, h2⟩ := (hmem tk).1 ht
      refine ⟨fun hd => ?_, (h.live tk h1).2⟩
      rcases List.mem_append.1 hd with hd | hd
      · exact h2 hd
      · exact (h.live tk h1).1 hd
  · refine repLS_tok hs'.1 ?_ ?_ (List.mem_cons_self ..) hs'.2.symm rfl rfl hsl
    · rw [hs'.2]; exact hnewD
    · rw [hs'.2]; exact hnewF
  · intro n hn
    rcases hn with ⟨tk, ht, rfl⟩ | hn | hn
    · rcases List.mem_cons.1 ht with ht | ht
      · subst ht
        exact .inr ⟨Nat.le_refl _, by show nm0 < nm0 + 64; omega⟩
      · exact .inl (.inl ⟨tk, ((hmem tk).1 ht).1, rfl⟩)
    · rcases List.mem_append.1 hn with hn | hn
      · obtain ⟨tk, k1, k2⟩ := hdT _ hn
        exact .inl (.inl ⟨tk, k1, k2⟩)
      · exact .inl (.inr (.inl hn))
    · exact .inl (.inr (.inr hn))

def rowFit (P : Program) (cx : Cx) (e : TypeId) : Bool :=
  match P.info? e with
  | some i => match i.zero with
    | some z => decide (i.size = cx.size e) && decide (z.cells.size = cx.size e) && decide (0 < cx.size e) && decide (i.bytes ≤ 100000)
    | none => false
  | none => false

theorem rowFit_spec {e : TypeId} (h : rowFit P cx e = true) : ∃ i z, P.info? e = some i ∧ i.zero = some z ∧ i.size = cx.size e ∧ z.cells.size = cx.size e ∧ 0 < cx.size e ∧ i.bytes ≤ 100000 := by
  unfold rowFit at h
  split at h
  · rename_i i hi
    split at h
    · rename_i z hz
      simp only [Bool.and_eq_true, decide_eq_true_eq] at h
      exact ⟨i, z, hi, hz, h.1.1.1, h.1.1.2, h.1.2, h.2⟩
    · simp at h
  · simp at h

/-- A thing that is owned, as a row of cells with what each takes. -/
theorem own_parts {c : Ct cx.ty} (hw : Wf cx c) {s : SlD cx.ty} {u : Value} (h1 : s.own = 1) (ho : s.o = true) (hl : s.nm ∉ c.D ∧ s.nm ∉ c.F) (h : RepLS cx c (some (.inr s)) u) :
    ∃ tk ∈ c.T, tk.nm = s.nm ∧ tk.c = .inl s ∧ tk.u = u ∧ vb u = u.ownBlock.toList ∧ ∃ n us fpl, c.w.ownsRow 0 s.e (cx.size s.e) u s.xs.length us ∧ tk.fp = List.flatten fpl ∧ us.length = (s.xs.flatMap (cx.enc s.e true)).length ∧ fpl.length = us.length ∧
      ∀ (j : Nat) l v f, (s.xs.flatMap (cx.enc s.e true))[j]? = some l → us[j]? = some v → fpl[j]? = some f → OwnL cx c.w n l v f := by
  unfold RepLS at h
  simp only [h1, if_true, hl.1, hl.2, if_false] at h
  obtain ⟨_, tk, ht, hn, hc, hu⟩ := h
  have htr := hw.rep tk ht
  unfold TokRep at htr
  rw [hc] at htr
  simp only [ho, if_true] at htr
  obtain ⟨hv, m, htr⟩ := htr
  rw [hu] at hv htr
  cases m with
  | zero => simp [OwnL] at htr
  | succ m =>
    obtain ⟨us, fpl, k1, k2, k3, k4, k5⟩ := htr
    refine ⟨tk, ht, hn, hc, hu, hv, m, us, fpl, k1, ?_, k3, k4, k5⟩
    rw [hv] at k2
    exact List.append_cancel_left k2

theorem own_one (ok : cx.Ok) {w : World} {n : Nat} {e : Nat} {x : cx.ty e} {l : L cx.ty} (hl : l ∈ cx.enc e true x) {u : Value} {f : List Nat} (h : OwnL cx w n l u f) : u.oneCell' = true := by
  rcases ok.leaf e true x l hl with ⟨v, rfl, hv⟩ | ⟨s, rfl, _⟩
  · cases n <;> (simp only [OwnL] at h; rw [h.1]; exact hv)
  · obtain ⟨_, _, _, a, k, cap, hu⟩ := OwnL_slice h
    rw [hu]; rfl

end
end Go.VM

namespace Go.VM
open Go.RowKit
section
variable {cx : Cx} {P : Program}

/-- append of a thing that is owned to another one: both go into what comes of it. -/
def evAppendOwn {β : Type} (P : Program) (cx : Cx) (slots : List (V cx.ty)) (t : TypeId) (x y : Operand) (nm0 : Nat) (k : Eff cx.ty → Option β) : Option β :=
  match sliceElem P t with
  | some e => if rowFit P cx e then
      match getV slots y with
      | .inl (.inl (some (.inr s2))) => if s2.e == e && s2.own == 1 && s2.o then
          match getV slots x with
          | .inl (.inl (some (.inr s))) => if s.e == e && s.own == 1 && s.o && s.nm != s2.nm then
              bif decide (s.xs.length + s2.xs.length ≤ 1000000000) then
                k { v := tokV nm0 e (castXs e s ++ castXs e s2), dead := [s.nm, s2.nm], frz := [], live := [s.nm, s2.nm], read := [] }
              else none
            else none
          | _ => none
        else none
      | _ => none
    else none
  | none => none

theorem evAppendOwn_ok (ok : cx.Ok) {β : Type} {o : Oper} {slots : List (V cx.ty)} {nm0 : Nat} {t : TypeId} {x y : Operand} (ho : o.op = .call { callee := .builtin .append, args := #[x, y], argTypes := #[t, t] }) {k : Eff cx.ty → Option β} {r : β}
    (h : evAppendOwn P cx slots t x y nm0 k = some r) : ∃ ef, k ef = some r ∧ EffOK P cx o slots nm0 ef := by
  unfold evAppendOwn at h
  split at h
  · rename_i e he
    split at h
    · rename_i hfit
      obtain ⟨i, z, hi, hz, hsz, hzs, hpos, hby⟩ := rowFit_spec hfit
      have hxm : x ∈ o.op.operands := by simp [ho, Op.operands, Call.operands]
      have hym : y ∈ o.op.operands := by simp [ho, Op.operands, Call.operands]
      have execEq : ∀ (ρ : Operand → Value) (w : World) v' w', (Builtin.append_ #[t, t] o.type #[ρ x, ρ y]).run P w = .ok v' w' → (execOp ρ o).run P w = .ok (.value v') w' := by
        intro ρ w v' w' hr
        unfold execOp
        simp only [ho, resolve, invoke, builtin, Sem.run_bind, Sem.run_pure, Result.andThen_ok, List.map_toArray, List.map_cons, List.map_nil, hr]
      split at h
      · rename_i s2 hy
        split at h
        · rename_i hc2
          simp only [Bool.and_eq_true, beq_iff_eq] at hc2
          obtain ⟨⟨rfl, hown2⟩, hso2⟩ := hc2
          split at h
          · rename_i s hx
            split at h
            · rename_i hc1
              simp only [Bool.and_eq_true, beq_iff_eq, bne_iff_ne, ne_eq] at hc1
              obtain ⟨⟨⟨hse, hown1⟩, hso⟩, hne⟩ := hc1
              cases hb : decide (s.xs.length + s2.xs.length ≤ 1000000000) with
              | false => rw [hb] at h; simp at h
              | true =>
                rw [hb] at h
                have hb : s.xs.length + s2.xs.length ≤ 1000000000 := by simpa using hb
                refine ⟨_, h, ⟨fun c ρ hw hop hlive _ hf => ?_⟩⟩
                have hrx := hop x hxm; rw [hx] at hrx
                have hrx : RepLS cx c (some (.inr s)) (ρ x) := hrx
                have hry := hop y hym; rw [hy] at hry
                have hry : RepLS cx c (some (.inr s2)) (ρ y) := hry
                obtain ⟨tk, ht, hn, hc, hu, hvb, n1, us1, fpl1, r1, fp1, l1, m1, o1⟩ := own_parts hw hown1 hso (hlive s.nm (by simp)) hrx
                obtain ⟨tk2, ht2, hn2, hcc2, hu2, hvb2, n2, us2, fpl2, r2, fp2, l2, m2, o2⟩ := own_parts hw hown2 hso2 (hlive s2.nm (by simp)) hry
                obtain ⟨ow, nmx, ex, ox, xs⟩ := s
                simp only at hse hown1 hso hn hne l1 o1 r1 hb
                subst hse
                have hcx : castXs s2.e ({ own := ow, nm := nmx, e := s2.e, o := ox, xs := xs } : SlD cx.ty) = xs := by simp [castXs]
                have hcy : castXs s2.e s2 = s2.xs := by simp [castXs]
                rw [hcx, hcy]
                have hfl1 := flat_len (cx.enc s2.e true) (cx.size s2.e) (fun x => ok.len s2.e true x) xs
                have hfl2 := flat_len (cx.enc s2.e true) (cx.size s2.e) (fun x => ok.len s2.e true x) s2.xs
                have hnt : tk ≠ tk2 := fun h => hne (by rw [← hn, ← hn2, h])
                have hones : ∀ u ∈ us2, u.oneCell' = true := by
                  intro u hu'
                  obtain ⟨j, hj⟩ := List.getElem?_of_mem hu'
                  have hjl : j < (s2.xs.flatMap (cx.enc s2.e true)).length := by rw [← l2]; exact (List.getElem?_eq_some_iff.1 hj).1
                  have hjf : j < fpl2.length := by rw [m2]; exact (List.getElem?_eq_some_iff.1 hj).1
                  have hl := List.getElem_mem hjl
                  obtain ⟨z, _, hz2⟩ := List.mem_flatMap.1 hl
                  exact own_one ok hz2 (o2 j _ u _ (List.getElem?_eq_getElem hjl) hj (List.getElem?_eq_getElem hjf))
                obtain ⟨a2, cap2, hau, hcells⟩ : ∃ a cap, ρ y = .slice a s2.xs.length cap ∧ (s2.xs.length = 0 ∨ ∃ ad, a = some ad ∧ ∀ (j : Nat) u, us2[j]? = some u → c.w.cell? (ad.add j) = some u) := by
                  rcases r2.2 with ⟨hv, h0⟩ | ⟨g, cap, cur, hv, _⟩
                  · exact ⟨none, 0, by rw [hv, h0], .inl h0⟩
                  · exact ⟨some ⟨g, 0, none⟩, cap, hv, .inr ⟨_, rfl, r2.cells (g := g) (by rw [hv]; rfl)⟩⟩
                obtain ⟨v', w', hr, k1, k2, k3, k4⟩ := run_append_any (P := P) (w := c.w) (ty := o.type) (sliceElem_eq he) hi hz hsz hzs hpos r1 (a := a2) (m := s2.xs.length) (cap := cap2) (news := us2) (by rw [l2, hfl2]) hcells hones (by simp [maxLen]; omega) (Nat.le_trans (Nat.mul_le_mul hb hby) (by omega))
                rw [← hau] at hr
                unfold Runs
                rw [execEq ρ c.w v' w' hr]
                have hvb' : vb v' = v'.ownBlock.toList := by
                  obtain ⟨a, n, cc, rfl⟩ := k4
                  rcases k1.2 with ⟨hv, _⟩ | ⟨g, cap', cur, hv, _⟩
                  · rw [hv]; rfl
                  · rw [hv]; rfl
                have hvbm : ∀ b, b ∈ vb v' → v'.ownBlock = some b := fun b hb' => by rw [hvb'] at hb'; simpa using hb'
                have hbx : ∀ g, (ρ x).ownBlock = some g ↔ g ∈ vb tk.u := fun g => by rw [hu, hvb]; cases (ρ x).ownBlock <;> simp [eq_comm]
                have hnd1 : (vb tk.u ++ tk.fp).Nodup := by
                  have hnd := hw.nodup
                  obtain ⟨p1, p2, hp⟩ := List.append_of_mem ht
                  rw [hp] at hnd
                  simp only [List.flatMap_append, List.flatMap_cons] at hnd
                  exact (List.nodup_append.1 (List.nodup_append.1 hnd).2.1).1
                have hnd2 : (vb tk2.u ++ tk2.fp).Nodup := by
                  have hnd := hw.nodup
                  obtain ⟨p1, p2, hp⟩ := List.append_of_mem ht2
                  rw [hp] at hnd
                  simp only [List.flatMap_append, List.flatMap_cons] at hnd
                  exact (List.nodup_append.1 (List.nodup_append.1 hnd).2.1).1
                have hdis : ∀ b ∈ blocks tk, b ∉ blocks tk2 := fun b h1 h2 => disjoint_toks hw ht ht2 (fun e => hne (by rw [← hn, ← hn2]; exact e)) h1 h2
                have hsame : ∀ b, b ∈ tk.fp ++ tk2.fp → w'.heap[b]? = c.w.heap[b]? := by
                  intro b hb'
                  have hlt : b < c.w.heap.size := by
                    rcases List.mem_append.1 hb' with h1 | h1
                    · exact (hw.bound tk ht b (List.mem_append.2 (.inr h1))).2
                    · exact (hw.bound tk2 ht2 b (List.mem_append.2 (.inr h1))).2
                  refine k2.block b hlt (fun hg => ?_)
                  have hg := (hbx b).1 hg.symm
                  rcases List.mem_append.1 hb' with h1 | h1
                  · exact (List.nodup_append.1 hnd1).2.2 b hg b h1 rfl
                  · exact hdis b (List.mem_append.2 (.inl hg)) (List.mem_append.2 (.inr h1))
                refine ⟨_, good_into hw hf (fun tk' ht' hn' => ?_) (fun n hn' => ?_) (s' := { own := 1, nm := nm0, e := s2.e, o := true, xs := xs ++ s2.xs }) (fp' := tk.fp ++ tk2.fp) ⟨rfl, rfl⟩ (fun b hb' => ?_) (fun b hb' => ?_) ?_ (fun b hb' hno => ?_) k2.size ⟨k2.os, k2.tape, k2.output, k2.size, fun q hq => k2.block q (Wf.lt cx hw hq) ?_⟩ (fun c' hcw => ?_) k4⟩
                · rcases List.mem_cons.1 hn' with h1 | h1
                  · have := uniq_tok hw ht' ht (h1.trans hn.symm); subst this; exact ⟨_, hc⟩
                  · have := uniq_tok hw ht' ht2 ((List.mem_singleton.1 h1).trans hn2.symm); subst this; exact ⟨_, hcc2⟩
                · rcases List.mem_cons.1 hn' with h1 | h1
                  · exact ⟨tk, ht, by rw [h1]; exact hn⟩
                  · exact ⟨tk2, ht2, by rw [List.mem_singleton.1 h1]; exact hn2⟩
                · rcases List.mem_append.1 hb' with h1 | h1
                  · rcases k3 b (hvbm b h1) with h2 | h2
                    · exact .inl ⟨tk, ht, by simp [hn], List.mem_append.2 (.inl ((hbx b).1 h2))⟩
                    · refine .inr ⟨h2, ?_⟩
                      exact (World.ownsRow.lt k1 b (hvbm b h1)).2
                  · rcases List.mem_append.1 h1 with h2 | h2
                    · exact .inl ⟨tk, ht, by simp [hn], List.mem_append.2 (.inr h2)⟩
                    · exact .inl ⟨tk2, ht2, by simp [hn2], List.mem_append.2 (.inr h2)⟩
                · rcases k3 b (hvbm b hb') with h2 | h2
                  · exact .inl ⟨tk, ht, by simp [hn], (hbx b).1 h2⟩
                  · exact .inr h2
                · rw [List.nodup_append]
                  refine ⟨vb_nodup v', ?_, fun a ha b hb' he => ?_⟩
                  · rw [List.nodup_append]
                    refine ⟨(List.nodup_append.1 hnd1).2.1, (List.nodup_append.1 hnd2).2.1, fun a ha b hb' he => ?_⟩
                    subst he
                    exact hdis a (List.mem_append.2 (.inr ha)) (List.mem_append.2 (.inr hb'))
                  · subst he
                    rcases k3 a (hvbm a ha) with h2 | h2
                    · have h2 := (hbx a).1 h2
                      rcases List.mem_append.1 hb' with h3 | h3
                      · exact (List.nodup_append.1 hnd1).2.2 a h2 a h3 rfl
                      · exact hdis a (List.mem_append.2 (.inl h2)) (List.mem_append.2 (.inr h3))
                    · rcases List.mem_append.1 hb' with h3 | h3
                      · have := (hw.bound tk ht a (List.mem_append.2 (.inr h3))).2; omega
                      · have := (hw.bound tk2 ht2 a (List.mem_append.2 (.inr h3))).2; omega
                · exact k2.block b hb' (fun hg => hno tk ht (by simp [hn]) ((hbx b).1 hg.symm))
                · intro hg
                  exact hq (hw.bound tk ht q (List.mem_append.2 (.inl ((hbx q).1 hg.symm)))).1
                · subst hcw
                  unfold TokRep
                  simp only [if_true]
                  refine ⟨hvb', n1 + n2 + 1, us1 ++ us2, fpl1 ++ fpl2, ?_, ?_, ?_, by simp [m1, m2], fun j l v f g1 g2 g3 => ?_⟩
                  · simp only [List.length_append]; exact k1
                  · rw [hvb', List.flatten_append, fp1, fp2]
                  · rw [List.flatMap_append, List.length_append, List.length_append, l1, l2]
                  · have lu1 : us1.length = fpl1.length := m1.symm
                    rw [List.flatMap_append] at g1
                    have sub1 : ∀ b, b ∈ f → (b ∈ tk.fp ++ tk2.fp) := by
                      intro b hb'
                      have : f ∈ fpl1 ++ fpl2 := List.mem_of_getElem? g3
                      rcases List.mem_append.1 this with h1 | h1
                      · exact List.mem_append.2 (.inl (by rw [fp1]; exact List.mem_flatten.2 ⟨f, h1, hb'⟩))
                      · exact List.mem_append.2 (.inr (by rw [fp2]; exact List.mem_flatten.2 ⟨f, h1, hb'⟩))
                    refine OwnL_mono cx _ _ _ _ (fun b hb' => hsame b (sub1 b hb')) ?_
                    by_cases hj : j < us1.length
                    · rw [List.getElem?_append_left (by rw [← l1]; exact hj)] at g1
                      rw [List.getElem?_append_left hj] at g2
                      rw [List.getElem?_append_left (by rw [m1]; exact hj)] at g3
                      exact OwnL_up n2 (o1 j l v f g1 g2 g3)
                    · rw [List.getElem?_append_right (by rw [← l1]; omega), ← l1] at g1
                      rw [List.getElem?_append_right (by omega)] at g2
                      rw [List.getElem?_append_right (by rw [m1]; omega), m1] at g3
                      rw [Nat.add_comm n1 n2]
                      exact OwnL_up n1 (o2 _ l v f g1 g2 g3)
            · simp at h
          · simp at h
        · simp at h
      · simp at h
    · simp at h
  · simp at h

end
end Go.VM

namespace Go.VM
open Go.RowKit
section
variable {cx : Cx} {P : Program}

/-! ### append of elements that are merely read -/
theorem good_repl2 {c : Ct cx.ty} (h : Wf cx c) {w' : World} {nm0 : Nat} (hf : ∀ n, Nm c n → ¬ (nm0 ≤ n ∧ n < nm0 + 64)) {dn r : List Nat} (hdn : ∀ tk ∈ c.T, tk.nm ∈ dn → ∃ s, tk.c = .inl s) (hdT : ∀ n ∈ dn, ∃ tk ∈ c.T, tk.nm = n) {u' : Value} {s' : SlD cx.ty} (hs' : s'.own = 1 ∧ s'.nm = nm0)
    (hblk : ∀ b ∈ vb u', (∃ tk ∈ c.T, tk.nm ∈ dn ∧ b ∈ vb tk.u) ∨ (c.w.heap.size ≤ b ∧ b < w'.heap.size))
    (hheap : ∀ b, b < c.w.heap.size → (∀ tk ∈ c.T, tk.nm ∈ dn → b ∉ vb tk.u) → w'.heap[b]? = c.w.heap[b]?) (hsz : c.w.heap.size ≤ w'.heap.size) (hbel : Kept c.N c.w w')
    (htok : ∀ c' : Ct cx.ty, c'.w = w' → (∀ b, Rd c b → Rd c' b ∧ c'.w.heap[b]? = c.w.heap[b]?) → TokRep cx c' { nm := nm0, u := u', fp := [], c := .inl s' }) (hsl : ∃ a n cap, u' = .slice a n cap) :
    Good cx c { v := vs s', dead := dn, frz := [], live := dn, read := r } nm0 u' w' ({ nm := nm0, u := u', fp := [], c := .inl s' } :: c.T.filter (fun tk => !dn.contains tk.nm)) := by
  have hmem : ∀ tk, tk ∈ c.T.filter (fun tk => !dn.contains tk.nm) ↔ tk ∈ c.T ∧ tk.nm ∉ dn := fun tk => by simp [List.mem_filter]
  have hpres : Pres cx c (c.nx { v := vs s', dead := dn, frz := [], live := dn, read := r } w' ({ nm := nm0, u := u', fp := [], c := .inl s' } :: c.T.filter (fun tk => !dn.contains tk.nm))) := by
    refine ⟨fun b hb => ?_, fun n hn => List.mem_append.2 (.inr hn), fun n hn => hn, fun tk ht hD _ => ?_, fun tk ht l hl => ?_, fun tk ht _ _ _ hF => absurd hF (h.live tk ht).2⟩
    · obtain ⟨h1, h2, h3⟩ := hb
      refine ⟨⟨Nat.lt_of_lt_of_le h1 hsz, h2, fun tk ht hv => ?_⟩, hheap b h1 (fun tk ht _ => h3 tk ht)⟩
      rcases List.mem_cons.1 ht with ht | ht
      · subst ht
        rcases hblk b hv with ⟨tk, k1, _, k3⟩ | hk
        · exact h3 tk k1 k3
        · omega
      · exact h3 tk ((hmem tk).1 ht).1 hv
    · refine List.mem_cons_of_mem _ ((hmem tk).2 ⟨ht, fun hd => hD (List.mem_append.2 (.inl hd))⟩)
    · refine List.mem_cons_of_mem _ ((hmem tk).2 ⟨ht, fun hd => ?_⟩)
      obtain ⟨s, hs⟩ := hdn tk ht hd
      rw [hl] at hs
      cases hs
  have hother : ∀ tk ∈ c.T, tk.nm ∉ dn → ∀ b ∈ blocks tk, ∀ t2 ∈ c.T, t2.nm ∈ dn → b ∉ vb t2.u := fun tk ht hn b hb t2 ht2 hn2 hb2 =>
    disjoint_toks h ht ht2 (fun e => hn (e ▸ hn2)) hb (List.mem_append.2 (.inl hb2))
  refine ⟨⟨?_, ?_, ?_, ?_, h.start, ?_, fun b hb => h.size b (Nat.le_trans hsz hb)⟩, hpres, ?_, hbel, ?_⟩
  · show (List.map _ (_ :: _)).Nodup
    rw [List.map_cons, List.nodup_cons]
    refine ⟨fun hm => ?_, (List.Sublist.map _ List.filter_sublist).nodup h.names⟩
    obtain ⟨tk, ht, he⟩ := List.mem_map.1 hm
    have he : tk.nm = nm0 := he
    exact hf _ (.inl ⟨tk, ((hmem tk).1 ht).1, rfl⟩) ⟨by omega, by omega⟩
  · show (List.flatMap _ (_ :: _)).Nodup
    rw [List.flatMap_cons, List.nodup_append]
    refine ⟨by simpa using vb_nodup u', ?_, fun a ha b hb he => ?_⟩
    · have hsub : List.Sublist ((c.T.filter (fun tk => !dn.contains tk.nm)).flatMap fun tk => vb tk.u ++ tk.fp) (c.T.flatMap fun tk => vb tk.u ++ tk.fp) := by
        have : ∀ T : List (Tk cx.ty), List.Sublist ((T.filter (fun tk => !dn.contains tk.nm)).flatMap fun tk => vb tk.u ++ tk.fp) (T.flatMap fun tk => vb tk.u ++ tk.fp) := by
          intro T
          induction T with
          | nil => exact List.Sublist.refl _
          | cons x r ih =>
            rw [List.filter_cons]
            split
            · rw [List.flatMap_cons, List.flatMap_cons]; exact (List.Sublist.refl _).append ih
            · rw [List.flatMap_cons]; exact ih.trans (List.sublist_append_right _ _)
        exact this _
      exact hsub.nodup h.nodup
    · subst he
      simp only [List.append_nil] at ha
      obtain ⟨tk, ht, hb⟩ := List.mem_flatMap.1 hb
      obtain ⟨ht1, ht2⟩ := (hmem tk).1 ht
      rcases hblk a ha with ⟨t2, k1, k2, k3⟩ | hk
      · exact hother tk ht1 ht2 a hb t2 k1 k2 k3
      · have := (h.bound tk ht1 a hb).2
        omega
  · intro tk ht b hb
    rcases List.mem_cons.1 ht with ht | ht
    · subst ht
      simp only [List.append_nil] at hb
      rcases hblk b hb with ⟨t2, k1, k2, k3⟩ | hk
      · have := h.bound t2 k1 b (List.mem_append.2 (.inl k3))
        exact ⟨this.1, Nat.lt_of_lt_of_le this.2 hsz⟩
      · have := h.size
        exact ⟨by show c.N b; exact this b (by omega), hk.2⟩
    · have := h.bound tk ((hmem tk).1 ht).1 b hb
      exact ⟨this.1, Nat.lt_of_lt_of_le this.2 hsz⟩
  · intro tk ht
    rcases List.mem_cons.1 ht with ht | ht
    · subst ht
      exact htok _ rfl (fun b hb => hpres.rd b hb)
    · obtain ⟨ht1, ht2⟩ := (hmem tk).1 ht
      exact TokRep.pres cx hpres (fun b hb => hheap b (h.bound tk ht1 b hb).2 (hother tk ht1 ht2 b hb)) (h.rep tk ht1)
  · intro tk ht
    rcases List.mem_cons.1 ht with ht | ht
    · subst ht
      refine ⟨fun hd => ?_, fun hd => hf _ (.inr (.inr hd)) ⟨Nat.le_refl _, by show nm0 < nm0 + 64; omega⟩⟩
      rcases List.mem_append.1 hd with hd | hd
      · obtain ⟨tk, k1, k2⟩ := hdT _ hd
        exact hf _ (.inl ⟨tk, k1, k2⟩) ⟨Nat.le_refl _, by show nm0 < nm0 + 64; omega⟩
      · exact hf _ (.inr (.inl hd)) ⟨Nat.le_refl _, by show nm0 < nm0 + 64; omega⟩
    · obtain ⟨ht1, ht2⟩ := (hmem tk).1 ht
      refine ⟨fun hd => ?_, (h.live tk ht1).2⟩
      rcases List.mem_append.1 hd with hd | hd
      · exact ht2 hd
      · exact (h.live tk ht1).1 hd
  · refine (show RepV cx _ (vs s') u' from ?_)
    refine (show RepLS cx _ (some (.inr s')) u' from repLS_tok hs'.1 ?_ ?_ (List.mem_cons_self ..) hs'.2.symm rfl rfl hsl)
    · intro hd
      rw [hs'.2] at hd
      rcases List.mem_append.1 hd with hd | hd
      · obtain ⟨tk, k1, k2⟩ := hdT _ hd
        exact hf _ (.inl ⟨tk, k1, k2⟩) ⟨Nat.le_refl _, by omega⟩
      · exact hf _ (.inr (.inl hd)) ⟨Nat.le_refl _, by omega⟩
    · intro hd
      rw [hs'.2] at hd
      exact hf _ (.inr (.inr hd)) ⟨Nat.le_refl _, by omega⟩
  · intro n hn
    rcases hn with ⟨tk, ht, rfl⟩ | hn | hn
    · rcases List.mem_cons.1 ht with ht | ht
      · subst ht; exact .inr ⟨Nat.le_refl _, by show nm0 < nm0 + 64; omega⟩
      · exact .inl (.inl ⟨tk, ((hmem tk).1 ht).1, rfl⟩)
    · rcases List.mem_append.1 hn with hn | hn
      · obtain ⟨tk, k1, k2⟩ := hdT _ hn
        exact .inl (.inl ⟨tk, k1, k2⟩)
      · exact .inl (.inr (.inl hn))
    · exact .inl (.inr (.inr hn))

theorem rep_one (ok : cx.Ok) {w : World} {S : Nat → Prop} {n : Nat} {e : Nat} {x : cx.ty e} {l : L cx.ty} (hl : l ∈ cx.enc e false x) {u : Value} (h : RepL cx w S n l u) : u.oneCell' = true := by
  rcases ok.leaf e false x l hl with ⟨v, rfl, hv⟩ | ⟨s, rfl, _⟩
  · have : u = v := by cases n <;> simpa [RepL] using h
    rw [this]; exact hv
  · cases n with
    | zero => simp [RepL] at h
    | succ n =>
      obtain ⟨a, cap, rfl, _⟩ := h
      rfl

/-- The cells of a slice that may be read. -/
theorem rep_vals (ok : cx.Ok) {c : Ct cx.ty} (hw : Wf cx c) {s : SlD cx.ty} (hpos : 0 < cx.size s.e) {u : Value} (h : RepLS cx c (some (.inr s)) u) (hd : ∀ n ∈ rdn s, n ∉ c.D) :
    ∃ (a : Option Addr) (cap : Nat) (us : List Value) (n : Nat), u = .slice a s.xs.length cap ∧ us.length = (s.xs.flatMap (cx.enc s.e false)).length ∧ (s.xs.length = 0 ∨ ∃ ad, a = some ad ∧ ∀ (j : Nat) v, us[j]? = some v → c.w.cell? (ad.add j) = some v) ∧
      ∀ (j : Nat) l v, (s.xs.flatMap (cx.enc s.e false))[j]? = some l → us[j]? = some v → RepL cx c.w (Rd c) n l v := by
  have hfl := flat_len (cx.enc s.e false) (cx.size s.e) (fun x => ok.len s.e false x) s.xs
  have nil : ∀ (a : Option Addr) (cap : Nat), s.xs = [] → u = .slice a s.xs.length cap → ∃ (a : Option Addr) (cap : Nat) (us : List Value) (n : Nat), u = .slice a s.xs.length cap ∧ us.length = (s.xs.flatMap (cx.enc s.e false)).length ∧ (s.xs.length = 0 ∨ ∃ ad, a = some ad ∧ ∀ (j : Nat) v, us[j]? = some v → c.w.cell? (ad.add j) = some v) ∧
      ∀ (j : Nat) l v, (s.xs.flatMap (cx.enc s.e false))[j]? = some l → us[j]? = some v → RepL cx c.w (Rd c) n l v := fun a cap hx hu =>
    ⟨a, cap, [], 0, hu, by rw [hx]; rfl, .inl (by rw [hx]; rfl), fun j l v _ h2 => by simp at h2⟩
  have key : ∀ (b off cap : Nat), u = .slice (some ⟨b, off, none⟩) s.xs.length cap → (∀ (i : Nat) x, s.xs[i]? = some x → ∃ n, ∀ j l, (cx.enc s.e false x)[j]? = some l → ∃ v, c.w.cell? ⟨b, off + i * cx.size s.e + j, none⟩ = some v ∧ RepL cx c.w (Rd c) n l v) →
      ∃ (a : Option Addr) (cap : Nat) (us : List Value) (n : Nat), u = .slice a s.xs.length cap ∧ us.length = (s.xs.flatMap (cx.enc s.e false)).length ∧ (s.xs.length = 0 ∨ ∃ ad, a = some ad ∧ ∀ (j : Nat) v, us[j]? = some v → c.w.cell? (ad.add j) = some v) ∧
      ∀ (j : Nat) l v, (s.xs.flatMap (cx.enc s.e false))[j]? = some l → us[j]? = some v → RepL cx c.w (Rd c) n l v := by
    intro b off cap hu hc
    have hcell : ∀ (j : Nat) l, (s.xs.flatMap (cx.enc s.e false))[j]? = some l → ∃ v, c.w.cell? ⟨b, off + j, none⟩ = some v ∧ ∃ n, RepL cx c.w (Rd c) n l v := by
      intro j l hl
      have hjl : j < s.xs.length * cx.size s.e := by rw [← hfl]; exact (List.getElem?_eq_some_iff.1 hl).1
      have hi : j / cx.size s.e < s.xs.length := (Nat.div_lt_iff_lt_mul hpos).2 hjl
      have hm : j % cx.size s.e < cx.size s.e := Nat.mod_lt _ hpos
      have hj : j / cx.size s.e * cx.size s.e + j % cx.size s.e = j := by rw [Nat.mul_comm]; exact Nat.div_add_mod j _
      obtain ⟨n, hn⟩ := hc (j / cx.size s.e) _ (List.getElem?_eq_getElem hi)
      have hfg := flat_get (cx.enc s.e false) (cx.size s.e) (fun x => ok.len s.e false x) s.xs _ _ (List.getElem?_eq_getElem hi) _ hm
      rw [hj, hl] at hfg
      obtain ⟨v, h1, h2⟩ := hn _ _ hfg.symm
      exact ⟨v, by rw [← h1]; congr 2; omega, n, h2⟩
    let us := (List.range (s.xs.flatMap (cx.enc s.e false)).length).map fun j => (c.w.cell? ⟨b, off + j, none⟩).getD undef
    have husl : us.length = (s.xs.flatMap (cx.enc s.e false)).length := by simp [us]
    have hus : ∀ (j : Nat) l v, (s.xs.flatMap (cx.enc s.e false))[j]? = some l → us[j]? = some v → c.w.cell? ⟨b, off + j, none⟩ = some v ∧ ∃ n, RepL cx c.w (Rd c) n l v := by
      intro j l v h1 h2
      obtain ⟨v', h3, h4⟩ := hcell j l h1
      have hj : j < (s.xs.flatMap (cx.enc s.e false)).length := (List.getElem?_eq_some_iff.1 h1).1
      have : v = v' := by
        simp only [us, List.getElem?_map, List.getElem?_range hj, Option.map_some, Option.some.injEq] at h2
        rw [← h2, h3]; rfl
      subst this
      exact ⟨h3, h4⟩
    obtain ⟨n, hn⟩ := rep_uni (s.xs.flatMap (cx.enc s.e false)) us (fun j l v h1 h2 => (hus j l v h1 h2).2)
    refine ⟨_, cap, us, n, hu, husl, .inr ⟨_, rfl, fun j v hv => ?_⟩, hn⟩
    have hj : j < (s.xs.flatMap (cx.enc s.e false)).length := by rw [← husl]; exact (List.getElem?_eq_some_iff.1 hv).1
    rw [Addr.add_lit]
    exact (hus j _ v (List.getElem?_eq_getElem hj) hv).1
  have ofRepL : ∀ n, RepL cx c.w (Rd c) n (some (.inr s)) u → ∃ (a : Option Addr) (cap : Nat) (us : List Value) (n : Nat), u = .slice a s.xs.length cap ∧ us.length = (s.xs.flatMap (cx.enc s.e false)).length ∧ (s.xs.length = 0 ∨ ∃ ad, a = some ad ∧ ∀ (j : Nat) v, us[j]? = some v → c.w.cell? (ad.add j) = some v) ∧
      ∀ (j : Nat) l v, (s.xs.flatMap (cx.enc s.e false))[j]? = some l → us[j]? = some v → RepL cx c.w (Rd c) n l v := by
    intro n hn
    cases n with
    | zero => simp [RepL] at hn
    | succ n =>
      obtain ⟨a, cap, hu, _, hcase⟩ := hn
      rcases hcase with hx | ⟨b, off, rfl, hS, hc⟩
      · exact nil a cap hx hu
      · exact key b off cap hu (fun i x hx => ⟨n, fun j l hl => by
          obtain ⟨v, hv, hr⟩ := hc i x hx j l hl
          exact ⟨v, by rw [Nat.add_assoc]; exact hv, hr⟩⟩)
  unfold RepLS at h
  by_cases h1 : s.own = 1
  · have h2 : s.nm ∉ c.D := hd _ (by simp [rdn, h1])
    simp only [h1, if_true, h2, if_false] at h
    obtain ⟨_, h⟩ := h
    by_cases h3 : s.nm ∈ c.F
    · simp only [h3, if_true] at h
      obtain ⟨n, h⟩ := h
      exact ofRepL n h
    · simp only [h3, if_false] at h
      obtain ⟨tk, ht, _, hc, hu⟩ := h
      rcases tok_el ok hw ht hc with ⟨h4, h5⟩ | ⟨g, cap, h4, _, h5⟩
      · exact nil none 0 h5 (by rw [← hu, h4, h5]; rfl)
      · exact key g 0 cap (by rw [← hu, h4]) (fun i x hx => by
          obtain ⟨n, hn⟩ := h5 i x hx
          refine ⟨n, fun j l hl => ?_⟩
          obtain ⟨v, hv, hr⟩ := hn j l hl
          exact ⟨v, by rw [Nat.zero_add]; exact hv, hr⟩)
  · simp only [h1, if_false] at h
    obtain ⟨n, h⟩ := h
    exact ofRepL n h

/-- append to a row whose elements are merely read. -/
def evAppendRo {β : Type} (P : Program) (cx : Cx) (slots : List (V cx.ty)) (t : TypeId) (x y : Operand) (nm0 : Nat) (k : Eff cx.ty → Option β) : Option β :=
  match sliceElem P t with
  | some e => if rowFit P cx e then
      match asSl e (getV slots y) with
      | some s2 => match getV slots x with
        | .inl (.inl (some (.inr s))) => if s.e == e && s.own == 1 && (!s.o || s.xs.isEmpty) then
            bif decide (s.xs.length + s2.xs.length ≤ 1000000000) then
              k { v := vs { own := 1, nm := nm0, e := e, o := false, xs := castXs e s ++ castXs e s2 }, dead := [s.nm], frz := [], live := [s.nm], read := rdn s2 }
            else none
          else none
        | _ => none
      | none => none
    else none
  | none => none

theorem evAppendRo_ok (ok : cx.Ok) {β : Type} {o : Oper} {slots : List (V cx.ty)} {nm0 : Nat} {t : TypeId} {x y : Operand} (ho : o.op = .call { callee := .builtin .append, args := #[x, y], argTypes := #[t, t] }) {k : Eff cx.ty → Option β} {r : β}
    (h : evAppendRo P cx slots t x y nm0 k = some r) : ∃ ef, k ef = some r ∧ EffOK P cx o slots nm0 ef := by
  unfold evAppendRo at h
  split at h
  · rename_i e he
    split at h
    · rename_i hfit
      obtain ⟨i, z, hi, hz, hsz, hzs, hpos, hby⟩ := rowFit_spec hfit
      have hxm : x ∈ o.op.operands := by simp [ho, Op.operands, Call.operands]
      have hym : y ∈ o.op.operands := by simp [ho, Op.operands, Call.operands]
      have execEq : ∀ (ρ : Operand → Value) (w : World) v' w', (Builtin.append_ #[t, t] o.type #[ρ x, ρ y]).run P w = .ok v' w' → (execOp ρ o).run P w = .ok (.value v') w' := by
        intro ρ w v' w' hr
        unfold execOp
        simp only [ho, resolve, invoke, builtin, Sem.run_bind, Sem.run_pure, Result.andThen_ok, List.map_toArray, List.map_cons, List.map_nil, hr]
      split at h
      · rename_i s2 hy
        split at h
        · rename_i s hx
          split at h
          · rename_i hso
            simp only [Bool.and_eq_true, beq_iff_eq] at hso
            obtain ⟨⟨hse, hown1⟩, hso⟩ := hso
            cases hb : decide (s.xs.length + s2.xs.length ≤ 1000000000) with
            | false => rw [hb] at h; simp at h
            | true =>
              rw [hb] at h
              have hb : s.xs.length + s2.xs.length ≤ 1000000000 := by simpa using hb
              refine ⟨_, h, ⟨fun c ρ hw hop hlive hrd hf => ?_⟩⟩
              have hrx := hop x hxm; rw [hx] at hrx
              have hrx : RepLS cx c (some (.inr s)) (ρ x) := hrx
              obtain ⟨hs2e, hry⟩ := asSl_rep hy (hop y hym)
              have hlv := hlive s.nm (List.mem_singleton.2 rfl)
              obtain ⟨hnD, hnF⟩ := hlv
              have hpx : ∃ tk ∈ c.T, tk.nm = s.nm ∧ tk.c = .inl s ∧ tk.u = ρ x ∧ vb (ρ x) = (ρ x).ownBlock.toList ∧ ∃ (n : Nat) (us : List Value), c.w.ownsRow 0 s.e (cx.size s.e) (ρ x) s.xs.length us ∧ us.length = (s.xs.flatMap (cx.enc s.e false)).length ∧
                  ∀ (j : Nat) l v, (s.xs.flatMap (cx.enc s.e false))[j]? = some l → us[j]? = some v → RepL cx c.w (Rd c) n l v := by
                cases hoo : s.o with
                | true =>
                  have hxe : s.xs = [] := by
                    rw [hoo] at hso
                    simpa using hso
                  obtain ⟨tk, h1, h2, h3, h4, h5, n, us, fpl, r1, _, l1, _⟩ := own_parts hw hown1 hoo ⟨hnD, hnF⟩ hrx
                  refine ⟨tk, h1, h2, h3, h4, h5, n, us, r1, ?_, fun j l v g1 => ?_⟩
                  · rw [l1, hxe]; rfl
                  · rw [hxe] at g1; simp at g1
                | false =>
                  unfold RepLS at hrx
                  simp only [hown1, if_true, hnD, hnF, if_false] at hrx
                  obtain ⟨_, tk, ht, hn, hc, hu⟩ := hrx
                  have htr := hw.rep tk ht
                  unfold TokRep at htr
                  rw [hc] at htr
                  simp only [hoo, Bool.false_eq_true, if_false] at htr
                  obtain ⟨hv, _, us, n, r1, l1, r2⟩ := htr
                  rw [hu] at hv r1
                  exact ⟨tk, ht, hn, hc, hu, hv, n, us, r1, l1, r2⟩
              obtain ⟨tk, htk, hn, hc, hu, hvb, n1, us1, hrow, l1, hr1⟩ := hpx
              obtain ⟨a2, cap2, us2, n2, hu2, l2, hcells, hr2⟩ := rep_vals ok hw (by rw [hs2e]; exact hpos) hry hrd
              obtain ⟨ow, nmx, ex, ox, xs⟩ := s
              obtain ⟨ow2, nmx2, ex2, ox2, xs2⟩ := s2
              simp only at hse hs2e hown1 hn hrow l1 hr1 hu2 l2 hcells hr2 hb hnD hnF
              subst hse
              subst hs2e
              have hcx : castXs ex2 ({ own := ow, nm := nmx, e := ex2, o := ox, xs := xs } : SlD cx.ty) = xs := by simp [castXs]
              have hcy : castXs ex2 ({ own := ow2, nm := nmx2, e := ex2, o := ox2, xs := xs2 } : SlD cx.ty) = xs2 := by simp [castXs]
              simp only [hcx, hcy]
              have hfl2 := flat_len (cx.enc ex2 false) (cx.size ex2) (fun x => ok.len ex2 false x) xs2
              have hones : ∀ u ∈ us2, u.oneCell' = true := by
                intro u hu'
                obtain ⟨j, hj⟩ := List.getElem?_of_mem hu'
                have hjl : j < (xs2.flatMap (cx.enc ex2 false)).length := by rw [← l2]; exact (List.getElem?_eq_some_iff.1 hj).1
                have hl := List.getElem_mem hjl
                obtain ⟨z, _, hz2⟩ := List.mem_flatMap.1 hl
                exact rep_one ok hz2 (hr2 j _ u (List.getElem?_eq_getElem hjl) hj)
              obtain ⟨v', w', hr, k1, k2, k3, k4⟩ := run_append_any (P := P) (w := c.w) (ty := o.type) (sliceElem_eq he) hi hz hsz hzs hpos hrow (a := a2) (m := xs2.length) (cap := cap2) (news := us2) (by rw [l2, hfl2]) hcells hones (by simp [maxLen]; omega) (Nat.le_trans (Nat.mul_le_mul hb hby) (by omega))
              rw [← hu2] at hr
              unfold Runs
              rw [execEq ρ c.w v' w' hr]
              have hblk : ∀ g, (ρ x).ownBlock = some g ↔ g ∈ vb tk.u := fun g => by rw [hu, hvb]; cases (ρ x).ownBlock <;> simp [eq_comm]
              have hvb2 : vb v' = v'.ownBlock.toList := by
                obtain ⟨a, n, cc, rfl⟩ := k4
                rcases k1.2 with ⟨hv, _⟩ | ⟨g, cap', cur, hv, _⟩
                · rw [hv]; rfl
                · rw [hv]; rfl
              have hvb' : ∀ b, b ∈ vb v' → v'.ownBlock = some b := fun b hb' => by rw [hvb2] at hb'; simpa using hb'
              refine ⟨_, good_repl2 hw hf (fun tk' ht' hn' => ?_) (fun n hn' => ?_) (s' := { own := 1, nm := nm0, e := ex2, o := false, xs := xs ++ xs2 }) ⟨rfl, rfl⟩ (fun b hb' => ?_) (fun b hb' hno => ?_) k2.size ⟨k2.os, k2.tape, k2.output, k2.size, fun k hk => k2.block k (Wf.lt cx hw hk) ?_⟩ (fun c' hcw hrdm => ?_) k4⟩
              · have := uniq_tok hw ht' htk ((List.mem_singleton.1 hn').trans hn.symm)
                subst this
                exact ⟨_, hc⟩
              · exact ⟨tk, htk, by rw [List.mem_singleton.1 hn']; exact hn⟩
              · rcases k3 b (hvb' b hb') with hg | hg
                · exact .inl ⟨tk, htk, by simp [hn], (hblk b).1 hg⟩
                · exact .inr ⟨hg, (World.ownsRow.lt k1 b (hvb' b hb')).2⟩
              · exact k2.block b hb' (fun hg => hno tk htk (by simp [hn]) ((hblk b).1 hg.symm))
              · intro hg
                exact hk (hw.bound tk htk k (List.mem_append.2 (.inl ((hblk k).1 hg.symm)))).1
              · subst hcw
                unfold TokRep
                simp only [Bool.false_eq_true, if_false]
                refine ⟨hvb2, trivial, us1 ++ us2, n1 + n2, ?_, ?_, fun j l v g1 g2 => ?_⟩
                · simp only [List.length_append]; exact k1
                · rw [List.flatMap_append, List.length_append, List.length_append, l1, l2]
                · rw [List.flatMap_append] at g1
                  refine RepL_mono cx (fun b hb => (hrdm b hb).2) (fun b hb => (hrdm b hb).1) _ _ _ ?_
                  by_cases hj : j < us1.length
                  · rw [List.getElem?_append_left (by rw [← l1]; exact hj)] at g1
                    rw [List.getElem?_append_left hj] at g2
                    exact RepL_up n2 (hr1 j l v g1 g2)
                  · rw [List.getElem?_append_right (by rw [← l1]; omega), ← l1] at g1
                    rw [List.getElem?_append_right (by omega)] at g2
                    rw [Nat.add_comm n1 n2]
                    exact RepL_up n1 (hr2 _ l v g1 g2)
          · simp at h
        · simp at h
      · simp at h
    · simp at h
  · simp at h

/-- Are both owned whole? -/
def bothOwn {ty : Nat → Type} (a b : V ty) : Bool := match a, b with
  | .inl (.inl (some (.inr s))), .inl (.inl (some (.inr s2))) => s.own == 1 && s.o && (s2.own == 1 && s2.o)
  | _, _ => false

end
end Go.VM
namespace Go.VM
open Go.RowKit
section
variable {cx : Cx} {P : Program}

/-! ### A slice written out whose elements are owned -/
def ownCells (P : Program) (cx : Cx) (slots : List (V cx.ty)) (t : TypeId) (len : Nat) (parts : List (Nat × Operand)) : Option (Nat × List (L cx.ty) × List Nat) :=
  match sliceElem P t with
  | some e => if elemOk P cx e && decide (len * cx.size e ≤ 1000000) && decide (len ≤ 1000000) then
      match P.info? e with
      | some i => match i.zero with
        | some z => match fillA (fun j => some (j * cx.size e, cx.size e)) (zeroL (if len * cx.size e = 0 then #[] else z.cells) (len * cx.size e)) (parts.map fun (j, x) => (j, getV slots x)) with
          | some cells => match intoLs (mksF P e len) cells with
            | some (cs, gs) => if nodupB gs then some (e, cs, gs) else none
            | none => none
          | none => none
        | none => none
      | none => none
    else none
  | none => none

def evBuildOwn {β : Type} (P : Program) (cx : Cx) (slots : List (V cx.ty)) (t : TypeId) (len : Nat) (parts : List (Nat × Operand)) (nm0 : Nat) (k : Eff cx.ty → Option β) : Option β :=
  match ownCells P cx slots t len parts with
  | some (e, cs, gs) => match decN cx e len cs with
    | some xs => k { v := vs { own := 1, nm := nm0, e := e, o := true, xs := xs }, dead := gs, frz := [], live := gs, read := [] }
    | none => none
  | none => none

theorem evBuildOwn_ok (ok : cx.Ok) {β : Type} {o : Oper} {slots : List (V cx.ty)} {nm0 : Nat} {t : TypeId} {len : Nat} {parts : Array (Nat × Operand)} (ho : o.op = .buildSlice t len parts) {k : Eff cx.ty → Option β} {r : β}
    (h : evBuildOwn P cx slots t len parts.toList nm0 k = some r) : ∃ ef, k ef = some r ∧ EffOK P cx o slots nm0 ef := by
  unfold evBuildOwn at h
  split at h
  · rename_i e cs gs hoc
    split at h
    · rename_i xs hxs
      unfold ownCells at hoc
      split at hoc
      · rename_i e' he
        split at hoc
        · rename_i hc
          simp only [Bool.and_eq_true, decide_eq_true_eq] at hc
          obtain ⟨⟨hel, hlen⟩, hlen2⟩ := hc
          obtain ⟨⟨d, hd⟩, hcs⟩ := elemOk_spec hel
          split at hoc
          · rename_i i hi
            split at hoc
            · rename_i z hz
              split at hoc
              · rename_i cells hcells
                split at hoc
                · rename_i cs' gs' hinto
                  split at hoc
                  · rename_i hgs
                    simp only [Option.some.injEq, Prod.mk.injEq] at hoc
                    obtain ⟨rfl, rfl, rfl⟩ := hoc
                    refine ⟨_, h, ⟨fun c ρ hw hop hlive _ hf => ?_⟩⟩
                    obtain ⟨us', h1, h2⟩ := fillA_rep (c := c) (parts.toList.map fun p => (p.1, getV slots p.2)) (parts.toList.map fun p => (p.1, ρ p.2)) (zeroL (if len * cx.size e' = 0 then #[] else z.cells) (len * cx.size e')) ((Array.range (len * cx.size e')).map ((if len * cx.size e' = 0 then #[] else z.cells)[· % (if len * cx.size e' = 0 then #[] else z.cells).size]!)) cells (lv_rep _) (by simp) (fun j p q e1 e2 => by
                      simp only [List.getElem?_map] at e1 e2
                      cases hx : parts.toList[j]? with
                      | none => simp [hx] at e1
                      | some x =>
                        simp only [hx, Option.map_some, Option.some.injEq] at e1 e2
                        subst e1; subst e2
                        refine ⟨rfl, hop x.2 ?_⟩
                        simp only [ho, Op.operands, List.mem_toArray, List.mem_map]
                        exact ⟨x, List.mem_of_getElem? hx, rfl⟩) hcells
                    obtain ⟨hwk, hcl, m, fpl, hfl, hown, tks, hg1, hg2, hg3⟩ := intoLs_rep hw _ _ _ _ us'.toList hinto h2 hlive
                    obtain ⟨hxl, hxe⟩ := decN_spec ok true len cs' xs hxs
                    rw [hwk] at hxe
                    have hflen := flat_len (cx.enc e' true) (cx.size e') (fun x => ok.len e' true x) xs
                    have hclen : cells.length = len * cx.size e' := by rw [← hcl, hxe, hflen, hxl]
                    have hsize : us'.size = len * cx.size e' := by
                      have := h2.1
                      simp at this
                      omega
                    have hrun : (execOp ρ o).run P c.w = .ok (.value (.slice (some ⟨c.w.heap.size, 0, none⟩) len len)) (c.w.alloc (.cells us' e')) := by
                      have hso : (sizeOf e').run P c.w = .ok (cx.size e') c.w := by rw [run_sizeOf' hd, hcs]
                      have hn24 : ¬ (2 ^ 24 < len * cx.size e') := by omega
                      have h1' : Instr.fill (fun j => some (j * cx.size e', cx.size e')) ((Array.range (len * cx.size e')).map ((if len * cx.size e' = 0 then #[] else z.cells)[· % (if len * cx.size e' = 0 then #[] else z.cells).size]!)) (parts.map fun p => (p.1, ρ p.2)).toList = some us' := by simpa using h1
                      have hz' : (zeroValue e').run P c.w = .ok z c.w := by simp [zeroValue, typeInfo, hi, hz]
                      have hbuild : (Instr.buildSlice t len (parts.map fun p => (p.1, ρ p.2))).run P c.w = .ok (.slice (some ⟨c.w.heap.size, 0, none⟩) len len) (c.w.alloc (.cells us' e')) := by
                        unfold Instr.buildSlice
                        rw [Sem.run_bind, run_underlying (sliceElem_eq he), Result.andThen_ok]
                        dsimp only
                        rw [Sem.run_bind, hso, Result.andThen_ok]
                        by_cases hz0 : len * cx.size e' = 0
                        · simp only [hz0, if_true] at h1' ⊢
                          simp at h1'
                          simp [h1', newRow]
                        · simp only [hz0, if_false] at h1' ⊢
                          simp at h1'
                          simp [hn24, hz', h1', newRow]
                      unfold execOp
                      simp only [ho, Sem.run_bind]
                      rw [hbuild]
                      rfl
                    unfold Runs
                    rw [hrun]
                    have hgn : gs'.Nodup := nodupB_spec gs' hgs
                    have hfnd : (List.flatten fpl).Nodup := by
                      rw [hg3]
                      exact flatMap_inj_nodup hw.nodup hw.names tks (by rw [hg1]; exact hgn) (fun tk ht => (hg2 tk ht).1)
                    have hfb : ∀ b ∈ List.flatten fpl, ∃ tk ∈ c.T, tk.nm ∈ gs' ∧ b ∈ blocks tk := fun b hb => by
                      rw [hg3] at hb
                      obtain ⟨tk, k1, k2⟩ := List.mem_flatMap.1 hb
                      exact ⟨tk, (hg2 tk k1).1, by rw [← hg1]; exact List.mem_map.2 ⟨tk, k1, rfl⟩, k2⟩
                    have hflt : ∀ b ∈ List.flatten fpl, b < c.w.heap.size := fun b hb => by
                      obtain ⟨tk, k1, _, k3⟩ := hfb b hb
                      exact (hw.bound tk k1 b k3).2
                    have hbel := below_alloc c.w (.cells us' e')
                    generalize hu' : Value.slice (some ⟨c.w.heap.size, 0, none⟩) len len = u'
                    have hvb : vb u' = [c.w.heap.size] := by rw [← hu']; rfl
                    refine ⟨_, good_into hw hf (fun tk' ht' hn' => ?_) (fun n hn' => ?_) (s' := { own := 1, nm := nm0, e := e', o := true, xs := xs }) (fp' := List.flatten fpl) ⟨rfl, rfl⟩ (fun b hb' => ?_) (fun b hb' => ?_) ?_ (fun b hb' _ => hbel.block b hb') hbel.size (kept_of hbel hw.size) (fun c' hcw => ?_) ⟨_, _, _, hu'.symm⟩⟩
                    · rw [← hg1] at hn'
                      obtain ⟨t2, k1, k2⟩ := List.mem_map.1 hn'
                      have := uniq_tok hw ht' (hg2 t2 k1).1 k2.symm
                      subst this
                      exact (hg2 _ k1).2
                    · rw [← hg1] at hn'
                      obtain ⟨t2, k1, k2⟩ := List.mem_map.1 hn'
                      exact ⟨t2, (hg2 t2 k1).1, k2⟩
                    · rcases List.mem_append.1 hb' with h3 | h3
                      · rw [hvb] at h3
                        simp only [List.mem_singleton] at h3
                        subst h3
                        exact .inr ⟨Nat.le_refl _, by simp⟩
                      · exact .inl (hfb b h3)
                    · rw [hvb] at hb'
                      simp only [List.mem_singleton] at hb'
                      subst hb'
                      exact .inr (Nat.le_refl _)
                    · rw [hvb, List.nodup_append]
                      refine ⟨by simp, hfnd, fun a ha b hb' he2 => ?_⟩
                      subst he2
                      simp only [List.mem_singleton] at ha
                      subst ha
                      exact Nat.lt_irrefl _ (hflt _ hb')
                    · unfold TokRep
                      simp only [if_true]
                      rw [hcw]
                      refine ⟨by rw [← hu']; rfl, m + 1, us'.toList, fpl, ?_, ?_, ?_, ?_, fun j l v f g1 g2 g3 => ?_⟩
                      · show World.ownsRow _ 0 e' (cx.size e') u' xs.length us'.toList
                        rw [hxl, ← hu']
                        refine ⟨by simp [hsize], .inr ⟨c.w.heap.size, len, us', rfl, Nat.zero_le _, heap_alloc_new c.w _, Nat.le_refl _, by simp [maxLen]; omega, hsize, ?_⟩⟩
                        rw [List.take_of_length_le]
                        simp [hsize]
                      · rw [← hu']; rfl
                      · rw [← hxe, hcl, h2.1]
                      · rw [hfl, h2.1]
                      · have g1 : (xs.flatMap (cx.enc e' true))[j]? = some l := g1
                        rw [← hxe] at g1
                        refine OwnL_mono cx _ _ _ _ (fun b hb' => hbel.block b (hflt b (List.mem_flatten.2 ⟨f, List.mem_of_getElem? g3, hb'⟩))) (hown j l v f g1 g2 g3)
                  · simp at hoc
                · simp at hoc
              · simp at hoc
            · simp at hoc
          · simp at hoc
        · simp at hoc
      · simp at hoc
    · simp at h
  · simp at h

/-- A slice written out: flat; owned, where all that goes in is owned; read alone otherwise. -/
def evBuildAll {β : Type} (P : Program) (cx : Cx) (slots : List (V cx.ty)) (t : TypeId) (len : Nat) (parts : List (Nat × Operand)) (nm0 : Nat) (k : Eff cx.ty → Option β) : Option β :=
  match sliceElem P t with
  | some e => if cx.flat e then evBuildSlice P cx slots t len parts nm0 k else
      if (ownCells P cx slots t len parts).isSome then evBuildOwn P cx slots t len parts nm0 k else evBuildRows P cx slots t len parts nm0 k
  | none => none

theorem evBuildAll_ok (ok : cx.Ok) (hZ : cx.POk P) {β : Type} {o : Oper} {slots : List (V cx.ty)} {nm0 : Nat} {t : TypeId} {len : Nat} {parts : Array (Nat × Operand)} (ho : o.op = .buildSlice t len parts) {k : Eff cx.ty → Option β} {r : β}
    (h : evBuildAll P cx slots t len parts.toList nm0 k = some r) : ∃ ef, k ef = some r ∧ EffOK P cx o slots nm0 ef := by
  unfold evBuildAll at h
  split at h
  · split at h
    · exact evBuildSlice_ok ok hZ ho h
    · split at h
      · exact evBuildOwn_ok ok ho h
      · exact evBuildRows_ok ok ho h
  · simp at h

/-- append: flat, or of owned things. -/
def evAppendAll {β : Type} (P : Program) (cx : Cx) (slots : List (V cx.ty)) (t : TypeId) (x y : Operand) (nm0 : Nat) (k : Eff cx.ty → Option β) : Option β :=
  match sliceElem P t with
  | some e => if cx.flat e then evAppend P cx slots t x y nm0 k else if bothOwn (getV slots x) (getV slots y) then evAppendOwn P cx slots t x y nm0 k else evAppendRo P cx slots t x y nm0 k
  | none => none

theorem evAppendAll_ok (ok : cx.Ok) (hZ : cx.POk P) {β : Type} {o : Oper} {slots : List (V cx.ty)} {nm0 : Nat} {t : TypeId} {x y : Operand} (ho : o.op = .call { callee := .builtin .append, args := #[x, y], argTypes := #[t, t] }) {k : Eff cx.ty → Option β} {r : β}
    (h : evAppendAll P cx slots t x y nm0 k = some r) : ∃ ef, k ef = some r ∧ EffOK P cx o slots nm0 ef := by
  unfold evAppendAll at h
  split at h
  · split at h
    · exact evAppend_ok ok hZ ho h
    · split at h
      · exact evAppendOwn_ok ok ho h
      · exact evAppendRo_ok ok ho h
  · simp at h

end
end Go.VM
namespace Go.VM
open Go.RowKit
section
variable {cx : Cx} {P : Program}

/-- 'x = x[:h]': a row that is owned, cut behind; the row itself is gone. -/
def evTrunc {β : Type} (P : Program) (cx : Cx) (slots : List (V cx.ty)) (t : TypeId) (x hi : Operand) (nm0 : Nat) (k : Eff cx.ty → Option β) : Option β := none
theorem evTrunc_ok (ok : cx.Ok) {β : Type} {o : Oper} {slots : List (V cx.ty)} {nm0 : Nat} {t : TypeId} {x hi : Operand} (ho : o.op = .slice t x none (some hi) none) {k : Eff cx.ty → Option β} {r : β}
    (h : evTrunc P cx slots t x hi nm0 k = some r) : ∃ ef, k ef = some r ∧ EffOK P cx o slots nm0 ef := by
  unfold evTrunc at h
  cases h
/-- A cut of a row into the variable that held it. -/
def truncOf {ty : Nat → Type} (slots : List (V ty)) (o : Oper) (rest : List Oper) : Option (TypeId × Operand × Operand) :=
  match o.guard, o.op, o.dst, rest with
  | none, .slice t x none (some hi) none, some d, o2 :: _ =>
    match o2.op, o2.dst with
    | .assign (.tmp d'), some v => if d' = d then
        match getV slots x, getV slots (.tmp v) with
        | .inl (.inl (some (.inr s))), .inl (.inl (some (.inr s2))) => if s.own == 1 && s2.own == 1 && s.o && s.nm == s2.nm then some (t, x, hi) else none
        | _, _ => none
      else none
    | _, _ => none
  | _, _, _, _ => none
theorem truncOf_eq {ty : Nat → Type} {slots : List (V ty)} {o : Oper} {rest : List Oper} {t : TypeId} {x hi : Operand} (h : truncOf slots o rest = some (t, x, hi)) : o.guard = none ∧ o.op = .slice t x none (some hi) none := by
  unfold truncOf at h
  split at h
  · rename_i hg hop hd
    split at h
    · split at h
      · split at h
        · split at h
          · simp only [Option.some.injEq, Prod.mk.injEq] at h
            obtain ⟨rfl, rfl, rfl⟩ := h
            exact ⟨hg, hop⟩
          · simp at h
        · simp at h
      · simp at h
    · simp at h
  · simp at h
end
end Go.VM

namespace Go.VM
open Go.RowKit
section
variable {cx : Cx} {P : Program}

/-! ### Arrays of numbers, taken by an index -/
def leafInts {ty : Nat → Type} (kk : IntKind) : List (L ty) → Option (List Int)
  | [] => some []
  | some (.inl (.int k a)) :: r => if k = kk then (match leafInts kk r with
      | some xs => some (a :: xs)
      | none => none) else none
  | _ => none

theorem leafInts_rep {c : Ct cx.ty} {kk : IntKind} : ∀ (l : List (L cx.ty)) (us : List Value) (xs : List Int), RepLs cx c l us → leafInts kk l = some xs → us = xs.map (fun a => .int kk a)
  | [], us, xs, h, hx => by
    simp only [leafInts, Option.some.injEq] at hx
    subst hx
    exact List.eq_nil_of_length_eq_zero h.1
  | a :: r, us, xs, h, hx => by
    unfold leafInts at hx
    split at hx
    · rename_i heq; cases heq
    · rename_i k a' r' heq
      simp only [List.cons.injEq] at heq
      obtain ⟨rfl, rfl⟩ := heq
      split at hx
      · rename_i hk
        subst hk
        split at hx
        · rename_i ys hy
          simp only [Option.some.injEq] at hx
          subst hx
          match us, h with
          | [], h => simp [RepLs] at h
          | u :: us, h =>
            have e1 : u = .int k a' := h.2 0 _ u rfl rfl
            have e2 := leafInts_rep r us ys ⟨by have := h.1; simpa using this, fun j a b h1 h2 => h.2 (j + 1) a b (by simpa using h1) (by simpa using h2)⟩ hy
            rw [e1, e2]; rfl
        · simp at hx
      · simp at hx
    · simp at hx

def kindOf {ty : Nat → Type} : List (L ty) → Option IntKind
  | some (.inl (.int k _)) :: _ => some k
  | _ => none

def arrOf (P : Program) (t : TypeId) : Option (Nat × TypeId) :=
  match P.underlying t with
  | some (.array n e) => some (n, e)
  | _ => none

/-- A piece of an array, at a place that is known. -/
def evIndexL {β : Type} (P : Program) (e : TypeId) (n : Nat) (l : List (L cx.ty)) (i : Int) (k : Eff cx.ty → Option β) : Option β :=
  if n == l.length && (P.underlying e).isSome && !aggType P e && P.cellsOf e == 1 then
    match l[i.toNat]? with
    | some y => bif decide (0 ≤ i) && decide (i < n) then k (purR (.inl (.inl y)) []) else none
    | none => none
  else none

theorem evIndexL_ok {β : Type} {o : Oper} {slots : List (V cx.ty)} {nm0 : Nat} {t e : TypeId} {n : Nat} {x ix : Operand} {l : List (L cx.ty)} {ki : IntKind} {i : Int} (ho : o.op = .index t x ix) (hx : getV slots x = .inl (.inr l)) (hix : getV slots ix = .inl (.inl (some (.inl (.int ki i))))) (ha : P.underlying t = some (.array n e)) {k : Eff cx.ty → Option β} {r : β}
    (h : evIndexL P e n l i k = some r) : ∃ ef, k ef = some r ∧ EffOK P cx o slots nm0 ef := by
  unfold evIndexL at h
  split at h
  · rename_i hc
    simp only [Bool.and_eq_true, beq_iff_eq, Bool.not_eq_true'] at hc
    obtain ⟨⟨⟨hn, hu⟩, hag⟩, hsz⟩ := hc
    split at h
    · rename_i y hy
      cases hb : (decide (0 ≤ i) && decide (i < n)) with
      | false => rw [hb] at h; simp at h
      | true =>
        rw [hb] at h
        simp only [Bool.and_eq_true, decide_eq_true_eq] at hb
        refine ⟨_, h, effok_pur fun c ρ hw hop _ => ?_⟩
        have hr := hop x (by simp [ho, Op.operands])
        rw [hx] at hr
        obtain ⟨us, hus, hr⟩ := hr
        have hri := hop ix (by simp [ho, Op.operands])
        rw [hix] at hri
        have hri : ρ ix = .int ki i := hri
        obtain ⟨d, hd⟩ := Option.isSome_iff_exists.1 hu
        have hl : us.length = l.length := hr.1
        have hit : i.toNat < us.length := by rw [hl]; exact (List.getElem?_eq_some_iff.1 hy).1
        have hcell := List.getElem?_eq_getElem hit
        refine ⟨us[i.toNat], ?_, hr.2 i.toNat y _ hy hcell⟩
        have hlt : 0 ≤ i ∧ i < (n : Int) := hb
        unfold execOp
        simp only [ho, Instr.index, hri, hus, asIntOf, Sem.run_bind, Sem.run_pure, Result.andThen_ok, run_underlying ha, if_pos hlt, run_sizeOf' hd, hsz, Nat.mul_one, part, run_isAgg hd, hag, Bool.false_eq_true, if_false, List.getElem?_toArray, hcell]
    · simp at h
  · simp at h

def evIndex {β : Type} (P : Program) (o : Oper) (slots : List (V cx.ty)) (t : TypeId) (x ix : Operand) (k : Eff cx.ty → Option β) : Option β :=
  match getV slots x, getV slots ix, arrOf P t with
  | .inl (.inr l), .inl (.inl (some (.inl (.int _ i)))), some (n, e) =>
    match kindOf l with
    | some kk => match leafInts kk l with
      | some xs => if n == l.length && (P.underlying e).isSome && !aggType P e && P.cellsOf e == 1 then
          bif decide (0 ≤ i) && decide (i < xs.length) then k (purR (vv (.int kk (xs.getD i.toNat 0))) []) else none
        else none
      | none => none
    | none => evIndexL P e n l i k
  | _, _, _ => evGen P o slots k

theorem evIndex_ok {β : Type} {o : Oper} {slots : List (V cx.ty)} {nm0 : Nat} {t : TypeId} {x ix : Operand} (ho : o.op = .index t x ix) {k : Eff cx.ty → Option β} {r : β}
    (h : evIndex P o slots t x ix k = some r) : ∃ ef, k ef = some r ∧ EffOK P cx o slots nm0 ef := by
  unfold evIndex at h
  split at h
  · rename_i l ki i n e hx hix ha
    split at h
    · rename_i kk hkk
      split at h
      · rename_i xs hxs
        split at h
        · rename_i hc
          simp only [Bool.and_eq_true, beq_iff_eq, Bool.not_eq_true'] at hc
          obtain ⟨⟨⟨hn, hu⟩, hag⟩, hsz⟩ := hc
          cases hb : (decide (0 ≤ i) && decide (i < xs.length)) with
          | false => rw [hb] at h; simp at h
          | true =>
            rw [hb] at h
            simp only [Bool.and_eq_true, decide_eq_true_eq] at hb
            refine ⟨_, h, effok_pur fun c ρ hw hop _ => ?_⟩
            have hr := hop x (by simp [ho, Op.operands])
            rw [hx] at hr
            obtain ⟨us, hus, hr⟩ := hr
            have hri := hop ix (by simp [ho, Op.operands])
            rw [hix] at hri
            have hri : ρ ix = .int ki i := hri
            have he := leafInts_rep l us xs hr hxs
            obtain ⟨d, hd⟩ := Option.isSome_iff_exists.1 hu
            unfold arrOf at ha
            split at ha
            · rename_i n' e' hund
              simp only [Option.some.injEq, Prod.mk.injEq] at ha
              obtain ⟨rfl, rfl⟩ := ha
              have hl : us.length = l.length := hr.1
              have hxl : xs.length = l.length := by rw [← hl, he, List.length_map]
              have hit : i.toNat < xs.length := by omega
              have hcell : us[i.toNat]? = some (.int kk (xs.getD i.toNat 0)) := by
                rw [he, List.getElem?_map, List.getElem?_eq_getElem hit]
                simp [List.getD, List.getElem?_eq_getElem hit]
              refine ⟨.int kk (xs.getD i.toNat 0), ?_, rfl⟩
              have hlt : 0 ≤ i ∧ i < (n' : Int) := ⟨hb.1, by omega⟩
              unfold execOp
              simp only [ho, Instr.index, hri, hus, asIntOf, Sem.run_bind, Sem.run_pure, Result.andThen_ok, run_underlying hund, if_pos hlt, run_sizeOf' hd, hsz, Nat.mul_one, part, run_isAgg hd, hag, Bool.false_eq_true, if_false, List.getElem?_toArray, hcell]
            · simp at ha
        · simp at h
      · simp at h
    · unfold arrOf at ha
      split at ha
      · rename_i n' e' hund
        simp only [Option.some.injEq, Prod.mk.injEq] at ha
        obtain ⟨rfl, rfl⟩ := ha
        exact evIndexL_ok ho hx hix hund h
      · simp at ha
  · exact evGen_ok h

/-- Arrays, built. -/
def evBuildR {β : Type} (P : Program) (slots : List (V cx.ty)) (t : TypeId) (parts : List (Nat × Operand)) (k : Eff cx.ty → Option β) : Option β :=
  match arrOf P t, P.info? t with
  | some (_, e), some i => match i.zero with
    | some z => if (P.underlying e).isSome then (match fillA (fun j => some (j * P.cellsOf e, P.cellsOf e)) (z.cells.toList.map lv) (parts.map fun (j, x) => (j, getV slots x)) with
      | some cells => k (purR (va cells) [])
      | none => none) else none
    | none => none
  | _, _ => evBuild P slots t parts k

theorem run_buildR {t e : TypeId} {n : Nat} (hfa : P.underlying t = some (.array n e)) {d : TypeDesc} (hd : P.underlying e = some d) {i : TypeInfo} {z : Value} (hi : P.info? t = some i) (hz : i.zero = some z) {parts : Array (Nat × Value)} {us' : Array Value}
    (hfill : Instr.fill (fun j => some (j * P.cellsOf e, P.cellsOf e)) z.cells parts.toList = some us') (w : World) : (Instr.build t parts).run P w = .ok (.agg us') w := by
  have hz' : (zeroValue t).run P w = .ok z w := by simp [zeroValue, typeInfo, hi, hz]
  unfold Instr.build
  rw [Sem.run_bind, hz', Result.andThen_ok, Sem.run_bind, run_underlying hfa, Result.andThen_ok]
  dsimp only
  rw [Sem.run_bind, run_sizeOf' hd, Result.andThen_ok, hfill]
  rfl

theorem evBuildR_ok {β : Type} {o : Oper} {slots : List (V cx.ty)} {nm0 : Nat} {t : TypeId} {parts : Array (Nat × Operand)} (ho : o.op = .build t parts) {k : Eff cx.ty → Option β} {r : β}
    (h : evBuildR P slots t parts.toList k = some r) : ∃ ef, k ef = some r ∧ EffOK P cx o slots nm0 ef := by
  unfold evBuildR at h
  split at h
  · rename_i n e i hfs hi
    split at h
    · rename_i z hz
      split at h
      · rename_i he
        split at h
        · rename_i cells hf
          obtain ⟨d, hd⟩ := Option.isSome_iff_exists.1 he
          unfold arrOf at hfs
          split at hfs
          · rename_i n' e' hund
            simp only [Option.some.injEq, Prod.mk.injEq] at hfs
            obtain ⟨rfl, rfl⟩ := hfs
            refine ⟨_, h, effok_pur fun c ρ hw hop _ => ?_⟩
            obtain ⟨us', h1, h2⟩ := fillA_rep (parts.toList.map fun p => (p.1, getV slots p.2)) (parts.toList.map fun p => (p.1, ρ p.2)) (z.cells.toList.map lv) z.cells cells (lv_rep _) (by simp) (fun j p q e1 e2 => by
              simp only [List.getElem?_map] at e1 e2
              cases hx : parts.toList[j]? with
              | none => simp [hx] at e1
              | some x =>
                simp only [hx, Option.map_some, Option.some.injEq] at e1 e2
                subst e1; subst e2
                refine ⟨rfl, hop x.2 ?_⟩
                simp only [ho, Op.operands, List.mem_toArray, List.mem_map]
                exact ⟨x, List.mem_of_getElem? hx, rfl⟩) hf
            refine ⟨.agg us', ?_, us'.toList, by simp, h2⟩
            have hbuild := run_buildR hund hd hi hz (parts := parts.map fun p => (p.1, ρ p.2)) (us' := us') (by simpa using h1) c.w
            unfold execOp
            simp only [ho, Sem.run_bind]
            rw [hbuild]
            rfl
          · simp at hfs
        · simp at h
      · simp at h
    · simp at h
  · exact evBuild_ok ho h

/-- A pointer that is not nil. -/
def evNil {β : Type} (P : Program) (o : Oper) (slots : List (V cx.ty)) (x : Operand) (k : Eff cx.ty → Option β) : Option β :=
  match getV slots x with
  | .inr (.inr p) => if p.kind == 0 && p.i == 0 then k (purR (.inr (.inr p)) []) else if p.kind == 2 && p.nm == 0 then k (purR (.inr (.inr p)) []) else none
  | _ => evGen P o slots k

theorem evNil_ok {β : Type} {o : Oper} {slots : List (V cx.ty)} {nm0 : Nat} {x : Operand} (ho : o.op = .nilCheck x) {k : Eff cx.ty → Option β} {r : β}
    (h : evNil P o slots x k = some r) : ∃ ef, k ef = some r ∧ EffOK P cx o slots nm0 ef := by
  unfold evNil at h
  split at h
  · rename_i p hx
    split at h
    · rename_i hk
      simp only [Bool.and_eq_true, beq_iff_eq] at hk
      obtain ⟨hk, hi0⟩ := hk
      refine ⟨_, h, effok_pur fun c ρ hw hop _ => ?_⟩
      have hr := hop x (by simp [ho, Op.operands])
      rw [hx] at hr
      refine ⟨ρ x, ?_, hr⟩
      have hr : RepP cx c p (ρ x) := hr
      unfold RepP at hr
      simp only [hk, hi0] at hr
      obtain ⟨tk, _, _, _, g, _, hu⟩ := hr
      have hu : ρ x = .pointer (some ⟨g, p.off, none⟩) := hu
      unfold execOp
      simp [ho, hu]
    · split at h
      · rename_i hk
        have hk : p.kind = 2 ∧ p.nm = 0 := by simpa using hk
        obtain ⟨hk, hnm⟩ := hk
        refine ⟨_, h, effok_pur fun c ρ hw hop _ => ?_⟩
        have hr := hop x (by simp [ho, Op.operands])
        rw [hx] at hr
        refine ⟨ρ x, ?_, hr⟩
        have hr : RepP cx c p (ρ x) := hr
        unfold RepP at hr
        simp only [hk] at hr
        obtain ⟨b, o2, hu, _⟩ := hr
        rw [hnm] at hu
        have hu : ρ x = .pointer (some ⟨b, o2 + p.off, none⟩) := hu
        unfold execOp
        simp [ho, hu]
      · simp at h
  · exact evGen_ok h

/-! ### Structs of numbers, held against one another -/
def okFs (P : Program) (ok : TypeId → Bool) : Nat → List Field → Bool
  | _, [] => true
  | off, f :: r => f.name != "_" && f.offset == off && ok f.type && okFs P ok (off + P.cellsOf f.type) r
def cellsFs (P : Program) : List Field → Nat
  | [] => 0
  | f :: r => P.cellsOf f.type + cellsFs P r
/-- Numbers, or structs of such. -/
def okT (P : Program) : Nat → TypeId → Bool
  | 0, _ => false
  | n + 1, t => match P.underlying t with
    | some (.int _) => !aggType P t && P.cellsOf t == 1
    | some (.struct fs) => aggType P t && !P.stoodInHeld t && okFs P (okT P n) 0 fs.toList && cellsFs P fs.toList == P.cellsOf t
    | some (.array len e) => aggType P t && okT P n e && len * P.cellsOf e == P.cellsOf t
    | _ => false
def eqAll : List Int → List Int → Bool
  | a :: xs, b :: ys => a == b && eqAll xs ys
  | _, _ => true
def eqAcc {α : Type} : List Int → List Int → Bool → (Bool → Option α) → Option α
  | a :: xs, b :: ys, acc, k => eqAcc xs ys (acc && a == b) k
  | [], [], acc, k => k acc
  | _, _, _, _ => none
theorem eqAcc_eq {α : Type} : ∀ (xs ys : List Int) (acc : Bool) (k : Bool → Option α) {r : α}, eqAcc xs ys acc k = some r → k (acc && eqAll xs ys) = some r ∧ xs.length = ys.length
  | [], [], acc, k, r, h => by simpa [eqAcc, eqAll] using h
  | a :: xs, b :: ys, acc, k, r, h => by
    obtain ⟨h1, h2⟩ := eqAcc_eq xs ys _ k (r := r) (by simpa [eqAcc] using h)
    refine ⟨by rw [eqAll, ← Bool.and_assoc]; exact h1, by simp [h2]⟩
  | [], _ :: _, _, _, _, h => by simp [eqAcc] at h
  | _ :: _, [], _, _, _, h => by simp [eqAcc] at h

theorem eqAll_append : ∀ (a a' b b' : List Int), a.length = a'.length → eqAll (a ++ b) (a' ++ b') = (eqAll a a' && eqAll b b')
  | [], [], b, b', _ => by simp [eqAll]
  | x :: a, y :: a', b, b', h => by
    simp only [List.cons_append, eqAll]
    rw [eqAll_append a a' b b' (by simpa using h), Bool.and_assoc]
  | [], _ :: _, _, _, h => by simp at h
  | _ :: _, [], _, _, h => by simp at h

def intsV (P : Program) (kk : IntKind) (t : TypeId) (X : List Int) : Value := if aggType P t then .agg (X.map (fun a => Value.int kk a)).toArray else .int kk (X.headD 0)

theorem run_part_ints {kk : IntKind} (w : World) {n : Nat} {t : TypeId} (h : okT P n t = true) {X : List Int} {off : Nat} (hl : off + P.cellsOf t ≤ X.length) :
    (part t (X.map (fun a => Value.int kk a)).toArray off).run P w = .ok (intsV P kk t ((X.drop off).take (P.cellsOf t))) w := by
  cases n with
  | zero => simp [okT] at h
  | succ n =>
    unfold okT at h
    split at h
    · rename_i k hu
      simp only [Bool.and_eq_true, Bool.not_eq_true', beq_iff_eq] at h
      unfold part intsV
      have hlt : off < X.length := by omega
      simp only [Sem.run_bind, run_isAgg hu, h.1, Result.andThen_ok, Bool.false_eq_true, if_false, List.getElem?_toArray, List.getElem?_map, List.getElem?_eq_getElem hlt, Option.map_some, Sem.run_pure, h.2]
      rw [List.drop_eq_getElem_cons hlt]
      rfl
    · rename_i fs hu
      simp only [Bool.and_eq_true, Bool.not_eq_true', beq_iff_eq] at h
      unfold part intsV
      simp only [Sem.run_bind, run_isAgg hu, h.1.1.1, Result.andThen_ok, if_true, run_sizeOf' hu, Sem.run_pure, List.extract_toArray, List.extract_eq_take_drop, Nat.add_sub_cancel_left, List.map_take, List.map_drop]
    · rename_i len e hu
      simp only [Bool.and_eq_true, beq_iff_eq] at h
      unfold part intsV
      simp only [Sem.run_bind, run_isAgg hu, h.1.1, Result.andThen_ok, if_true, run_sizeOf' hu, Sem.run_pure, List.extract_toArray, List.extract_eq_take_drop, Nat.add_sub_cancel_left, List.map_take, List.map_drop]
    · simp at h

def eqEls (d : Nat) (e : TypeId) (n : Nat) (xs ys : Array Value) : List Nat → Sem Bool
  | [] => pure true
  | i :: r => do
    let a ← part e xs (i * n)
    let b ← part e ys (i * n)
    let q ← Op.equalIn d e a b
    if (!q) = true then pure false else eqEls d e n xs ys r

theorem run_equalIn_arr {dd : TypeDesc} (w : World) (d : Nat) (t e : TypeId) (len : Nat) (xs ys : Array Value) (ht : P.underlying t = some (.array len e)) (he : P.underlying e = some dd) :
    (Op.equalIn (d + 1) t (.agg xs) (.agg ys)).run P w = (eqEls d e (P.cellsOf e) xs ys (List.range' 0 len)).run P w := by
  simp only [Op.equalIn, Sem.run_bind, run_underlying ht, Result.andThen_ok, run_sizeOf' he, Std.Legacy.Range.forIn_eq_forIn_range', Std.Legacy.Range.size]
  simp only [Nat.sub_zero, Nat.add_sub_cancel, Nat.div_one]
  generalize List.range' 0 len = l
  clear ht
  induction l generalizing w with
  | nil => simp [eqEls]
  | cons i l ih =>
    simp only [List.forIn_cons, eqEls, Sem.run_bind, Sem.run_ite]
    generalize (part e xs (i * P.cellsOf e)).run P w = r1
    cases r1 with
    | ok a w1 =>
      simp only [Result.andThen_ok]
      generalize (part e ys (i * P.cellsOf e)).run P w1 = r2
      cases r2 with
      | ok b w2 =>
        simp only [Result.andThen_ok]
        generalize (Op.equalIn d e a b).run P w2 = r3
        cases r3 with
        | ok r w3 =>
          cases r
          · simp only [Result.andThen_ok, Bool.not_false, if_true, Sem.run_pure]
          · simp only [Result.andThen_ok, Bool.not_true, Bool.false_eq_true, if_false, Sem.run_pure]
            exact ih w3
        | halt x w3 => simp [Result.andThen]
      | halt x w2 => simp [Result.andThen]
    | halt x w1 => simp [Result.andThen]

theorem okT_und {n : Nat} {t : TypeId} (h : okT P n t = true) : ∃ dd, P.underlying t = some dd := by
  cases n with
  | zero => simp [okT] at h
  | succ n =>
    unfold okT at h
    split at h
    · exact ⟨_, ‹_›⟩
    · exact ⟨_, ‹_›⟩
    · exact ⟨_, ‹_›⟩
    · simp at h

theorem run_eqEls {kk : IntKind} (w : World) (d n : Nat) (e : TypeId) (he : okT P n e = true) (IH : ∀ X Y : List Int, X.length = P.cellsOf e → Y.length = P.cellsOf e → (Op.equalIn d e (intsV P kk e X) (intsV P kk e Y)).run P w = .ok (eqAll X Y) w) :
    ∀ (k i : Nat) (X Y : List Int), X.length = Y.length → (i + k) * P.cellsOf e = X.length →
      (eqEls d e (P.cellsOf e) (X.map (fun a => Value.int kk a)).toArray (Y.map (fun a => Value.int kk a)).toArray (List.range' i k)).run P w = .ok (eqAll (X.drop (i * P.cellsOf e)) (Y.drop (i * P.cellsOf e))) w
  | 0, i, X, Y, hxy, hl => by
    rw [List.drop_eq_nil_of_le (by rw [← hl]; exact Nat.le_refl _), List.drop_eq_nil_of_le (by rw [← hxy, ← hl]; exact Nat.le_refl _)]
    simp [eqEls, eqAll]
  | k + 1, i, X, Y, hxy, hl => by
    have hs : (i + 1) * P.cellsOf e = i * P.cellsOf e + P.cellsOf e := Nat.succ_mul ..
    have hle : i * P.cellsOf e + P.cellsOf e ≤ X.length := by rw [← hl, ← hs]; exact Nat.mul_le_mul_right _ (by omega)
    have p1 := run_part_ints (kk := kk) w he (X := X) (off := i * P.cellsOf e) hle
    have p2 := run_part_ints (kk := kk) w he (X := Y) (off := i * P.cellsOf e) (by omega)
    have eqv := IH ((X.drop (i * P.cellsOf e)).take (P.cellsOf e)) ((Y.drop (i * P.cellsOf e)).take (P.cellsOf e)) (by simp; omega) (by simp; omega)
    have ih := run_eqEls w d n e he IH k (i + 1) X Y hxy (by rw [← hl]; congr 1; omega)
    rw [hs] at ih
    have sx : X.drop (i * P.cellsOf e) = (X.drop (i * P.cellsOf e)).take (P.cellsOf e) ++ X.drop (i * P.cellsOf e + P.cellsOf e) := by rw [← List.drop_drop, List.take_append_drop]
    have sy : Y.drop (i * P.cellsOf e) = (Y.drop (i * P.cellsOf e)).take (P.cellsOf e) ++ Y.drop (i * P.cellsOf e + P.cellsOf e) := by rw [← List.drop_drop, List.take_append_drop]
    have ea : eqAll (X.drop (i * P.cellsOf e)) (Y.drop (i * P.cellsOf e)) = (eqAll ((X.drop (i * P.cellsOf e)).take (P.cellsOf e)) ((Y.drop (i * P.cellsOf e)).take (P.cellsOf e)) && eqAll (X.drop (i * P.cellsOf e + P.cellsOf e)) (Y.drop (i * P.cellsOf e + P.cellsOf e))) := by
      conv => lhs; rw [sx, sy]
      exact eqAll_append _ _ _ _ (by simp; omega)
    rw [List.range'_succ]
    simp only [eqEls, Sem.run_bind, p1, p2, Result.andThen_ok, eqv]
    rw [ea]
    cases hb : eqAll ((X.drop (i * P.cellsOf e)).take (P.cellsOf e)) ((Y.drop (i * P.cellsOf e)).take (P.cellsOf e)) with
    | true => simpa using ih
    | false => simp

theorem run_eqFs {kk : IntKind} (w : World) (d n : Nat) (IH : ∀ t, okT P n t = true → ∀ X Y : List Int, X.length = P.cellsOf t → Y.length = P.cellsOf t → (Op.equalIn d t (intsV P kk t X) (intsV P kk t Y)).run P w = .ok (eqAll X Y) w) :
    ∀ (fs : List Field) (off : Nat) (X Y : List Int), okFs P (okT P n) off fs = true → X.length = Y.length → off + cellsFs P fs = X.length →
      (Op.eqFields d (X.map (fun a => Value.int kk a)).toArray (Y.map (fun a => Value.int kk a)).toArray fs).run P w = .ok (eqAll (X.drop off) (Y.drop off)) w
  | [], off, X, Y, _, hxy, hl => by
    simp only [cellsFs, Nat.add_zero] at hl
    rw [List.drop_eq_nil_of_le (by omega), List.drop_eq_nil_of_le (by omega)]
    simp [Op.eqFields, eqAll]
  | f :: fs, off, X, Y, hf, hxy, hl => by
    simp only [okFs, Bool.and_eq_true, bne_iff_ne, ne_eq, beq_iff_eq] at hf
    obtain ⟨⟨⟨hn, ho⟩, hk⟩, hf⟩ := hf
    simp only [cellsFs] at hl
    have p1 := run_part_ints (kk := kk) w hk (X := X) (off := off) (by omega)
    have p2 := run_part_ints (kk := kk) w hk (X := Y) (off := off) (by omega)
    have e := IH f.type hk ((X.drop off).take (P.cellsOf f.type)) ((Y.drop off).take (P.cellsOf f.type)) (by simp; omega) (by simp; omega)
    have ih := run_eqFs w d n IH fs (off + P.cellsOf f.type) X Y hf hxy (by omega)
    have sx : X.drop off = (X.drop off).take (P.cellsOf f.type) ++ X.drop (off + P.cellsOf f.type) := by rw [← List.drop_drop, List.take_append_drop]
    have sy : Y.drop off = (Y.drop off).take (P.cellsOf f.type) ++ Y.drop (off + P.cellsOf f.type) := by rw [← List.drop_drop, List.take_append_drop]
    have ea : eqAll (X.drop off) (Y.drop off) = (eqAll ((X.drop off).take (P.cellsOf f.type)) ((Y.drop off).take (P.cellsOf f.type)) && eqAll (X.drop (off + P.cellsOf f.type)) (Y.drop (off + P.cellsOf f.type))) := by
      conv => lhs; rw [sx, sy]
      exact eqAll_append _ _ _ _ (by simp; omega)
    simp only [Op.eqFields, hn, ne_eq, not_false_eq_true, if_true, Sem.run_bind, ho, p1, p2, Result.andThen_ok, e]
    rw [ea]
    cases hb : eqAll ((X.drop off).take (P.cellsOf f.type)) ((Y.drop off).take (P.cellsOf f.type)) with
    | true => simpa using ih
    | false => simp

theorem run_equalT {kk : IntKind} (w : World) (d : Nat) : ∀ (n : Nat) (t : TypeId), okT P n t = true → ∀ X Y : List Int, X.length = P.cellsOf t → Y.length = P.cellsOf t → (Op.equalIn (d + n) t (intsV P kk t X) (intsV P kk t Y)).run P w = .ok (eqAll X Y) w
  | 0, _, h, _, _, _, _ => by simp [okT] at h
  | n + 1, t, h, X, Y, hX, hY => by
    unfold okT at h
    split at h
    · rename_i k hu
      simp only [Bool.and_eq_true, Bool.not_eq_true', beq_iff_eq] at h
      unfold intsV
      simp only [h.1, Bool.false_eq_true, if_false]
      match X, Y, hX, hY with
      | [a], [b], _, _ =>
        show (Op.equalIn ((d + n) + 1) t (.int kk a) (.int kk b)).run P w = _
        rw [run_equalIn_int w (d + n) t kk k a b hu]
        simp [eqAll]
      | [], _, hX, _ => rw [h.2] at hX; simp at hX
      | _ :: _ :: _, _, hX, _ => rw [h.2] at hX; simp at hX
      | [_], [], _, hY => rw [h.2] at hY; simp at hY
      | [_], _ :: _ :: _, _, hY => rw [h.2] at hY; simp at hY
    · rename_i fs hu
      simp only [Bool.and_eq_true, Bool.not_eq_true', beq_iff_eq] at h
      obtain ⟨⟨⟨hag, hst⟩, hfo⟩, hc⟩ := h
      have hfs : P.fieldsOf t = fs := by simp [Program.fieldsOf, hu]
      unfold intsV
      simp only [hag, if_true]
      show (Op.equalIn ((d + n) + 1) t _ _).run P w = _
      rw [run_equalIn_agg (P := P) w (d + n) t _ _ (by rw [hfs]; exact hu) hst, hfs]
      exact run_eqFs w (d + n) n (fun t ht X Y hX hY => run_equalT w d n t ht X Y hX hY) fs.toList 0 X Y hfo (hX.trans hY.symm) (by rw [hc, hX]; omega)
    · rename_i len e hu
      simp only [Bool.and_eq_true, beq_iff_eq] at h
      obtain ⟨⟨hag, he⟩, hc⟩ := h
      obtain ⟨dd, hdd⟩ := okT_und he
      unfold intsV
      simp only [hag, if_true]
      show (Op.equalIn ((d + n) + 1) t _ _).run P w = _
      rw [run_equalIn_arr (P := P) w (d + n) t e len _ _ hu hdd]
      have := run_eqEls (kk := kk) w (d + n) n e he (fun X Y hX hY => run_equalT w d n e he X Y hX hY) len 0 X Y (hX.trans hY.symm) (by rw [Nat.zero_add, hc, hX])
      rwa [Nat.zero_mul, List.drop_zero, List.drop_zero] at this
    · simp at h

def isEqOp : BinOp → Bool
  | .eql => true
  | .neq => true
  | _ => false
def eqK {ty : Nat → Type} {β : Type} (op : BinOp) (k : Eff ty → Option β) (r : Bool) : Option β := match op with
  | .eql => k (purR (vv (.bool r)) [])
  | .neq => k (purR (vv (.bool (!r))) [])
  | _ => none
def eqVal (op : BinOp) (r : Bool) : Bool := match op with
  | .neq => !r
  | _ => r
theorem eqK_eq {ty : Nat → Type} {β : Type} {op : BinOp} {k : Eff ty → Option β} {r : Bool} {x : β} (h : eqK op k r = some x) : k (purR (vv (.bool (eqVal op r))) []) = some x := by
  unfold eqK at h
  split at h
  · exact h
  · exact h
  · simp at h
theorem run_eq_struct {op : BinOp} (ho : isEqOp op = true) (w : World) (t : TypeId) (xs ys : Array Value) {r : Bool} (h : (Op.equalIn 10000 t (.agg xs) (.agg ys)).run P w = .ok r w) : (binOp op t (.agg xs) (.agg ys)).run P w = .ok (.bool (eqVal op r)) w := by
  cases op <;> first | (simp [isEqOp] at ho) | skip
  · rw [run_eql_struct, h]; rfl
  · rw [run_neq_struct, h]; rfl
def evEqS {β : Type} (P : Program) (o : Oper) (slots : List (V cx.ty)) (op : BinOp) (t : TypeId) (x y : Operand) (k : Eff cx.ty → Option β) : Option β :=
  match getV slots x, getV slots y with
  | .inl (.inr (a :: l)), .inl (.inr (b :: m)) =>
    match kindOf (a :: l) with
    | some kk => match leafInts kk (a :: l), leafInts kk (b :: m) with
      | some (z :: zs), some (y :: ys) => if isEqOp op && okT P 8 t && aggType P t && zs.length + 1 == P.cellsOf t && !P.eqGuardType P.depth t then
          eqAcc zs ys (z == y) (eqK op k)
        else none
      | _, _ => none
    | none => none
  | _, _ => evGen P o slots k

theorem evEqS_ok {β : Type} {o : Oper} {slots : List (V cx.ty)} {nm0 : Nat} {op : BinOp} {t yt : TypeId} {x y : Operand} (ho : o.op = .binOp op t x y yt) {k : Eff cx.ty → Option β} {r : β}
    (h : evEqS P o slots op t x y k = some r) : ∃ ef, k ef = some r ∧ EffOK P cx o slots nm0 ef := by
  unfold evEqS at h
  split at h
  · rename_i a l b m hx hy
    split at h
    · rename_i kk hkk
      split at h
      · rename_i z zs y' ys hz hy'
        split at h
        · rename_i hc
          simp only [Bool.and_eq_true, beq_iff_eq, Bool.not_eq_true'] at hc
          obtain ⟨⟨⟨⟨hop2, hok⟩, hag⟩, hzl⟩, hgt⟩ := hc
          obtain ⟨h, hlen⟩ := eqAcc_eq zs ys _ _ h
          replace h := eqK_eq h
          refine ⟨_, h, effok_pur fun c ρ hw hop _ => ?_⟩
          have h1 := hop x (by simp [ho, Op.operands]); rw [hx] at h1
          have h2 := hop y (by simp [ho, Op.operands]); rw [hy] at h2
          obtain ⟨us, hus, hru⟩ := h1
          obtain ⟨vs, hvs, hrv⟩ := h2
          have e1 := leafInts_rep _ us _ hru hz
          have e2 := leafInts_rep _ vs _ hrv hy'
          refine ⟨.bool (eqVal op (z == y' && eqAll zs ys)), ?_, rfl⟩
          have hq := run_equalT (P := P) (kk := kk) c.w 9992 8 t hok (z :: zs) (y' :: ys) (by simpa using hzl) (by simpa [← hlen] using hzl)
          unfold intsV at hq
          simp only [hag, if_true, ← e1, ← e2] at hq
          have hg := run_eqGuard_agg (P := P) c.w op t x y us.toArray vs.toArray hgt
          unfold execOp
          simp only [ho, hus, hvs, Sem.run_bind, hg, Result.andThen_ok]
          rw [run_eq_struct hop2 c.w t _ _ hq]
          rfl
        · simp at h
      · simp at h
    · simp at h
  · exact evGen_ok h

/-! ### Flat structs of numbers and bools, held against one another -/
abbrev Sc := (IntKind × Int) ⊕ Bool
def scVal : Sc → Value
  | .inl p => .int p.1 p.2
  | .inr b => .bool b
def leafSc {ty : Nat → Type} : List (L ty) → Option (List Sc)
  | [] => some []
  | some (.inl (.int k a)) :: r => match leafSc r with
    | some xs => some (.inl (k, a) :: xs)
    | none => none
  | some (.inl (.bool b)) :: r => match leafSc r with
    | some xs => some (.inr b :: xs)
    | none => none
  | _ => none
theorem leafSc_rep {c : Ct cx.ty} : ∀ (l : List (L cx.ty)) (us : List Value) (xs : List Sc), RepLs cx c l us → leafSc l = some xs → us = xs.map scVal
  | [], us, xs, h, hx => by
    simp only [leafSc, Option.some.injEq] at hx
    subst hx
    exact List.eq_nil_of_length_eq_zero h.1
  | a :: r, us, xs, h, hx => by
    unfold leafSc at hx
    match us, h with
    | [], h => simp [RepLs] at h
    | u :: us, h =>
      have hr : RepLs cx c r us := ⟨by have := h.1; simpa using this, fun j a b h1 h2 => h.2 (j + 1) a b (by simpa using h1) (by simpa using h2)⟩
      split at hx
      · rename_i heq; cases heq
      · rename_i k a' r' heq
        simp only [List.cons.injEq] at heq
        obtain ⟨rfl, rfl⟩ := heq
        split at hx
        · rename_i ys hy
          simp only [Option.some.injEq] at hx
          subst hx
          have e1 : u = .int k a' := h.2 0 _ u rfl rfl
          rw [e1, leafSc_rep r us ys hr hy]; rfl
        · simp at hx
      · rename_i b r' heq
        simp only [List.cons.injEq] at heq
        obtain ⟨rfl, rfl⟩ := heq
        split at hx
        · rename_i ys hy
          simp only [Option.some.injEq] at hx
          subst hx
          have e1 : u = .bool b := h.2 0 _ u rfl rfl
          rw [e1, leafSc_rep r us ys hr hy]; rfl
        · simp at hx
      · simp at hx
def hasBool {ty : Nat → Type} : List (L ty) → Bool
  | [] => false
  | some (.inl (.bool _)) :: _ => true
  | _ :: r => hasBool r
def eq1 : Sc → Sc → Bool
  | .inl p, .inl q => p.2 == q.2
  | .inr a, .inr b => a == b
  | _, _ => false
def eqSc : List Sc → List Sc → Bool
  | a :: xs, b :: ys => eq1 a b && eqSc xs ys
  | _, _ => true
def accSc {α : Type} : List Sc → List Sc → Bool → (Bool → Option α) → Option α
  | a :: xs, b :: ys, acc, k => accSc xs ys (acc && eq1 a b) k
  | [], [], acc, k => k acc
  | _, _, _, _ => none
theorem accSc_eq {α : Type} : ∀ (xs ys : List Sc) (acc : Bool) (k : Bool → Option α) {r : α}, accSc xs ys acc k = some r → k (acc && eqSc xs ys) = some r ∧ xs.length = ys.length
  | [], [], acc, k, r, h => by simpa [accSc, eqSc] using h
  | a :: xs, b :: ys, acc, k, r, h => by
    obtain ⟨h1, h2⟩ := accSc_eq xs ys _ k (r := r) (by simpa [accSc] using h)
    refine ⟨by rw [eqSc, ← Bool.and_assoc]; exact h1, by simp [h2]⟩
  | [], _ :: _, _, _, _, h => by simp [accSc] at h
  | _ :: _, [], _, _, _, h => by simp [accSc] at h
def okSc (P : Program) (t : TypeId) : Sc → Sc → Bool
  | .inl p, .inl q => p.1 == q.1 && !aggType P t && (match P.underlying t with | some (.int _) => true | _ => false)
  | .inr _, .inr _ => !aggType P t && (match P.underlying t with | some .bool => true | _ => false)
  | _, _ => false
def okFl (P : Program) : Nat → List Field → List Sc → List Sc → Bool
  | _, [], [], [] => true
  | off, f :: r, x :: X, y :: Y => f.name != "_" && f.offset == off && okSc P f.type x y && okFl P (off + 1) r X Y
  | _, _, _, _ => false
theorem run_part_sc (w : World) {t : TypeId} {d : TypeDesc} (hu : P.underlying t = some d) (ha : aggType P t = false) {us : List Value} {off : Nat} {v : Value} (hv : us[off]? = some v) : (part t us.toArray off).run P w = .ok v w := by
  unfold part
  simp only [Sem.run_bind, run_isAgg hu, ha, Result.andThen_ok, Bool.false_eq_true, if_false, List.getElem?_toArray, hv, Sem.run_pure]
theorem run_equal_sc (w : World) (d : Nat) {t : TypeId} {x y : Sc} (h : okSc P t x y = true) : (∃ dd, P.underlying t = some dd) ∧ aggType P t = false ∧ (Op.equalIn (d + 1) t (scVal x) (scVal y)).run P w = .ok (eq1 x y) w := by
  match x, y, h with
  | .inl (k, a), .inl (k2, b), h =>
    simp only [okSc, Bool.and_eq_true, beq_iff_eq, Bool.not_eq_true'] at h
    obtain ⟨⟨rfl, ha⟩, hu⟩ := h
    split at hu
    · rename_i k3 hu2
      exact ⟨⟨_, hu2⟩, ha, run_equalIn_int w d t k k3 a b hu2⟩
    · cases hu
  | .inr a, .inr b, h =>
    simp only [okSc, Bool.and_eq_true, Bool.not_eq_true'] at h
    obtain ⟨ha, hu⟩ := h
    split at hu
    · rename_i hu2
      exact ⟨⟨_, hu2⟩, ha, run_equalIn_bool' w d t a b hu2⟩
    · cases hu
  | .inl _, .inr _, h => simp [okSc] at h
  | .inr _, .inl _, h => simp [okSc] at h
theorem run_eqFl (w : World) (d : Nat) : ∀ (fs : List Field) (off : Nat) (us vs : List Value) (X Y : List Sc), okFl P off fs X Y = true → us.drop off = X.map scVal → vs.drop off = Y.map scVal →
    (Op.eqFields (d + 1) us.toArray vs.toArray fs).run P w = .ok (eqSc X Y) w
  | [], off, us, vs, [], [], _, _, _ => by simp [Op.eqFields, eqSc]
  | f :: fs, off, us, vs, x :: X, y :: Y, h, hu, hv => by
    simp only [okFl, Bool.and_eq_true, bne_iff_ne, ne_eq, beq_iff_eq] at h
    obtain ⟨⟨⟨hn, ho⟩, hk⟩, hf⟩ := h
    obtain ⟨⟨dd, hdd⟩, ha, he⟩ := run_equal_sc (P := P) w d hk
    have get : ∀ (us : List Value) (x : Sc) (X : List Sc), us.drop off = (x :: X).map scVal → us[off]? = some (scVal x) ∧ us.drop (off + 1) = X.map scVal := fun us x X h => by
      have h0 : (us.drop off)[0]? = some (scVal x) := by rw [h]; rfl
      rw [List.getElem?_drop] at h0
      refine ⟨by simpa using h0, ?_⟩
      rw [← List.drop_drop, h]; rfl
    obtain ⟨g1, g2⟩ := get us x X hu
    obtain ⟨g3, g4⟩ := get vs y Y hv
    have ih := run_eqFl w d fs (off + 1) us vs X Y hf g2 g4
    simp only [Op.eqFields, hn, ne_eq, not_false_eq_true, if_true, Sem.run_bind, ho, run_part_sc w hdd ha g1, run_part_sc w hdd ha g3, Result.andThen_ok, he]
    rw [eqSc]
    cases hb : eq1 x y with
    | true => simpa using ih
    | false => simp
  | [], _, _, _, _ :: _, _, h, _, _ => by simp [okFl] at h
  | [], _, _, _, [], _ :: _, h, _, _ => by simp [okFl] at h
  | _ :: _, _, _, _, [], _, h, _, _ => by simp [okFl] at h
  | _ :: _, _, _, _, _ :: _, [], h, _, _ => by simp [okFl] at h
def flatT (P : Program) (t : TypeId) (X Y : List Sc) : Bool := match P.underlying t with
  | some (.struct fs) => okFl P 0 fs.toList X Y
  | _ => false
def evEqM {β : Type} (P : Program) (o : Oper) (slots : List (V cx.ty)) (op : BinOp) (t : TypeId) (x y : Operand) (k : Eff cx.ty → Option β) : Option β :=
  match getV slots x, getV slots y with
  | .inl (.inr l), .inl (.inr m) => if hasBool l then
      match leafSc l, leafSc m with
      | some (a :: xs), some (b :: ys) => if isEqOp op && flatT P t (a :: xs) (b :: ys) && !P.stoodInHeld t && !P.eqGuardType P.depth t then accSc xs ys (eq1 a b) (eqK op k) else none
      | _, _ => none
    else evEqS P o slots op t x y k
  | _, _ => evEqS P o slots op t x y k
theorem evEqM_ok {β : Type} {o : Oper} {slots : List (V cx.ty)} {nm0 : Nat} {op : BinOp} {t yt : TypeId} {x y : Operand} (ho : o.op = .binOp op t x y yt) {k : Eff cx.ty → Option β} {r : β}
    (h : evEqM P o slots op t x y k = some r) : ∃ ef, k ef = some r ∧ EffOK P cx o slots nm0 ef := by
  unfold evEqM at h
  split at h
  · rename_i l m hx hy
    split at h
    · split at h
      · rename_i z zs y' ys hz hy'
        split at h
        · rename_i hc
          simp only [Bool.and_eq_true, Bool.not_eq_true'] at hc
          obtain ⟨⟨⟨hop2, hfl⟩, hst⟩, hgt⟩ := hc
          obtain ⟨h, hlen⟩ := accSc_eq zs ys _ _ h
          replace h := eqK_eq h
          refine ⟨_, h, effok_pur fun c ρ hw hop _ => ?_⟩
          have h1 := hop x (by simp [ho, Op.operands]); rw [hx] at h1
          have h2 := hop y (by simp [ho, Op.operands]); rw [hy] at h2
          obtain ⟨us, hus, hru⟩ := h1
          obtain ⟨vs, hvs, hrv⟩ := h2
          have e1 := leafSc_rep _ us _ hru hz
          have e2 := leafSc_rep _ vs _ hrv hy'
          refine ⟨.bool (eqVal op (eq1 z y' && eqSc zs ys)), ?_, rfl⟩
          unfold flatT at hfl
          split at hfl
          · rename_i fs hfs
            have hfo : P.fieldsOf t = fs := by simp [Program.fieldsOf, hfs]
            have hg := run_eqGuard_agg (P := P) c.w op t x y us.toArray vs.toArray hgt
            have hq := run_eqFl (P := P) c.w 9998 fs.toList 0 us vs (z :: zs) (y' :: ys) hfl (by rw [List.drop_zero]; exact e1) (by rw [List.drop_zero]; exact e2)
            unfold execOp
            simp only [ho, hus, hvs, Sem.run_bind, hg, Result.andThen_ok]
            rw [run_eq_struct hop2 c.w t _ _ (r := eqSc (z :: zs) (y' :: ys)) (by rw [show (10000 : Nat) = 9999 + 1 from rfl, run_equalIn_agg (P := P) c.w 9999 t _ _ (by rw [hfo]; exact hfs) hst, hfo, hq])]
            rfl
          · cases hfl
        · simp at h
      · simp at h
    · exact evEqS_ok ho h
  · exact evEqS_ok ho h

end
end Go.VM

namespace Go.VM
open Go.RowKit
section
variable {cx : Cx} {P : Program}

/-! ### Pointers to boxes, handed on -/
/-- A cell that a box may bear when it is handed on. -/
def cellOk {ty : Nat → Type} : L ty → Bool
  | some (.inl v) => leafOk (some (.inl v) : L ty)
  | some (.inr s) => s.own == 0
  | none => false

def bnL {ty : Nat → Type} : L ty → List Nat
  | some (.inr s) => if s.own == 1 then [s.nm] else []
  | _ => []

def bnV {ty : Nat → Type} : V ty → List Nat
  | .inl (.inl l) => bnL l
  | .inl (.inr l) => l.flatMap bnL
  | _ => []

theorem bnL_spec {c : Ct cx.ty} {l : L cx.ty} {u : Value} (h : RepLS cx c l u) {n : Nat} (hn : n ∈ bnL l) (hd : n ∉ c.D) : n ∈ c.F ∨ ∃ tk ∈ c.T, tk.nm = n ∧ ∃ s, tk.c = .inl s := by
  unfold bnL at hn
  split at hn
  · rename_i s
    split at hn
    · rename_i h1
      have h1 : s.own = 1 := by simpa using h1
      simp only [List.mem_singleton] at hn
      subst hn
      unfold RepLS at h
      simp only [h1, if_true, hd, if_false] at h
      obtain ⟨_, h⟩ := h
      by_cases h3 : s.nm ∈ c.F
      · exact .inl h3
      · simp only [h3, if_false] at h
        obtain ⟨tk, k1, k2, k3, _⟩ := h
        exact .inr ⟨tk, k1, k2, s, k3⟩
    · simp at hn
  · simp at hn

theorem bnV_spec {c : Ct cx.ty} {v : V cx.ty} {u : Value} (h : RepV cx c v u) {n : Nat} (hn : n ∈ bnV v) (hd : n ∉ c.D) : n ∈ c.F ∨ ∃ tk ∈ c.T, tk.nm = n ∧ ∃ s, tk.c = .inl s := by
  match v, h, hn with
  | .inl (.inl l), h, hn => exact bnL_spec (l := l) h hn hd
  | .inl (.inr l), ⟨us, _, h⟩, hn =>
    obtain ⟨a, ha, hn⟩ := List.mem_flatMap.1 hn
    obtain ⟨j, hj⟩ := List.getElem?_of_mem ha
    have hjl : j < us.length := by rw [h.1]; exact (List.getElem?_eq_some_iff.1 hj).1
    exact bnL_spec (h.2 j a _ hj (List.getElem?_eq_getElem hjl)) hn hd
  | .inr (.inl _), _, hn => simp [bnV] at hn
  | .inr (.inr _), _, hn => simp [bnV] at hn

theorem repL_rof {w : World} {S : Nat → Prop} {n : Nat} {s : SlD cx.ty} {u : Value} (h : RepL cx w S n (some (.inr s)) u) : RepL cx w S n (some (.inr (ro s.e s.xs))) u := by
  cases n with
  | zero => simp [RepL] at h
  | succ n => exact h

/-! Worlds -/
/-- The contract: the first thing handed is a pointer to a box; what the box bears comes back behind the results. -/
def SatP (P : Program) (cx : Cx) (f : FuncId) (nres : Nat) (F : List (A cx.ty) → Option (Bool × List (A cx.ty))) : Prop :=
  ∀ (w : World) (A0 : Nat → Prop) (g : Nat) (cur : Array Value) (t : TypeId) (lc : List (L cx.ty)) (l : List (A cx.ty)) (us : List Value) (cs : List (A cx.ty)), (∀ b, A0 b → b < w.heap.size ∧ b ≠ g) → w.heap[g]? = some (.cells cur t (0, 0)) →
    ArgA cx w A0 (.inr lc) (.agg cur) → lc.all cellOk = true → ArgAs cx w A0 l us → F (.inr lc :: l) = some (true, cs) →
    Calls P f (.pointer (some ⟨g, 0, none⟩) :: us).toArray w (fun e w' => ∃ (rs : List Value) (cur' : Array Value), e = .returned (packR rs) ∧ rs.length = nres ∧ (∃ t', w'.heap[g]? = some (.cells cur' t' (0, 0))) ∧ Kept (fun b => w.heap.size ≤ b ∨ b = g) w w' ∧
      ResV cx w' A0 (fun b => w.heap.size ≤ b) (.inr (.inl cs)) (.tuple (rs ++ [Value.agg cur']).toArray))

/-- The contract: what comes back is a pointer to a new box. -/
def SatN (P : Program) (cx : Cx) (f : FuncId) (F : List (A cx.ty) → Option (Bool × List (A cx.ty))) : Prop :=
  ∀ (w : World) (A0 : Nat → Prop) (l : List (A cx.ty)) (us : List Value) (lc : List (L cx.ty)), (∀ b, A0 b → b < w.heap.size) → ArgAs cx w A0 l us → F l = some (true, [.inr lc]) →
    Calls P f us.toArray w (fun e w' => ∃ (g : Nat) (cur : Array Value) (t : TypeId), e = .returned (.pointer (some ⟨g, 0, none⟩)) ∧ w.heap.size ≤ g ∧ w'.heap[g]? = some (.cells cur t (0, 0)) ∧ Below w.heap.size w w' ∧
      ArgA cx w' (fun b => A0 b ∨ (w.heap.size ≤ b ∧ b < w'.heap.size ∧ b ≠ g)) (.inr lc) (.agg cur))

/-- The contract of a function that may throw: whether it does, what it throws, what it hands back. -/
def SatT (P : Program) (cx : Cx) (f : FuncId) (F : List (A cx.ty) → Option (Bool × List (A cx.ty))) : Prop :=
  ∀ (w : World) (A0 : Nat → Prop) (l : List (A cx.ty)) (us : List Value) (thr : Bool) (v : Value) (rs : List (A cx.ty)), (∀ b, A0 b → b < w.heap.size) → ArgAs cx w A0 l us → F l = some (true, .inl (some (.inl (.bool thr))) :: .inl (some (.inl v)) :: rs) →
    Calls P f us.toArray w (fun e w' => Below w.heap.size w w' ∧ bif thr then e = .panicked [{ v := v, recovered := false }] else ∃ u, e = .returned u ∧ ResV cx w' A0 (fun b => w.heap.size ≤ b) (packV rs) u)

/-- Where in a box a pointer points. -/
def bxOff (bx : Option (Nat × TypeId)) : Nat := match bx with
  | some (o, _) => o
  | none => 0
def SatQ (P : Program) (cx : Cx) (f : FuncId) (nres : Nat) (F : List (A cx.ty) → Option (Bool × List (A cx.ty))) (bx : Option (Nat × TypeId) := none) : Prop :=
  ∀ (w : World) (g : Nat) (cur : Array Value) (t : TypeId) (lc : List (L cx.ty)) (l : List (A cx.ty)) (us : List Value) (fps : List (List Nat)) (cs : List (A cx.ty)), w.heap[g]? = some (.cells cur t (0, 0)) →
    ResAs cx w (fun _ => False) (.inr lc :: l) (.agg cur :: us) fps → (List.flatten fps).Nodup → (∀ b ∈ List.flatten fps, b < w.heap.size ∧ b ≠ g) → F (.inr lc :: l) = some (true, cs) →
    Calls P f (.pointer (some ⟨g, bxOff bx, none⟩) :: us).toArray w (fun e w' => ∃ (rs : List Value) (cur' : Array Value), e = .returned (packR rs) ∧ rs.length = nres ∧ (∃ t', w'.heap[g]? = some (.cells cur' t' (0, 0))) ∧ Kept (fun b => w.heap.size ≤ b ∨ b ∈ List.flatten fps ∨ b = g) w w' ∧
      ResV cx w' (fun _ => False) (fun b => w.heap.size ≤ b ∨ b ∈ List.flatten fps) (.inr (.inl cs)) (.tuple (rs ++ [Value.agg cur']).toArray))

/-- The contract of a function that takes rows over (no pointer): what comes back lies in them or is new. -/
def SatI (P : Program) (cx : Cx) (f : FuncId) (nres : Nat) (F : List (A cx.ty) → Option (Bool × List (A cx.ty))) : Prop :=
  ∀ (w : World) (l : List (A cx.ty)) (us : List Value) (fps : List (List Nat)) (cs : List (A cx.ty)),
    ResAs cx w (fun _ => False) l us fps → (List.flatten fps).Nodup → (∀ b ∈ List.flatten fps, b < w.heap.size) → F l = some (true, cs) →
    Calls P f us.toArray w (fun e w' => ∃ rs : List Value, e = .returned (packR rs) ∧ rs.length = nres ∧ Kept (fun b => w.heap.size ≤ b ∨ b ∈ List.flatten fps) w w' ∧
      ResV cx w' (fun _ => False) (fun b => w.heap.size ≤ b ∨ b ∈ List.flatten fps) (.inr (.inl cs)) (.tuple rs.toArray))

def SatOf (P : Program) (cx : Cx) (f : FuncId) (W : WFn cx) : Prop :=
  match W.p with
  | 0 => SatW P cx f W.nres W.n W.F
  | 1 => SatP P cx f W.nres W.F
  | 3 => SatT P cx f W.F
  | 4 => SatW P cx f W.nres W.n W.F
  | 5 => SatW P cx f W.nres W.n W.F
  | 6 => SatQ P cx f W.nres W.F W.bx
  | 7 => SatI P cx f W.nres W.F
  | _ => SatN P cx f W.F

def KwOk (P : Program) (cx : Cx) (Kw : Kwt cx) : Prop := ∀ f W, Kw f = some W → SatOf P cx f W

def evCallP {β : Type} (P : Program) (f : FuncId) (W : WFn cx) (st : St cx.ty) (d : Option Tmp) (args : List Operand) (ts : List TypeId) (k : St cx.ty → Option β) : Option β := none
theorem evCallP_ok (ok : cx.Ok) {β : Type} {o : Oper} {st : St cx.ty} {d : Option Tmp} {f : FuncId} {args : Array Operand} {ts : Array TypeId} {W : WFn cx} (hK : SatP P cx f W.nres W.F)
    (ho : o.op = .call { callee := .value (.func f), args := args, argTypes := ts }) {c : Ct cx.ty} {a : Act} (h : RS cx c st a) (hsm : smallO d = true) (hlo : loO st.lo d = true) {k : St cx.ty → Option β} {r : β}
    (he : evCallP P f W st d args.toList ts.toList k = some r) : Runs P o a.eval c.w (fun u w' => ∃ c' st', k st' = some r ∧ RS cx c' st' (a.put d u) ∧ c'.w = w' ∧ c'.S = c.S ∧ c'.N = c.N ∧ c'.K = c.K ∧ Kept c.N c.w w') := by
  unfold evCallP at he
  cases he
/-- A function that hands back a pointer to a new box. -/
def evCallN {β : Type} (P : Program) (f : FuncId) (W : WFn cx) (slots : List (V cx.ty)) (args : List Operand) (ts : List TypeId) (nm0 : Nat) (k : Eff cx.ty → Option β) : Option β := none
theorem evCallN_ok (ok : cx.Ok) {β : Type} {o : Oper} {slots : List (V cx.ty)} {nm0 : Nat} {f : FuncId} {args : Array Operand} {ts : Array TypeId} {W : WFn cx} (hK : SatN P cx f W.F)
    (ho : o.op = .call { callee := .value (.func f), args := args, argTypes := ts }) {k : Eff cx.ty → Option β} {r : β}
    (h : evCallN P f W slots args.toList ts.toList nm0 k = some r) : ∃ ef, k ef = some r ∧ EffOK P cx o slots nm0 ef := by
  unfold evCallN at h
  cases h
end
end Go.VM

namespace Go.VM
open Go.RowKit
section
variable {cx : Cx} {P : Program}

/-! ### An array in a box, sliced whole: it is read alone from then on -/
def killB {ty : Nat → Type} (nm : Nat) (v : V ty) : V ty :=
  match v with
  | .inr (.inr p) => if p.kind == 0 && p.nm == nm then junk else .inr (.inr p)
  | v => v

theorem killB_rep {nm : Nat} {c c' : Ct cx.ty} (h : PresX (fun n => n = nm) c c') (hib : ∀ tk ∈ c.T, tk.nm = nm → ∃ l, tk.c = .inr l)
    {v : V cx.ty} {u : Value} (hr : RepV cx c v u) : RepV cx c' (killB nm v) u := by
  have leaf : ∀ {l : L cx.ty} {u : Value}, RepLS cx c l u → RepLS cx c' l u := fun hl => repLS_box h hib hl
  have agg : ∀ {a : A cx.ty} {u : Value}, RepA cx c a u → RepA cx c' a u := by
    intro a u ha
    match a, ha with
    | .inl l, ha => exact leaf ha
    | .inr l, ⟨us, hu, h1, h2⟩ => exact ⟨us, hu, h1, fun j a b e1 e2 => leaf (h2 j a b e1 e2)⟩
  have el : ∀ {s : SlD cx.ty} {i b o : Nat}, RepEl cx c s i b o → RepEl cx c' s i b o := by
    rintro s i b o ⟨hb, x, hx, n, hr⟩
    refine ⟨(h.rd b hb).1, x, hx, n, fun j l hl => ?_⟩
    obtain ⟨v, hv, hr⟩ := hr j l hl
    exact ⟨v, by rw [World.cell?_of_block (h.rd b hb).2]; exact hv, RepL_mono cx (fun b hb => (h.rd b hb).2) (fun b hb => (h.rd b hb).1) _ _ _ hr⟩
  match v, hr with
  | .inl a, hr => exact agg hr
  | .inr (.inl l), ⟨us, hu, h1, h2⟩ => exact ⟨us, hu, h1, fun j a b e1 e2 => agg (h2 j a b e1 e2)⟩
  | .inr (.inr p), hr =>
    have hr : RepP cx c p u := hr
    simp only [killB]
    by_cases hkn : (p.kind == 0 && p.nm == nm) = true
    · rw [if_pos hkn]; trivial
    · rw [if_neg hkn]
      show RepP cx c' p u
      unfold RepP at hr ⊢
      split at hr
      · rename_i hk
        obtain ⟨tk, k1, k2, k3, g, k4, k5⟩ := hr
        have hn : p.nm ≠ nm := fun e => hkn (by simp [hk, e])
        obtain ⟨tk', m1, m2, m3, m4⟩ := h.box tk k1 (by rw [k2]; exact hn) _ k3
        exact ⟨tk', m1, by rw [m2, k2], m4, g, by rw [m3]; exact k4, k5⟩
      · simp only [h.dead, h.frz] at hr ⊢
        split at hr
        · rename_i hd; rw [if_pos hd]; trivial
        · rename_i hd
          rw [if_neg hd]
          split at hr
          · rename_i hf
            rw [if_pos hf]
            obtain ⟨b, o, hu, hr⟩ := hr
            exact ⟨b, o, hu, el hr⟩
          · rename_i hf
            rw [if_neg hf]
            obtain ⟨tk, k1, k2, k3, k4⟩ := hr
            by_cases hn : tk.nm = nm
            · obtain ⟨l, hl⟩ := hib tk k1 hn
              rw [k3] at hl
              cases hl
            · exact ⟨tk, h.tok tk k1 hn _ k3, k2, k3, k4⟩
      · obtain ⟨b, o, hu, hr⟩ := hr
        exact ⟨b, o, hu, el hr⟩
      · trivial

/-- The pointer, the element's type, what the array bears. -/
def arrBox (P : Program) (cx : Cx) (slots : List (V cx.ty)) (o : Oper) : Option (Pt cx.ty × (e : Nat) × List (cx.ty e)) :=
  match o.guard, o.op with
  | none, .slice t x none none none => match getV slots x, arrOf P t with
    | .inr (.inr p), some (n, e) => if p.kind == 0 && p.off == 0 && p.i == 0 && n == p.cells.length && decide (0 < n) && cx.flat e && elemOk P cx e && cx.size e == 1 then
          match decN cx e n p.cells with
          | some xs => some (p, ⟨e, xs⟩)
          | none => none
        else none
    | _, _ => none
  | _, _ => none

def St.frzB {ty : Nat → Type} (st : St ty) (d : Option Tmp) (nm : Nat) (v : V ty) : St ty :=
  { slots := setO (st.slots.map (killB nm)) d v, D := st.D, F := st.F, ctr := st.ctr + 1, lo := st.lo }

theorem arrBox_ok (ok : cx.Ok) {st : St cx.ty} {o : Oper} {p : Pt cx.ty} {e : Nat} {xs : List (cx.ty e)} (hb : arrBox P cx st.slots o = some (p, ⟨e, xs⟩)) {c : Ct cx.ty} {a : Act} (h : RS cx c st a) (hlo : loO st.lo o.dst = true) :
    o.guard = none ∧ Runs P o a.eval c.w (fun u w' => ∃ c', RS cx c' (st.frzB o.dst p.nm (vs (ro e xs))) (a.put o.dst u) ∧ c'.w = w' ∧ c'.S = c.S ∧ c'.N = c.N ∧ c'.K = c.K ∧ w' = c.w) := by
  unfold arrBox at hb
  split at hb
  · rename_i t x hgd hop
    split at hb
    · rename_i p' n e' hp harr
      · split at hb
        · rename_i hc
          simp only [Bool.and_eq_true, beq_iff_eq, decide_eq_true_eq] at hc
          obtain ⟨⟨⟨⟨⟨⟨⟨hk0, hoff⟩, hi0⟩, hn⟩, hpos⟩, hflat⟩, hel⟩, hsz⟩ := hc
          split at hb
          · rename_i xs' hxs
            simp only [Option.some.injEq, Prod.mk.injEq] at hb
            obtain ⟨rfl, hb⟩ := hb
            cases hb
            refine ⟨hgd, ?_⟩
            obtain ⟨⟨d, hd⟩, hcs⟩ := elemOk_spec hel
            have hra := eval_rep h.rep x
            rw [hp] at hra
            have hra : RepP cx c p' (a.eval x) := hra
            unfold RepP at hra
            simp only [hk0, hi0] at hra
            obtain ⟨tk, ht, hnm, hcc, g, htu, hpa⟩ := hra
            rw [hoff] at hpa
            have hpa : a.eval x = .pointer (some ⟨g, 0, none⟩) := hpa
            have htr := h.wf.rep tk ht
            unfold TokRep at htr
            rw [hcc] at htr
            obtain ⟨hfp, g', cur, et, hu', hh, hcells⟩ := htr
            rw [htu] at hu'
            simp only [Value.pointer.injEq, Option.some.injEq, Addr.mk.injEq] at hu'
            obtain ⟨rfl, _⟩ := hu'
            have hgv : g ∈ vb tk.u := by rw [htu]; simp [vb]
            have hgb := h.wf.bound tk ht g (List.mem_append.2 (.inl hgv))
            have hund : P.underlying t = some (.array n e) := by
              unfold arrOf at harr
              split at harr
              · rename_i n2 e2 hq
                simp only [Option.some.injEq, Prod.mk.injEq] at harr
                obtain ⟨rfl, rfl⟩ := harr
                exact hq
              · simp at harr
            have hrun : (execOp a.eval o).run P c.w = .ok (.value (.slice (some ⟨g, 0, none⟩) n n)) c.w := by
              unfold execOp
              simp [hop, Instr.sliceAt, Instr.sureAddr, hpa, run_underlying hund, Instr.sliceBounds, run_sizeOf' hd, Addr.add_lit]
            unfold Runs
            rw [hrun]
            let c' : Ct cx.ty := { c with T := c.T.filter (fun t2 => !(t2.nm == p'.nm)) }
            have hmem : ∀ t2, t2 ∈ c'.T ↔ t2 ∈ c.T ∧ t2.nm ≠ p'.nm := fun t2 => by simp [c', List.mem_filter]
            have hib : ∀ t2 ∈ c.T, t2.nm = p'.nm → ∃ l, t2.c = .inr l := fun t2 h2 hn2 => by
              have := uniq_tok h.wf h2 ht (hn2.trans hnm.symm)
              subst this
              exact ⟨_, hcc⟩
            have hP : PresX (fun n => n = p'.nm) c c' := ⟨fun b hb => ⟨⟨hb.1, hb.2.1, fun t2 h2 => hb.2.2 t2 ((hmem t2).1 h2).1⟩, rfl⟩, rfl, rfl, fun t2 h2 hX s hs => (hmem t2).2 ⟨h2, hX⟩, fun t2 h2 hX l hl => ⟨t2, (hmem t2).2 ⟨h2, hX⟩, rfl, rfl, hl⟩⟩
            have hgr : Rd c' g := ⟨hgb.2, .inr hgb.1, fun t2 h2 hv => by
              obtain ⟨q1, q2⟩ := (hmem t2).1 h2
              exact disjoint_toks h.wf q1 ht (fun e => q2 (e.trans hnm)) (List.mem_append.2 (.inl hv)) (List.mem_append.2 (.inl hgv))⟩
            obtain ⟨hxl, hxw⟩ := decN_spec ok false n p'.cells xs hxs
            have hnew : RepLS cx c' (some (.inr (ro e xs))) (.slice (some ⟨g, 0, none⟩) n n) := by
              refine ⟨1, some ⟨g, 0, none⟩, n, by rw [← hxl]; rfl, by show xs.length ≤ n; omega, .inr ⟨g, 0, rfl, hgr, fun i y hy j l hl => ?_⟩⟩
              have hl : (cx.enc e false y)[j]? = some l := hl
              have hy : xs[i]? = some y := hy
              have hj : j < 1 := by
                have h8 := (List.getElem?_eq_some_iff.1 hl).1
                have h9 : (cx.enc e false y).length = cx.size e := ok.len e false y
                omega
              have hfg := flat_get (cx.enc e false) 1 (fun x => by rw [ok.len, hsz]) xs i y hy j hj
              rw [← hxw, hl, List.getElem?_map] at hfg
              obtain ⟨v, hv⟩ := ok.flat e false y hflat l (List.mem_of_getElem? hl)
              subst hv
              cases hl0 : p'.cells[i * 1 + j]? with
              | none => rw [hl0] at hfg; simp at hfg
              | some l0 =>
                rw [hl0] at hfg
                simp only [Option.map_some, Option.some.injEq] at hfg
                have hl1 : l0 = some (.inl v) := by
                  unfold weak at hfg
                  split at hfg
                  · simp at hfg
                  · exact hfg
                have hlt : i * 1 + j < cur.toList.length := by
                  rw [hcells.1]
                  exact (List.getElem?_eq_some_iff.1 hl0).1
                have hcv := hcells.2 (i * 1 + j) l0 _ hl0 (List.getElem?_eq_getElem hlt)
                rw [hl1] at hcv
                have hcv : cur.toList[i * 1 + j] = v := hcv
                refine ⟨v, ?_, rfl⟩
                show c.w.cell? ⟨g, 0 + (i * cx.size e + j), none⟩ = some v
                rw [hsz, Nat.zero_add]
                simp only [World.cell?, hh]
                simp only [← hcv]
                simp
            refine ⟨c', ⟨⟨?_, ?_, fun t2 h2 => h.wf.bound t2 ((hmem t2).1 h2).1, fun t2 h2 => ?_, h.wf.start, fun t2 h2 => h.wf.live t2 ((hmem t2).1 h2).1, h.wf.size⟩, ?_, ?_, by rw [put_defers]; exact h.defers, h.dead, h.frz, fun n hn => ?_, fun q u' hq => ⟨(h.kp q u' hq).1, (put_lo hlo _ (h.kp q u' hq).1).trans (h.kp q u' hq).2⟩, PrOK.nil, PdOK.none⟩, rfl, rfl, rfl, rfl, rfl⟩
            · exact (List.Sublist.map _ List.filter_sublist).nodup h.wf.names
            · exact filter_sub_nodup _ h.wf.nodup
            · obtain ⟨q1, q2⟩ := (hmem t2).1 h2
              have hold := h.wf.rep t2 q1
              unfold TokRep at hold ⊢
              split at hold
              · obtain ⟨hv, hold⟩ := hold
                refine ⟨hv, ?_⟩
                split at hold
                · rename_i hso
                  rw [if_pos hso]
                  exact hold
                · rename_i hso
                  rw [if_neg hso]
                  obtain ⟨hf, us, m, hrow, hl2, hr⟩ := hold
                  exact ⟨hf, us, m, hrow, hl2, fun j l v h1 h2 => RepL_mono cx (fun b hb => (hP.rd b hb).2) (fun b hb => (hP.rd b hb).1) m l v (hr j l v h1 h2)⟩
              · obtain ⟨hf, g2, cur2, e2, hu2, hh2, hr⟩ := hold
                exact ⟨hf, g2, cur2, e2, hu2, hh2, hr.1, fun j a b e1 e2 => repLS_box hP hib (hr.2 j a b e1 e2)⟩
            · refine put_size ?_ o.dst _ _
              rw [List.length_map]
              exact h.size
            · refine put_rep (by rw [List.length_map]; exact h.size) (fun t2 => ?_) o.dst hnew
              have : (st.slots.map (killB p'.nm)).getD t2 junk = killB p'.nm (st.slots.getD t2 junk) := by
                by_cases hlt : t2 < st.slots.length
                · simp [List.getD, hlt]
                · simp [List.getD, List.getElem?_eq_none (Nat.le_of_not_lt hlt), junk, killB]
              rw [this]
              exact killB_rep hP hib (h.rep t2)
            · have hn' : Nm c n := by
                rcases hn with ⟨t2, h2, rfl⟩ | hn | hn
                · exact .inl ⟨t2, ((hmem t2).1 h2).1, rfl⟩
                · exact .inr (.inl hn)
                · exact .inr (.inr hn)
              exact Nat.lt_of_lt_of_le (h.names n hn') (Nat.mul_le_mul_right _ (Nat.le_succ _))
          · simp at hb
        · simp at hb
    · simp at hb
  · simp at hb

end
end Go.VM
