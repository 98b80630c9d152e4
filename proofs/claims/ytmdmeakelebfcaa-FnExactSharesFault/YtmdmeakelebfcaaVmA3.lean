/- A part of the proof of FnExactSharesFault: VmA3. -/
import Derived.Test.YtmdmeakelebfcaaVmA2
namespace Go.VM
open Go.RowKit
section
variable {cx : Cx} {P : Program}

/-- What the context says of the program's zero values. -/
structure Cx.POk (P : Program) (cx : Cx) : Prop where
  zero : ∀ e, cx.dom e = true → ∃ i z, P.info? e = some i ∧ i.zero = some z ∧ i.size = cx.size e ∧ i.bytes ≤ 100000 ∧ z.cells.size = cx.size e ∧ 0 < cx.size e ∧ z.cells.toList.map lv = cx.enc e true (cx.dflt e)
  u8 : ∀ e, cx.dom e = true → P.underlying e = some (.int .u8) → ∀ o x, ∃ n, cx.enc e o x = [lv (.int .u8 n)]

def flatVals (cx : Cx) (e : Nat) (xs : List (cx.ty e)) : List Value := (xs.flatMap (cx.enc e true)).filterMap leafVal

theorem lv_of_flat (ok : cx.Ok) {e : Nat} (hf : cx.flat e = true) (o : Bool) (xs : List (cx.ty e)) : ∀ l ∈ xs.flatMap (cx.enc e o), ∃ v, l = lv v ∧ v.oneCell' = true := by
  intro l hl
  obtain ⟨x, _, hx⟩ := List.mem_flatMap.1 hl
  obtain ⟨v, hv⟩ := ok.flat e o x hf l hx
  rcases ok.leaf e o x l hx with ⟨v', hv', h1⟩ | ⟨s, hs, _⟩
  · exact ⟨v', hv', h1⟩
  · rw [hv] at hs; simp at hs

theorem map_lv_filter {ty : Nat → Type} : ∀ (l : List (L ty)), (∀ x ∈ l, ∃ v, x = lv v) → l = (l.filterMap leafVal).map lv
  | [], _ => rfl
  | x :: r, h => by
    obtain ⟨v, hv⟩ := h x (List.mem_cons_self ..)
    have := map_lv_filter r (fun y hy => h y (List.mem_cons_of_mem _ hy))
    subst hv
    rw [List.filterMap_cons]
    simp only [lv, leafVal, List.map_cons]
    rw [← this]

theorem flat_same (ok : cx.Ok) {e : Nat} (hf : cx.flat e = true) (x : cx.ty e) : cx.enc e false x = cx.enc e true x := by
  rw [← ok.weak e true false x]
  have : ∀ l ∈ cx.enc e true x, weak false l = l := fun l hl => by
    obtain ⟨v, hv⟩ := ok.flat e true x hf l hl
    rw [hv]; rfl
  conv => rhs; rw [← List.map_id (cx.enc e true x)]
  exact List.map_congr_left this

theorem flat_enc (ok : cx.Ok) {e : Nat} (hf : cx.flat e = true) (o : Bool) (xs : List (cx.ty e)) : xs.flatMap (cx.enc e o) = (flatVals cx e xs).map lv := by
  have h1 : xs.flatMap (cx.enc e o) = xs.flatMap (cx.enc e true) := by
    cases o with
    | true => rfl
    | false =>
      have : cx.enc e false = cx.enc e true := funext (flat_same ok hf)
      rw [this]
  rw [h1]
  exact map_lv_filter _ (fun l hl => by obtain ⟨v, hv, _⟩ := lv_of_flat ok hf true xs l hl; exact ⟨v, hv⟩)

theorem flatVals_len (ok : cx.Ok) {e : Nat} (hf : cx.flat e = true) (xs : List (cx.ty e)) : (flatVals cx e xs).length = xs.length * cx.size e := by
  have := congrArg List.length (flat_enc ok hf true xs)
  rw [flat_len _ _ (fun x => ok.len e true x)] at this
  simpa using this.symm

theorem flatVals_one (ok : cx.Ok) {e : Nat} (hf : cx.flat e = true) (xs : List (cx.ty e)) : ∀ u ∈ flatVals cx e xs, u.oneCell' = true := by
  intro u hu
  have : lv u ∈ xs.flatMap (cx.enc e true) := by
    rw [flat_enc ok hf true xs]
    exact List.mem_map.2 ⟨u, hu, rfl⟩
  obtain ⟨v, hv, h1⟩ := lv_of_flat ok hf true xs _ this
  simp only [lv, Option.some.injEq, Sum.inl.injEq] at hv
  rw [hv]; exact h1

theorem own_flat (ok : cx.Ok) {w : World} {s : SlD cx.ty} (hf : cx.flat s.e = true) {u : Value} (h : w.ownsRow 0 s.e (cx.size s.e) u s.xs.length (flatVals cx s.e s.xs)) : OwnL cx w 1 (some (.inr s)) u u.ownBlock.toList := by
  have hen := flat_enc ok hf true s.xs
  refine ⟨flatVals cx s.e s.xs, List.replicate (flatVals cx s.e s.xs).length [], h, ?_, by rw [hen]; simp, by simp, fun j l c f h1 h2 h3 => ?_⟩
  · have : List.flatten (List.replicate (flatVals cx s.e s.xs).length ([] : List Nat)) = [] := flatten_nil' _
    rw [this]; simp
  · rw [hen, List.getElem?_map, h2] at h1
    simp only [Option.map_some, Option.some.injEq] at h1
    subst h1
    have : f = [] := by
      have := List.mem_of_getElem? h3
      exact (List.mem_replicate.1 this).2
    exact ⟨rfl, this⟩
where
  flatten_nil' : ∀ n, List.flatten (List.replicate n ([] : List Nat)) = []
    | 0 => rfl
    | n + 1 => by rw [List.replicate_succ, List.flatten_cons, flatten_nil' n]; rfl

theorem flat_of_own (ok : cx.Ok) {w : World} {n : Nat} {s : SlD cx.ty} (hf : cx.flat s.e = true) {u : Value} {fp : List Nat} (h : OwnL cx w n (some (.inr s)) u fp) : w.ownsRow 0 s.e (cx.size s.e) u s.xs.length (flatVals cx s.e s.xs) ∧ fp = u.ownBlock.toList := by
  cases n with
  | zero => simp [OwnL] at h
  | succ n =>
    obtain ⟨us, fpl, hrow, hfp, hl1, hl2, h⟩ := h
    have hen := flat_enc ok hf true s.xs
    have hus : us = flatVals cx s.e s.xs := by
      apply List.ext_getElem?
      intro j
      by_cases hj : j < us.length
      · have hjl : j < (flatVals cx s.e s.xs).length := by rw [hl1, hen] at hj; simpa using hj
        have h1 : (s.xs.flatMap (cx.enc s.e true))[j]? = some (lv (flatVals cx s.e s.xs)[j]) := by rw [hen]; simp [hjl]
        have h3 : fpl[j]? = some fpl[j] := List.getElem?_eq_getElem (by omega)
        have := h j _ us[j] _ h1 (List.getElem?_eq_getElem hj) h3
        rw [List.getElem?_eq_getElem hj, List.getElem?_eq_getElem hjl]
        cases n <;> (simp only [lv, OwnL] at this; rw [this.1])
      · rw [List.getElem?_eq_none (by omega), List.getElem?_eq_none (by rw [hl1, hen] at hj; simp at hj; omega)]
    have hnil : List.flatten fpl = [] := by
      have : ∀ f ∈ fpl, f = [] := fun f hf' => by
        obtain ⟨j, hj⟩ := List.getElem?_of_mem hf'
        have hjf : j < fpl.length := (List.getElem?_eq_some_iff.1 hj).1
        have hju : j < us.length := by omega
        have hjl : j < (flatVals cx s.e s.xs).length := by rw [← hus]; exact hju
        have h1 : (s.xs.flatMap (cx.enc s.e true))[j]? = some (lv (flatVals cx s.e s.xs)[j]) := by rw [hen]; simp [hjl]
        have := h j _ us[j] f h1 (List.getElem?_eq_getElem hju) hj
        cases n <;> (simp only [lv, OwnL] at this; exact this.2)
      exact flatten_nil this
    rw [hnil] at hfp
    subst hus
    exact ⟨hrow, by simpa using hfp⟩

def tokV {ty : Nat → Type} (nm e : Nat) (xs : List (ty e)) : V ty := vs { own := 1, nm := nm, e := e, o := true, xs := xs }

theorem repLS_tok {c : Ct cx.ty} {s : SlD cx.ty} {u : Value} {tk : Tk cx.ty} (h1 : s.own = 1) (hD : s.nm ∉ c.D) (hF : s.nm ∉ c.F) (ht : tk ∈ c.T) (hn : tk.nm = s.nm) (hc : tk.c = .inl s) (hu : tk.u = u) (hs : ∃ a n cap, u = .slice a n cap) : RepLS cx c (some (.inr s)) u := by
  unfold RepLS
  simp only [h1, if_true, hD, hF, if_false]
  exact ⟨hs, tk, ht, hn, hc, hu⟩

theorem rep_tok {c : Ct cx.ty} {nm e : Nat} {xs : List (cx.ty e)} {u : Value} (h : RepLS cx c (some (.inr { own := 1, nm := nm, e := e, o := true, xs := xs })) u) : RepV cx c (tokV nm e xs) u := h

/-- A new row of plain elements. -/
theorem good_row (ok : cx.Ok) {c : Ct cx.ty} (h : Wf cx c) {nm0 : Nat} (hf : ∀ n, Nm c n → ¬ (nm0 ≤ n ∧ n < nm0 + 64)) {e : Nat} (hflat : cx.flat e = true) {xs : List (cx.ty e)} {us : Array Value} {cap : Nat} {r : List Nat}
    (hcap : xs.length ≤ cap) (hm : cap ≤ maxLen) (hs : us.size = cap * cx.size e) (ht : us.toList.take (xs.length * cx.size e) = flatVals cx e xs) :
    ∃ T', Good cx c (purR (tokV nm0 e xs) r) nm0 (.slice (some ⟨c.w.heap.size, 0, none⟩) xs.length cap) (c.w.alloc (.cells us e)) T' := by
  have hb := below_alloc c.w (.cells us e)
  refine ⟨[{ nm := nm0, u := .slice (some ⟨c.w.heap.size, 0, none⟩) xs.length cap, fp := [], c := .inl { own := 1, nm := nm0, e := e, o := true, xs := xs } }] ++ c.T, ?_⟩
  have hbd : ∀ tk ∈ [({ nm := nm0, u := .slice (some ⟨c.w.heap.size, 0, none⟩) xs.length cap, fp := [], c := .inl { own := 1, nm := nm0, e := e, o := true, xs := xs } } : Tk cx.ty)], ∀ b ∈ vb tk.u ++ tk.fp, c.w.heap.size ≤ b ∧ b < (c.w.alloc (.cells us e)).heap.size := by
    intro tk ht b hb'
    simp only [List.mem_singleton] at ht
    subst ht
    simp [vb] at hb'
    subst hb'
    simp
  refine good_add h hb h.size (by simp) (by simp) (by simp [vb]) hbd hf (fun tk htk => ?_) ?_
  · simp only [List.mem_singleton] at htk
    subst htk
    have hrow : (c.w.alloc (.cells us e)).ownsRow 0 e (cx.size e) (.slice (some ⟨c.w.heap.size, 0, none⟩) xs.length cap) xs.length (flatVals cx e xs) :=
      ⟨flatVals_len ok hflat xs, .inr ⟨c.w.heap.size, cap, us, rfl, Nat.zero_le _, heap_alloc_new c.w _, hcap, hm, hs, ht⟩⟩
    refine ⟨rfl, 1, ?_⟩
    exact own_flat ok (s := { own := 1, nm := nm0, e := e, o := true, xs := xs }) hflat hrow
  · refine rep_tok (repLS_tok (s := { own := 1, nm := nm0, e := e, o := true, xs := xs }) rfl ?_ ?_ (List.mem_append.2 (.inl (List.mem_singleton.2 rfl))) rfl rfl rfl ⟨_, _, _, rfl⟩)
    · exact fun hd => hf _ (.inr (.inl hd)) ⟨Nat.le_refl _, by show nm0 < nm0 + 64; omega⟩
    · exact fun hd => hf _ (.inr (.inr hd)) ⟨Nat.le_refl _, by show nm0 < nm0 + 64; omega⟩

theorem flat_rep (ok : cx.Ok) {e : Nat} (hf : cx.flat e = true) (x : cx.ty e) : ∀ n, flatVals cx e (List.replicate n x) = List.flatten (List.replicate n (flatVals cx e [x]))
  | 0 => rfl
  | n + 1 => by
    rw [List.replicate_succ, List.replicate_succ, List.flatten_cons, ← flat_rep ok hf x n]
    simp [flatVals, List.flatMap_cons]

theorem flatten_rep_get {α : Type} (z : List α) (hz : 0 < z.length) : ∀ (n j : Nat), j < n * z.length → (List.flatten (List.replicate n z))[j]? = z[j % z.length]?
  | 0, j, h => by omega
  | n + 1, j, h => by
    rw [List.replicate_succ, List.flatten_cons]
    by_cases hj : j < z.length
    · rw [List.getElem?_append_left hj, Nat.mod_eq_of_lt hj]
    · rw [List.getElem?_append_right (by omega), flatten_rep_get z hz n (j - z.length) (by rw [Nat.add_mul] at h; omega)]
      congr 1
      rw [Nat.mod_eq_sub_mod (a := j) (by omega)]

theorem made_take {z : Array Value} {k n : Nat} (hz : 0 < z.size) (hk : k ≤ n) : (madeCells z (n * z.size)).toList.take (k * z.size) = List.flatten (List.replicate k z.toList) := by
  have hle : k * z.size ≤ n * z.size := Nat.mul_le_mul_right _ hk
  apply List.ext_getElem?
  intro j
  rw [List.getElem?_take]
  by_cases hj : j < k * z.size
  · rw [if_pos hj, flatten_rep_get z.toList (by simpa using hz) k j (by simpa using hj)]
    have hjn : j < n * z.size := by omega
    have hm : j % z.size < z.size := Nat.mod_lt _ hz
    simp [madeCells, hjn, hm]
  · rw [if_neg hj, List.getElem?_eq_none]
    have : ∀ k, (List.flatten (List.replicate k z.toList)).length = k * z.size := by
      intro k
      induction k with
      | zero => simp
      | succ k ih => rw [List.replicate_succ, List.flatten_cons, List.length_append, ih, Nat.add_mul]; simp; omega
    rw [this]; omega

def evMake {β : Type} (P : Program) (cx : Cx) (slots : List (V cx.ty)) (t : TypeId) (lo co : Operand) (nm0 : Nat) (k : Eff cx.ty → Option β) : Option β :=
  match getV slots lo, getV slots co, sliceElem P t with
  | .inl (.inl (some (.inl (.int _ l)))), .inl (.inl (some (.inl (.int _ c)))), some e =>
    if cx.flat e && cx.dom e then
      bif decide (0 ≤ l) && decide (l ≤ c) && decide (c ≤ 1000000000) then k (purR (tokV nm0 e (List.replicate l.toNat (cx.dflt e))) []) else none
    else none
  | _, _, _ => none

theorem evMake_ok (ok : cx.Ok) (hZ : cx.POk P) {β : Type} {o : Oper} {slots : List (V cx.ty)} {nm0 : Nat} {t : TypeId} {lo co : Operand} (ho : o.op = .makeSlice t lo co) {k : Eff cx.ty → Option β} {r : β}
    (h : evMake P cx slots t lo co nm0 k = some r) : ∃ ef, k ef = some r ∧ EffOK P cx o slots nm0 ef := by
  unfold evMake at h
  split at h
  · rename_i kl l kc cc e hl hc he
    split at h
    · rename_i hfd
      simp only [Bool.and_eq_true] at hfd
      obtain ⟨hflat, hdom⟩ := hfd
      cases hb : (decide (0 ≤ l) && decide (l ≤ cc) && decide (cc ≤ 1000000000)) with
      | false => rw [hb] at h; simp at h
      | true =>
        rw [hb] at h
        simp only [Bool.and_eq_true, decide_eq_true_eq] at hb
        obtain ⟨⟨h0, hlc⟩, hcm⟩ := hb
        refine ⟨_, h, ⟨fun c ρ hw hop _ _ hf => ?_⟩⟩
        have h1 := hop lo (by simp [ho, Op.operands]); rw [hl] at h1; have h1 : ρ lo = .int kl l := h1
        have h2 := hop co (by simp [ho, Op.operands]); rw [hc] at h2; have h2 : ρ co = .int kc cc := h2
        obtain ⟨i, z, hi, hz, hsz, hby, hzs, hpos, henc⟩ := hZ.zero e hdom
        have hbytes : (i.bytes : Int) * cc ≤ 281474976710656 := by
          have a1 : (i.bytes : Int) * cc ≤ 100000 * cc := Int.mul_le_mul_of_nonneg_right (by omega) (by omega)
          omega
        have hrun0 := run_make (P := P) c.w t e i z (sliceElem_eq he) hi hz kl kc l cc h0 hlc hbytes (by omega)
        have hrun : (execOp ρ o).run P c.w = .ok (.value (.slice (some ⟨c.w.heap.size, 0, none⟩) l.toNat cc.toNat)) (c.w.alloc (.cells (madeCells z.cells (cc.toNat * i.size)) e)) := by
          unfold execOp
          simp only [ho, h1, h2, Sem.run_bind, hrun0, Result.andThen_ok, Sem.run_pure]
        unfold Runs
        rw [hrun]
        have hdef : flatVals cx e [cx.dflt e] = z.cells.toList := by
          have a1 : [cx.dflt e].flatMap (cx.enc e true) = z.cells.toList.map lv := by simp [henc]
          unfold flatVals
          rw [a1]
          have : ∀ l : List Value, (l.map (lv (ty := cx.ty))).filterMap leafVal = l := by
            intro l
            induction l with
            | nil => rfl
            | cons a r ih =>
              show a :: List.filterMap leafVal (List.map lv r) = a :: r
              rw [ih]
          exact this _
        have hg := good_row ok hw hf hflat (xs := List.replicate l.toNat (cx.dflt e)) (us := madeCells z.cells (cc.toNat * i.size)) (cap := cc.toNat) (r := []) (by simp; omega) (by simp [maxLen]; omega) (by simp [size_madeCells, hsz]) (by
          rw [flat_rep ok hflat, hdef]
          simp only [List.length_replicate]
          rw [hsz, ← hzs]
          exact made_take (by rw [hzs]; exact hpos) (by omega))
        simpa using hg
    · simp at h
  · simp at h

/-- The cells of a literal before its parts are put in. -/
def zeroL {ty : Nat → Type} (z : Array Value) (n : Nat) : List (L ty) := ((Array.range n).map (z[· % z.size]!)).toList.map lv

def evBuildSlice {β : Type} (P : Program) (cx : Cx) (slots : List (V cx.ty)) (t : TypeId) (len : Nat) (parts : List (Nat × Operand)) (nm0 : Nat) (k : Eff cx.ty → Option β) : Option β :=
  match sliceElem P t with
  | some e => if cx.flat e && cx.dom e && elemOk P cx e && decide (len * cx.size e ≤ 1000000) then
      match P.info? e with
      | some i => match i.zero with
        | some z => match fillA (fun j => some (j * cx.size e, cx.size e)) (zeroL (if len * cx.size e = 0 then #[] else z.cells) (len * cx.size e)) (parts.map fun (j, x) => (j, getV slots x)) with
          | some cells => match decN cx e len cells with
            | some xs => k (purR (tokV nm0 e xs) [])
            | none => none
          | none => none
        | none => none
      | none => none
    else none
  | none => none

theorem evBuildSlice_ok (ok : cx.Ok) (hZ : cx.POk P) {β : Type} {o : Oper} {slots : List (V cx.ty)} {nm0 : Nat} {t : TypeId} {len : Nat} {parts : Array (Nat × Operand)} (ho : o.op = .buildSlice t len parts) {k : Eff cx.ty → Option β} {r : β}
    (h : evBuildSlice P cx slots t len parts.toList nm0 k = some r) : ∃ ef, k ef = some r ∧ EffOK P cx o slots nm0 ef := by
  unfold evBuildSlice at h
  split at h
  · rename_i e he
    split at h
    · rename_i hc
      simp only [Bool.and_eq_true, decide_eq_true_eq] at hc
      obtain ⟨⟨⟨hflat, hdom⟩, hel⟩, hlen⟩ := hc
      obtain ⟨⟨d, hd⟩, hcs⟩ := elemOk_spec hel
      obtain ⟨i, z, hi, hz, hsz, hby, hzs, hpos, henc⟩ := hZ.zero e hdom
      rw [hi] at h
      simp only [hz] at h
      split at h
      · rename_i cells hcells
        split at h
        · rename_i xs hxs
          refine ⟨_, h, ⟨fun c ρ hw hop _ _ hf => ?_⟩⟩
          obtain ⟨us', h1, h2⟩ := fillA_rep (c := c) (parts.toList.map fun p => (p.1, getV slots p.2)) (parts.toList.map fun p => (p.1, ρ p.2)) (zeroL (if len * cx.size e = 0 then #[] else z.cells) (len * cx.size e)) ((Array.range (len * cx.size e)).map ((if len * cx.size e = 0 then #[] else z.cells)[· % (if len * cx.size e = 0 then #[] else z.cells).size]!)) cells (lv_rep _) (by simp) (fun j p q e1 e2 => by
            simp only [List.getElem?_map] at e1 e2
            cases hx : parts.toList[j]? with
            | none => simp [hx] at e1
            | some x =>
              simp only [hx, Option.map_some, Option.some.injEq] at e1 e2
              subst e1; subst e2
              refine ⟨rfl, hop x.2 ?_⟩
              simp only [ho, Op.operands, List.mem_toArray, List.mem_map]
              exact ⟨x, List.mem_of_getElem? hx, rfl⟩) hcells
          obtain ⟨hxl, hxe⟩ := decN_spec ok true len cells xs hxs
          -- the cells are the elements' own
          have hus : us'.toList = flatVals cx e xs := by
            have hen := flat_enc ok hflat true xs
            rw [← hxe] at hen
            apply List.ext_getElem?
            intro j
            by_cases hj : j < us'.toList.length
            · have hjc : j < cells.length := by rw [← h2.1]; exact hj
              have hjf : j < (flatVals cx e xs).length := by
                have := congrArg List.length hen
                simp at this
                omega
              have h3 := h2.2 j _ _ (List.getElem?_eq_getElem hjc) (List.getElem?_eq_getElem hj)
              have h4 : weak true cells[j] = lv (flatVals cx e xs)[j] := by
                have := congrArg (fun l => l[j]?) hen
                simpa [hjc, hjf] using this
              rw [List.getElem?_eq_getElem hj, List.getElem?_eq_getElem hjf]
              have h5 : cells[j] = lv (flatVals cx e xs)[j] := by
                match hcj : cells[j], h4 with
                | none, h4 => simp [weak, lv] at h4
                | some (.inl v), h4 => exact h4
                | some (.inr s), h4 => simp [weak, lv] at h4
              rw [h5] at h3
              have h3 : us'.toList[j] = (flatVals cx e xs)[j] := h3
              rw [h3]
            · rw [List.getElem?_eq_none (by omega), List.getElem?_eq_none]
              have := congrArg List.length hen
              simp at this
              have := h2.1
              omega
          have hsize : us'.size = len * cx.size e := by
            have := flatVals_len ok hflat xs
            rw [← hus, hxl] at this
            simpa using this
          have hrun : (execOp ρ o).run P c.w = .ok (.value (.slice (some ⟨c.w.heap.size, 0, none⟩) len len)) (c.w.alloc (.cells us' e)) := by
            have hso : (sizeOf e).run P c.w = .ok (cx.size e) c.w := by rw [run_sizeOf' hd, hcs]
            have hn24 : ¬ (2 ^ 24 < len * cx.size e) := by omega
            have h1' : Instr.fill (fun j => some (j * cx.size e, cx.size e)) ((Array.range (len * cx.size e)).map ((if len * cx.size e = 0 then #[] else z.cells)[· % (if len * cx.size e = 0 then #[] else z.cells).size]!)) (parts.map fun p => (p.1, ρ p.2)).toList = some us' := by simpa using h1
            have hz' : (zeroValue e).run P c.w = .ok z c.w := by simp [zeroValue, typeInfo, hi, hz]
            have hbuild : (Instr.buildSlice t len (parts.map fun p => (p.1, ρ p.2))).run P c.w = .ok (.slice (some ⟨c.w.heap.size, 0, none⟩) len len) (c.w.alloc (.cells us' e)) := by
              unfold Instr.buildSlice
              rw [Sem.run_bind, run_underlying (sliceElem_eq he), Result.andThen_ok]
              dsimp only
              rw [Sem.run_bind, hso, Result.andThen_ok]
              by_cases hz0 : len * cx.size e = 0
              · simp only [hz0, if_true] at h1' ⊢
                simp at h1'
                simp [h1', newRow]
              · simp only [hz0, if_false] at h1' ⊢
                simp at h1'
                simp [hn24, hz', h1', newRow]
            unfold execOp
            simp only [ho, Sem.run_bind]
            rw [hbuild]
            rfl
          unfold Runs
          rw [hrun]
          have hg := good_row ok hw hf hflat (xs := xs) (us := us') (cap := len) (r := []) (by omega) (by have := Nat.le_trans (Nat.le_mul_of_pos_right len hpos) hlen; simp [maxLen]; omega) hsize (by
            rw [hxl, ← hus]
            rw [List.take_of_length_le]
            simp [hsize])
          rw [hxl] at hg
          exact hg
        · simp at h
      · simp at h
    · simp at h
  · simp at h

end
end Go.VM
