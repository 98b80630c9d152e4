/- A part of the proof of FnExactWithoutShare: VmA2. -/
import Derived.Test.YtmdmeakelebfcaaVmA
namespace Go.VM
open Go.RowKit
section
variable {cx : Cx} {P : Program}

def blocks (tk : Tk cx.ty) : List Nat := vb tk.u ++ tk.fp

theorem disjoint_toks {c : Ct cx.ty} (h : Wf cx c) {t1 t2 : Tk cx.ty} (h1 : t1 ∈ c.T) (h2 : t2 ∈ c.T) (hne : t1.nm ≠ t2.nm) {b : Nat} (hb1 : b ∈ blocks t1) (hb2 : b ∈ blocks t2) : False := by
  obtain ⟨l1, l2, hl⟩ := List.append_of_mem h1
  have hn := h.nodup
  rw [hl] at hn h2
  simp only [List.flatMap_append, List.flatMap_cons] at hn
  rcases List.mem_append.1 h2 with h3 | h3
  · exact (List.nodup_append.1 hn).2.2 b (List.mem_flatMap.2 ⟨t2, h3, hb2⟩) b (List.mem_append.2 (.inl hb1)) rfl
  · rcases List.mem_cons.1 h3 with h3 | h3
    · exact hne (by rw [h3])
    · exact (List.nodup_append.1 (List.nodup_append.1 hn).2.1).2.2 b hb1 b (List.mem_flatMap.2 ⟨t2, h3, hb2⟩) rfl

theorem flatten_nil {fps : List (List Nat)} (h : ∀ f ∈ fps, f = []) : List.flatten fps = [] := by
  induction fps with
  | nil => rfl
  | cons a r ih => rw [List.flatten_cons, h a (List.mem_cons_self ..), ih (fun f hf => h f (List.mem_cons_of_mem _ hf))]; rfl

def ptrV {ty : Nat → Type} (nm : Nat) (cells : List (L ty)) (off : Nat) : V ty := .inr (.inr { kind := 0, nm := nm, cells := cells, s := ro 0 [], i := 0, off := off })

theorem below_alloc (w : World) (o : Obj) : Below w.heap.size w (w.alloc o) := (Below.refl _ _).alloc (Nat.le_refl _) o

/-- A new variable of its own. -/
theorem good_box {c : Ct cx.ty} (h : Wf cx c) {nm0 : Nat} (hf : ∀ n, Nm c n → ¬ (nm0 ≤ n ∧ n < nm0 + 64)) {cells : List (L cx.ty)} {us : Array Value} {t : TypeId} {r : List Nat} (hc : RepLs cx c cells us.toList) :
    Good cx c (purR (ptrV nm0 cells 0) r) nm0 (.pointer (some ⟨c.w.heap.size, 0, none⟩)) (c.w.alloc (.cells us t)) ([{ nm := nm0, u := .pointer (some ⟨c.w.heap.size, 0, none⟩), fp := [], c := .inr cells }] ++ c.T) := by
  have hb := below_alloc c.w (.cells us t)
  have hbd : ∀ tk ∈ [({ nm := nm0, u := .pointer (some ⟨c.w.heap.size, 0, none⟩), fp := [], c := .inr cells } : Tk cx.ty)], ∀ b ∈ vb tk.u ++ tk.fp, c.w.heap.size ≤ b ∧ b < (c.w.alloc (.cells us t)).heap.size := by
    intro tk ht b hb'
    simp only [List.mem_singleton] at ht
    subst ht
    simp [vb] at hb'
    subst hb'
    simp
  have hp := pres_add (v := ptrV nm0 cells 0) (r := r) h hb hbd
  refine good_add h hb h.size (by simp) (by simp) (by simp [vb]) hbd hf (fun tk ht => ?_) ?_
  · simp only [List.mem_singleton] at ht
    subst ht
    exact ⟨rfl, c.w.heap.size, us, t, rfl, heap_alloc_new c.w _, hc.pres cx hp⟩
  · exact ⟨_, List.mem_append.2 (.inl (List.mem_singleton.2 rfl)), rfl, rfl, c.w.heap.size, rfl, rfl⟩

theorem lv_rep {c : Ct cx.ty} (us : List Value) : RepLs cx c (us.map lv) us := by
  refine ⟨by simp, fun j a u h1 h2 => ?_⟩
  rw [List.getElem?_map, h2] at h1
  simp only [Option.map_some, Option.some.injEq] at h1
  subst h1
  rfl

def evAlloc {β : Type} (P : Program) (t : TypeId) (nm0 : Nat) (k : Eff cx.ty → Option β) : Option β :=
  match P.info? t with
  | some i => match i.zero with
    | some z => k (purR (ptrV nm0 (z.cells.toList.map lv) 0) [])
    | none => none
  | none => none

theorem evAlloc_ok {β : Type} {o : Oper} {slots : List (V cx.ty)} {nm0 : Nat} {t : TypeId} (ho : o.op = .alloc t) {k : Eff cx.ty → Option β} {r : β}
    (h : evAlloc P t nm0 k = some r) : ∃ ef, k ef = some r ∧ EffOK P cx o slots nm0 ef := by
  unfold evAlloc at h
  split at h
  · rename_i i hi
    split at h
    · rename_i z hz
      refine ⟨_, h, ⟨fun c ρ hw hop _ _ hf => ?_⟩⟩
      have hrun : (execOp ρ o).run P c.w = .ok (.value (.pointer (some ⟨c.w.heap.size, 0, none⟩))) (c.w.alloc (.cells z.cells t)) := by
        unfold execOp
        simp [ho, Instr.alloc, zeroValue, typeInfo, hi, hz, newVar, newRow]
      unfold Runs
      rw [hrun]
      exact ⟨_, good_box hw hf (lv_rep z.cells.toList)⟩
    · simp at h
  · simp at h

def leafOk {ty : Nat → Type} : L ty → Bool
  | none => false
  | some (.inl (.agg _)) => false
  | some (.inl (.tuple _)) => false
  | _ => true

def cellsV {ty : Nat → Type} (v : V ty) : Option (List (L ty)) :=
  match v with
  | .inl (.inl l) => if leafOk l then some [l] else none
  | .inl (.inr l) => some l
  | _ => none

theorem leafOk_cells {c : Ct cx.ty} {l : L cx.ty} {u : Value} (h : RepLS cx c l u) (ho : leafOk l = true) : u.cells = #[u] := by
  match l, h, ho with
  | some (.inl v), h, ho =>
    have h : u = v := h
    subst h
    cases u <;> first | rfl | (simp [leafOk] at ho)
  | some (.inr s), h, _ =>
    have : ∃ a n cap, u = .slice a n cap := by
      unfold RepLS at h
      by_cases h1 : s.own = 1
      · simp only [h1, if_true] at h
        exact h.1
      · simp only [h1, if_false] at h
        obtain ⟨n, h⟩ := h
        obtain ⟨a, cap, hu⟩ := RepL_slice h
        exact ⟨a, _, cap, hu⟩
    obtain ⟨a, n, cap, rfl⟩ := this
    rfl

theorem cellsV_rep {c : Ct cx.ty} {v : V cx.ty} {u : Value} (h : RepV cx c v u) {l : List (L cx.ty)} (hl : cellsV v = some l) : RepLs cx c l u.cells.toList := by
  match v, h, hl with
  | .inl (.inl x), h, hl =>
    simp only [cellsV] at hl
    split at hl
    · rename_i ho
      simp only [Option.some.injEq] at hl
      subst hl
      have h : RepLS cx c x u := h
      rw [leafOk_cells h ho]
      refine ⟨rfl, fun j a b h1 h2 => ?_⟩
      cases j with
      | zero =>
        simp at h1 h2
        subst h1; subst h2
        exact h
      | succ j => simp at h1
    · simp at hl
  | .inl (.inr x), ⟨us, hu, h'⟩, hl =>
    simp only [cellsV, Option.some.injEq] at hl
    subst hl
    rw [hu]
    simpa [Value.cells] using h'

def evBox {β : Type} (slots : List (V cx.ty)) (x : Operand) (nm0 : Nat) (k : Eff cx.ty → Option β) : Option β :=
  match cellsV (getV slots x) with
  | some l => k (purR (ptrV nm0 l 0) [])
  | none => none

theorem evBox_ok {β : Type} {o : Oper} {slots : List (V cx.ty)} {nm0 : Nat} {t : TypeId} {x : Operand} (ho : o.op = .box t x) {k : Eff cx.ty → Option β} {r : β}
    (h : evBox slots x nm0 k = some r) : ∃ ef, k ef = some r ∧ EffOK P cx o slots nm0 ef := by
  unfold evBox at h
  split at h
  · rename_i l hl
    refine ⟨_, h, ⟨fun c ρ hw hop _ _ hf => ?_⟩⟩
    have hr := cellsV_rep (hop x (by simp [ho, Op.operands])) hl
    have hrun : (execOp ρ o).run P c.w = .ok (.value (.pointer (some ⟨c.w.heap.size, 0, none⟩))) (c.w.alloc (.cells (ρ x).cells t)) := by
      unfold execOp
      simp [ho, Instr.box, newVar, newRow]
    unfold Runs
    rw [hrun]
    exact ⟨_, good_box hw hf hr⟩
  · simp at h

/-! ### Pieces put into a row of cells -/
def splice {α : Type} (l : List α) (off : Nat) (p : List α) : List α := l.take off ++ p ++ l.drop (off + p.length)

theorem splice_get {α : Type} {l p : List α} {off : Nat} (h : off + p.length ≤ l.length) (j : Nat) : (splice l off p)[j]? = if off ≤ j ∧ j < off + p.length then p[j - off]? else l[j]? := by
  unfold splice
  have hto : (l.take off).length = off := by simp; omega
  by_cases h1 : j < off
  · rw [if_neg (by omega), List.append_assoc, List.getElem?_append_left (by omega), List.getElem?_take, if_pos h1]
  · by_cases h2 : j < off + p.length
    · rw [if_pos ⟨by omega, h2⟩, List.append_assoc, List.getElem?_append_right (by omega), List.getElem?_append_left (by omega), hto]
    · rw [if_neg (by omega), List.getElem?_append_right (by simp; omega), List.getElem?_drop]
      congr 1
      simp
      omega

theorem splice_len {α : Type} {l p : List α} {off : Nat} (h : off + p.length ≤ l.length) : (splice l off p).length = l.length := by
  unfold splice
  simp
  omega

theorem RepLs.splice {c : Ct cx.ty} {l p : List (L cx.ty)} {us vs : List Value} (h1 : RepLs cx c l us) (h2 : RepLs cx c p vs) {off : Nat} (ho : off + p.length ≤ l.length) : RepLs cx c (splice l off p) (splice us off vs) := by
  have ho' : off + vs.length ≤ us.length := by rw [h1.1, h2.1]; exact ho
  refine ⟨by rw [splice_len ho, splice_len ho', h1.1], fun j a u e1 e2 => ?_⟩
  rw [splice_get ho] at e1
  rw [splice_get ho', h2.1] at e2
  split at e1
  · rename_i hj
    rw [if_pos hj] at e2
    exact h2.2 _ a u e1 e2
  · rename_i hj
    rw [if_neg hj] at e2
    exact h1.2 _ a u e1 e2

theorem foldl_set (off : Nat) : ∀ (l : List Value) (k : Nat) (cs : Array Value), off + k + l.length ≤ cs.size →
    ((l.zipIdx k).foldl (fun cs (p : Value × Nat) => cs.setIfInBounds (off + p.2) p.1) cs).toList = VM.splice cs.toList (off + k) l
  | [], k, cs, _ => by simp [VM.splice]
  | v :: r, k, cs, h => by
    simp only [List.length_cons] at h
    simp only [List.zipIdx_cons, List.foldl_cons]
    rw [foldl_set off r (k + 1) _ (by simp; omega)]
    apply List.ext_getElem?
    intro j
    rw [splice_get (by simp; omega), splice_get (by simp; omega)]
    simp only [Array.toList_setIfInBounds, List.length_cons]
    by_cases h1 : off + (k + 1) ≤ j ∧ j < off + (k + 1) + r.length
    · rw [if_pos h1, if_pos ⟨by omega, by omega⟩, show j - (off + k) = (j - (off + (k + 1))) + 1 by omega, List.getElem?_cons_succ]
    · rw [if_neg h1]
      by_cases h2 : j = off + k
      · subst h2
        rw [if_pos ⟨by omega, by omega⟩, Nat.sub_self, List.getElem?_cons_zero, List.getElem?_set_self (by simp; omega)]
      · rw [if_neg (by omega), List.getElem?_set_ne (by omega)]

def fillA {ty : Nat → Type} (place : Nat → Option (Nat × Nat)) (cells : List (L ty)) : List (Nat × V ty) → Option (List (L ty))
  | [] => some cells
  | (i, v) :: rest => match place i, cellsV v with
    | some (off, size), some l => if l.length == size && decide (off + l.length ≤ cells.length) then fillA place (splice cells off l) rest else none
    | _, _ => none

theorem fillA_rep {c : Ct cx.ty} {place : Nat → Option (Nat × Nat)} : ∀ (parts : List (Nat × V cx.ty)) (vals : List (Nat × Value)) (cells : List (L cx.ty)) (us : Array Value) (cells' : List (L cx.ty)), RepLs cx c cells us.toList →
    parts.length = vals.length → (∀ (j : Nat) p q, parts[j]? = some p → vals[j]? = some q → p.1 = q.1 ∧ RepV cx c p.2 q.2) → fillA place cells parts = some cells' → ∃ us', Instr.fill place us vals = some us' ∧ RepLs cx c cells' us'.toList
  | [], [], cells, us, cells', h, _, _, hf => by
    simp only [fillA, Option.some.injEq] at hf
    subst hf
    exact ⟨us, rfl, h⟩
  | [], _ :: _, _, _, _, _, hl, _, _ => by simp at hl
  | _ :: _, [], _, _, _, _, hl, _, _ => by simp at hl
  | (i, v) :: r, (i', u) :: r', cells, us, cells', h, hl, hp, hf => by
    obtain ⟨hi, hr⟩ := hp 0 (i, v) (i', u) rfl rfl
    have hi : i = i' := hi
    subst hi
    simp only [fillA] at hf
    split at hf
    · rename_i off size l e1 e2
      split at hf
      · rename_i hc
        simp only [Bool.and_eq_true, beq_iff_eq, decide_eq_true_eq] at hc
        obtain ⟨hs, hb⟩ := hc
        have hcv := cellsV_rep hr e2
        have hlen : u.cells.size = l.length := by simpa using hcv.1
        have hus : us.size = cells.length := by simpa using h.1
        have hset : (u.cells.zipIdx.foldl (fun cs (p : Value × Nat) => cs.setIfInBounds (off + p.2) p.1) us).toList = VM.splice us.toList off u.cells.toList := by
          have := foldl_set off u.cells.toList 0 us (by simp; omega)
          rw [← Array.foldl_toList]
          simpa [Array.toList_zipIdx] using this
        have hrep : RepLs cx c (splice cells off l) (u.cells.zipIdx.foldl (fun cs (p : Value × Nat) => cs.setIfInBounds (off + p.2) p.1) us).toList := by
          rw [hset]
          exact h.splice hcv hb
        obtain ⟨us', h1, h2⟩ := fillA_rep r r' _ _ cells' hrep (by simpa using hl) (fun j p q e3 e4 => hp (j + 1) p q (by simpa using e3) (by simpa using e4)) hf
        refine ⟨us', ?_, h2⟩
        simp only [Instr.fill, e1]
        rw [if_neg (by simp; omega)]
        exact h1
      · simp at hf
    · simp at hf

theorem run_mapM {α β : Type} {g : α → Sem β} {h : α → β} {w : World} : ∀ (l : List α), (∀ x ∈ l, (g x).run P w = .ok (h x) w) → (l.mapM g).run P w = .ok (l.map h) w
  | [], _ => by simp
  | x :: r, hx => by
    simp only [List.mapM_cons, Sem.run_bind, hx x (List.mem_cons_self ..), Result.andThen_ok, run_mapM r (fun y hy => hx y (List.mem_cons_of_mem _ hy)), Sem.run_pure, List.map_cons]

theorem run_build {t : TypeId} {fa : Array Field} (hfa : P.underlying t = some (.struct fa)) (hall : ∀ f ∈ fa.toList, ∃ d, P.underlying f.type = some d) {i : TypeInfo} {z : Value} (hi : P.info? t = some i) (hz : i.zero = some z) {parts : Array (Nat × Value)} {us' : Array Value}
    (hfill : Instr.fill (fun j => (fa.toList[j]?).map (fun f => (f.offset, P.cellsOf f.type))) z.cells parts.toList = some us') (w : World) : (Instr.build t parts).run P w = .ok (.agg us') w := by
  have hmap : (fa.mapM fun f : Field => (do let n ← sizeOf f.type; pure (f.offset, n) : Sem (Nat × Nat))).run P w = .ok ((fa.toList.map fun f => (f.offset, P.cellsOf f.type)).toArray) w := by
    rw [show fa = fa.toList.toArray by simp, List.mapM_toArray, Sem.run_map]
    rw [run_mapM (P := P) (w := w) (h := fun f => (f.offset, P.cellsOf f.type)) fa.toList (fun f hf => by
      obtain ⟨d, hd⟩ := hall f hf
      simp only [Sem.run_bind, run_sizeOf' hd, Result.andThen_ok, Sem.run_pure])]
    simp
  have hz' : (zeroValue t).run P w = .ok z w := by simp [zeroValue, typeInfo, hi, hz]
  have hfun : (fun j : Nat => ((fa.toList.map fun f => (f.offset, P.cellsOf f.type)).toArray)[j]?) = (fun j => (fa.toList[j]?).map (fun f => (f.offset, P.cellsOf f.type))) := by
    funext j; simp
  unfold Instr.build
  rw [Sem.run_bind, hz', Result.andThen_ok, Sem.run_bind, run_underlying hfa, Result.andThen_ok]
  dsimp only
  rw [Sem.run_bind, hmap, Result.andThen_ok, hfun, hfill]
  rfl

def structFields (P : Program) (t : TypeId) : Option (List Field) :=
  match P.underlying t with
  | some (.struct fs) => if fs.toList.all (fun f => (P.underlying f.type).isSome) then some fs.toList else none
  | _ => none

def evBuild {β : Type} (P : Program) (slots : List (V cx.ty)) (t : TypeId) (parts : List (Nat × Operand)) (k : Eff cx.ty → Option β) : Option β :=
  match structFields P t, P.info? t with
  | some fs, some i => match i.zero with
    | some z => match fillA (fun j => (fs[j]?).map (fun f => (f.offset, P.cellsOf f.type))) (z.cells.toList.map lv) (parts.map fun (j, x) => (j, getV slots x)) with
      | some cells => k (purR (va cells) [])
      | none => none
    | none => none
  | _, _ => none

theorem evBuild_ok {β : Type} {o : Oper} {slots : List (V cx.ty)} {nm0 : Nat} {t : TypeId} {parts : Array (Nat × Operand)} (ho : o.op = .build t parts) {k : Eff cx.ty → Option β} {r : β}
    (h : evBuild P slots t parts.toList k = some r) : ∃ ef, k ef = some r ∧ EffOK P cx o slots nm0 ef := by
  unfold evBuild at h
  split at h
  · rename_i fs i hfs hi
    split at h
    · rename_i z hz
      split at h
      · rename_i cells hcells
        unfold structFields at hfs
        split at hfs
        · rename_i fa hfa
          split at hfs
          · rename_i hall
            simp only [Option.some.injEq] at hfs
            subst hfs
            refine ⟨_, h, effok_pur fun c ρ hw hop _ => ?_⟩
            obtain ⟨us', h1, h2⟩ := fillA_rep (parts.toList.map fun p => (p.1, getV slots p.2)) (parts.toList.map fun p => (p.1, ρ p.2)) (z.cells.toList.map lv) z.cells cells (lv_rep _) (by simp) (fun j p q e1 e2 => by
              simp only [List.getElem?_map] at e1 e2
              cases hx : parts.toList[j]? with
              | none => simp [hx] at e1
              | some x =>
                simp only [hx, Option.map_some, Option.some.injEq] at e1 e2
                subst e1; subst e2
                refine ⟨rfl, hop x.2 ?_⟩
                simp only [ho, Op.operands, List.mem_toArray, List.mem_map]
                exact ⟨x, List.mem_of_getElem? hx, rfl⟩) hcells
            refine ⟨.agg us', ?_, us'.toList, by simp, h2⟩
            have hbuild := run_build hfa (fun f hf => Option.isSome_iff_exists.1 (List.all_eq_true.1 hall f hf)) hi hz (parts := parts.map fun p => (p.1, ρ p.2)) (us' := us') (by simpa using h1) c.w
            unfold execOp
            simp only [ho, Sem.run_bind]
            rw [hbuild]
            rfl
          · simp at hfs
        · simp at hfs
      · simp at h
    · simp at h
  · simp at h

end
end Go.VM
