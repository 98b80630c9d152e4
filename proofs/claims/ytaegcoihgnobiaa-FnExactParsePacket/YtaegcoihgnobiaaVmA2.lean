/- A part of the proof of FnExactParsePacket: VmA2, VmA3, VmA4, VmA5, VmA6. -/
import Derived.Test.YtaegcoihgnobiaaVmA
namespace Go.VM
open Go.RowKit
section
variable {cx : Cx} {P : Program}

def blocks (tk : Tk cx.ty) : List Nat := vb tk.u ++ tk.fp

theorem disjoint_toks {c : Ct cx.ty} (h : Wf cx c) {t1 t2 : Tk cx.ty} (h1 : t1 ∈ c.T) (h2 : t2 ∈ c.T) (hne : t1.nm ≠ t2.nm) {b : Nat} (hb1 : b ∈ blocks t1) (hb2 : b ∈ blocks t2) : False := by
  obtain ⟨l1, l2, hl⟩ := List.append_of_mem h1
  have hn := h.nodup
  rw [hl] at hn h2
  simp only [List.flatMap_append, List.flatMap_cons] at hn
  rcases List.mem_append.1 h2 with h3 | h3
  · exact (List.nodup_append.1 hn).2.2 b (List.mem_flatMap.2 ⟨t2, h3, hb2⟩) b (List.mem_append.2 (.inl hb1)) rfl
  · rcases List.mem_cons.1 h3 with h3 | h3
    · exact hne (by rw [h3])
    · exact (List.nodup_append.1 (List.nodup_append.1 hn).2.1).2.2 b hb1 b (List.mem_flatMap.2 ⟨t2, h3, hb2⟩) rfl

theorem flatten_nil {fps : List (List Nat)} (h : ∀ f ∈ fps, f = []) : List.flatten fps = [] := by
  induction fps with
  | nil => rfl
  | cons a r ih => rw [List.flatten_cons, h a (List.mem_cons_self ..), ih (fun f hf => h f (List.mem_cons_of_mem _ hf))]; rfl

def ptrV {ty : Nat → Type} (nm : Nat) (cells : List (L ty)) (off : Nat) : V ty := .inr (.inr { kind := 0, nm := nm, cells := cells, s := ro 0 [], i := 0, off := off })

theorem below_alloc (w : World) (o : Obj) : Below w.heap.size w (w.alloc o) := (Below.refl _ _).alloc (Nat.le_refl _) o

/-- A new variable of its own. -/
theorem good_box {c : Ct cx.ty} (h : Wf cx c) {nm0 : Nat} (hf : ∀ n, Nm c n → ¬ (nm0 ≤ n ∧ n < nm0 + 64)) {cells : List (L cx.ty)} {us : Array Value} {t : TypeId} {r : List Nat} (hc : RepLs cx c cells us.toList) :
    Good cx c (purR (ptrV nm0 cells 0) r) nm0 (.pointer (some ⟨c.w.heap.size, 0, none⟩)) (c.w.alloc (.cells us t)) ([{ nm := nm0, u := .pointer (some ⟨c.w.heap.size, 0, none⟩), fp := [], c := .inr cells }] ++ c.T) := by
  have hb := below_alloc c.w (.cells us t)
  have hbd : ∀ tk ∈ [({ nm := nm0, u := .pointer (some ⟨c.w.heap.size, 0, none⟩), fp := [], c := .inr cells } : Tk cx.ty)], ∀ b ∈ vb tk.u ++ tk.fp, c.w.heap.size ≤ b ∧ b < (c.w.alloc (.cells us t)).heap.size := by
    intro tk ht b hb'
    simp only [List.mem_singleton] at ht
    subst ht
    simp [vb] at hb'
    subst hb'
    simp
  have hp := pres_add (v := ptrV nm0 cells 0) (r := r) h hb hbd
  refine good_add h hb h.size (by simp) (by simp) (by simp [vb]) hbd hf (fun tk ht => ?_) ?_
  · simp only [List.mem_singleton] at ht
    subst ht
    exact ⟨rfl, c.w.heap.size, us, t, rfl, heap_alloc_new c.w _, hc.pres cx hp⟩
  · exact ⟨_, List.mem_append.2 (.inl (List.mem_singleton.2 rfl)), rfl, rfl, c.w.heap.size, rfl, rfl⟩

theorem lv_rep {c : Ct cx.ty} (us : List Value) : RepLs cx c (us.map lv) us := by
  refine ⟨by simp, fun j a u h1 h2 => ?_⟩
  rw [List.getElem?_map, h2] at h1
  simp only [Option.map_some, Option.some.injEq] at h1
  subst h1
  rfl

def evAlloc {β : Type} (P : Program) (t : TypeId) (nm0 : Nat) (k : Eff cx.ty → Option β) : Option β :=
  match P.info? t with
  | some i => match i.zero with
    | some z => k (purR (ptrV nm0 (z.cells.toList.map lv) 0) [])
    | none => none
  | none => none

theorem evAlloc_ok {β : Type} {o : Oper} {slots : List (V cx.ty)} {nm0 : Nat} {t : TypeId} (ho : o.op = .alloc t) {k : Eff cx.ty → Option β} {r : β}
    (h : evAlloc P t nm0 k = some r) : ∃ ef, k ef = some r ∧ EffOK P cx o slots nm0 ef := by
  unfold evAlloc at h
  split at h
  · rename_i i hi
    split at h
    · rename_i z hz
      refine ⟨_, h, ⟨fun c ρ hw hop _ _ hf => ?_⟩⟩
      have hrun : (execOp ρ o).run P c.w = .ok (.value (.pointer (some ⟨c.w.heap.size, 0, none⟩))) (c.w.alloc (.cells z.cells t)) := by
        unfold execOp
        simp [ho, Instr.alloc, zeroValue, typeInfo, hi, hz, newVar, newRow]
      unfold Runs
      rw [hrun]
      exact ⟨_, good_box hw hf (lv_rep z.cells.toList)⟩
    · simp at h
  · simp at h

def leafOk {ty : Nat → Type} : L ty → Bool
  | none => false
  | some (.inl (.agg _)) => false
  | some (.inl (.tuple _)) => false
  | _ => true

def cellsV {ty : Nat → Type} (v : V ty) : Option (List (L ty)) :=
  match v with
  | .inl (.inl l) => if leafOk l then some [l] else none
  | .inl (.inr l) => some l
  | _ => none

theorem leafOk_cells {c : Ct cx.ty} {l : L cx.ty} {u : Value} (h : RepLS cx c l u) (ho : leafOk l = true) : u.cells = #[u] := by
  match l, h, ho with
  | some (.inl v), h, ho =>
    have h : u = v := h
    subst h
    cases u <;> first | rfl | (simp [leafOk] at ho)
  | some (.inr s), h, _ =>
    have : ∃ a n cap, u = .slice a n cap := by
      unfold RepLS at h
      by_cases h1 : s.own = 1
      · simp only [h1, if_true] at h
        exact h.1
      · simp only [h1, if_false] at h
        obtain ⟨n, h⟩ := h
        obtain ⟨a, cap, hu⟩ := RepL_slice h
        exact ⟨a, _, cap, hu⟩
    obtain ⟨a, n, cap, rfl⟩ := this
    rfl

theorem cellsV_rep {c : Ct cx.ty} {v : V cx.ty} {u : Value} (h : RepV cx c v u) {l : List (L cx.ty)} (hl : cellsV v = some l) : RepLs cx c l u.cells.toList := by
  match v, h, hl with
  | .inl (.inl x), h, hl =>
    simp only [cellsV] at hl
    split at hl
    · rename_i ho
      simp only [Option.some.injEq] at hl
      subst hl
      have h : RepLS cx c x u := h
      rw [leafOk_cells h ho]
      refine ⟨rfl, fun j a b h1 h2 => ?_⟩
      cases j with
      | zero =>
        simp at h1 h2
        subst h1; subst h2
        exact h
      | succ j => simp at h1
    · simp at hl
  | .inl (.inr x), ⟨us, hu, h'⟩, hl =>
    simp only [cellsV, Option.some.injEq] at hl
    subst hl
    rw [hu]
    simpa [Value.cells] using h'

def evBox {β : Type} (slots : List (V cx.ty)) (x : Operand) (nm0 : Nat) (k : Eff cx.ty → Option β) : Option β :=
  match cellsV (getV slots x) with
  | some l => k (purR (ptrV nm0 l 0) [])
  | none => none

theorem evBox_ok {β : Type} {o : Oper} {slots : List (V cx.ty)} {nm0 : Nat} {t : TypeId} {x : Operand} (ho : o.op = .box t x) {k : Eff cx.ty → Option β} {r : β}
    (h : evBox slots x nm0 k = some r) : ∃ ef, k ef = some r ∧ EffOK P cx o slots nm0 ef := by
  unfold evBox at h
  split at h
  · rename_i l hl
    refine ⟨_, h, ⟨fun c ρ hw hop _ _ hf => ?_⟩⟩
    have hr := cellsV_rep (hop x (by simp [ho, Op.operands])) hl
    have hrun : (execOp ρ o).run P c.w = .ok (.value (.pointer (some ⟨c.w.heap.size, 0, none⟩))) (c.w.alloc (.cells (ρ x).cells t)) := by
      unfold execOp
      simp [ho, Instr.box, newVar, newRow]
    unfold Runs
    rw [hrun]
    exact ⟨_, good_box hw hf hr⟩
  · simp at h

/-! ### Pieces put into a row of cells -/
def splice {α : Type} (l : List α) (off : Nat) (p : List α) : List α := l.take off ++ p ++ l.drop (off + p.length)

theorem splice_get {α : Type} {l p : List α} {off : Nat} (h : off + p.length ≤ l.length) (j : Nat) : (splice l off p)[j]? = if off ≤ j ∧ j < off + p.length then p[j - off]? else l[j]? := by
  unfold splice
  have hto : (l.take off).length = off := by simp; omega
  by_cases h1 : j < off
  · rw [if_neg (by omega), List.append_assoc, List.getElem?_append_left (by omega), List.getElem?_take, if_pos h1]
  · by_cases h2 : j < off + p.length
    · rw [if_pos ⟨by omega, h2⟩, List.append_assoc, List.getElem?_append_right (by omega), List.getElem?_append_left (by omega), hto]
    · rw [if_neg (by omega), List.getElem?_append_right (by simp; omega), List.getElem?_drop]
      congr 1
      simp
      omega

theorem splice_len {α : Type} {l p : List α} {off : Nat} (h : off + p.length ≤ l.length) : (splice l off p).length = l.length := by
  unfold splice
  simp
  omega

theorem RepLs.splice {c : Ct cx.ty} {l p : List (L cx.ty)} {us vs : List Value} (h1 : RepLs cx c l us) (h2 : RepLs cx c p vs) {off : Nat} (ho : off + p.length ≤ l.length) : RepLs cx c (splice l off p) (splice us off vs) := by
  have ho' : off + vs.length ≤ us.length := by rw [h1.1, h2.1]; exact ho
  refine ⟨by rw [splice_len ho, splice_len ho', h1.1], fun j a u e1 e2 => ?_⟩
  rw [splice_get ho] at e1
  rw [splice_get ho', h2.1] at e2
  split at e1
  · rename_i hj
    rw [if_pos hj] at e2
    exact h2.2 _ a u e1 e2
  · rename_i hj
    rw [if_neg hj] at e2
    exact h1.2 _ a u e1 e2

theorem foldl_set (off : Nat) : ∀ (l : List Value) (k : Nat) (cs : Array Value), off + k + l.length ≤ cs.size →
    ((l.zipIdx k).foldl (fun cs (p : Value × Nat) => cs.setIfInBounds (off + p.2) p.1) cs).toList = VM.splice cs.toList (off + k) l
  | [], k, cs, _ => by simp [VM.splice]
  | v :: r, k, cs, h => by
    simp only [List.length_cons] at h
    simp only [List.zipIdx_cons, List.foldl_cons]
    rw [foldl_set off r (k + 1) _ (by simp; omega)]
    apply List.ext_getElem?
    intro j
    rw [splice_get (by simp; omega), splice_get (by simp; omega)]
    simp only [Array.toList_setIfInBounds, List.length_cons]
    by_cases h1 : off + (k + 1) ≤ j ∧ j < off + (k + 1) + r.length
    · rw [if_pos h1, if_pos ⟨by omega, by omega⟩, show j - (off + k) = (j - (off + (k + 1))) + 1 by omega, List.getElem?_cons_succ]
    · rw [if_neg h1]
      by_cases h2 : j = off + k
      · subst h2
        rw [if_pos ⟨by omega, by omega⟩, Nat.sub_self, List.getElem?_cons_zero, List.getElem?_set_self (by simp; omega)]
      · rw [if_neg (by omega), List.getElem?_set_ne (by omega)]

def fillA {ty : Nat → Type} (place : Nat → Option (Nat × Nat)) (cells : List (L ty)) : List (Nat × V ty) → Option (List (L ty))
  | [] => some cells
  | (i, v) :: rest => match place i, cellsV v with
    | some (off, size), some l => if l.length == size && decide (off + l.length ≤ cells.length) then fillA place (splice cells off l) rest else none
    | _, _ => none

theorem fillA_rep {c : Ct cx.ty} {place : Nat → Option (Nat × Nat)} : ∀ (parts : List (Nat × V cx.ty)) (vals : List (Nat × Value)) (cells : List (L cx.ty)) (us : Array Value) (cells' : List (L cx.ty)), RepLs cx c cells us.toList →
    parts.length = vals.length → (∀ (j : Nat) p q, parts[j]? = some p → vals[j]? = some q → p.1 = q.1 ∧ RepV cx c p.2 q.2) → fillA place cells parts = some cells' → ∃ us', Instr.fill place us vals = some us' ∧ RepLs cx c cells' us'.toList
  | [], [], cells, us, cells', h, _, _, hf => by
    simp only [fillA, Option.some.injEq] at hf
    subst hf
    exact ⟨us, rfl, h⟩
  | [], _ :: _, _, _, _, _, hl, _, _ => by simp at hl
  | _ :: _, [], _, _, _, _, hl, _, _ => by simp at hl
  | (i, v) :: r, (i', u) :: r', cells, us, cells', h, hl, hp, hf => by
    obtain ⟨hi, hr⟩ := hp 0 (i, v) (i', u) rfl rfl
    have hi : i = i' := hi
    subst hi
    simp only [fillA] at hf
    split at hf
    · rename_i off size l e1 e2
      split at hf
      · rename_i hc
        simp only [Bool.and_eq_true, beq_iff_eq, decide_eq_true_eq] at hc
        obtain ⟨hs, hb⟩ := hc
        have hcv := cellsV_rep hr e2
        have hlen : u.cells.size = l.length := by simpa using hcv.1
        have hus : us.size = cells.length := by simpa using h.1
        have hset : (u.cells.zipIdx.foldl (fun cs (p : Value × Nat) => cs.setIfInBounds (off + p.2) p.1) us).toList = VM.splice us.toList off u.cells.toList := by
          have := foldl_set off u.cells.toList 0 us (by simp; omega)
          rw [← Array.foldl_toList]
          simpa [Array.toList_zipIdx] using this
        have hrep : RepLs cx c (splice cells off l) (u.cells.zipIdx.foldl (fun cs (p : Value × Nat) => cs.setIfInBounds (off + p.2) p.1) us).toList := by
          rw [hset]
          exact h.splice hcv hb
        obtain ⟨us', h1, h2⟩ := fillA_rep r r' _ _ cells' hrep (by simpa using hl) (fun j p q e3 e4 => hp (j + 1) p q (by simpa using e3) (by simpa using e4)) hf
        refine ⟨us', ?_, h2⟩
        simp only [Instr.fill, e1]
        rw [if_neg (by simp; omega)]
        exact h1
      · simp at hf
    · simp at hf

theorem run_mapM {α β : Type} {g : α → Sem β} {h : α → β} {w : World} : ∀ (l : List α), (∀ x ∈ l, (g x).run P w = .ok (h x) w) → (l.mapM g).run P w = .ok (l.map h) w
  | [], _ => by simp
  | x :: r, hx => by
    simp only [List.mapM_cons, Sem.run_bind, hx x (List.mem_cons_self ..), Result.andThen_ok, run_mapM r (fun y hy => hx y (List.mem_cons_of_mem _ hy)), Sem.run_pure, List.map_cons]

theorem run_build {t : TypeId} {fa : Array Field} (hfa : P.underlying t = some (.struct fa)) (hall : ∀ f ∈ fa.toList, ∃ d, P.underlying f.type = some d) {i : TypeInfo} {z : Value} (hi : P.info? t = some i) (hz : i.zero = some z) {parts : Array (Nat × Value)} {us' : Array Value}
    (hfill : Instr.fill (fun j => (fa.toList[j]?).map (fun f => (f.offset, P.cellsOf f.type))) z.cells parts.toList = some us') (w : World) : (Instr.build t parts).run P w = .ok (.agg us') w := by
  have hmap : (fa.mapM fun f : Field => (do let n ← sizeOf f.type; pure (f.offset, n) : Sem (Nat × Nat))).run P w = .ok ((fa.toList.map fun f => (f.offset, P.cellsOf f.type)).toArray) w := by
    rw [show fa = fa.toList.toArray by simp, List.mapM_toArray, Sem.run_map]
    rw [run_mapM (P := P) (w := w) (h := fun f => (f.offset, P.cellsOf f.type)) fa.toList (fun f hf => by
      obtain ⟨d, hd⟩ := hall f hf
      simp only [Sem.run_bind, run_sizeOf' hd, Result.andThen_ok, Sem.run_pure])]
    simp
  have hz' : (zeroValue t).run P w = .ok z w := by simp [zeroValue, typeInfo, hi, hz]
  have hfun : (fun j : Nat => ((fa.toList.map fun f => (f.offset, P.cellsOf f.type)).toArray)[j]?) = (fun j => (fa.toList[j]?).map (fun f => (f.offset, P.cellsOf f.type))) := by
    funext j; simp
  unfold Instr.build
  rw [Sem.run_bind, hz', Result.andThen_ok, Sem.run_bind, run_underlying hfa, Result.andThen_ok]
  dsimp only
  rw [Sem.run_bind, hmap, Result.andThen_ok, hfun, hfill]
  rfl

def structFields (P : Program) (t : TypeId) : Option (List Field) :=
  match P.underlying t with
  | some (.struct fs) => if fs.toList.all (fun f => (P.underlying f.type).isSome) then some fs.toList else none
  | _ => none

def evBuild {β : Type} (P : Program) (slots : List (V cx.ty)) (t : TypeId) (parts : List (Nat × Operand)) (k : Eff cx.ty → Option β) : Option β :=
  match structFields P t, P.info? t with
  | some fs, some i => match i.zero with
    | some z => match fillA (fun j => (fs[j]?).map (fun f => (f.offset, P.cellsOf f.type))) (z.cells.toList.map lv) (parts.map fun (j, x) => (j, getV slots x)) with
      | some cells => k (purR (va cells) [])
      | none => none
    | none => none
  | _, _ => none

theorem evBuild_ok {β : Type} {o : Oper} {slots : List (V cx.ty)} {nm0 : Nat} {t : TypeId} {parts : Array (Nat × Operand)} (ho : o.op = .build t parts) {k : Eff cx.ty → Option β} {r : β}
    (h : evBuild P slots t parts.toList k = some r) : ∃ ef, k ef = some r ∧ EffOK P cx o slots nm0 ef := by
  unfold evBuild at h
  split at h
  · rename_i fs i hfs hi
    split at h
    · rename_i z hz
      split at h
      · rename_i cells hcells
        unfold structFields at hfs
        split at hfs
        · rename_i fa hfa
          split at hfs
          · rename_i hall
            simp only [Option.some.injEq] at hfs
            subst hfs
            refine ⟨_, h, effok_pur fun c ρ hw hop _ => ?_⟩
            obtain ⟨us', h1, h2⟩ := fillA_rep (parts.toList.map fun p => (p.1, getV slots p.2)) (parts.toList.map fun p => (p.1, ρ p.2)) (z.cells.toList.map lv) z.cells cells (lv_rep _) (by simp) (fun j p q e1 e2 => by
              simp only [List.getElem?_map] at e1 e2
              cases hx : parts.toList[j]? with
              | none => simp [hx] at e1
              | some x =>
                simp only [hx, Option.map_some, Option.some.injEq] at e1 e2
                subst e1; subst e2
                refine ⟨rfl, hop x.2 ?_⟩
                simp only [ho, Op.operands, List.mem_toArray, List.mem_map]
                exact ⟨x, List.mem_of_getElem? hx, rfl⟩) hcells
            refine ⟨.agg us', ?_, us'.toList, by simp, h2⟩
            have hbuild := run_build hfa (fun f hf => Option.isSome_iff_exists.1 (List.all_eq_true.1 hall f hf)) hi hz (parts := parts.map fun p => (p.1, ρ p.2)) (us' := us') (by simpa using h1) c.w
            unfold execOp
            simp only [ho, Sem.run_bind]
            rw [hbuild]
            rfl
          · simp at hfs
        · simp at hfs
      · simp at h
    · simp at h
  · simp at h

end
end Go.VM

namespace Go.VM
open Go.RowKit
section
variable {cx : Cx} {P : Program}

/-- What the context says of the program's zero values. -/
structure Cx.POk (P : Program) (cx : Cx) : Prop where
  zero : ∀ e, cx.dom e = true → ∃ i z, P.info? e = some i ∧ i.zero = some z ∧ i.size = cx.size e ∧ i.bytes ≤ 100000 ∧ z.cells.size = cx.size e ∧ 0 < cx.size e ∧ z.cells.toList.map lv = cx.enc e true (cx.dflt e)
  u8 : ∀ e, cx.dom e = true → P.underlying e = some (.int .u8) → ∀ o x, ∃ n, cx.enc e o x = [lv (.int .u8 n)]

def flatVals (cx : Cx) (e : Nat) (xs : List (cx.ty e)) : List Value := (xs.flatMap (cx.enc e true)).filterMap leafVal

theorem lv_of_flat (ok : cx.Ok) {e : Nat} (hf : cx.flat e = true) (o : Bool) (xs : List (cx.ty e)) : ∀ l ∈ xs.flatMap (cx.enc e o), ∃ v, l = lv v ∧ v.oneCell' = true := by
  intro l hl
  obtain ⟨x, _, hx⟩ := List.mem_flatMap.1 hl
  obtain ⟨v, hv⟩ := ok.flat e o x hf l hx
  rcases ok.leaf e o x l hx with ⟨v', hv', h1⟩ | ⟨s, hs, _⟩
  · exact ⟨v', hv', h1⟩
  · rw [hv] at hs; simp at hs

theorem map_lv_filter {ty : Nat → Type} : ∀ (l : List (L ty)), (∀ x ∈ l, ∃ v, x = lv v) → l = (l.filterMap leafVal).map lv
  | [], _ => rfl
  | x :: r, h => by
    obtain ⟨v, hv⟩ := h x (List.mem_cons_self ..)
    have := map_lv_filter r (fun y hy => h y (List.mem_cons_of_mem _ hy))
    subst hv
    rw [List.filterMap_cons]
    simp only [lv, leafVal, List.map_cons]
    rw [← this]

theorem flat_same (ok : cx.Ok) {e : Nat} (hf : cx.flat e = true) (x : cx.ty e) : cx.enc e false x = cx.enc e true x := by
  rw [← ok.weak e true false x]
  have : ∀ l ∈ cx.enc e true x, weak false l = l := fun l hl => by
    obtain ⟨v, hv⟩ := ok.flat e true x hf l hl
    rw [hv]; rfl
  conv => rhs; rw [← List.map_id (cx.enc e true x)]
  exact List.map_congr_left this

theorem flat_enc (ok : cx.Ok) {e : Nat} (hf : cx.flat e = true) (o : Bool) (xs : List (cx.ty e)) : xs.flatMap (cx.enc e o) = (flatVals cx e xs).map lv := by
  have h1 : xs.flatMap (cx.enc e o) = xs.flatMap (cx.enc e true) := by
    cases o with
    | true => rfl
    | false =>
      have : cx.enc e false = cx.enc e true := funext (flat_same ok hf)
      rw [this]
  rw [h1]
  exact map_lv_filter _ (fun l hl => by obtain ⟨v, hv, _⟩ := lv_of_flat ok hf true xs l hl; exact ⟨v, hv⟩)

theorem flatVals_len (ok : cx.Ok) {e : Nat} (hf : cx.flat e = true) (xs : List (cx.ty e)) : (flatVals cx e xs).length = xs.length * cx.size e := by
  have := congrArg List.length (flat_enc ok hf true xs)
  rw [flat_len _ _ (fun x => ok.len e true x)] at this
  simpa using this.symm

theorem flatVals_one (ok : cx.Ok) {e : Nat} (hf : cx.flat e = true) (xs : List (cx.ty e)) : ∀ u ∈ flatVals cx e xs, u.oneCell' = true := by
  intro u hu
  have : lv u ∈ xs.flatMap (cx.enc e true) := by
    rw [flat_enc ok hf true xs]
    exact List.mem_map.2 ⟨u, hu, rfl⟩
  obtain ⟨v, hv, h1⟩ := lv_of_flat ok hf true xs _ this
  simp only [lv, Option.some.injEq, Sum.inl.injEq] at hv
  rw [hv]; exact h1

theorem own_flat (ok : cx.Ok) {w : World} {s : SlD cx.ty} (hf : cx.flat s.e = true) {u : Value} (h : w.ownsRow 0 s.e (cx.size s.e) u s.xs.length (flatVals cx s.e s.xs)) : OwnL cx w 1 (some (.inr s)) u u.ownBlock.toList := by
  have hen := flat_enc ok hf true s.xs
  refine ⟨flatVals cx s.e s.xs, List.replicate (flatVals cx s.e s.xs).length [], h, ?_, by rw [hen]; simp, by simp, fun j l c f h1 h2 h3 => ?_⟩
  · have : List.flatten (List.replicate (flatVals cx s.e s.xs).length ([] : List Nat)) = [] := flatten_nil' _
    rw [this]; simp
  · rw [hen, List.getElem?_map, h2] at h1
    simp only [Option.map_some, Option.some.injEq] at h1
    subst h1
    have : f = [] := by
      have := List.mem_of_getElem? h3
      exact (List.mem_replicate.1 this).2
    exact ⟨rfl, this⟩
where
  flatten_nil' : ∀ n, List.flatten (List.replicate n ([] : List Nat)) = []
    | 0 => rfl
    | n + 1 => by rw [List.replicate_succ, List.flatten_cons, flatten_nil' n]; rfl

theorem flat_of_own (ok : cx.Ok) {w : World} {n : Nat} {s : SlD cx.ty} (hf : cx.flat s.e = true) {u : Value} {fp : List Nat} (h : OwnL cx w n (some (.inr s)) u fp) : w.ownsRow 0 s.e (cx.size s.e) u s.xs.length (flatVals cx s.e s.xs) ∧ fp = u.ownBlock.toList := by
  cases n with
  | zero => simp [OwnL] at h
  | succ n =>
    obtain ⟨us, fpl, hrow, hfp, hl1, hl2, h⟩ := h
    have hen := flat_enc ok hf true s.xs
    have hus : us = flatVals cx s.e s.xs := by
      apply List.ext_getElem?
      intro j
      by_cases hj : j < us.length
      · have hjl : j < (flatVals cx s.e s.xs).length := by rw [hl1, hen] at hj; simpa using hj
        have h1 : (s.xs.flatMap (cx.enc s.e true))[j]? = some (lv (flatVals cx s.e s.xs)[j]) := by rw [hen]; simp [hjl]
        have h3 : fpl[j]? = some fpl[j] := List.getElem?_eq_getElem (by omega)
        have := h j _ us[j] _ h1 (List.getElem?_eq_getElem hj) h3
        rw [List.getElem?_eq_getElem hj, List.getElem?_eq_getElem hjl]
        cases n <;> (simp only [lv, OwnL] at this; rw [this.1])
      · rw [List.getElem?_eq_none (by omega), List.getElem?_eq_none (by rw [hl1, hen] at hj; simp at hj; omega)]
    have hnil : List.flatten fpl = [] := by
      have : ∀ f ∈ fpl, f = [] := fun f hf' => by
        obtain ⟨j, hj⟩ := List.getElem?_of_mem hf'
        have hjf : j < fpl.length := (List.getElem?_eq_some_iff.1 hj).1
        have hju : j < us.length := by omega
        have hjl : j < (flatVals cx s.e s.xs).length := by rw [← hus]; exact hju
        have h1 : (s.xs.flatMap (cx.enc s.e true))[j]? = some (lv (flatVals cx s.e s.xs)[j]) := by rw [hen]; simp [hjl]
        have := h j _ us[j] f h1 (List.getElem?_eq_getElem hju) hj
        cases n <;> (simp only [lv, OwnL] at this; exact this.2)
      exact flatten_nil this
    rw [hnil] at hfp
    subst hus
    exact ⟨hrow, by simpa using hfp⟩

def tokV {ty : Nat → Type} (nm e : Nat) (xs : List (ty e)) : V ty := vs { own := 1, nm := nm, e := e, o := true, xs := xs }

theorem repLS_tok {c : Ct cx.ty} {s : SlD cx.ty} {u : Value} {tk : Tk cx.ty} (h1 : s.own = 1) (hD : s.nm ∉ c.D) (hF : s.nm ∉ c.F) (ht : tk ∈ c.T) (hn : tk.nm = s.nm) (hc : tk.c = .inl s) (hu : tk.u = u) (hs : ∃ a n cap, u = .slice a n cap) : RepLS cx c (some (.inr s)) u := by
  unfold RepLS
  simp only [h1, if_true, hD, hF, if_false]
  exact ⟨hs, tk, ht, hn, hc, hu⟩

theorem rep_tok {c : Ct cx.ty} {nm e : Nat} {xs : List (cx.ty e)} {u : Value} (h : RepLS cx c (some (.inr { own := 1, nm := nm, e := e, o := true, xs := xs })) u) : RepV cx c (tokV nm e xs) u := h

/-- A new row of plain elements. -/
theorem good_row (ok : cx.Ok) {c : Ct cx.ty} (h : Wf cx c) {nm0 : Nat} (hf : ∀ n, Nm c n → ¬ (nm0 ≤ n ∧ n < nm0 + 64)) {e : Nat} (hflat : cx.flat e = true) {xs : List (cx.ty e)} {us : Array Value} {cap : Nat} {r : List Nat}
    (hcap : xs.length ≤ cap) (hm : cap ≤ maxLen) (hs : us.size = cap * cx.size e) (ht : us.toList.take (xs.length * cx.size e) = flatVals cx e xs) :
    ∃ T', Good cx c (purR (tokV nm0 e xs) r) nm0 (.slice (some ⟨c.w.heap.size, 0, none⟩) xs.length cap) (c.w.alloc (.cells us e)) T' := by
  have hb := below_alloc c.w (.cells us e)
  refine ⟨[{ nm := nm0, u := .slice (some ⟨c.w.heap.size, 0, none⟩) xs.length cap, fp := [], c := .inl { own := 1, nm := nm0, e := e, o := true, xs := xs } }] ++ c.T, ?_⟩
  have hbd : ∀ tk ∈ [({ nm := nm0, u := .slice (some ⟨c.w.heap.size, 0, none⟩) xs.length cap, fp := [], c := .inl { own := 1, nm := nm0, e := e, o := true, xs := xs } } : Tk cx.ty)], ∀ b ∈ vb tk.u ++ tk.fp, c.w.heap.size ≤ b ∧ b < (c.w.alloc (.cells us e)).heap.size := by
    intro tk ht b hb'
    simp only [List.mem_singleton] at ht
    subst ht
    simp [vb] at hb'
    subst hb'
    simp
  refine good_add h hb h.size (by simp) (by simp) (by simp [vb]) hbd hf (fun tk htk => ?_) ?_
  · simp only [List.mem_singleton] at htk
    subst htk
    have hrow : (c.w.alloc (.cells us e)).ownsRow 0 e (cx.size e) (.slice (some ⟨c.w.heap.size, 0, none⟩) xs.length cap) xs.length (flatVals cx e xs) :=
      ⟨flatVals_len ok hflat xs, .inr ⟨c.w.heap.size, cap, us, rfl, Nat.zero_le _, heap_alloc_new c.w _, hcap, hm, hs, ht⟩⟩
    refine ⟨rfl, 1, ?_⟩
    exact own_flat ok (s := { own := 1, nm := nm0, e := e, o := true, xs := xs }) hflat hrow
  · refine rep_tok (repLS_tok (s := { own := 1, nm := nm0, e := e, o := true, xs := xs }) rfl ?_ ?_ (List.mem_append.2 (.inl (List.mem_singleton.2 rfl))) rfl rfl rfl ⟨_, _, _, rfl⟩)
    · exact fun hd => hf _ (.inr (.inl hd)) ⟨Nat.le_refl _, by show nm0 < nm0 + 64; omega⟩
    · exact fun hd => hf _ (.inr (.inr hd)) ⟨Nat.le_refl _, by show nm0 < nm0 + 64; omega⟩

theorem flat_rep (ok : cx.Ok) {e : Nat} (hf : cx.flat e = true) (x : cx.ty e) : ∀ n, flatVals cx e (List.replicate n x) = List.flatten (List.replicate n (flatVals cx e [x]))
  | 0 => rfl
  | n + 1 => by
    rw [List.replicate_succ, List.replicate_succ, List.flatten_cons, ← flat_rep ok hf x n]
    simp [flatVals, List.flatMap_cons]

theorem flatten_rep_get {α : Type} (z : List α) (hz : 0 < z.length) : ∀ (n j : Nat), j < n * z.length → (List.flatten (List.replicate n z))[j]? = z[j % z.length]?
  | 0, j, h => by omega
  | n + 1, j, h => by
    rw [List.replicate_succ, List.flatten_cons]
    by_cases hj : j < z.length
    · rw [List.getElem?_append_left hj, Nat.mod_eq_of_lt hj]
    · rw [List.getElem?_append_right (by omega), flatten_rep_get z hz n (j - z.length) (by rw [Nat.add_mul] at h; omega)]
      congr 1
      rw [Nat.mod_eq_sub_mod (a := j) (by omega)]

theorem made_take {z : Array Value} {k n : Nat} (hz : 0 < z.size) (hk : k ≤ n) : (madeCells z (n * z.size)).toList.take (k * z.size) = List.flatten (List.replicate k z.toList) := by
  have hle : k * z.size ≤ n * z.size := Nat.mul_le_mul_right _ hk
  apply List.ext_getElem?
  intro j
  rw [List.getElem?_take]
  by_cases hj : j < k * z.size
  · rw [if_pos hj, flatten_rep_get z.toList (by simpa using hz) k j (by simpa using hj)]
    have hjn : j < n * z.size := by omega
    have hm : j % z.size < z.size := Nat.mod_lt _ hz
    simp [madeCells, hjn, hm]
  · rw [if_neg hj, List.getElem?_eq_none]
    have : ∀ k, (List.flatten (List.replicate k z.toList)).length = k * z.size := by
      intro k
      induction k with
      | zero => simp
      | succ k ih => rw [List.replicate_succ, List.flatten_cons, List.length_append, ih, Nat.add_mul]; simp; omega
    rw [this]; omega

def evMake {β : Type} (P : Program) (cx : Cx) (slots : List (V cx.ty)) (t : TypeId) (lo co : Operand) (nm0 : Nat) (k : Eff cx.ty → Option β) : Option β :=
  match getV slots lo, getV slots co, sliceElem P t with
  | .inl (.inl (some (.inl (.int _ l)))), .inl (.inl (some (.inl (.int _ c)))), some e =>
    if cx.flat e && cx.dom e then
      bif decide (0 ≤ l) && decide (l ≤ c) && decide (c ≤ 1000000000) then k (purR (tokV nm0 e (List.replicate l.toNat (cx.dflt e))) []) else none
    else none
  | _, _, _ => none

theorem evMake_ok (ok : cx.Ok) (hZ : cx.POk P) {β : Type} {o : Oper} {slots : List (V cx.ty)} {nm0 : Nat} {t : TypeId} {lo co : Operand} (ho : o.op = .makeSlice t lo co) {k : Eff cx.ty → Option β} {r : β}
    (h : evMake P cx slots t lo co nm0 k = some r) : ∃ ef, k ef = some r ∧ EffOK P cx o slots nm0 ef := by
  unfold evMake at h
  split at h
  · rename_i kl l kc cc e hl hc he
    split at h
    · rename_i hfd
      simp only [Bool.and_eq_true] at hfd
      obtain ⟨hflat, hdom⟩ := hfd
      cases hb : (decide (0 ≤ l) && decide (l ≤ cc) && decide (cc ≤ 1000000000)) with
      | false => rw [hb] at h; simp at h
      | true =>
        rw [hb] at h
        simp only [Bool.and_eq_true, decide_eq_true_eq] at hb
        obtain ⟨⟨h0, hlc⟩, hcm⟩ := hb
        refine ⟨_, h, ⟨fun c ρ hw hop _ _ hf => ?_⟩⟩
        have h1 := hop lo (by simp [ho, Op.operands]); rw [hl] at h1; have h1 : ρ lo = .int kl l := h1
        have h2 := hop co (by simp [ho, Op.operands]); rw [hc] at h2; have h2 : ρ co = .int kc cc := h2
        obtain ⟨i, z, hi, hz, hsz, hby, hzs, hpos, henc⟩ := hZ.zero e hdom
        have hbytes : (i.bytes : Int) * cc ≤ 281474976710656 := by
          have a1 : (i.bytes : Int) * cc ≤ 100000 * cc := Int.mul_le_mul_of_nonneg_right (by omega) (by omega)
          omega
        have hrun0 := run_make (P := P) c.w t e i z (sliceElem_eq he) hi hz kl kc l cc h0 hlc hbytes (by omega)
        have hrun : (execOp ρ o).run P c.w = .ok (.value (.slice (some ⟨c.w.heap.size, 0, none⟩) l.toNat cc.toNat)) (c.w.alloc (.cells (madeCells z.cells (cc.toNat * i.size)) e)) := by
          unfold execOp
          simp only [ho, h1, h2, Sem.run_bind, hrun0, Result.andThen_ok, Sem.run_pure]
        unfold Runs
        rw [hrun]
        have hdef : flatVals cx e [cx.dflt e] = z.cells.toList := by
          have a1 : [cx.dflt e].flatMap (cx.enc e true) = z.cells.toList.map lv := by simp [henc]
          unfold flatVals
          rw [a1]
          have : ∀ l : List Value, (l.map (lv (ty := cx.ty))).filterMap leafVal = l := by
            intro l
            induction l with
            | nil => rfl
            | cons a r ih =>
              show a :: List.filterMap leafVal (List.map lv r) = a :: r
              rw [ih]
          exact this _
        have hg := good_row ok hw hf hflat (xs := List.replicate l.toNat (cx.dflt e)) (us := madeCells z.cells (cc.toNat * i.size)) (cap := cc.toNat) (r := []) (by simp; omega) (by simp [maxLen]; omega) (by simp [size_madeCells, hsz]) (by
          rw [flat_rep ok hflat, hdef]
          simp only [List.length_replicate]
          rw [hsz, ← hzs]
          exact made_take (by rw [hzs]; exact hpos) (by omega))
        simpa using hg
    · simp at h
  · simp at h

/-- The cells of a literal before its parts are put in. -/
def zeroL {ty : Nat → Type} (z : Array Value) (n : Nat) : List (L ty) := ((Array.range n).map (z[· % z.size]!)).toList.map lv

def evBuildSlice {β : Type} (P : Program) (cx : Cx) (slots : List (V cx.ty)) (t : TypeId) (len : Nat) (parts : List (Nat × Operand)) (nm0 : Nat) (k : Eff cx.ty → Option β) : Option β :=
  match sliceElem P t with
  | some e => if cx.flat e && cx.dom e && elemOk P cx e && decide (len * cx.size e ≤ 1000000) then
      match P.info? e with
      | some i => match i.zero with
        | some z => match fillA (fun j => some (j * cx.size e, cx.size e)) (zeroL (if len * cx.size e = 0 then #[] else z.cells) (len * cx.size e)) (parts.map fun (j, x) => (j, getV slots x)) with
          | some cells => match decN cx e len cells with
            | some xs => k (purR (tokV nm0 e xs) [])
            | none => none
          | none => none
        | none => none
      | none => none
    else none
  | none => none

theorem evBuildSlice_ok (ok : cx.Ok) (hZ : cx.POk P) {β : Type} {o : Oper} {slots : List (V cx.ty)} {nm0 : Nat} {t : TypeId} {len : Nat} {parts : Array (Nat × Operand)} (ho : o.op = .buildSlice t len parts) {k : Eff cx.ty → Option β} {r : β}
    (h : evBuildSlice P cx slots t len parts.toList nm0 k = some r) : ∃ ef, k ef = some r ∧ EffOK P cx o slots nm0 ef := by
  unfold evBuildSlice at h
  split at h
  · rename_i e he
    split at h
    · rename_i hc
      simp only [Bool.and_eq_true, decide_eq_true_eq] at hc
      obtain ⟨⟨⟨hflat, hdom⟩, hel⟩, hlen⟩ := hc
      obtain ⟨⟨d, hd⟩, hcs⟩ := elemOk_spec hel
      obtain ⟨i, z, hi, hz, hsz, hby, hzs, hpos, henc⟩ := hZ.zero e hdom
      rw [hi] at h
      simp only [hz] at h
      split at h
      · rename_i cells hcells
        split at h
        · rename_i xs hxs
          refine ⟨_, h, ⟨fun c ρ hw hop _ _ hf => ?_⟩⟩
          obtain ⟨us', h1, h2⟩ := fillA_rep (c := c) (parts.toList.map fun p => (p.1, getV slots p.2)) (parts.toList.map fun p => (p.1, ρ p.2)) (zeroL (if len * cx.size e = 0 then #[] else z.cells) (len * cx.size e)) ((Array.range (len * cx.size e)).map ((if len * cx.size e = 0 then #[] else z.cells)[· % (if len * cx.size e = 0 then #[] else z.cells).size]!)) cells (lv_rep _) (by simp) (fun j p q e1 e2 => by
            simp only [List.getElem?_map] at e1 e2
            cases hx : parts.toList[j]? with
            | none => simp [hx] at e1
            | some x =>
              simp only [hx, Option.map_some, Option.some.injEq] at e1 e2
              subst e1; subst e2
              refine ⟨rfl, hop x.2 ?_⟩
              simp only [ho, Op.operands, List.mem_toArray, List.mem_map]
              exact ⟨x, List.mem_of_getElem? hx, rfl⟩) hcells
          obtain ⟨hxl, hxe⟩ := decN_spec ok true len cells xs hxs
          -- the cells are the elements' own
          have hus : us'.toList = flatVals cx e xs := by
            have hen := flat_enc ok hflat true xs
            rw [← hxe] at hen
            apply List.ext_getElem?
            intro j
            by_cases hj : j < us'.toList.length
            · have hjc : j < cells.length := by rw [← h2.1]; exact hj
              have hjf : j < (flatVals cx e xs).length := by
                have := congrArg List.length hen
                simp at this
                omega
              have h3 := h2.2 j _ _ (List.getElem?_eq_getElem hjc) (List.getElem?_eq_getElem hj)
              have h4 : weak true cells[j] = lv (flatVals cx e xs)[j] := by
                have := congrArg (fun l => l[j]?) hen
                simpa [hjc, hjf] using this
              rw [List.getElem?_eq_getElem hj, List.getElem?_eq_getElem hjf]
              have h5 : cells[j] = lv (flatVals cx e xs)[j] := by
                match hcj : cells[j], h4 with
                | none, h4 => simp [weak, lv] at h4
                | some (.inl v), h4 => exact h4
                | some (.inr s), h4 => simp [weak, lv] at h4
              rw [h5] at h3
              have h3 : us'.toList[j] = (flatVals cx e xs)[j] := h3
              rw [h3]
            · rw [List.getElem?_eq_none (by omega), List.getElem?_eq_none]
              have := congrArg List.length hen
              simp at this
              have := h2.1
              omega
          have hsize : us'.size = len * cx.size e := by
            have := flatVals_len ok hflat xs
            rw [← hus, hxl] at this
            simpa using this
          have hrun : (execOp ρ o).run P c.w = .ok (.value (.slice (some ⟨c.w.heap.size, 0, none⟩) len len)) (c.w.alloc (.cells us' e)) := by
            have hso : (sizeOf e).run P c.w = .ok (cx.size e) c.w := by rw [run_sizeOf' hd, hcs]
            have hn24 : ¬ (2 ^ 24 < len * cx.size e) := by omega
            have h1' : Instr.fill (fun j => some (j * cx.size e, cx.size e)) ((Array.range (len * cx.size e)).map ((if len * cx.size e = 0 then #[] else z.cells)[· % (if len * cx.size e = 0 then #[] else z.cells).size]!)) (parts.map fun p => (p.1, ρ p.2)).toList = some us' := by simpa using h1
            have hz' : (zeroValue e).run P c.w = .ok z c.w := by simp [zeroValue, typeInfo, hi, hz]
            have hbuild : (Instr.buildSlice t len (parts.map fun p => (p.1, ρ p.2))).run P c.w = .ok (.slice (some ⟨c.w.heap.size, 0, none⟩) len len) (c.w.alloc (.cells us' e)) := by
              unfold Instr.buildSlice
              rw [Sem.run_bind, run_underlying (sliceElem_eq he), Result.andThen_ok]
              dsimp only
              rw [Sem.run_bind, hso, Result.andThen_ok]
              by_cases hz0 : len * cx.size e = 0
              · simp only [hz0, if_true] at h1' ⊢
                simp at h1'
                simp [h1', newRow]
              · simp only [hz0, if_false] at h1' ⊢
                simp at h1'
                simp [hn24, hz', h1', newRow]
            unfold execOp
            simp only [ho, Sem.run_bind]
            rw [hbuild]
            rfl
          unfold Runs
          rw [hrun]
          have hg := good_row ok hw hf hflat (xs := xs) (us := us') (cap := len) (r := []) (by omega) (by have := Nat.le_trans (Nat.le_mul_of_pos_right len hpos) hlen; simp [maxLen]; omega) hsize (by
            rw [hxl, ← hus]
            rw [List.take_of_length_le]
            simp [hsize])
          rw [hxl] at hg
          exact hg
        · simp at h
      · simp at h
    · simp at h
  · simp at h

end
end Go.VM

namespace Go.VM
open Go.RowKit
section
variable {cx : Cx} {P : Program}

theorem vb_nodup (u : Value) : (vb u).Nodup := by
  unfold vb
  split <;> simp

/-- Some rows of the table give way to a new one. -/
theorem good_repl {c : Ct cx.ty} (h : Wf cx c) {w' : World} {nm0 : Nat} (hf : ∀ n, Nm c n → ¬ (nm0 ≤ n ∧ n < nm0 + 64)) {dn r : List Nat} (hdn : ∀ tk ∈ c.T, tk.nm ∈ dn → ∃ s, tk.c = .inl s) (hdT : ∀ n ∈ dn, ∃ tk ∈ c.T, tk.nm = n) {u' : Value} {s' : SlD cx.ty} (hs' : s'.own = 1 ∧ s'.nm = nm0)
    (hblk : ∀ b ∈ vb u', (∃ tk ∈ c.T, tk.nm ∈ dn ∧ b ∈ vb tk.u) ∨ (c.w.heap.size ≤ b ∧ b < w'.heap.size))
    (hheap : ∀ b, b < c.w.heap.size → (∀ tk ∈ c.T, tk.nm ∈ dn → b ∉ vb tk.u) → w'.heap[b]? = c.w.heap[b]?) (hsz : c.w.heap.size ≤ w'.heap.size) (hbel : Kept c.N c.w w')
    (htok : ∀ c' : Ct cx.ty, c'.w = w' → TokRep cx c' { nm := nm0, u := u', fp := [], c := .inl s' }) (hsl : ∃ a n cap, u' = .slice a n cap) :
    Good cx c { v := vs s', dead := dn, frz := [], live := dn, read := r } nm0 u' w' ({ nm := nm0, u := u', fp := [], c := .inl s' } :: c.T.filter (fun tk => !dn.contains tk.nm)) := by
  have hmem : ∀ tk, tk ∈ c.T.filter (fun tk => !dn.contains tk.nm) ↔ tk ∈ c.T ∧ tk.nm ∉ dn := fun tk => by simp [List.mem_filter]
  have hpres : Pres cx c (c.nx { v := vs s', dead := dn, frz := [], live := dn, read := r } w' ({ nm := nm0, u := u', fp := [], c := .inl s' } :: c.T.filter (fun tk => !dn.contains tk.nm))) := by
    refine ⟨fun b hb => ?_, fun n hn => List.mem_append.2 (.inr hn), fun n hn => hn, fun tk ht hD _ => ?_, fun tk ht l hl => ?_, fun tk ht _ _ _ hF => absurd hF (h.live tk ht).2⟩
    · obtain ⟨h1, h2, h3⟩ := hb
      refine ⟨⟨Nat.lt_of_lt_of_le h1 hsz, h2, fun tk ht hv => ?_⟩, hheap b h1 (fun tk ht _ => h3 tk ht)⟩
      rcases List.mem_cons.1 ht with ht | ht
      · subst ht
        rcases hblk b hv with ⟨tk, k1, _, k3⟩ | hk
        · exact h3 tk k1 k3
        · omega
      · exact h3 tk ((hmem tk).1 ht).1 hv
    · refine List.mem_cons_of_mem _ ((hmem tk).2 ⟨ht, fun hd => hD (List.mem_append.2 (.inl hd))⟩)
    · refine List.mem_cons_of_mem _ ((hmem tk).2 ⟨ht, fun hd => ?_⟩)
      obtain ⟨s, hs⟩ := hdn tk ht hd
      rw [hl] at hs
      cases hs
  have hother : ∀ tk ∈ c.T, tk.nm ∉ dn → ∀ b ∈ blocks tk, ∀ t2 ∈ c.T, t2.nm ∈ dn → b ∉ vb t2.u := fun tk ht hn b hb t2 ht2 hn2 hb2 =>
    disjoint_toks h ht ht2 (fun e => hn (e ▸ hn2)) hb (List.mem_append.2 (.inl hb2))
  refine ⟨⟨?_, ?_, ?_, ?_, h.start, ?_, fun b hb => h.size b (Nat.le_trans hsz hb)⟩, hpres, ?_, hbel, ?_⟩
  · show (List.map _ (_ :: _)).Nodup
    rw [List.map_cons, List.nodup_cons]
    refine ⟨fun hm => ?_, (List.Sublist.map _ List.filter_sublist).nodup h.names⟩
    obtain ⟨tk, ht, he⟩ := List.mem_map.1 hm
    have he : tk.nm = nm0 := he
    exact hf _ (.inl ⟨tk, ((hmem tk).1 ht).1, rfl⟩) ⟨by omega, by omega⟩
  · show (List.flatMap _ (_ :: _)).Nodup
    rw [List.flatMap_cons, List.nodup_append]
    refine ⟨by simpa using vb_nodup u', ?_, fun a ha b hb he => ?_⟩
    · have hsub : List.Sublist ((c.T.filter (fun tk => !dn.contains tk.nm)).flatMap fun tk => vb tk.u ++ tk.fp) (c.T.flatMap fun tk => vb tk.u ++ tk.fp) := by
        have : ∀ T : List (Tk cx.ty), List.Sublist ((T.filter (fun tk => !dn.contains tk.nm)).flatMap fun tk => vb tk.u ++ tk.fp) (T.flatMap fun tk => vb tk.u ++ tk.fp) := by
          intro T
          induction T with
          | nil => exact List.Sublist.refl _
          | cons x r ih =>
            rw [List.filter_cons]
            split
            · rw [List.flatMap_cons, List.flatMap_cons]; exact (List.Sublist.refl _).append ih
            · rw [List.flatMap_cons]; exact ih.trans (List.sublist_append_right _ _)
        exact this _
      exact hsub.nodup h.nodup
    · subst he
      simp only [List.append_nil] at ha
      obtain ⟨tk, ht, hb⟩ := List.mem_flatMap.1 hb
      obtain ⟨ht1, ht2⟩ := (hmem tk).1 ht
      rcases hblk a ha with ⟨t2, k1, k2, k3⟩ | hk
      · exact hother tk ht1 ht2 a hb t2 k1 k2 k3
      · have := (h.bound tk ht1 a hb).2
        omega
  · intro tk ht b hb
    rcases List.mem_cons.1 ht with ht | ht
    · subst ht
      simp only [List.append_nil] at hb
      rcases hblk b hb with ⟨t2, k1, k2, k3⟩ | hk
      · have := h.bound t2 k1 b (List.mem_append.2 (.inl k3))
        exact ⟨this.1, Nat.lt_of_lt_of_le this.2 hsz⟩
      · have := h.size
        exact ⟨by show c.N b; exact this b (by omega), hk.2⟩
    · have := h.bound tk ((hmem tk).1 ht).1 b hb
      exact ⟨this.1, Nat.lt_of_lt_of_le this.2 hsz⟩
  · intro tk ht
    rcases List.mem_cons.1 ht with ht | ht
    · subst ht
      exact htok _ rfl
    · obtain ⟨ht1, ht2⟩ := (hmem tk).1 ht
      exact TokRep.pres cx hpres (fun b hb => hheap b (h.bound tk ht1 b hb).2 (hother tk ht1 ht2 b hb)) (h.rep tk ht1)
  · intro tk ht
    rcases List.mem_cons.1 ht with ht | ht
    · subst ht
      refine ⟨fun hd => ?_, fun hd => hf _ (.inr (.inr hd)) ⟨Nat.le_refl _, by show nm0 < nm0 + 64; omega⟩⟩
      rcases List.mem_append.1 hd with hd | hd
      · obtain ⟨tk, k1, k2⟩ := hdT _ hd
        exact hf _ (.inl ⟨tk, k1, k2⟩) ⟨Nat.le_refl _, by show nm0 < nm0 + 64; omega⟩
      · exact hf _ (.inr (.inl hd)) ⟨Nat.le_refl _, by show nm0 < nm0 + 64; omega⟩
    · obtain ⟨ht1, ht2⟩ := (hmem tk).1 ht
      refine ⟨fun hd => ?_, (h.live tk ht1).2⟩
      rcases List.mem_append.1 hd with hd | hd
      · exact ht2 hd
      · exact (h.live tk ht1).1 hd
  · refine (show RepV cx _ (vs s') u' from ?_)
    refine (show RepLS cx _ (some (.inr s')) u' from repLS_tok hs'.1 ?_ ?_ (List.mem_cons_self ..) hs'.2.symm rfl rfl hsl)
    · intro hd
      rw [hs'.2] at hd
      rcases List.mem_append.1 hd with hd | hd
      · obtain ⟨tk, k1, k2⟩ := hdT _ hd
        exact hf _ (.inl ⟨tk, k1, k2⟩) ⟨Nat.le_refl _, by omega⟩
      · exact hf _ (.inr (.inl hd)) ⟨Nat.le_refl _, by omega⟩
    · intro hd
      rw [hs'.2] at hd
      exact hf _ (.inr (.inr hd)) ⟨Nat.le_refl _, by omega⟩
  · intro n hn
    rcases hn with ⟨tk, ht, rfl⟩ | hn | hn
    · rcases List.mem_cons.1 ht with ht | ht
      · subst ht; exact .inr ⟨Nat.le_refl _, by show nm0 < nm0 + 64; omega⟩
      · exact .inl (.inl ⟨tk, ((hmem tk).1 ht).1, rfl⟩)
    · rcases List.mem_append.1 hn with hn | hn
      · obtain ⟨tk, k1, k2⟩ := hdT _ hn
        exact .inl (.inl ⟨tk, k1, k2⟩)
      · exact .inl (.inr (.inl hn))
    · exact .inl (.inr (.inr hn))

/-- The cells of a slice of plain elements that may be read. -/
theorem rep_cells (ok : cx.Ok) {c : Ct cx.ty} (hw : Wf cx c) {s : SlD cx.ty} (hflat : cx.flat s.e = true) (hpos : 0 < cx.size s.e) {u : Value} (h : RepLS cx c (some (.inr s)) u) (hd : ∀ n ∈ rdn s, n ∉ c.D) :
    ∃ a cap, u = .slice a s.xs.length cap ∧ (s.xs = [] ∨ ∃ ad, a = some ad ∧ ∀ (j : Nat) v, (flatVals cx s.e s.xs)[j]? = some v → c.w.cell? (ad.add j) = some v) := by
  have key : ∀ (b off : Nat), (∀ (i : Nat) x, s.xs[i]? = some x → ∃ n, ∀ j l, (cx.enc s.e false x)[j]? = some l → ∃ v, c.w.cell? ⟨b, off + i * cx.size s.e + j, none⟩ = some v ∧ RepL cx c.w (Rd c) n l v) →
      ∀ (j : Nat) v, (flatVals cx s.e s.xs)[j]? = some v → c.w.cell? ((⟨b, off, none⟩ : Addr).add j) = some v := by
    intro b off hc j v hv
    have hlen := flatVals_len ok hflat s.xs
    have hjl : j < s.xs.length * cx.size s.e := by rw [← hlen]; exact (List.getElem?_eq_some_iff.1 hv).1
    have hi : j / cx.size s.e < s.xs.length := (Nat.div_lt_iff_lt_mul hpos).2 hjl
    have hm : j % cx.size s.e < cx.size s.e := Nat.mod_lt _ hpos
    have hj : j / cx.size s.e * cx.size s.e + j % cx.size s.e = j := by rw [Nat.mul_comm]; exact Nat.div_add_mod j _
    obtain ⟨n, hn⟩ := hc (j / cx.size s.e) _ (List.getElem?_eq_getElem hi)
    have hfg := flat_get (cx.enc s.e false) (cx.size s.e) (fun x => ok.len s.e false x) s.xs _ _ (List.getElem?_eq_getElem hi) _ hm
    rw [hj, flat_enc ok hflat false s.xs, List.getElem?_map, hv] at hfg
    obtain ⟨v', h1, h2⟩ := hn _ _ hfg.symm
    have h2 : v' = v := by cases n <;> simpa [RepL, lv] using h2
    rw [Addr.add_lit, ← h2, ← h1]
    congr 2
    omega
  unfold RepLS at h
  have ofRepL : ∀ n, RepL cx c.w (Rd c) n (some (.inr s)) u → ∃ a cap, u = .slice a s.xs.length cap ∧ (s.xs = [] ∨ ∃ ad, a = some ad ∧ ∀ (j : Nat) v, (flatVals cx s.e s.xs)[j]? = some v → c.w.cell? (ad.add j) = some v) := by
    intro n hn
    cases n with
    | zero => simp [RepL] at hn
    | succ n =>
      obtain ⟨a, cap, hu, _, hcase⟩ := hn
      refine ⟨a, cap, hu, ?_⟩
      rcases hcase with hx | ⟨b, off, ha, hS, hc⟩
      · exact .inl hx
      · refine .inr ⟨⟨b, off, none⟩, ha, key b off (fun i x hx => ⟨n, fun j l hl => ?_⟩)⟩
        obtain ⟨v, hv, hr⟩ := hc i x hx j l hl
        exact ⟨v, by rw [Nat.add_assoc]; exact hv, hr⟩
  by_cases h1 : s.own = 1
  · have h2 : s.nm ∉ c.D := hd _ (by simp [rdn, h1])
    simp only [h1, if_true, h2, if_false] at h
    obtain ⟨_, h⟩ := h
    by_cases h3 : s.nm ∈ c.F
    · simp only [h3, if_true] at h
      obtain ⟨n, h⟩ := h
      exact ofRepL n h
    · simp only [h3, if_false] at h
      obtain ⟨tk, ht, _, hc, hu⟩ := h
      rcases tok_el ok hw ht hc with ⟨h4, h5⟩ | ⟨g, cap, h4, _, h5⟩
      · exact ⟨none, 0, by rw [← hu, h4, h5]; rfl, .inl h5⟩
      · refine ⟨_, cap, by rw [← hu, h4], .inr ⟨_, rfl, key g 0 (fun i x hx => ?_)⟩⟩
        obtain ⟨n, hn⟩ := h5 i x hx
        refine ⟨n, fun j l hl => ?_⟩
        obtain ⟨v, hv, hr⟩ := hn j l hl
        exact ⟨v, by rw [Nat.zero_add]; exact hv, hr⟩
  · simp only [h1, if_false] at h
    obtain ⟨n, h⟩ := h
    exact ofRepL n h

/-- append, whatever room there is: where the result lies, and what has turned. -/
theorem run_append_any {w : World} {t ty e : TypeId} {i : TypeInfo} {z : Value} {size : Nat} (ht : P.underlying t = some (.slice e)) (hi : P.info? e = some i) (hz : i.zero = some z) (hsize : i.size = size) (hzs : z.cells.size = size) (hpos : 0 < size)
    {v : Value} {n : Nat} {xs : List Value} (hown : w.ownsRow 0 e size v n xs) {a : Option Addr} {m cap : Nat} {news : List Value} (hl : news.length = m * size) (hcells : m = 0 ∨ ∃ ad, a = some ad ∧ ∀ (j : Nat) u, news[j]? = some u → w.cell? (ad.add j) = some u)
    (h1 : ∀ u ∈ news, u.oneCell' = true) (h63 : n + m ≤ maxLen) (hbytes : (n + m) * i.bytes ≤ 140737488355328) :
    ∃ v' w', (Builtin.append_ #[t, t] ty #[v, .slice a m cap]).run P w = .ok v' w' ∧ w'.ownsRow 0 e size v' (n + m) (xs ++ news) ∧ w.grownBy w' v.ownBlock ∧ (∀ g, v'.ownBlock = some g → v.ownBlock = some g ∨ w.heap.size ≤ g) ∧ (∃ a n c, v' = .slice a n c) := by
  by_cases hm : m = 0
  · subst hm
    have hn : news = [] := List.eq_nil_of_length_eq_zero (by simpa using hl)
    subst hn
    have hso : (sizeOf e).run P w = .ok i.size w := by simp [sizeOf, typeInfo, hi]
    refine ⟨v, w, ?_, by simpa using hown, ⟨rfl, rfl, rfl, Nat.le_refl _, fun _ _ _ => rfl⟩, fun g hg => .inl hg, ?_⟩
    · rcases hown.2 with ⟨rfl, rfl⟩ | ⟨g, cap', cur, rfl, _, _, hnc, _⟩
      · cases a <;> simp [Builtin.append_, run_underlying ht, sizeOf, typeInfo, hi, Builtin.lenOf, Builtin.firstCells, loadCells, loadCellsFrom]
      · cases a <;> simp [Builtin.append_, run_underlying ht, sizeOf, typeInfo, hi, Builtin.lenOf, Builtin.firstCells, hnc, storeCells, loadCells, loadCellsFrom]
    · rcases hown.2 with ⟨rfl, rfl⟩ | ⟨g, cap', cur, rfl, _⟩
      · exact ⟨_, _, _, rfl⟩
      · exact ⟨_, _, _, rfl⟩
  · have hcells : ∃ ad, a = some ad ∧ ∀ (j : Nat) u, news[j]? = some u → w.cell? (ad.add j) = some u := hcells.resolve_left hm
    obtain ⟨ad, rfl, hnews⟩ := hcells
    obtain ⟨v', w', hr, k1, k2, _⟩ := run_append_own (P := P) w 0 t ty e i z size i.bytes ht hi hz hsize rfl hzs hpos v n xs hown ad m cap news hl hnews h1 h63 hbytes (Nat.zero_le _)
    refine ⟨v', w', hr, k1, k2, ?_, ?_⟩
    · subst hsize
      rcases hown.2 with ⟨rfl, rfl⟩ | ⟨g, cap', cur, rfl, hb, hg, hnc, hcm, hcs, htake⟩
      · have hx := run_append_nil (P := P) w t ty e i z ht hi hz ad m cap news hl hnews (by omega) (by simp [maxLen] at h63; omega) (by simp at hbytes; omega)
        rw [hr] at hx
        simp only [Result.ok.injEq] at hx
        intro g hg
        rw [hx.1] at hg
        simp only [Value.ownBlock, Option.some.injEq] at hg
        exact .inr (by omega)
      · by_cases hroom : n + m ≤ cap'
        · obtain ⟨w2, hx, _⟩ := run_append_fits (P := P) w 0 t ty e i i.size ht hi rfl g n cap' xs hown ad m cap news hl hnews h1 hroom
          rw [hr] at hx
          simp only [Result.ok.injEq] at hx
          intro g' hg'
          rw [hx.1] at hg'
          simp only [Value.ownBlock, Option.some.injEq] at hg' ⊢
          exact .inl hg'
        · have holds := hown.cells (g := g) rfl
          have hx := run_append_grow (P := P) w t ty e i z ht hi hz ⟨g, 0, none⟩ n cap' xs hown.1 holds ad m cap news hl hnews (by omega) (by simp [maxLen] at h63; omega) (growslice_fits (by omega) hbytes)
          rw [hr] at hx
          simp only [Result.ok.injEq] at hx
          intro g' hg'
          rw [hx.1] at hg'
          simp only [Value.ownBlock, Option.some.injEq] at hg'
          exact .inr (by omega)
    · rcases k1.2 with ⟨hv, _⟩ | ⟨g, cap', cur, hv, _⟩
      · exact ⟨_, _, _, hv⟩
      · exact ⟨_, _, _, hv⟩

/-- A slice as an operand: the constant nil is one. -/
def asSl {ty : Nat → Type} (e : Nat) (v : V ty) : Option (SlD ty) :=
  match v with
  | .inl (.inl (some (.inr s))) => if s.e == e then some s else none
  | .inl (.inl (some (.inl (.slice none 0 0)))) => some (ro e [])
  | _ => none

def castXs {ty : Nat → Type} (e : Nat) (s : SlD ty) : List (ty e) := if h : s.e = e then h ▸ s.xs else []

def evAppend {β : Type} (P : Program) (cx : Cx) (slots : List (V cx.ty)) (t : TypeId) (x y : Operand) (nm0 : Nat) (k : Eff cx.ty → Option β) : Option β :=
  match sliceElem P t with
  | some e => if cx.flat e && cx.dom e then
      match asSl e (getV slots y) with
      | some s2 => match getV slots x with
        | .inl (.inl (some (.inr s))) => if s.e == e && s.own == 1 && s.o then
            bif decide (s.xs.length + s2.xs.length ≤ 1000000000) then
              k { v := tokV nm0 e (castXs e s ++ castXs e s2), dead := [s.nm], frz := [], live := [s.nm], read := rdn s2 }
            else none
          else none
        | .inl (.inl (some (.inl (.slice none 0 0)))) => bif decide (s2.xs.length ≤ 1000000000) then k { v := tokV nm0 e (castXs e s2), dead := [], frz := [], live := [], read := rdn s2 } else none
        | _ => none
      | none => none
    else none
  | none => none

theorem repLS_ro {c : Ct cx.ty} {s : SlD cx.ty} {u : Value} (h1 : ¬ s.own = 1) (h : ∃ n, RepL cx c.w (Rd c) n (some (.inr s)) u) : RepLS cx c (some (.inr s)) u := by
  unfold RepLS
  simp only [h1, if_false]
  exact h

theorem cast_vals {e : Nat} {s : SlD cx.ty} (h : s.e = e) : flatVals cx e (castXs e s) = flatVals cx s.e s.xs ∧ (castXs e s).length = s.xs.length := by
  subst h
  simp [castXs]

theorem flatVals_append (e : Nat) (xs ys : List (cx.ty e)) : flatVals cx e (xs ++ ys) = flatVals cx e xs ++ flatVals cx e ys := by
  simp [flatVals, List.flatMap_append]

theorem asSl_rep {c : Ct cx.ty} {e : Nat} {v : V cx.ty} {s : SlD cx.ty} (h : asSl e v = some s) {u : Value} (hr : RepV cx c v u) : s.e = e ∧ RepLS cx c (some (.inr s)) u := by
  unfold asSl at h
  split at h
  · split at h
    · rename_i he
      simp only [Option.some.injEq] at h
      subst h
      exact ⟨by simpa using he, hr⟩
    · simp at h
  · simp only [Option.some.injEq] at h
    subst h
    have hr : u = .slice none 0 0 := hr
    subst hr
    exact ⟨rfl, repLS_ro (by simp [ro]) ⟨1, none, 0, rfl, Nat.le_refl _, .inl rfl⟩⟩
  · simp at h

theorem evAppend_ok (ok : cx.Ok) (hZ : cx.POk P) {β : Type} {o : Oper} {slots : List (V cx.ty)} {nm0 : Nat} {t : TypeId} {x y : Operand} (ho : o.op = .call { callee := .builtin .append, args := #[x, y], argTypes := #[t, t] }) {k : Eff cx.ty → Option β} {r : β}
    (h : evAppend P cx slots t x y nm0 k = some r) : ∃ ef, k ef = some r ∧ EffOK P cx o slots nm0 ef := by
  unfold evAppend at h
  split at h
  · rename_i e he
    split at h
    · rename_i hfd
      simp only [Bool.and_eq_true] at hfd
      obtain ⟨hflat, hdom⟩ := hfd
      obtain ⟨i, z, hi, hz, hsz, hby, hzs, hpos, henc⟩ := hZ.zero e hdom
      have hxm : x ∈ o.op.operands := by simp [ho, Op.operands, Call.operands]
      have hym : y ∈ o.op.operands := by simp [ho, Op.operands, Call.operands]
      have execEq : ∀ (ρ : Operand → Value) (w : World) v' w', (Builtin.append_ #[t, t] o.type #[ρ x, ρ y]).run P w = .ok v' w' → (execOp ρ o).run P w = .ok (.value v') w' := by
        intro ρ w v' w' hr
        unfold execOp
        simp only [ho, resolve, invoke, builtin, Sem.run_bind, Sem.run_pure, Result.andThen_ok, List.map_toArray, List.map_cons, List.map_nil, hr]
      split at h
      · rename_i s2 hy
        split at h
        · rename_i s hx
          split at h
          · rename_i hso
            simp only [Bool.and_eq_true, beq_iff_eq] at hso
            obtain ⟨⟨hse, hown1⟩, hso⟩ := hso
            cases hb : decide (s.xs.length + s2.xs.length ≤ 1000000000) with
            | false => rw [hb] at h; simp at h
            | true =>
              rw [hb] at h
              have hb : s.xs.length + s2.xs.length ≤ 1000000000 := by simpa using hb
              refine ⟨_, h, ⟨fun c ρ hw hop hlive hrd hf => ?_⟩⟩
              have hrx := hop x hxm; rw [hx] at hrx
              have hrx : RepLS cx c (some (.inr s)) (ρ x) := hrx
              obtain ⟨hs2e, hry⟩ := asSl_rep hy (hop y hym)
              obtain ⟨hnD, hnF⟩ := hlive s.nm (List.mem_singleton.2 rfl)
              unfold RepLS at hrx
              simp only [hown1, if_true, hnD, hnF, if_false] at hrx
              obtain ⟨_, tk, htk, hn, hc, hu⟩ := hrx
              have htr := hw.rep tk htk
              unfold TokRep at htr
              rw [hc] at htr
              simp only [hso, if_true] at htr
              obtain ⟨hvb, nn, htr⟩ := htr
              obtain ⟨hrow, hfp⟩ := flat_of_own ok (by rw [hse]; exact hflat) htr
              rw [← (cast_vals hse).1, ← (cast_vals hse).2, hse, hu] at hrow
              obtain ⟨a2, cap2, hu2, hcells⟩ := rep_cells ok hw (by rw [hs2e]; exact hflat) (by rw [hs2e]; exact hpos) hry hrd
              have hl2 : (flatVals cx e (castXs e s2)).length = s2.xs.length * cx.size e := by rw [flatVals_len ok hflat, (cast_vals hs2e).2]
              obtain ⟨v', w', hr, k1, k2, k3, k4⟩ := run_append_any (P := P) (w := c.w) (ty := o.type) (sliceElem_eq he) hi hz hsz hzs hpos hrow (a := a2) (m := s2.xs.length) (cap := cap2) (news := flatVals cx e (castXs e s2)) hl2 (by
                rcases hcells with hx0 | ⟨ad, ha, hc2⟩
                · exact .inl (by rw [hx0]; rfl)
                · exact .inr ⟨ad, ha, by rw [(cast_vals hs2e).1]; exact hc2⟩) (flatVals_one ok hflat _) (by rw [(cast_vals hse).2]; simp [maxLen]; omega) (by
                rw [(cast_vals hse).2]
                exact Nat.le_trans (Nat.mul_le_mul hb hby) (by omega))
              rw [← hu2] at hr
              unfold Runs
              rw [execEq ρ c.w v' w' hr]
              have hblk : ∀ g, (ρ x).ownBlock = some g ↔ g ∈ vb tk.u := fun g => by rw [hvb, hu]; cases (ρ x).ownBlock <;> simp [eq_comm]
              have hvb' : ∀ b, b ∈ vb v' → v'.ownBlock = some b := by
                intro b hb'
                obtain ⟨a, n, cc, rfl⟩ := k4
                cases a with
                | none => simp [vb] at hb'
                | some ad => simp [vb] at hb'; simp [Value.ownBlock, hb']
              rw [← flatVals_append] at k1
              refine ⟨_, good_repl hw hf (fun tk' ht' hn' => ?_) (fun n hn' => ?_) (s' := { own := 1, nm := nm0, e := e, o := true, xs := castXs e s ++ castXs e s2 }) ⟨rfl, rfl⟩ (fun b hb' => ?_) (fun b hb' hno => ?_) k2.size ⟨k2.os, k2.tape, k2.output, k2.size, fun k hk => k2.block k (Wf.lt cx hw hk) ?_⟩ (fun c' hcw => ?_) k4⟩
              · simp only [List.mem_singleton] at hn'
                have : tk' = tk := by
                  have hnd := hw.names
                  rcases Classical.em (tk' = tk) with h | h
                  · exact h
                  · exfalso
                    obtain ⟨l1, l2, hl⟩ := List.append_of_mem htk
                    rw [hl] at hnd ht'
                    rw [List.map_append, List.map_cons, List.nodup_append] at hnd
                    rcases List.mem_append.1 ht' with h3 | h3
                    · exact hnd.2.2 tk'.nm (List.mem_map.2 ⟨tk', h3, rfl⟩) tk.nm (List.mem_cons_self ..) (by rw [hn', hn])
                    · rcases List.mem_cons.1 h3 with h3 | h3
                      · exact h h3
                      · exact (List.nodup_cons.1 hnd.2.1).1 (List.mem_map.2 ⟨tk', h3, by rw [hn', hn]⟩)
                rw [this]
                exact ⟨s, hc⟩
              · simp only [List.mem_singleton] at hn'
                exact ⟨tk, htk, by rw [hn', hn]⟩
              · rcases k3 b (hvb' b hb') with hg | hg
                · exact .inl ⟨tk, htk, by simp [hn], (hblk b).1 hg⟩
                · refine .inr ⟨hg, ?_⟩
                  have := World.ownsRow.lt k1 b (hvb' b hb')
                  exact this.2
              · exact k2.block b hb' (fun hg => hno tk htk (by simp [hn]) ((hblk b).1 hg.symm))
              · intro hg
                have hbm := (hblk k).1 hg.symm
                exact hk (hw.bound tk htk k (List.mem_append.2 (.inl hbm))).1
              · subst hcw
                refine ⟨?_, 1, ?_⟩
                · obtain ⟨a, n, cc, rfl⟩ := k4
                  cases a <;> rfl
                · have hlen : (castXs e s ++ castXs e s2).length = (castXs e s).length + s2.xs.length := by rw [List.length_append, (cast_vals hs2e).2]
                  rw [← hlen] at k1
                  have := own_flat ok (s := { own := 1, nm := nm0, e := e, o := true, xs := castXs e s ++ castXs e s2 }) hflat k1
                  have hvv : vb v' ++ [] = v'.ownBlock.toList := by
                    obtain ⟨a, n, cc, rfl⟩ := k4
                    cases a <;> rfl
                  rw [hvv]
                  exact this
          · simp at h
        · rename_i hx
          cases hb : decide (s2.xs.length ≤ 1000000000) with
          | false => rw [hb] at h; simp at h
          | true =>
            rw [hb] at h
            have hb : s2.xs.length ≤ 1000000000 := by simpa using hb
            refine ⟨_, h, ⟨fun c ρ hw hop hlive hrd hf => ?_⟩⟩
            have hrx := hop x hxm; rw [hx] at hrx
            have hrx : ρ x = .slice none 0 0 := hrx
            obtain ⟨hs2e, hry⟩ := asSl_rep hy (hop y hym)
            obtain ⟨a2, cap2, hu2, hcells⟩ := rep_cells ok hw (by rw [hs2e]; exact hflat) (by rw [hs2e]; exact hpos) hry hrd
            have hl2 : (flatVals cx e (castXs e s2)).length = s2.xs.length * cx.size e := by rw [flatVals_len ok hflat, (cast_vals hs2e).2]
            obtain ⟨v', w', hr, k1, k2, k3, k4⟩ := run_append_any (P := P) (w := c.w) (ty := o.type) (sliceElem_eq he) hi hz hsz hzs hpos (World.ownsRow_nil c.w 0 e (cx.size e)) (a := a2) (m := s2.xs.length) (cap := cap2) (news := flatVals cx e (castXs e s2)) hl2 (by
              rcases hcells with hx0 | ⟨ad, ha, hc2⟩
              · exact .inl (by rw [hx0]; rfl)
              · exact .inr ⟨ad, ha, by rw [(cast_vals hs2e).1]; exact hc2⟩) (flatVals_one ok hflat _) (by simp [maxLen]; omega) (by
              rw [Nat.zero_add]
              exact Nat.le_trans (Nat.mul_le_mul hb hby) (by omega))
            rw [← hu2, ← hrx] at hr
            unfold Runs
            rw [execEq ρ c.w v' w' hr]
            have hvb' : ∀ b, b ∈ vb v' → v'.ownBlock = some b := by
              intro b hb'
              obtain ⟨a, n, cc, rfl⟩ := k4
              cases a with
              | none => simp [vb] at hb'
              | some ad => simp [vb] at hb'; simp [Value.ownBlock, hb']
            simp only [Nat.zero_add, List.nil_append] at k1
            refine ⟨_, good_repl hw hf (fun tk' ht' hn' => by simp at hn') (fun n hn' => by simp at hn') (s' := { own := 1, nm := nm0, e := e, o := true, xs := castXs e s2 }) ⟨rfl, rfl⟩ (fun b hb' => ?_) (fun b hb' hno => ?_) k2.size ⟨k2.os, k2.tape, k2.output, k2.size, fun k hk => k2.block k (Wf.lt cx hw hk) (by simp [Value.ownBlock])⟩ (fun c' hcw => ?_) k4⟩
            · rcases k3 b (hvb' b hb') with hg | hg
              · simp [Value.ownBlock] at hg
              · exact .inr ⟨hg, (World.ownsRow.lt k1 b (hvb' b hb')).2⟩
            · exact k2.block b hb' (by simp [Value.ownBlock])
            · subst hcw
              refine ⟨?_, 1, ?_⟩
              · obtain ⟨a, n, cc, rfl⟩ := k4
                cases a <;> rfl
              · rw [← (cast_vals hs2e).2] at k1
                have := own_flat ok (s := { own := 1, nm := nm0, e := e, o := true, xs := castXs e s2 }) hflat k1
                have hvv : vb v' ++ [] = v'.ownBlock.toList := by
                  obtain ⟨a, n, cc, rfl⟩ := k4
                  cases a <;> rfl
                rw [hvv]
                exact this
        · simp at h
      · simp at h
    · simp at h
  · simp at h

end
end Go.VM

namespace Go.VM
open Go.RowKit
section
variable {cx : Cx} {P : Program}

theorem filter_sub_nodup {T : List (Tk cx.ty)} (q : Tk cx.ty → Bool) (h : (T.flatMap fun tk => vb tk.u ++ tk.fp).Nodup) : ((T.filter q).flatMap fun tk => vb tk.u ++ tk.fp).Nodup := by
  have : ∀ T : List (Tk cx.ty), List.Sublist ((T.filter q).flatMap fun tk => vb tk.u ++ tk.fp) (T.flatMap fun tk => vb tk.u ++ tk.fp) := by
    intro T
    induction T with
    | nil => exact List.Sublist.refl _
    | cons x r ih =>
      rw [List.filter_cons]
      split
      · rw [List.flatMap_cons, List.flatMap_cons]; exact (List.Sublist.refl _).append ih
      · rw [List.flatMap_cons]; exact ih.trans (List.sublist_append_right _ _)
  exact (this T).nodup h

/-- Some slices are owned no more: they are read alone from now on. -/
theorem good_frz (ok : cx.Ok) {c : Ct cx.ty} (h : Wf cx c) {nm0 : Nat} {fn r : List Nat} (hfn : ∀ n ∈ fn, Nm c n) (hsl : ∀ tk ∈ c.T, tk.nm ∈ fn → ∃ s, tk.c = .inl s) {v : V cx.ty} {u : Value}
    (hv : ∀ c' : Ct cx.ty, c'.w = c.w → Pres cx c c' → (∀ tk ∈ c.T, tk.nm ∈ fn → ∀ b ∈ vb tk.u, Rd c' b) → RepV cx c' v u) :
    Good cx c { v := v, dead := [], frz := fn, live := [], read := r } nm0 u c.w (c.T.filter (fun tk => !fn.contains tk.nm)) := by
  have hmem : ∀ tk, tk ∈ c.T.filter (fun tk => !fn.contains tk.nm) ↔ tk ∈ c.T ∧ tk.nm ∉ fn := fun tk => by simp [List.mem_filter]
  have hrd0 : ∀ b, Rd c b → Rd (c.nx { v := v, dead := [], frz := fn, live := [], read := r } c.w (c.T.filter (fun tk => !fn.contains tk.nm))) b :=
    fun b hb => ⟨hb.1, hb.2.1, fun tk ht => hb.2.2 tk ((hmem tk).1 ht).1⟩
  have hblk : ∀ tk ∈ c.T, tk.nm ∈ fn → ∀ b ∈ vb tk.u, Rd (c.nx { v := v, dead := [], frz := fn, live := [], read := r } c.w (c.T.filter (fun tk => !fn.contains tk.nm))) b := by
    intro tk ht hn b hb
    have hbd := h.bound tk ht b (List.mem_append.2 (.inl hb))
    refine ⟨hbd.2, .inr hbd.1, fun t2 ht2 hb2 => ?_⟩
    obtain ⟨h1, h2⟩ := (hmem t2).1 ht2
    exact disjoint_toks h ht h1 (fun e => h2 (e ▸ hn)) (List.mem_append.2 (.inl hb)) (List.mem_append.2 (.inl hb2))
  have hpres : Pres cx c (c.nx { v := v, dead := [], frz := fn, live := [], read := r } c.w (c.T.filter (fun tk => !fn.contains tk.nm))) := by
    refine ⟨fun b hb => ⟨hrd0 b hb, rfl⟩, fun n hn => hn, fun n hn => List.mem_append.2 (.inr hn), fun tk ht _ hF => (hmem tk).2 ⟨ht, fun hd => hF (List.mem_append.2 (.inl hd))⟩, fun tk ht l hl => (hmem tk).2 ⟨ht, fun hd => ?_⟩, fun tk ht s hs _ hF => ?_⟩
    · obtain ⟨s, hs⟩ := hsl tk ht hd
      rw [hl] at hs
      cases hs
    · rcases List.mem_append.1 hF with hF | hF
      · exact tok_any ok h ht hs hrd0 (hblk tk ht hF)
      · exact absurd hF (h.live tk ht).2
  refine ⟨⟨(List.Sublist.map _ List.filter_sublist).nodup h.names, filter_sub_nodup _ h.nodup, fun tk ht => h.bound tk ((hmem tk).1 ht).1, fun tk ht => ?_, h.start, fun tk ht => ?_, h.size⟩, hpres, hv _ rfl hpres hblk, Kept.refl _ _, fun n hn => ?_⟩
  · exact TokRep.pres cx hpres (fun _ _ => rfl) (h.rep tk ((hmem tk).1 ht).1)
  · obtain ⟨h1, h2⟩ := (hmem tk).1 ht
    refine ⟨(h.live tk h1).1, fun hF => ?_⟩
    rcases List.mem_append.1 hF with hF | hF
    · exact h2 hF
    · exact (h.live tk h1).2 hF
  · rcases hn with ⟨tk, ht, rfl⟩ | hn | hn
    · exact .inl (.inl ⟨tk, ((hmem tk).1 ht).1, rfl⟩)
    · exact .inl (.inr (.inl hn))
    · rcases List.mem_append.1 hn with hn | hn
      · exact .inl (hfn n hn)
      · exact .inl (.inr (.inr hn))

def getI {ty : Nat → Type} (slots : List (V ty)) (x : Option Operand) (d : Int) : Option Int :=
  match x with
  | none => some d
  | some x => match getV slots x with
    | .inl (.inl (some (.inl (.int _ i)))) => some i
    | _ => none

def evSlice {β : Type} (P : Program) (cx : Cx) (slots : List (V cx.ty)) (t : TypeId) (x : Operand) (lo hi mx : Option Operand) (k : Eff cx.ty → Option β) : Option β :=
  match mx, getV slots x, getI slots lo 0 with
  | none, .inl (.inl (some (.inr s))), some l => match getI slots hi s.xs.length, sliceElem P t with
    | some h, some e => if e == s.e && elemOk P cx e then
        bif decide (0 ≤ l) && decide (l ≤ h) && decide (h ≤ s.xs.length) then
          k { v := vs (ro s.e ((s.xs.take h.toNat).drop l.toNat)), dead := [], frz := rdn s, live := [], read := rdn s }
        else none
      else none
    | _, _ => none
  | none, .inl (.inl (some (.inl (.string str)))), some l => match getI slots hi str.size, P.underlying t with
    | some h, some .string => bif decide (0 ≤ l) && decide (l ≤ h) && decide (h ≤ str.size) then k (purR (vv (.string (str.extract l.toNat h.toNat))) []) else none
    | _, _ => none
  | _, _, _ => none

theorem getI_run {c : Ct cx.ty} {slots : List (V cx.ty)} {ρ : Operand → Value} {x : Option Operand} {d i : Int} (h : getI slots x d = some i) (hr : ∀ y, x = some y → RepV cx c (getV slots y) (ρ y)) : (x = none ∧ i = d) ∨ ∃ y k, x = some y ∧ ρ y = .int k i := by
  cases x with
  | none => simp only [getI, Option.some.injEq] at h; exact .inl ⟨rfl, h.symm⟩
  | some y =>
    simp only [getI] at h
    split at h
    · rename_i k j hy
      simp only [Option.some.injEq] at h
      subst h
      have := hr y rfl
      rw [hy] at this
      exact .inr ⟨y, k, rfl, this⟩
    · simp at h

theorem run_bounds {w : World} {isS : Bool} {len cap : Nat} {lo hi : Option Value} {l h : Int} (hl : (lo = none ∧ l = 0) ∨ ∃ k, lo = some (.int k l)) (hh : (hi = none ∧ h = len) ∨ ∃ k, hi = some (.int k h)) (h0 : 0 ≤ l) (h1 : l ≤ h) (h2 : h ≤ cap) :
    (Instr.sliceBounds isS len cap lo hi none).run P w = .ok (l.toNat, h.toNat, cap) w := by
  have hb : ∀ (k : IntKind) (j : Int) (y : Nat) code, 0 ≤ j → j ≤ y → (Instr.sliceBound (.int k j) y code).run P w = .ok j.toNat w := by
    intro k j y code a1 a2
    simp [Instr.sliceBound, asIntOf, a1, a2]
  unfold Instr.sliceBounds
  have hle : l ≤ (h.toNat : Int) := by omega
  rcases hh with ⟨rfl, rfl⟩ | ⟨k, rfl⟩ <;> rcases hl with ⟨rfl, rfl⟩ | ⟨k', rfl⟩
  · simp
  · simp only [Sem.run_bind, Sem.run_pure, Result.andThen_ok]
    rw [hb _ _ _ _ h0 (by omega)]
    simp
  · simp only [Sem.run_bind, Sem.run_pure, Result.andThen_ok]
    rw [hb _ _ _ _ (by omega) h2]
    simp
  · simp only [Sem.run_bind, Sem.run_pure, Result.andThen_ok]
    rw [hb _ _ _ _ (by omega) h2]
    simp only [Result.andThen_ok]
    rw [hb _ _ _ _ h0 hle]
    simp

theorem RepL_sub {w : World} {S : Nat → Prop} {n : Nat} {s : SlD cx.ty} {a : Option Addr} {k cap : Nat} (h : RepL cx w S n (some (.inr s)) (.slice a k cap)) {l hh : Nat} (h1 : l ≤ hh) (h2 : hh ≤ s.xs.length) :
    ∃ m, RepL cx w S m (some (.inr (ro s.e ((s.xs.take hh).drop l)))) (.slice (if cap = l then a else a.map (·.add (l * cx.size s.e))) (hh - l) (cap - l)) := by
  cases n with
  | zero => simp [RepL] at h
  | succ n =>
    obtain ⟨a', cap', hu, hcap, hcase⟩ := h
    simp only [Value.slice.injEq] at hu
    obtain ⟨rfl, rfl, rfl⟩ := hu
    have hlen : ((s.xs.take hh).drop l).length = hh - l := by simp; omega
    refine ⟨n + 1, _, cap - l, by rw [show (ro s.e ((s.xs.take hh).drop l)).xs.length = hh - l from hlen], by rw [show (ro s.e ((s.xs.take hh).drop l)).xs.length = hh - l from hlen]; omega, ?_⟩
    by_cases hlt : l < hh
    · rcases hcase with hx | ⟨b, off, rfl, hS, hc⟩
      · exact .inl (by simp [ro, hx])
      · have hne : ¬ cap = l := by omega
        refine .inr ⟨b, off + l * cx.size s.e, by simp [hne, Addr.add_lit], hS, fun i x hx j y hy => ?_⟩
        have hx1 : ((s.xs.take hh).drop l)[i]? = some x := hx
        rw [List.getElem?_drop, List.getElem?_take] at hx1
        split at hx1
        · obtain ⟨v, hv, hr⟩ := hc (l + i) x hx1 j y hy
          refine ⟨v, ?_, hr⟩
          rw [← hv]
          have : off + l * cx.size s.e + (i * cx.size (ro s.e ((s.xs.take hh).drop l)).e + j) = off + ((l + i) * cx.size s.e + j) := by
            show off + l * cx.size s.e + (i * cx.size s.e + j) = _
            rw [Nat.add_mul]; omega
          rw [this]
        · simp at hx1
    · refine .inl (List.eq_nil_of_length_eq_zero ?_)
      show ((s.xs.take hh).drop l).length = 0
      omega

theorem evSlice_ok (ok : cx.Ok) {β : Type} {o : Oper} {slots : List (V cx.ty)} {nm0 : Nat} {t : TypeId} {x : Operand} {lo hi mx : Option Operand} (ho : o.op = .slice t x lo hi mx) {k : Eff cx.ty → Option β} {r : β}
    (h : evSlice P cx slots t x lo hi mx k = some r) : ∃ ef, k ef = some r ∧ EffOK P cx o slots nm0 ef := by
  have hxm : x ∈ o.op.operands := by simp [ho, Op.operands]
  have hlm : ∀ y, lo = some y → y ∈ o.op.operands := fun y hy => by simp [ho, Op.operands, hy]
  have hhm : ∀ y, hi = some y → y ∈ o.op.operands := fun y hy => by simp [ho, Op.operands, hy]
  unfold evSlice at h
  split at h
  · rename_i s l hx hl
    split at h
    · rename_i hh e hhi he
      split at h
      · rename_i hc
        simp only [Bool.and_eq_true, beq_iff_eq] at hc
        obtain ⟨rfl, hel⟩ := hc
        obtain ⟨⟨d, hd⟩, hsz⟩ := elemOk_spec hel
        cases hb : (decide (0 ≤ l) && decide (l ≤ hh) && decide (hh ≤ s.xs.length)) with
        | false => rw [hb] at h; simp at h
        | true =>
          rw [hb] at h
          simp only [Bool.and_eq_true, decide_eq_true_eq] at hb
          obtain ⟨⟨h0, h1⟩, h2⟩ := hb
          refine ⟨_, h, ⟨fun c ρ hw hop _ hrd hf => ?_⟩⟩
          have hrx := hop x hxm; rw [hx] at hrx
          have hrx : RepLS cx c (some (.inr s)) (ρ x) := hrx
          have hlo := getI_run hl (fun y hy => hop y (hlm y hy))
          have hhi' := getI_run hhi (fun y hy => hop y (hhm y hy))
          have run : ∀ (a : Option Addr) (n cap : Nat), n = s.xs.length → s.xs.length ≤ cap → ρ x = .slice a n cap →
              (execOp ρ o).run P c.w = .ok (.value (.slice (if cap = l.toNat then a else a.map (·.add (l.toNat * cx.size s.e))) (hh.toNat - l.toNat) (cap - l.toNat))) c.w := by
            intro a n cap hn hcap hu
            have hbds := run_bounds (P := P) (w := c.w) (isS := true) (len := n) (cap := cap) (lo := lo.map ρ) (hi := hi.map ρ) (l := l) (h := hh) (by
              rcases hlo with ⟨a1, a2⟩ | ⟨y, kk, a1, a2⟩
              · exact .inl ⟨by rw [a1]; rfl, a2⟩
              · exact .inr ⟨kk, by rw [a1, Option.map_some, a2]⟩) (by
              rcases hhi' with ⟨a1, a2⟩ | ⟨y, kk, a1, a2⟩
              · exact .inl ⟨by rw [a1]; rfl, by rw [a2, hn]⟩
              · exact .inr ⟨kk, by rw [a1, Option.map_some, a2]⟩) h0 h1 (by omega)
            have hmx : (none : Option Operand).map ρ = none := rfl
            unfold execOp
            simp only [ho, Instr.sliceAt, Instr.slice, Sem.run_bind, run_underlying (sliceElem_eq he), Result.andThen_ok, hu, hmx, hbds, run_sizeOf' hd, hsz, Sem.run_pure]
          unfold RepLS at hrx
          by_cases h4 : s.own = 1
          · have hrn : rdn s = [s.nm] := by simp [rdn, h4]
            have h5 : s.nm ∉ c.D := hrd _ (by simp [hrn])
            simp only [h4, if_true, h5, if_false] at hrx
            obtain ⟨_, hrx⟩ := hrx
            unfold Runs
            by_cases h6 : s.nm ∈ c.F
            · simp only [h6, if_true] at hrx
              obtain ⟨n, hrx⟩ := hrx
              have hrx' := hrx
              cases n with
              | zero => simp [RepL] at hrx
              | succ n =>
                obtain ⟨a, cap, hu, hcap, _⟩ := hrx
                rw [run a _ cap rfl hcap hu]
                rw [hu] at hrx'
                obtain ⟨m, hm⟩ := RepL_sub hrx' (l := l.toNat) (hh := hh.toNat) (by omega) (by omega)
                refine ⟨_, good_frz ok hw (fun n hn => ?_) (fun tk ht hn => ?_) (fun c' hcw hp hbl => ?_)⟩
                · rw [hrn] at hn
                  simp only [List.mem_singleton] at hn
                  rw [hn]; exact .inr (.inr h6)
                · rw [hrn] at hn
                  simp only [List.mem_singleton] at hn
                  exact absurd (hn ▸ h6) (hw.live tk ht).2
                · exact (show RepLS cx c' (some (.inr _)) _ from repLS_ro (by simp [ro]) ⟨m, RepL.pres cx hp hm⟩)
            · simp only [h6, if_false] at hrx
              obtain ⟨tk, ht, hn, hcc, hu⟩ := hrx
              have hcapx : ∃ a cap, ρ x = .slice a s.xs.length cap ∧ s.xs.length ≤ cap := by
                rcases tok_el ok hw ht hcc with ⟨a1, a2⟩ | ⟨g, cap, a1, a2, _⟩
                · exact ⟨none, 0, by rw [← hu, a1, a2]; rfl, by rw [a2]; exact Nat.le_refl _⟩
                · exact ⟨_, cap, by rw [← hu, a1], a2⟩
              obtain ⟨a, cap, hua, hcap⟩ := hcapx
              rw [run a _ cap rfl hcap hua]
              have huniq : ∀ t2 ∈ c.T, t2.nm = s.nm → t2 = tk := by
                intro t2 ht2 hn2
                have hnd := hw.names
                rcases Classical.em (t2 = tk) with h | h
                · exact h
                · exfalso
                  obtain ⟨l1, l2, hl⟩ := List.append_of_mem ht
                  rw [hl] at hnd ht2
                  rw [List.map_append, List.map_cons, List.nodup_append] at hnd
                  rcases List.mem_append.1 ht2 with h3 | h3
                  · exact hnd.2.2 t2.nm (List.mem_map.2 ⟨t2, h3, rfl⟩) tk.nm (List.mem_cons_self ..) (by rw [hn2, hn])
                  · rcases List.mem_cons.1 h3 with h3 | h3
                    · exact h h3
                    · exact (List.nodup_cons.1 hnd.2.1).1 (List.mem_map.2 ⟨t2, h3, by rw [hn2, hn]⟩)
              refine ⟨_, good_frz ok hw (fun n hn' => ?_) (fun t2 ht2 hn2 => ?_) (fun c' hcw hp hbl => ?_)⟩
              · rw [hrn] at hn'
                simp only [List.mem_singleton] at hn'
                rw [hn']; exact .inl ⟨tk, ht, hn⟩
              · rw [hrn] at hn2
                simp only [List.mem_singleton] at hn2
                rw [huniq t2 ht2 hn2]
                exact ⟨s, hcc⟩
              · obtain ⟨n, hrx'⟩ := tok_any ok hw ht hcc (S := Rd c') (fun b hb => (hp.rd b hb).1) (hbl tk ht (by rw [hrn, hn]; exact List.mem_singleton.2 rfl))
                rw [hu, hua] at hrx'
                obtain ⟨m, hm⟩ := RepL_sub hrx' (l := l.toNat) (hh := hh.toNat) (by omega) (by omega)
                rw [← hcw] at hm
                exact (show RepLS cx c' (some (.inr _)) _ from repLS_ro (by simp [ro]) ⟨m, hm⟩)
          · have hrn : rdn s = [] := by simp [rdn, h4]
            simp only [h4, if_false] at hrx
            obtain ⟨n, hrx⟩ := hrx
            have hrx' := hrx
            cases n with
            | zero => simp [RepL] at hrx
            | succ n =>
              obtain ⟨a, cap, hu, hcap, _⟩ := hrx
              unfold Runs
              rw [run a _ cap rfl hcap hu]
              rw [hu] at hrx'
              obtain ⟨m, hm⟩ := RepL_sub hrx' (l := l.toNat) (hh := hh.toNat) (by omega) (by omega)
              rw [hrn]
              refine ⟨_, good_frz ok hw (fun n hn => by simp at hn) (fun tk ht hn => by simp at hn) (fun c' hcw hp hbl => ?_)⟩
              exact (show RepLS cx c' (some (.inr _)) _ from repLS_ro (by simp [ro]) ⟨m, RepL.pres cx hp hm⟩)
      · simp at h
    · simp at h
  · rename_i str l hx hl
    split at h
    · rename_i hh hhi he
      cases hb : (decide (0 ≤ l) && decide (l ≤ hh) && decide (hh ≤ str.size)) with
      | false => rw [hb] at h; simp at h
      | true =>
        rw [hb] at h
        simp only [Bool.and_eq_true, decide_eq_true_eq] at hb
        obtain ⟨⟨h0, h1⟩, h2⟩ := hb
        refine ⟨_, h, effok_pur fun c ρ hw hop _ => ?_⟩
        have hrx := hop x hxm; rw [hx] at hrx
        have hrx : ρ x = .string str := hrx
        have hlo := getI_run hl (fun y hy => hop y (hlm y hy))
        have hhi' := getI_run hhi (fun y hy => hop y (hhm y hy))
        have hbds := run_bounds (P := P) (w := c.w) (isS := false) (len := str.size) (cap := str.size) (lo := lo.map ρ) (hi := hi.map ρ) (l := l) (h := hh) (by
          rcases hlo with ⟨a1, a2⟩ | ⟨y, kk, a1, a2⟩
          · exact .inl ⟨by rw [a1]; rfl, a2⟩
          · exact .inr ⟨kk, by rw [a1, Option.map_some, a2]⟩) (by
          rcases hhi' with ⟨a1, a2⟩ | ⟨y, kk, a1, a2⟩
          · exact .inl ⟨by rw [a1]; rfl, a2⟩
          · exact .inr ⟨kk, by rw [a1, Option.map_some, a2]⟩) h0 h1 h2
        refine ⟨_, ?_, rfl⟩
        have hmx : (none : Option Operand).map ρ = none := rfl
        unfold execOp
        simp only [ho, Instr.sliceAt, Instr.slice, Sem.run_bind, run_underlying he, Result.andThen_ok, hrx, hmx, hbds, Sem.run_pure, Option.isSome_none, Bool.false_eq_true, if_false]
    · simp at h
  · simp at h

end
end Go.VM

namespace Go.VM
open Go.RowKit
section
variable {cx : Cx} {P : Program}

/-! ### States, and operations one behind the other -/
structure St (ty : Nat → Type) where
  slots : List (V ty)
  D : List Nat
  F : List Nat
  ctr : Nat
  lo : Nat := 0

structure RS (cx : Cx) (c : Ct cx.ty) (st : St cx.ty) (a : Act) : Prop where
  wf : Wf cx c
  size : a.tmps.size = st.slots.length
  rep : ∀ t, RepV cx c (st.slots.getD t junk) (a.tmps.getD t undef)
  defers : a.defers = []
  dead : ∀ n, n ∈ c.D ↔ n ∈ st.D
  frz : ∀ n, n ∈ c.F ↔ n ∈ st.F
  names : ∀ n, Nm c n → n < st.ctr * 65536
  kp : ∀ p u, (p, u) ∈ c.K → p < st.lo ∧ a.tmps.getD p undef = u

def nmOf (ctr : Nat) (d : Option Nat) : Nat := ctr * 65536 + (match d with | some d => d | none => 1000) * 64

def setO {ty : Nat → Type} (slots : List (V ty)) (d : Option Tmp) (v : V ty) : List (V ty) :=
  match d with
  | some d => slots.set d v
  | none => slots

def chk {ty : Nat → Type} (st : St ty) (ef : Eff ty) : Bool :=
  ef.live.all (fun n => !st.D.contains n && !st.F.contains n) && ef.read.all (fun n => !st.D.contains n)

def St.app {ty : Nat → Type} (st : St ty) (d : Option Tmp) (ef : Eff ty) : St ty :=
  { slots := setO st.slots d ef.v, D := ef.dead ++ st.D, F := ef.frz ++ st.F, ctr := st.ctr + 1, lo := st.lo }

/-- The first slots are not written. -/
def loO (lo : Nat) (d : Option Nat) : Bool := match d with | some d => decide (lo ≤ d) | none => true

theorem put_lo {a : Act} {lo : Nat} {d : Option Nat} (h : loO lo d = true) (u : Value) {p : Nat} (hp : p < lo) : (a.put d u).tmps.getD p undef = a.tmps.getD p undef := by
  cases d with
  | none => rfl
  | some d =>
    have h : lo ≤ d := by simpa [loO] using h
    have hd : d ≠ p := by omega
    simp [Act.put, Array.getElem?_setIfInBounds_ne hd]

def smallO (d : Option Nat) : Bool := match d with | some d => decide (d < 1000) | none => true

theorem eval_rep {c : Ct cx.ty} {slots : List (V cx.ty)} {a : Act} (h : ∀ t, RepV cx c (slots.getD t junk) (a.tmps.getD t undef)) (x : Operand) : RepV cx c (getV slots x) (a.eval x) := by
  cases x with
  | tmp t => exact h t
  | const v => exact rfl
  | global g => trivial
  | func f => exact rfl

theorem put_rep {c : Ct cx.ty} {slots : List (V cx.ty)} {a : Act} (hs : a.tmps.size = slots.length) (h : ∀ t, RepV cx c (slots.getD t junk) (a.tmps.getD t undef)) (d : Option Tmp) {v : V cx.ty} {u : Value} (hv : RepV cx c v u) :
    ∀ t, RepV cx c ((setO slots d v).getD t junk) ((a.put d u).tmps.getD t undef) := by
  intro t
  cases d with
  | none => exact h t
  | some d =>
    by_cases hd : d = t
    · subst hd
      by_cases hl : d < slots.length
      · have e1 : (setO slots (some d) v).getD d junk = v := by simp [setO, List.getD, hl]
        have e2 : (a.put (some d) u).tmps.getD d undef = u := by simp [Act.put, hs, hl]
        rw [e1, e2]; exact hv
      · have e1 : (setO slots (some d) v).getD d junk = junk := by simp [setO, List.getD, Nat.le_of_not_lt hl]
        rw [e1]; trivial
    · have e1 : (setO slots (some d) v).getD t junk = slots.getD t junk := by simp [setO, List.getD, List.getElem?_set_ne hd]
      have e2 : (a.put (some d) u).tmps.getD t undef = a.tmps.getD t undef := by simp [Act.put, Array.getElem?_setIfInBounds_ne hd]
      rw [e1, e2]; exact h t

theorem put_size {a : Act} {slots : List (V cx.ty)} (hs : a.tmps.size = slots.length) (d : Option Tmp) (v : V cx.ty) (u : Value) : (a.put d u).tmps.size = (setO slots d v).length := by
  cases d <;> simp [Act.put, setO, hs]

theorem put_defers (a : Act) (d : Option Tmp) (u : Value) : (a.put d u).defers = a.defers := by cases d <;> rfl

theorem band_lt {ctr : Nat} {d : Option Nat} (hd : smallO d = true) {n : Nat} (h : nmOf ctr d ≤ n ∧ n < nmOf ctr d + 64) : n < (ctr + 1) * 65536 := by
  unfold nmOf at h
  cases d with
  | none => simp only at h; omega
  | some d =>
    have hd : d < 1000 := by simpa [smallO] using hd
    simp only at h
    omega

/-- The state behind an operation that has been carried out. -/
theorem RS.app {c : Ct cx.ty} {st : St cx.ty} {a : Act} (h : RS cx c st a) {d : Option Tmp} (hd : smallO d = true) (hlo : loO st.lo d = true) {ef : Eff cx.ty} {u : Value} {w' : World} {T' : List (Tk cx.ty)} (hg : Good cx c ef (nmOf st.ctr d) u w' T') :
    RS cx (c.nx ef w' T') (st.app d ef) (a.put d u) := by
  refine ⟨hg.wf, put_size h.size d ef.v u, ?_, by rw [put_defers]; exact h.defers, fun n => ?_, fun n => ?_, fun n hn => ?_, fun p u' hp => ⟨(h.kp p u' hp).1, (put_lo hlo u (h.kp p u' hp).1).trans (h.kp p u' hp).2⟩⟩
  · exact put_rep h.size (fun t => RepV.pres cx hg.pres (h.rep t)) d hg.rep
  · simp [Ct.nx, St.app, h.dead n]
  · simp [Ct.nx, St.app, h.frz n]
  · rcases hg.names n hn with hn | hn
    · exact Nat.lt_of_lt_of_le (h.names n hn) (Nat.mul_le_mul_right _ (Nat.le_succ _))
    · exact band_lt hd hn

theorem RS.fresh {c : Ct cx.ty} {st : St cx.ty} {a : Act} (h : RS cx c st a) (d : Option Tmp) : ∀ n, Nm c n → ¬ (nmOf st.ctr d ≤ n ∧ n < nmOf st.ctr d + 64) := by
  intro n hn hb
  have := h.names n hn
  unfold nmOf at hb
  omega

theorem chk_spec {c : Ct cx.ty} {st : St cx.ty} {a : Act} (h : RS cx c st a) {ef : Eff cx.ty} (hc : chk st ef = true) : (∀ n ∈ ef.live, n ∉ c.D ∧ n ∉ c.F) ∧ ∀ n ∈ ef.read, n ∉ c.D := by
  simp only [chk, Bool.and_eq_true, List.all_eq_true] at hc
  refine ⟨fun n hn => ?_, fun n hn => ?_⟩
  · have := hc.1 n hn
    rw [h.dead, h.frz]
    simpa using this
  · have := hc.2 n hn
    rw [h.dead]
    simpa using this

theorem Oper.wp_of_runs {o : Oper} {a : Act} {w : World} {next : Act → World → Prop} {Q : Exit → Act → World → Prop} (h : Runs P o a.eval w (fun u w' => next (a.put o.dst u) w')) : o.wp P a w next Q := by
  unfold Oper.wp
  unfold Runs at h
  generalize (execOp a.eval o).run P w = r at h
  cases r with
  | ok n w' =>
    cases n <;> first | exact h | exact h.elim | skip
    case enter f args =>
      refine h.mono fun e w'' ⟨v, he, hn⟩ => ?_
      subst he
      exact hn
  | halt x w' => exact h.elim

theorem Runs.mono {o : Oper} {ρ : Operand → Value} {w : World} {K K' : Value → World → Prop} (h : Runs P o ρ w K) (hk : ∀ u w', K u w' → K' u w') : Runs P o ρ w K' := by
  unfold Runs at h ⊢
  generalize (execOp ρ o).run P w = r at h
  cases r with
  | ok n w' =>
    cases n <;> first | exact hk _ _ h | exact h.elim | skip
    case enter f args => exact h.mono fun e w'' ⟨v, he, hn⟩ => ⟨v, he, hk _ _ hn⟩
  | halt x w' => exact h.elim


end
end Go.VM
namespace Go.VM
open Go.RowKit
section
variable {cx : Cx} {P : Program}

/-! ### Stores -/
/-- From one state of the table to another, where the things named in 'X' may have turned. -/
structure PresX (X : Nat → Prop) (c c' : Ct cx.ty) : Prop where
  rd : ∀ b, Rd c b → Rd c' b ∧ c'.w.heap[b]? = c.w.heap[b]?
  dead : c'.D = c.D
  frz : c'.F = c.F
  tok : ∀ tk ∈ c.T, ¬ X tk.nm → ∀ s, tk.c = .inl s → tk ∈ c'.T
  box : ∀ tk ∈ c.T, ¬ X tk.nm → ∀ l, tk.c = .inr l → ∃ tk' ∈ c'.T, tk'.nm = tk.nm ∧ tk'.u = tk.u ∧ tk'.c = .inr l

def touchL {ty : Nat → Type} (X : Nat → Prop) : L ty → Prop
  | some (.inr s) => s.own = 1 ∧ X s.nm
  | _ => False

theorem RepLS.presX {X : Nat → Prop} {c c' : Ct cx.ty} (h : PresX X c c') {l : L cx.ty} {u : Value} (ht : ¬ touchL X l) (hr : RepLS cx c l u) : RepLS cx c' l u := by
  have up : ∀ {n : Nat} {l : L cx.ty} {u : Value}, RepL cx c.w (Rd c) n l u → RepL cx c'.w (Rd c') n l u := fun hr => RepL_mono cx (fun b hb => (h.rd b hb).2) (fun b hb => (h.rd b hb).1) _ _ _ hr
  match l, hr with
  | none, _ => trivial
  | some (.inl v), hr => exact hr
  | some (.inr s), hr =>
    unfold RepLS at hr ⊢
    by_cases h1 : s.own = 1
    · have hX : ¬ X s.nm := fun hx => ht ⟨h1, hx⟩
      simp only [h1, if_true, h.dead, h.frz] at hr ⊢
      obtain ⟨hsl, hr⟩ := hr
      refine ⟨hsl, ?_⟩
      split at hr
      · rename_i hd; rw [if_pos hd]; trivial
      · rename_i hd
        rw [if_neg hd]
        split at hr
        · rename_i hf
          rw [if_pos hf]
          obtain ⟨n, hr⟩ := hr
          exact ⟨n, up hr⟩
        · rename_i hf
          rw [if_neg hf]
          obtain ⟨tk, k1, k2, k3, k4⟩ := hr
          exact ⟨tk, h.tok tk k1 (by rw [k2]; exact hX) s k3, k2, k3, k4⟩
    · simp only [h1, if_false] at hr ⊢
      obtain ⟨n, hr⟩ := hr
      exact ⟨n, up hr⟩

/-- A box that is stored into: its cells as they are then, wherever it is met. -/
def updB {ty : Nat → Type} (nm : Nat) (cells : List (L ty)) (v : V ty) : V ty :=
  match v with
  | .inr (.inr p) => if p.kind == 0 && p.nm == nm then .inr (.inr { p with cells := cells }) else .inr (.inr p)
  | v => v

theorem no_touch {l : L cx.ty} : ¬ touchL (fun _ => False) l := by
  intro h
  match l, h with
  | some (.inr s), h => exact h.2

theorem repLS_box {nm : Nat} {c c' : Ct cx.ty} (h : PresX (fun n => n = nm) c c') (hib : ∀ tk ∈ c.T, tk.nm = nm → ∃ l, tk.c = .inr l) {l : L cx.ty} {u : Value} (hl : RepLS cx c l u) : RepLS cx c' l u := by
  by_cases ht : touchL (fun n => n = nm) l
  · match l, hl, ht with
    | some (.inr s), hl, ⟨h1, h2⟩ =>
      unfold RepLS at hl ⊢
      simp only [h1, if_true, h.dead, h.frz] at hl ⊢
      obtain ⟨hsl, hl⟩ := hl
      refine ⟨hsl, ?_⟩
      split at hl
      · rename_i hd; rw [if_pos hd]; trivial
      · rename_i hd
        rw [if_neg hd]
        split at hl
        · rename_i hf
          rw [if_pos hf]
          obtain ⟨n, hr⟩ := hl
          exact ⟨n, RepL_mono cx (fun b hb => (h.rd b hb).2) (fun b hb => (h.rd b hb).1) _ _ _ hr⟩
        · obtain ⟨tk, k1, k2, k3, _⟩ := hl
          obtain ⟨l, hl⟩ := hib tk k1 (by rw [k2]; exact h2)
          rw [k3] at hl
          cases hl
  · exact hl.presX h ht

theorem updB_rep {nm : Nat} {cells : List (L cx.ty)} {c c' : Ct cx.ty} (h : PresX (fun n => n = nm) c c') (hbox : ∀ tk ∈ c.T, tk.nm = nm → ∃ tk' ∈ c'.T, tk'.nm = nm ∧ tk'.u = tk.u ∧ tk'.c = .inr cells) (hib : ∀ tk ∈ c.T, tk.nm = nm → ∃ l, tk.c = .inr l)
    {v : V cx.ty} {u : Value} (hr : RepV cx c v u) : RepV cx c' (updB nm cells v) u := by
  have leaf : ∀ {l : L cx.ty} {u : Value}, RepLS cx c l u → RepLS cx c' l u := fun hl => repLS_box h hib hl
  have agg : ∀ {a : A cx.ty} {u : Value}, RepA cx c a u → RepA cx c' a u := by
    intro a u ha
    match a, ha with
    | .inl l, ha => exact leaf ha
    | .inr l, ⟨us, hu, h1, h2⟩ => exact ⟨us, hu, h1, fun j a b e1 e2 => leaf (h2 j a b e1 e2)⟩
  have el : ∀ {s : SlD cx.ty} {i b o : Nat}, RepEl cx c s i b o → RepEl cx c' s i b o := by
    rintro s i b o ⟨hb, x, hx, n, hr⟩
    refine ⟨(h.rd b hb).1, x, hx, n, fun j l hl => ?_⟩
    obtain ⟨v, hv, hr⟩ := hr j l hl
    exact ⟨v, by rw [World.cell?_of_block (h.rd b hb).2]; exact hv, RepL_mono cx (fun b hb => (h.rd b hb).2) (fun b hb => (h.rd b hb).1) _ _ _ hr⟩
  match v, hr with
  | .inl a, hr => exact agg hr
  | .inr (.inl l), ⟨us, hu, h1, h2⟩ => exact ⟨us, hu, h1, fun j a b e1 e2 => agg (h2 j a b e1 e2)⟩
  | .inr (.inr p), hr =>
    have hr : RepP cx c p u := hr
    simp only [updB]
    unfold RepP at hr
    split at hr
    · rename_i hk
      obtain ⟨tk, k1, k2, k3, g, k4, k5⟩ := hr
      by_cases hn : p.nm = nm
      · have : (p.kind == 0 && p.nm == nm) = true := by simp [hk, hn]
        rw [if_pos this]
        obtain ⟨tk', m1, m2, m3, m4⟩ := hbox tk k1 (by rw [k2, hn])
        show RepP cx c' _ u
        unfold RepP
        simp only [hk]
        exact ⟨tk', m1, by rw [m2, hn], m4, g, by rw [m3]; exact k4, k5⟩
      · have : ¬ (p.kind == 0 && p.nm == nm) = true := by simp [hn]
        rw [if_neg this]
        obtain ⟨tk', m1, m2, m3, m4⟩ := h.box tk k1 (by rw [k2]; exact hn) _ k3
        show RepP cx c' p u
        unfold RepP
        simp only [hk]
        exact ⟨tk', m1, by rw [m2, k2], m4, g, by rw [m3]; exact k4, k5⟩
    · rename_i hk
      have : ¬ (p.kind == 0 && p.nm == nm) = true := by simp [hk]
      rw [if_neg this]
      show RepP cx c' p u
      unfold RepP
      simp only [hk, h.dead, h.frz] at hr ⊢
      split at hr
      · rename_i hd; rw [if_pos hd]; trivial
      · rename_i hd
        rw [if_neg hd]
        split at hr
        · rename_i hf
          rw [if_pos hf]
          obtain ⟨b, o, hu, hr⟩ := hr
          exact ⟨b, o, hu, el hr⟩
        · rename_i hf
          rw [if_neg hf]
          obtain ⟨tk, k1, k2, k3, k4⟩ := hr
          by_cases hn : tk.nm = nm
          · obtain ⟨l, hl⟩ := hib tk k1 hn
            rw [k3] at hl
            cases hl
          · exact ⟨tk, h.tok tk k1 hn _ k3, k2, k3, k4⟩
    · rename_i hk
      have : ¬ (p.kind == 0 && p.nm == nm) = true := by simp [hk]
      rw [if_neg this]
      show RepP cx c' p u
      unfold RepP
      simp only [hk]
      obtain ⟨b, o, hu, hr⟩ := hr
      exact ⟨b, o, hu, el hr⟩
    · rename_i k0 k1 k2
      have : ¬ (p.kind == 0 && p.nm == nm) = true := by
        have : p.kind ≠ 0 := k0
        simp [this]
      rw [if_neg this]
      show RepP cx c' p u
      unfold RepP
      split <;> first | trivial | (rename_i hh; first | exact (k0 hh).elim | exact (k1 hh).elim | exact (k2 hh).elim)

theorem leafOk_one {c : Ct cx.ty} {l : L cx.ty} {u : Value} (h : RepLS cx c l u) (ho : leafOk l = true) : u.oneCell' = true := by
  match l, h, ho with
  | some (.inl v), h, ho =>
    have h : u = v := h
    subst h
    cases u <;> first | rfl | (simp [leafOk] at ho)
  | some (.inr s), h, _ =>
    have : ∃ a n cap, u = .slice a n cap := by
      unfold RepLS at h
      by_cases h1 : s.own = 1
      · simp only [h1, if_true] at h
        exact h.1
      · simp only [h1, if_false] at h
        obtain ⟨n, h⟩ := h
        obtain ⟨a, cap, hu⟩ := RepL_slice h
        exact ⟨a, _, cap, hu⟩
    obtain ⟨a, n, cap, rfl⟩ := this
    rfl

/-- What a store leaves: the slots as they are then. -/
def stB (P : Program) (st : St cx.ty) (t : TypeId) (a x : Operand) : Option (St cx.ty) :=
  match getV st.slots a, cellsV (getV st.slots x) with
  | .inr (.inr p), some l => if p.kind == 0 && p.i == 0 && l.all leafOk && (P.underlying t).isSome && l.length == P.cellsOf t && decide (p.off + l.length ≤ p.cells.length) then
      some { st with slots := st.slots.map (updB p.nm (splice p.cells p.off l)) }
    else none
  | _, _ => none

theorem stB_ok {o : Oper} {t : TypeId} {a x : Operand} (ho : o.op = .store t a x) {st st' : St cx.ty} (hst : stB P st t a x = some st') {c : Ct cx.ty} {act : Act} (h : RS cx c st act) :
    ∃ w' T', (execOp act.eval o).run P c.w = .ok .skip w' ∧ RS cx { c with T := T', w := w' } st' act ∧ Kept c.N c.w w' := by
  unfold stB at hst
  split at hst
  · rename_i p l hp hl
    split at hst
    · rename_i hc
      simp only [Bool.and_eq_true, beq_iff_eq, decide_eq_true_eq] at hc
      obtain ⟨⟨⟨⟨⟨hk, hi0⟩, hlo⟩, hund⟩, hsz⟩, hoff⟩ := hc
      simp only [Option.some.injEq] at hst
      subst hst
      obtain ⟨d, hd⟩ := Option.isSome_iff_exists.1 hund
      have hra := eval_rep h.rep a
      rw [hp] at hra
      have hra : RepP cx c p (act.eval a) := hra
      unfold RepP at hra
      simp only [hk, hi0] at hra
      obtain ⟨tk, ht, hn, hcc, g, hu, hpa⟩ := hra
      have hpa : act.eval a = .pointer (some ⟨g, p.off, none⟩) := hpa
      have htr := h.wf.rep tk ht
      unfold TokRep at htr
      rw [hcc] at htr
      obtain ⟨hfp, g', cur, e, hu', hh, hcells⟩ := htr
      rw [hu] at hu'
      simp only [Value.pointer.injEq, Option.some.injEq, Addr.mk.injEq] at hu'
      obtain ⟨rfl, _⟩ := hu'
      have hcv := cellsV_rep (eval_rep h.rep x) hl
      have hlen : (act.eval x).cells.toList.length = l.length := hcv.1
      have hone : ∀ v ∈ (act.eval x).cells.toList, v.oneCell' = true := by
        intro v hv
        obtain ⟨j, hj⟩ := List.getElem?_of_mem hv
        have hjl : j < l.length := by rw [← hlen]; exact (List.getElem?_eq_some_iff.1 hj).1
        exact leafOk_one (hcv.2 j _ v (List.getElem?_eq_getElem hjl) hj) (List.all_eq_true.1 hlo _ (List.getElem_mem hjl))
      have hcs : cur.toList.length = p.cells.length := hcells.1
      have hstore := run_storeCells_at P g p.off e (act.eval x).cells.toList 0 cur c.w hh (by simp at hcs; omega) hone
      simp only [Nat.add_zero] at hstore
      have hrun : (execOp act.eval o).run P c.w = .ok .skip (c.w.setRow g (splice cur.toList p.off (act.eval x).cells.toList).toArray) := by
        have hsize : (act.eval x).cells.size = P.cellsOf t := by rw [← hsz, ← hlen]; simp
        unfold execOp
        simp only [ho, Instr.storeAt, Instr.sureAddr, hpa, storeVar, Sem.run_bind, Sem.run_pure, Result.andThen_ok, run_sizeOf' hd, hsize, ne_eq, not_true_eq_false, if_false]
        unfold splice
        rw [hstore]
        rfl
      have hheap : ∀ k, k ≠ g → (c.w.setRow g (splice cur.toList p.off (act.eval x).cells.toList).toArray).heap[k]? = c.w.heap[k]? := fun k hk => setRow_other c.w g k _ hk
      have hsame : (c.w.setRow g (splice cur.toList p.off (act.eval x).cells.toList).toArray).heap.size = c.w.heap.size := by simp [World.setRow]
      have hg : g ∈ vb tk.u := by rw [hu]; simp [vb]
      have hgb := h.wf.bound tk ht g (List.mem_append.2 (.inl hg))
      let up : Tk cx.ty → Tk cx.ty := fun t2 => if t2.nm = p.nm then { t2 with c := .inr (splice p.cells p.off l) } else t2
      have upnm : ∀ t2, (up t2).nm = t2.nm := fun t2 => by simp only [up]; split <;> rfl
      have upu : ∀ t2, (up t2).u = t2.u := fun t2 => by simp only [up]; split <;> rfl
      have upfp : ∀ t2, (up t2).fp = t2.fp := fun t2 => by simp only [up]; split <;> rfl
      have huniq : ∀ t2 ∈ c.T, t2.nm = p.nm → t2 = tk := by
        intro t2 ht2 hn2
        have hnd := h.wf.names
        rcases Classical.em (t2 = tk) with h | h
        · exact h
        · exfalso
          obtain ⟨l1, l2, hl⟩ := List.append_of_mem ht
          rw [hl] at hnd ht2
          rw [List.map_append, List.map_cons, List.nodup_append] at hnd
          rcases List.mem_append.1 ht2 with h3 | h3
          · exact hnd.2.2 t2.nm (List.mem_map.2 ⟨t2, h3, rfl⟩) tk.nm (List.mem_cons_self ..) (by rw [hn2, hn])
          · rcases List.mem_cons.1 h3 with h3 | h3
            · exact h h3
            · exact (List.nodup_cons.1 hnd.2.1).1 (List.mem_map.2 ⟨t2, h3, by rw [hn2, hn]⟩)
      have hib : ∀ t2 ∈ c.T, t2.nm = p.nm → ∃ l, t2.c = .inr l := fun t2 ht2 hn2 => by rw [huniq t2 ht2 hn2]; exact ⟨_, hcc⟩
      have hP : PresX (fun n => n = p.nm) c { c with T := c.T.map up, w := c.w.setRow g (splice cur.toList p.off (act.eval x).cells.toList).toArray } := by
        refine ⟨fun b hb => ?_, rfl, rfl, fun t2 ht2 hX s hs => ?_, fun t2 ht2 hX l' hl' => ?_⟩
        · have hbg : b ≠ g := fun e => hb.2.2 tk ht (e ▸ hg)
          refine ⟨⟨Nat.lt_of_lt_of_eq hb.1 hsame.symm, hb.2.1, fun t2 ht2 => ?_⟩, hheap b hbg⟩
          obtain ⟨t3, h3, rfl⟩ := List.mem_map.1 ht2
          rw [upu]
          exact hb.2.2 t3 h3
        · exact List.mem_map.2 ⟨t2, ht2, by simp only [up]; rw [if_neg hX]⟩
        · exact ⟨up t2, List.mem_map.2 ⟨t2, ht2, rfl⟩, upnm t2, upu t2, by simp only [up]; rw [if_neg hX]; exact hl'⟩
      refine ⟨_, c.T.map up, hrun, ⟨⟨?_, ?_, ?_, ?_, h.wf.start, ?_, ?_⟩, by simp [h.size], fun t2 => ?_, h.defers, h.dead, h.frz, fun n hn' => ?_, h.kp⟩, ?_⟩
      · show ((c.T.map up).map (·.nm)).Nodup
        rw [List.map_map]
        have : ((fun t2 : Tk cx.ty => t2.nm) ∘ up) = fun t2 => t2.nm := funext upnm
        rw [this]; exact h.wf.names
      · show ((c.T.map up).flatMap _).Nodup
        rw [List.flatMap_map]
        have : (fun t2 => vb (up t2).u ++ (up t2).fp) = fun t2 : Tk cx.ty => vb t2.u ++ t2.fp := funext fun t2 => by rw [upu, upfp]
        rw [this]; exact h.wf.nodup
      · intro t2 ht2 b hb
        obtain ⟨t3, h3, rfl⟩ := List.mem_map.1 ht2
        rw [upu, upfp] at hb
        have := h.wf.bound t3 h3 b hb
        exact ⟨this.1, Nat.lt_of_lt_of_eq this.2 hsame.symm⟩
      · intro t2 ht2
        obtain ⟨t3, h3, rfl⟩ := List.mem_map.1 ht2
        have hold := h.wf.rep t3 h3
        by_cases hn3 : t3.nm = p.nm
        · have e3 := huniq t3 h3 hn3
          subst e3
          unfold TokRep
          simp only [up, hn3, if_true]
          refine ⟨hfp, g, _, e, hu, setRow_heap c.w g cur _ e _ hh, ?_⟩
          have a1 : RepLs cx { c with T := c.T.map up, w := c.w.setRow g (splice cur.toList p.off (act.eval x).cells.toList).toArray } p.cells cur.toList := ⟨hcells.1, fun j a b e1 e2 => repLS_box hP hib (hcells.2 j a b e1 e2)⟩
          have a2 : RepLs cx { c with T := c.T.map up, w := c.w.setRow g (splice cur.toList p.off (act.eval x).cells.toList).toArray } l (act.eval x).cells.toList := ⟨hcv.1, fun j a b e1 e2 => repLS_box hP hib (hcv.2 j a b e1 e2)⟩
          simpa using a1.splice a2 hoff
        · have hup : up t3 = t3 := by simp only [up]; rw [if_neg hn3]
          rw [hup]
          have hblk : ∀ b ∈ vb t3.u ++ t3.fp, (c.w.setRow g (splice cur.toList p.off (act.eval x).cells.toList).toArray).heap[b]? = c.w.heap[b]? := fun b hb => hheap b (fun e => disjoint_toks h.wf h3 ht (fun e2 => hn3 (by rw [e2, hn])) hb (by rw [e]; exact List.mem_append.2 (.inl hg)))
          unfold TokRep at hold ⊢
          split at hold
          · rename_i s hs
            obtain ⟨hv, hold⟩ := hold
            refine ⟨hv, ?_⟩
            split at hold
            · rename_i hso
              rw [if_pos hso]
              obtain ⟨n, hold⟩ := hold
              exact ⟨n, OwnL_mono cx n _ _ _ hblk hold⟩
            · rename_i hso
              rw [if_neg hso]
              obtain ⟨hf, us, n, hrow, hl2, hr⟩ := hold
              refine ⟨hf, us, n, ?_, hl2, fun j l v h1 h2 => RepL_mono cx (fun b hb => (hP.rd b hb).2) (fun b hb => (hP.rd b hb).1) n l v (hr j l v h1 h2)⟩
              obtain ⟨hx, hcx⟩ := hrow
              refine ⟨hx, ?_⟩
              rcases hcx with hcx | ⟨g2, cap2, cur2, hv', hg2, hh2, hrest⟩
              · exact .inl hcx
              · refine .inr ⟨g2, cap2, cur2, hv', hg2, ?_, hrest⟩
                rw [hblk g2 (by rw [hv']; simp [vb])]
                exact hh2
          · obtain ⟨hf, g2, cur2, e2, hu2, hh2, hr⟩ := hold
            refine ⟨hf, g2, cur2, e2, hu2, ?_, hr.1, fun j a b e1 e2 => repLS_box hP hib (hr.2 j a b e1 e2)⟩
            rw [hblk g2 (by rw [hu2]; simp [vb])]
            exact hh2
      · intro t2 ht2
        obtain ⟨t3, h3, rfl⟩ := List.mem_map.1 ht2
        rw [upnm]
        exact h.wf.live t3 h3
      · exact fun b hb => h.wf.size b (Nat.le_trans (Nat.le_of_eq hsame.symm) hb)
      · have hbase := updB_rep (cells := splice p.cells p.off l) hP (fun t3 h3 hn3 => ⟨up t3, List.mem_map.2 ⟨t3, h3, rfl⟩, by rw [upnm, hn3], upu t3, by simp only [up]; rw [if_pos hn3]⟩) hib (h.rep t2)
        have : (st.slots.map (updB p.nm (splice p.cells p.off l))).getD t2 junk = updB p.nm (splice p.cells p.off l) (st.slots.getD t2 junk) := by
          by_cases hlt : t2 < st.slots.length
          · simp [List.getD, hlt]
          · simp [List.getD, List.getElem?_eq_none (Nat.le_of_not_lt hlt), junk, updB]
        show RepV cx _ ((st.slots.map (updB p.nm (splice p.cells p.off l))).getD t2 junk) _
        rw [this]
        exact hbase
      · rcases hn' with ⟨t2, ht2, rfl⟩ | hn' | hn'
        · obtain ⟨t3, h3, rfl⟩ := List.mem_map.1 ht2
          rw [upnm]
          exact h.names _ (.inl ⟨t3, h3, rfl⟩)
        · exact h.names _ (.inr (.inl hn'))
        · exact h.names _ (.inr (.inr hn'))
      · exact ⟨rfl, rfl, rfl, by rw [hsame]; exact Nat.le_refl _, fun k hk => hheap k (fun e => hk (e ▸ hgb.1))⟩
    · simp at hst
  · simp at hst

end
end Go.VM
