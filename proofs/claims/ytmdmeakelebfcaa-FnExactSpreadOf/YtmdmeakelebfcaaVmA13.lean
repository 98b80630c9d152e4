/- A part of the proof of FnExactSpreadOf: VmA13. -/
import Derived.Test.YtmdmeakelebfcaaVmA12
namespace Go.VM
open Go.RowKit
section
variable {cx : Cx} {P : Program}

/-! ### A slice written out whose elements are owned -/
def ownCells (P : Program) (cx : Cx) (slots : List (V cx.ty)) (t : TypeId) (len : Nat) (parts : List (Nat × Operand)) : Option (Nat × List (L cx.ty) × List Nat) :=
  match sliceElem P t with
  | some e => if elemOk P cx e && decide (len * cx.size e ≤ 1000000) && decide (len ≤ 1000000) then
      match P.info? e with
      | some i => match i.zero with
        | some z => match fillA (fun j => some (j * cx.size e, cx.size e)) (zeroL (if len * cx.size e = 0 then #[] else z.cells) (len * cx.size e)) (parts.map fun (j, x) => (j, getV slots x)) with
          | some cells => match intoLs (mksF P e len) cells with
            | some (cs, gs) => if nodupB gs then some (e, cs, gs) else none
            | none => none
          | none => none
        | none => none
      | none => none
    else none
  | none => none

def evBuildOwn {β : Type} (P : Program) (cx : Cx) (slots : List (V cx.ty)) (t : TypeId) (len : Nat) (parts : List (Nat × Operand)) (nm0 : Nat) (k : Eff cx.ty → Option β) : Option β :=
  match ownCells P cx slots t len parts with
  | some (e, cs, gs) => match decN cx e len cs with
    | some xs => k { v := vs { own := 1, nm := nm0, e := e, o := true, xs := xs }, dead := gs, frz := [], live := gs, read := [] }
    | none => none
  | none => none

theorem evBuildOwn_ok (ok : cx.Ok) {β : Type} {o : Oper} {slots : List (V cx.ty)} {nm0 : Nat} {t : TypeId} {len : Nat} {parts : Array (Nat × Operand)} (ho : o.op = .buildSlice t len parts) {k : Eff cx.ty → Option β} {r : β}
    (h : evBuildOwn P cx slots t len parts.toList nm0 k = some r) : ∃ ef, k ef = some r ∧ EffOK P cx o slots nm0 ef := by
  unfold evBuildOwn at h
  split at h
  · rename_i e cs gs hoc
    split at h
    · rename_i xs hxs
      unfold ownCells at hoc
      split at hoc
      · rename_i e' he
        split at hoc
        · rename_i hc
          simp only [Bool.and_eq_true, decide_eq_true_eq] at hc
          obtain ⟨⟨hel, hlen⟩, hlen2⟩ := hc
          obtain ⟨⟨d, hd⟩, hcs⟩ := elemOk_spec hel
          split at hoc
          · rename_i i hi
            split at hoc
            · rename_i z hz
              split at hoc
              · rename_i cells hcells
                split at hoc
                · rename_i cs' gs' hinto
                  split at hoc
                  · rename_i hgs
                    simp only [Option.some.injEq, Prod.mk.injEq] at hoc
                    obtain ⟨rfl, rfl, rfl⟩ := hoc
                    refine ⟨_, h, ⟨fun c ρ hw hop hlive _ hf => ?_⟩⟩
                    obtain ⟨us', h1, h2⟩ := fillA_rep (c := c) (parts.toList.map fun p => (p.1, getV slots p.2)) (parts.toList.map fun p => (p.1, ρ p.2)) (zeroL (if len * cx.size e' = 0 then #[] else z.cells) (len * cx.size e')) ((Array.range (len * cx.size e')).map ((if len * cx.size e' = 0 then #[] else z.cells)[· % (if len * cx.size e' = 0 then #[] else z.cells).size]!)) cells (lv_rep _) (by simp) (fun j p q e1 e2 => by
                      simp only [List.getElem?_map] at e1 e2
                      cases hx : parts.toList[j]? with
                      | none => simp [hx] at e1
                      | some x =>
                        simp only [hx, Option.map_some, Option.some.injEq] at e1 e2
                        subst e1; subst e2
                        refine ⟨rfl, hop x.2 ?_⟩
                        simp only [ho, Op.operands, List.mem_toArray, List.mem_map]
                        exact ⟨x, List.mem_of_getElem? hx, rfl⟩) hcells
                    obtain ⟨hwk, hcl, m, fpl, hfl, hown, tks, hg1, hg2, hg3⟩ := intoLs_rep hw _ _ _ _ us'.toList hinto h2 hlive
                    obtain ⟨hxl, hxe⟩ := decN_spec ok true len cs' xs hxs
                    rw [hwk] at hxe
                    have hflen := flat_len (cx.enc e' true) (cx.size e') (fun x => ok.len e' true x) xs
                    have hclen : cells.length = len * cx.size e' := by rw [← hcl, hxe, hflen, hxl]
                    have hsize : us'.size = len * cx.size e' := by
                      have := h2.1
                      simp at this
                      omega
                    have hrun : (execOp ρ o).run P c.w = .ok (.value (.slice (some ⟨c.w.heap.size, 0, none⟩) len len)) (c.w.alloc (.cells us' e')) := by
                      have hso : (sizeOf e').run P c.w = .ok (cx.size e') c.w := by rw [run_sizeOf' hd, hcs]
                      have hn24 : ¬ (2 ^ 24 < len * cx.size e') := by omega
                      have h1' : Instr.fill (fun j => some (j * cx.size e', cx.size e')) ((Array.range (len * cx.size e')).map ((if len * cx.size e' = 0 then #[] else z.cells)[· % (if len * cx.size e' = 0 then #[] else z.cells).size]!)) (parts.map fun p => (p.1, ρ p.2)).toList = some us' := by simpa using h1
                      have hz' : (zeroValue e').run P c.w = .ok z c.w := by simp [zeroValue, typeInfo, hi, hz]
                      have hbuild : (Instr.buildSlice t len (parts.map fun p => (p.1, ρ p.2))).run P c.w = .ok (.slice (some ⟨c.w.heap.size, 0, none⟩) len len) (c.w.alloc (.cells us' e')) := by
                        unfold Instr.buildSlice
                        rw [Sem.run_bind, run_underlying (sliceElem_eq he), Result.andThen_ok]
                        dsimp only
                        rw [Sem.run_bind, hso, Result.andThen_ok]
                        by_cases hz0 : len * cx.size e' = 0
                        · simp only [hz0, if_true] at h1' ⊢
                          simp at h1'
                          simp [h1', newRow]
                        · simp only [hz0, if_false] at h1' ⊢
                          simp at h1'
                          simp [hn24, hz', h1', newRow]
                      unfold execOp
                      simp only [ho, Sem.run_bind]
                      rw [hbuild]
                      rfl
                    unfold Runs
                    rw [hrun]
                    have hgn : gs'.Nodup := nodupB_spec gs' hgs
                    have hfnd : (List.flatten fpl).Nodup := by
                      rw [hg3]
                      exact flatMap_inj_nodup hw.nodup hw.names tks (by rw [hg1]; exact hgn) (fun tk ht => (hg2 tk ht).1)
                    have hfb : ∀ b ∈ List.flatten fpl, ∃ tk ∈ c.T, tk.nm ∈ gs' ∧ b ∈ blocks tk := fun b hb => by
                      rw [hg3] at hb
                      obtain ⟨tk, k1, k2⟩ := List.mem_flatMap.1 hb
                      exact ⟨tk, (hg2 tk k1).1, by rw [← hg1]; exact List.mem_map.2 ⟨tk, k1, rfl⟩, k2⟩
                    have hflt : ∀ b ∈ List.flatten fpl, b < c.w.heap.size := fun b hb => by
                      obtain ⟨tk, k1, _, k3⟩ := hfb b hb
                      exact (hw.bound tk k1 b k3).2
                    have hbel := below_alloc c.w (.cells us' e')
                    generalize hu' : Value.slice (some ⟨c.w.heap.size, 0, none⟩) len len = u'
                    have hvb : vb u' = [c.w.heap.size] := by rw [← hu']; rfl
                    refine ⟨_, good_into hw hf (fun tk' ht' hn' => ?_) (fun n hn' => ?_) (s' := { own := 1, nm := nm0, e := e', o := true, xs := xs }) (fp' := List.flatten fpl) ⟨rfl, rfl⟩ (fun b hb' => ?_) (fun b hb' => ?_) ?_ (fun b hb' _ => hbel.block b hb') hbel.size (kept_of hbel hw.size) (fun c' hcw => ?_) ⟨_, _, _, hu'.symm⟩⟩
                    · rw [← hg1] at hn'
                      obtain ⟨t2, k1, k2⟩ := List.mem_map.1 hn'
                      have := uniq_tok hw ht' (hg2 t2 k1).1 k2.symm
                      subst this
                      exact (hg2 _ k1).2
                    · rw [← hg1] at hn'
                      obtain ⟨t2, k1, k2⟩ := List.mem_map.1 hn'
                      exact ⟨t2, (hg2 t2 k1).1, k2⟩
                    · rcases List.mem_append.1 hb' with h3 | h3
                      · rw [hvb] at h3
                        simp only [List.mem_singleton] at h3
                        subst h3
                        exact .inr ⟨Nat.le_refl _, by simp⟩
                      · exact .inl (hfb b h3)
                    · rw [hvb] at hb'
                      simp only [List.mem_singleton] at hb'
                      subst hb'
                      exact .inr (Nat.le_refl _)
                    · rw [hvb, List.nodup_append]
                      refine ⟨by simp, hfnd, fun a ha b hb' he2 => ?_⟩
                      subst he2
                      simp only [List.mem_singleton] at ha
                      subst ha
                      exact Nat.lt_irrefl _ (hflt _ hb')
                    · unfold TokRep
                      simp only [if_true]
                      rw [hcw]
                      refine ⟨by rw [← hu']; rfl, m + 1, us'.toList, fpl, ?_, ?_, ?_, ?_, fun j l v f g1 g2 g3 => ?_⟩
                      · show World.ownsRow _ 0 e' (cx.size e') u' xs.length us'.toList
                        rw [hxl, ← hu']
                        refine ⟨by simp [hsize], .inr ⟨c.w.heap.size, len, us', rfl, Nat.zero_le _, heap_alloc_new c.w _, Nat.le_refl _, by simp [maxLen]; omega, hsize, ?_⟩⟩
                        rw [List.take_of_length_le]
                        simp [hsize]
                      · rw [← hu']; rfl
                      · rw [← hxe, hcl, h2.1]
                      · rw [hfl, h2.1]
                      · have g1 : (xs.flatMap (cx.enc e' true))[j]? = some l := g1
                        rw [← hxe] at g1
                        refine OwnL_mono cx _ _ _ _ (fun b hb' => hbel.block b (hflt b (List.mem_flatten.2 ⟨f, List.mem_of_getElem? g3, hb'⟩))) (hown j l v f g1 g2 g3)
                  · simp at hoc
                · simp at hoc
              · simp at hoc
            · simp at hoc
          · simp at hoc
        · simp at hoc
      · simp at hoc
    · simp at h
  · simp at h

/-- A slice written out: flat; owned, where all that goes in is owned; read alone otherwise. -/
def evBuildAll {β : Type} (P : Program) (cx : Cx) (slots : List (V cx.ty)) (t : TypeId) (len : Nat) (parts : List (Nat × Operand)) (nm0 : Nat) (k : Eff cx.ty → Option β) : Option β :=
  match sliceElem P t with
  | some e => if cx.flat e then evBuildSlice P cx slots t len parts nm0 k else
      if (ownCells P cx slots t len parts).isSome then evBuildOwn P cx slots t len parts nm0 k else evBuildRows P cx slots t len parts nm0 k
  | none => none

theorem evBuildAll_ok (ok : cx.Ok) (hZ : cx.POk P) {β : Type} {o : Oper} {slots : List (V cx.ty)} {nm0 : Nat} {t : TypeId} {len : Nat} {parts : Array (Nat × Operand)} (ho : o.op = .buildSlice t len parts) {k : Eff cx.ty → Option β} {r : β}
    (h : evBuildAll P cx slots t len parts.toList nm0 k = some r) : ∃ ef, k ef = some r ∧ EffOK P cx o slots nm0 ef := by
  unfold evBuildAll at h
  split at h
  · split at h
    · exact evBuildSlice_ok ok hZ ho h
    · split at h
      · exact evBuildOwn_ok ok ho h
      · exact evBuildRows_ok ok ho h
  · simp at h

/-- append: flat, or of owned things. -/
def evAppendAll {β : Type} (P : Program) (cx : Cx) (slots : List (V cx.ty)) (t : TypeId) (x y : Operand) (nm0 : Nat) (k : Eff cx.ty → Option β) : Option β :=
  match sliceElem P t with
  | some e => if cx.flat e then evAppend P cx slots t x y nm0 k else evAppendOwn P cx slots t x y nm0 k
  | none => none

theorem evAppendAll_ok (ok : cx.Ok) (hZ : cx.POk P) {β : Type} {o : Oper} {slots : List (V cx.ty)} {nm0 : Nat} {t : TypeId} {x y : Operand} (ho : o.op = .call { callee := .builtin .append, args := #[x, y], argTypes := #[t, t] }) {k : Eff cx.ty → Option β} {r : β}
    (h : evAppendAll P cx slots t x y nm0 k = some r) : ∃ ef, k ef = some r ∧ EffOK P cx o slots nm0 ef := by
  unfold evAppendAll at h
  split at h
  · split at h
    · exact evAppend_ok ok hZ ho h
    · exact evAppendOwn_ok ok ho h
  · simp at h

end
end Go.VM
