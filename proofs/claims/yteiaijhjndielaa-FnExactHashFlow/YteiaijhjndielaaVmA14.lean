/- A part of the proof of FnExactHashFlow: VmA14. -/
import Derived.Test.YteiaijhjndielaaVmA13
namespace Go.VM
open Go.RowKit
section
variable {cx : Cx} {P : Program}

/-! ### Arrays of numbers, taken by an index -/
def leafInts {ty : Nat → Type} (kk : IntKind) : List (L ty) → Option (List Int)
  | [] => some []
  | some (.inl (.int k a)) :: r => if k = kk then (match leafInts kk r with
      | some xs => some (a :: xs)
      | none => none) else none
  | _ => none

theorem leafInts_rep {c : Ct cx.ty} {kk : IntKind} : ∀ (l : List (L cx.ty)) (us : List Value) (xs : List Int), RepLs cx c l us → leafInts kk l = some xs → us = xs.map (fun a => .int kk a)
  | [], us, xs, h, hx => by
    simp only [leafInts, Option.some.injEq] at hx
    subst hx
    exact List.eq_nil_of_length_eq_zero h.1
  | a :: r, us, xs, h, hx => by
    unfold leafInts at hx
    split at hx
    · rename_i heq; cases heq
    · rename_i k a' r' heq
      simp only [List.cons.injEq] at heq
      obtain ⟨rfl, rfl⟩ := heq
      split at hx
      · rename_i hk
        subst hk
        split at hx
        · rename_i ys hy
          simp only [Option.some.injEq] at hx
          subst hx
          match us, h with
          | [], h => simp [RepLs] at h
          | u :: us, h =>
            have e1 : u = .int k a' := h.2 0 _ u rfl rfl
            have e2 := leafInts_rep r us ys ⟨by have := h.1; simpa using this, fun j a b h1 h2 => h.2 (j + 1) a b (by simpa using h1) (by simpa using h2)⟩ hy
            rw [e1, e2]; rfl
        · simp at hx
      · simp at hx
    · simp at hx

def kindOf {ty : Nat → Type} : List (L ty) → Option IntKind
  | some (.inl (.int k _)) :: _ => some k
  | _ => none

def arrOf (P : Program) (t : TypeId) : Option (Nat × TypeId) :=
  match P.underlying t with
  | some (.array n e) => some (n, e)
  | _ => none

def evIndex {β : Type} (P : Program) (o : Oper) (slots : List (V cx.ty)) (t : TypeId) (x ix : Operand) (k : Eff cx.ty → Option β) : Option β :=
  match getV slots x, getV slots ix, arrOf P t with
  | .inl (.inr l), .inl (.inl (some (.inl (.int _ i)))), some (n, e) =>
    match kindOf l with
    | some kk => match leafInts kk l with
      | some xs => if n == l.length && (P.underlying e).isSome && !aggType P e && P.cellsOf e == 1 then
          bif decide (0 ≤ i) && decide (i < xs.length) then k (purR (vv (.int kk (xs.getD i.toNat 0))) []) else none
        else none
      | none => none
    | none => none
  | _, _, _ => evGen P o slots k

theorem evIndex_ok {β : Type} {o : Oper} {slots : List (V cx.ty)} {nm0 : Nat} {t : TypeId} {x ix : Operand} (ho : o.op = .index t x ix) {k : Eff cx.ty → Option β} {r : β}
    (h : evIndex P o slots t x ix k = some r) : ∃ ef, k ef = some r ∧ EffOK P cx o slots nm0 ef := by
  unfold evIndex at h
  split at h
  · rename_i l ki i n e hx hix ha
    split at h
    · rename_i kk hkk
      split at h
      · rename_i xs hxs
        split at h
        · rename_i hc
          simp only [Bool.and_eq_true, beq_iff_eq, Bool.not_eq_true'] at hc
          obtain ⟨⟨⟨hn, hu⟩, hag⟩, hsz⟩ := hc
          cases hb : (decide (0 ≤ i) && decide (i < xs.length)) with
          | false => rw [hb] at h; simp at h
          | true =>
            rw [hb] at h
            simp only [Bool.and_eq_true, decide_eq_true_eq] at hb
            refine ⟨_, h, effok_pur fun c ρ hw hop _ => ?_⟩
            have hr := hop x (by simp [ho, Op.operands])
            rw [hx] at hr
            obtain ⟨us, hus, hr⟩ := hr
            have hri := hop ix (by simp [ho, Op.operands])
            rw [hix] at hri
            have hri : ρ ix = .int ki i := hri
            have he := leafInts_rep l us xs hr hxs
            obtain ⟨d, hd⟩ := Option.isSome_iff_exists.1 hu
            unfold arrOf at ha
            split at ha
            · rename_i n' e' hund
              simp only [Option.some.injEq, Prod.mk.injEq] at ha
              obtain ⟨rfl, rfl⟩ := ha
              have hl : us.length = l.length := hr.1
              have hxl : xs.length = l.length := by rw [← hl, he, List.length_map]
              have hit : i.toNat < xs.length := by omega
              have hcell : us[i.toNat]? = some (.int kk (xs.getD i.toNat 0)) := by
                rw [he, List.getElem?_map, List.getElem?_eq_getElem hit]
                simp [List.getD, List.getElem?_eq_getElem hit]
              refine ⟨.int kk (xs.getD i.toNat 0), ?_, rfl⟩
              have hlt : 0 ≤ i ∧ i < (n' : Int) := ⟨hb.1, by omega⟩
              unfold execOp
              simp only [ho, Instr.index, hri, hus, asIntOf, Sem.run_bind, Sem.run_pure, Result.andThen_ok, run_underlying hund, if_pos hlt, run_sizeOf' hd, hsz, Nat.mul_one, part, run_isAgg hd, hag, Bool.false_eq_true, if_false, List.getElem?_toArray, hcell]
            · simp at ha
        · simp at h
      · simp at h
    · simp at h
  · exact evGen_ok h

/-- Arrays, built. -/
def evBuildR {β : Type} (P : Program) (slots : List (V cx.ty)) (t : TypeId) (parts : List (Nat × Operand)) (k : Eff cx.ty → Option β) : Option β :=
  match arrOf P t, P.info? t with
  | some (_, e), some i => match i.zero with
    | some z => if (P.underlying e).isSome then (match fillA (fun j => some (j * P.cellsOf e, P.cellsOf e)) (z.cells.toList.map lv) (parts.map fun (j, x) => (j, getV slots x)) with
      | some cells => k (purR (va cells) [])
      | none => none) else none
    | none => none
  | _, _ => evBuild P slots t parts k

theorem run_buildR {t e : TypeId} {n : Nat} (hfa : P.underlying t = some (.array n e)) {d : TypeDesc} (hd : P.underlying e = some d) {i : TypeInfo} {z : Value} (hi : P.info? t = some i) (hz : i.zero = some z) {parts : Array (Nat × Value)} {us' : Array Value}
    (hfill : Instr.fill (fun j => some (j * P.cellsOf e, P.cellsOf e)) z.cells parts.toList = some us') (w : World) : (Instr.build t parts).run P w = .ok (.agg us') w := by
  have hz' : (zeroValue t).run P w = .ok z w := by simp [zeroValue, typeInfo, hi, hz]
  unfold Instr.build
  rw [Sem.run_bind, hz', Result.andThen_ok, Sem.run_bind, run_underlying hfa, Result.andThen_ok]
  dsimp only
  rw [Sem.run_bind, run_sizeOf' hd, Result.andThen_ok, hfill]
  rfl

theorem evBuildR_ok {β : Type} {o : Oper} {slots : List (V cx.ty)} {nm0 : Nat} {t : TypeId} {parts : Array (Nat × Operand)} (ho : o.op = .build t parts) {k : Eff cx.ty → Option β} {r : β}
    (h : evBuildR P slots t parts.toList k = some r) : ∃ ef, k ef = some r ∧ EffOK P cx o slots nm0 ef := by
  unfold evBuildR at h
  split at h
  · rename_i n e i hfs hi
    split at h
    · rename_i z hz
      split at h
      · rename_i he
        split at h
        · rename_i cells hf
          obtain ⟨d, hd⟩ := Option.isSome_iff_exists.1 he
          unfold arrOf at hfs
          split at hfs
          · rename_i n' e' hund
            simp only [Option.some.injEq, Prod.mk.injEq] at hfs
            obtain ⟨rfl, rfl⟩ := hfs
            refine ⟨_, h, effok_pur fun c ρ hw hop _ => ?_⟩
            obtain ⟨us', h1, h2⟩ := fillA_rep (parts.toList.map fun p => (p.1, getV slots p.2)) (parts.toList.map fun p => (p.1, ρ p.2)) (z.cells.toList.map lv) z.cells cells (lv_rep _) (by simp) (fun j p q e1 e2 => by
              simp only [List.getElem?_map] at e1 e2
              cases hx : parts.toList[j]? with
              | none => simp [hx] at e1
              | some x =>
                simp only [hx, Option.map_some, Option.some.injEq] at e1 e2
                subst e1; subst e2
                refine ⟨rfl, hop x.2 ?_⟩
                simp only [ho, Op.operands, List.mem_toArray, List.mem_map]
                exact ⟨x, List.mem_of_getElem? hx, rfl⟩) hf
            refine ⟨.agg us', ?_, us'.toList, by simp, h2⟩
            have hbuild := run_buildR hund hd hi hz (parts := parts.map fun p => (p.1, ρ p.2)) (us' := us') (by simpa using h1) c.w
            unfold execOp
            simp only [ho, Sem.run_bind]
            rw [hbuild]
            rfl
          · simp at hfs
        · simp at h
      · simp at h
    · simp at h
  · exact evBuild_ok ho h

end
end Go.VM
