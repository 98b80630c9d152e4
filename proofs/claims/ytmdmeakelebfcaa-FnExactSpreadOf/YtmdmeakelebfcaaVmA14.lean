/- A part of the proof of FnExactSpreadOf: VmA14. -/
import Derived.Test.YtmdmeakelebfcaaVmA13
namespace Go.VM
open Go.RowKit
section
variable {cx : Cx} {P : Program}

/-! ### Arrays of numbers, taken by an index -/
def leafInts {ty : Nat → Type} (kk : IntKind) : List (L ty) → Option (List Int)
  | [] => some []
  | some (.inl (.int k a)) :: r => if k = kk then (match leafInts kk r with
      | some xs => some (a :: xs)
      | none => none) else none
  | _ => none

theorem leafInts_rep {c : Ct cx.ty} {kk : IntKind} : ∀ (l : List (L cx.ty)) (us : List Value) (xs : List Int), RepLs cx c l us → leafInts kk l = some xs → us = xs.map (fun a => .int kk a)
  | [], us, xs, h, hx => by
    simp only [leafInts, Option.some.injEq] at hx
    subst hx
    exact List.eq_nil_of_length_eq_zero h.1
  | a :: r, us, xs, h, hx => by
    unfold leafInts at hx
    split at hx
    · rename_i heq; cases heq
    · rename_i k a' r' heq
      simp only [List.cons.injEq] at heq
      obtain ⟨rfl, rfl⟩ := heq
      split at hx
      · rename_i hk
        subst hk
        split at hx
        · rename_i ys hy
          simp only [Option.some.injEq] at hx
          subst hx
          match us, h with
          | [], h => simp [RepLs] at h
          | u :: us, h =>
            have e1 : u = .int k a' := h.2 0 _ u rfl rfl
            have e2 := leafInts_rep r us ys ⟨by have := h.1; simpa using this, fun j a b h1 h2 => h.2 (j + 1) a b (by simpa using h1) (by simpa using h2)⟩ hy
            rw [e1, e2]; rfl
        · simp at hx
      · simp at hx
    · simp at hx

def kindOf {ty : Nat → Type} : List (L ty) → Option IntKind
  | some (.inl (.int k _)) :: _ => some k
  | _ => none

def arrOf (P : Program) (t : TypeId) : Option (Nat × TypeId) :=
  match P.underlying t with
  | some (.array n e) => some (n, e)
  | _ => none

def evIndex {β : Type} (P : Program) (o : Oper) (slots : List (V cx.ty)) (t : TypeId) (x ix : Operand) (k : Eff cx.ty → Option β) : Option β :=
  match getV slots x, getV slots ix, arrOf P t with
  | .inl (.inr l), .inl (.inl (some (.inl (.int _ i)))), some (n, e) =>
    match kindOf l with
    | some kk => match leafInts kk l with
      | some xs => if n == l.length && (P.underlying e).isSome && !aggType P e && P.cellsOf e == 1 then
          bif decide (0 ≤ i) && decide (i < xs.length) then k (purR (vv (.int kk (xs.getD i.toNat 0))) []) else none
        else none
      | none => none
    | none => none
  | _, _, _ => evGen P o slots k

theorem evIndex_ok {β : Type} {o : Oper} {slots : List (V cx.ty)} {nm0 : Nat} {t : TypeId} {x ix : Operand} (ho : o.op = .index t x ix) {k : Eff cx.ty → Option β} {r : β}
    (h : evIndex P o slots t x ix k = some r) : ∃ ef, k ef = some r ∧ EffOK P cx o slots nm0 ef := by
  unfold evIndex at h
  split at h
  · rename_i l ki i n e hx hix ha
    split at h
    · rename_i kk hkk
      split at h
      · rename_i xs hxs
        split at h
        · rename_i hc
          simp only [Bool.and_eq_true, beq_iff_eq, Bool.not_eq_true'] at hc
          obtain ⟨⟨⟨hn, hu⟩, hag⟩, hsz⟩ := hc
          cases hb : (decide (0 ≤ i) && decide (i < xs.length)) with
          | false => rw [hb] at h; simp at h
          | true =>
            rw [hb] at h
            simp only [Bool.and_eq_true, decide_eq_true_eq] at hb
            refine ⟨_, h, effok_pur fun c ρ hw hop _ => ?_⟩
            have hr := hop x (by simp [ho, Op.operands])
            rw [hx] at hr
            obtain ⟨us, hus, hr⟩ := hr
            have hri := hop ix (by simp [ho, Op.operands])
            rw [hix] at hri
            have hri : ρ ix = .int ki i := hri
            have he := leafInts_rep l us xs hr hxs
            obtain ⟨d, hd⟩ := Option.isSome_iff_exists.1 hu
            unfold arrOf at ha
            split at ha
            · rename_i n' e' hund
              simp only [Option.some.injEq, Prod.mk.injEq] at ha
              obtain ⟨rfl, rfl⟩ := ha
              have hl : us.length = l.length := hr.1
              have hxl : xs.length = l.length := by rw [← hl, he, List.length_map]
              have hit : i.toNat < xs.length := by omega
              have hcell : us[i.toNat]? = some (.int kk (xs.getD i.toNat 0)) := by
                rw [he, List.getElem?_map, List.getElem?_eq_getElem hit]
                simp [List.getD, List.getElem?_eq_getElem hit]
              refine ⟨.int kk (xs.getD i.toNat 0), ?_, rfl⟩
              have hlt : 0 ≤ i ∧ i < (n' : Int) := ⟨hb.1, by omega⟩
              unfold execOp
              simp only [ho, Instr.index, hri, hus, asIntOf, Sem.run_bind, Sem.run_pure, Result.andThen_ok, run_underlying hund, if_pos hlt, run_sizeOf' hd, hsz, Nat.mul_one, part, run_isAgg hd, hag, Bool.false_eq_true, if_false, List.getElem?_toArray, hcell]
            · simp at ha
        · simp at h
      · simp at h
    · simp at h
  · exact evGen_ok h

/-- Arrays, built. -/
def evBuildR {β : Type} (P : Program) (slots : List (V cx.ty)) (t : TypeId) (parts : List (Nat × Operand)) (k : Eff cx.ty → Option β) : Option β :=
  match arrOf P t, P.info? t with
  | some (_, e), some i => match i.zero with
    | some z => if (P.underlying e).isSome then (match fillA (fun j => some (j * P.cellsOf e, P.cellsOf e)) (z.cells.toList.map lv) (parts.map fun (j, x) => (j, getV slots x)) with
      | some cells => k (purR (va cells) [])
      | none => none) else none
    | none => none
  | _, _ => evBuild P slots t parts k

theorem run_buildR {t e : TypeId} {n : Nat} (hfa : P.underlying t = some (.array n e)) {d : TypeDesc} (hd : P.underlying e = some d) {i : TypeInfo} {z : Value} (hi : P.info? t = some i) (hz : i.zero = some z) {parts : Array (Nat × Value)} {us' : Array Value}
    (hfill : Instr.fill (fun j => some (j * P.cellsOf e, P.cellsOf e)) z.cells parts.toList = some us') (w : World) : (Instr.build t parts).run P w = .ok (.agg us') w := by
  have hz' : (zeroValue t).run P w = .ok z w := by simp [zeroValue, typeInfo, hi, hz]
  unfold Instr.build
  rw [Sem.run_bind, hz', Result.andThen_ok, Sem.run_bind, run_underlying hfa, Result.andThen_ok]
  dsimp only
  rw [Sem.run_bind, run_sizeOf' hd, Result.andThen_ok, hfill]
  rfl

theorem evBuildR_ok {β : Type} {o : Oper} {slots : List (V cx.ty)} {nm0 : Nat} {t : TypeId} {parts : Array (Nat × Operand)} (ho : o.op = .build t parts) {k : Eff cx.ty → Option β} {r : β}
    (h : evBuildR P slots t parts.toList k = some r) : ∃ ef, k ef = some r ∧ EffOK P cx o slots nm0 ef := by
  unfold evBuildR at h
  split at h
  · rename_i n e i hfs hi
    split at h
    · rename_i z hz
      split at h
      · rename_i he
        split at h
        · rename_i cells hf
          obtain ⟨d, hd⟩ := Option.isSome_iff_exists.1 he
          unfold arrOf at hfs
          split at hfs
          · rename_i n' e' hund
            simp only [Option.some.injEq, Prod.mk.injEq] at hfs
            obtain ⟨rfl, rfl⟩ := hfs
            refine ⟨_, h, effok_pur fun c ρ hw hop _ => ?_⟩
            obtain ⟨us', h1, h2⟩ := fillA_rep (parts.toList.map fun p => (p.1, getV slots p.2)) (parts.toList.map fun p => (p.1, ρ p.2)) (z.cells.toList.map lv) z.cells cells (lv_rep _) (by simp) (fun j p q e1 e2 => by
              simp only [List.getElem?_map] at e1 e2
              cases hx : parts.toList[j]? with
              | none => simp [hx] at e1
              | some x =>
                simp only [hx, Option.map_some, Option.some.injEq] at e1 e2
                subst e1; subst e2
                refine ⟨rfl, hop x.2 ?_⟩
                simp only [ho, Op.operands, List.mem_toArray, List.mem_map]
                exact ⟨x, List.mem_of_getElem? hx, rfl⟩) hf
            refine ⟨.agg us', ?_, us'.toList, by simp, h2⟩
            have hbuild := run_buildR hund hd hi hz (parts := parts.map fun p => (p.1, ρ p.2)) (us' := us') (by simpa using h1) c.w
            unfold execOp
            simp only [ho, Sem.run_bind]
            rw [hbuild]
            rfl
          · simp at hfs
        · simp at h
      · simp at h
    · simp at h
  · exact evBuild_ok ho h

/-- A pointer that is not nil. -/
def evNil {β : Type} (P : Program) (o : Oper) (slots : List (V cx.ty)) (x : Operand) (k : Eff cx.ty → Option β) : Option β :=
  match getV slots x with
  | .inr (.inr p) => if p.kind == 0 && p.i == 0 then k (purR (.inr (.inr p)) []) else none
  | _ => evGen P o slots k

theorem evNil_ok {β : Type} {o : Oper} {slots : List (V cx.ty)} {nm0 : Nat} {x : Operand} (ho : o.op = .nilCheck x) {k : Eff cx.ty → Option β} {r : β}
    (h : evNil P o slots x k = some r) : ∃ ef, k ef = some r ∧ EffOK P cx o slots nm0 ef := by
  unfold evNil at h
  split at h
  · rename_i p hx
    split at h
    · rename_i hk
      simp only [Bool.and_eq_true, beq_iff_eq] at hk
      obtain ⟨hk, hi0⟩ := hk
      refine ⟨_, h, effok_pur fun c ρ hw hop _ => ?_⟩
      have hr := hop x (by simp [ho, Op.operands])
      rw [hx] at hr
      refine ⟨ρ x, ?_, hr⟩
      have hr : RepP cx c p (ρ x) := hr
      unfold RepP at hr
      simp only [hk, hi0] at hr
      obtain ⟨tk, _, _, _, g, _, hu⟩ := hr
      have hu : ρ x = .pointer (some ⟨g, p.off, none⟩) := hu
      unfold execOp
      simp [ho, hu]
    · simp at h
  · exact evGen_ok h

/-! ### Structs of numbers, held against one another -/
def okFs (P : Program) (ok : TypeId → Bool) : Nat → List Field → Bool
  | _, [] => true
  | off, f :: r => f.name != "_" && f.offset == off && ok f.type && okFs P ok (off + P.cellsOf f.type) r
def cellsFs (P : Program) : List Field → Nat
  | [] => 0
  | f :: r => P.cellsOf f.type + cellsFs P r
/-- Numbers, or structs of such. -/
def okT (P : Program) : Nat → TypeId → Bool
  | 0, _ => false
  | n + 1, t => match P.underlying t with
    | some (.int _) => !aggType P t && P.cellsOf t == 1
    | some (.struct fs) => aggType P t && !P.stoodInHeld t && okFs P (okT P n) 0 fs.toList && cellsFs P fs.toList == P.cellsOf t
    | _ => false
def eqAll : List Int → List Int → Bool
  | a :: xs, b :: ys => a == b && eqAll xs ys
  | _, _ => true
def eqAcc {α : Type} : List Int → List Int → Bool → (Bool → Option α) → Option α
  | a :: xs, b :: ys, acc, k => eqAcc xs ys (acc && a == b) k
  | [], [], acc, k => k acc
  | _, _, _, _ => none
theorem eqAcc_eq {α : Type} : ∀ (xs ys : List Int) (acc : Bool) (k : Bool → Option α) {r : α}, eqAcc xs ys acc k = some r → k (acc && eqAll xs ys) = some r ∧ xs.length = ys.length
  | [], [], acc, k, r, h => by simpa [eqAcc, eqAll] using h
  | a :: xs, b :: ys, acc, k, r, h => by
    obtain ⟨h1, h2⟩ := eqAcc_eq xs ys _ k (r := r) (by simpa [eqAcc] using h)
    refine ⟨by rw [eqAll, ← Bool.and_assoc]; exact h1, by simp [h2]⟩
  | [], _ :: _, _, _, _, h => by simp [eqAcc] at h
  | _ :: _, [], _, _, _, h => by simp [eqAcc] at h

theorem eqAll_append : ∀ (a a' b b' : List Int), a.length = a'.length → eqAll (a ++ b) (a' ++ b') = (eqAll a a' && eqAll b b')
  | [], [], b, b', _ => by simp [eqAll]
  | x :: a, y :: a', b, b', h => by
    simp only [List.cons_append, eqAll]
    rw [eqAll_append a a' b b' (by simpa using h), Bool.and_assoc]
  | [], _ :: _, _, _, h => by simp at h
  | _ :: _, [], _, _, h => by simp at h

def intsV (P : Program) (kk : IntKind) (t : TypeId) (X : List Int) : Value := if aggType P t then .agg (X.map (fun a => Value.int kk a)).toArray else .int kk (X.headD 0)

theorem run_part_ints {kk : IntKind} (w : World) {n : Nat} {t : TypeId} (h : okT P n t = true) {X : List Int} {off : Nat} (hl : off + P.cellsOf t ≤ X.length) :
    (part t (X.map (fun a => Value.int kk a)).toArray off).run P w = .ok (intsV P kk t ((X.drop off).take (P.cellsOf t))) w := by
  cases n with
  | zero => simp [okT] at h
  | succ n =>
    unfold okT at h
    split at h
    · rename_i k hu
      simp only [Bool.and_eq_true, Bool.not_eq_true', beq_iff_eq] at h
      unfold part intsV
      have hlt : off < X.length := by omega
      simp only [Sem.run_bind, run_isAgg hu, h.1, Result.andThen_ok, Bool.false_eq_true, if_false, List.getElem?_toArray, List.getElem?_map, List.getElem?_eq_getElem hlt, Option.map_some, Sem.run_pure, h.2]
      rw [List.drop_eq_getElem_cons hlt]
      rfl
    · rename_i fs hu
      simp only [Bool.and_eq_true, Bool.not_eq_true', beq_iff_eq] at h
      unfold part intsV
      simp only [Sem.run_bind, run_isAgg hu, h.1.1.1, Result.andThen_ok, if_true, run_sizeOf' hu, Sem.run_pure, List.extract_toArray, List.extract_eq_take_drop, Nat.add_sub_cancel_left, List.map_take, List.map_drop]
    · simp at h

theorem run_eqFs {kk : IntKind} (w : World) (d n : Nat) (IH : ∀ t, okT P n t = true → ∀ X Y : List Int, X.length = P.cellsOf t → Y.length = P.cellsOf t → (Op.equalIn d t (intsV P kk t X) (intsV P kk t Y)).run P w = .ok (eqAll X Y) w) :
    ∀ (fs : List Field) (off : Nat) (X Y : List Int), okFs P (okT P n) off fs = true → X.length = Y.length → off + cellsFs P fs = X.length →
      (Op.eqFields d (X.map (fun a => Value.int kk a)).toArray (Y.map (fun a => Value.int kk a)).toArray fs).run P w = .ok (eqAll (X.drop off) (Y.drop off)) w
  | [], off, X, Y, _, hxy, hl => by
    simp only [cellsFs, Nat.add_zero] at hl
    rw [List.drop_eq_nil_of_le (by omega), List.drop_eq_nil_of_le (by omega)]
    simp [Op.eqFields, eqAll]
  | f :: fs, off, X, Y, hf, hxy, hl => by
    simp only [okFs, Bool.and_eq_true, bne_iff_ne, ne_eq, beq_iff_eq] at hf
    obtain ⟨⟨⟨hn, ho⟩, hk⟩, hf⟩ := hf
    simp only [cellsFs] at hl
    have p1 := run_part_ints (kk := kk) w hk (X := X) (off := off) (by omega)
    have p2 := run_part_ints (kk := kk) w hk (X := Y) (off := off) (by omega)
    have e := IH f.type hk ((X.drop off).take (P.cellsOf f.type)) ((Y.drop off).take (P.cellsOf f.type)) (by simp; omega) (by simp; omega)
    have ih := run_eqFs w d n IH fs (off + P.cellsOf f.type) X Y hf hxy (by omega)
    have sx : X.drop off = (X.drop off).take (P.cellsOf f.type) ++ X.drop (off + P.cellsOf f.type) := by rw [← List.drop_drop, List.take_append_drop]
    have sy : Y.drop off = (Y.drop off).take (P.cellsOf f.type) ++ Y.drop (off + P.cellsOf f.type) := by rw [← List.drop_drop, List.take_append_drop]
    have ea : eqAll (X.drop off) (Y.drop off) = (eqAll ((X.drop off).take (P.cellsOf f.type)) ((Y.drop off).take (P.cellsOf f.type)) && eqAll (X.drop (off + P.cellsOf f.type)) (Y.drop (off + P.cellsOf f.type))) := by
      conv => lhs; rw [sx, sy]
      exact eqAll_append _ _ _ _ (by simp; omega)
    simp only [Op.eqFields, hn, ne_eq, not_false_eq_true, if_true, Sem.run_bind, ho, p1, p2, Result.andThen_ok, e]
    rw [ea]
    cases hb : eqAll ((X.drop off).take (P.cellsOf f.type)) ((Y.drop off).take (P.cellsOf f.type)) with
    | true => simpa using ih
    | false => simp

theorem run_equalT {kk : IntKind} (w : World) (d : Nat) : ∀ (n : Nat) (t : TypeId), okT P n t = true → ∀ X Y : List Int, X.length = P.cellsOf t → Y.length = P.cellsOf t → (Op.equalIn (d + n) t (intsV P kk t X) (intsV P kk t Y)).run P w = .ok (eqAll X Y) w
  | 0, _, h, _, _, _, _ => by simp [okT] at h
  | n + 1, t, h, X, Y, hX, hY => by
    unfold okT at h
    split at h
    · rename_i k hu
      simp only [Bool.and_eq_true, Bool.not_eq_true', beq_iff_eq] at h
      unfold intsV
      simp only [h.1, Bool.false_eq_true, if_false]
      match X, Y, hX, hY with
      | [a], [b], _, _ =>
        show (Op.equalIn ((d + n) + 1) t (.int kk a) (.int kk b)).run P w = _
        rw [run_equalIn_int w (d + n) t kk k a b hu]
        simp [eqAll]
      | [], _, hX, _ => rw [h.2] at hX; simp at hX
      | _ :: _ :: _, _, hX, _ => rw [h.2] at hX; simp at hX
      | [_], [], _, hY => rw [h.2] at hY; simp at hY
      | [_], _ :: _ :: _, _, hY => rw [h.2] at hY; simp at hY
    · rename_i fs hu
      simp only [Bool.and_eq_true, Bool.not_eq_true', beq_iff_eq] at h
      obtain ⟨⟨⟨hag, hst⟩, hfo⟩, hc⟩ := h
      have hfs : P.fieldsOf t = fs := by simp [Program.fieldsOf, hu]
      unfold intsV
      simp only [hag, if_true]
      show (Op.equalIn ((d + n) + 1) t _ _).run P w = _
      rw [run_equalIn_agg (P := P) w (d + n) t _ _ (by rw [hfs]; exact hu) hst, hfs]
      exact run_eqFs w (d + n) n (fun t ht X Y hX hY => run_equalT w d n t ht X Y hX hY) fs.toList 0 X Y hfo (hX.trans hY.symm) (by rw [hc, hX]; omega)
    · simp at h

def evEqS {β : Type} (P : Program) (o : Oper) (slots : List (V cx.ty)) (op : BinOp) (t : TypeId) (x y : Operand) (k : Eff cx.ty → Option β) : Option β :=
  match op, getV slots x, getV slots y with
  | .eql, .inl (.inr (a :: l)), .inl (.inr (b :: m)) =>
    match kindOf (a :: l) with
    | some kk => match leafInts kk (a :: l), leafInts kk (b :: m) with
      | some (z :: zs), some (y :: ys) => if okT P 8 t && aggType P t && zs.length + 1 == P.cellsOf t && !P.eqGuardType P.depth t then
          eqAcc zs ys (z == y) fun r => k (purR (vv (.bool r)) [])
        else none
      | _, _ => none
    | none => none
  | _, _, _ => evGen P o slots k

theorem evEqS_ok {β : Type} {o : Oper} {slots : List (V cx.ty)} {nm0 : Nat} {op : BinOp} {t yt : TypeId} {x y : Operand} (ho : o.op = .binOp op t x y yt) {k : Eff cx.ty → Option β} {r : β}
    (h : evEqS P o slots op t x y k = some r) : ∃ ef, k ef = some r ∧ EffOK P cx o slots nm0 ef := by
  unfold evEqS at h
  split at h
  · rename_i a l b m hx hy
    split at h
    · rename_i kk hkk
      split at h
      · rename_i z zs y' ys hz hy'
        split at h
        · rename_i hc
          simp only [Bool.and_eq_true, beq_iff_eq, Bool.not_eq_true'] at hc
          obtain ⟨⟨⟨hok, hag⟩, hzl⟩, hgt⟩ := hc
          obtain ⟨h, hlen⟩ := eqAcc_eq zs ys _ _ h
          refine ⟨_, h, effok_pur fun c ρ hw hop _ => ?_⟩
          have h1 := hop x (by simp [ho, Op.operands]); rw [hx] at h1
          have h2 := hop y (by simp [ho, Op.operands]); rw [hy] at h2
          obtain ⟨us, hus, hru⟩ := h1
          obtain ⟨vs, hvs, hrv⟩ := h2
          have e1 := leafInts_rep _ us _ hru hz
          have e2 := leafInts_rep _ vs _ hrv hy'
          refine ⟨.bool (z == y' && eqAll zs ys), ?_, rfl⟩
          have hq := run_equalT (P := P) (kk := kk) c.w 9992 8 t hok (z :: zs) (y' :: ys) (by simpa using hzl) (by simpa [← hlen] using hzl)
          unfold intsV at hq
          simp only [hag, if_true, ← e1, ← e2] at hq
          have hg := run_eqGuard_agg (P := P) c.w .eql t x y us.toArray vs.toArray hgt
          unfold execOp
          simp only [ho, hus, hvs, Sem.run_bind, hg, Result.andThen_ok, run_eql_struct]
          rw [show (10000 : Nat) = 9992 + 8 from rfl, hq]
          rfl
        · simp at h
      · simp at h
    · simp at h
  · exact evGen_ok h

end
end Go.VM
