/- A part of the proof of FnExactUpdateFault: VmA9, VmA10, VmA11, VmA12, VmA13, VmA14, VmA15, VmA16. -/
import Derived.Test.YtnmnomckcjihoaaGreatVmA4
set_option linter.unusedVariables false
namespace Go.VM
open Go.RowKit
section
variable {cx : Cx} {P : Program}

/-! ### A slice written out whose elements are rows: the rows are read alone from there on -/
theorem Pres.trans {a b c : Ct cx.ty} (h : Pres cx a b) (k : Pres cx b c) : Pres cx a c := by
  refine ⟨fun x hx => ⟨(k.rd x (h.rd x hx).1).1, (k.rd x (h.rd x hx).1).2.trans (h.rd x hx).2⟩, fun n hn => k.dead n (h.dead n hn), fun n hn => k.frz n (h.frz n hn), fun tk ht hD hF => ?_, fun tk ht l hl => k.box tk (h.box tk ht l hl) l hl, fun tk ht s hs hD hF => ?_⟩
  · exact k.tok tk (h.tok tk ht (fun hx => hD (k.dead _ hx)) (fun hx => hF (k.frz _ hx))) hD hF
  · by_cases hb : tk.nm ∈ b.F
    · obtain ⟨n, hn⟩ := h.froze tk ht s hs (fun hx => hD (k.dead _ hx)) hb
      exact ⟨n, RepL.pres cx k hn⟩
    · exact k.froze tk (h.tok tk ht (fun hx => hD (k.dead _ hx)) hb) s hs hD hF

theorem RepL_up {w : World} {S : Nat → Prop} (d : Nat) : ∀ {n : Nat} {l : L cx.ty} {u : Value}, RepL cx w S n l u → RepL cx w S (n + d) l u := by
  induction d with
  | zero => intro n l u h; exact h
  | succ d ih => intro n l u h; exact RepL_succ cx _ _ _ (ih h)

def mksF (P : Program) (e len : Nat) : List (Option Nat) := List.flatten (List.replicate len ((leafTypes P 8 e).map (sliceElem P)))

def evBuildRows {β : Type} (P : Program) (cx : Cx) (slots : List (V cx.ty)) (t : TypeId) (len : Nat) (parts : List (Nat × Operand)) (nm0 : Nat) (k : Eff cx.ty → Option β) : Option β := none
theorem evBuildRows_ok (ok : cx.Ok) {β : Type} {o : Oper} {slots : List (V cx.ty)} {nm0 : Nat} {t : TypeId} {len : Nat} {parts : Array (Nat × Operand)} (ho : o.op = .buildSlice t len parts) {k : Eff cx.ty → Option β} {r : β}
    (h : evBuildRows P cx slots t len parts.toList nm0 k = some r) : ∃ ef, k ef = some r ∧ EffOK P cx o slots nm0 ef := by
  unfold evBuildRows at h
  cases h
end
end Go.VM

namespace Go.VM
open Go.RowKit
section
variable {cx : Cx} {P : Program}

/-! ### Bytes as a string -/
def byteOf : Value → Int
  | .int _ n => n
  | _ => 0

def strV (vs : List Value) : ByteArray := (vs.map byteOf).foldl (fun r n => r.push (UInt8.ofNat n.toNat)) ByteArray.empty

def isU8 (P : Program) (e : TypeId) : Bool := match P.underlying e with
  | some (.int .u8) => true
  | _ => false

def isStr (P : Program) (t : TypeId) : Bool := match P.underlying t with
  | some .string => true
  | _ => false

theorem isU8_eq {e : TypeId} (h : isU8 P e = true) : P.underlying e = some (.int .u8) := by
  unfold isU8 at h
  split at h
  · assumption
  · simp at h

theorem isStr_eq {e : TypeId} (h : isStr P e = true) : P.underlying e = some .string := by
  unfold isStr at h
  split at h
  · assumption
  · simp at h

def evConv {β : Type} (P : Program) (cx : Cx) (o : Oper) (slots : List (V cx.ty)) (src dst : TypeId) (x : Operand) (k : Eff cx.ty → Option β) : Option β :=
  match getV slots x, sliceElem P src with
  | .inl (.inl (some (.inr s))), some e => if isU8 P e && isStr P dst && s.e == e && cx.dom e && cx.flat e then k (purR (vv (.string (strV (flatVals cx s.e s.xs)))) (rdn s)) else none
  | _, _ => evGen P o slots k

theorem evConv_ok (ok : cx.Ok) (hZ : cx.POk P) {β : Type} {o : Oper} {slots : List (V cx.ty)} {nm0 : Nat} {src dst : TypeId} {x : Operand} (ho : o.op = .convert src dst x) {k : Eff cx.ty → Option β} {r : β}
    (h : evConv P cx o slots src dst x k = some r) : ∃ ef, k ef = some r ∧ EffOK P cx o slots nm0 ef := by
  unfold evConv at h
  split at h
  · rename_i s e hx he
    split at h
    · rename_i hc
      simp only [Bool.and_eq_true, beq_iff_eq] at hc
      obtain ⟨⟨⟨⟨hu, hst⟩, rfl⟩, hdom⟩, hflat⟩ := hc
      have hu := isU8_eq hu
      have hst := isStr_eq hst
      refine ⟨_, h, effok_pur fun c ρ hw hop hrd => ?_⟩
      have hr := hop x (by simp [ho, Op.operands])
      rw [hx] at hr
      have hsz : cx.size s.e = 1 := by
        obtain ⟨n, hn⟩ := hZ.u8 s.e hdom hu true (cx.dflt s.e)
        rw [← ok.len s.e true (cx.dflt s.e), hn]
        rfl
      have hr : RepLS cx c (some (.inr s)) (ρ x) := hr
      obtain ⟨a, cap, hu2, hcells⟩ := rep_cells ok hw hflat (by omega) hr hrd
      have hmap : (((flatVals cx s.e s.xs).map byteOf).map (Value.int .u8)) = flatVals cx s.e s.xs := by
        rw [List.map_map]
        have hall : ∀ v ∈ flatVals cx s.e s.xs, (Value.int .u8 ∘ byteOf) v = v := by
          intro v hv
          unfold flatVals at hv
          obtain ⟨l, hl, hlv⟩ := List.mem_filterMap.1 hv
          obtain ⟨y, hy, hly⟩ := List.mem_flatMap.1 hl
          obtain ⟨n, hn⟩ := hZ.u8 s.e hdom hu true y
          rw [hn] at hly
          simp only [List.mem_singleton] at hly
          subst hly
          simp only [lv, leafVal, Option.some.injEq] at hlv
          subst hlv
          rfl
        exact (List.map_congr_left hall).trans (List.map_id _)
      refine ⟨.string (strV (flatVals cx s.e s.xs)), ?_, rfl⟩
      have hlen := flatVals_len ok hflat s.xs
      have hb : (Conv.bytesToString (.slice a s.xs.length cap)).run P c.w = .ok (.string (strV (flatVals cx s.e s.xs))) c.w := by
        cases a with
        | none =>
          rcases hcells with h0 | ⟨ad, had, _⟩
          · have : flatVals cx s.e s.xs = [] := List.eq_nil_of_length_eq_zero (by rw [hlen, h0]; simp)
            rw [this]
            simp [Conv.bytesToString, strV]
          · cases had
        | some ad =>
          have hload : (loadCells ad s.xs.length).run P c.w = .ok (((flatVals cx s.e s.xs).map byteOf).map (Value.int .u8)).toArray c.w := by
            rw [hmap]
            have := run_loadCells_list (P := P) c.w ad (flatVals cx s.e s.xs) (fun j v hj => by
              rcases hcells with h0 | ⟨ad2, had, hc2⟩
              · have : flatVals cx s.e s.xs = [] := List.eq_nil_of_length_eq_zero (by rw [hlen, h0]; simp)
                rw [this] at hj
                simp at hj
              · simp only [Option.some.injEq] at had
                subst had
                exact hc2 j v hj)
            rw [hlen, hsz, Nat.mul_one] at this
            exact this
          exact run_bytesToString c.w ad _ cap _ hload
      unfold execOp
      simp only [ho, Sem.run_bind]
      rw [hu2, run_convert_bytes_string c.w src dst s.e a _ cap (sliceElem_eq he) hu hst, hb]
      rfl
    · simp at h
  · exact evGen_ok h

end
end Go.VM

namespace Go.VM
open Go.RowKit
section
variable {cx : Cx} {P : Program}

/-! ### Rows that own rows: written out -/
theorem OwnL_succ {w : World} : ∀ (n : Nat) (l : L cx.ty) (u : Value) (fp : List Nat), OwnL cx w n l u fp → OwnL cx w (n + 1) l u fp
  | _, none, _, _, h => by simp [OwnL] at h
  | n, some (.inl v), u, fp, h => by
    cases n <;> simpa [OwnL] using h
  | 0, some (.inr _), _, _, h => by simp [OwnL] at h
  | n + 1, some (.inr s), u, fp, h => by
    obtain ⟨us, fpl, h1, h2, h3, h4, h5⟩ := h
    exact ⟨us, fpl, h1, h2, h3, h4, fun j l c f a b d => OwnL_succ n l c f (h5 j l c f a b d)⟩

theorem OwnL_up {w : World} (d : Nat) : ∀ {n : Nat} {l : L cx.ty} {u : Value} {fp : List Nat}, OwnL cx w n l u fp → OwnL cx w (n + d) l u fp := by
  induction d with
  | zero => intro n l u fp h; exact h
  | succ d ih => intro n l u fp h; exact OwnL_succ _ _ _ _ (ih h)

/-- A piece that goes into another thing, and its name. -/
def intoL {ty : Nat → Type} (mk : Option Nat) (l : L ty) : Option (L ty × List Nat) :=
  match l with
  | some (.inl v) => match v, mk with
    | .slice none 0 0, some e => some (ls { own := 2, nm := 0, e := e, o := true, xs := [] }, [])
    | v, _ => some (lv v, [])
  | some (.inr s) => if s.own == 1 && s.o then some (ls { own := 2, nm := 0, e := s.e, o := true, xs := s.xs }, [s.nm]) else none
  | none => none

def intoLs {ty : Nat → Type} : List (Option Nat) → List (L ty) → Option (List (L ty) × List Nat)
  | _, [] => some ([], [])
  | mks, l :: r => match intoL (mks.headD none) l, intoLs mks.tail r with
    | some (a, n), some (as, ns) => some (a :: as, n ++ ns)
    | _, _ => none

def GivesO (c : Ct cx.ty) (ns : List Nat) (fp : List Nat) : Prop := ∃ tks : List (Tk cx.ty), tks.map (·.nm) = ns ∧ (∀ tk ∈ tks, tk ∈ c.T ∧ ∃ s, tk.c = .inl s) ∧ fp = tks.flatMap blocks

theorem GivesO.nil (c : Ct cx.ty) : GivesO c [] [] := ⟨[], rfl, by simp, rfl⟩
theorem GivesO.app {c : Ct cx.ty} {a b f g : List Nat} (h1 : GivesO c a f) (h2 : GivesO c b g) : GivesO c (a ++ b) (f ++ g) := by
  obtain ⟨t1, p1, q1, r1⟩ := h1
  obtain ⟨t2, p2, q2, r2⟩ := h2
  exact ⟨t1 ++ t2, by simp [p1, p2], fun tk ht => (List.mem_append.1 ht).elim (q1 tk) (q2 tk), by rw [List.flatMap_append, r1, r2]⟩

end
end Go.VM

namespace Go.VM
open Go.RowKit
section
variable {cx : Cx} {P : Program}

/-- append of a thing that is owned to another one: both go into what comes of it. -/
def evAppendOwn {β : Type} (P : Program) (cx : Cx) (slots : List (V cx.ty)) (t : TypeId) (x y : Operand) (nm0 : Nat) (k : Eff cx.ty → Option β) : Option β := none
theorem evAppendOwn_ok (ok : cx.Ok) {β : Type} {o : Oper} {slots : List (V cx.ty)} {nm0 : Nat} {t : TypeId} {x y : Operand} (ho : o.op = .call { callee := .builtin .append, args := #[x, y], argTypes := #[t, t] }) {k : Eff cx.ty → Option β} {r : β}
    (h : evAppendOwn P cx slots t x y nm0 k = some r) : ∃ ef, k ef = some r ∧ EffOK P cx o slots nm0 ef := by
  unfold evAppendOwn at h
  cases h
end
end Go.VM

namespace Go.VM
open Go.RowKit
section
variable {cx : Cx} {P : Program}

/-! ### append of elements that are merely read -/
/-- append to a row whose elements are merely read. -/
def evAppendRo {β : Type} (P : Program) (cx : Cx) (slots : List (V cx.ty)) (t : TypeId) (x y : Operand) (nm0 : Nat) (k : Eff cx.ty → Option β) : Option β := none
theorem evAppendRo_ok (ok : cx.Ok) {β : Type} {o : Oper} {slots : List (V cx.ty)} {nm0 : Nat} {t : TypeId} {x y : Operand} (ho : o.op = .call { callee := .builtin .append, args := #[x, y], argTypes := #[t, t] }) {k : Eff cx.ty → Option β} {r : β}
    (h : evAppendRo P cx slots t x y nm0 k = some r) : ∃ ef, k ef = some r ∧ EffOK P cx o slots nm0 ef := by
  unfold evAppendRo at h
  cases h
/-- Are both owned whole? -/
def bothOwn {ty : Nat → Type} (a b : V ty) : Bool := match a, b with
  | .inl (.inl (some (.inr s))), .inl (.inl (some (.inr s2))) => s.own == 1 && s.o && (s2.own == 1 && s2.o)
  | _, _ => false

end
end Go.VM
namespace Go.VM
open Go.RowKit
section
variable {cx : Cx} {P : Program}

/-! ### A slice written out whose elements are owned -/
def ownCells (P : Program) (cx : Cx) (slots : List (V cx.ty)) (t : TypeId) (len : Nat) (parts : List (Nat × Operand)) : Option (Nat × List (L cx.ty) × List Nat) :=
  match sliceElem P t with
  | some e => if elemOk P cx e && decide (len * cx.size e ≤ 1000000) && decide (len ≤ 1000000) then
      match P.info? e with
      | some i => match i.zero with
        | some z => match fillA (fun j => some (j * cx.size e, cx.size e)) (zeroL (if len * cx.size e = 0 then #[] else z.cells) (len * cx.size e)) (parts.map fun (j, x) => (j, getV slots x)) with
          | some cells => match intoLs (mksF P e len) cells with
            | some (cs, gs) => if nodupB gs then some (e, cs, gs) else none
            | none => none
          | none => none
        | none => none
      | none => none
    else none
  | none => none

def evBuildOwn {β : Type} (P : Program) (cx : Cx) (slots : List (V cx.ty)) (t : TypeId) (len : Nat) (parts : List (Nat × Operand)) (nm0 : Nat) (k : Eff cx.ty → Option β) : Option β := none
theorem evBuildOwn_ok (ok : cx.Ok) {β : Type} {o : Oper} {slots : List (V cx.ty)} {nm0 : Nat} {t : TypeId} {len : Nat} {parts : Array (Nat × Operand)} (ho : o.op = .buildSlice t len parts) {k : Eff cx.ty → Option β} {r : β}
    (h : evBuildOwn P cx slots t len parts.toList nm0 k = some r) : ∃ ef, k ef = some r ∧ EffOK P cx o slots nm0 ef := by
  unfold evBuildOwn at h
  cases h
/-- A slice written out: flat; owned, where all that goes in is owned; read alone otherwise. -/
def evBuildAll {β : Type} (P : Program) (cx : Cx) (slots : List (V cx.ty)) (t : TypeId) (len : Nat) (parts : List (Nat × Operand)) (nm0 : Nat) (k : Eff cx.ty → Option β) : Option β :=
  match sliceElem P t with
  | some e => if cx.flat e then evBuildSlice P cx slots t len parts nm0 k else
      if (ownCells P cx slots t len parts).isSome then evBuildOwn P cx slots t len parts nm0 k else evBuildRows P cx slots t len parts nm0 k
  | none => none

theorem evBuildAll_ok (ok : cx.Ok) (hZ : cx.POk P) {β : Type} {o : Oper} {slots : List (V cx.ty)} {nm0 : Nat} {t : TypeId} {len : Nat} {parts : Array (Nat × Operand)} (ho : o.op = .buildSlice t len parts) {k : Eff cx.ty → Option β} {r : β}
    (h : evBuildAll P cx slots t len parts.toList nm0 k = some r) : ∃ ef, k ef = some r ∧ EffOK P cx o slots nm0 ef := by
  unfold evBuildAll at h
  split at h
  · split at h
    · exact evBuildSlice_ok ok hZ ho h
    · split at h
      · exact evBuildOwn_ok ok ho h
      · exact evBuildRows_ok ok ho h
  · simp at h

/-- append: flat, or of owned things. -/
def evAppendAll {β : Type} (P : Program) (cx : Cx) (slots : List (V cx.ty)) (t : TypeId) (x y : Operand) (nm0 : Nat) (k : Eff cx.ty → Option β) : Option β :=
  match sliceElem P t with
  | some e => if cx.flat e then evAppend P cx slots t x y nm0 k else if bothOwn (getV slots x) (getV slots y) then evAppendOwn P cx slots t x y nm0 k else evAppendRo P cx slots t x y nm0 k
  | none => none

theorem evAppendAll_ok (ok : cx.Ok) (hZ : cx.POk P) {β : Type} {o : Oper} {slots : List (V cx.ty)} {nm0 : Nat} {t : TypeId} {x y : Operand} (ho : o.op = .call { callee := .builtin .append, args := #[x, y], argTypes := #[t, t] }) {k : Eff cx.ty → Option β} {r : β}
    (h : evAppendAll P cx slots t x y nm0 k = some r) : ∃ ef, k ef = some r ∧ EffOK P cx o slots nm0 ef := by
  unfold evAppendAll at h
  split at h
  · split at h
    · exact evAppend_ok ok hZ ho h
    · split at h
      · exact evAppendOwn_ok ok ho h
      · exact evAppendRo_ok ok ho h
  · simp at h

end
end Go.VM
namespace Go.VM
open Go.RowKit
section
variable {cx : Cx} {P : Program}

/-- 'x = x[:h]': a row that is owned, cut behind; the row itself is gone. -/
def evTrunc {β : Type} (P : Program) (cx : Cx) (slots : List (V cx.ty)) (t : TypeId) (x hi : Operand) (nm0 : Nat) (k : Eff cx.ty → Option β) : Option β := none
theorem evTrunc_ok (ok : cx.Ok) {β : Type} {o : Oper} {slots : List (V cx.ty)} {nm0 : Nat} {t : TypeId} {x hi : Operand} (ho : o.op = .slice t x none (some hi) none) {k : Eff cx.ty → Option β} {r : β}
    (h : evTrunc P cx slots t x hi nm0 k = some r) : ∃ ef, k ef = some r ∧ EffOK P cx o slots nm0 ef := by
  unfold evTrunc at h
  cases h
/-- A cut of a row into the variable that held it. -/
def truncOf {ty : Nat → Type} (slots : List (V ty)) (o : Oper) (rest : List Oper) : Option (TypeId × Operand × Operand) :=
  match o.guard, o.op, o.dst, rest with
  | none, .slice t x none (some hi) none, some d, o2 :: _ =>
    match o2.op, o2.dst with
    | .assign (.tmp d'), some v => if d' = d then
        match getV slots x, getV slots (.tmp v) with
        | .inl (.inl (some (.inr s))), .inl (.inl (some (.inr s2))) => if s.own == 1 && s2.own == 1 && s.o && s.nm == s2.nm then some (t, x, hi) else none
        | _, _ => none
      else none
    | _, _ => none
  | _, _, _, _ => none
theorem truncOf_eq {ty : Nat → Type} {slots : List (V ty)} {o : Oper} {rest : List Oper} {t : TypeId} {x hi : Operand} (h : truncOf slots o rest = some (t, x, hi)) : o.guard = none ∧ o.op = .slice t x none (some hi) none := by
  unfold truncOf at h
  split at h
  · rename_i hg hop hd
    split at h
    · split at h
      · split at h
        · split at h
          · simp only [Option.some.injEq, Prod.mk.injEq] at h
            obtain ⟨rfl, rfl, rfl⟩ := h
            exact ⟨hg, hop⟩
          · simp at h
        · simp at h
      · simp at h
    · simp at h
  · simp at h
end
end Go.VM

namespace Go.VM
open Go.RowKit
section
variable {cx : Cx} {P : Program}

/-! ### Arrays of numbers, taken by an index -/
def leafInts {ty : Nat → Type} (kk : IntKind) : List (L ty) → Option (List Int)
  | [] => some []
  | some (.inl (.int k a)) :: r => if k = kk then (match leafInts kk r with
      | some xs => some (a :: xs)
      | none => none) else none
  | _ => none

theorem leafInts_rep {c : Ct cx.ty} {kk : IntKind} : ∀ (l : List (L cx.ty)) (us : List Value) (xs : List Int), RepLs cx c l us → leafInts kk l = some xs → us = xs.map (fun a => .int kk a)
  | [], us, xs, h, hx => by
    simp only [leafInts, Option.some.injEq] at hx
    subst hx
    exact List.eq_nil_of_length_eq_zero h.1
  | a :: r, us, xs, h, hx => by
    unfold leafInts at hx
    split at hx
    · rename_i heq; cases heq
    · rename_i k a' r' heq
      simp only [List.cons.injEq] at heq
      obtain ⟨rfl, rfl⟩ := heq
      split at hx
      · rename_i hk
        subst hk
        split at hx
        · rename_i ys hy
          simp only [Option.some.injEq] at hx
          subst hx
          match us, h with
          | [], h => simp [RepLs] at h
          | u :: us, h =>
            have e1 : u = .int k a' := h.2 0 _ u rfl rfl
            have e2 := leafInts_rep r us ys ⟨by have := h.1; simpa using this, fun j a b h1 h2 => h.2 (j + 1) a b (by simpa using h1) (by simpa using h2)⟩ hy
            rw [e1, e2]; rfl
        · simp at hx
      · simp at hx
    · simp at hx

def kindOf {ty : Nat → Type} : List (L ty) → Option IntKind
  | some (.inl (.int k _)) :: _ => some k
  | _ => none

def arrOf (P : Program) (t : TypeId) : Option (Nat × TypeId) :=
  match P.underlying t with
  | some (.array n e) => some (n, e)
  | _ => none

/-- A piece of an array, at a place that is known. -/
def evIndexL {β : Type} (P : Program) (e : TypeId) (n : Nat) (l : List (L cx.ty)) (i : Int) (k : Eff cx.ty → Option β) : Option β :=
  if n == l.length && (P.underlying e).isSome && !aggType P e && P.cellsOf e == 1 then
    match l[i.toNat]? with
    | some y => bif decide (0 ≤ i) && decide (i < n) then k (purR (.inl (.inl y)) []) else none
    | none => none
  else none

theorem evIndexL_ok {β : Type} {o : Oper} {slots : List (V cx.ty)} {nm0 : Nat} {t e : TypeId} {n : Nat} {x ix : Operand} {l : List (L cx.ty)} {ki : IntKind} {i : Int} (ho : o.op = .index t x ix) (hx : getV slots x = .inl (.inr l)) (hix : getV slots ix = .inl (.inl (some (.inl (.int ki i))))) (ha : P.underlying t = some (.array n e)) {k : Eff cx.ty → Option β} {r : β}
    (h : evIndexL P e n l i k = some r) : ∃ ef, k ef = some r ∧ EffOK P cx o slots nm0 ef := by
  unfold evIndexL at h
  split at h
  · rename_i hc
    simp only [Bool.and_eq_true, beq_iff_eq, Bool.not_eq_true'] at hc
    obtain ⟨⟨⟨hn, hu⟩, hag⟩, hsz⟩ := hc
    split at h
    · rename_i y hy
      cases hb : (decide (0 ≤ i) && decide (i < n)) with
      | false => rw [hb] at h; simp at h
      | true =>
        rw [hb] at h
        simp only [Bool.and_eq_true, decide_eq_true_eq] at hb
        refine ⟨_, h, effok_pur fun c ρ hw hop _ => ?_⟩
        have hr := hop x (by simp [ho, Op.operands])
        rw [hx] at hr
        obtain ⟨us, hus, hr⟩ := hr
        have hri := hop ix (by simp [ho, Op.operands])
        rw [hix] at hri
        have hri : ρ ix = .int ki i := hri
        obtain ⟨d, hd⟩ := Option.isSome_iff_exists.1 hu
        have hl : us.length = l.length := hr.1
        have hit : i.toNat < us.length := by rw [hl]; exact (List.getElem?_eq_some_iff.1 hy).1
        have hcell := List.getElem?_eq_getElem hit
        refine ⟨us[i.toNat], ?_, hr.2 i.toNat y _ hy hcell⟩
        have hlt : 0 ≤ i ∧ i < (n : Int) := hb
        unfold execOp
        simp only [ho, Instr.index, hri, hus, asIntOf, Sem.run_bind, Sem.run_pure, Result.andThen_ok, run_underlying ha, if_pos hlt, run_sizeOf' hd, hsz, Nat.mul_one, part, run_isAgg hd, hag, Bool.false_eq_true, if_false, List.getElem?_toArray, hcell]
    · simp at h
  · simp at h

def evIndex {β : Type} (P : Program) (o : Oper) (slots : List (V cx.ty)) (t : TypeId) (x ix : Operand) (k : Eff cx.ty → Option β) : Option β :=
  match getV slots x, getV slots ix, arrOf P t with
  | .inl (.inr l), .inl (.inl (some (.inl (.int _ i)))), some (n, e) =>
    match kindOf l with
    | some kk => match leafInts kk l with
      | some xs => if n == l.length && (P.underlying e).isSome && !aggType P e && P.cellsOf e == 1 then
          bif decide (0 ≤ i) && decide (i < xs.length) then k (purR (vv (.int kk (xs.getD i.toNat 0))) []) else none
        else none
      | none => none
    | none => evIndexL P e n l i k
  | _, _, _ => evGen P o slots k

theorem evIndex_ok {β : Type} {o : Oper} {slots : List (V cx.ty)} {nm0 : Nat} {t : TypeId} {x ix : Operand} (ho : o.op = .index t x ix) {k : Eff cx.ty → Option β} {r : β}
    (h : evIndex P o slots t x ix k = some r) : ∃ ef, k ef = some r ∧ EffOK P cx o slots nm0 ef := by
  unfold evIndex at h
  split at h
  · rename_i l ki i n e hx hix ha
    split at h
    · rename_i kk hkk
      split at h
      · rename_i xs hxs
        split at h
        · rename_i hc
          simp only [Bool.and_eq_true, beq_iff_eq, Bool.not_eq_true'] at hc
          obtain ⟨⟨⟨hn, hu⟩, hag⟩, hsz⟩ := hc
          cases hb : (decide (0 ≤ i) && decide (i < xs.length)) with
          | false => rw [hb] at h; simp at h
          | true =>
            rw [hb] at h
            simp only [Bool.and_eq_true, decide_eq_true_eq] at hb
            refine ⟨_, h, effok_pur fun c ρ hw hop _ => ?_⟩
            have hr := hop x (by simp [ho, Op.operands])
            rw [hx] at hr
            obtain ⟨us, hus, hr⟩ := hr
            have hri := hop ix (by simp [ho, Op.operands])
            rw [hix] at hri
            have hri : ρ ix = .int ki i := hri
            have he := leafInts_rep l us xs hr hxs
            obtain ⟨d, hd⟩ := Option.isSome_iff_exists.1 hu
            unfold arrOf at ha
            split at ha
            · rename_i n' e' hund
              simp only [Option.some.injEq, Prod.mk.injEq] at ha
              obtain ⟨rfl, rfl⟩ := ha
              have hl : us.length = l.length := hr.1
              have hxl : xs.length = l.length := by rw [← hl, he, List.length_map]
              have hit : i.toNat < xs.length := by omega
              have hcell : us[i.toNat]? = some (.int kk (xs.getD i.toNat 0)) := by
                rw [he, List.getElem?_map, List.getElem?_eq_getElem hit]
                simp [List.getD, List.getElem?_eq_getElem hit]
              refine ⟨.int kk (xs.getD i.toNat 0), ?_, rfl⟩
              have hlt : 0 ≤ i ∧ i < (n' : Int) := ⟨hb.1, by omega⟩
              unfold execOp
              simp only [ho, Instr.index, hri, hus, asIntOf, Sem.run_bind, Sem.run_pure, Result.andThen_ok, run_underlying hund, if_pos hlt, run_sizeOf' hd, hsz, Nat.mul_one, part, run_isAgg hd, hag, Bool.false_eq_true, if_false, List.getElem?_toArray, hcell]
            · simp at ha
        · simp at h
      · simp at h
    · unfold arrOf at ha
      split at ha
      · rename_i n' e' hund
        simp only [Option.some.injEq, Prod.mk.injEq] at ha
        obtain ⟨rfl, rfl⟩ := ha
        exact evIndexL_ok ho hx hix hund h
      · simp at ha
  · exact evGen_ok h

/-- Arrays, built. -/
def evBuildR {β : Type} (P : Program) (slots : List (V cx.ty)) (t : TypeId) (parts : List (Nat × Operand)) (k : Eff cx.ty → Option β) : Option β :=
  match arrOf P t, P.info? t with
  | some (_, e), some i => match i.zero with
    | some z => if (P.underlying e).isSome then (match fillA (fun j => some (j * P.cellsOf e, P.cellsOf e)) (z.cells.toList.map lv) (parts.map fun (j, x) => (j, getV slots x)) with
      | some cells => k (purR (va cells) [])
      | none => none) else none
    | none => none
  | _, _ => evBuild P slots t parts k

theorem run_buildR {t e : TypeId} {n : Nat} (hfa : P.underlying t = some (.array n e)) {d : TypeDesc} (hd : P.underlying e = some d) {i : TypeInfo} {z : Value} (hi : P.info? t = some i) (hz : i.zero = some z) {parts : Array (Nat × Value)} {us' : Array Value}
    (hfill : Instr.fill (fun j => some (j * P.cellsOf e, P.cellsOf e)) z.cells parts.toList = some us') (w : World) : (Instr.build t parts).run P w = .ok (.agg us') w := by
  have hz' : (zeroValue t).run P w = .ok z w := by simp [zeroValue, typeInfo, hi, hz]
  unfold Instr.build
  rw [Sem.run_bind, hz', Result.andThen_ok, Sem.run_bind, run_underlying hfa, Result.andThen_ok]
  dsimp only
  rw [Sem.run_bind, run_sizeOf' hd, Result.andThen_ok, hfill]
  rfl

theorem evBuildR_ok {β : Type} {o : Oper} {slots : List (V cx.ty)} {nm0 : Nat} {t : TypeId} {parts : Array (Nat × Operand)} (ho : o.op = .build t parts) {k : Eff cx.ty → Option β} {r : β}
    (h : evBuildR P slots t parts.toList k = some r) : ∃ ef, k ef = some r ∧ EffOK P cx o slots nm0 ef := by
  unfold evBuildR at h
  split at h
  · rename_i n e i hfs hi
    split at h
    · rename_i z hz
      split at h
      · rename_i he
        split at h
        · rename_i cells hf
          obtain ⟨d, hd⟩ := Option.isSome_iff_exists.1 he
          unfold arrOf at hfs
          split at hfs
          · rename_i n' e' hund
            simp only [Option.some.injEq, Prod.mk.injEq] at hfs
            obtain ⟨rfl, rfl⟩ := hfs
            refine ⟨_, h, effok_pur fun c ρ hw hop _ => ?_⟩
            obtain ⟨us', h1, h2⟩ := fillA_rep (parts.toList.map fun p => (p.1, getV slots p.2)) (parts.toList.map fun p => (p.1, ρ p.2)) (z.cells.toList.map lv) z.cells cells (lv_rep _) (by simp) (fun j p q e1 e2 => by
              simp only [List.getElem?_map] at e1 e2
              cases hx : parts.toList[j]? with
              | none => simp [hx] at e1
              | some x =>
                simp only [hx, Option.map_some, Option.some.injEq] at e1 e2
                subst e1; subst e2
                refine ⟨rfl, hop x.2 ?_⟩
                simp only [ho, Op.operands, List.mem_toArray, List.mem_map]
                exact ⟨x, List.mem_of_getElem? hx, rfl⟩) hf
            refine ⟨.agg us', ?_, us'.toList, by simp, h2⟩
            have hbuild := run_buildR hund hd hi hz (parts := parts.map fun p => (p.1, ρ p.2)) (us' := us') (by simpa using h1) c.w
            unfold execOp
            simp only [ho, Sem.run_bind]
            rw [hbuild]
            rfl
          · simp at hfs
        · simp at h
      · simp at h
    · simp at h
  · exact evBuild_ok ho h

/-- A pointer that is not nil. -/
def evNil {β : Type} (P : Program) (o : Oper) (slots : List (V cx.ty)) (x : Operand) (k : Eff cx.ty → Option β) : Option β :=
  match getV slots x with
  | .inr (.inr p) => if p.kind == 0 && p.i == 0 then k (purR (.inr (.inr p)) []) else if p.kind == 2 && p.nm == 0 then k (purR (.inr (.inr p)) []) else none
  | _ => evGen P o slots k

theorem evNil_ok {β : Type} {o : Oper} {slots : List (V cx.ty)} {nm0 : Nat} {x : Operand} (ho : o.op = .nilCheck x) {k : Eff cx.ty → Option β} {r : β}
    (h : evNil P o slots x k = some r) : ∃ ef, k ef = some r ∧ EffOK P cx o slots nm0 ef := by
  unfold evNil at h
  split at h
  · rename_i p hx
    split at h
    · rename_i hk
      simp only [Bool.and_eq_true, beq_iff_eq] at hk
      obtain ⟨hk, hi0⟩ := hk
      refine ⟨_, h, effok_pur fun c ρ hw hop _ => ?_⟩
      have hr := hop x (by simp [ho, Op.operands])
      rw [hx] at hr
      refine ⟨ρ x, ?_, hr⟩
      have hr : RepP cx c p (ρ x) := hr
      unfold RepP at hr
      simp only [hk, hi0] at hr
      obtain ⟨tk, _, _, _, g, _, hu⟩ := hr
      have hu : ρ x = .pointer (some ⟨g, p.off, none⟩) := hu
      unfold execOp
      simp [ho, hu]
    · split at h
      · rename_i hk
        have hk : p.kind = 2 ∧ p.nm = 0 := by simpa using hk
        obtain ⟨hk, hnm⟩ := hk
        refine ⟨_, h, effok_pur fun c ρ hw hop _ => ?_⟩
        have hr := hop x (by simp [ho, Op.operands])
        rw [hx] at hr
        refine ⟨ρ x, ?_, hr⟩
        have hr : RepP cx c p (ρ x) := hr
        unfold RepP at hr
        simp only [hk] at hr
        obtain ⟨b, o2, hu, _⟩ := hr
        rw [hnm] at hu
        have hu : ρ x = .pointer (some ⟨b, o2 + p.off, none⟩) := hu
        unfold execOp
        simp [ho, hu]
      · simp at h
  · exact evGen_ok h

/-! ### Structs of numbers, held against one another -/
def okFs (P : Program) (ok : TypeId → Bool) : Nat → List Field → Bool
  | _, [] => true
  | off, f :: r => f.name != "_" && f.offset == off && ok f.type && okFs P ok (off + P.cellsOf f.type) r
def cellsFs (P : Program) : List Field → Nat
  | [] => 0
  | f :: r => P.cellsOf f.type + cellsFs P r
/-- Numbers, or structs of such. -/
def okT (P : Program) : Nat → TypeId → Bool
  | 0, _ => false
  | n + 1, t => match P.underlying t with
    | some (.int _) => !aggType P t && P.cellsOf t == 1
    | some (.struct fs) => aggType P t && !P.stoodInHeld t && okFs P (okT P n) 0 fs.toList && cellsFs P fs.toList == P.cellsOf t
    | some (.array len e) => aggType P t && okT P n e && len * P.cellsOf e == P.cellsOf t
    | _ => false
def eqAll : List Int → List Int → Bool
  | a :: xs, b :: ys => a == b && eqAll xs ys
  | _, _ => true
def eqAcc {α : Type} : List Int → List Int → Bool → (Bool → Option α) → Option α
  | a :: xs, b :: ys, acc, k => eqAcc xs ys (acc && a == b) k
  | [], [], acc, k => k acc
  | _, _, _, _ => none
theorem eqAcc_eq {α : Type} : ∀ (xs ys : List Int) (acc : Bool) (k : Bool → Option α) {r : α}, eqAcc xs ys acc k = some r → k (acc && eqAll xs ys) = some r ∧ xs.length = ys.length
  | [], [], acc, k, r, h => by simpa [eqAcc, eqAll] using h
  | a :: xs, b :: ys, acc, k, r, h => by
    obtain ⟨h1, h2⟩ := eqAcc_eq xs ys _ k (r := r) (by simpa [eqAcc] using h)
    refine ⟨by rw [eqAll, ← Bool.and_assoc]; exact h1, by simp [h2]⟩
  | [], _ :: _, _, _, _, h => by simp [eqAcc] at h
  | _ :: _, [], _, _, _, h => by simp [eqAcc] at h

theorem eqAll_append : ∀ (a a' b b' : List Int), a.length = a'.length → eqAll (a ++ b) (a' ++ b') = (eqAll a a' && eqAll b b')
  | [], [], b, b', _ => by simp [eqAll]
  | x :: a, y :: a', b, b', h => by
    simp only [List.cons_append, eqAll]
    rw [eqAll_append a a' b b' (by simpa using h), Bool.and_assoc]
  | [], _ :: _, _, _, h => by simp at h
  | _ :: _, [], _, _, h => by simp at h

def intsV (P : Program) (kk : IntKind) (t : TypeId) (X : List Int) : Value := if aggType P t then .agg (X.map (fun a => Value.int kk a)).toArray else .int kk (X.headD 0)

theorem run_part_ints {kk : IntKind} (w : World) {n : Nat} {t : TypeId} (h : okT P n t = true) {X : List Int} {off : Nat} (hl : off + P.cellsOf t ≤ X.length) :
    (part t (X.map (fun a => Value.int kk a)).toArray off).run P w = .ok (intsV P kk t ((X.drop off).take (P.cellsOf t))) w := by
  cases n with
  | zero => simp [okT] at h
  | succ n =>
    unfold okT at h
    split at h
    · rename_i k hu
      simp only [Bool.and_eq_true, Bool.not_eq_true', beq_iff_eq] at h
      unfold part intsV
      have hlt : off < X.length := by omega
      simp only [Sem.run_bind, run_isAgg hu, h.1, Result.andThen_ok, Bool.false_eq_true, if_false, List.getElem?_toArray, List.getElem?_map, List.getElem?_eq_getElem hlt, Option.map_some, Sem.run_pure, h.2]
      rw [List.drop_eq_getElem_cons hlt]
      rfl
    · rename_i fs hu
      simp only [Bool.and_eq_true, Bool.not_eq_true', beq_iff_eq] at h
      unfold part intsV
      simp only [Sem.run_bind, run_isAgg hu, h.1.1.1, Result.andThen_ok, if_true, run_sizeOf' hu, Sem.run_pure, List.extract_toArray, List.extract_eq_take_drop, Nat.add_sub_cancel_left, List.map_take, List.map_drop]
    · rename_i len e hu
      simp only [Bool.and_eq_true, beq_iff_eq] at h
      unfold part intsV
      simp only [Sem.run_bind, run_isAgg hu, h.1.1, Result.andThen_ok, if_true, run_sizeOf' hu, Sem.run_pure, List.extract_toArray, List.extract_eq_take_drop, Nat.add_sub_cancel_left, List.map_take, List.map_drop]
    · simp at h

def eqEls (d : Nat) (e : TypeId) (n : Nat) (xs ys : Array Value) : List Nat → Sem Bool
  | [] => pure true
  | i :: r => do
    let a ← part e xs (i * n)
    let b ← part e ys (i * n)
    let q ← Op.equalIn d e a b
    if (!q) = true then pure false else eqEls d e n xs ys r

theorem run_equalIn_arr {dd : TypeDesc} (w : World) (d : Nat) (t e : TypeId) (len : Nat) (xs ys : Array Value) (ht : P.underlying t = some (.array len e)) (he : P.underlying e = some dd) :
    (Op.equalIn (d + 1) t (.agg xs) (.agg ys)).run P w = (eqEls d e (P.cellsOf e) xs ys (List.range' 0 len)).run P w := by
  simp only [Op.equalIn, Sem.run_bind, run_underlying ht, Result.andThen_ok, run_sizeOf' he, Std.Legacy.Range.forIn_eq_forIn_range', Std.Legacy.Range.size]
  simp only [Nat.sub_zero, Nat.add_sub_cancel, Nat.div_one]
  generalize List.range' 0 len = l
  clear ht
  induction l generalizing w with
  | nil => simp [eqEls]
  | cons i l ih =>
    simp only [List.forIn_cons, eqEls, Sem.run_bind, Sem.run_ite]
    generalize (part e xs (i * P.cellsOf e)).run P w = r1
    cases r1 with
    | ok a w1 =>
      simp only [Result.andThen_ok]
      generalize (part e ys (i * P.cellsOf e)).run P w1 = r2
      cases r2 with
      | ok b w2 =>
        simp only [Result.andThen_ok]
        generalize (Op.equalIn d e a b).run P w2 = r3
        cases r3 with
        | ok r w3 =>
          cases r
          · simp only [Result.andThen_ok, Bool.not_false, if_true, Sem.run_pure]
          · simp only [Result.andThen_ok, Bool.not_true, Bool.false_eq_true, if_false, Sem.run_pure]
            exact ih w3
        | halt x w3 => simp [Result.andThen]
      | halt x w2 => simp [Result.andThen]
    | halt x w1 => simp [Result.andThen]

theorem okT_und {n : Nat} {t : TypeId} (h : okT P n t = true) : ∃ dd, P.underlying t = some dd := by
  cases n with
  | zero => simp [okT] at h
  | succ n =>
    unfold okT at h
    split at h
    · exact ⟨_, ‹_›⟩
    · exact ⟨_, ‹_›⟩
    · exact ⟨_, ‹_›⟩
    · simp at h

theorem run_eqEls {kk : IntKind} (w : World) (d n : Nat) (e : TypeId) (he : okT P n e = true) (IH : ∀ X Y : List Int, X.length = P.cellsOf e → Y.length = P.cellsOf e → (Op.equalIn d e (intsV P kk e X) (intsV P kk e Y)).run P w = .ok (eqAll X Y) w) :
    ∀ (k i : Nat) (X Y : List Int), X.length = Y.length → (i + k) * P.cellsOf e = X.length →
      (eqEls d e (P.cellsOf e) (X.map (fun a => Value.int kk a)).toArray (Y.map (fun a => Value.int kk a)).toArray (List.range' i k)).run P w = .ok (eqAll (X.drop (i * P.cellsOf e)) (Y.drop (i * P.cellsOf e))) w
  | 0, i, X, Y, hxy, hl => by
    rw [List.drop_eq_nil_of_le (by rw [← hl]; exact Nat.le_refl _), List.drop_eq_nil_of_le (by rw [← hxy, ← hl]; exact Nat.le_refl _)]
    simp [eqEls, eqAll]
  | k + 1, i, X, Y, hxy, hl => by
    have hs : (i + 1) * P.cellsOf e = i * P.cellsOf e + P.cellsOf e := Nat.succ_mul ..
    have hle : i * P.cellsOf e + P.cellsOf e ≤ X.length := by rw [← hl, ← hs]; exact Nat.mul_le_mul_right _ (by omega)
    have p1 := run_part_ints (kk := kk) w he (X := X) (off := i * P.cellsOf e) hle
    have p2 := run_part_ints (kk := kk) w he (X := Y) (off := i * P.cellsOf e) (by omega)
    have eqv := IH ((X.drop (i * P.cellsOf e)).take (P.cellsOf e)) ((Y.drop (i * P.cellsOf e)).take (P.cellsOf e)) (by simp; omega) (by simp; omega)
    have ih := run_eqEls w d n e he IH k (i + 1) X Y hxy (by rw [← hl]; congr 1; omega)
    rw [hs] at ih
    have sx : X.drop (i * P.cellsOf e) = (X.drop (i * P.cellsOf e)).take (P.cellsOf e) ++ X.drop (i * P.cellsOf e + P.cellsOf e) := by rw [← List.drop_drop, List.take_append_drop]
    have sy : Y.drop (i * P.cellsOf e) = (Y.drop (i * P.cellsOf e)).take (P.cellsOf e) ++ Y.drop (i * P.cellsOf e + P.cellsOf e) := by rw [← List.drop_drop, List.take_append_drop]
    have ea : eqAll (X.drop (i * P.cellsOf e)) (Y.drop (i * P.cellsOf e)) = (eqAll ((X.drop (i * P.cellsOf e)).take (P.cellsOf e)) ((Y.drop (i * P.cellsOf e)).take (P.cellsOf e)) && eqAll (X.drop (i * P.cellsOf e + P.cellsOf e)) (Y.drop (i * P.cellsOf e + P.cellsOf e))) := by
      conv => lhs; rw [sx, sy]
      exact eqAll_append _ _ _ _ (by simp; omega)
    rw [List.range'_succ]
    simp only [eqEls, Sem.run_bind, p1, p2, Result.andThen_ok, eqv]
    rw [ea]
    cases hb : eqAll ((X.drop (i * P.cellsOf e)).take (P.cellsOf e)) ((Y.drop (i * P.cellsOf e)).take (P.cellsOf e)) with
    | true => simpa using ih
    | false => simp

theorem run_eqFs {kk : IntKind} (w : World) (d n : Nat) (IH : ∀ t, okT P n t = true → ∀ X Y : List Int, X.length = P.cellsOf t → Y.length = P.cellsOf t → (Op.equalIn d t (intsV P kk t X) (intsV P kk t Y)).run P w = .ok (eqAll X Y) w) :
    ∀ (fs : List Field) (off : Nat) (X Y : List Int), okFs P (okT P n) off fs = true → X.length = Y.length → off + cellsFs P fs = X.length →
      (Op.eqFields d (X.map (fun a => Value.int kk a)).toArray (Y.map (fun a => Value.int kk a)).toArray fs).run P w = .ok (eqAll (X.drop off) (Y.drop off)) w
  | [], off, X, Y, _, hxy, hl => by
    simp only [cellsFs, Nat.add_zero] at hl
    rw [List.drop_eq_nil_of_le (by omega), List.drop_eq_nil_of_le (by omega)]
    simp [Op.eqFields, eqAll]
  | f :: fs, off, X, Y, hf, hxy, hl => by
    simp only [okFs, Bool.and_eq_true, bne_iff_ne, ne_eq, beq_iff_eq] at hf
    obtain ⟨⟨⟨hn, ho⟩, hk⟩, hf⟩ := hf
    simp only [cellsFs] at hl
    have p1 := run_part_ints (kk := kk) w hk (X := X) (off := off) (by omega)
    have p2 := run_part_ints (kk := kk) w hk (X := Y) (off := off) (by omega)
    have e := IH f.type hk ((X.drop off).take (P.cellsOf f.type)) ((Y.drop off).take (P.cellsOf f.type)) (by simp; omega) (by simp; omega)
    have ih := run_eqFs w d n IH fs (off + P.cellsOf f.type) X Y hf hxy (by omega)
    have sx : X.drop off = (X.drop off).take (P.cellsOf f.type) ++ X.drop (off + P.cellsOf f.type) := by rw [← List.drop_drop, List.take_append_drop]
    have sy : Y.drop off = (Y.drop off).take (P.cellsOf f.type) ++ Y.drop (off + P.cellsOf f.type) := by rw [← List.drop_drop, List.take_append_drop]
    have ea : eqAll (X.drop off) (Y.drop off) = (eqAll ((X.drop off).take (P.cellsOf f.type)) ((Y.drop off).take (P.cellsOf f.type)) && eqAll (X.drop (off + P.cellsOf f.type)) (Y.drop (off + P.cellsOf f.type))) := by
      conv => lhs; rw [sx, sy]
      exact eqAll_append _ _ _ _ (by simp; omega)
    simp only [Op.eqFields, hn, ne_eq, not_false_eq_true, if_true, Sem.run_bind, ho, p1, p2, Result.andThen_ok, e]
    rw [ea]
    cases hb : eqAll ((X.drop off).take (P.cellsOf f.type)) ((Y.drop off).take (P.cellsOf f.type)) with
    | true => simpa using ih
    | false => simp

theorem run_equalT {kk : IntKind} (w : World) (d : Nat) : ∀ (n : Nat) (t : TypeId), okT P n t = true → ∀ X Y : List Int, X.length = P.cellsOf t → Y.length = P.cellsOf t → (Op.equalIn (d + n) t (intsV P kk t X) (intsV P kk t Y)).run P w = .ok (eqAll X Y) w
  | 0, _, h, _, _, _, _ => by simp [okT] at h
  | n + 1, t, h, X, Y, hX, hY => by
    unfold okT at h
    split at h
    · rename_i k hu
      simp only [Bool.and_eq_true, Bool.not_eq_true', beq_iff_eq] at h
      unfold intsV
      simp only [h.1, Bool.false_eq_true, if_false]
      match X, Y, hX, hY with
      | [a], [b], _, _ =>
        show (Op.equalIn ((d + n) + 1) t (.int kk a) (.int kk b)).run P w = _
        rw [run_equalIn_int w (d + n) t kk k a b hu]
        simp [eqAll]
      | [], _, hX, _ => rw [h.2] at hX; simp at hX
      | _ :: _ :: _, _, hX, _ => rw [h.2] at hX; simp at hX
      | [_], [], _, hY => rw [h.2] at hY; simp at hY
      | [_], _ :: _ :: _, _, hY => rw [h.2] at hY; simp at hY
    · rename_i fs hu
      simp only [Bool.and_eq_true, Bool.not_eq_true', beq_iff_eq] at h
      obtain ⟨⟨⟨hag, hst⟩, hfo⟩, hc⟩ := h
      have hfs : P.fieldsOf t = fs := by simp [Program.fieldsOf, hu]
      unfold intsV
      simp only [hag, if_true]
      show (Op.equalIn ((d + n) + 1) t _ _).run P w = _
      rw [run_equalIn_agg (P := P) w (d + n) t _ _ (by rw [hfs]; exact hu) hst, hfs]
      exact run_eqFs w (d + n) n (fun t ht X Y hX hY => run_equalT w d n t ht X Y hX hY) fs.toList 0 X Y hfo (hX.trans hY.symm) (by rw [hc, hX]; omega)
    · rename_i len e hu
      simp only [Bool.and_eq_true, beq_iff_eq] at h
      obtain ⟨⟨hag, he⟩, hc⟩ := h
      obtain ⟨dd, hdd⟩ := okT_und he
      unfold intsV
      simp only [hag, if_true]
      show (Op.equalIn ((d + n) + 1) t _ _).run P w = _
      rw [run_equalIn_arr (P := P) w (d + n) t e len _ _ hu hdd]
      have := run_eqEls (kk := kk) w (d + n) n e he (fun X Y hX hY => run_equalT w d n e he X Y hX hY) len 0 X Y (hX.trans hY.symm) (by rw [Nat.zero_add, hc, hX])
      rwa [Nat.zero_mul, List.drop_zero, List.drop_zero] at this
    · simp at h

def isEqOp : BinOp → Bool
  | .eql => true
  | .neq => true
  | _ => false
def eqK {ty : Nat → Type} {β : Type} (op : BinOp) (k : Eff ty → Option β) (r : Bool) : Option β := match op with
  | .eql => k (purR (vv (.bool r)) [])
  | .neq => k (purR (vv (.bool (!r))) [])
  | _ => none
def eqVal (op : BinOp) (r : Bool) : Bool := match op with
  | .neq => !r
  | _ => r
theorem eqK_eq {ty : Nat → Type} {β : Type} {op : BinOp} {k : Eff ty → Option β} {r : Bool} {x : β} (h : eqK op k r = some x) : k (purR (vv (.bool (eqVal op r))) []) = some x := by
  unfold eqK at h
  split at h
  · exact h
  · exact h
  · simp at h
theorem run_eq_struct {op : BinOp} (ho : isEqOp op = true) (w : World) (t : TypeId) (xs ys : Array Value) {r : Bool} (h : (Op.equalIn 10000 t (.agg xs) (.agg ys)).run P w = .ok r w) : (binOp op t (.agg xs) (.agg ys)).run P w = .ok (.bool (eqVal op r)) w := by
  cases op <;> first | (simp [isEqOp] at ho) | skip
  · rw [run_eql_struct, h]; rfl
  · rw [run_neq_struct, h]; rfl
def evEqS {β : Type} (P : Program) (o : Oper) (slots : List (V cx.ty)) (op : BinOp) (t : TypeId) (x y : Operand) (k : Eff cx.ty → Option β) : Option β :=
  match getV slots x, getV slots y with
  | .inl (.inr (a :: l)), .inl (.inr (b :: m)) =>
    match kindOf (a :: l) with
    | some kk => match leafInts kk (a :: l), leafInts kk (b :: m) with
      | some (z :: zs), some (y :: ys) => if isEqOp op && okT P 8 t && aggType P t && zs.length + 1 == P.cellsOf t && !P.eqGuardType P.depth t then
          eqAcc zs ys (z == y) (eqK op k)
        else none
      | _, _ => none
    | none => none
  | _, _ => evGen P o slots k

theorem evEqS_ok {β : Type} {o : Oper} {slots : List (V cx.ty)} {nm0 : Nat} {op : BinOp} {t yt : TypeId} {x y : Operand} (ho : o.op = .binOp op t x y yt) {k : Eff cx.ty → Option β} {r : β}
    (h : evEqS P o slots op t x y k = some r) : ∃ ef, k ef = some r ∧ EffOK P cx o slots nm0 ef := by
  unfold evEqS at h
  split at h
  · rename_i a l b m hx hy
    split at h
    · rename_i kk hkk
      split at h
      · rename_i z zs y' ys hz hy'
        split at h
        · rename_i hc
          simp only [Bool.and_eq_true, beq_iff_eq, Bool.not_eq_true'] at hc
          obtain ⟨⟨⟨⟨hop2, hok⟩, hag⟩, hzl⟩, hgt⟩ := hc
          obtain ⟨h, hlen⟩ := eqAcc_eq zs ys _ _ h
          replace h := eqK_eq h
          refine ⟨_, h, effok_pur fun c ρ hw hop _ => ?_⟩
          have h1 := hop x (by simp [ho, Op.operands]); rw [hx] at h1
          have h2 := hop y (by simp [ho, Op.operands]); rw [hy] at h2
          obtain ⟨us, hus, hru⟩ := h1
          obtain ⟨vs, hvs, hrv⟩ := h2
          have e1 := leafInts_rep _ us _ hru hz
          have e2 := leafInts_rep _ vs _ hrv hy'
          refine ⟨.bool (eqVal op (z == y' && eqAll zs ys)), ?_, rfl⟩
          have hq := run_equalT (P := P) (kk := kk) c.w 9992 8 t hok (z :: zs) (y' :: ys) (by simpa using hzl) (by simpa [← hlen] using hzl)
          unfold intsV at hq
          simp only [hag, if_true, ← e1, ← e2] at hq
          have hg := run_eqGuard_agg (P := P) c.w op t x y us.toArray vs.toArray hgt
          unfold execOp
          simp only [ho, hus, hvs, Sem.run_bind, hg, Result.andThen_ok]
          rw [run_eq_struct hop2 c.w t _ _ hq]
          rfl
        · simp at h
      · simp at h
    · simp at h
  · exact evGen_ok h

/-! ### Flat structs of numbers and bools, held against one another -/
abbrev Sc := (IntKind × Int) ⊕ Bool
def scVal : Sc → Value
  | .inl p => .int p.1 p.2
  | .inr b => .bool b
def leafSc {ty : Nat → Type} : List (L ty) → Option (List Sc)
  | [] => some []
  | some (.inl (.int k a)) :: r => match leafSc r with
    | some xs => some (.inl (k, a) :: xs)
    | none => none
  | some (.inl (.bool b)) :: r => match leafSc r with
    | some xs => some (.inr b :: xs)
    | none => none
  | _ => none
theorem leafSc_rep {c : Ct cx.ty} : ∀ (l : List (L cx.ty)) (us : List Value) (xs : List Sc), RepLs cx c l us → leafSc l = some xs → us = xs.map scVal
  | [], us, xs, h, hx => by
    simp only [leafSc, Option.some.injEq] at hx
    subst hx
    exact List.eq_nil_of_length_eq_zero h.1
  | a :: r, us, xs, h, hx => by
    unfold leafSc at hx
    match us, h with
    | [], h => simp [RepLs] at h
    | u :: us, h =>
      have hr : RepLs cx c r us := ⟨by have := h.1; simpa using this, fun j a b h1 h2 => h.2 (j + 1) a b (by simpa using h1) (by simpa using h2)⟩
      split at hx
      · rename_i heq; cases heq
      · rename_i k a' r' heq
        simp only [List.cons.injEq] at heq
        obtain ⟨rfl, rfl⟩ := heq
        split at hx
        · rename_i ys hy
          simp only [Option.some.injEq] at hx
          subst hx
          have e1 : u = .int k a' := h.2 0 _ u rfl rfl
          rw [e1, leafSc_rep r us ys hr hy]; rfl
        · simp at hx
      · rename_i b r' heq
        simp only [List.cons.injEq] at heq
        obtain ⟨rfl, rfl⟩ := heq
        split at hx
        · rename_i ys hy
          simp only [Option.some.injEq] at hx
          subst hx
          have e1 : u = .bool b := h.2 0 _ u rfl rfl
          rw [e1, leafSc_rep r us ys hr hy]; rfl
        · simp at hx
      · simp at hx
def hasBool {ty : Nat → Type} : List (L ty) → Bool
  | [] => false
  | some (.inl (.bool _)) :: _ => true
  | _ :: r => hasBool r
def eq1 : Sc → Sc → Bool
  | .inl p, .inl q => p.2 == q.2
  | .inr a, .inr b => a == b
  | _, _ => false
def eqSc : List Sc → List Sc → Bool
  | a :: xs, b :: ys => eq1 a b && eqSc xs ys
  | _, _ => true
def accSc {α : Type} : List Sc → List Sc → Bool → (Bool → Option α) → Option α
  | a :: xs, b :: ys, acc, k => accSc xs ys (acc && eq1 a b) k
  | [], [], acc, k => k acc
  | _, _, _, _ => none
theorem accSc_eq {α : Type} : ∀ (xs ys : List Sc) (acc : Bool) (k : Bool → Option α) {r : α}, accSc xs ys acc k = some r → k (acc && eqSc xs ys) = some r ∧ xs.length = ys.length
  | [], [], acc, k, r, h => by simpa [accSc, eqSc] using h
  | a :: xs, b :: ys, acc, k, r, h => by
    obtain ⟨h1, h2⟩ := accSc_eq xs ys _ k (r := r) (by simpa [accSc] using h)
    refine ⟨by rw [eqSc, ← Bool.and_assoc]; exact h1, by simp [h2]⟩
  | [], _ :: _, _, _, _, h => by simp [accSc] at h
  | _ :: _, [], _, _, _, h => by simp [accSc] at h
def okSc (P : Program) (t : TypeId) : Sc → Sc → Bool
  | .inl p, .inl q => p.1 == q.1 && !aggType P t && (match P.underlying t with | some (.int _) => true | _ => false)
  | .inr _, .inr _ => !aggType P t && (match P.underlying t with | some .bool => true | _ => false)
  | _, _ => false
def okFl (P : Program) : Nat → List Field → List Sc → List Sc → Bool
  | _, [], [], [] => true
  | off, f :: r, x :: X, y :: Y => f.name != "_" && f.offset == off && okSc P f.type x y && okFl P (off + 1) r X Y
  | _, _, _, _ => false
theorem run_part_sc (w : World) {t : TypeId} {d : TypeDesc} (hu : P.underlying t = some d) (ha : aggType P t = false) {us : List Value} {off : Nat} {v : Value} (hv : us[off]? = some v) : (part t us.toArray off).run P w = .ok v w := by
  unfold part
  simp only [Sem.run_bind, run_isAgg hu, ha, Result.andThen_ok, Bool.false_eq_true, if_false, List.getElem?_toArray, hv, Sem.run_pure]
theorem run_equal_sc (w : World) (d : Nat) {t : TypeId} {x y : Sc} (h : okSc P t x y = true) : (∃ dd, P.underlying t = some dd) ∧ aggType P t = false ∧ (Op.equalIn (d + 1) t (scVal x) (scVal y)).run P w = .ok (eq1 x y) w := by
  match x, y, h with
  | .inl (k, a), .inl (k2, b), h =>
    simp only [okSc, Bool.and_eq_true, beq_iff_eq, Bool.not_eq_true'] at h
    obtain ⟨⟨rfl, ha⟩, hu⟩ := h
    split at hu
    · rename_i k3 hu2
      exact ⟨⟨_, hu2⟩, ha, run_equalIn_int w d t k k3 a b hu2⟩
    · cases hu
  | .inr a, .inr b, h =>
    simp only [okSc, Bool.and_eq_true, Bool.not_eq_true'] at h
    obtain ⟨ha, hu⟩ := h
    split at hu
    · rename_i hu2
      exact ⟨⟨_, hu2⟩, ha, run_equalIn_bool' w d t a b hu2⟩
    · cases hu
  | .inl _, .inr _, h => simp [okSc] at h
  | .inr _, .inl _, h => simp [okSc] at h
theorem run_eqFl (w : World) (d : Nat) : ∀ (fs : List Field) (off : Nat) (us vs : List Value) (X Y : List Sc), okFl P off fs X Y = true → us.drop off = X.map scVal → vs.drop off = Y.map scVal →
    (Op.eqFields (d + 1) us.toArray vs.toArray fs).run P w = .ok (eqSc X Y) w
  | [], off, us, vs, [], [], _, _, _ => by simp [Op.eqFields, eqSc]
  | f :: fs, off, us, vs, x :: X, y :: Y, h, hu, hv => by
    simp only [okFl, Bool.and_eq_true, bne_iff_ne, ne_eq, beq_iff_eq] at h
    obtain ⟨⟨⟨hn, ho⟩, hk⟩, hf⟩ := h
    obtain ⟨⟨dd, hdd⟩, ha, he⟩ := run_equal_sc (P := P) w d hk
    have get : ∀ (us : List Value) (x : Sc) (X : List Sc), us.drop off = (x :: X).map scVal → us[off]? = some (scVal x) ∧ us.drop (off + 1) = X.map scVal := fun us x X h => by
      have h0 : (us.drop off)[0]? = some (scVal x) := by rw [h]; rfl
      rw [List.getElem?_drop] at h0
      refine ⟨by simpa using h0, ?_⟩
      rw [← List.drop_drop, h]; rfl
    obtain ⟨g1, g2⟩ := get us x X hu
    obtain ⟨g3, g4⟩ := get vs y Y hv
    have ih := run_eqFl w d fs (off + 1) us vs X Y hf g2 g4
    simp only [Op.eqFields, hn, ne_eq, not_false_eq_true, if_true, Sem.run_bind, ho, run_part_sc w hdd ha g1, run_part_sc w hdd ha g3, Result.andThen_ok, he]
    rw [eqSc]
    cases hb : eq1 x y with
    | true => simpa using ih
    | false => simp
  | [], _, _, _, _ :: _, _, h, _, _ => by simp [okFl] at h
  | [], _, _, _, [], _ :: _, h, _, _ => by simp [okFl] at h
  | _ :: _, _, _, _, [], _, h, _, _ => by simp [okFl] at h
  | _ :: _, _, _, _, _ :: _, [], h, _, _ => by simp [okFl] at h
def flatT (P : Program) (t : TypeId) (X Y : List Sc) : Bool := match P.underlying t with
  | some (.struct fs) => okFl P 0 fs.toList X Y
  | _ => false
def evEqM {β : Type} (P : Program) (o : Oper) (slots : List (V cx.ty)) (op : BinOp) (t : TypeId) (x y : Operand) (k : Eff cx.ty → Option β) : Option β :=
  match getV slots x, getV slots y with
  | .inl (.inr l), .inl (.inr m) => if hasBool l then
      match leafSc l, leafSc m with
      | some (a :: xs), some (b :: ys) => if isEqOp op && flatT P t (a :: xs) (b :: ys) && !P.stoodInHeld t && !P.eqGuardType P.depth t then accSc xs ys (eq1 a b) (eqK op k) else none
      | _, _ => none
    else evEqS P o slots op t x y k
  | _, _ => evEqS P o slots op t x y k
theorem evEqM_ok {β : Type} {o : Oper} {slots : List (V cx.ty)} {nm0 : Nat} {op : BinOp} {t yt : TypeId} {x y : Operand} (ho : o.op = .binOp op t x y yt) {k : Eff cx.ty → Option β} {r : β}
    (h : evEqM P o slots op t x y k = some r) : ∃ ef, k ef = some r ∧ EffOK P cx o slots nm0 ef := by
  unfold evEqM at h
  split at h
  · rename_i l m hx hy
    split at h
    · split at h
      · rename_i z zs y' ys hz hy'
        split at h
        · rename_i hc
          simp only [Bool.and_eq_true, Bool.not_eq_true'] at hc
          obtain ⟨⟨⟨hop2, hfl⟩, hst⟩, hgt⟩ := hc
          obtain ⟨h, hlen⟩ := accSc_eq zs ys _ _ h
          replace h := eqK_eq h
          refine ⟨_, h, effok_pur fun c ρ hw hop _ => ?_⟩
          have h1 := hop x (by simp [ho, Op.operands]); rw [hx] at h1
          have h2 := hop y (by simp [ho, Op.operands]); rw [hy] at h2
          obtain ⟨us, hus, hru⟩ := h1
          obtain ⟨vs, hvs, hrv⟩ := h2
          have e1 := leafSc_rep _ us _ hru hz
          have e2 := leafSc_rep _ vs _ hrv hy'
          refine ⟨.bool (eqVal op (eq1 z y' && eqSc zs ys)), ?_, rfl⟩
          unfold flatT at hfl
          split at hfl
          · rename_i fs hfs
            have hfo : P.fieldsOf t = fs := by simp [Program.fieldsOf, hfs]
            have hg := run_eqGuard_agg (P := P) c.w op t x y us.toArray vs.toArray hgt
            have hq := run_eqFl (P := P) c.w 9998 fs.toList 0 us vs (z :: zs) (y' :: ys) hfl (by rw [List.drop_zero]; exact e1) (by rw [List.drop_zero]; exact e2)
            unfold execOp
            simp only [ho, hus, hvs, Sem.run_bind, hg, Result.andThen_ok]
            rw [run_eq_struct hop2 c.w t _ _ (r := eqSc (z :: zs) (y' :: ys)) (by rw [show (10000 : Nat) = 9999 + 1 from rfl, run_equalIn_agg (P := P) c.w 9999 t _ _ (by rw [hfo]; exact hfs) hst, hfo, hq])]
            rfl
          · cases hfl
        · simp at h
      · simp at h
    · exact evEqS_ok ho h
  · exact evEqS_ok ho h

end
end Go.VM

namespace Go.VM
open Go.RowKit
section
variable {cx : Cx} {P : Program}

/-! ### Pointers to boxes, handed on -/
/-- A cell that a box may bear when it is handed on. -/
def cellOk {ty : Nat → Type} : L ty → Bool
  | some (.inl v) => leafOk (some (.inl v) : L ty)
  | some (.inr s) => s.own == 0
  | none => false

def bnL {ty : Nat → Type} : L ty → List Nat
  | some (.inr s) => if s.own == 1 then [s.nm] else []
  | _ => []

def bnV {ty : Nat → Type} : V ty → List Nat
  | .inl (.inl l) => bnL l
  | .inl (.inr l) => l.flatMap bnL
  | _ => []

theorem bnL_spec {c : Ct cx.ty} {l : L cx.ty} {u : Value} (h : RepLS cx c l u) {n : Nat} (hn : n ∈ bnL l) (hd : n ∉ c.D) : n ∈ c.F ∨ ∃ tk ∈ c.T, tk.nm = n ∧ ∃ s, tk.c = .inl s := by
  unfold bnL at hn
  split at hn
  · rename_i s
    split at hn
    · rename_i h1
      have h1 : s.own = 1 := by simpa using h1
      simp only [List.mem_singleton] at hn
      subst hn
      unfold RepLS at h
      simp only [h1, if_true, hd, if_false] at h
      obtain ⟨_, h⟩ := h
      by_cases h3 : s.nm ∈ c.F
      · exact .inl h3
      · simp only [h3, if_false] at h
        obtain ⟨tk, k1, k2, k3, _⟩ := h
        exact .inr ⟨tk, k1, k2, s, k3⟩
    · simp at hn
  · simp at hn

theorem bnV_spec {c : Ct cx.ty} {v : V cx.ty} {u : Value} (h : RepV cx c v u) {n : Nat} (hn : n ∈ bnV v) (hd : n ∉ c.D) : n ∈ c.F ∨ ∃ tk ∈ c.T, tk.nm = n ∧ ∃ s, tk.c = .inl s := by
  match v, h, hn with
  | .inl (.inl l), h, hn => exact bnL_spec (l := l) h hn hd
  | .inl (.inr l), ⟨us, _, h⟩, hn =>
    obtain ⟨a, ha, hn⟩ := List.mem_flatMap.1 hn
    obtain ⟨j, hj⟩ := List.getElem?_of_mem ha
    have hjl : j < us.length := by rw [h.1]; exact (List.getElem?_eq_some_iff.1 hj).1
    exact bnL_spec (h.2 j a _ hj (List.getElem?_eq_getElem hjl)) hn hd
  | .inr (.inl _), _, hn => simp [bnV] at hn
  | .inr (.inr _), _, hn => simp [bnV] at hn

theorem repL_rof {w : World} {S : Nat → Prop} {n : Nat} {s : SlD cx.ty} {u : Value} (h : RepL cx w S n (some (.inr s)) u) : RepL cx w S n (some (.inr (ro s.e s.xs))) u := by
  cases n with
  | zero => simp [RepL] at h
  | succ n => exact h

/-! Worlds -/
theorem ResL.world {w w1 : World} {S : Nat → Prop} {l : L cx.ty} {u : Value} {f : List Nat} (hS : ∀ b, S b → w1.heap[b]? = w.heap[b]?) (hf : ∀ b ∈ f, w1.heap[b]? = w.heap[b]?) (h : ResL cx w S l u f) : ResL cx w1 S l u f := by
  match l, h with
  | some (.inl v), h => exact h
  | some (.inr s), h =>
    unfold ResL at h ⊢
    by_cases h2 : s.own = 2
    · simp only [h2, if_true] at h ⊢
      obtain ⟨ho, n, h⟩ := h
      exact ⟨ho, n, OwnL_mono cx n _ _ _ hf h⟩
    by_cases h4 : s.own = 4
    · simp only [h4, show ¬ (4 : Nat) = 2 by decide, if_false, if_true] at h ⊢
      exact ⟨h.1, h.2.mono hS hf (fun _ h => h)⟩
    · simp only [h2, h4, if_false] at h ⊢
      obtain ⟨h0, hf0, n, h⟩ := h
      exact ⟨h0, hf0, n, RepL_mono cx hS (fun _ h => h) n _ u h⟩

theorem ResA.world {w w1 : World} {S : Nat → Prop} {a : A cx.ty} {u : Value} {f : List Nat} (hS : ∀ b, S b → w1.heap[b]? = w.heap[b]?) (hf : ∀ b ∈ f, w1.heap[b]? = w.heap[b]?) (h : ResA cx w S a u f) : ResA cx w1 S a u f := by
  match a, h with
  | .inl l, h => exact ResL.world hS hf h
  | .inr l, ⟨us, fps, hu, hfp, h1, h2, h⟩ =>
    exact ⟨us, fps, hu, hfp, h1, h2, fun j a v g e1 e2 e3 => ResL.world hS (fun b hb => hf b (by rw [hfp]; exact List.mem_flatten.2 ⟨g, List.mem_of_getElem? e3, hb⟩)) (h j a v g e1 e2 e3)⟩

theorem ResV.world {w w1 : World} {A0 NN : Nat → Prop} {l : List (A cx.ty)} {u : Value} (hsz : w1.heap.size = w.heap.size) (hS : ∀ b, A0 b → w1.heap[b]? = w.heap[b]?) (hN : ∀ b, NN b → w1.heap[b]? = w.heap[b]?) (h : ResV cx w A0 NN (.inr (.inl l)) u) : ResV cx w1 A0 NN (.inr (.inl l)) u := by
  obtain ⟨fp, h1, h2, us, fps, hu, hfp, g1, g2, h⟩ := h
  refine ⟨fp, h1, fun b hb => ⟨(h2 b hb).1, by rw [hsz]; exact (h2 b hb).2⟩, us, fps, hu, hfp, g1, g2, fun j a v g e1 e2 e3 => ?_⟩
  have h3 := h j a v g e1 e2 e3
  rw [hsz]
  refine ResA.world (fun b hb => ?_) (fun b hb => ?_) h3
  · rcases hb with hb | hb
    · exact hS b hb
    · exact hN b hb.1
  · exact hN b (h2 b (by rw [hfp]; exact List.mem_flatten.2 ⟨g, List.mem_of_getElem? e3, hb⟩)).1

/-- A box is filled anew. -/
theorem boxSet {st : St cx.ty} {c : Ct cx.ty} {act : Act} (h : RS cx c st act) {tk : Tk cx.ty} (ht : tk ∈ c.T) {nm : Nat} (hn : tk.nm = nm) {cells l : List (L cx.ty)} (hcc : tk.c = .inr cells) {g : Nat} (hu : tk.u = .pointer (some ⟨g, 0, none⟩)) (hfp : tk.fp = []) {cur' : Array Value} {e : TypeId}
    {w2 : World} (hheap : ∀ k, k ≠ g → w2.heap[k]? = c.w.heap[k]?) (hsame : w2.heap.size = c.w.heap.size) (hh : w2.heap[g]? = some (.cells cur' e (0, 0))) (hl : RepLs cx c l cur'.toList) :
    ∃ T', RS cx { c with T := T', w := w2 } { st with slots := st.slots.map (updB nm l), pend := none } act := by
  have hg : g ∈ vb tk.u := by rw [hu]; simp [vb]
  have hgb := h.wf.bound tk ht g (List.mem_append.2 (.inl hg))
  let up : Tk cx.ty → Tk cx.ty := fun t2 => if t2.nm = nm then { t2 with c := .inr l } else t2
  have upnm : ∀ t2, (up t2).nm = t2.nm := fun t2 => by simp only [up]; split <;> rfl
  have upu : ∀ t2, (up t2).u = t2.u := fun t2 => by simp only [up]; split <;> rfl
  have upfp : ∀ t2, (up t2).fp = t2.fp := fun t2 => by simp only [up]; split <;> rfl
  have huniq : ∀ t2 ∈ c.T, t2.nm = nm → t2 = tk := fun t2 ht2 hn2 => uniq_tok h.wf ht2 ht (by rw [hn2, hn])
  have hib : ∀ t2 ∈ c.T, t2.nm = nm → ∃ l, t2.c = .inr l := fun t2 ht2 hn2 => by rw [huniq t2 ht2 hn2]; exact ⟨_, hcc⟩
  have hP : PresX (fun n => n = nm) c { c with T := c.T.map up, w := w2 } := by
    refine ⟨fun b hb => ?_, rfl, rfl, fun t2 ht2 hX s hs => ?_, fun t2 ht2 hX l' hl' => ?_⟩
    · have hbg : b ≠ g := fun e => hb.2.2 tk ht (e ▸ hg)
      refine ⟨⟨Nat.lt_of_lt_of_eq hb.1 hsame.symm, hb.2.1, fun t2 ht2 => ?_⟩, hheap b hbg⟩
      obtain ⟨t3, h3, rfl⟩ := List.mem_map.1 ht2
      rw [upu]
      exact hb.2.2 t3 h3
    · exact List.mem_map.2 ⟨t2, ht2, by simp only [up]; rw [if_neg hX]⟩
    · exact ⟨up t2, List.mem_map.2 ⟨t2, ht2, rfl⟩, upnm t2, upu t2, by simp only [up]; rw [if_neg hX]; exact hl'⟩
  refine ⟨c.T.map up, ⟨⟨?_, ?_, ?_, ?_, h.wf.start, ?_, ?_⟩, by simp [h.size], fun t2 => ?_, h.defers, h.dead, h.frz, fun n hn' => ?_, h.kp, h.pr.keep rfl rfl (fun b hb => (hP.rd b (h.wf.rdS hb)).2), PdOK.none⟩⟩
  · show ((c.T.map up).map (·.nm)).Nodup
    rw [List.map_map]
    have : ((fun t2 : Tk cx.ty => t2.nm) ∘ up) = fun t2 => t2.nm := funext upnm
    rw [this]; exact h.wf.names
  · show ((c.T.map up).flatMap _).Nodup
    rw [List.flatMap_map]
    have : (fun t2 => vb (up t2).u ++ (up t2).fp) = fun t2 : Tk cx.ty => vb t2.u ++ t2.fp := funext fun t2 => by rw [upu, upfp]
    rw [this]; exact h.wf.nodup
  · intro t2 ht2 b hb
    obtain ⟨t3, h3, rfl⟩ := List.mem_map.1 ht2
    rw [upu, upfp] at hb
    have := h.wf.bound t3 h3 b hb
    exact ⟨this.1, Nat.lt_of_lt_of_eq this.2 hsame.symm⟩
  · intro t2 ht2
    obtain ⟨t3, h3, rfl⟩ := List.mem_map.1 ht2
    have hold := h.wf.rep t3 h3
    by_cases hn3 : t3.nm = nm
    · have e3 := huniq t3 h3 hn3
      subst e3
      unfold TokRep
      simp only [up, hn3, if_true]
      exact ⟨hfp, g, _, e, hu, hh, hl.1, fun j a b e1 e2 => repLS_box hP hib (hl.2 j a b e1 e2)⟩
    · have hup : up t3 = t3 := by simp only [up]; rw [if_neg hn3]
      rw [hup]
      have hblk : ∀ b ∈ vb t3.u ++ t3.fp, w2.heap[b]? = c.w.heap[b]? := fun b hb => hheap b (fun e => disjoint_toks h.wf h3 ht (fun e2 => hn3 (by rw [e2, hn])) hb (by rw [e]; exact List.mem_append.2 (.inl hg)))
      unfold TokRep at hold ⊢
      split at hold
      · rename_i s hs
        obtain ⟨hv, hold⟩ := hold
        refine ⟨hv, ?_⟩
        split at hold
        · rename_i hso
          rw [if_pos hso]
          obtain ⟨n, hold⟩ := hold
          exact ⟨n, OwnL_mono cx n _ _ _ hblk hold⟩
        · rename_i hso
          rw [if_neg hso]
          obtain ⟨hf, us, n, hrow, hl2, hr⟩ := hold
          refine ⟨hf, us, n, ?_, hl2, fun j l v h1 h2 => RepL_mono cx (fun b hb => (hP.rd b hb).2) (fun b hb => (hP.rd b hb).1) n l v (hr j l v h1 h2)⟩
          obtain ⟨hx, hcx⟩ := hrow
          refine ⟨hx, ?_⟩
          rcases hcx with hcx | ⟨g2, cap2, cur2, hv', hg2, hh2, hrest⟩
          · exact .inl hcx
          · refine .inr ⟨g2, cap2, cur2, hv', hg2, ?_, hrest⟩
            rw [hblk g2 (by rw [hv']; simp [vb])]
            exact hh2
      · obtain ⟨hf, g2, cur2, e2, hu2, hh2, hr⟩ := hold
        refine ⟨hf, g2, cur2, e2, hu2, ?_, hr.1, fun j a b e1 e2 => repLS_box hP hib (hr.2 j a b e1 e2)⟩
        rw [hblk g2 (by rw [hu2]; simp [vb])]
        exact hh2
  · intro t2 ht2
    obtain ⟨t3, h3, rfl⟩ := List.mem_map.1 ht2
    rw [upnm]
    exact h.wf.live t3 h3
  · exact fun b hb => h.wf.size b (Nat.le_trans (Nat.le_of_eq hsame.symm) hb)
  · have hbase := updB_rep (cells := l) hP (fun t3 h3 hn3 => ⟨up t3, List.mem_map.2 ⟨t3, h3, rfl⟩, by rw [upnm, hn3], upu t3, by simp only [up]; rw [if_pos hn3]⟩) hib (h.rep t2)
    have : (st.slots.map (updB nm l)).getD t2 junk = updB nm l (st.slots.getD t2 junk) := by
      by_cases hlt : t2 < st.slots.length
      · simp [List.getD, hlt]
      · simp [List.getD, List.getElem?_eq_none (Nat.le_of_not_lt hlt), junk, updB]
    show RepV cx _ ((st.slots.map (updB nm l)).getD t2 junk) _
    rw [this]
    exact hbase
  · rcases hn' with ⟨t2, ht2, rfl⟩ | hn' | hn'
    · obtain ⟨t3, h3, rfl⟩ := List.mem_map.1 ht2
      rw [upnm]
      exact h.names _ (.inl ⟨t3, h3, rfl⟩)
    · exact h.names _ (.inr (.inl hn'))
    · exact h.names _ (.inr (.inr hn'))

/-- The contract: the first thing handed is a pointer to a box; what the box bears comes back behind the results. -/
def SatP (P : Program) (cx : Cx) (f : FuncId) (nres : Nat) (F : List (A cx.ty) → Option (Bool × List (A cx.ty))) : Prop :=
  ∀ (w : World) (A0 : Nat → Prop) (g : Nat) (cur : Array Value) (t : TypeId) (lc : List (L cx.ty)) (l : List (A cx.ty)) (us : List Value) (cs : List (A cx.ty)), (∀ b, A0 b → b < w.heap.size ∧ b ≠ g) → w.heap[g]? = some (.cells cur t (0, 0)) →
    ArgA cx w A0 (.inr lc) (.agg cur) → lc.all cellOk = true → ArgAs cx w A0 l us → F (.inr lc :: l) = some (true, cs) →
    Calls P f (.pointer (some ⟨g, 0, none⟩) :: us).toArray w (fun e w' => ∃ (rs : List Value) (cur' : Array Value), e = .returned (packR rs) ∧ rs.length = nres ∧ (∃ t', w'.heap[g]? = some (.cells cur' t' (0, 0))) ∧ Kept (fun b => w.heap.size ≤ b ∨ b = g) w w' ∧
      ResV cx w' A0 (fun b => w.heap.size ≤ b) (.inr (.inl cs)) (.tuple (rs ++ [Value.agg cur']).toArray))

/-- The contract: what comes back is a pointer to a new box. -/
def SatN (P : Program) (cx : Cx) (f : FuncId) (F : List (A cx.ty) → Option (Bool × List (A cx.ty))) : Prop :=
  ∀ (w : World) (A0 : Nat → Prop) (l : List (A cx.ty)) (us : List Value) (lc : List (L cx.ty)), (∀ b, A0 b → b < w.heap.size) → ArgAs cx w A0 l us → F l = some (true, [.inr lc]) →
    Calls P f us.toArray w (fun e w' => ∃ (g : Nat) (cur : Array Value) (t : TypeId), e = .returned (.pointer (some ⟨g, 0, none⟩)) ∧ w.heap.size ≤ g ∧ w'.heap[g]? = some (.cells cur t (0, 0)) ∧ Below w.heap.size w w' ∧
      ArgA cx w' (fun b => A0 b ∨ (w.heap.size ≤ b ∧ b < w'.heap.size ∧ b ≠ g)) (.inr lc) (.agg cur))

/-- The contract of a function that may throw: whether it does, what it throws, what it hands back. -/
def SatT (P : Program) (cx : Cx) (f : FuncId) (F : List (A cx.ty) → Option (Bool × List (A cx.ty))) : Prop :=
  ∀ (w : World) (A0 : Nat → Prop) (l : List (A cx.ty)) (us : List Value) (thr : Bool) (v : Value) (rs : List (A cx.ty)), (∀ b, A0 b → b < w.heap.size) → ArgAs cx w A0 l us → F l = some (true, .inl (some (.inl (.bool thr))) :: .inl (some (.inl v)) :: rs) →
    Calls P f us.toArray w (fun e w' => Below w.heap.size w w' ∧ bif thr then e = .panicked [{ v := v, recovered := false }] else ∃ u, e = .returned u ∧ ResV cx w' A0 (fun b => w.heap.size ≤ b) (packV rs) u)

/-- Where in a box a pointer points. -/
def bxOff (bx : Option (Nat × TypeId)) : Nat := match bx with
  | some (o, _) => o
  | none => 0
def SatQ (P : Program) (cx : Cx) (f : FuncId) (nres : Nat) (F : List (A cx.ty) → Option (Bool × List (A cx.ty))) (bx : Option (Nat × TypeId) := none) : Prop :=
  ∀ (w : World) (g : Nat) (cur : Array Value) (t : TypeId) (lc : List (L cx.ty)) (l : List (A cx.ty)) (us : List Value) (fps : List (List Nat)) (cs : List (A cx.ty)), w.heap[g]? = some (.cells cur t (0, 0)) →
    ResAs cx w (fun _ => False) (.inr lc :: l) (.agg cur :: us) fps → (List.flatten fps).Nodup → (∀ b ∈ List.flatten fps, b < w.heap.size ∧ b ≠ g) → F (.inr lc :: l) = some (true, cs) →
    Calls P f (.pointer (some ⟨g, bxOff bx, none⟩) :: us).toArray w (fun e w' => ∃ (rs : List Value) (cur' : Array Value), e = .returned (packR rs) ∧ rs.length = nres ∧ (∃ t', w'.heap[g]? = some (.cells cur' t' (0, 0))) ∧ Kept (fun b => w.heap.size ≤ b ∨ b ∈ List.flatten fps ∨ b = g) w w' ∧
      ResV cx w' (fun _ => False) (fun b => w.heap.size ≤ b ∨ b ∈ List.flatten fps) (.inr (.inl cs)) (.tuple (rs ++ [Value.agg cur']).toArray))

/-- The contract of a function that takes rows over (no pointer): what comes back lies in them or is new. -/
def SatI (P : Program) (cx : Cx) (f : FuncId) (nres : Nat) (F : List (A cx.ty) → Option (Bool × List (A cx.ty))) : Prop :=
  ∀ (w : World) (l : List (A cx.ty)) (us : List Value) (fps : List (List Nat)) (cs : List (A cx.ty)),
    ResAs cx w (fun _ => False) l us fps → (List.flatten fps).Nodup → (∀ b ∈ List.flatten fps, b < w.heap.size) → F l = some (true, cs) →
    Calls P f us.toArray w (fun e w' => ∃ rs : List Value, e = .returned (packR rs) ∧ rs.length = nres ∧ Kept (fun b => w.heap.size ≤ b ∨ b ∈ List.flatten fps) w w' ∧
      ResV cx w' (fun _ => False) (fun b => w.heap.size ≤ b ∨ b ∈ List.flatten fps) (.inr (.inl cs)) (.tuple rs.toArray))

def SatOf (P : Program) (cx : Cx) (f : FuncId) (W : WFn cx) : Prop :=
  match W.p with
  | 0 => SatW P cx f W.nres W.n W.F
  | 1 => SatP P cx f W.nres W.F
  | 3 => SatT P cx f W.F
  | 4 => SatW P cx f W.nres W.n W.F
  | 5 => SatW P cx f W.nres W.n W.F
  | 6 => SatQ P cx f W.nres W.F W.bx
  | 7 => SatI P cx f W.nres W.F
  | _ => SatN P cx f W.F

def KwOk (P : Program) (cx : Cx) (Kw : Kwt cx) : Prop := ∀ f W, Kw f = some W → SatOf P cx f W

def evCallP {β : Type} (P : Program) (f : FuncId) (W : WFn cx) (st : St cx.ty) (d : Option Tmp) (args : List Operand) (ts : List TypeId) (k : St cx.ty → Option β) : Option β := none
theorem evCallP_ok (ok : cx.Ok) {β : Type} {o : Oper} {st : St cx.ty} {d : Option Tmp} {f : FuncId} {args : Array Operand} {ts : Array TypeId} {W : WFn cx} (hK : SatP P cx f W.nres W.F)
    (ho : o.op = .call { callee := .value (.func f), args := args, argTypes := ts }) {c : Ct cx.ty} {a : Act} (h : RS cx c st a) (hsm : smallO d = true) (hlo : loO st.lo d = true) {k : St cx.ty → Option β} {r : β}
    (he : evCallP P f W st d args.toList ts.toList k = some r) : Runs P o a.eval c.w (fun u w' => ∃ c' st', k st' = some r ∧ RS cx c' st' (a.put d u) ∧ c'.w = w' ∧ c'.S = c.S ∧ c'.N = c.N ∧ c'.K = c.K ∧ Kept c.N c.w w') := by
  unfold evCallP at he
  cases he
/-- A function that hands back a pointer to a new box. -/
def evCallN {β : Type} (P : Program) (f : FuncId) (W : WFn cx) (slots : List (V cx.ty)) (args : List Operand) (ts : List TypeId) (nm0 : Nat) (k : Eff cx.ty → Option β) : Option β := none
theorem evCallN_ok (ok : cx.Ok) {β : Type} {o : Oper} {slots : List (V cx.ty)} {nm0 : Nat} {f : FuncId} {args : Array Operand} {ts : Array TypeId} {W : WFn cx} (hK : SatN P cx f W.F)
    (ho : o.op = .call { callee := .value (.func f), args := args, argTypes := ts }) {k : Eff cx.ty → Option β} {r : β}
    (h : evCallN P f W slots args.toList ts.toList nm0 k = some r) : ∃ ef, k ef = some r ∧ EffOK P cx o slots nm0 ef := by
  unfold evCallN at h
  cases h
end
end Go.VM

namespace Go.VM
open Go.RowKit
section
variable {cx : Cx} {P : Program}

/-! ### An array in a box, sliced whole: it is read alone from then on -/
def killB {ty : Nat → Type} (nm : Nat) (v : V ty) : V ty :=
  match v with
  | .inr (.inr p) => if p.kind == 0 && p.nm == nm then junk else .inr (.inr p)
  | v => v

theorem killB_rep {nm : Nat} {c c' : Ct cx.ty} (h : PresX (fun n => n = nm) c c') (hib : ∀ tk ∈ c.T, tk.nm = nm → ∃ l, tk.c = .inr l)
    {v : V cx.ty} {u : Value} (hr : RepV cx c v u) : RepV cx c' (killB nm v) u := by
  have leaf : ∀ {l : L cx.ty} {u : Value}, RepLS cx c l u → RepLS cx c' l u := fun hl => repLS_box h hib hl
  have agg : ∀ {a : A cx.ty} {u : Value}, RepA cx c a u → RepA cx c' a u := by
    intro a u ha
    match a, ha with
    | .inl l, ha => exact leaf ha
    | .inr l, ⟨us, hu, h1, h2⟩ => exact ⟨us, hu, h1, fun j a b e1 e2 => leaf (h2 j a b e1 e2)⟩
  have el : ∀ {s : SlD cx.ty} {i b o : Nat}, RepEl cx c s i b o → RepEl cx c' s i b o := by
    rintro s i b o ⟨hb, x, hx, n, hr⟩
    refine ⟨(h.rd b hb).1, x, hx, n, fun j l hl => ?_⟩
    obtain ⟨v, hv, hr⟩ := hr j l hl
    exact ⟨v, by rw [World.cell?_of_block (h.rd b hb).2]; exact hv, RepL_mono cx (fun b hb => (h.rd b hb).2) (fun b hb => (h.rd b hb).1) _ _ _ hr⟩
  match v, hr with
  | .inl a, hr => exact agg hr
  | .inr (.inl l), ⟨us, hu, h1, h2⟩ => exact ⟨us, hu, h1, fun j a b e1 e2 => agg (h2 j a b e1 e2)⟩
  | .inr (.inr p), hr =>
    have hr : RepP cx c p u := hr
    simp only [killB]
    by_cases hkn : (p.kind == 0 && p.nm == nm) = true
    · rw [if_pos hkn]; trivial
    · rw [if_neg hkn]
      show RepP cx c' p u
      unfold RepP at hr ⊢
      split at hr
      · rename_i hk
        obtain ⟨tk, k1, k2, k3, g, k4, k5⟩ := hr
        have hn : p.nm ≠ nm := fun e => hkn (by simp [hk, e])
        obtain ⟨tk', m1, m2, m3, m4⟩ := h.box tk k1 (by rw [k2]; exact hn) _ k3
        exact ⟨tk', m1, by rw [m2, k2], m4, g, by rw [m3]; exact k4, k5⟩
      · simp only [h.dead, h.frz] at hr ⊢
        split at hr
        · rename_i hd; rw [if_pos hd]; trivial
        · rename_i hd
          rw [if_neg hd]
          split at hr
          · rename_i hf
            rw [if_pos hf]
            obtain ⟨b, o, hu, hr⟩ := hr
            exact ⟨b, o, hu, el hr⟩
          · rename_i hf
            rw [if_neg hf]
            obtain ⟨tk, k1, k2, k3, k4⟩ := hr
            by_cases hn : tk.nm = nm
            · obtain ⟨l, hl⟩ := hib tk k1 hn
              rw [k3] at hl
              cases hl
            · exact ⟨tk, h.tok tk k1 hn _ k3, k2, k3, k4⟩
      · obtain ⟨b, o, hu, hr⟩ := hr
        exact ⟨b, o, hu, el hr⟩
      · trivial

/-- The pointer, the element's type, what the array bears. -/
def arrBox (P : Program) (cx : Cx) (slots : List (V cx.ty)) (o : Oper) : Option (Pt cx.ty × (e : Nat) × List (cx.ty e)) :=
  match o.guard, o.op with
  | none, .slice t x none none none => match getV slots x, arrOf P t with
    | .inr (.inr p), some (n, e) => if p.kind == 0 && p.off == 0 && p.i == 0 && n == p.cells.length && decide (0 < n) && cx.flat e && elemOk P cx e && cx.size e == 1 then
          match decN cx e n p.cells with
          | some xs => some (p, ⟨e, xs⟩)
          | none => none
        else none
    | _, _ => none
  | _, _ => none

def St.frzB {ty : Nat → Type} (st : St ty) (d : Option Tmp) (nm : Nat) (v : V ty) : St ty :=
  { slots := setO (st.slots.map (killB nm)) d v, D := st.D, F := st.F, ctr := st.ctr + 1, lo := st.lo }

theorem arrBox_ok (ok : cx.Ok) {st : St cx.ty} {o : Oper} {p : Pt cx.ty} {e : Nat} {xs : List (cx.ty e)} (hb : arrBox P cx st.slots o = some (p, ⟨e, xs⟩)) {c : Ct cx.ty} {a : Act} (h : RS cx c st a) (hlo : loO st.lo o.dst = true) :
    o.guard = none ∧ Runs P o a.eval c.w (fun u w' => ∃ c', RS cx c' (st.frzB o.dst p.nm (vs (ro e xs))) (a.put o.dst u) ∧ c'.w = w' ∧ c'.S = c.S ∧ c'.N = c.N ∧ c'.K = c.K ∧ w' = c.w) := by
  unfold arrBox at hb
  split at hb
  · rename_i t x hgd hop
    split at hb
    · rename_i p' n e' hp harr
      · split at hb
        · rename_i hc
          simp only [Bool.and_eq_true, beq_iff_eq, decide_eq_true_eq] at hc
          obtain ⟨⟨⟨⟨⟨⟨⟨hk0, hoff⟩, hi0⟩, hn⟩, hpos⟩, hflat⟩, hel⟩, hsz⟩ := hc
          split at hb
          · rename_i xs' hxs
            simp only [Option.some.injEq, Prod.mk.injEq] at hb
            obtain ⟨rfl, hb⟩ := hb
            cases hb
            refine ⟨hgd, ?_⟩
            obtain ⟨⟨d, hd⟩, hcs⟩ := elemOk_spec hel
            have hra := eval_rep h.rep x
            rw [hp] at hra
            have hra : RepP cx c p' (a.eval x) := hra
            unfold RepP at hra
            simp only [hk0, hi0] at hra
            obtain ⟨tk, ht, hnm, hcc, g, htu, hpa⟩ := hra
            rw [hoff] at hpa
            have hpa : a.eval x = .pointer (some ⟨g, 0, none⟩) := hpa
            have htr := h.wf.rep tk ht
            unfold TokRep at htr
            rw [hcc] at htr
            obtain ⟨hfp, g', cur, et, hu', hh, hcells⟩ := htr
            rw [htu] at hu'
            simp only [Value.pointer.injEq, Option.some.injEq, Addr.mk.injEq] at hu'
            obtain ⟨rfl, _⟩ := hu'
            have hgv : g ∈ vb tk.u := by rw [htu]; simp [vb]
            have hgb := h.wf.bound tk ht g (List.mem_append.2 (.inl hgv))
            have hund : P.underlying t = some (.array n e) := by
              unfold arrOf at harr
              split at harr
              · rename_i n2 e2 hq
                simp only [Option.some.injEq, Prod.mk.injEq] at harr
                obtain ⟨rfl, rfl⟩ := harr
                exact hq
              · simp at harr
            have hrun : (execOp a.eval o).run P c.w = .ok (.value (.slice (some ⟨g, 0, none⟩) n n)) c.w := by
              unfold execOp
              simp [hop, Instr.sliceAt, Instr.sureAddr, hpa, run_underlying hund, Instr.sliceBounds, run_sizeOf' hd, Addr.add_lit]
            unfold Runs
            rw [hrun]
            let c' : Ct cx.ty := { c with T := c.T.filter (fun t2 => !(t2.nm == p'.nm)) }
            have hmem : ∀ t2, t2 ∈ c'.T ↔ t2 ∈ c.T ∧ t2.nm ≠ p'.nm := fun t2 => by simp [c', List.mem_filter]
            have hib : ∀ t2 ∈ c.T, t2.nm = p'.nm → ∃ l, t2.c = .inr l := fun t2 h2 hn2 => by
              have := uniq_tok h.wf h2 ht (hn2.trans hnm.symm)
              subst this
              exact ⟨_, hcc⟩
            have hP : PresX (fun n => n = p'.nm) c c' := ⟨fun b hb => ⟨⟨hb.1, hb.2.1, fun t2 h2 => hb.2.2 t2 ((hmem t2).1 h2).1⟩, rfl⟩, rfl, rfl, fun t2 h2 hX s hs => (hmem t2).2 ⟨h2, hX⟩, fun t2 h2 hX l hl => ⟨t2, (hmem t2).2 ⟨h2, hX⟩, rfl, rfl, hl⟩⟩
            have hgr : Rd c' g := ⟨hgb.2, .inr hgb.1, fun t2 h2 hv => by
              obtain ⟨q1, q2⟩ := (hmem t2).1 h2
              exact disjoint_toks h.wf q1 ht (fun e => q2 (e.trans hnm)) (List.mem_append.2 (.inl hv)) (List.mem_append.2 (.inl hgv))⟩
            obtain ⟨hxl, hxw⟩ := decN_spec ok false n p'.cells xs hxs
            have hnew : RepLS cx c' (some (.inr (ro e xs))) (.slice (some ⟨g, 0, none⟩) n n) := by
              refine ⟨1, some ⟨g, 0, none⟩, n, by rw [← hxl]; rfl, by show xs.length ≤ n; omega, .inr ⟨g, 0, rfl, hgr, fun i y hy j l hl => ?_⟩⟩
              have hl : (cx.enc e false y)[j]? = some l := hl
              have hy : xs[i]? = some y := hy
              have hj : j < 1 := by
                have h8 := (List.getElem?_eq_some_iff.1 hl).1
                have h9 : (cx.enc e false y).length = cx.size e := ok.len e false y
                omega
              have hfg := flat_get (cx.enc e false) 1 (fun x => by rw [ok.len, hsz]) xs i y hy j hj
              rw [← hxw, hl, List.getElem?_map] at hfg
              obtain ⟨v, hv⟩ := ok.flat e false y hflat l (List.mem_of_getElem? hl)
              subst hv
              cases hl0 : p'.cells[i * 1 + j]? with
              | none => rw [hl0] at hfg; simp at hfg
              | some l0 =>
                rw [hl0] at hfg
                simp only [Option.map_some, Option.some.injEq] at hfg
                have hl1 : l0 = some (.inl v) := by
                  unfold weak at hfg
                  split at hfg
                  · simp at hfg
                  · exact hfg
                have hlt : i * 1 + j < cur.toList.length := by
                  rw [hcells.1]
                  exact (List.getElem?_eq_some_iff.1 hl0).1
                have hcv := hcells.2 (i * 1 + j) l0 _ hl0 (List.getElem?_eq_getElem hlt)
                rw [hl1] at hcv
                have hcv : cur.toList[i * 1 + j] = v := hcv
                refine ⟨v, ?_, rfl⟩
                show c.w.cell? ⟨g, 0 + (i * cx.size e + j), none⟩ = some v
                rw [hsz, Nat.zero_add]
                simp only [World.cell?, hh]
                simp only [← hcv]
                simp
            refine ⟨c', ⟨⟨?_, ?_, fun t2 h2 => h.wf.bound t2 ((hmem t2).1 h2).1, fun t2 h2 => ?_, h.wf.start, fun t2 h2 => h.wf.live t2 ((hmem t2).1 h2).1, h.wf.size⟩, ?_, ?_, by rw [put_defers]; exact h.defers, h.dead, h.frz, fun n hn => ?_, fun q u' hq => ⟨(h.kp q u' hq).1, (put_lo hlo _ (h.kp q u' hq).1).trans (h.kp q u' hq).2⟩, PrOK.nil, PdOK.none⟩, rfl, rfl, rfl, rfl, rfl⟩
            · exact (List.Sublist.map _ List.filter_sublist).nodup h.wf.names
            · exact filter_sub_nodup _ h.wf.nodup
            · obtain ⟨q1, q2⟩ := (hmem t2).1 h2
              have hold := h.wf.rep t2 q1
              unfold TokRep at hold ⊢
              split at hold
              · obtain ⟨hv, hold⟩ := hold
                refine ⟨hv, ?_⟩
                split at hold
                · rename_i hso
                  rw [if_pos hso]
                  exact hold
                · rename_i hso
                  rw [if_neg hso]
                  obtain ⟨hf, us, m, hrow, hl2, hr⟩ := hold
                  exact ⟨hf, us, m, hrow, hl2, fun j l v h1 h2 => RepL_mono cx (fun b hb => (hP.rd b hb).2) (fun b hb => (hP.rd b hb).1) m l v (hr j l v h1 h2)⟩
              · obtain ⟨hf, g2, cur2, e2, hu2, hh2, hr⟩ := hold
                exact ⟨hf, g2, cur2, e2, hu2, hh2, hr.1, fun j a b e1 e2 => repLS_box hP hib (hr.2 j a b e1 e2)⟩
            · refine put_size ?_ o.dst _ _
              rw [List.length_map]
              exact h.size
            · refine put_rep (by rw [List.length_map]; exact h.size) (fun t2 => ?_) o.dst hnew
              have : (st.slots.map (killB p'.nm)).getD t2 junk = killB p'.nm (st.slots.getD t2 junk) := by
                by_cases hlt : t2 < st.slots.length
                · simp [List.getD, hlt]
                · simp [List.getD, List.getElem?_eq_none (Nat.le_of_not_lt hlt), junk, killB]
              rw [this]
              exact killB_rep hP hib (h.rep t2)
            · have hn' : Nm c n := by
                rcases hn with ⟨t2, h2, rfl⟩ | hn | hn
                · exact .inl ⟨t2, ((hmem t2).1 h2).1, rfl⟩
                · exact .inr (.inl hn)
                · exact .inr (.inr hn)
              exact Nat.lt_of_lt_of_le (h.names n hn') (Nat.mul_le_mul_right _ (Nat.le_succ _))
          · simp at hb
        · simp at hb
    · simp at hb
  · simp at hb

end
end Go.VM
