/- A part of the proof of FnExactWithoutShare: VmM. -/
import Derived.Test.YtmdmeakelebfcaaVmL
namespace Go.VM
open Go.RowKit
section
variable {cx : Cx} {P : Program}

/-! ### Functions that are handed a pointer to a box, or hand one back -/
/-- A piece that leaves: 'seen': what has left already. -/
def outLf (cx : Cx) (P : Program) (D F : List Nat) (t : TypeId) (seen : List Nat) (l : L cx.ty) : Option (L cx.ty × List Nat) :=
  match l with
  | some (.inl (.slice none 0 0)) => match sliceElem P t with
    | some e => some (ls { own := 2, nm := 0, e := e, o := true, xs := [] }, seen)
    | none => none
  | some (.inl v) => some (lv v, seen)
  | some (.inr s) => if s.own == 1 then
      (if D.contains s.nm || seen.contains s.nm then none
       else if F.contains s.nm then some (ls (ro s.e s.xs), seen)
       else if s.o && cx.flat s.e then some (ls { own := 2, nm := 0, e := s.e, o := true, xs := s.xs }, s.nm :: seen) else none)
    else some (ls (ro s.e s.xs), seen)
  | none => none

def outLsf (cx : Cx) (P : Program) (D F : List Nat) : List TypeId → List Nat → List (L cx.ty) → Option (List (L cx.ty) × List Nat)
  | t :: ts, seen, l :: r => match outLf cx P D F t seen l with
    | some (l', s1) => match outLsf cx P D F ts s1 r with
      | some (r', s2) => some (l' :: r', s2)
      | none => none
    | none => none
  | [], seen, [] => some ([], seen)
  | _, _, _ => none

def outAf (cx : Cx) (P : Program) (D F : List Nat) (t : TypeId) (seen : List Nat) (a : A cx.ty) : Option (A cx.ty × List Nat) :=
  match a with
  | .inl l => match outLf cx P D F t seen l with
    | some (l', s1) => some (.inl l', s1)
    | none => none
  | .inr l => match outLsf cx P D F (leafTypes P 8 t) seen l with
    | some (l', s1) => some (.inr l', s1)
    | none => none

def outAsf (cx : Cx) (P : Program) (D F : List Nat) : List TypeId → List Nat → List (A cx.ty) → Option (List (A cx.ty) × List Nat)
  | t :: ts, seen, l :: r => match outAf cx P D F t seen l with
    | some (l', s1) => match outAsf cx P D F ts s1 r with
      | some (r', s2) => some (l' :: r', s2)
      | none => none
    | none => none
  | [], seen, [] => some ([], seen)
  | _, _, _ => none

structure OSf (c : Ct cx.ty) (seen seen' : List Nat) (fp : List Nat) : Prop where
  src : ∀ b ∈ fp, ∃ tk ∈ c.T, tk.nm ∈ seen' ∧ tk.nm ∉ seen ∧ b ∈ vb tk.u
  nd : fp.Nodup
  grow : ∀ n ∈ seen, n ∈ seen'
  row : ∀ b ∈ fp, ∀ tk ∈ c.T, b ∈ vb tk.u → ∃ s, tk.c = .inl s

theorem OSf.nil (c : Ct cx.ty) (seen : List Nat) : OSf c seen seen [] := ⟨by simp, by simp, fun _ h => h, by simp⟩

theorem OSf.app {c : Ct cx.ty} (h : Wf cx c) {s0 s1 s2 f1 f2 : List Nat} (h1 : OSf c s0 s1 f1) (h2 : OSf c s1 s2 f2) : OSf c s0 s2 (f1 ++ f2) := by
  refine ⟨fun b hb => ?_, ?_, fun n hn => h2.grow n (h1.grow n hn), fun b hb tk ht hv => (List.mem_append.1 hb).elim (fun hb => h1.row b hb tk ht hv) (fun hb => h2.row b hb tk ht hv)⟩
  · rcases List.mem_append.1 hb with hb | hb
    · obtain ⟨tk, k1, k2, k3, k4⟩ := h1.src b hb
      exact ⟨tk, k1, h2.grow _ k2, k3, k4⟩
    · obtain ⟨tk, k1, k2, k3, k4⟩ := h2.src b hb
      exact ⟨tk, k1, k2, fun hs => k3 (h1.grow _ hs), k4⟩
  · rw [List.nodup_append]
    refine ⟨h1.nd, h2.nd, fun a ha b hb he => ?_⟩
    subst he
    obtain ⟨t1, k1, k2, k3, k4⟩ := h1.src a ha
    obtain ⟨t2, m1, m2, m3, m4⟩ := h2.src a hb
    exact disjoint_toks h k1 m1 (fun e => m3 (e ▸ k2)) (List.mem_append.2 (.inl k4)) (List.mem_append.2 (.inl m4))

theorem outLf_spec (ok : cx.Ok) {c : Ct cx.ty} (h : Wf cx c) {D F : List Nat} (hD : ∀ n, n ∈ c.D ↔ n ∈ D) (hF : ∀ n, n ∈ c.F ↔ n ∈ F) {t : TypeId} {seen seen' : List Nat} {l l' : L cx.ty} {u : Value} (hr : RepLS cx c l u) (ho : outLf cx P D F t seen l = some (l', seen')) :
    ∃ fp, ResL cx c.w (Rd c) l' u fp ∧ OSf c seen seen' fp := by
  unfold outLf at ho
  split at ho
  · split at ho
    · simp only [Option.some.injEq, Prod.mk.injEq] at ho
      obtain ⟨rfl, rfl⟩ := ho
      have hr : u = .slice none 0 0 := hr
      subst hr
      refine ⟨[], ?_, OSf.nil c seen⟩
      unfold ResL
      simp only [ls, if_true]
      exact ⟨trivial, 1, [], [], World.ownsRow_nil _ _ _ _, rfl, rfl, rfl, fun j l c f h => by simp at h⟩
    · simp at ho
  · simp only [Option.some.injEq, Prod.mk.injEq] at ho
    obtain ⟨rfl, rfl⟩ := ho
    exact ⟨[], ⟨hr, rfl⟩, OSf.nil c seen⟩
  · rename_i s
    unfold RepLS at hr
    by_cases h1 : s.own = 1
    · simp only [h1, if_true, beq_self_eq_true] at hr ho
      obtain ⟨_, hr⟩ := hr
      split at ho
      · simp at ho
      · rename_i hds
        simp only [Bool.or_eq_true, not_or, Bool.not_eq_true] at hds
        have h2 : s.nm ∉ c.D := by rw [hD]; simpa using hds.1
        have hsn : s.nm ∉ seen := by simpa using hds.2
        simp only [h2, if_false] at hr
        split at ho
        · rename_i hf
          have h3 : s.nm ∈ c.F := by rw [hF]; simpa using hf
          simp only [h3, if_true] at hr
          simp only [Option.some.injEq, Prod.mk.injEq] at ho
          obtain ⟨rfl, rfl⟩ := ho
          obtain ⟨n, hr⟩ := hr
          refine ⟨[], ?_, OSf.nil c seen⟩
          unfold ResL
          simp only [ls, ro]
          rw [if_neg (by decide)]
          exact ⟨trivial, trivial, n, RepL_ro hr⟩
        · rename_i hf
          have h3 : s.nm ∉ c.F := by rw [hF]; simpa using hf
          simp only [h3, if_false] at hr
          obtain ⟨tk, ht, hn, hc, hu⟩ := hr
          split at ho
          · rename_i hso
            simp only [Bool.and_eq_true] at hso
            obtain ⟨hso, hflat⟩ := hso
            simp only [Option.some.injEq, Prod.mk.injEq] at ho
            obtain ⟨rfl, rfl⟩ := ho
            have htr := h.rep tk ht
            unfold TokRep at htr
            rw [hc] at htr
            simp only [hso, if_true] at htr
            obtain ⟨hv, n, htr⟩ := htr
            have hfp0 : tk.fp = [] := by
              have := (flat_of_own ok hflat htr).2
              rw [← hv] at this
              exact List.append_cancel_left (this.trans (List.append_nil _).symm)
            refine ⟨blocks tk, ?_, ⟨fun b hb => ⟨tk, ht, by rw [hn]; exact List.mem_cons_self .., by rw [hn]; exact hsn, by simpa [blocks, hfp0] using hb⟩, ?_, fun n hn => List.mem_cons_of_mem _ hn, fun b hb t2 ht2 hv2 => ?_⟩⟩
            · unfold ResL
              simp only [ls, if_true]
              refine ⟨trivial, n, ?_⟩
              rw [← hu]
              cases n with
              | zero => simp [OwnL] at htr
              | succ n => exact htr
            · have hnd := h.nodup
              obtain ⟨l1, l2, hl⟩ := List.append_of_mem ht
              rw [hl] at hnd
              simp only [List.flatMap_append, List.flatMap_cons] at hnd
              exact (List.nodup_append.1 (List.nodup_append.1 hnd).2.1).1
            · rcases Classical.em (t2.nm = tk.nm) with he | he
              · have := uniq_tok h ht2 ht he
                subst this
                exact ⟨s, hc⟩
              · exact (disjoint_toks h ht2 ht he (List.mem_append.2 (.inl hv2)) hb).elim
          · simp at ho
    · have hb1 : (s.own == 1) = false := by simpa using h1
      simp only [h1, if_false, hb1, Bool.false_eq_true] at hr ho
      simp only [Option.some.injEq, Prod.mk.injEq] at ho
      obtain ⟨rfl, rfl⟩ := ho
      obtain ⟨n, hr⟩ := hr
      refine ⟨[], ?_, OSf.nil c seen⟩
      unfold ResL
      simp only [ls, ro]
      rw [if_neg (by decide)]
      exact ⟨trivial, trivial, n, RepL_ro hr⟩
  · simp at ho

theorem outLsf_spec (ok : cx.Ok) {c : Ct cx.ty} (h : Wf cx c) {D F : List Nat} (hD : ∀ n, n ∈ c.D ↔ n ∈ D) (hF : ∀ n, n ∈ c.F ↔ n ∈ F) : ∀ (ts : List TypeId) (l l' : List (L cx.ty)) (us : List Value) (seen seen' : List Nat), RepLs cx c l us → outLsf cx P D F ts seen l = some (l', seen') →
    ∃ fps, ResLs cx c.w (Rd c) l' us fps ∧ OSf c seen seen' (List.flatten fps)
  | [], [], l', us, seen, seen', hr, ho => by
    simp only [outLsf, Option.some.injEq, Prod.mk.injEq] at ho
    obtain ⟨rfl, rfl⟩ := ho
    exact ⟨[], ⟨hr.1, rfl, fun j a u f h => by simp at h⟩, OSf.nil c seen⟩
  | t :: ts, l :: r, l', us, seen, seen', hr, ho => by
    match us, hr with
    | [], hr => simp [RepLs] at hr
    | u :: us, hr =>
      simp only [outLsf] at ho
      split at ho
      · rename_i l1 s1 e1
        split at ho
        · rename_i r1 s2 e2
          simp only [Option.some.injEq, Prod.mk.injEq] at ho
          obtain ⟨rfl, rfl⟩ := ho
          obtain ⟨f, h1, h2⟩ := outLf_spec ok h hD hF (hr.2 0 l u rfl rfl) e1
          obtain ⟨fps, h3, h4⟩ := outLsf_spec ok h hD hF ts r r1 us s1 s2 ⟨by simpa using hr.1, fun j a b e1 e2 => hr.2 (j + 1) a b (by simpa using e1) (by simpa using e2)⟩ e2
          refine ⟨f :: fps, ⟨by simp [h3.1], by simp [h3.2.1], fun j a b f' e1 e2 e3 => ?_⟩, by rw [List.flatten_cons]; exact h2.app h h4⟩
          cases j with
          | zero =>
            simp only [List.getElem?_cons_zero, Option.some.injEq] at e1 e2 e3
            subst e1; subst e2; subst e3
            exact h1
          | succ j => exact h3.2.2 j a b f' (by simpa using e1) (by simpa using e2) (by simpa using e3)
        · simp at ho
      · simp at ho
  | [], _ :: _, _, _, _, _, _, ho => by simp [outLsf] at ho
  | _ :: _, [], _, _, _, _, _, ho => by simp [outLsf] at ho

theorem outAf_spec (ok : cx.Ok) {c : Ct cx.ty} (h : Wf cx c) {D F : List Nat} (hD : ∀ n, n ∈ c.D ↔ n ∈ D) (hF : ∀ n, n ∈ c.F ↔ n ∈ F) {t : TypeId} {seen seen' : List Nat} {a a' : A cx.ty} {u : Value} (hr : RepA cx c a u) (ho : outAf cx P D F t seen a = some (a', seen')) :
    ∃ fp, ResA cx c.w (Rd c) a' u fp ∧ OSf c seen seen' fp := by
  unfold outAf at ho
  split at ho
  · split at ho
    · rename_i l1 s1 e1
      simp only [Option.some.injEq, Prod.mk.injEq] at ho
      obtain ⟨rfl, rfl⟩ := ho
      exact outLf_spec ok h hD hF hr e1
    · simp at ho
  · split at ho
    · rename_i l1 s1 e1
      simp only [Option.some.injEq, Prod.mk.injEq] at ho
      obtain ⟨rfl, rfl⟩ := ho
      obtain ⟨us, hu, hr⟩ := hr
      obtain ⟨fps, h1, h2⟩ := outLsf_spec ok h hD hF _ _ _ us _ _ hr e1
      exact ⟨_, ⟨us, fps, hu, rfl, h1⟩, h2⟩
    · simp at ho

theorem outAsf_spec (ok : cx.Ok) {c : Ct cx.ty} (h : Wf cx c) {D F : List Nat} (hD : ∀ n, n ∈ c.D ↔ n ∈ D) (hF : ∀ n, n ∈ c.F ↔ n ∈ F) : ∀ (ts : List TypeId) (l l' : List (A cx.ty)) (us : List Value) (seen seen' : List Nat), RepAs cx c l us → outAsf cx P D F ts seen l = some (l', seen') →
    ∃ fps, ResAs cx c.w (Rd c) l' us fps ∧ OSf c seen seen' (List.flatten fps)
  | [], [], l', us, seen, seen', hr, ho => by
    simp only [outAsf, Option.some.injEq, Prod.mk.injEq] at ho
    obtain ⟨rfl, rfl⟩ := ho
    exact ⟨[], ⟨hr.1, rfl, fun j a u f h => by simp at h⟩, OSf.nil c seen⟩
  | t :: ts, l :: r, l', us, seen, seen', hr, ho => by
    match us, hr with
    | [], hr => simp [RepAs] at hr
    | u :: us, hr =>
      simp only [outAsf] at ho
      split at ho
      · rename_i l1 s1 e1
        split at ho
        · rename_i r1 s2 e2
          simp only [Option.some.injEq, Prod.mk.injEq] at ho
          obtain ⟨rfl, rfl⟩ := ho
          obtain ⟨f, h1, h2⟩ := outAf_spec ok h hD hF (hr.2 0 l u rfl rfl) e1
          obtain ⟨fps, h3, h4⟩ := outAsf_spec ok h hD hF ts r r1 us s1 s2 ⟨by simpa using hr.1, fun j a b e1 e2 => hr.2 (j + 1) a b (by simpa using e1) (by simpa using e2)⟩ e2
          refine ⟨f :: fps, ⟨by simp [h3.1], by simp [h3.2.1], fun j a b f' e1 e2 e3 => ?_⟩, by rw [List.flatten_cons]; exact h2.app h h4⟩
          cases j with
          | zero =>
            simp only [List.getElem?_cons_zero, Option.some.injEq] at e1 e2 e3
            subst e1; subst e2; subst e3
            exact h1
          | succ j => exact h3.2.2 j a b f' (by simpa using e1) (by simpa using e2) (by simpa using e3)
        · simp at ho
      · simp at ho
  | [], _ :: _, _, _, _, _, _, ho => by simp [outAsf] at ho
  | _ :: _, [], _, _, _, _, _, ho => by simp [outAsf] at ho


def ptrCells {ty : Nat → Type} (v : V ty) : Option (List (L ty)) :=
  match v with
  | .inr (.inr p) => if p.kind == 0 && p.off == 0 && p.i == 0 && p.cells.all cellOk then some p.cells else none
  | _ => none

theorem ptrCells_spec {c : Ct cx.ty} (hw : Wf cx c) {v : V cx.ty} {u : Value} (h : RepV cx c v u) {l : List (L cx.ty)} (hp : ptrCells v = some l) :
    ∃ tk ∈ c.T, ∃ g cur t, tk.c = .inr l ∧ tk.u = .pointer (some ⟨g, 0, none⟩) ∧ u = .pointer (some ⟨g, 0, none⟩) ∧ c.w.heap[g]? = some (.cells cur t (0, 0)) ∧ l.all cellOk = true ∧ ArgA cx c.w (Rd c) (.inr l) (.agg cur) := by
  unfold ptrCells at hp
  split at hp
  · rename_i p
    split at hp
    · rename_i hc
      simp only [Bool.and_eq_true, beq_iff_eq] at hc
      simp only [Option.some.injEq] at hp
      subst hp
      have h : RepP cx c p u := h
      unfold RepP at h
      simp only [hc.1.1.1, hc.1.1.2, hc.1.2] at h
      obtain ⟨tk, ht, hn, hcc, g, hu, hv⟩ := h
      have hv : u = .pointer (some ⟨g, 0, none⟩) := hv
      have htr := hw.rep tk ht
      unfold TokRep at htr
      rw [hcc] at htr
      obtain ⟨_, g', cur, t, hu', hh, hcells⟩ := htr
      rw [hu] at hu'
      simp only [Value.pointer.injEq, Option.some.injEq, Addr.mk.injEq] at hu'
      obtain ⟨rfl, _⟩ := hu'
      exact ⟨tk, ht, g, cur, t, hcc, hu, hv, hh, hc.2, cur.toList, by simp, hcells.1, fun j b w e1 e2 => cellOk_arg (List.all_eq_true.1 hc.2 b (List.mem_of_getElem? e1)) (hcells.2 j b w e1 e2)⟩
    · simp at hp
  · simp at hp

theorem ArgL.mono {w : World} {S S' : Nat → Prop} (hS : ∀ b, S b → S' b) {l : L cx.ty} {u : Value} (h : ArgL cx w S l u) : ArgL cx w S' l u := by
  match l, h with
  | some (.inl v), h => exact h
  | some (.inr s), ⟨h0, n, h⟩ => exact ⟨h0, n, RepL_mono cx (fun _ _ => rfl) hS n _ u h⟩

theorem ArgL.res {w : World} {S : Nat → Prop} {l : L cx.ty} {u : Value} (h : ArgL cx w S l u) : ResL cx w S l u [] := by
  match l, h with
  | some (.inl v), h => exact ⟨h, rfl⟩
  | some (.inr s), ⟨h0, n, h⟩ =>
    unfold ResL
    have h2 : ¬ s.own = 2 := by omega
    simp only [h2, if_false]
    exact ⟨h0, trivial, n, h⟩

def outP (P : Program) (fn : Func) (st : St cx.ty) : Option (List (A cx.ty)) :=
  match resA P st.slots fn.results.toList, ptrCells (st.slots.getD 0 junk) with
  | some rs, some l => match outAsf cx P st.D st.F fn.resultTypes.toList [] rs with
    | some (as', _) => some (as' ++ [.inr l])
    | none => none
  | _, _ => none

def evFP (P : Program) (ev : Env cx) (lp : Lp cx (List (A cx.ty))) (fn : Func) (args : List (A cx.ty)) : Option (List (A cx.ty)) :=
  match fn.body, args with
  | some code, .inr lc :: rest =>
      evC P ev lp 0 code { slots := ptrV 0 lc 0 :: (rest.map .inl ++ List.replicate (fn.ntmps - (rest.length + 1)) junk), D := [], F := [], ctr := 1, lo := 1 } { n := outP P fn, x := fun _ _ => none, r := outP P fn }
  | _, _ => none

def outN (_P : Program) (fn : Func) (st : St cx.ty) : Option (List (A cx.ty)) :=
  match fn.results.toList with
  | [.tmp t] => match ptrCells (st.slots.getD t junk) with
    | some l => some [.inr l]
    | none => none
  | _ => none

def evFN (P : Program) (ev : Env cx) (lp : Lp cx (List (A cx.ty))) (fn : Func) (args : List (A cx.ty)) : Option (List (A cx.ty)) :=
  match fn.body with
  | some code => evC P ev lp 0 code { slots := args.map .inl ++ List.replicate (fn.ntmps - args.length) junk, D := [], F := [], ctr := 1 } { n := outN P fn, x := fun _ _ => none, r := outN P fn }
  | none => none


theorem satp_of_ev (ok : cx.Ok) (hZ : cx.POk P) (hm : P.follows .mixedOrders = true) {f : FuncId} {fn : Func} (hf : P.funcs[f]? = some fn) {F : List (A cx.ty) → Option (Bool × List (A cx.ty))}
    (h : ∀ as cs, F as = some (true, cs) → ∃ (ev : Env cx) (L : Nat), KOk P cx ev.Kc ∧ KwOk P cx ev.Kw ∧ evFP P ev (loopN L) fn as = some cs) : SatP P cx f fn.results.size F := by
  intro w A0 g cur t lc l us cs hA hg hbox hcell hargs hF
  obtain ⟨ev, L, hK, hKw, hev⟩ := h _ cs hF
  unfold evFP at hev
  split at hev
  · rename_i code lc' rest hcode hl
    simp only [List.cons.injEq, Sum.inr.injEq] at hl
    obtain ⟨rfl, rfl⟩ := hl
    have hgl : g < w.heap.size := (Array.getElem?_eq_some_iff.1 hg).1
    let tk : Tk cx.ty := { nm := 0, u := .pointer (some ⟨g, 0, none⟩), fp := [], c := .inr lc }
    let c : Ct cx.ty := { T := [tk], D := [], F := [], w := w, S := A0, N := fun b => w.heap.size ≤ b ∨ b = g, K := [(0, .pointer (some ⟨g, 0, none⟩))] }
    have hvb : vb tk.u ++ tk.fp = [g] := by simp [tk, vb]
    have hrd : ∀ b, A0 b → Rd c b := fun b hb => ⟨(hA b hb).1, .inl hb, fun t2 ht => by
      simp only [c, List.mem_singleton] at ht
      subst ht
      have := (hA b hb).2
      simpa [tk, vb] using this⟩
    obtain ⟨us0, hus0, hlen0, hrep0⟩ := hbox
    have hus0 : us0 = cur.toList := by
      simp only [Value.agg.injEq] at hus0
      rw [hus0]
    subst hus0
    have hwf : Wf cx c := by
      refine ⟨by simp [c], by simp [c, hvb], fun t2 ht b hb => ?_, fun t2 ht => ?_, fun b hb => ?_, fun t2 _ => ⟨by simp [c], by simp [c]⟩, fun b hb => .inl hb⟩
      · simp only [c, List.mem_singleton] at ht
        subst ht
        rw [hvb] at hb
        simp only [List.mem_singleton] at hb
        subst hb
        exact ⟨.inr rfl, hgl⟩
      · simp only [c, List.mem_singleton] at ht
        subst ht
        exact ⟨rfl, g, cur, t, rfl, hg, hlen0, fun j a u e1 e2 => ArgL.rep hrd (hrep0 j a u e1 e2)⟩
      · have := hA b hb
        show ¬ (w.heap.size ≤ b ∨ b = g)
        omega
    refine calls_of_wp hf hcode ?_
    refine evC_ok ok hZ ev L hK hKw hm (W := w) (S := A0) (N := fun b => w.heap.size ≤ b ∨ b = g) (KK := c.K) code 0 _ _ (fun e c' st' a' h1 h2 h3 h4 h5 => ?_) _ c _ ⟨hwf, ?_, fun t => ?_, rfl, fun n => by simp [c], fun n => by simp [c], fun n hn => ?_, fun p u hp => ?_⟩ rfl ⟨rfl, rfl⟩ (Kept.refl _ _) hev
    · have fin : outP P fn st' = some cs → a'.defers = [] ∧ ∃ v, (results fn a'.tmps).run P c'.w = .ok v c'.w ∧ (∃ (rs : List Value) (cur' : Array Value), Ending.returned v = .returned (packR rs) ∧ rs.length = fn.results.size ∧ (∃ t', c'.w.heap[g]? = some (.cells cur' t' (0, 0))) ∧ Kept (fun b => w.heap.size ≤ b ∨ b = g) w c'.w ∧
            ResV cx c'.w A0 (fun b => w.heap.size ≤ b) (.inr (.inl cs)) (.tuple (rs ++ [Value.agg cur']).toArray)) := by
        intro ho
        unfold outP at ho
        split at ho
        · rename_i rs l' e1 e2
          split at ho
          · rename_i as' s1 e3
            simp only [Option.some.injEq] at ho
            subst ho
            obtain ⟨ur, h6, h7⟩ := resA_spec (P := P) ok h1.wf h1.rep _ _ e1
            obtain ⟨fps, h8, h9⟩ := outAsf_spec ok h1.wf h1.dead h1.frz _ _ _ _ _ _ h7 e3
            have hk0 : a'.tmps.getD 0 undef = .pointer (some ⟨g, 0, none⟩) := (h1.kp 0 (.pointer (some ⟨g, 0, none⟩)) (by rw [h3.2]; exact List.mem_singleton.2 rfl)).2
            obtain ⟨t2, ht2, g2, cur', t', hc2, hu2, hv2, hh2, _, hcells⟩ := ptrCells_spec h1.wf (h1.rep 0) e2
            rw [hk0] at hv2
            simp only [Value.pointer.injEq, Option.some.injEq, Addr.mk.injEq] at hv2
            obtain ⟨rfl, _⟩ := hv2
            have hgv : g ∈ vb t2.u := by rw [hu2]; simp [vb]
            have hfpN : ∀ b ∈ List.flatten fps, w.heap.size ≤ b ∧ b < c'.w.heap.size := fun b hb => by
              obtain ⟨t3, k1, k2, k3, k4⟩ := h9.src b hb
              have hbd := h1.wf.bound t3 k1 b (List.mem_append.2 (.inl k4))
              refine ⟨?_, hbd.2⟩
              have hN := hbd.1
              rw [h3.1] at hN
              rcases hN with hN | hN
              · exact hN
              · obtain ⟨s, hs⟩ := h9.row b hb t2 ht2 (by rw [hN]; exact hgv)
                rw [hc2] at hs
                cases hs
            have hS : ∀ b, Rd c' b → (A0 b ∨ (w.heap.size ≤ b ∧ b < c'.w.heap.size ∧ b ∉ List.flatten fps)) := fun b hb => by
              obtain ⟨b1, b2, b3⟩ := hb
              rcases b2 with b2 | b2
              · rw [h2] at b2; exact .inl b2
              · rw [h3.1] at b2
                rcases b2 with b2 | b2
                · refine .inr ⟨b2, b1, fun hb => ?_⟩
                  obtain ⟨t3, k1, _, _, k4⟩ := h9.src b hb
                  exact b3 t3 k1 k4
                · exact absurd hgv (b2 ▸ b3 t2 ht2)
            refine ⟨h1.defers, _, ?_, ur, cur', rfl, ?_, ⟨t', hh2⟩, h4, List.flatten fps, h9.nd, hfpN, ur ++ [Value.agg cur'], fps ++ [[]], rfl, by simp, ?_, ?_, fun j a b f g1 g2 g3 => ?_⟩
            · rw [results_eq]
              simp only [Sem.run_bind, h6, Result.andThen_ok, Sem.run_pure]
              rfl
            · rw [h7.1, resA_length _ _ _ e1]; simp
            · simp [h8.1]
            · simp [h8.2.1]
            · by_cases hj : j < as'.length
              · rw [List.getElem?_append_left hj] at g1
                rw [List.getElem?_append_left (by rw [h8.1]; exact hj)] at g2
                rw [List.getElem?_append_left (by rw [h8.2.1]; exact hj)] at g3
                exact ResA_mono hS (h8.2.2 j a b f g1 g2 g3)
              · rw [List.getElem?_append_right (by omega)] at g1
                rw [List.getElem?_append_right (by rw [h8.1]; omega), h8.1] at g2
                rw [List.getElem?_append_right (by rw [h8.2.1]; omega), h8.2.1] at g3
                cases hjj : j - as'.length with
                | zero =>
                  rw [hjj] at g1 g2 g3
                  simp only [List.getElem?_cons_zero, Option.some.injEq] at g1 g2 g3
                  subst g1; subst g2; subst g3
                  obtain ⟨us1, k1, k2, k3⟩ := hcells
                  refine ⟨us1, l'.map (fun _ => []), k1, ?_, k2, by simp, fun i x y z m1 m2 m3 => ?_⟩
                  · exact (flatten_nil fun f hf' => by obtain ⟨_, _, rfl⟩ := List.mem_map.1 hf'; rfl).symm
                  · rw [List.getElem?_map] at m3
                    rw [m1] at m3
                    simp only [Option.map_some, Option.some.injEq] at m3
                    subst m3
                    exact (ArgL.mono hS (k3 i x y m1 m2)).res
                | succ k => rw [hjj] at g1; simp at g1
          · simp at ho
        · simp at ho
      cases e with
      | normal => exact fin h5
      | ret => exact fin h5
      | exit i => simp [Kn.on] at h5
      | _ => simp [Kn.on] at h5
    · simp [hargs.1]; omega
    · show RepV cx c _ _
      cases t with
      | zero =>
        have e1 : (ptrV 0 lc 0 :: (l.map Sum.inl ++ List.replicate (fn.ntmps - (l.length + 1)) (junk : V cx.ty))).getD 0 junk = ptrV 0 lc 0 := rfl
        have e2 : ((Value.pointer (some ⟨g, 0, none⟩) :: us).toArray ++ Array.replicate (fn.ntmps - (Value.pointer (some ⟨g, 0, none⟩) :: us).toArray.size) undef).getD 0 undef = .pointer (some ⟨g, 0, none⟩) := by
          simp [Array.getD_eq_getD_getElem?, Array.getElem?_append]
        rw [e1, e2]
        exact ⟨tk, List.mem_singleton.2 rfl, rfl, rfl, g, rfl, rfl⟩
      | succ t =>
        by_cases ht : t < l.length
        · have htu : t < us.length := by rw [hargs.1]; exact ht
          have e1 : (ptrV 0 lc 0 :: (l.map Sum.inl ++ List.replicate (fn.ntmps - (l.length + 1)) (junk : V cx.ty))).getD (t + 1) junk = .inl l[t] := by
            simp [List.getD, List.getElem?_append_left, ht]
          have e2 : ((Value.pointer (some ⟨g, 0, none⟩) :: us).toArray ++ Array.replicate (fn.ntmps - (Value.pointer (some ⟨g, 0, none⟩) :: us).toArray.size) undef).getD (t + 1) undef = us[t] := by
            simp [Array.getD_eq_getD_getElem?, Array.getElem?_append, htu]
          rw [e1, e2]
          exact ArgA.rep hrd (hargs.2 t _ _ (List.getElem?_eq_getElem ht) (List.getElem?_eq_getElem htu))
        · have e1 : (ptrV 0 lc 0 :: (l.map Sum.inl ++ List.replicate (fn.ntmps - (l.length + 1)) (junk : V cx.ty))).getD (t + 1) junk = junk := by
            simp only [List.getD, List.getElem?_cons_succ]
            rw [List.getElem?_append_right (by simp; omega)]
            simp only [List.length_map, List.getElem?_replicate]
            split <;> rfl
          rw [e1]
          trivial
    · rcases hn with ⟨t2, ht, rfl⟩ | hn | hn
      · simp only [c, List.mem_singleton] at ht
        subst ht
        show 0 < 1 * 65536
        omega
      · simp [c] at hn
      · simp [c] at hn
    · simp only [c, List.mem_singleton, Prod.mk.injEq] at hp
      obtain ⟨rfl, rfl⟩ := hp
      refine ⟨by show 0 < 1; omega, ?_⟩
      show ((Value.pointer (some ⟨g, 0, none⟩) :: us).toArray ++ Array.replicate (fn.ntmps - (Value.pointer (some ⟨g, 0, none⟩) :: us).toArray.size) undef).getD 0 undef = _
      simp [Array.getD_eq_getD_getElem?, Array.getElem?_append]
  · simp at hev

theorem sat_p {P : Program} {cx : Cx} (ok : cx.Ok) (hZ : cx.POk P) (hm : P.follows .mixedOrders = true) {f : FuncId} {fn : Func} (hf : P.funcs[f]? = some fn) {nres : Nat} (hnr : fn.results.size = nres) {X R : Type} (a : Args cx.ty X) (enc : R → List (A cx.ty)) (d : R) (m : X → Option R)
    (ev : Env cx) (hK : KOk P cx ev.Kc) (hKw : KwOk P cx ev.Kw) (g : Nat → X → Option R) (he : ∀ L x, evFP P ev (loopN L) fn (a.enc x) = (g L x).map enc) (hg : ∀ x t, m x = some t → ∃ L, g L x = some t) :
    SatP P cx f nres (fnW a enc d m) := by
  subst hnr
  refine satp_of_ev ok hZ hm hf fun as r h => ?_
  obtain ⟨x, t, rfl, hx, rfl⟩ := fnW_inv h
  obtain ⟨L, hL⟩ := hg x t hx
  exact ⟨ev, L, hK, hKw, by rw [he, hL]; rfl⟩

theorem satn_of_ev (ok : cx.Ok) (hZ : cx.POk P) (hm : P.follows .mixedOrders = true) {f : FuncId} {fn : Func} (hf : P.funcs[f]? = some fn) {F : List (A cx.ty) → Option (Bool × List (A cx.ty))}
    (h : ∀ as cs, F as = some (true, cs) → ∃ (ev : Env cx) (L : Nat), KOk P cx ev.Kc ∧ KwOk P cx ev.Kw ∧ evFN P ev (loopN L) fn as = some cs) : SatN P cx f F := by
  intro w A0 l us lc hA hargs hF
  obtain ⟨ev, L, hK, hKw, hev⟩ := h _ _ hF
  unfold evFN at hev
  split at hev
  · rename_i code hcode
    let c : Ct cx.ty := { T := [], D := [], F := [], w := w, S := A0, N := fun b => w.heap.size ≤ b, K := [] }
    have hwf : Wf cx c := ⟨by simp [c], by simp [c], by simp [c], by simp [c], fun b hb => by have := hA b hb; show ¬ w.heap.size ≤ b; omega, by simp [c], fun b hb => hb⟩
    have hrd : ∀ b, A0 b → Rd c b := fun b hb => ⟨hA b hb, .inl hb, by simp [c]⟩
    refine calls_of_wp hf hcode ?_
    refine evC_ok ok hZ ev L hK hKw hm (W := w) (S := A0) (N := fun b => w.heap.size ≤ b) (KK := []) code 0 _ _ (fun e c' st' a' h1 h2 h3 h4 h5 => ?_) _ c _ ⟨hwf, ?_, fun t => ?_, rfl, fun n => by simp [c], fun n => by simp [c], fun n hn => ?_, fun p u hp => by simp [c] at hp⟩ rfl ⟨rfl, rfl⟩ (Kept.refl _ _) hev
    · have fin : outN P fn st' = some [.inr lc] → a'.defers = [] ∧ ∃ v, (results fn a'.tmps).run P c'.w = .ok v c'.w ∧ (∃ (g : Nat) (cur : Array Value) (t : TypeId), Ending.returned v = .returned (.pointer (some ⟨g, 0, none⟩)) ∧ w.heap.size ≤ g ∧ c'.w.heap[g]? = some (.cells cur t (0, 0)) ∧ Below w.heap.size w c'.w ∧
            ArgA cx c'.w (fun b => A0 b ∨ (w.heap.size ≤ b ∧ b < c'.w.heap.size ∧ b ≠ g)) (.inr lc) (.agg cur)) := by
        intro ho
        unfold outN at ho
        split at ho
        · rename_i t0 hr0
          split at ho
          · rename_i l' e2
            simp only [Option.some.injEq, List.cons.injEq, Sum.inr.injEq, and_true] at ho
            subst ho
            obtain ⟨t2, ht2, g, cur, t, hc2, hu2, hv2, hh2, _, us1, k1, k2, k3⟩ := ptrCells_spec h1.wf (h1.rep t0) e2
            have hgv : g ∈ vb t2.u := by rw [hu2]; simp [vb]
            have hgb := h1.wf.bound t2 ht2 g (List.mem_append.2 (.inl hgv))
            rw [h3.1] at hgb
            have hS : ∀ b, Rd c' b → (A0 b ∨ (w.heap.size ≤ b ∧ b < c'.w.heap.size ∧ b ≠ g)) := fun b hb => by
              obtain ⟨b1, b2, b3⟩ := hb
              rcases b2 with b2 | b2
              · rw [h2] at b2; exact .inl b2
              · rw [h3.1] at b2
                exact .inr ⟨b2, b1, fun e => absurd hgv (e ▸ b3 t2 ht2)⟩
            refine ⟨h1.defers, a'.tmps.getD t0 undef, ?_, g, cur, t, by rw [hv2], hgb.1, hh2, h4.low, us1, k1, k2, fun j a u m1 m2 => ArgL.mono hS (k3 j a u m1 m2)⟩
            rw [results_eq, hr0]
            simp only [List.mapM_cons, List.mapM_nil, readR, Sem.run_bind, Sem.run_pure, Result.andThen_ok]
            rfl
          · simp at ho
        · simp at ho
      cases e with
      | normal => exact fin h5
      | ret => exact fin h5
      | _ => simp [Kn.on] at h5
    · simp [hargs.1]
    · show RepV cx c _ _
      by_cases ht : t < l.length
      · have htu : t < us.length := by rw [hargs.1]; exact ht
        have e1 : (l.map Sum.inl ++ List.replicate (fn.ntmps - l.length) (junk : V cx.ty)).getD t junk = .inl l[t] := by
          simp [List.getD, List.getElem?_append_left, ht]
        have e2 : (us.toArray ++ Array.replicate (fn.ntmps - us.toArray.size) undef).getD t undef = us[t] := by
          simp [Array.getD_eq_getD_getElem?, Array.getElem?_append, htu]
        rw [e1, e2]
        exact ArgA.rep hrd (hargs.2 t _ _ (List.getElem?_eq_getElem ht) (List.getElem?_eq_getElem htu))
      · have e1 : (l.map Sum.inl ++ List.replicate (fn.ntmps - l.length) (junk : V cx.ty)).getD t junk = junk := by
          simp only [List.getD]
          rw [List.getElem?_append_right (by simp; omega)]
          simp only [List.length_map, List.getElem?_replicate]
          split <;> rfl
        rw [e1]
        trivial
    · rcases hn with ⟨tk, ht, _⟩ | hn | hn
      · simp [c] at ht
      · simp [c] at hn
      · simp [c] at hn
  · simp at hev

theorem sat_n {P : Program} {cx : Cx} (ok : cx.Ok) (hZ : cx.POk P) (hm : P.follows .mixedOrders = true) {f : FuncId} {fn : Func} (hf : P.funcs[f]? = some fn) {X R : Type} (a : Args cx.ty X) (enc : R → List (A cx.ty)) (d : R) (m : X → Option R)
    (ev : Env cx) (hK : KOk P cx ev.Kc) (hKw : KwOk P cx ev.Kw) (g : Nat → X → Option R) (he : ∀ L x, evFN P ev (loopN L) fn (a.enc x) = (g L x).map enc) (hg : ∀ x t, m x = some t → ∃ L, g L x = some t) :
    SatN P cx f (fnW a enc d m) := by
  refine satn_of_ev ok hZ hm hf fun as r h => ?_
  obtain ⟨x, t, rfl, hx, rfl⟩ := fnW_inv h
  obtain ⟨L, hL⟩ := hg x t hx
  exact ⟨ev, L, hK, hKw, by rw [he, hL]; rfl⟩

/-- A call whose end is tested. -/
def tst {α β : Type} (o : Option α) (d : α) (K : α → Option β) : Option β := bif o.isSome then K (o.getD d) else none
theorem map_tst {α β γ : Type} (o : Option α) (d : α) (K : α → Option β) (f : β → γ) : (tst o d K).map f = tst o d (fun t => (K t).map f) := by
  cases o <;> rfl
theorem tst_some {α β : Type} (v : α) (d : α) (K : α → Option β) : tst (some v) d K = K v := rfl

end
end Go.VM
