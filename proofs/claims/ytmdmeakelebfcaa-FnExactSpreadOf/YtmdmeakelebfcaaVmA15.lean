/- A part of the proof of FnExactSpreadOf: VmA15. -/
import Derived.Test.YtmdmeakelebfcaaVmA14
namespace Go.VM
open Go.RowKit
section
variable {cx : Cx} {P : Program}

/-! ### Pointers to boxes, handed on -/
/-- A cell that a box may bear when it is handed on. -/
def cellOk {ty : Nat → Type} : L ty → Bool
  | some (.inl v) => leafOk (some (.inl v) : L ty)
  | some (.inr s) => s.own == 0
  | none => false

def rofL {ty : Nat → Type} : L ty → L ty
  | some (.inr s) => some (.inr (ro s.e s.xs))
  | l => l

def rofA {ty : Nat → Type} : A ty → A ty
  | .inl l => .inl (rofL l)
  | .inr l => .inr (l.map rofL)

def rofV {ty : Nat → Type} : V ty → V ty
  | .inl a => .inl (rofA a)
  | v => v

def bnL {ty : Nat → Type} : L ty → List Nat
  | some (.inr s) => if s.own == 1 then [s.nm] else []
  | _ => []

def bnV {ty : Nat → Type} : V ty → List Nat
  | .inl (.inl l) => bnL l
  | .inl (.inr l) => l.flatMap bnL
  | _ => []

theorem bnL_spec {c : Ct cx.ty} {l : L cx.ty} {u : Value} (h : RepLS cx c l u) {n : Nat} (hn : n ∈ bnL l) (hd : n ∉ c.D) : n ∈ c.F ∨ ∃ tk ∈ c.T, tk.nm = n ∧ ∃ s, tk.c = .inl s := by
  unfold bnL at hn
  split at hn
  · rename_i s
    split at hn
    · rename_i h1
      have h1 : s.own = 1 := by simpa using h1
      simp only [List.mem_singleton] at hn
      subst hn
      unfold RepLS at h
      simp only [h1, if_true, hd, if_false] at h
      obtain ⟨_, h⟩ := h
      by_cases h3 : s.nm ∈ c.F
      · exact .inl h3
      · simp only [h3, if_false] at h
        obtain ⟨tk, k1, k2, k3, _⟩ := h
        exact .inr ⟨tk, k1, k2, s, k3⟩
    · simp at hn
  · simp at hn

theorem bnV_spec {c : Ct cx.ty} {v : V cx.ty} {u : Value} (h : RepV cx c v u) {n : Nat} (hn : n ∈ bnV v) (hd : n ∉ c.D) : n ∈ c.F ∨ ∃ tk ∈ c.T, tk.nm = n ∧ ∃ s, tk.c = .inl s := by
  match v, h, hn with
  | .inl (.inl l), h, hn => exact bnL_spec (l := l) h hn hd
  | .inl (.inr l), ⟨us, _, h⟩, hn =>
    obtain ⟨a, ha, hn⟩ := List.mem_flatMap.1 hn
    obtain ⟨j, hj⟩ := List.getElem?_of_mem ha
    have hjl : j < us.length := by rw [h.1]; exact (List.getElem?_eq_some_iff.1 hj).1
    exact bnL_spec (h.2 j a _ hj (List.getElem?_eq_getElem hjl)) hn hd
  | .inr (.inl _), _, hn => simp [bnV] at hn
  | .inr (.inr _), _, hn => simp [bnV] at hn

theorem repL_rof {w : World} {S : Nat → Prop} {n : Nat} {s : SlD cx.ty} {u : Value} (h : RepL cx w S n (some (.inr s)) u) : RepL cx w S n (some (.inr (ro s.e s.xs))) u := by
  cases n with
  | zero => simp [RepL] at h
  | succ n => exact h

theorem repLS_rof {c : Ct cx.ty} {e : Nat} {xs : List (cx.ty e)} {u : Value} (h : ∃ n, RepL cx c.w (Rd c) n (some (.inr (ro e xs))) u) : RepLS cx c (some (.inr (ro e xs))) u := h

theorem rofL_rep {c : Ct cx.ty} {l : L cx.ty} {u : Value} (h : RepLS cx c l u) (hn : ∀ n ∈ bnL l, n ∉ c.D ∧ n ∈ c.F) : RepLS cx c (rofL l) u := by
  match l, h with
  | none, _ => trivial
  | some (.inl v), h => exact h
  | some (.inr s), h =>
    refine repLS_rof ?_
    unfold RepLS at h
    by_cases h1 : s.own = 1
    · have := hn s.nm (by simp [bnL, h1])
      simp only [h1, if_true, this.1, if_false, this.2] at h
      obtain ⟨_, n, h⟩ := h
      exact ⟨n, repL_rof h⟩
    · simp only [h1, if_false] at h
      obtain ⟨n, h⟩ := h
      exact ⟨n, repL_rof h⟩

theorem rofV_rep {c : Ct cx.ty} {v : V cx.ty} {u : Value} (h : RepV cx c v u) (hn : ∀ n ∈ bnV v, n ∉ c.D ∧ n ∈ c.F) : RepV cx c (rofV v) u := by
  match v, h with
  | .inl (.inl l), h => exact rofL_rep (l := l) h hn
  | .inl (.inr l), ⟨us, hu, h⟩ =>
    refine ⟨us, hu, by rw [List.length_map]; exact h.1, fun j a b e1 e2 => ?_⟩
    rw [List.getElem?_map] at e1
    cases e0 : l[j]? with
    | none => rw [e0] at e1; simp at e1
    | some a0 =>
      rw [e0] at e1
      simp only [Option.map_some, Option.some.injEq] at e1
      subst e1
      exact rofL_rep (h.2 j a0 b e0 e2) fun n hn' => hn n (List.mem_flatMap.2 ⟨a0, List.mem_of_getElem? e0, hn'⟩)
  | .inr (.inl _), h => exact h
  | .inr (.inr _), h => exact h

theorem cellOk_arg {c : Ct cx.ty} {l : L cx.ty} {u : Value} (ho : cellOk l = true) (h : RepLS cx c l u) : ArgL cx c.w (Rd c) l u := by
  match l, h, ho with
  | some (.inl v), h, _ => exact h
  | some (.inr s), h, ho =>
    have h0 : s.own = 0 := by simpa [cellOk] using ho
    unfold RepLS at h
    have h1 : ¬ s.own = 1 := by omega
    simp only [h1, if_false] at h
    exact ⟨h0, h⟩

/-! Worlds -/
theorem setRow_twice (w : World) (g : Nat) (a b : Array Value) : (w.setRow g a).setRow g b = w.setRow g b := by
  unfold World.setRow
  cases w with
  | mk heap tape drawn os output =>
    simp only [World.mk.injEq, and_true]
    apply Array.ext
    · simp
    · intro k h1 h2
      simp only [Array.getElem_modify]
      split
      · cases (heap[k]'(by simpa using h1)) <;> rfl
      · rfl

theorem ResL.world {w w1 : World} {S : Nat → Prop} {l : L cx.ty} {u : Value} {f : List Nat} (hS : ∀ b, S b → w1.heap[b]? = w.heap[b]?) (hf : ∀ b ∈ f, w1.heap[b]? = w.heap[b]?) (h : ResL cx w S l u f) : ResL cx w1 S l u f := by
  match l, h with
  | some (.inl v), h => exact h
  | some (.inr s), h =>
    unfold ResL at h ⊢
    by_cases h2 : s.own = 2
    · simp only [h2, if_true] at h ⊢
      obtain ⟨ho, n, h⟩ := h
      exact ⟨ho, n, OwnL_mono cx n _ _ _ hf h⟩
    · simp only [h2, if_false] at h ⊢
      obtain ⟨h0, hf0, n, h⟩ := h
      exact ⟨h0, hf0, n, RepL_mono cx hS (fun _ h => h) n _ u h⟩

theorem ResA.world {w w1 : World} {S : Nat → Prop} {a : A cx.ty} {u : Value} {f : List Nat} (hS : ∀ b, S b → w1.heap[b]? = w.heap[b]?) (hf : ∀ b ∈ f, w1.heap[b]? = w.heap[b]?) (h : ResA cx w S a u f) : ResA cx w1 S a u f := by
  match a, h with
  | .inl l, h => exact ResL.world hS hf h
  | .inr l, ⟨us, fps, hu, hfp, h1, h2, h⟩ =>
    exact ⟨us, fps, hu, hfp, h1, h2, fun j a v g e1 e2 e3 => ResL.world hS (fun b hb => hf b (by rw [hfp]; exact List.mem_flatten.2 ⟨g, List.mem_of_getElem? e3, hb⟩)) (h j a v g e1 e2 e3)⟩

theorem ResV.world {w w1 : World} {A0 NN : Nat → Prop} {l : List (A cx.ty)} {u : Value} (hsz : w1.heap.size = w.heap.size) (hS : ∀ b, A0 b → w1.heap[b]? = w.heap[b]?) (hN : ∀ b, NN b → w1.heap[b]? = w.heap[b]?) (h : ResV cx w A0 NN (.inr (.inl l)) u) : ResV cx w1 A0 NN (.inr (.inl l)) u := by
  obtain ⟨fp, h1, h2, us, fps, hu, hfp, g1, g2, h⟩ := h
  refine ⟨fp, h1, fun b hb => ⟨(h2 b hb).1, by rw [hsz]; exact (h2 b hb).2⟩, us, fps, hu, hfp, g1, g2, fun j a v g e1 e2 e3 => ?_⟩
  have h3 := h j a v g e1 e2 e3
  rw [hsz]
  refine ResA.world (fun b hb => ?_) (fun b hb => ?_) h3
  · rcases hb with hb | hb
    · exact hS b hb
    · exact hN b hb.1
  · exact hN b (h2 b (by rw [hfp]; exact List.mem_flatten.2 ⟨g, List.mem_of_getElem? e3, hb⟩)).1

/-- A box is filled anew. -/
theorem boxSet {st : St cx.ty} {c : Ct cx.ty} {act : Act} (h : RS cx c st act) {tk : Tk cx.ty} (ht : tk ∈ c.T) {nm : Nat} (hn : tk.nm = nm) {cells l : List (L cx.ty)} (hcc : tk.c = .inr cells) {g : Nat} (hu : tk.u = .pointer (some ⟨g, 0, none⟩)) (hfp : tk.fp = []) {cur' : Array Value} {e : TypeId}
    {w2 : World} (hheap : ∀ k, k ≠ g → w2.heap[k]? = c.w.heap[k]?) (hsame : w2.heap.size = c.w.heap.size) (hh : w2.heap[g]? = some (.cells cur' e (0, 0))) (hl : RepLs cx c l cur'.toList) :
    ∃ T', RS cx { c with T := T', w := w2 } { st with slots := st.slots.map (updB nm l) } act := by
  have hg : g ∈ vb tk.u := by rw [hu]; simp [vb]
  have hgb := h.wf.bound tk ht g (List.mem_append.2 (.inl hg))
  let up : Tk cx.ty → Tk cx.ty := fun t2 => if t2.nm = nm then { t2 with c := .inr l } else t2
  have upnm : ∀ t2, (up t2).nm = t2.nm := fun t2 => by simp only [up]; split <;> rfl
  have upu : ∀ t2, (up t2).u = t2.u := fun t2 => by simp only [up]; split <;> rfl
  have upfp : ∀ t2, (up t2).fp = t2.fp := fun t2 => by simp only [up]; split <;> rfl
  have huniq : ∀ t2 ∈ c.T, t2.nm = nm → t2 = tk := fun t2 ht2 hn2 => uniq_tok h.wf ht2 ht (by rw [hn2, hn])
  have hib : ∀ t2 ∈ c.T, t2.nm = nm → ∃ l, t2.c = .inr l := fun t2 ht2 hn2 => by rw [huniq t2 ht2 hn2]; exact ⟨_, hcc⟩
  have hP : PresX (fun n => n = nm) c { c with T := c.T.map up, w := w2 } := by
    refine ⟨fun b hb => ?_, rfl, rfl, fun t2 ht2 hX s hs => ?_, fun t2 ht2 hX l' hl' => ?_⟩
    · have hbg : b ≠ g := fun e => hb.2.2 tk ht (e ▸ hg)
      refine ⟨⟨Nat.lt_of_lt_of_eq hb.1 hsame.symm, hb.2.1, fun t2 ht2 => ?_⟩, hheap b hbg⟩
      obtain ⟨t3, h3, rfl⟩ := List.mem_map.1 ht2
      rw [upu]
      exact hb.2.2 t3 h3
    · exact List.mem_map.2 ⟨t2, ht2, by simp only [up]; rw [if_neg hX]⟩
    · exact ⟨up t2, List.mem_map.2 ⟨t2, ht2, rfl⟩, upnm t2, upu t2, by simp only [up]; rw [if_neg hX]; exact hl'⟩
  refine ⟨c.T.map up, ⟨⟨?_, ?_, ?_, ?_, h.wf.start, ?_, ?_⟩, by simp [h.size], fun t2 => ?_, h.defers, h.dead, h.frz, fun n hn' => ?_, h.kp⟩⟩
  · show ((c.T.map up).map (·.nm)).Nodup
    rw [List.map_map]
    have : ((fun t2 : Tk cx.ty => t2.nm) ∘ up) = fun t2 => t2.nm := funext upnm
    rw [this]; exact h.wf.names
  · show ((c.T.map up).flatMap _).Nodup
    rw [List.flatMap_map]
    have : (fun t2 => vb (up t2).u ++ (up t2).fp) = fun t2 : Tk cx.ty => vb t2.u ++ t2.fp := funext fun t2 => by rw [upu, upfp]
    rw [this]; exact h.wf.nodup
  · intro t2 ht2 b hb
    obtain ⟨t3, h3, rfl⟩ := List.mem_map.1 ht2
    rw [upu, upfp] at hb
    have := h.wf.bound t3 h3 b hb
    exact ⟨this.1, Nat.lt_of_lt_of_eq this.2 hsame.symm⟩
  · intro t2 ht2
    obtain ⟨t3, h3, rfl⟩ := List.mem_map.1 ht2
    have hold := h.wf.rep t3 h3
    by_cases hn3 : t3.nm = nm
    · have e3 := huniq t3 h3 hn3
      subst e3
      unfold TokRep
      simp only [up, hn3, if_true]
      exact ⟨hfp, g, _, e, hu, hh, hl.1, fun j a b e1 e2 => repLS_box hP hib (hl.2 j a b e1 e2)⟩
    · have hup : up t3 = t3 := by simp only [up]; rw [if_neg hn3]
      rw [hup]
      have hblk : ∀ b ∈ vb t3.u ++ t3.fp, w2.heap[b]? = c.w.heap[b]? := fun b hb => hheap b (fun e => disjoint_toks h.wf h3 ht (fun e2 => hn3 (by rw [e2, hn])) hb (by rw [e]; exact List.mem_append.2 (.inl hg)))
      unfold TokRep at hold ⊢
      split at hold
      · rename_i s hs
        obtain ⟨hv, hold⟩ := hold
        refine ⟨hv, ?_⟩
        split at hold
        · rename_i hso
          rw [if_pos hso]
          obtain ⟨n, hold⟩ := hold
          exact ⟨n, OwnL_mono cx n _ _ _ hblk hold⟩
        · rename_i hso
          rw [if_neg hso]
          obtain ⟨hf, us, n, hrow, hl2, hr⟩ := hold
          refine ⟨hf, us, n, ?_, hl2, fun j l v h1 h2 => RepL_mono cx (fun b hb => (hP.rd b hb).2) (fun b hb => (hP.rd b hb).1) n l v (hr j l v h1 h2)⟩
          obtain ⟨hx, hcx⟩ := hrow
          refine ⟨hx, ?_⟩
          rcases hcx with hcx | ⟨g2, cap2, cur2, hv', hg2, hh2, hrest⟩
          · exact .inl hcx
          · refine .inr ⟨g2, cap2, cur2, hv', hg2, ?_, hrest⟩
            rw [hblk g2 (by rw [hv']; simp [vb])]
            exact hh2
      · obtain ⟨hf, g2, cur2, e2, hu2, hh2, hr⟩ := hold
        refine ⟨hf, g2, cur2, e2, hu2, ?_, hr.1, fun j a b e1 e2 => repLS_box hP hib (hr.2 j a b e1 e2)⟩
        rw [hblk g2 (by rw [hu2]; simp [vb])]
        exact hh2
  · intro t2 ht2
    obtain ⟨t3, h3, rfl⟩ := List.mem_map.1 ht2
    rw [upnm]
    exact h.wf.live t3 h3
  · exact fun b hb => h.wf.size b (Nat.le_trans (Nat.le_of_eq hsame.symm) hb)
  · have hbase := updB_rep (cells := l) hP (fun t3 h3 hn3 => ⟨up t3, List.mem_map.2 ⟨t3, h3, rfl⟩, by rw [upnm, hn3], upu t3, by simp only [up]; rw [if_pos hn3]⟩) hib (h.rep t2)
    have : (st.slots.map (updB nm l)).getD t2 junk = updB nm l (st.slots.getD t2 junk) := by
      by_cases hlt : t2 < st.slots.length
      · simp [List.getD, hlt]
      · simp [List.getD, List.getElem?_eq_none (Nat.le_of_not_lt hlt), junk, updB]
    show RepV cx _ ((st.slots.map (updB nm l)).getD t2 junk) _
    rw [this]
    exact hbase
  · rcases hn' with ⟨t2, ht2, rfl⟩ | hn' | hn'
    · obtain ⟨t3, h3, rfl⟩ := List.mem_map.1 ht2
      rw [upnm]
      exact h.names _ (.inl ⟨t3, h3, rfl⟩)
    · exact h.names _ (.inr (.inl hn'))
    · exact h.names _ (.inr (.inr hn'))

/-- The contract: the first thing handed is a pointer to a box; what the box bears comes back behind the results. -/
def SatP (P : Program) (cx : Cx) (f : FuncId) (nres : Nat) (F : List (A cx.ty) → Option (Bool × List (A cx.ty))) : Prop :=
  ∀ (w : World) (A0 : Nat → Prop) (g : Nat) (cur : Array Value) (t : TypeId) (lc : List (L cx.ty)) (l : List (A cx.ty)) (us : List Value) (cs : List (A cx.ty)), (∀ b, A0 b → b < w.heap.size ∧ b ≠ g) → w.heap[g]? = some (.cells cur t (0, 0)) →
    ArgA cx w A0 (.inr lc) (.agg cur) → lc.all cellOk = true → ArgAs cx w A0 l us → F (.inr lc :: l) = some (true, cs) →
    Calls P f (.pointer (some ⟨g, 0, none⟩) :: us).toArray w (fun e w' => ∃ (rs : List Value) (cur' : Array Value), e = .returned (packR rs) ∧ rs.length = nres ∧ (∃ t', w'.heap[g]? = some (.cells cur' t' (0, 0))) ∧ Kept (fun b => w.heap.size ≤ b ∨ b = g) w w' ∧
      ResV cx w' A0 (fun b => w.heap.size ≤ b) (.inr (.inl cs)) (.tuple (rs ++ [Value.agg cur']).toArray))

/-- The contract: what comes back is a pointer to a new box. -/
def SatN (P : Program) (cx : Cx) (f : FuncId) (F : List (A cx.ty) → Option (Bool × List (A cx.ty))) : Prop :=
  ∀ (w : World) (A0 : Nat → Prop) (l : List (A cx.ty)) (us : List Value) (lc : List (L cx.ty)), (∀ b, A0 b → b < w.heap.size) → ArgAs cx w A0 l us → F l = some (true, [.inr lc]) →
    Calls P f us.toArray w (fun e w' => ∃ (g : Nat) (cur : Array Value) (t : TypeId), e = .returned (.pointer (some ⟨g, 0, none⟩)) ∧ w.heap.size ≤ g ∧ w'.heap[g]? = some (.cells cur t (0, 0)) ∧ Below w.heap.size w w' ∧
      ArgA cx w' (fun b => A0 b ∨ (w.heap.size ≤ b ∧ b < w'.heap.size ∧ b ≠ g)) (.inr lc) (.agg cur))

/-- The contract of a function that may throw: whether it does, what it throws, what it hands back. -/
def SatT (P : Program) (cx : Cx) (f : FuncId) (F : List (A cx.ty) → Option (Bool × List (A cx.ty))) : Prop :=
  ∀ (w : World) (A0 : Nat → Prop) (l : List (A cx.ty)) (us : List Value) (thr : Bool) (v : Value) (rs : List (A cx.ty)), (∀ b, A0 b → b < w.heap.size) → ArgAs cx w A0 l us → F l = some (true, .inl (some (.inl (.bool thr))) :: .inl (some (.inl v)) :: rs) →
    Calls P f us.toArray w (fun e w' => Below w.heap.size w w' ∧ bif thr then e = .panicked [{ v := v, recovered := false }] else ∃ u, e = .returned u ∧ ResV cx w' A0 (fun b => w.heap.size ≤ b) (packV rs) u)

def SatOf (P : Program) (cx : Cx) (f : FuncId) (W : WFn cx) : Prop :=
  match W.p with
  | 0 => SatW P cx f W.nres W.n W.F
  | 1 => SatP P cx f W.nres W.F
  | 3 => SatT P cx f W.F
  | _ => SatN P cx f W.F

def KwOk (P : Program) (cx : Cx) (Kw : Kwt cx) : Prop := ∀ f W, Kw f = some W → SatOf P cx f W

def St.appP {ty : Nat → Type} (st : St ty) (d : Option Tmp) (ns : List Nat) (nm : Nat) (v : V ty) (l : List (L ty)) : St ty :=
  { slots := (setO st.slots d v).map (updB nm l), D := st.D, F := ns ++ st.F, ctr := st.ctr + 2, lo := st.lo }

def evCallP {β : Type} (P : Program) (f : FuncId) (W : WFn cx) (st : St cx.ty) (d : Option Tmp) (args : List Operand) (ts : List TypeId) (k : St cx.ty → Option β) : Option β :=
  match args, ts with
  | x :: xs, _ :: ts' =>
    match getV st.slots x, P.funcs[f]?, argVs P cx ts' (xs.map fun y => rofV (getV st.slots y)) with
    | .inr (.inr p), some fn, some (as, []) =>
      if fn.body.isSome && fn.name != "runtime.NumGoroutine" && p.kind == 0 && p.off == 0 && p.i == 0 && p.cells.all cellOk && (xs.flatMap fun y => bnV (getV st.slots y)).all (fun n => !st.D.contains n) then
        match W.F (.inr p.cells :: as) with
        | some (pre, cs) => bif pre then
            (match cs.drop W.nres with
              | [.inr l] => if fitsV (.inr (.inl cs) : V cx.ty) && l.all cellOk then
                  k (st.appP d (xs.flatMap fun y => bnV (getV st.slots y)) p.nm (packV ((bindAs (nmOf (st.ctr + 1) d) cs).take W.nres)) l)
                else none
              | _ => none)
          else none
        | none => none
      else none
    | _, _, _ => none
  | _, _ => none

theorem bindLs_ok {ty : Nat → Type} : ∀ (l : List (L ty)) (nm : Nat), l.all cellOk = true → bindLs nm l = l
  | [], _, _ => rfl
  | a :: r, nm, h => by
    simp only [List.all_cons, Bool.and_eq_true] at h
    simp only [bindLs, bindLs_ok r (nm + 1) h.2]
    congr 1
    match a, h.1 with
    | some (.inl v), _ => rfl
    | some (.inr s), h1 =>
      have h0 : s.own = 0 := by simpa [cellOk] using h1
      simp [bindL, h0]

theorem bindAs_drop {ty : Nat → Type} : ∀ (n : Nat) (cs : List (A ty)) (nm : Nat) {l : List (L ty)}, cs.drop n = [.inr l] → ∃ m, (bindAs nm cs).drop n = [.inr (bindLs m l)]
  | 0, cs, nm, l, h => by
    simp only [List.drop_zero] at h
    subst h
    exact ⟨nm, rfl⟩
  | n + 1, [], nm, l, h => by simp at h
  | n + 1, a :: r, nm, l, h => by
    simp only [bindAs, List.drop_succ_cons] at h ⊢
    exact bindAs_drop n r (nm + 16) h

theorem evCallP_ok (ok : cx.Ok) {β : Type} {o : Oper} {st : St cx.ty} {d : Option Tmp} {f : FuncId} {args : Array Operand} {ts : Array TypeId} {W : WFn cx} (hK : SatP P cx f W.nres W.F)
    (ho : o.op = .call { callee := .value (.func f), args := args, argTypes := ts }) {c : Ct cx.ty} {a : Act} (h : RS cx c st a) (hsm : smallO d = true) (hlo : loO st.lo d = true) {k : St cx.ty → Option β} {r : β}
    (he : evCallP P f W st d args.toList ts.toList k = some r) : Runs P o a.eval c.w (fun u w' => ∃ c' st', k st' = some r ∧ RS cx c' st' (a.put d u) ∧ c'.w = w' ∧ c'.S = c.S ∧ c'.N = c.N ∧ c'.K = c.K ∧ Kept c.N c.w w') := by
  unfold evCallP at he
  split at he
  · rename_i x xs t0 ts' hax hts
    split at he
    · rename_i p fn as hp hfn hargs
      split at he
      · rename_i hc
        simp only [Bool.and_eq_true, bne_iff_ne, ne_eq, beq_iff_eq] at hc
        obtain ⟨⟨⟨⟨⟨⟨hbody, hname⟩, hk0⟩, hoff⟩, hi0⟩, hcell⟩, hns⟩ := hc
        split at he
        · rename_i pre cs hF
          cases pre with
          | false => simp at he
          | true =>
            simp only [cond_true] at he
            split at he
            · rename_i l hdrop
              split at he
              · rename_i hfit
                simp only [Bool.and_eq_true] at hfit
                obtain ⟨hfit, hlc⟩ := hfit
                -- the box
                have hra := eval_rep h.rep x
                rw [hp] at hra
                have hra : RepP cx c p (a.eval x) := hra
                unfold RepP at hra
                simp only [hk0, hi0] at hra
                obtain ⟨tk, ht, hn, hcc, g, hu, hpa⟩ := hra
                rw [hoff] at hpa
                have hpa : a.eval x = .pointer (some ⟨g, 0, none⟩) := hpa
                have htr := h.wf.rep tk ht
                unfold TokRep at htr
                rw [hcc] at htr
                obtain ⟨hfp, g', cur, t, hu', hh, hcells⟩ := htr
                rw [hu] at hu'
                simp only [Value.pointer.injEq, Option.some.injEq, Addr.mk.injEq] at hu'
                obtain ⟨rfl, _⟩ := hu'
                -- what is lent is frozen
                generalize hnse : (xs.flatMap fun y => bnV (getV st.slots y)) = ns at he hns
                have hnsD : ∀ n ∈ ns, n ∉ c.D := fun n hn' => by
                  have := List.all_eq_true.1 hns n hn'
                  rw [h.dead]
                  simpa using this
                have hnsw : ∀ n ∈ ns, n ∈ c.F ∨ ∃ tk ∈ c.T, tk.nm = n ∧ ∃ s, tk.c = .inl s := fun n hn' => by
                  have hd := hnsD n hn'
                  rw [← hnse] at hn'
                  obtain ⟨y, _, hy⟩ := List.mem_flatMap.1 hn'
                  exact bnV_spec (eval_rep h.rep y) hy hd
                have hsl : ∀ tk ∈ c.T, tk.nm ∈ ns → ∃ s, tk.c = .inl s := fun t2 h2 hn2 => by
                  rcases hnsw _ hn2 with h3 | ⟨t3, h3, h4, s, h5⟩
                  · exact absurd h3 (h.wf.live t2 h2).2
                  · have := uniq_tok h.wf h3 h2 h4
                    subst this
                    exact ⟨s, h5⟩
                have hgz := good_frz ok h.wf (nm0 := nmOf st.ctr none) (fn := ns) (r := []) (v := (junk : V cx.ty)) (u := undef) (fun n hn' => by
                  rcases hnsw n hn' with h3 | ⟨t3, h3, h4, _⟩
                  · exact .inr (.inr h3)
                  · exact .inl ⟨t3, h3, h4⟩) hsl (fun _ _ _ _ => trivial)
                have h1 := h.app (d := none) rfl rfl hgz
                have h1 : RS cx (c.nx { v := (junk : V cx.ty), dead := [], frz := ns, live := [], read := [] } c.w (c.T.filter (fun tk => !ns.contains tk.nm))) { slots := st.slots, D := st.D, F := ns ++ st.F, ctr := st.ctr + 1, lo := st.lo } a := h1
                generalize hc1 : (c.nx { v := (junk : V cx.ty), dead := [], frz := ns, live := [], read := [] } c.w (c.T.filter (fun tk => !ns.contains tk.nm))) = c1 at h1
                have c1w : c1.w = c.w := by rw [← hc1]; rfl
                have c1D : c1.D = c.D := by rw [← hc1]; rfl
                have c1F : c1.F = ns ++ c.F := by rw [← hc1]; rfl
                have c1S : c1.S = c.S := by rw [← hc1]; rfl
                have c1N : c1.N = c.N := by rw [← hc1]; rfl
                have c1K : c1.K = c.K := by rw [← hc1]; rfl
                have ht1 : tk ∈ c1.T := by
                  rw [← hc1]
                  refine List.mem_filter.2 ⟨ht, ?_⟩
                  have : tk.nm ∉ ns := fun hd => by
                    obtain ⟨s, hs⟩ := hsl tk ht hd
                    rw [hcc] at hs
                    cases hs
                  simpa using this
                have htr1 := h1.wf.rep tk ht1
                unfold TokRep at htr1
                rw [hcc] at htr1
                obtain ⟨_, g1, cur1, t1, hu1, hh1, hcells1⟩ := htr1
                rw [hu] at hu1
                simp only [Value.pointer.injEq, Option.some.injEq, Addr.mk.injEq] at hu1
                obtain ⟨rfl, _⟩ := hu1
                rw [c1w, hh] at hh1
                simp only [Option.some.injEq, Obj.cells.injEq, and_true] at hh1
                obtain ⟨rfl, rfl⟩ := hh1
                have hgv : g ∈ vb tk.u := by rw [hu]; simp [vb]
                have hgb := h1.wf.bound tk ht1 g (List.mem_append.2 (.inl hgv))
                have hA : ∀ b, Rd c1 b → b < c1.w.heap.size ∧ b ≠ g := fun b hb => ⟨hb.1, fun e => hb.2.2 tk ht1 (e ▸ hgv)⟩
                have harep := (argVs_rep ok h1.wf ts' _ as [] (xs.map a.eval) hargs (by simp) (fun j v u e1 e2 => by
                  simp only [List.getElem?_map] at e1 e2
                  cases hx : xs[j]? with
                  | none => simp [hx] at e1
                  | some y =>
                    simp only [hx, Option.map_some, Option.some.injEq] at e1 e2
                    subst e1; subst e2
                    refine rofV_rep (eval_rep h1.rep y) fun n hn' => ?_
                    have hm : n ∈ ns := by rw [← hnse]; exact List.mem_flatMap.2 ⟨y, List.mem_of_getElem? hx, hn'⟩
                    exact ⟨by rw [c1D]; exact hnsD n hm, by rw [c1F]; exact List.mem_append.2 (.inl hm)⟩) (by simp)).2 rfl
                have hbox : ArgA cx c1.w (Rd c1) (.inr p.cells) (.agg cur) := ⟨cur.toList, by simp, hcells1.1, fun j b u e1 e2 => cellOk_arg (List.all_eq_true.1 hcell b (List.mem_of_getElem? e1)) (hcells1.2 j b u e1 e2)⟩
                unfold Runs
                have hrun : (execOp a.eval o).run P c.w = .ok (.enter f (args.map a.eval)) c.w := by
                  have hb : ¬ fn.body = none := by
                    intro hbb
                    simp [hbb] at hbody
                  have hfv : a.eval (.func f) = .func (.func f) #[] #[] := rfl
                  unfold execOp
                  simp [ho, resolve, Deferred.ofValue, invoke, callFunc, hfv, hfn, hb, hname]
                rw [hrun]
                have hcall := hK c1.w (Rd c1) g cur t p.cells as (xs.map a.eval) cs hA (by rw [c1w]; exact hh) hbox hcell harep hF
                have hargsEq : (.pointer (some ⟨g, 0, none⟩) :: xs.map a.eval).toArray = args.map a.eval := Array.ext' (by rw [Array.toList_map, hax, List.map_cons, hpa])
                rw [hargsEq, c1w] at hcall
                refine hcall.mono fun e w' ⟨rs, cur', hee, hrl, hg', hkept, hresv⟩ => ⟨_, hee, ?_⟩
                -- the world with the box as it was
                obtain ⟨t2, hg'⟩ := hg'
                have hglt : g < w'.heap.size := (Array.getElem?_eq_some_iff.1 hg').1
                obtain ⟨w1, hw1d⟩ : ∃ w1 : World, w1 = { w' with heap := w'.heap.setIfInBounds g (.cells cur t (0, 0)) } := ⟨_, rfl⟩
                have hw1 : w1.heap[g]? = some (.cells cur t (0, 0)) := by rw [hw1d]; simp [hglt]
                have hsz : w1.heap.size = w'.heap.size := by rw [hw1d]; simp
                have hoth : ∀ b, b ≠ g → w1.heap[b]? = w'.heap[b]? := fun b hb => by rw [hw1d]; simp [Array.getElem?_setIfInBounds_ne (Ne.symm hb)]
                have hw1os : w1.os = w'.os ∧ w1.tape = w'.tape ∧ w1.output = w'.output := by rw [hw1d]; exact ⟨rfl, rfl, rfl⟩
                have hbelow : Below c1.w.heap.size c1.w w1 := by
                  rw [c1w]
                  refine ⟨hw1os.1.trans hkept.os, hw1os.2.1.trans hkept.tape, hw1os.2.2.trans hkept.output, by rw [hsz]; exact hkept.size, fun b hb => ?_⟩
                  by_cases hbg : b = g
                  · subst hbg; rw [hw1, hh]
                  · rw [hoth b hbg]
                    exact hkept.block b (by rintro (h3 | h3); · omega
                                            · exact hbg h3)
                rw [c1w] at hgb
                have hres1 := ResV.world (w1 := w1) hsz (fun b hb => hoth b (hA b hb).2) (fun b (hb : c.w.heap.size ≤ b) => hoth b (by omega)) hresv
                obtain ⟨fp, N, hnd, hbd, hN⟩ := ResV.bind (nmOf (st.ctr + 1) d) hfit hres1
                have hbdN : ∀ tk ∈ N, ∀ b ∈ vb tk.u ++ tk.fp, c1.w.heap.size ≤ b ∧ b < w1.heap.size := fun tk ht b hb' => by rw [c1w]; exact hbd b (by rw [← hN.fp]; exact List.mem_flatMap.2 ⟨tk, ht, hb'⟩)
                have hfresh := h1.fresh d
                have hp1 : ∀ v, Pres cx c1 (c1.nx (purR v []) w1 (N ++ c1.T)) := fun v => pres_add (v := v) (r := []) h1.wf hbelow hbdN
                have hNrep : ∀ v, RepV cx (c1.nx (purR v []) w1 (N ++ c1.T)) (bindV (nmOf (st.ctr + 1) d) (.inr (.inl cs))) (.tuple (rs ++ [Value.agg cur']).toArray) := fun v =>
                  hN.rep _ rfl (fun tk ht => ⟨List.mem_append.2 (.inl ht), fun hd => hfresh _ (.inr (.inl hd)) (hN.nm tk ht), fun hd => hfresh _ (.inr (.inr hd)) (hN.nm tk ht)⟩) (fun b hb' => by
                    rcases hb' with hb' | ⟨hb1, hb2, hb3⟩
                    · exact ((hp1 v).rd b hb').1
                    · refine ⟨hb2, .inr (by show c1.N b; exact h1.wf.size b (by rw [c1w]; omega)), fun tk ht hv => ?_⟩
                      rcases List.mem_append.1 ht with ht | ht
                      · exact hb3 (by rw [← hN.fp]; exact List.mem_flatMap.2 ⟨tk, ht, List.mem_append.2 (.inl hv)⟩)
                      · have := (h1.wf.bound tk ht b (List.mem_append.2 (.inl hv))).2
                        rw [c1w] at this
                        omega)
                have hAs : ∀ v, RepAs cx (c1.nx (purR v []) w1 (N ++ c1.T)) (bindAs (nmOf (st.ctr + 1) d) cs) (rs ++ [Value.agg cur']) := fun v => by
                  obtain ⟨us, hus, hrp⟩ := hNrep v
                  have : us = rs ++ [Value.agg cur'] := by
                    simp only [Value.tuple.injEq] at hus
                    have := congrArg Array.toList hus
                    simpa using this.symm
                  rw [← this]; exact hrp
                generalize hv0 : packV ((bindAs (nmOf (st.ctr + 1) d) cs).take W.nres) = v0 at he
                have hgood : Good cx c1 (purR v0 []) (nmOf (st.ctr + 1) d) (packR rs) w1 (N ++ c1.T) := by
                  refine good_add h1.wf hbelow h1.wf.size hN.nm hN.nd (by rw [hN.fp]; exact hnd) hbdN hfresh (fun tk ht => ?_) ?_
                  · obtain ⟨s, k1, k2, k3, n, k4⟩ := hN.tok tk ht
                    unfold TokRep
                    rw [k1]
                    simp only [k2, if_true]
                    exact ⟨k3, n, k4⟩
                  · rw [← hv0]
                    have ht := repAs_take (hAs v0) W.nres
                    have : (rs ++ [Value.agg cur']).take W.nres = rs := by rw [← hrl, List.take_left]
                    rw [this] at ht
                    rw [hv0]
                    rw [← hv0]
                    exact packV_rep (by rw [hv0]; exact ht)
                have h2 := h1.app hsm hlo hgood
                have hl2 : RepLs cx (c1.nx (purR v0 []) w1 (N ++ c1.T)) l cur'.toList := by
                  have hd := repAs_drop (hAs v0) W.nres
                  obtain ⟨m, hm⟩ := bindAs_drop W.nres cs (nmOf (st.ctr + 1) d) hdrop
                  have : (rs ++ [Value.agg cur']).drop W.nres = [Value.agg cur'] := by rw [← hrl, List.drop_left]
                  rw [this, hm, bindLs_ok l m hlc] at hd
                  obtain ⟨us, hus, hrp⟩ := hd.2 0 _ _ rfl rfl
                  have : us = cur'.toList := by
                    simp only [Value.agg.injEq] at hus
                    rw [hus]
                  rw [← this]; exact hrp
                obtain ⟨T', h3⟩ := boxSet h2 (List.mem_append.2 (.inr ht1)) hn hcc hu hfp (w2 := w') (fun k hk => (hoth k hk).symm) hsz.symm hg' hl2
                refine ⟨_, _, he, h3, rfl, c1S, c1N, c1K, ?_⟩
                refine ⟨hkept.os, hkept.tape, hkept.output, hkept.size, fun b hb => hkept.block b ?_⟩
                rintro (h4 | h4)
                · exact hb (h.wf.size b h4)
                · rw [h4] at hb; exact hb (by rw [← c1N]; exact hgb.1)
              · simp at he
            · simp at he
        · simp at he
      · simp at he
    · simp at he
  · simp at he

/-- A function that hands back a pointer to a new box. -/
def evCallN {β : Type} (P : Program) (f : FuncId) (W : WFn cx) (slots : List (V cx.ty)) (args : List Operand) (ts : List TypeId) (nm0 : Nat) (k : Eff cx.ty → Option β) : Option β :=
  match P.funcs[f]?, argVs P cx ts (args.map (getV slots)) with
  | some fn, some (as, []) => if fn.body.isSome && fn.name != "runtime.NumGoroutine" then
      match W.F as with
      | some (pre, [.inr lc]) => bif pre then k (purR (ptrV nm0 lc 0) []) else none
      | _ => none
    else none
  | _, _ => none

theorem evCallN_ok (ok : cx.Ok) {β : Type} {o : Oper} {slots : List (V cx.ty)} {nm0 : Nat} {f : FuncId} {args : Array Operand} {ts : Array TypeId} {W : WFn cx} (hK : SatN P cx f W.F)
    (ho : o.op = .call { callee := .value (.func f), args := args, argTypes := ts }) {k : Eff cx.ty → Option β} {r : β}
    (h : evCallN P f W slots args.toList ts.toList nm0 k = some r) : ∃ ef, k ef = some r ∧ EffOK P cx o slots nm0 ef := by
  unfold evCallN at h
  split at h
  · rename_i fn as hfn hargs
    split at h
    · rename_i hc
      simp only [Bool.and_eq_true, bne_iff_ne, ne_eq] at hc
      obtain ⟨hbody, hname⟩ := hc
      split at h
      · rename_i pre lc hF
        cases pre with
        | false => simp at h
        | true =>
          simp only [cond_true] at h
          refine ⟨_, h, ⟨fun c ρ hw hop _ hrd hf => ?_⟩⟩
          have harep := (argVs_rep ok hw ts.toList _ as [] (args.toList.map ρ) hargs (by simp) (fun j a u h1 h2 => by
            simp only [List.getElem?_map] at h1 h2
            cases hx : args.toList[j]? with
            | none => simp [hx] at h1
            | some x =>
              simp only [hx, Option.map_some, Option.some.injEq] at h1 h2
              subst h1; subst h2
              exact hop x (by
                have : x ∈ args := by simpa using List.mem_of_getElem? hx
                simp [ho, Op.operands, Call.operands, this])) (by simp)).2 rfl
          unfold Runs
          have hrun : (execOp ρ o).run P c.w = .ok (.enter f (args.map ρ)) c.w := by
            have hb : ¬ fn.body = none := by
              intro hbb
              simp [hbb] at hbody
            have hfv := hop (.func f) (by simp [ho, Op.operands, Call.operands])
            have hfv : ρ (.func f) = .func (.func f) #[] #[] := hfv
            unfold execOp
            simp [ho, resolve, Deferred.ofValue, invoke, callFunc, hfv, hfn, hb, hname]
          rw [hrun]
          have hcall := hK c.w (Rd c) as (args.toList.map ρ) lc (fun b hb => hb.1) harep hF
          have hargsEq : (args.toList.map ρ).toArray = args.map ρ := Array.ext' (by simp)
          rw [hargsEq] at hcall
          refine hcall.mono fun e w' ⟨g, cur, t, he, hg1, hg2, hb, hrep⟩ => ⟨_, he, ?_⟩
          have hglt : g < w'.heap.size := (Array.getElem?_eq_some_iff.1 hg2).1
          let tk : Tk cx.ty := { nm := nm0, u := .pointer (some ⟨g, 0, none⟩), fp := [], c := .inr lc }
          have hbd : ∀ t2 ∈ [tk], ∀ b ∈ vb t2.u ++ t2.fp, c.w.heap.size ≤ b ∧ b < w'.heap.size := fun t2 ht b hb' => by
            simp only [List.mem_singleton] at ht
            subst ht
            have : b = g := by simpa [tk, vb] using hb'
            subst this
            exact ⟨hg1, hglt⟩
          have hp := pres_add (v := ptrV nm0 lc 0) (r := []) hw hb hbd
          have hS : ∀ b, (Rd c b ∨ (c.w.heap.size ≤ b ∧ b < w'.heap.size ∧ b ≠ g)) → Rd (c.nx (purR (ptrV nm0 lc 0) []) w' ([tk] ++ c.T)) b := by
            rintro b (hb' | ⟨h1, h2, h3⟩)
            · exact (hp.rd b hb').1
            · refine ⟨h2, .inr (hw.size b h1), fun t2 ht hv => ?_⟩
              rcases List.mem_append.1 ht with ht | ht
              · simp only [List.mem_singleton] at ht
                subst ht
                exact h3 (by simpa [tk, vb] using hv)
              · have := (hw.bound t2 ht b (List.mem_append.2 (.inl hv))).2
                omega
          obtain ⟨us, hus, hul, hur⟩ := hrep
          have huc : us = cur.toList := by
            simp only [Value.agg.injEq] at hus
            rw [hus]
          subst huc
          have hlc : RepLs cx (c.nx (purR (ptrV nm0 lc 0) []) w' ([tk] ++ c.T)) lc cur.toList := ⟨hul, fun j b v e1 e2 => by
            have := hur j b v e1 e2
            match b, this with
            | some (.inl x), this => exact this
            | some (.inr s), ⟨h0, n, this⟩ =>
              unfold RepLS
              have h1 : ¬ s.own = 1 := by omega
              simp only [h1, if_false]
              exact ⟨n, RepL_mono cx (fun _ _ => rfl) hS n _ v this⟩⟩
          refine ⟨[tk] ++ c.T, good_add hw hb hw.size (fun t2 ht => ?_) (by simp) (by simp [tk, vb]) hbd hf (fun t2 ht => ?_) ?_⟩
          · simp only [List.mem_singleton] at ht
            subst ht
            exact ⟨Nat.le_refl _, by show nm0 < nm0 + 64; omega⟩
          · simp only [List.mem_singleton] at ht
            subst ht
            exact ⟨rfl, g, cur, t, rfl, hg2, hlc⟩
          · exact ⟨tk, List.mem_append.2 (.inl (List.mem_singleton.2 rfl)), rfl, rfl, g, rfl, rfl⟩
      · simp at h
    · simp at h
  · simp at h

end
end Go.VM
