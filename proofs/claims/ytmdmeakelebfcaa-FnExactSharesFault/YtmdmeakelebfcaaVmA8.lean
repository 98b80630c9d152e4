/- A part of the proof of FnExactSharesFault: VmA8. -/
import Derived.Test.YtmdmeakelebfcaaVmA7
namespace Go.VM
open Go.RowKit
section
variable {cx : Cx} {P : Program}

/-! ### Calls of functions that write into what they are handed -/
def packR (rs : List Value) : Value := if h : rs.length = 1 then rs[0] else .tuple rs.toArray

/-- The contract: the first 'n' things handed are the callee's while it runs; they come back behind the results. -/
def SatW (P : Program) (cx : Cx) (f : FuncId) (nres n : Nat) (F : List (A cx.ty) → Option (Bool × List (A cx.ty))) : Prop :=
  ∀ (w : World) (l : List (A cx.ty)) (us : List Value) (fps : List (List Nat)) (cs : List (A cx.ty)), ResAs cx w (fun _ => False) l us fps → (List.flatten fps).Nodup → (∀ b ∈ List.flatten fps, b < w.heap.size) → F l = some (true, cs) →
    Calls P f us.toArray w (fun e w' => ∃ rs : List Value, e = .returned (packR rs) ∧ rs.length = nres ∧ Kept (fun b => w.heap.size ≤ b ∨ b ∈ List.flatten fps) w w' ∧
      ResV cx w' (fun _ => False) (fun b => w.heap.size ≤ b ∨ b ∈ List.flatten fps) (.inr (.inl cs)) (.tuple (rs ++ us.take n).toArray))

/-- A piece that is handed over whole, and its name. -/
def giveL (cx : Cx) (P : Program) (t : TypeId) (l : L cx.ty) : Option (L cx.ty × List Nat) :=
  match l with
  | some (.inl (.slice none 0 0)) => match sliceElem P t with
    | some e => some (ls { own := 2, nm := 0, e := e, o := true, xs := [] }, [])
    | none => none
  | some (.inl v) => some (lv v, [])
  | some (.inr s) => if s.own == 1 && s.o && cx.flat s.e then some (ls { own := 2, nm := 0, e := s.e, o := true, xs := s.xs }, [s.nm]) else none
  | none => none

def giveLs (cx : Cx) (P : Program) : List TypeId → List (L cx.ty) → Option (List (L cx.ty) × List Nat)
  | t :: ts, l :: r => match giveL cx P t l, giveLs cx P ts r with
    | some (a, n), some (as, ns) => some (a :: as, n ++ ns)
    | _, _ => none
  | [], [] => some ([], [])
  | _, _ => none

def giveA (cx : Cx) (P : Program) (t : TypeId) (a : A cx.ty) : Option (A cx.ty × List Nat) :=
  match a with
  | .inl l => match giveL cx P t l with
    | some (a, n) => some (.inl a, n)
    | none => none
  | .inr l => match giveLs cx P (leafTypes P 8 t) l with
    | some (as, n) => some (.inr as, n)
    | none => none

def giveVs (cx : Cx) (P : Program) : List TypeId → List (V cx.ty) → Option (List (A cx.ty) × List Nat)
  | t :: ts, .inl a :: r => match giveA cx P t a, giveVs cx P ts r with
    | some (a, n), some (as, ns) => some (a :: as, n ++ ns)
    | _, _ => none
  | [], [] => some ([], [])
  | _, _ => none

/-- The blocks of the things named, in their order. -/
def Gives (c : Ct cx.ty) (ns : List Nat) (fp : List Nat) : Prop := ∃ tks : List (Tk cx.ty), tks.map (·.nm) = ns ∧ (∀ tk ∈ tks, tk ∈ c.T ∧ tk.fp = [] ∧ ∃ s, tk.c = .inl s) ∧ fp = tks.flatMap blocks

theorem Gives.nil (c : Ct cx.ty) : Gives c [] [] := ⟨[], rfl, by simp, rfl⟩
theorem Gives.app {c : Ct cx.ty} {a b f g : List Nat} (h1 : Gives c a f) (h2 : Gives c b g) : Gives c (a ++ b) (f ++ g) := by
  obtain ⟨t1, p1, q1, r1⟩ := h1
  obtain ⟨t2, p2, q2, r2⟩ := h2
  exact ⟨t1 ++ t2, by simp [p1, p2], fun tk ht => (List.mem_append.1 ht).elim (q1 tk) (q2 tk), by rw [List.flatMap_append, r1, r2]⟩

theorem giveL_rep (ok : cx.Ok) {c : Ct cx.ty} (hw : Wf cx c) {t : TypeId} {l l' : L cx.ty} {n : List Nat} (ha : giveL cx P t l = some (l', n)) {u : Value} (h : RepLS cx c l u) (hd : ∀ k ∈ n, k ∉ c.D ∧ k ∉ c.F) :
    ∃ fp, ResL cx c.w (fun _ => False) l' u fp ∧ Gives c n fp := by
  unfold giveL at ha
  split at ha
  · split at ha
    · simp only [Option.some.injEq, Prod.mk.injEq] at ha
      obtain ⟨rfl, rfl⟩ := ha
      have h : u = .slice none 0 0 := h
      subst h
      refine ⟨[], ?_, Gives.nil c⟩
      unfold ResL
      simp only [ls, if_true]
      exact ⟨trivial, 1, [], [], World.ownsRow_nil _ _ _ _, rfl, rfl, rfl, fun j l c f h => by simp at h⟩
    · simp at ha
  · simp only [Option.some.injEq, Prod.mk.injEq] at ha
    obtain ⟨rfl, rfl⟩ := ha
    exact ⟨[], ⟨h, rfl⟩, Gives.nil c⟩
  · rename_i s
    split at ha
    · rename_i hc
      simp only [Bool.and_eq_true, beq_iff_eq] at hc
      simp only [Option.some.injEq, Prod.mk.injEq] at ha
      obtain ⟨rfl, rfl⟩ := ha
      have h2 := hd s.nm (by simp)
      unfold RepLS at h
      simp only [hc.1.1, if_true, h2.1, h2.2, if_false] at h
      obtain ⟨_, tk, ht, hn, hcc, hu⟩ := h
      have htr := hw.rep tk ht
      unfold TokRep at htr
      rw [hcc] at htr
      simp only [hc.1.2, if_true] at htr
      obtain ⟨hv, m, htr⟩ := htr
      have hfp0 : tk.fp = [] := by
        have := (flat_of_own ok hc.2 htr).2
        rw [← hv] at this
        exact List.append_cancel_left (this.trans (List.append_nil _).symm)
      refine ⟨blocks tk, ?_, [tk], by simp [hn], by simp only [List.mem_singleton]; rintro _ rfl; exact ⟨ht, hfp0, s, hcc⟩, by simp⟩
      unfold ResL
      simp only [ls, if_true]
      refine ⟨trivial, m, ?_⟩
      rw [← hu]
      cases m with
      | zero => simp [OwnL] at htr
      | succ m => exact htr
    · simp at ha
  · simp at ha

theorem giveLs_rep (ok : cx.Ok) {c : Ct cx.ty} (hw : Wf cx c) : ∀ (ts : List TypeId) (l l' : List (L cx.ty)) (n : List Nat) (us : List Value), giveLs cx P ts l = some (l', n) → RepLs cx c l us → (∀ k ∈ n, k ∉ c.D ∧ k ∉ c.F) →
    ∃ fps, ResLs cx c.w (fun _ => False) l' us fps ∧ Gives c n (List.flatten fps)
  | [], [], l', n, us, ha, h, _ => by
    simp only [giveLs, Option.some.injEq, Prod.mk.injEq] at ha
    obtain ⟨rfl, rfl⟩ := ha
    exact ⟨[], ⟨h.1, rfl, fun j a u f h1 => by simp at h1⟩, Gives.nil c⟩
  | t :: ts, l :: r, l', n, us, ha, h, hd => by
    simp only [giveLs] at ha
    split at ha
    · rename_i a n1 as ns e1 e2
      simp only [Option.some.injEq, Prod.mk.injEq] at ha
      obtain ⟨rfl, rfl⟩ := ha
      match us, h with
      | [], h => simp [RepLs] at h
      | u :: us, h =>
        obtain ⟨f, k1, k2⟩ := giveL_rep ok hw e1 (h.2 0 l u rfl rfl) (fun k hk => hd k (List.mem_append.2 (.inl hk)))
        obtain ⟨fps, k3, k4⟩ := giveLs_rep ok hw ts r as ns us e2 ⟨by have := h.1; simpa using this, fun j a b h1 h2 => h.2 (j + 1) a b (by simpa using h1) (by simpa using h2)⟩ (fun k hk => hd k (List.mem_append.2 (.inr hk)))
        refine ⟨f :: fps, ⟨by simp [k3.1], by simp [k3.2.1], fun j a' u' f' h1 h2 h3 => ?_⟩, by rw [List.flatten_cons]; exact k2.app k4⟩
        cases j with
        | zero =>
          simp only [List.getElem?_cons_zero, Option.some.injEq] at h1 h2 h3
          subst h1; subst h2; subst h3
          exact k1
        | succ j => exact k3.2.2 j a' u' f' (by simpa using h1) (by simpa using h2) (by simpa using h3)
    · simp at ha
  | [], _ :: _, _, _, _, ha, _, _ => by simp [giveLs] at ha
  | _ :: _, [], _, _, _, ha, _, _ => by simp [giveLs] at ha

theorem giveA_rep (ok : cx.Ok) {c : Ct cx.ty} (hw : Wf cx c) {t : TypeId} {a a' : A cx.ty} {n : List Nat} (ha : giveA cx P t a = some (a', n)) {u : Value} (h : RepA cx c a u) (hd : ∀ k ∈ n, k ∉ c.D ∧ k ∉ c.F) :
    ∃ fp, ResA cx c.w (fun _ => False) a' u fp ∧ Gives c n fp := by
  unfold giveA at ha
  split at ha
  · split at ha
    · rename_i a n e1
      simp only [Option.some.injEq, Prod.mk.injEq] at ha
      obtain ⟨rfl, rfl⟩ := ha
      exact giveL_rep ok hw e1 h hd
    · simp at ha
  · split at ha
    · rename_i as n e1
      simp only [Option.some.injEq, Prod.mk.injEq] at ha
      obtain ⟨rfl, rfl⟩ := ha
      obtain ⟨us, hu, h⟩ := h
      obtain ⟨fps, h1, h2⟩ := giveLs_rep ok hw _ _ _ _ us e1 h hd
      exact ⟨_, ⟨us, fps, hu, rfl, h1⟩, h2⟩
    · simp at ha

theorem giveVs_rep (ok : cx.Ok) {c : Ct cx.ty} (hw : Wf cx c) : ∀ (ts : List TypeId) (l : List (V cx.ty)) (l' : List (A cx.ty)) (n : List Nat) (us : List Value), giveVs cx P ts l = some (l', n) →
    us.length = l.length → (∀ (j : Nat) a u, l[j]? = some a → us[j]? = some u → RepV cx c a u) → (∀ k ∈ n, k ∉ c.D ∧ k ∉ c.F) → ∃ fps, ResAs cx c.w (fun _ => False) l' us fps ∧ Gives c n (List.flatten fps)
  | [], [], l', n, us, ha, hl, h, _ => by
    simp only [giveVs, Option.some.injEq, Prod.mk.injEq] at ha
    obtain ⟨rfl, rfl⟩ := ha
    exact ⟨[], ⟨hl, rfl, fun j a u f h1 => by simp at h1⟩, Gives.nil c⟩
  | t :: ts, .inl l :: r, l', n, us, ha, hl, h, hd => by
    simp only [giveVs] at ha
    split at ha
    · rename_i a n1 as ns e1 e2
      simp only [Option.some.injEq, Prod.mk.injEq] at ha
      obtain ⟨rfl, rfl⟩ := ha
      match us, hl, h with
      | [], hl, h => simp at hl
      | u :: us, hl, h =>
        obtain ⟨f, k1, k2⟩ := giveA_rep ok hw e1 (h 0 _ u rfl rfl) (fun k hk => hd k (List.mem_append.2 (.inl hk)))
        obtain ⟨fps, k3, k4⟩ := giveVs_rep ok hw ts r as ns us e2 (by simpa using hl) (fun j a b h1 h2 => h (j + 1) a b (by simpa using h1) (by simpa using h2)) (fun k hk => hd k (List.mem_append.2 (.inr hk)))
        refine ⟨f :: fps, ⟨by simp [k3.1], by simp [k3.2.1], fun j a' u' f' h1 h2 h3 => ?_⟩, by rw [List.flatten_cons]; exact k2.app k4⟩
        cases j with
        | zero =>
          simp only [List.getElem?_cons_zero, Option.some.injEq] at h1 h2 h3
          subst h1; subst h2; subst h3
          exact k1
        | succ j => exact k3.2.2 j a' u' f' (by simpa using h1) (by simpa using h2) (by simpa using h3)
    · simp at ha
  | [], _ :: _, _, _, _, ha, _, _, _ => by simp [giveVs] at ha
  | _ :: _, [], _, _, _, ha, _, _, _ => by simp [giveVs] at ha
  | _ :: _, .inr _ :: _, _, _, _, ha, _, _, _ => by simp [giveVs] at ha

theorem flatMap_inj_nodup {T : List (Tk cx.ty)} (h : (T.flatMap blocks).Nodup) (_hn : (T.map (·.nm)).Nodup) : ∀ tks : List (Tk cx.ty), (tks.map (·.nm)).Nodup → (∀ tk ∈ tks, tk ∈ T) → (tks.flatMap blocks).Nodup := by
  have hdis : ∀ t1 ∈ T, ∀ t2 ∈ T, t1.nm ≠ t2.nm → ∀ b ∈ blocks t1, b ∉ blocks t2 := by
    intro t1 h1 t2 h2 hne b hb1 hb2
    obtain ⟨l1, l2, hl⟩ := List.append_of_mem h1
    rw [hl] at h h2
    simp only [List.flatMap_append, List.flatMap_cons] at h
    rcases List.mem_append.1 h2 with h3 | h3
    · exact (List.nodup_append.1 h).2.2 b (List.mem_flatMap.2 ⟨t2, h3, hb2⟩) b (List.mem_append.2 (.inl hb1)) rfl
    · rcases List.mem_cons.1 h3 with h3 | h3
      · exact hne (by rw [h3])
      · exact (List.nodup_append.1 (List.nodup_append.1 h).2.1).2.2 b hb1 b (List.mem_flatMap.2 ⟨t2, h3, hb2⟩) rfl
  intro tks
  induction tks with
  | nil => simp
  | cons a r ih =>
    intro hn2 hm
    rw [List.map_cons, List.nodup_cons] at hn2
    rw [List.flatMap_cons, List.nodup_append]
    refine ⟨?_, ih hn2.2 (fun tk ht => hm tk (List.mem_cons_of_mem _ ht)), fun x hx y hy he => ?_⟩
    · obtain ⟨l1, l2, hl⟩ := List.append_of_mem (hm a (List.mem_cons_self ..))
      rw [hl] at h
      simp only [List.flatMap_append, List.flatMap_cons] at h
      exact (List.nodup_append.1 (List.nodup_append.1 h).2.1).1
    · subst he
      obtain ⟨t2, k1, k2⟩ := List.mem_flatMap.1 hy
      exact hdis a (hm a (List.mem_cons_self ..)) t2 (hm t2 (List.mem_cons_of_mem _ k1)) (fun e => hn2.1 (List.mem_map.2 ⟨t2, k1, e.symm⟩)) x hx k2

/-- What the names stand for from then on. -/
def renL {ty : Nat → Type} (ps : List (Nat × SlD ty)) (l : L ty) : L ty :=
  match l with
  | some (.inr s) => if s.own == 1 then (match ps.find? (fun p => p.1 == s.nm) with
      | some p => some (.inr p.2)
      | none => some (.inr s)) else some (.inr s)
  | l => l

def renA {ty : Nat → Type} (ps : List (Nat × SlD ty)) : A ty → A ty
  | .inl l => .inl (renL ps l)
  | .inr l => .inr (l.map (renL ps))

def renV {ty : Nat → Type} (ps : List (Nat × SlD ty)) : V ty → V ty
  | .inl a => .inl (renA ps a)
  | .inr (.inl l) => .inr (.inl (l.map (renA ps)))
  | .inr (.inr p) => match p.kind with
    | 0 => .inr (.inr { p with cells := p.cells.map (renL ps) })
    | _ => .inr (.inr p)

structure Ren (cx : Cx) (c c' : Ct cx.ty) (gs : List Nat) (ps : List (Nat × SlD cx.ty)) : Prop where
  rd : ∀ b, Rd c b → Rd c' b ∧ c'.w.heap[b]? = c.w.heap[b]?
  dead : ∀ n, n ∈ c'.D ↔ n ∈ gs ∨ n ∈ c.D
  frz : ∀ n, n ∈ c'.F ↔ n ∈ c.F
  tok : ∀ tk ∈ c.T, tk.nm ∉ gs → ∀ s, tk.c = .inl s → tk ∈ c'.T
  box : ∀ tk ∈ c.T, ∀ l, tk.c = .inr l → ∃ tk' ∈ c'.T, tk'.nm = tk.nm ∧ tk'.u = tk.u ∧ tk'.c = .inr (l.map (renL ps))
  ok : ∀ p ∈ ps, ∀ tk ∈ c.T, tk.nm = p.1 → p.2.own = 1 ∧ p.2.nm ∉ c'.D ∧ p.2.nm ∉ c'.F ∧ ∃ tk' ∈ c'.T, tk'.nm = p.2.nm ∧ tk'.c = .inl p.2 ∧ tk'.u = tk.u
  live : ∀ p ∈ ps, p.1 ∉ c.D ∧ p.1 ∉ c.F

theorem renL_rep {c c' : Ct cx.ty} {gs : List Nat} {ps : List (Nat × SlD cx.ty)} (hr : Ren cx c c' gs ps) {l : L cx.ty} {u : Value} (h : RepLS cx c l u) : RepLS cx c' (renL ps l) u := by
  have up : ∀ {n : Nat} {l : L cx.ty} {u : Value}, RepL cx c.w (Rd c) n l u → RepL cx c'.w (Rd c') n l u := fun hx => RepL_mono cx (fun b hb => (hr.rd b hb).2) (fun b hb => (hr.rd b hb).1) _ _ _ hx
  have old : ∀ {l : L cx.ty}, RepLS cx c l u → RepLS cx c' l u := by
    intro l h
    match l, h with
    | none, _ => trivial
    | some (.inl v), h => exact h
    | some (.inr s), h =>
      unfold RepLS at h ⊢
      by_cases h1 : s.own = 1
      · simp only [h1, if_true] at h ⊢
        obtain ⟨hsl, h⟩ := h
        refine ⟨hsl, ?_⟩
        by_cases h2 : s.nm ∈ c'.D
        · rw [if_pos h2]; trivial
        · rw [if_neg h2]
          have h2' : s.nm ∉ gs ∧ s.nm ∉ c.D := ⟨fun hx => h2 ((hr.dead _).2 (.inl hx)), fun hx => h2 ((hr.dead _).2 (.inr hx))⟩
          simp only [h2'.2, if_false] at h
          by_cases h3 : s.nm ∈ c.F
          · rw [if_pos ((hr.frz _).2 h3)]
            simp only [h3, if_true] at h
            obtain ⟨n, h⟩ := h
            exact ⟨n, up h⟩
          · rw [if_neg (fun hx => h3 ((hr.frz _).1 hx))]
            simp only [h3, if_false] at h
            obtain ⟨tk, k1, k2, k3, k4⟩ := h
            exact ⟨tk, hr.tok tk k1 (by rw [k2]; exact h2'.1) s k3, k2, k3, k4⟩
      · simp only [h1, if_false] at h ⊢
        obtain ⟨n, h⟩ := h
        exact ⟨n, up h⟩
  unfold renL
  split
  · rename_i s
    split
    · rename_i h1
      have h1 : s.own = 1 := by simpa using h1
      split
      · rename_i p hp'
        have hm := List.mem_of_find?_eq_some hp'
        have he : p.1 = s.nm := by simpa using List.find?_some hp'
        have hl := hr.live p hm
        rw [he] at hl
        unfold RepLS at h
        simp only [h1, if_true, hl.1, hl.2, if_false] at h
        obtain ⟨hsl, tk, k1, k2, k3, k4⟩ := h
        obtain ⟨q1, q2, q3, tk', q4, q5, q6, q7⟩ := hr.ok p hm tk k1 (by rw [k2, he])
        unfold RepLS
        simp only [q1, if_true, q2, q3, if_false]
        exact ⟨hsl, tk', q4, q5, q6, q7.trans k4⟩
      · exact old h
    · exact old h
  · exact old h

theorem renA_rep {c c' : Ct cx.ty} {gs : List Nat} {ps : List (Nat × SlD cx.ty)} (hr : Ren cx c c' gs ps) {a : A cx.ty} {u : Value} (h : RepA cx c a u) : RepA cx c' (renA ps a) u := by
  match a, h with
  | .inl l, h => exact renL_rep hr h
  | .inr l, ⟨us, hu, h⟩ => exact ⟨us, hu, h.mapE fun l u h => renL_rep hr h⟩

theorem renV_rep {c c' : Ct cx.ty} {gs : List Nat} {ps : List (Nat × SlD cx.ty)} (hr : Ren cx c c' gs ps) {v : V cx.ty} {u : Value} (h : RepV cx c v u) : RepV cx c' (renV ps v) u := by
  have hel : ∀ {s : SlD cx.ty} {i b o : Nat}, RepEl cx c s i b o → RepEl cx c' s i b o := by
    rintro s i b o ⟨hb, y, hy, n, hx⟩
    refine ⟨(hr.rd b hb).1, y, hy, n, fun j q hq => ?_⟩
    obtain ⟨v, hv, hx⟩ := hx j q hq
    exact ⟨v, by rw [World.cell?_of_block (hr.rd b hb).2]; exact hv, RepL_mono cx (fun b hb => (hr.rd b hb).2) (fun b hb => (hr.rd b hb).1) _ _ _ hx⟩
  match v, h with
  | .inl a, h => exact renA_rep hr h
  | .inr (.inl l), ⟨us, hu, h⟩ =>
    refine ⟨us, hu, by rw [List.length_map]; exact h.1, fun j a u e1 e2 => ?_⟩
    rw [List.getElem?_map] at e1
    cases e0 : l[j]? with
    | none => rw [e0] at e1; simp at e1
    | some a0 =>
      rw [e0] at e1
      simp only [Option.map_some, Option.some.injEq] at e1
      subst e1
      exact renA_rep hr (h.2 j a0 u e0 e2)
  | .inr (.inr q), h =>
    have hq : RepP cx c q u := h
    unfold RepP at hq
    simp only [renV]
    split at hq
    · rename_i hk0
      obtain ⟨t2, k1, k2, k3, g2, k4, k5⟩ := hq
      obtain ⟨t3, m1, m2, m3, m4⟩ := hr.box t2 k1 _ k3
      simp only [hk0]
      show RepP cx c' { q with kind := 0, cells := q.cells.map (renL ps) } u
      unfold RepP
      simp only
      exact ⟨t3, m1, m2.trans k2, m4, g2, by rw [m3]; exact k4, k5⟩
    · rename_i hk1
      simp only [hk1]
      show RepP cx c' q u
      unfold RepP
      simp only [hk1]
      by_cases h2 : q.nm ∈ c'.D
      · rw [if_pos h2]; trivial
      · rw [if_neg h2]
        have h2' : q.nm ∉ gs ∧ q.nm ∉ c.D := ⟨fun hx => h2 ((hr.dead _).2 (.inl hx)), fun hx => h2 ((hr.dead _).2 (.inr hx))⟩
        simp only [h2'.2, if_false] at hq
        by_cases h3 : q.nm ∈ c.F
        · rw [if_pos ((hr.frz _).2 h3)]
          simp only [h3, if_true] at hq
          obtain ⟨b, o, hu, hx⟩ := hq
          exact ⟨b, o, hu, hel hx⟩
        · rw [if_neg (fun hx => h3 ((hr.frz _).1 hx))]
          simp only [h3, if_false] at hq
          obtain ⟨t2, k1, k2, k3, k4⟩ := hq
          exact ⟨t2, hr.tok t2 k1 (by rw [k2]; exact h2'.1) _ k3, k2, k3, k4⟩
    · rename_i hk2
      simp only [hk2]
      show RepP cx c' q u
      unfold RepP
      simp only [hk2]
      obtain ⟨b, o, hu, hx⟩ := hq
      exact ⟨b, o, hu, hel hx⟩
    · rename_i k0 k1 k2
      have : (match q.kind with
        | 0 => (.inr (.inr { q with cells := q.cells.map (renL ps) }) : V cx.ty)
        | _ => .inr (.inr q)) = .inr (.inr q) := by
        split
        · rename_i hh; exact (k0 hh).elim
        · rfl
      rw [this]
      show RepP cx c' q u
      unfold RepP
      split <;> first | trivial | (rename_i hh; first | exact (k0 hh).elim | exact (k1 hh).elim | exact (k2 hh).elim)

/-- What is not handed stays as it is. -/
theorem TokRep.ren {c c' : Ct cx.ty} {gs : List Nat} {ps : List (Nat × SlD cx.ty)} (hr : Ren cx c c' gs ps) {tk tk' : Tk cx.ty} (hu : tk'.u = tk.u) (hfp : tk'.fp = tk.fp) (hc : tk'.c = match tk.c with | .inl s => .inl s | .inr l => .inr (l.map (renL ps)))
    (hb : ∀ b ∈ vb tk.u ++ tk.fp, c'.w.heap[b]? = c.w.heap[b]?) (h : TokRep cx c tk) : TokRep cx c' tk' := by
  unfold TokRep at h
  split at h
  · rename_i s hs
    rw [hs] at hc
    simp only at hc
    unfold TokRep
    rw [hc]
    simp only
    rw [hu, hfp]
    obtain ⟨hv, h⟩ := h
    refine ⟨hv, ?_⟩
    split at h
    · rename_i ho
      rw [if_pos ho]
      obtain ⟨n, h⟩ := h
      exact ⟨n, OwnL_mono cx n _ _ _ hb h⟩
    · rename_i ho
      rw [if_neg ho]
      obtain ⟨hf, us, n, hrow, hl2, hx⟩ := h
      refine ⟨hf, us, n, ?_, hl2, fun j l v h1 h2 => RepL_mono cx (fun b hb => (hr.rd b hb).2) (fun b hb => (hr.rd b hb).1) n l v (hx j l v h1 h2)⟩
      obtain ⟨hx, hcx⟩ := hrow
      refine ⟨hx, ?_⟩
      rcases hcx with hcx | ⟨g2, cap2, cur2, hv', hg2, hh2, hrest⟩
      · exact .inl hcx
      · refine .inr ⟨g2, cap2, cur2, hv', hg2, ?_, hrest⟩
        rw [hb g2 (by rw [hv']; simp [vb])]
        exact hh2
  · rename_i cells hs
    rw [hs] at hc
    simp only at hc
    obtain ⟨hf, g2, cur2, e2, hu2, hh2, hx⟩ := h
    unfold TokRep
    rw [hc]
    simp only
    rw [hu, hfp]
    refine ⟨hf, g2, cur2, e2, hu2, ?_, hx.mapE fun l u h => renL_rep hr h⟩
    rw [hb g2 (by rw [hu2]; simp [vb])]
    exact hh2

/-- A state of the table behind such a call. -/
structure GoodW (cx : Cx) (c : Ct cx.ty) (ef : Eff cx.ty) (ps : List (Nat × SlD cx.ty)) (nm0 : Nat) (u : Value) (w' : World) (T' : List (Tk cx.ty)) : Prop where
  wf : Wf cx (c.nx ef w' T')
  ren : Ren cx c (c.nx ef w' T') ef.dead ps
  rep : RepV cx (c.nx ef w' T') ef.v u
  below : Kept c.N c.w w'
  names : ∀ n, Nm (c.nx ef w' T') n → Nm c n ∨ (nm0 ≤ n ∧ n < nm0 + 64)

/-- The names of what was handed, beside what came back. -/
def pairL {ty : Nat → Type} : L ty → L ty → Option (List (Nat × SlD ty))
  | some (.inr s), some (.inr s') => if s.own == 1 && s'.own == 1 then some [(s.nm, s')] else none
  | some (.inl _), _ => some []
  | _, _ => none

def pairLs {ty : Nat → Type} : List (L ty) → List (L ty) → Option (List (Nat × SlD ty))
  | a :: r, b :: q => match pairL a b, pairLs r q with
    | some x, some y => some (x ++ y)
    | _, _ => none
  | [], [] => some []
  | _, _ => none

def pairA {ty : Nat → Type} : A ty → A ty → Option (List (Nat × SlD ty))
  | .inl a, .inl b => pairL a b
  | .inr a, .inr b => pairLs a b
  | _, _ => none

def pairVs {ty : Nat → Type} : List (V ty) → List (A ty) → Option (List (Nat × SlD ty))
  | .inl a :: r, b :: q => match pairA a b, pairVs r q with
    | some x, some y => some (x ++ y)
    | _, _ => none
  | _, [] => some []
  | _, _ => none

/-- Each pair's old thing and its new one lie in one value. -/
def PairOK (cx : Cx) (c c' : Ct cx.ty) (ps : List (Nat × SlD cx.ty)) : Prop :=
  ∀ p ∈ ps, ∃ u s, s.own = 1 ∧ s.nm = p.1 ∧ RepLS cx c (some (.inr s)) u ∧ p.2.own = 1 ∧ RepLS cx c' (some (.inr p.2)) u

theorem PairOK.app {c c' : Ct cx.ty} {a b : List (Nat × SlD cx.ty)} (h1 : PairOK cx c c' a) (h2 : PairOK cx c c' b) : PairOK cx c c' (a ++ b) :=
  fun p hp => (List.mem_append.1 hp).elim (h1 p) (h2 p)

theorem pairL_ok {c c' : Ct cx.ty} {a b : L cx.ty} {u : Value} {ps : List (Nat × SlD cx.ty)} (h1 : RepLS cx c a u) (h2 : RepLS cx c' b u) (h : pairL a b = some ps) : PairOK cx c c' ps := by
  unfold pairL at h
  split at h
  · rename_i s s'
    split at h
    · rename_i hc
      simp only [Bool.and_eq_true, beq_iff_eq] at hc
      simp only [Option.some.injEq] at h
      subst h
      intro p hp
      simp only [List.mem_singleton] at hp
      subst hp
      exact ⟨u, s, hc.1, rfl, h1, hc.2, h2⟩
    · simp at h
  · simp only [Option.some.injEq] at h
    subst h
    intro p hp
    simp at hp
  · simp at h

theorem pairLs_ok {c c' : Ct cx.ty} : ∀ (a b : List (L cx.ty)) (us : List Value) (ps : List (Nat × SlD cx.ty)), RepLs cx c a us → RepLs cx c' b us → pairLs a b = some ps → PairOK cx c c' ps
  | [], [], us, ps, _, _, h => by
    simp only [pairLs, Option.some.injEq] at h
    subst h
    intro p hp
    simp at hp
  | a :: r, b :: q, us, ps, h1, h2, h => by
    simp only [pairLs] at h
    split at h
    · rename_i x y e1 e2
      simp only [Option.some.injEq] at h
      subst h
      match us, h1, h2 with
      | [], h1, _ => simp [RepLs] at h1
      | u :: us, h1, h2 =>
        exact (pairL_ok (h1.2 0 a u rfl rfl) (h2.2 0 b u rfl rfl) e1).app (pairLs_ok r q us y ⟨by simpa using h1.1, fun j a u e1 e2 => h1.2 (j + 1) a u (by simpa using e1) (by simpa using e2)⟩ ⟨by simpa using h2.1, fun j a u e1 e2 => h2.2 (j + 1) a u (by simpa using e1) (by simpa using e2)⟩ e2)
    · simp at h
  | [], _ :: _, _, _, _, _, h => by simp [pairLs] at h
  | _ :: _, [], _, _, _, _, h => by simp [pairLs] at h

theorem pairA_ok {c c' : Ct cx.ty} {a b : A cx.ty} {u : Value} {ps : List (Nat × SlD cx.ty)} (h1 : RepA cx c a u) (h2 : RepA cx c' b u) (h : pairA a b = some ps) : PairOK cx c c' ps := by
  match a, b, h1, h2, h with
  | .inl a, .inl b, h1, h2, h => exact pairL_ok h1 h2 h
  | .inr a, .inr b, ⟨us, hu, h1⟩, ⟨us2, hu2, h2⟩, h =>
    have : us = us2 := by
      rw [hu] at hu2
      simp only [Value.agg.injEq] at hu2
      have := congrArg Array.toList hu2
      simpa using this
    subst this
    exact pairLs_ok a b us ps h1 h2 h
  | .inl _, .inr _, _, _, h => simp [pairA] at h
  | .inr _, .inl _, _, _, h => simp [pairA] at h

theorem pairVs_ok {c c' : Ct cx.ty} : ∀ (a : List (V cx.ty)) (b : List (A cx.ty)) (us us' : List Value) (ps : List (Nat × SlD cx.ty)), (∀ (j : Nat) v u, a[j]? = some v → us[j]? = some u → RepV cx c v u) → us.length = a.length → RepAs cx c' b us' → us' = us.take b.length → pairVs a b = some ps → PairOK cx c c' ps
  | [], [], us, us', ps, _, _, _, _, h => by
    simp only [pairVs, Option.some.injEq] at h
    subst h
    intro p hp
    simp at hp
  | v :: r, [], us, us', ps, _, _, _, _, h => by
    have : ps = [] := by
      unfold pairVs at h
      split at h <;> simp_all
    subst this
    intro p hp
    simp at hp
  | v :: r, b :: q, us, us', ps, h1, hl, h2, he, h => by
    match us, hl with
    | [], hl => simp at hl
    | u :: us, hl =>
      subst he
      match v, h with
      | .inl a, h =>
        simp only [pairVs] at h
        split at h
        · rename_i x y e1 e2
          simp only [Option.some.injEq] at h
          subst h
          have k1 : RepA cx c a u := h1 0 _ u rfl rfl
          have k2 : RepA cx c' b u := h2.2 0 b u rfl (by simp)
          refine (pairA_ok k1 k2 e1).app (pairVs_ok r q us (us.take q.length) y (fun j a u e1 e2 => h1 (j + 1) a u (by simpa using e1) (by simpa using e2)) (by simpa using hl) ⟨?_, fun j a u e1 e2 => h2.2 (j + 1) a u (by simpa using e1) (by simpa using e2)⟩ rfl e2)
          have := h2.1
          simpa using this
        · simp at h
      | .inr _, h => simp [pairVs] at h
  | [], _ :: _, _, _, _, _, _, _, _, h => by simp [pairVs] at h

def packV {ty : Nat → Type} (l : List (A ty)) : V ty :=
  match l with
  | [a] => .inl a
  | l => .inr (.inl l)

structure WFn (cx : Cx) where
  nres : Nat
  n : Nat
  F : List (A cx.ty) → Option (Bool × List (A cx.ty))
  /-- 0: the first things come back; 1: the first is a pointer to a box; 2: a new box comes back -/
  p : Nat := 0

def nodupB : List Nat → Bool
  | [] => true
  | a :: r => !r.contains a && nodupB r

theorem nodupB_spec : ∀ l : List Nat, nodupB l = true → l.Nodup
  | [], _ => List.nodup_nil
  | a :: r, h => by
    simp only [nodupB, Bool.and_eq_true] at h
    exact List.nodup_cons.2 ⟨by simpa using h.1, nodupB_spec r h.2⟩

/-- The call: what it hands back, what the handed things are from then on. -/
def evCallW {β : Type} (P : Program) (f : FuncId) (W : WFn cx) (slots : List (V cx.ty)) (args : List Operand) (ts : List TypeId) (nm0 : Nat) (k : Eff cx.ty → List (Nat × SlD cx.ty) → Option β) : Option β :=
  match P.funcs[f]?, giveVs cx P ts (args.map (getV slots)) with
  | some fn, some (as, gs) => if fn.body.isSome && fn.name != "runtime.NumGoroutine" && nodupB gs then
      match W.F as with
      | some (pre, cs) => bif pre then
          (if fitsV (.inr (.inl cs) : V cx.ty) && noRoV (.inr (.inl cs) : V cx.ty) then
            match pairVs (args.map (getV slots)) ((bindAs nm0 cs).drop W.nres) with
            | some ps => if ps.all (fun p => decide (nm0 ≤ p.2.nm) && decide (p.2.nm < nm0 + 64)) then k { v := packV ((bindAs nm0 cs).take W.nres), dead := gs, frz := [], live := gs ++ ps.map (·.1), read := [] } ps else none
            | none => none
          else none)
        else none
      | none => none
    else none
  | _, _ => none

theorem bindAs_length {ty : Nat → Type} : ∀ (l : List (A ty)) (nm : Nat), (bindAs nm l).length = l.length
  | [], _ => rfl
  | a :: r, nm => by simp [bindAs, bindAs_length r]

theorem repAs_take {c : Ct cx.ty} {l : List (A cx.ty)} {us : List Value} (h : RepAs cx c l us) (n : Nat) : RepAs cx c (l.take n) (us.take n) :=
  ⟨by simp [h.1], fun j a u e1 e2 => by
    rw [List.getElem?_take] at e1 e2
    split at e1
    · rename_i hj
      rw [if_pos hj] at e2
      exact h.2 j a u e1 e2
    · simp at e1⟩

theorem repAs_drop {c : Ct cx.ty} {l : List (A cx.ty)} {us : List Value} (h : RepAs cx c l us) (n : Nat) : RepAs cx c (l.drop n) (us.drop n) :=
  ⟨by simp [h.1], fun j a u e1 e2 => by
    rw [List.getElem?_drop] at e1 e2
    exact h.2 _ a u e1 e2⟩

theorem packV_rep {c : Ct cx.ty} {l : List (A cx.ty)} {us : List Value} (h : RepAs cx c l us) : RepV cx c (packV l) (packR us) := by
  unfold packV packR
  split
  · rename_i a
    have hl : us.length = 1 := h.1
    rw [dif_pos hl]
    exact h.2 0 a _ rfl (List.getElem?_eq_getElem (by omega))
  · rename_i hne
    rw [dif_neg (fun hl => ?_)]
    · exact ⟨us, rfl, h⟩
    · rw [h.1] at hl
      match l, hl, hne with
      | [a], _, hne => exact hne a rfl

theorem uniq_tok {c : Ct cx.ty} (h : Wf cx c) {a b : Tk cx.ty} (ha : a ∈ c.T) (hb : b ∈ c.T) (hn : a.nm = b.nm) : a = b := by
  rcases Classical.em (a = b) with h1 | h1
  · exact h1
  · exfalso
    have hnd := h.names
    obtain ⟨l1, l2, hl⟩ := List.append_of_mem hb
    rw [hl] at hnd ha
    rw [List.map_append, List.map_cons, List.nodup_append] at hnd
    rcases List.mem_append.1 ha with h3 | h3
    · exact hnd.2.2 a.nm (List.mem_map.2 ⟨a, h3, rfl⟩) b.nm (List.mem_cons_self ..) hn
    · rcases List.mem_cons.1 h3 with h3 | h3
      · exact h1 h3
      · exact (List.nodup_cons.1 hnd.2.1).1 (List.mem_map.2 ⟨a, h3, hn⟩)

theorem evCallW_ok (ok : cx.Ok) {β : Type} {o : Oper} {slots : List (V cx.ty)} {nm0 : Nat} {f : FuncId} {args : Array Operand} {ts : Array TypeId} {W : WFn cx} (hK : SatW P cx f W.nres W.n W.F)
    (ho : o.op = .call { callee := .value (.func f), args := args, argTypes := ts }) {k : Eff cx.ty → List (Nat × SlD cx.ty) → Option β} {r : β}
    (h : evCallW P f W slots args.toList ts.toList nm0 k = some r) : ∃ ef ps, k ef ps = some r ∧
      ∀ (c : Ct cx.ty) (ρ : Operand → Value), Wf cx c → (∀ x ∈ o.op.operands, RepV cx c (getV slots x) (ρ x)) → (∀ n ∈ ef.live, n ∉ c.D ∧ n ∉ c.F) →
        (∀ n, Nm c n → ¬ (nm0 ≤ n ∧ n < nm0 + 64)) → Runs P o ρ c.w (fun u w' => ∃ T', GoodW cx c ef ps nm0 u w' T') := by
  unfold evCallW at h
  split at h
  · rename_i fn as gs hfn hargs
    split at h
    · rename_i hc
      simp only [Bool.and_eq_true, bne_iff_ne, ne_eq] at hc
      obtain ⟨⟨hbody, hname⟩, hgs⟩ := hc
      split at h
      · rename_i pre cs hF
        cases pre with
        | false => simp at h
        | true =>
          simp only [cond_true] at h
          split at h
          · rename_i hfit
            simp only [Bool.and_eq_true] at hfit
            obtain ⟨hfit, hro⟩ := hfit
            split at h
            · rename_i ps hps
              split at h
              · rename_i hband
                refine ⟨_, ps, h, fun c ρ hw hop hlive hf => ?_⟩
                have hopj : ∀ (j : Nat) a u, (args.toList.map (getV slots))[j]? = some a → (args.toList.map ρ)[j]? = some u → RepV cx c a u := fun j a u h1 h2 => by
                  simp only [List.getElem?_map] at h1 h2
                  cases hx : args.toList[j]? with
                  | none => simp [hx] at h1
                  | some x =>
                    simp only [hx, Option.map_some, Option.some.injEq] at h1 h2
                    subst h1; subst h2
                    exact hop x (by
                      have : x ∈ args := by simpa using List.mem_of_getElem? hx
                      simp [ho, Op.operands, Call.operands, this])
                obtain ⟨fps, hres, tks, hg1, hg2, hg3⟩ := giveVs_rep ok hw ts.toList _ as gs (args.toList.map ρ) hargs (by simp) hopj (fun n hn => hlive n (List.mem_append.2 (.inl hn)))
                have hgn : gs.Nodup := nodupB_spec gs hgs
                have hfnd : (List.flatten fps).Nodup := by
                  rw [hg3]
                  exact flatMap_inj_nodup hw.nodup hw.names tks (by rw [hg1]; exact hgn) (fun tk ht => (hg2 tk ht).1)
                have hfb : ∀ b ∈ List.flatten fps, ∃ tk ∈ c.T, tk.nm ∈ gs ∧ b ∈ blocks tk := fun b hb => by
                  rw [hg3] at hb
                  obtain ⟨tk, k1, k2⟩ := List.mem_flatMap.1 hb
                  exact ⟨tk, (hg2 tk k1).1, by rw [← hg1]; exact List.mem_map.2 ⟨tk, k1, rfl⟩, k2⟩
                have hflt : ∀ b ∈ List.flatten fps, b < c.w.heap.size := fun b hb => by
                  obtain ⟨tk, k1, _, k3⟩ := hfb b hb
                  exact (hw.bound tk k1 b k3).2
                unfold Runs
                have hrun : (execOp ρ o).run P c.w = .ok (.enter f (args.map ρ)) c.w := by
                  have hb : ¬ fn.body = none := by
                    intro hbb
                    simp [hbb] at hbody
                  have hfv := hop (.func f) (by simp [ho, Op.operands, Call.operands])
                  have hfv : ρ (.func f) = .func (.func f) #[] #[] := hfv
                  unfold execOp
                  simp [ho, resolve, Deferred.ofValue, invoke, callFunc, hfv, hfn, hb, hname]
                rw [hrun]
                have hcall := hK c.w as (args.toList.map ρ) fps cs hres hfnd hflt hF
                have hargsEq : (args.toList.map ρ).toArray = args.map ρ := Array.ext' (by simp)
                rw [hargsEq] at hcall
                refine hcall.mono fun e w' ⟨rs, he, hrl, hkept, hresv⟩ => ⟨_, he, ?_⟩
                obtain ⟨fp, N, hnd, hbd, hN⟩ := ResV.bind nm0 hfit hresv
                have hother : ∀ tk ∈ c.T, tk.nm ∉ gs → ∀ b ∈ blocks tk, b ∉ List.flatten fps := fun tk ht hn b hb hb2 => by
                  obtain ⟨t2, k1, k2, k3⟩ := hfb b hb2
                  exact disjoint_toks hw ht k1 (fun e => hn (e ▸ k2)) hb k3
                have hheap : ∀ b, b < c.w.heap.size → b ∉ List.flatten fps → w'.heap[b]? = c.w.heap[b]? := fun b h1 h2 => hkept.block b (by
                  rintro (h3 | h3)
                  · omega
                  · exact h2 h3)
                have hgT : ∀ n ∈ gs, ∃ tk ∈ c.T, tk.nm = n := fun n hn => by
                  rw [← hg1] at hn
                  obtain ⟨tk, k1, k2⟩ := List.mem_map.1 hn
                  exact ⟨tk, (hg2 tk k1).1, k2⟩
                have hgfp : ∀ tk ∈ c.T, tk.nm ∈ gs → tk.fp = [] ∧ (∃ s, tk.c = .inl s) ∧ ∀ b ∈ blocks tk, b ∈ List.flatten fps := fun tk ht hn => by
                  rw [← hg1] at hn
                  obtain ⟨t2, k1, k2⟩ := List.mem_map.1 hn
                  have := uniq_tok hw (hg2 t2 k1).1 ht k2
                  subst this
                  refine ⟨(hg2 t2 k1).2.1, (hg2 t2 k1).2.2, fun b hb => ?_⟩
                  rw [hg3]
                  exact List.mem_flatMap.2 ⟨t2, k1, hb⟩
                -- the new table
                have hmem : ∀ tk, tk ∈ c.T.filter (fun tk => !gs.contains tk.nm) ↔ tk ∈ c.T ∧ tk.nm ∉ gs := fun tk => by simp [List.mem_filter]
                let upB : Tk cx.ty → Tk cx.ty := fun tk => match tk.c with
                  | .inl _ => tk
                  | .inr l => { tk with c := .inr (l.map (renL ps)) }
                have upnm : ∀ tk, (upB tk).nm = tk.nm := fun tk => by simp only [upB]; split <;> rfl
                have upu : ∀ tk, (upB tk).u = tk.u := fun tk => by simp only [upB]; split <;> rfl
                have upfp : ∀ tk, (upB tk).fp = tk.fp := fun tk => by simp only [upB]; split <;> rfl
                have upl : ∀ tk s, tk.c = .inl s → upB tk = tk := fun tk s e => by simp only [upB]; rw [e]
                have upc : ∀ tk, (upB tk).c = match tk.c with | .inl s => .inl s | .inr l => .inr (l.map (renL ps)) := fun tk => by
                  simp only [upB]
                  split
                  · rename_i s hs; rw [hs]
                  · rename_i l hs; rfl
                have upm : ∀ t2, t2 ∈ (c.T.filter (fun tk => !gs.contains tk.nm)).map upB → ∃ tk, tk ∈ c.T ∧ tk.nm ∉ gs ∧ t2 = upB tk := fun t2 h2 => by
                  obtain ⟨tk, k1, k2⟩ := List.mem_map.1 h2
                  exact ⟨tk, ((hmem tk).1 k1).1, ((hmem tk).1 k1).2, k2.symm⟩
                have upin : ∀ tk, tk ∈ c.T → tk.nm ∉ gs → upB tk ∈ (c.T.filter (fun tk => !gs.contains tk.nm)).map upB := fun tk h1 h2 => List.mem_map.2 ⟨tk, (hmem tk).2 ⟨h1, h2⟩, rfl⟩
                refine ⟨N ++ (c.T.filter (fun tk => !gs.contains tk.nm)).map upB, ?_⟩
                generalize hef : ({ v := packV ((bindAs nm0 cs).take W.nres), dead := gs, frz := [], live := gs ++ ps.map (·.1), read := [] } : Eff cx.ty) = ef
                have hefd : ef.dead = gs := by rw [← hef]
                have heff : ef.frz = [] := by rw [← hef]
                have hefv : ef.v = packV ((bindAs nm0 cs).take W.nres) := by rw [← hef]
                have hefl : ∀ n ∈ ef.live, n ∉ c.D ∧ n ∉ c.F := by rw [← hef]; exact hlive
                have hgs_nm : ∀ n ∈ gs, Nm c n := fun n hn => by
                  obtain ⟨tk, k1, k2⟩ := hgT n hn
                  exact .inl ⟨tk, k1, k2⟩
                have hblkN : ∀ tk ∈ N, ∀ b ∈ blocks tk, b ∈ fp := fun tk ht b hb => by
                  rw [← hN.fp]
                  exact List.mem_flatMap.2 ⟨tk, ht, hb⟩
                have hrd : ∀ b, Rd c b → Rd (c.nx ef w' (N ++ (c.T.filter (fun tk => !gs.contains tk.nm)).map upB)) b ∧ w'.heap[b]? = c.w.heap[b]? := by
                  intro b hb
                  obtain ⟨h1, h2, h3⟩ := hb
                  have hnf : b ∉ List.flatten fps := fun hb2 => by
                    obtain ⟨tk, k1, k2, k3⟩ := hfb b hb2
                    have := (hgfp tk k1 k2).1
                    simp only [blocks, this, List.append_nil] at k3
                    exact h3 tk k1 k3
                  refine ⟨⟨Nat.lt_of_lt_of_le h1 hkept.size, h2, fun tk ht hv => ?_⟩, hheap b h1 hnf⟩
                  rcases List.mem_append.1 ht with ht | ht
                  · have := (hbd b (hblkN tk ht b (List.mem_append.2 (.inl hv)))).1
                    rcases this with h4 | h4
                    · omega
                    · exact hnf h4
                  · obtain ⟨t2, q1, q2, rfl⟩ := upm tk ht
                    rw [upu] at hv
                    exact h3 t2 q1 hv
                have hnewD : ∀ n, nm0 ≤ n ∧ n < nm0 + 64 → n ∉ (c.nx ef w' (N ++ (c.T.filter (fun tk => !gs.contains tk.nm)).map upB)).D ∧ n ∉ (c.nx ef w' (N ++ (c.T.filter (fun tk => !gs.contains tk.nm)).map upB)).F := fun n hn => by
                  refine ⟨fun hd => ?_, fun hd => ?_⟩
                  · rcases List.mem_append.1 hd with h1 | h1
                    · rw [hefd] at h1
                      exact hf n (hgs_nm n h1) hn
                    · exact hf n (.inr (.inl h1)) hn
                  · rcases List.mem_append.1 hd with h1 | h1
                    · rw [heff] at h1; simp at h1
                    · exact hf n (.inr (.inr h1)) hn
                have hsub : List.Sublist ((c.T.filter (fun tk => !gs.contains tk.nm)).flatMap fun tk => vb tk.u ++ tk.fp) (c.T.flatMap fun tk => vb tk.u ++ tk.fp) := by
                  have : ∀ T : List (Tk cx.ty), List.Sublist ((T.filter (fun tk => !gs.contains tk.nm)).flatMap fun tk => vb tk.u ++ tk.fp) (T.flatMap fun tk => vb tk.u ++ tk.fp) := by
                    intro T
                    induction T with
                    | nil => exact List.Sublist.refl _
                    | cons x r ih =>
                      rw [List.filter_cons]
                      split
                      · rw [List.flatMap_cons, List.flatMap_cons]; exact (List.Sublist.refl _).append ih
                      · rw [List.flatMap_cons]; exact ih.trans (List.sublist_append_right _ _)
                  exact this _
                have hNrep := hN.rep (c.nx ef w' (N ++ (c.T.filter (fun tk => !gs.contains tk.nm)).map upB)) rfl (fun tk ht => ⟨List.mem_append.2 (.inl ht), (hnewD tk.nm (hN.nm tk ht)).1, (hnewD tk.nm (hN.nm tk ht)).2⟩) (fun b hb => by
                  rcases hb with hb | ⟨h1, h2, h3⟩
                  · exact hb.elim
                  · refine ⟨h2, .inr ?_, fun tk ht hv => ?_⟩
                    · rcases h1 with h1 | h1
                      · exact hw.size b h1
                      · obtain ⟨tk, k1, _, k3⟩ := hfb b h1
                        exact (hw.bound tk k1 b k3).1
                    · rcases List.mem_append.1 ht with ht | ht
                      · exact h3 (hblkN tk ht b (List.mem_append.2 (.inl hv)))
                      · obtain ⟨tk, q1, q2, rfl⟩ := upm tk ht
                        rw [upu] at hv
                        rcases h1 with h1 | h1
                        · have := (hw.bound tk q1 b (List.mem_append.2 (.inl hv))).2
                          omega
                        · exact hother tk q1 q2 b (List.mem_append.2 (.inl hv)) h1)
                obtain ⟨us', hus', hreps⟩ := hNrep
                have hus : us' = rs ++ (args.toList.map ρ).take W.n := by
                  simp only [Value.tuple.injEq] at hus'
                  have := congrArg Array.toList hus'
                  simpa using this.symm
                subst hus
                have hren : Ren cx c (c.nx ef w' (N ++ (c.T.filter (fun tk => !gs.contains tk.nm)).map upB)) ef.dead ps := by
                  refine ⟨hrd, fun n => ?_, fun n => ?_, fun tk ht hn s hs => ?_, fun tk ht l hl => ?_, ?_, ?_⟩
                  · show n ∈ ef.dead ++ c.D ↔ _
                    exact List.mem_append
                  · show n ∈ ef.frz ++ c.F ↔ _
                    rw [heff]; simp
                  · have := upin tk ht (by rw [← hefd]; exact hn)
                    rw [upl tk s hs] at this
                    exact List.mem_append.2 (.inr this)
                  · have hn : tk.nm ∉ gs := fun hd => by
                      obtain ⟨s, hs⟩ := (hgfp tk ht hd).2.1
                      rw [hl] at hs
                      cases hs
                    refine ⟨upB tk, List.mem_append.2 (.inr (upin tk ht hn)), upnm tk, upu tk, ?_⟩
                    rw [upc, hl]
                  · have hd := repAs_drop hreps W.nres
                    have e1 : (rs ++ (args.toList.map ρ).take W.n).drop W.nres = (args.toList.map ρ).take W.n := by rw [← hrl, List.drop_left]
                    rw [e1] at hd
                    have hpo := pairVs_ok (c := c) _ _ (args.toList.map ρ) _ ps hopj (by simp) hd (by
                      rw [← hd.1, List.length_take, List.take_eq_take_min]) hps
                    have hlv : ∀ p ∈ ps, p.1 ∉ c.D ∧ p.1 ∉ c.F := fun p hp => hlive p.1 (List.mem_append.2 (.inr (List.mem_map.2 ⟨p, hp, rfl⟩)))
                    intro p hp tk ht hn
                    obtain ⟨u, s, a1, a2, a3, a4, a5⟩ := hpo p hp
                    have hb0 := List.all_eq_true.1 hband p hp
                    simp only [Bool.and_eq_true, decide_eq_true_eq] at hb0
                    have hnD := hnewD p.2.nm hb0
                    refine ⟨a4, hnD.1, hnD.2, ?_⟩
                    unfold RepLS at a3 a5
                    have hl := hlv p hp
                    simp only [a1, a2, if_true, hl.1, hl.2, if_false] at a3
                    obtain ⟨_, tk1, b1, b2, _, b4⟩ := a3
                    have := uniq_tok hw b1 ht (b2.trans hn.symm)
                    subst this
                    simp only [a4, if_true, hnD.1, hnD.2, if_false] at a5
                    obtain ⟨_, tk2, d1, d2, d3, d4⟩ := a5
                    exact ⟨tk2, d1, d2, d3, d4.trans b4.symm⟩
                  · exact fun p hp => hlive p.1 (List.mem_append.2 (.inr (List.mem_map.2 ⟨p, hp, rfl⟩)))
                refine ⟨⟨?_, ?_, ?_, ?_, hw.start, ?_, fun b hb => hw.size b (Nat.le_trans hkept.size hb)⟩, hren, ?_, ⟨hkept.os, hkept.tape, hkept.output, hkept.size, fun b hb => hkept.block b (fun h1 => hb ?_)⟩, ?_⟩
                · show ((N ++ _).map (·.nm)).Nodup
                  rw [List.map_append, List.nodup_append]
                  have e0 : ((c.T.filter (fun tk => !gs.contains tk.nm)).map upB).map (·.nm) = (c.T.filter (fun tk => !gs.contains tk.nm)).map (·.nm) := by
                    rw [List.map_map]
                    exact List.map_congr_left (fun tk _ => upnm tk)
                  rw [e0]
                  refine ⟨hN.nd, (List.Sublist.map _ List.filter_sublist).nodup hw.names, fun a ha b hb' he => ?_⟩
                  obtain ⟨t1, h1, rfl⟩ := List.mem_map.1 ha
                  obtain ⟨t2, h2, rfl⟩ := List.mem_map.1 hb'
                  exact hf t2.nm (.inl ⟨t2, ((hmem t2).1 h2).1, rfl⟩) (by have := hN.nm t1 h1; omega)
                · show ((N ++ _).flatMap _).Nodup
                  have e0 : (((c.T.filter (fun tk => !gs.contains tk.nm)).map upB).flatMap fun tk => vb tk.u ++ tk.fp) = ((c.T.filter (fun tk => !gs.contains tk.nm)).flatMap fun tk => vb tk.u ++ tk.fp) := by
                    rw [List.flatMap_map]
                    congr 1
                    exact funext fun tk => by rw [upu, upfp]
                  rw [List.flatMap_append, List.nodup_append, e0]
                  refine ⟨by rw [hN.fp]; exact hnd, hsub.nodup hw.nodup, fun a ha b hb' he => ?_⟩
                  subst he
                  rw [hN.fp] at ha
                  obtain ⟨t2, h2, h2'⟩ := List.mem_flatMap.1 hb'
                  obtain ⟨q1, q2⟩ := (hmem t2).1 h2
                  rcases (hbd a ha).1 with h1 | h1
                  · have := (hw.bound t2 q1 a h2').2
                    omega
                  · exact hother t2 q1 q2 a h2' h1
                · intro tk ht b hb'
                  rcases List.mem_append.1 ht with ht | ht
                  · have := hbd b (hblkN tk ht b hb')
                    refine ⟨?_, this.2⟩
                    rcases this.1 with h1 | h1
                    · exact hw.size b h1
                    · obtain ⟨t2, k1, _, k3⟩ := hfb b h1
                      exact (hw.bound t2 k1 b k3).1
                  · obtain ⟨t2, q1, q2, rfl⟩ := upm tk ht
                    rw [upu, upfp] at hb'
                    have := hw.bound t2 q1 b hb'
                    exact ⟨this.1, Nat.lt_of_lt_of_le this.2 hkept.size⟩
                · intro tk ht
                  rcases List.mem_append.1 ht with ht | ht
                  · obtain ⟨s, h1, h2, h3, n, h4⟩ := hN.tok tk ht
                    unfold TokRep
                    rw [h1]
                    simp only [h2, if_true]
                    exact ⟨h3, n, h4⟩
                  · obtain ⟨t2, q1, q2, rfl⟩ := upm tk ht
                    exact TokRep.ren hren (upu t2) (upfp t2) (upc t2) (fun b hb' => hheap b (hw.bound t2 q1 b hb').2 (hother t2 q1 q2 b hb')) (hw.rep t2 q1)
                · intro tk ht
                  rcases List.mem_append.1 ht with ht | ht
                  · exact hnewD tk.nm (hN.nm tk ht)
                  · obtain ⟨t2, q1, q2, rfl⟩ := upm tk ht
                    rw [upnm]
                    refine ⟨fun hd => ?_, fun hd => ?_⟩
                    · rcases List.mem_append.1 hd with h1 | h1
                      · rw [hefd] at h1; exact q2 h1
                      · exact (hw.live t2 q1).1 h1
                    · rcases List.mem_append.1 hd with h1 | h1
                      · rw [heff] at h1; simp at h1
                      · exact (hw.live t2 q1).2 h1
                · rw [hefv]
                  have ht := repAs_take hreps W.nres
                  have : (rs ++ (args.toList.map ρ).take W.n).take W.nres = rs := by rw [← hrl, List.take_left]
                  rw [this] at ht
                  exact packV_rep ht
                · rcases h1 with h1 | h1
                  · exact hw.size b h1
                  · obtain ⟨t2, k1, _, k3⟩ := hfb b h1
                    exact (hw.bound t2 k1 b k3).1
                · intro n hn
                  rcases hn with ⟨tk, ht, rfl⟩ | hn | hn
                  · rcases List.mem_append.1 ht with ht | ht
                    · exact .inr (hN.nm tk ht)
                    · obtain ⟨t2, q1, q2, rfl⟩ := upm tk ht
                      rw [upnm]
                      exact .inl (.inl ⟨t2, q1, rfl⟩)
                  · rcases List.mem_append.1 hn with h1 | h1
                    · rw [hefd] at h1
                      exact .inl (hgs_nm n h1)
                    · exact .inl (.inr (.inl h1))
                  · rcases List.mem_append.1 hn with h1 | h1
                    · rw [heff] at h1; simp at h1
                    · exact .inl (.inr (.inr h1))
              · simp at h
            · simp at h
          · simp at h
      · simp at h
    · simp at h
  · simp at h

/-- The state behind such a call. -/
def St.appW {ty : Nat → Type} (st : St ty) (d : Option Tmp) (ef : Eff ty) (ps : List (Nat × SlD ty)) : St ty :=
  { slots := setO (st.slots.map (renV ps)) d ef.v, D := ef.dead ++ st.D, F := ef.frz ++ st.F, ctr := st.ctr + 1, lo := st.lo }

theorem RS.appW {c : Ct cx.ty} {st : St cx.ty} {a : Act} (h : RS cx c st a) {d : Option Tmp} (hd : smallO d = true) (hlo : loO st.lo d = true) {ef : Eff cx.ty} {u : Value} {w' : World} {T' : List (Tk cx.ty)} {ps : List (Nat × SlD cx.ty)} (hg : GoodW cx c ef ps (nmOf st.ctr d) u w' T') : RS cx (c.nx ef w' T') (st.appW d ef ps) (a.put d u) := by
  have hs : a.tmps.size = (st.slots.map (renV ps)).length := by rw [List.length_map]; exact h.size
  refine ⟨hg.wf, put_size hs d ef.v u, ?_, by rw [put_defers]; exact h.defers, fun n => ?_, fun n => ?_, fun n hn => ?_, fun p u' hp => ⟨(h.kp p u' hp).1, (put_lo hlo u (h.kp p u' hp).1).trans (h.kp p u' hp).2⟩⟩
  · refine put_rep hs (fun t => ?_) d hg.rep
    have : (st.slots.map (renV ps)).getD t junk = renV ps (st.slots.getD t junk) := by
      by_cases hlt : t < st.slots.length
      · simp [List.getD, hlt]
      · simp [List.getD, List.getElem?_eq_none (Nat.le_of_not_lt hlt), junk, renV, renA, renL]
    rw [this]
    exact renV_rep hg.ren (h.rep t)
  · simp [Ct.nx, St.appW, h.dead n]
  · simp [Ct.nx, St.appW, h.frz n]
  · rcases hg.names n hn with hn | hn
    · exact Nat.lt_of_lt_of_le (h.names n hn) (Nat.mul_le_mul_right _ (Nat.le_succ _))
    · exact band_lt hd hn

abbrev Kwt (cx : Cx) := FuncId → Option (WFn cx)

def wcallOf (Kw : Kwt cx) (o : Oper) : Option (FuncId × WFn cx × Call) :=
  if o.guard.isNone then
    match o.op with
    | .call cl => match cl.callee with
      | .value (.func f) => match Kw f with
        | some W => some (f, W, cl)
        | none => none
      | _ => none
    | _ => none
  else none

theorem wcallOf_eq {Kw : Kwt cx} {o : Oper} {f : FuncId} {W : WFn cx} {cl : Call} (h : wcallOf Kw o = some (f, W, cl)) : o.guard = none ∧ Kw f = some W ∧ o.op = .call { callee := .value (.func f), args := cl.args, argTypes := cl.argTypes } := by
  unfold wcallOf at h
  split at h
  · rename_i hg
    split at h
    · rename_i cl' ho
      split at h
      · rename_i f' hcal
        split at h
        · rename_i W' hk
          simp only [Option.some.injEq, Prod.mk.injEq] at h
          obtain ⟨rfl, rfl, rfl⟩ := h
          obtain ⟨cal, args, ts⟩ := cl'
          simp only at hcal
          subst hcal
          exact ⟨by simpa using hg, hk, ho⟩
        · simp at h
      · simp at h
    · simp at h
  · simp at h

end
end Go.VM
