/- A part of the proof of FnExactVerdictFor: VmA, VmA2, VmA3. -/
import Derived.WalkKit
import Derived.BigQuiet
import Derived.Laws.BytesString
set_option linter.unusedVariables false
/- The abstract machine: values that carry their contents, and what they stand for in a world. -/
namespace Go.VM

structure SlD (ty : Nat → Type) where
  own : Nat
  nm : Nat
  e : Nat
  o : Bool
  xs : List (ty e)

abbrev L (ty : Nat → Type) := Option (Value ⊕ SlD ty)
abbrev A (ty : Nat → Type) := L ty ⊕ List (L ty)

structure Pt (ty : Nat → Type) where
  kind : Nat
  nm : Nat
  cells : List (L ty)
  s : SlD ty
  i : Nat
  off : Nat

abbrev V (ty : Nat → Type) := A ty ⊕ (List (A ty) ⊕ Pt ty)

structure Cx where
  ty : Nat → Type
  dflt : (e : Nat) → ty e
  size : Nat → Nat
  flat : Nat → Bool
  dom : Nat → Bool
  enc : (e : Nat) → Bool → ty e → List (L ty)
  dec : (e : Nat) → List (L ty) → Option (ty e)

def junk {ty : Nat → Type} : V ty := .inl (.inl none)
def lv {ty : Nat → Type} (v : Value) : L ty := some (.inl v)
def ls {ty : Nat → Type} (s : SlD ty) : L ty := some (.inr s)
def vv {ty : Nat → Type} (v : Value) : V ty := .inl (.inl (some (.inl v)))
def vs {ty : Nat → Type} (s : SlD ty) : V ty := .inl (.inl (some (.inr s)))
def va {ty : Nat → Type} (l : List (L ty)) : V ty := .inl (.inr l)
def ro {ty : Nat → Type} (e : Nat) (xs : List (ty e)) : SlD ty := { own := 0, nm := 0, e := e, o := false, xs := xs }

/-- What is read alone of a piece. -/
def weak {ty : Nat → Type} (o : Bool) : L ty → L ty
  | some (.inr s) => some (.inr { own := if o then 2 else 0, nm := 0, e := s.e, o := o, xs := s.xs })
  | l => l

section
variable (cx : Cx)

/-- A piece that is read: 'S' bounds the blocks that it may lie in. -/
def RepL (w : World) (S : Nat → Prop) : Nat → L cx.ty → Value → Prop
  | _, none, _ => True
  | _, some (.inl v), u => u = v
  | 0, some (.inr _), _ => False
  | n + 1, some (.inr s), u => ∃ a cap, u = .slice a s.xs.length cap ∧ s.xs.length ≤ cap ∧ (s.xs = [] ∨ ∃ b off, a = some ⟨b, off, none⟩ ∧ S b ∧
      ∀ i x, s.xs[i]? = some x → ∀ j l, (cx.enc s.e false x)[j]? = some l → ∃ c, w.cell? ⟨b, off + (i * cx.size s.e + j), none⟩ = some c ∧ RepL w S n l c)

/-- A tree that is owned, with the blocks that it takes. -/
def OwnL (w : World) : Nat → L cx.ty → Value → List Nat → Prop
  | _, none, _, _ => False
  | _, some (.inl v), u, fp => u = v ∧ fp = []
  | 0, some (.inr _), _, _ => False
  | n + 1, some (.inr s), u, fp => ∃ us fpl, w.ownsRow 0 s.e (cx.size s.e) u s.xs.length us ∧ fp = u.ownBlock.toList ++ List.flatten fpl ∧
      us.length = (s.xs.flatMap (cx.enc s.e true)).length ∧ fpl.length = us.length ∧
      ∀ (j : Nat) l c f, (s.xs.flatMap (cx.enc s.e true))[j]? = some l → us[j]? = some c → fpl[j]? = some f → OwnL w n l c f

theorem RepL_succ {w : World} {S : Nat → Prop} : ∀ (n : Nat) (l : L cx.ty) (u : Value), RepL cx w S n l u → RepL cx w S (n + 1) l u
  | _, none, _, _ => by simp [RepL]
  | n, some (.inl v), u, h => by
    cases n <;> simpa [RepL] using h
  | 0, some (.inr _), _, h => by simp [RepL] at h
  | n + 1, some (.inr s), u, h => by
    obtain ⟨a, cap, hu, hcap, h⟩ := h
    refine ⟨a, cap, hu, hcap, ?_⟩
    rcases h with h | ⟨b, off, ha, hS, h⟩
    · exact .inl h
    · refine .inr ⟨b, off, ha, hS, fun i x hx j l hl => ?_⟩
      obtain ⟨c, hc, hr⟩ := h i x hx j l hl
      exact ⟨c, hc, RepL_succ n l c hr⟩

theorem RepL_mono {w w' : World} {S S' : Nat → Prop} (hw : ∀ b, S b → w'.heap[b]? = w.heap[b]?) (hS : ∀ b, S b → S' b) :
    ∀ (n : Nat) (l : L cx.ty) (u : Value), RepL cx w S n l u → RepL cx w' S' n l u
  | _, none, _, _ => by simp [RepL]
  | n, some (.inl v), u, h => by
    cases n <;> simpa [RepL] using h
  | 0, some (.inr _), _, h => by simp [RepL] at h
  | n + 1, some (.inr s), u, h => by
    obtain ⟨a, cap, hu, hcap, h⟩ := h
    refine ⟨a, cap, hu, hcap, ?_⟩
    rcases h with h | ⟨b, off, ha, hb, h⟩
    · exact .inl h
    · refine .inr ⟨b, off, ha, hS b hb, fun i x hx j l hl => ?_⟩
      obtain ⟨c, hc, hr⟩ := h i x hx j l hl
      exact ⟨c, by rw [World.cell?_of_block (hw b hb)]; exact hc, RepL_mono hw hS n l c hr⟩

theorem OwnL_mono {w w' : World} : ∀ (n : Nat) (l : L cx.ty) (u : Value) (fp : List Nat), (∀ b, b ∈ fp → w'.heap[b]? = w.heap[b]?) → OwnL cx w n l u fp → OwnL cx w' n l u fp
  | _, none, _, _, _, h => by simp [OwnL] at h
  | n, some (.inl v), u, fp, _, h => by
    cases n <;> simpa [OwnL] using h
  | 0, some (.inr _), _, _, _, h => by simp [OwnL] at h
  | n + 1, some (.inr s), u, fp, hw, h => by
    obtain ⟨us, fpl, hrow, hfp, hl1, hl2, h⟩ := h
    refine ⟨us, fpl, ?_, hfp, hl1, hl2, fun j l c f h1 h2 h3 => ?_⟩
    · obtain ⟨hx, hc⟩ := hrow
      refine ⟨hx, ?_⟩
      rcases hc with hc | ⟨g, cap, cur, hv, hg, hh, hr⟩
      · exact .inl hc
      · refine .inr ⟨g, cap, cur, hv, hg, ?_, hr⟩
        rw [hw g (by rw [hfp, hv]; simp [Value.ownBlock])]
        exact hh
    · refine OwnL_mono n l c f (fun b hb => hw b ?_) (h j l c f h1 h2 h3)
      rw [hfp]
      exact List.mem_append.2 (.inr (List.mem_flatten.2 ⟨f, List.mem_of_getElem? h3, hb⟩))

end
end Go.VM
namespace Go.VM
section
variable (cx : Cx)

structure Tk (ty : Nat → Type) where
  nm : Nat
  u : Value
  fp : List Nat
  c : SlD ty ⊕ List (L ty)

def vb : Value → List Nat
  | .slice (some a) _ _ => [a.block]
  | .pointer (some a) => [a.block]
  | _ => []

structure Ct (ty : Nat → Type) where
  T : List (Tk ty)
  D : List Nat
  F : List Nat
  w : World
  S : Nat → Prop
  N : Nat → Prop
  K : List (Nat × Value)

variable {cx}

def Rd (c : Ct cx.ty) (b : Nat) : Prop := b < c.w.heap.size ∧ (c.S b ∨ c.N b) ∧ ∀ tk ∈ c.T, b ∉ vb tk.u

variable (cx)
/-- A piece in a slot. -/
def RepLS (c : Ct cx.ty) (l : L cx.ty) (u : Value) : Prop :=
  match l with
  | none => True
  | some (.inl v) => u = v
  | some (.inr s) =>
    if s.own = 1 then
      (∃ a n cap, u = .slice a n cap) ∧
      if s.nm ∈ c.D then True
      else if s.nm ∈ c.F then ∃ n, RepL cx c.w (Rd c) n (some (.inr s)) u
      else ∃ tk ∈ c.T, tk.nm = s.nm ∧ tk.c = .inl s ∧ tk.u = u
    else ∃ n, RepL cx c.w (Rd c) n (some (.inr s)) u

def RepLs (c : Ct cx.ty) (l : List (L cx.ty)) (us : List Value) : Prop := us.length = l.length ∧ ∀ (j : Nat) a u, l[j]? = some a → us[j]? = some u → RepLS cx c a u

def RepA (c : Ct cx.ty) (a : A cx.ty) (u : Value) : Prop :=
  match a with
  | .inl l => RepLS cx c l u
  | .inr l => ∃ us : List Value, u = .agg us.toArray ∧ RepLs cx c l us

def RepAs (c : Ct cx.ty) (l : List (A cx.ty)) (us : List Value) : Prop := us.length = l.length ∧ ∀ (j : Nat) a u, l[j]? = some a → us[j]? = some u → RepA cx c a u

/-- The cells of one element, behind an address. -/
def RepEl (c : Ct cx.ty) (s : SlD cx.ty) (i : Nat) (b o : Nat) : Prop :=
  Rd c b ∧ ∃ x, s.xs[i]? = some x ∧ ∃ n, ∀ j l, (cx.enc s.e false x)[j]? = some l → ∃ v, c.w.cell? ⟨b, o + j, none⟩ = some v ∧ RepL cx c.w (Rd c) n l v

/-- A place in a box, or (i = n + 1, n above 0) a window of n cells, or (i = 1) the box as the receiver of a method value: off is the method. -/
def boxAt (i g off : Nat) : Value := match i with | 0 => .pointer (some ⟨g, off, none⟩) | 1 => .func (.func off) #[.pointer (some ⟨g, 0, none⟩)] #[] | n + 2 => .slice (some ⟨g, off, none⟩) (n + 1) (n + 1)
theorem boxAt_win {m g off : Nat} (h : m ≠ 0) : boxAt (m + 1) g off = .slice (some ⟨g, off, none⟩) m m := by
  cases m with
  | zero => exact absurd rfl h
  | succ m => rfl
/-- A pointer, or (t = f + 1) the method value of f bound to it. -/
def mvA (t b off : Nat) : Value := match t with | 0 => .pointer (some ⟨b, off, none⟩) | f + 1 => .func (.func f) #[.pointer (some ⟨b, off, none⟩)] #[]

def RepP (c : Ct cx.ty) (p : Pt cx.ty) (u : Value) : Prop :=
  match p.kind with
  | 0 => ∃ tk ∈ c.T, tk.nm = p.nm ∧ tk.c = .inr p.cells ∧ ∃ g, tk.u = .pointer (some ⟨g, 0, none⟩) ∧ u = boxAt p.i g p.off
  | 1 =>
    if p.nm ∈ c.D then True
    else if p.nm ∈ c.F then ∃ b o, u = .pointer (some ⟨b, o + p.off, none⟩) ∧ RepEl cx c p.s p.i b o
    else ∃ tk ∈ c.T, tk.nm = p.nm ∧ tk.c = .inl p.s ∧ p.i < p.s.xs.length ∧ ∃ g n cap, tk.u = .slice (some ⟨g, 0, none⟩) n cap ∧ u = .pointer (some ⟨g, p.i * cx.size p.s.e + p.off, none⟩)
  | 2 => ∃ b o, u = mvA p.nm b (o + p.off) ∧ RepEl cx c p.s p.i b o
  | _ => True

def RepV (c : Ct cx.ty) (v : V cx.ty) (u : Value) : Prop :=
  match v with
  | .inl a => RepA cx c a u
  | .inr (.inl l) => ∃ us : List Value, u = .tuple us.toArray ∧ RepAs cx c l us
  | .inr (.inr p) => RepP cx c p u

/-- What the table says of one owned thing. -/
def TokRep (c : Ct cx.ty) (tk : Tk cx.ty) : Prop :=
  match tk.c with
  | .inl s => vb tk.u = tk.u.ownBlock.toList ∧
    if s.o then ∃ n, OwnL cx c.w n (some (.inr s)) tk.u (vb tk.u ++ tk.fp)
    else tk.fp = [] ∧ ∃ us n, c.w.ownsRow 0 s.e (cx.size s.e) tk.u s.xs.length us ∧ us.length = (s.xs.flatMap (cx.enc s.e false)).length ∧
      ∀ (j : Nat) l v, (s.xs.flatMap (cx.enc s.e false))[j]? = some l → us[j]? = some v → RepL cx c.w (Rd c) n l v
  | .inr cells => tk.fp = [] ∧ ∃ g cur e, tk.u = .pointer (some ⟨g, 0, none⟩) ∧ c.w.heap[g]? = some (.cells cur e (0, 0)) ∧ RepLs cx c cells cur.toList

structure Wf (c : Ct cx.ty) : Prop where
  names : (c.T.map (·.nm)).Nodup
  nodup : (c.T.flatMap fun tk => vb tk.u ++ tk.fp).Nodup
  bound : ∀ tk ∈ c.T, ∀ b ∈ vb tk.u ++ tk.fp, c.N b ∧ b < c.w.heap.size
  rep : ∀ tk ∈ c.T, TokRep cx c tk
  start : ∀ b, c.S b → ¬ c.N b
  live : ∀ tk ∈ c.T, tk.nm ∉ c.D ∧ tk.nm ∉ c.F
  size : ∀ b, c.w.heap.size ≤ b → c.N b

theorem Wf.lt {c : Ct cx.ty} (h : Wf cx c) {k : Nat} (hk : ¬ c.N k) : k < c.w.heap.size := by
  rcases Nat.lt_or_ge k c.w.heap.size with h1 | h1
  · exact h1
  · exact absurd (h.size k h1) hk

/-- From one state of the table to another: what may be read stays. -/
structure Pres (c c' : Ct cx.ty) : Prop where
  rd : ∀ b, Rd c b → Rd c' b ∧ c'.w.heap[b]? = c.w.heap[b]?
  dead : ∀ n, n ∈ c.D → n ∈ c'.D
  frz : ∀ n, n ∈ c.F → n ∈ c'.F
  tok : ∀ tk ∈ c.T, tk.nm ∉ c'.D → tk.nm ∉ c'.F → tk ∈ c'.T
  box : ∀ tk ∈ c.T, ∀ l, tk.c = .inr l → tk ∈ c'.T
  froze : ∀ tk ∈ c.T, ∀ s, tk.c = .inl s → tk.nm ∉ c'.D → tk.nm ∈ c'.F → ∃ n, RepL cx c'.w (Rd c') n (some (.inr s)) tk.u

theorem RepL.pres {c c' : Ct cx.ty} (h : Pres cx c c') {n : Nat} {l : L cx.ty} {u : Value} (hr : RepL cx c.w (Rd c) n l u) : RepL cx c'.w (Rd c') n l u :=
  RepL_mono cx (fun b hb => (h.rd b hb).2) (fun b hb => (h.rd b hb).1) n l u hr

theorem RepLS.pres {c c' : Ct cx.ty} (h : Pres cx c c') {l : L cx.ty} {u : Value} (hr : RepLS cx c l u) : RepLS cx c' l u := by
  match l, hr with
  | none, _ => trivial
  | some (.inl v), hr => exact hr
  | some (.inr s), hr =>
    unfold RepLS at hr ⊢
    by_cases h1 : s.own = 1
    · simp only [h1, if_true] at hr ⊢
      obtain ⟨hsl, hr⟩ := hr
      refine ⟨hsl, ?_⟩
      by_cases h2 : s.nm ∈ c'.D
      · simp [h2]
      · have h2' : s.nm ∉ c.D := fun x => h2 (h.dead _ x)
        simp only [h2, h2', if_false] at hr ⊢
        by_cases h3 : s.nm ∈ c.F
        · simp only [h3, h.frz _ h3, if_true] at hr ⊢
          obtain ⟨n, hr⟩ := hr
          exact ⟨n, RepL.pres cx h hr⟩
        · simp only [h3, if_false] at hr
          obtain ⟨tk, htk, hn, hc, hu⟩ := hr
          by_cases h4 : s.nm ∈ c'.F
          · simp only [h4, if_true]
            subst hu
            exact h.froze tk htk s hc (hn ▸ h2) (hn ▸ h4)
          · simp only [h4, if_false]
            exact ⟨tk, h.tok tk htk (hn ▸ h2) (hn ▸ h4), hn, hc, hu⟩
    · simp only [h1, if_false] at hr ⊢
      obtain ⟨n, hr⟩ := hr
      exact ⟨n, RepL.pres cx h hr⟩

theorem RepLs.pres {c c' : Ct cx.ty} (h : Pres cx c c') {l : List (L cx.ty)} {us : List Value} (hr : RepLs cx c l us) : RepLs cx c' l us :=
  ⟨hr.1, fun j a u h1 h2 => RepLS.pres cx h (hr.2 j a u h1 h2)⟩

theorem RepA.pres {c c' : Ct cx.ty} (h : Pres cx c c') {a : A cx.ty} {u : Value} (hr : RepA cx c a u) : RepA cx c' a u := by
  match a, hr with
  | .inl l, hr => exact RepLS.pres cx h hr
  | .inr l, ⟨us, hu, hr⟩ => exact ⟨us, hu, hr.pres cx h⟩

theorem RepAs.pres {c c' : Ct cx.ty} (h : Pres cx c c') {l : List (A cx.ty)} {us : List Value} (hr : RepAs cx c l us) : RepAs cx c' l us :=
  ⟨hr.1, fun j a u h1 h2 => RepA.pres cx h (hr.2 j a u h1 h2)⟩

theorem RepEl.pres {c c' : Ct cx.ty} (h : Pres cx c c') {s : SlD cx.ty} {i b o : Nat} (hr : RepEl cx c s i b o) : RepEl cx c' s i b o := by
  obtain ⟨hb, x, hx, n, hr⟩ := hr
  refine ⟨(h.rd b hb).1, x, hx, n, fun j l hl => ?_⟩
  obtain ⟨v, hv, hr⟩ := hr j l hl
  exact ⟨v, by rw [World.cell?_of_block (h.rd b hb).2]; exact hv, RepL.pres cx h hr⟩

theorem RepL_el {w : World} {S : Nat → Prop} {n : Nat} {s : SlD cx.ty} {g k cap : Nat} (h : RepL cx w S n (some (.inr s)) (.slice (some ⟨g, 0, none⟩) k cap)) {i : Nat} {x : cx.ty s.e} (hx : s.xs[i]? = some x) :
    S g ∧ ∃ n, ∀ j l, (cx.enc s.e false x)[j]? = some l → ∃ v, w.cell? ⟨g, i * cx.size s.e + j, none⟩ = some v ∧ RepL cx w S n l v := by
  cases n with
  | zero => simp [RepL] at h
  | succ n =>
    obtain ⟨a, cap', hu, _, h⟩ := h
    rcases h with h | ⟨b, off, ha, hS, h⟩
    · rw [h] at hx; simp at hx
    · rw [ha] at hu
      simp only [Value.slice.injEq, Option.some.injEq, Addr.mk.injEq] at hu
      obtain ⟨⟨rfl, rfl, _⟩, _, _⟩ := hu
      refine ⟨hS, n, fun j l hl => ?_⟩
      obtain ⟨v, hv, hr⟩ := h i x hx j l hl
      exact ⟨v, by simpa using hv, hr⟩

theorem RepP.pres {c c' : Ct cx.ty} (h : Pres cx c c') {p : Pt cx.ty} {u : Value} (hr : RepP cx c p u) : RepP cx c' p u := by
  unfold RepP at hr ⊢
  split at hr
  · obtain ⟨tk, htk, hn, hc, hr⟩ := hr
    exact ⟨tk, h.box tk htk _ hc, hn, hc, hr⟩
  · by_cases h2 : p.nm ∈ c'.D
    · simp [h2]
    · have h2' : p.nm ∉ c.D := fun x => h2 (h.dead _ x)
      simp only [h2, h2', if_false] at hr ⊢
      by_cases h3 : p.nm ∈ c.F
      · simp only [h3, h.frz _ h3, if_true] at hr ⊢
        obtain ⟨b, o, hu, hr⟩ := hr
        exact ⟨b, o, hu, hr.pres cx h⟩
      · simp only [h3, if_false] at hr
        obtain ⟨tk, htk, hn, hc, hi, g, n, cap, hu, hp⟩ := hr
        by_cases h4 : p.nm ∈ c'.F
        · simp only [h4, if_true]
          obtain ⟨m, hm⟩ := h.froze tk htk _ hc (hn ▸ h2) (hn ▸ h4)
          rw [hu] at hm
          obtain ⟨x, hx⟩ : ∃ x, p.s.xs[p.i]? = some x := ⟨_, List.getElem?_eq_getElem hi⟩
          obtain ⟨hS, k, hk⟩ := RepL_el cx hm hx
          exact ⟨g, p.i * cx.size p.s.e, hp, hS, x, hx, k, hk⟩
        · simp only [h4, if_false]
          exact ⟨tk, h.tok tk htk (hn ▸ h2) (hn ▸ h4), hn, hc, hi, g, n, cap, hu, hp⟩
  · obtain ⟨b, o, hu, hr⟩ := hr
    exact ⟨b, o, hu, hr.pres cx h⟩
  · trivial

theorem RepV.pres {c c' : Ct cx.ty} (h : Pres cx c c') {v : V cx.ty} {u : Value} (hr : RepV cx c v u) : RepV cx c' v u := by
  match v, hr with
  | .inl a, hr => exact RepA.pres cx h hr
  | .inr (.inl l), ⟨us, hu, hr⟩ => exact ⟨us, hu, hr.pres cx h⟩
  | .inr (.inr p), hr => exact RepP.pres cx h hr

theorem Pres.refl {c : Ct cx.ty} (h : Wf cx c) : Pres cx c c :=
  ⟨fun _ h => ⟨h, rfl⟩, fun _ h => h, fun _ h => h, fun _ h _ _ => h, fun _ h _ _ => h, fun tk ht _ _ _ hf => absurd hf (h.live tk ht).2⟩

/-- A token stays as it is where its own blocks stay. -/
theorem TokRep.pres {c c' : Ct cx.ty} (h : Pres cx c c') {tk : Tk cx.ty} (hb : ∀ b ∈ vb tk.u ++ tk.fp, c'.w.heap[b]? = c.w.heap[b]?) (hr : TokRep cx c tk) : TokRep cx c' tk := by
  unfold TokRep at hr ⊢
  split at hr
  · rename_i s hc
    obtain ⟨hv, hr⟩ := hr
    refine ⟨hv, ?_⟩
    split at hr
    · rename_i ho
      obtain ⟨n, hr⟩ := hr
      simp only [ho, if_true]
      exact ⟨n, OwnL_mono cx n _ _ _ hb hr⟩
    · rename_i ho
      obtain ⟨hf, us, n, hrow, hl, hr⟩ := hr
      rw [if_neg ho]
      refine ⟨hf, us, n, ?_, hl, fun j l v h1 h2 => RepL.pres cx h (hr j l v h1 h2)⟩
      obtain ⟨hx, hcc⟩ := hrow
      refine ⟨hx, ?_⟩
      rcases hcc with hcc | ⟨g, cap, cur, hv', hg, hh, hrest⟩
      · exact .inl hcc
      · refine .inr ⟨g, cap, cur, hv', hg, ?_, hrest⟩
        rw [hb g (by rw [hv']; simp [vb])]
        exact hh
  · obtain ⟨hf, g, cur, e, hu, hh, hr⟩ := hr
    refine ⟨hf, g, cur, e, hu, ?_, hr.pres cx h⟩
    rw [hb g (by rw [hu]; simp [vb])]
    exact hh

end
end Go.VM
namespace Go.VM
section
variable (cx : Cx) (P : Program)

structure Cx.Ok (cx : Cx) : Prop where
  len : ∀ e o x, (cx.enc e o x).length = cx.size e
  leaf : ∀ e o x l, l ∈ cx.enc e o x → (∃ v, l = some (.inl v) ∧ v.oneCell' = true) ∨ (∃ s, l = some (.inr s) ∧ s.own = (if o then 2 else 0))
  weak : ∀ e o o' x, (cx.enc e o x).map (weak o') = cx.enc e o' x
  dec : ∀ e l x o, cx.dec e l = some x → l.map (VM.weak o) = cx.enc e o x
  flat : ∀ e o x, cx.flat e = true → ∀ l ∈ cx.enc e o x, ∃ v, l = some (.inl v)

theorem flat_get {α β : Type} (f : α → List β) (k : Nat) (hf : ∀ x, (f x).length = k) : ∀ (xs : List α) (i : Nat) (x : α), xs[i]? = some x → ∀ j, j < k → (xs.flatMap f)[i * k + j]? = (f x)[j]?
  | [], i, x, h => by simp at h
  | y :: ys, 0, x, h => by
    intro j hj
    simp only [List.getElem?_cons_zero, Option.some.injEq] at h
    subst h
    simp only [List.flatMap_cons, Nat.zero_mul, Nat.zero_add]
    rw [List.getElem?_append_left (by rw [hf]; exact hj)]
  | y :: ys, i + 1, x, h => by
    intro j hj
    simp only [List.getElem?_cons_succ] at h
    have := flat_get f k hf ys i x h j hj
    simp only [List.flatMap_cons]
    rw [List.getElem?_append_right (by rw [hf, Nat.add_mul]; omega), ← this, hf]
    congr 1
    rw [Nat.add_mul]; omega

theorem flat_len {α β : Type} (f : α → List β) (k : Nat) (hf : ∀ x, (f x).length = k) (xs : List α) : (xs.flatMap f).length = xs.length * k := by
  induction xs with
  | nil => simp
  | cons y ys ih => simp only [List.flatMap_cons, List.length_append, hf, ih, List.length_cons, Nat.add_mul]; omega

theorem RepL_weak {w : World} {S : Nat → Prop} {n : Nat} {l : L cx.ty} {u : Value} (o : Bool) : RepL cx w S n (weak o l) u ↔ RepL cx w S n l u := by
  match l, n with
  | none, _ => simp [weak, RepL]
  | some (.inl v), n => simp [weak]
  | some (.inr s), 0 => simp [weak, RepL]
  | some (.inr s), n + 1 => simp [weak, RepL]

variable {cx}

theorem enc_get (ok : cx.Ok) {e : Nat} {o o' : Bool} {x : cx.ty e} {j : Nat} {l : L cx.ty} (h : (cx.enc e o x)[j]? = some l) : (cx.enc e o' x)[j]? = some (weak o' l) := by
  rw [← ok.weak e o o' x, List.getElem?_map, h]; rfl

/-- What is owned may be read. -/
theorem OwnL.rep (ok : cx.Ok) {w : World} {S : Nat → Prop} : ∀ (n : Nat) (l : L cx.ty) (u : Value) (fp : List Nat), OwnL cx w n l u fp → (∀ b ∈ fp, S b) → RepL cx w S n l u
  | _, none, _, _, h, _ => by simp [OwnL] at h
  | n, some (.inl v), u, fp, h, _ => by
    cases n <;> (simp only [OwnL] at h; simp [RepL, h.1])
  | 0, some (.inr _), _, _, h, _ => by simp [OwnL] at h
  | n + 1, some (.inr s), u, fp, h, hS => by
    obtain ⟨us, fpl, hrow, hfp, hl1, hl2, h⟩ := h
    have hsz := flat_len (cx.enc s.e true) (cx.size s.e) (fun x => ok.len s.e true x) s.xs
    rcases hrow.2 with ⟨hu, h0⟩ | ⟨g, cap, cur, hu, hg, hh, hn, hm, hc, ht⟩
    · exact ⟨none, 0, by rw [hu, h0], by omega, .inl (List.eq_nil_of_length_eq_zero h0)⟩
    · refine ⟨some ⟨g, 0, none⟩, cap, hu, hn, .inr ⟨g, 0, rfl, hS g (by rw [hfp, hu]; simp [Value.ownBlock]), fun i x hx j l hl => ?_⟩⟩
      have hj : j < cx.size s.e := by rw [← ok.len s.e false x]; exact (List.getElem?_eq_some_iff.1 hl).1
      have hl' := enc_get ok (o' := true) hl
      rw [← flat_get (cx.enc s.e true) (cx.size s.e) (fun x => ok.len s.e true x) s.xs i x hx j hj] at hl'
      have hlt : i * cx.size s.e + j < us.length := by rw [hl1]; exact (List.getElem?_eq_some_iff.1 hl').1
      have hc1 := List.getElem?_eq_getElem hlt
      have hf1 : fpl[i * cx.size s.e + j]? = some fpl[i * cx.size s.e + j] := List.getElem?_eq_getElem (by omega)
      refine ⟨us[i * cx.size s.e + j], ?_, ?_⟩
      · have := hrow.cells (g := g) (by rw [hu]; rfl) _ _ hc1
        simpa [Addr.add_lit] using this
      · have hown := h _ _ _ _ hl' hc1 hf1
        have := OwnL.rep ok n _ _ _ hown (fun b hb => hS b (by rw [hfp]; exact List.mem_append.2 (.inr (List.mem_flatten.2 ⟨_, List.mem_of_getElem? hf1, hb⟩))))
        exact (RepL_weak cx true).1 this

theorem mem_rd {c : Ct cx.ty} (h : Wf cx c) {tk : Tk cx.ty} (ht : tk ∈ c.T) {b : Nat} (hb : b ∈ tk.fp) : Rd c b := by
  have hb' := h.bound tk ht b (List.mem_append.2 (.inr hb))
  refine ⟨hb'.2, .inr hb'.1, fun tk' ht' hv => ?_⟩
  by_cases he : tk' = tk
  · subst he
    have hn := h.nodup
    obtain ⟨l1, l2, hl⟩ := List.append_of_mem ht
    rw [hl] at hn
    simp only [List.flatMap_append, List.flatMap_cons] at hn
    have h2 := (List.nodup_append.1 (List.nodup_append.1 hn).2.1).1
    exact (List.nodup_append.1 h2).2.2 b hv b hb rfl
  · obtain ⟨l1, l2, hl⟩ := List.append_of_mem ht
    have hn := h.nodup
    rw [hl] at hn ht'
    simp only [List.flatMap_append, List.flatMap_cons] at hn
    have hm : b ∈ vb tk.u ++ tk.fp := List.mem_append.2 (.inr hb)
    rcases List.mem_append.1 ht' with h1 | h1
    · exact (List.nodup_append.1 hn).2.2 b (List.mem_flatMap.2 ⟨tk', h1, List.mem_append.2 (.inl hv)⟩) b (List.mem_append.2 (.inl hm)) rfl
    · rcases List.mem_cons.1 h1 with h1 | h1
      · exact he h1
      · exact (List.nodup_append.1 (List.nodup_append.1 hn).2.1).2.2 b hm b (List.mem_flatMap.2 ⟨tk', h1, List.mem_append.2 (.inl hv)⟩) rfl

/-- The head of an owned slice, and its elements, as they are read. -/
theorem tok_el (ok : cx.Ok) {c : Ct cx.ty} (h : Wf cx c) {tk : Tk cx.ty} (ht : tk ∈ c.T) {s : SlD cx.ty} (hc : tk.c = .inl s) :
    (tk.u = .slice none 0 0 ∧ s.xs = []) ∨ ∃ g cap, tk.u = .slice (some ⟨g, 0, none⟩) s.xs.length cap ∧ s.xs.length ≤ cap ∧
      ∀ (i : Nat) x, s.xs[i]? = some x → ∃ n, ∀ j l, (cx.enc s.e false x)[j]? = some l → ∃ v, c.w.cell? ⟨g, i * cx.size s.e + j, none⟩ = some v ∧ RepL cx c.w (Rd c) n l v := by
  have hr := h.rep tk ht
  unfold TokRep at hr
  rw [hc] at hr
  simp only at hr
  obtain ⟨hv, hr⟩ := hr
  split at hr
  · rename_i ho
    obtain ⟨n, hr⟩ := hr
    cases n with
    | zero => simp [OwnL] at hr
    | succ n =>
      obtain ⟨us, fpl, hrow, hfp, hl1, hl2, hr⟩ := hr
      rcases hrow.2 with ⟨hu, h0⟩ | ⟨g, cap, cur, hu, hg, hh, hn, hm, hcc, htk⟩
      · exact .inl ⟨hu, List.eq_nil_of_length_eq_zero h0⟩
      · refine .inr ⟨g, cap, hu, hn, fun i x hx => ⟨n, fun j l hl => ?_⟩⟩
        have hj : j < cx.size s.e := by rw [← ok.len s.e false x]; exact (List.getElem?_eq_some_iff.1 hl).1
        have hl' := enc_get ok (o' := true) hl
        rw [← flat_get (cx.enc s.e true) (cx.size s.e) (fun x => ok.len s.e true x) s.xs i x hx j hj] at hl'
        have hlt : i * cx.size s.e + j < us.length := by rw [hl1]; exact (List.getElem?_eq_some_iff.1 hl').1
        have hc1 := List.getElem?_eq_getElem hlt
        have hf1 : fpl[i * cx.size s.e + j]? = some fpl[i * cx.size s.e + j] := List.getElem?_eq_getElem (by omega)
        refine ⟨us[i * cx.size s.e + j], ?_, ?_⟩
        · have := hrow.cells (g := g) (by rw [hu]; rfl) _ _ hc1
          simpa [Addr.add_lit] using this
        · have hown := hr _ _ _ _ hl' hc1 hf1
          have hfps : tk.fp = List.flatten fpl := by
            have : vb tk.u ++ tk.fp = vb tk.u ++ List.flatten fpl := by rw [hfp, hv]
            exact List.append_cancel_left this
          have := OwnL.rep ok (S := Rd c) n _ _ _ hown (fun b hb => mem_rd h ht (by rw [hfps]; exact List.mem_flatten.2 ⟨_, List.mem_of_getElem? hf1, hb⟩))
          exact (RepL_weak cx true).1 this
  · obtain ⟨hf, us, n, hrow, hl, hr⟩ := hr
    rcases hrow.2 with ⟨hu, h0⟩ | ⟨g, cap, cur, hu, hg, hh, hn, hm, hcc, htk⟩
    · exact .inl ⟨hu, List.eq_nil_of_length_eq_zero h0⟩
    · refine .inr ⟨g, cap, hu, hn, fun i x hx => ⟨n, fun j l hl' => ?_⟩⟩
      have hj : j < cx.size s.e := by rw [← ok.len s.e false x]; exact (List.getElem?_eq_some_iff.1 hl').1
      have hl2 := hl'
      rw [← flat_get (cx.enc s.e false) (cx.size s.e) (fun x => ok.len s.e false x) s.xs i x hx j hj] at hl2
      have hlt : i * cx.size s.e + j < us.length := by rw [hl]; exact (List.getElem?_eq_some_iff.1 hl2).1
      have hc1 := List.getElem?_eq_getElem hlt
      refine ⟨us[i * cx.size s.e + j], ?_, hr _ _ _ hl2 hc1⟩
      have := hrow.cells (g := g) (by rw [hu]; rfl) _ _ hc1
      simpa [Addr.add_lit] using this

end
end Go.VM
namespace Go.VM
section
variable {cx : Cx} {P : Program}

structure Eff (ty : Nat → Type) where
  v : V ty
  dead : List Nat
  frz : List Nat
  live : List Nat
  read : List Nat

def purR {ty : Nat → Type} (v : V ty) (r : List Nat) : Eff ty := { v := v, dead := [], frz := [], live := [], read := r }

def getV {ty : Nat → Type} (slots : List (V ty)) : Operand → V ty
  | .tmp t => slots.getD t junk
  | .const v => vv v
  | .global _ => junk
  | .func f => vv (.func (.func f) #[] #[])

/-- All blocks but some are as they were. -/
structure Kept (N : Nat → Prop) (w w' : World) : Prop where
  os : w'.os = w.os
  tape : w'.tape = w.tape
  output : w'.output = w.output
  size : w.heap.size ≤ w'.heap.size
  block : ∀ k, ¬ N k → w'.heap[k]? = w.heap[k]?

theorem Kept.refl (N : Nat → Prop) (w : World) : Kept N w w := ⟨rfl, rfl, rfl, Nat.le_refl _, fun _ _ => rfl⟩
theorem Kept.trans {N : Nat → Prop} {a b c : World} (h : Kept N a b) (k : Kept N b c) : Kept N a c :=
  ⟨k.os.trans h.os, k.tape.trans h.tape, k.output.trans h.output, Nat.le_trans h.size k.size, fun i hi => (k.block i hi).trans (h.block i hi)⟩
theorem kept_of {N : Nat → Prop} {B : Nat} {w w' : World} (h : Go.RowKit.Below B w w') (hN : ∀ b, B ≤ b → N b) : Kept N w w' :=
  ⟨h.os, h.tape, h.output, h.size, fun k hk => h.block k (by rcases Nat.lt_or_ge k B with h1 | h1; exact h1; exact absurd (hN k h1) hk)⟩
theorem Kept.drew {N : Nat → Prop} {a w : World} (h : Kept N a w) : Kept N a { w with drawn := w.drawn + 1 } := ⟨h.os, h.tape, h.output, h.size, h.block⟩
theorem Kept.low {B : Nat} {w w' : World} (h : Kept (fun b => B ≤ b) w w') : Go.RowKit.Below B w w' :=
  ⟨h.os, h.tape, h.output, h.size, fun k hk => h.block k (by show ¬ B ≤ k; omega)⟩

def Nm {ty : Nat → Type} (c : Ct ty) (n : Nat) : Prop := (∃ tk ∈ c.T, tk.nm = n) ∨ n ∈ c.D ∨ n ∈ c.F

def Ct.nx {ty : Nat → Type} (c : Ct ty) (ef : Eff ty) (w' : World) (T' : List (Tk ty)) : Ct ty := { T := T', D := ef.dead ++ c.D, F := ef.frz ++ c.F, w := w', S := c.S, N := c.N, K := c.K }

structure Good (cx : Cx) (c : Ct cx.ty) (ef : Eff cx.ty) (nm0 : Nat) (u : Value) (w' : World) (T' : List (Tk cx.ty)) : Prop where
  wf : Wf cx (c.nx ef w' T')
  pres : Pres cx c (c.nx ef w' T')
  rep : RepV cx (c.nx ef w' T') ef.v u
  below : Kept c.N c.w w'
  names : ∀ n, Nm (c.nx ef w' T') n → Nm c n ∨ (nm0 ≤ n ∧ n < nm0 + 64)

/-- The operation, carried out in 'w'. -/
def Runs (P : Program) (o : Oper) (ρ : Operand → Value) (w : World) (K : Value → World → Prop) : Prop :=
  match (execOp ρ o).run P w with
  | .ok (.value u) w' => K u w'
  | .ok .skip w' => K undef w'
  | .ok (.enter f args) w' => Calls P f args w' (fun e w'' => ∃ v, e = .returned v ∧ K v w'')
  | _ => False

structure EffOK (P : Program) (cx : Cx) (o : Oper) (slots : List (V cx.ty)) (nm0 : Nat) (ef : Eff cx.ty) : Prop where
  go : ∀ (c : Ct cx.ty) (ρ : Operand → Value), Wf cx c → (∀ x ∈ o.op.operands, RepV cx c (getV slots x) (ρ x)) → (∀ n ∈ ef.live, n ∉ c.D ∧ n ∉ c.F) → (∀ n ∈ ef.read, n ∉ c.D) →
    (∀ n, Nm c n → ¬ (nm0 ≤ n ∧ n < nm0 + 64)) → Runs P o ρ c.w (fun u w' => ∃ T', Good cx c ef nm0 u w' T')

theorem good_pur {c : Ct cx.ty} (h : Wf cx c) {v : V cx.ty} {r : List Nat} {u : Value} {nm0 : Nat} (hr : RepV cx c v u) : Good cx c (purR v r) nm0 u c.w c.T :=
  ⟨h, Pres.refl cx h, hr, Kept.refl _ _, fun _ hn => .inl hn⟩

/-- An operation that hands back a value and leaves the world. -/
theorem effok_pur {o : Oper} {slots : List (V cx.ty)} {nm0 : Nat} {v : V cx.ty} {r : List Nat}
    (h : ∀ (c : Ct cx.ty) (ρ : Operand → Value), Wf cx c → (∀ x ∈ o.op.operands, RepV cx c (getV slots x) (ρ x)) → (∀ n ∈ r, n ∉ c.D) → ∃ u, (execOp ρ o).run P c.w = .ok (.value u) c.w ∧ RepV cx c v u) :
    EffOK P cx o slots nm0 (purR v r) := by
  refine ⟨fun c ρ hw ho _ hrd _ => ?_⟩
  obtain ⟨u, hu, hr⟩ := h c ρ hw ho hrd
  unfold Runs
  rw [hu]
  exact ⟨c.T, good_pur hw hr⟩

/-! ### Values that lie in no memory -/
def pureV (P : Program) : Sem Next → Option Value
  | .pure (.value v) => some v
  | .program k => pureV P (k P)
  | .mark _ k => pureV P k
  | _ => none

theorem pureV_run (w : World) : ∀ (s : Sem Next) (v : Value), pureV P s = some v → s.run P w = .ok (.value v) w := by
  intro s
  induction s with
  | pure a => intro v h; cases a <;> simp [pureV] at h; subst h; simp [Sem.run]
  | program k ih => intro v h; simp only [pureV] at h; simp only [Sem.run]; exact ih _ v h
  | mark m k ih => intro v h; simp only [pureV] at h; simp only [Sem.run]; exact ih v h
  | _ => intro v h; simp [pureV] at h

def leafVal {ty : Nat → Type} : L ty → Option Value
  | some (.inl v) => some v
  | _ => none

def leafVals {ty : Nat → Type} : List (L ty) → Option (List Value)
  | [] => some []
  | l :: r => match leafVal l, leafVals r with
    | some v, some vs => some (v :: vs)
    | _, _ => none

def toVal {ty : Nat → Type} : V ty → Option Value
  | .inl (.inl l) => leafVal l
  | .inl (.inr l) => match leafVals l with
    | some vs => some (.agg vs.toArray)
    | none => none
  | _ => none

def ofVal {ty : Nat → Type} : Value → V ty
  | .agg cs => va (cs.toList.map lv)
  | v => vv v

theorem leafVal_rep {c : Ct cx.ty} {l : L cx.ty} {u v : Value} (h : RepLS cx c l u) (hv : leafVal l = some v) : u = v := by
  match l, h, hv with
  | some (.inl x), h, hv => simp only [leafVal, Option.some.injEq] at hv; subst hv; exact h

theorem leafVals_rep {c : Ct cx.ty} : ∀ (l : List (L cx.ty)) (us vs : List Value), RepLs cx c l us → leafVals l = some vs → us = vs
  | [], us, vs, h, hv => by
    simp only [leafVals, Option.some.injEq] at hv
    subst hv
    exact List.eq_nil_of_length_eq_zero h.1
  | l :: r, us, vs, h, hv => by
    simp only [leafVals] at hv
    split at hv
    · rename_i v vs' h1 h2
      simp only [Option.some.injEq] at hv
      subst hv
      match us, h with
      | [], h => simp [RepLs] at h
      | u :: us, h =>
        have e1 := leafVal_rep (h.2 0 l u rfl rfl) h1
        have e2 := leafVals_rep r us vs' ⟨by have := h.1; simpa using this, fun j a b h1 h2 => h.2 (j + 1) a b (by simpa using h1) (by simpa using h2)⟩ h2
        rw [e1, e2]
    · simp at hv

theorem toVal_rep {c : Ct cx.ty} {v : V cx.ty} {u x : Value} (h : RepV cx c v u) (hv : toVal v = some x) : u = x := by
  match v, h, hv with
  | .inl (.inl l), h, hv => exact leafVal_rep h hv
  | .inl (.inr l), ⟨us, hu, h⟩, hv =>
    simp only [toVal] at hv
    split at hv
    · rename_i vs hvs
      simp only [Option.some.injEq] at hv
      subst hv
      rw [hu, leafVals_rep l us vs h hvs]
    · simp at hv

theorem ofVal_rep {c : Ct cx.ty} (v : Value) : RepV cx c (ofVal v) v := by
  unfold ofVal
  split
  · rename_i cs
    refine ⟨cs.toList, by simp, by simp, fun j a u h1 h2 => ?_⟩
    simp only [List.getElem?_map] at h1
    rw [h2] at h1
    simp only [Option.map_some, Option.some.injEq] at h1
    subst h1
    rfl
  · rfl

def allVal {ty : Nat → Type} (slots : List (V ty)) : List Operand → Bool
  | [] => true
  | x :: r => match toVal (getV slots x) with
    | some _ => allVal slots r
    | none => false

theorem allVal_spec {slots : List (V cx.ty)} : ∀ (l : List Operand), allVal slots l = true → ∀ x ∈ l, ∃ v, toVal (getV slots x) = some v
  | [], _, x, hx => by cases hx
  | y :: r, h, x, hx => by
    simp only [allVal] at h
    split at h
    · rename_i v hv
      rcases List.mem_cons.1 hx with hx | hx
      · subst hx; exact ⟨v, hv⟩
      · exact allVal_spec r h x hx
    · simp at h

def notSelect : Op → Bool
  | .select _ _ => false
  | _ => true

/-- Whatever the model reckons without a world. -/
def evGen {β : Type} (P : Program) (o : Oper) (slots : List (V cx.ty)) (k : Eff cx.ty → Option β) : Option β :=
  if notSelect o.op && allVal slots o.op.operands.toList then
    match pureV P (execOp (fun x => (toVal (getV slots x)).getD undef) o) with
    | some v => k (purR (ofVal v) [])
    | none => none
  else none

theorem evGen_ok {β : Type} {o : Oper} {slots : List (V cx.ty)} {nm0 : Nat} {k : Eff cx.ty → Option β} {r : β} (h : evGen P o slots k = some r) : ∃ ef, k ef = some r ∧ EffOK P cx o slots nm0 ef := by
  unfold evGen at h
  split at h
  · rename_i hc
    simp only [Bool.and_eq_true] at hc
    obtain ⟨hs, hc⟩ := hc
    split at h
    · rename_i v hv
      refine ⟨_, h, effok_pur fun c ρ hw ho _ => ⟨v, ?_, ofVal_rep v⟩⟩
      rw [execOp_congr (ρ := ρ) (ρ' := fun x => (toVal (getV slots x)).getD undef) o ?_ ?_]
      · exact pureV_run c.w _ _ hv
      · intro cs b e; rw [e] at hs; simp [notSelect] at hs
      · intro x hx
        obtain ⟨y, hy⟩ := allVal_spec _ hc x (by simpa using hx)
        show ρ x = (toVal (getV slots x)).getD undef
        rw [hy]
        exact toVal_rep (ho x hx) hy
    · simp at h
  · simp at h

end
end Go.VM
namespace Go.VM
section
variable {cx : Cx} {P : Program}

def rdn {ty : Nat → Type} (s : SlD ty) : List Nat := if s.own = 1 then [s.nm] else []

theorem RepL_slice {w : World} {S : Nat → Prop} {n : Nat} {s : SlD cx.ty} {u : Value} (h : RepL cx w S n (some (.inr s)) u) : ∃ a cap, u = .slice a s.xs.length cap := by
  cases n with
  | zero => simp [RepL] at h
  | succ n => obtain ⟨a, cap, hu, _, _⟩ := h; exact ⟨a, cap, hu⟩

theorem RepLS_slice (ok : cx.Ok) {c : Ct cx.ty} (hw : Wf cx c) {s : SlD cx.ty} {u : Value} (h : RepLS cx c (some (.inr s)) u) (hd : ∀ n ∈ rdn s, n ∉ c.D) : ∃ a cap, u = .slice a s.xs.length cap := by
  unfold RepLS at h
  by_cases h1 : s.own = 1
  · have h2 : s.nm ∉ c.D := hd _ (by simp [rdn, h1])
    simp only [h1, if_true, h2, if_false] at h
    obtain ⟨_, h⟩ := h
    by_cases h3 : s.nm ∈ c.F
    · simp only [h3, if_true] at h
      obtain ⟨n, h⟩ := h
      exact RepL_slice h
    · simp only [h3, if_false] at h
      obtain ⟨tk, ht, _, hc, hu⟩ := h
      rcases tok_el ok hw ht hc with ⟨h4, h5⟩ | ⟨g, cap, h4, _⟩
      · exact ⟨none, 0, by rw [← hu, h4, h5]; rfl⟩
      · exact ⟨_, cap, by rw [← hu, h4]⟩
  · simp only [h1, if_false] at h
    obtain ⟨n, h⟩ := h
    exact RepL_slice h

def sliceElem (P : Program) (t : TypeId) : Option Nat :=
  match P.underlying t with
  | some (.slice e) => some e
  | _ => none

theorem sliceElem_eq {t e : Nat} (h : sliceElem P t = some e) : P.underlying t = some (.slice e) := by
  unfold sliceElem at h
  split at h
  · simp only [Option.some.injEq] at h; subst h; assumption
  · simp at h

theorem len_run {t e : Nat} (h : sliceElem P t = some e) (ty : TypeId) (a : Option Addr) (n cap : Nat) (w : World) : (Builtin.len_ #[t] ty #[.slice a n cap]).run P w = .ok (.int .i64 n) w := by
  simp [Builtin.len_, run_underlying (sliceElem_eq h), goInt]

def evLen {β : Type} (P : Program) (o : Oper) (slots : List (V cx.ty)) (t : TypeId) (x : Operand) (k : Eff cx.ty → Option β) : Option β :=
  match getV slots x, sliceElem P t with
  | .inl (.inl (some (.inr s))), some _ => k (purR (vv (.int .i64 s.xs.length)) (rdn s))
  | _, _ => evGen P o slots k

theorem evLen_ok (ok : cx.Ok) {β : Type} {o : Oper} {slots : List (V cx.ty)} {nm0 : Nat} {t : TypeId} {x : Operand} (ho : o.op = .call { callee := .builtin .len, args := #[x], argTypes := #[t] }) {k : Eff cx.ty → Option β} {r : β}
    (h : evLen P o slots t x k = some r) : ∃ ef, k ef = some r ∧ EffOK P cx o slots nm0 ef := by
  unfold evLen at h
  split at h
  · rename_i s e hx he
    refine ⟨_, h, effok_pur fun c ρ hw hop hrd => ?_⟩
    have hr := hop x (by simp [ho, Op.operands, Call.operands])
    rw [hx] at hr
    obtain ⟨a, cap, hu⟩ := RepLS_slice ok hw hr hrd
    refine ⟨.int .i64 s.xs.length, ?_, rfl⟩
    unfold execOp
    simp only [ho, resolve, invoke, builtin, Sem.run_bind, Sem.run_pure, Result.andThen_ok, List.map_toArray, List.map_cons, List.map_nil, hu, len_run he]
  · exact evGen_ok h

/-! ### Choosing, tuples, fields -/
def evPick {β : Type} (slots : List (V cx.ty)) (cc a b : Operand) (k : Eff cx.ty → Option β) : Option β :=
  match getV slots cc with
  | .inl (.inl (some (.inl (.bool t)))) => bif t then k (purR (getV slots a) []) else k (purR (getV slots b) [])
  | _ => none

theorem evPick_ok {β : Type} {o : Oper} {slots : List (V cx.ty)} {nm0 : Nat} {cc a b : Operand} (ho : o.op = .pick cc a b) {k : Eff cx.ty → Option β} {r : β}
    (h : evPick slots cc a b k = some r) : ∃ ef, k ef = some r ∧ EffOK P cx o slots nm0 ef := by
  unfold evPick at h
  split at h
  · rename_i t hx
    have key : ∀ y : Operand, y ∈ o.op.operands → (∀ (c : Ct cx.ty) (ρ : Operand → Value), (∀ x ∈ o.op.operands, RepV cx c (getV slots x) (ρ x)) → (if t then ρ a else ρ b) = ρ y) → EffOK P cx o slots nm0 (purR (getV slots y) []) := fun y hy he =>
      effok_pur fun c ρ hw hop _ => by
        have hc : ρ cc = .bool t := by
          have := hop cc (by simp [ho, Op.operands])
          rw [hx] at this
          exact this
        refine ⟨ρ y, ?_, hop y hy⟩
        unfold execOp
        simp only [ho, hc, asBool, Sem.run_bind, Sem.run_pure, Result.andThen_ok]
        rw [← he c ρ hop]
    cases t with
    | true => exact ⟨_, h, key a (by simp [ho, Op.operands]) (fun _ _ _ => by simp)⟩
    | false => exact ⟨_, h, key b (by simp [ho, Op.operands]) (fun _ _ _ => by simp)⟩
  · simp at h

def evExtract {β : Type} (slots : List (V cx.ty)) (x : Operand) (i : Nat) (k : Eff cx.ty → Option β) : Option β :=
  match getV slots x with
  | .inr (.inl l) => match l[i]? with
    | some a => k (purR (.inl a) [])
    | none => none
  | _ => none

theorem evExtract_ok {β : Type} {o : Oper} {slots : List (V cx.ty)} {nm0 : Nat} {x : Operand} {i : Nat} (ho : o.op = .extract x i) {k : Eff cx.ty → Option β} {r : β}
    (h : evExtract slots x i k = some r) : ∃ ef, k ef = some r ∧ EffOK P cx o slots nm0 ef := by
  unfold evExtract at h
  split at h
  · rename_i l hx
    split at h
    · rename_i a ha
      refine ⟨_, h, effok_pur fun c ρ hw hop _ => ?_⟩
      have hr := hop x (by simp [ho, Op.operands])
      rw [hx] at hr
      obtain ⟨us, hu, hl, hr⟩ := hr
      have hlt : i < us.length := by rw [hl]; exact (List.getElem?_eq_some_iff.1 ha).1
      refine ⟨us[i], ?_, hr i a _ ha (List.getElem?_eq_getElem hlt)⟩
      unfold execOp
      simp [ho, hu, Instr.extract, hlt]
    · simp at h
  · simp at h

def aggType (P : Program) (t : TypeId) : Bool :=
  match P.underlying t with
  | some (.struct _) => true
  | some (.array _ _) => true
  | _ => false

theorem run_isAgg {t : TypeId} {d : TypeDesc} (h : P.underlying t = some d) (w : World) : (isAgg t).run P w = .ok (aggType P t) w := by
  simp only [isAgg, Sem.run_bind, run_underlying h, Result.andThen_ok, aggType, h]
  cases d <;> rfl

/-- A part of a struct's cells: a cell alone, or several. -/
def subV (P : Program) (t : TypeId) (l : List (L cx.ty)) (off : Nat) : Option (A cx.ty) :=
  match P.underlying t with
  | none => none
  | some _ => if aggType P t then (if off + P.cellsOf t ≤ l.length then some (.inr ((l.drop off).take (P.cellsOf t))) else none) else
    match l[off]? with
    | some a => some (.inl a)
    | none => none

theorem cellsOf_info {t : TypeId} {d : TypeDesc} (h : P.underlying t = some d) : ∃ i, P.info? t = some i ∧ P.cellsOf t = i.size := by
  unfold Program.underlying at h
  cases hi : P.info? t with
  | none => simp [hi] at h
  | some i => exact ⟨i, rfl, by simp [Program.cellsOf, hi]⟩

theorem run_sizeOf' {t : TypeId} {d : TypeDesc} (h : P.underlying t = some d) (w : World) : (sizeOf t).run P w = .ok (P.cellsOf t) w := by
  obtain ⟨i, hi, _⟩ := cellsOf_info h
  exact run_sizeOf w hi

theorem RepLs.sub {c : Ct cx.ty} {l : List (L cx.ty)} {us : List Value} (h : RepLs cx c l us) (off n : Nat) : RepLs cx c ((l.drop off).take n) ((us.drop off).take n) := by
  refine ⟨by simp [h.1], fun j a u h1 h2 => ?_⟩
  rw [List.getElem?_take] at h1 h2
  split at h1
  · rename_i hj
    simp only [hj, if_true] at h2
    rw [List.getElem?_drop] at h1 h2
    exact h.2 _ a u h1 h2
  · simp at h1

theorem subV_rep {c : Ct cx.ty} {t : TypeId} {l : List (L cx.ty)} {off : Nat} {a : A cx.ty} {us : List Value} (h : RepLs cx c l us) (ha : subV P t l off = some a) (w : World) :
    ∃ u, (part t us.toArray off).run P w = .ok u w ∧ RepA cx c a u := by
  unfold subV at ha
  split at ha
  · simp at ha
  · rename_i d hd
    unfold part
    simp only [Sem.run_bind, run_isAgg hd, Result.andThen_ok]
    split at ha
    · rename_i hg
      split at ha
      · rename_i hle
        simp only [Option.some.injEq] at ha
        subst ha
        refine ⟨.agg ((us.drop off).take (P.cellsOf t)).toArray, ?_, _, rfl, h.sub off _⟩
        simp only [hg, if_true, Sem.run_bind, run_sizeOf' hd, Result.andThen_ok, Sem.run_pure, List.extract_toArray, List.extract_eq_take_drop, Nat.add_sub_cancel_left]
      · simp at ha
    · rename_i hg
      split at ha
      · rename_i b hb
        simp only [Option.some.injEq] at ha
        subst ha
        have hlt : off < us.length := by rw [h.1]; exact (List.getElem?_eq_some_iff.1 hb).1
        refine ⟨us[off], ?_, h.2 off b _ hb (List.getElem?_eq_getElem hlt)⟩
        have hg' : aggType P t = false := by simpa using hg
        simp [hg', hlt]
      · simp at ha

def fieldOf (P : Program) (t : TypeId) (i : Nat) : Option Field :=
  match P.underlying t with
  | some (.struct fs) => fs[i]?
  | _ => none

def evField {β : Type} (P : Program) (slots : List (V cx.ty)) (t : TypeId) (x : Operand) (i : Nat) (k : Eff cx.ty → Option β) : Option β :=
  match getV slots x, fieldOf P t i with
  | .inl (.inr l), some f => match subV P f.type l f.offset with
    | some a => k (purR (.inl a) [])
    | none => none
  | _, _ => none

theorem evField_ok {β : Type} {o : Oper} {slots : List (V cx.ty)} {nm0 : Nat} {t : TypeId} {x : Operand} {i : Nat} (ho : o.op = .field t x i) {k : Eff cx.ty → Option β} {r : β}
    (h : evField P slots t x i k = some r) : ∃ ef, k ef = some r ∧ EffOK P cx o slots nm0 ef := by
  unfold evField at h
  split at h
  · rename_i l f hx hf
    split at h
    · rename_i a ha
      refine ⟨_, h, effok_pur fun c ρ hw hop _ => ?_⟩
      have hr := hop x (by simp [ho, Op.operands])
      rw [hx] at hr
      obtain ⟨us, hu, hr⟩ := hr
      obtain ⟨u, hrun, hrep⟩ := subV_rep hr ha c.w
      refine ⟨u, ?_, hrep⟩
      unfold fieldOf at hf
      split at hf
      · rename_i fs hfs
        unfold execOp
        simp only [ho, Instr.field, Sem.run_bind, run_underlying hfs, Result.andThen_ok, hf, hu, asAgg, Sem.run_pure, hrun]
      · simp at hf
    · simp at h
  · simp at h

end
end Go.VM
namespace Go.VM
section
variable {cx : Cx} {P : Program}

def elemOk (P : Program) (cx : Cx) (e : Nat) : Bool :=
  match P.underlying e with
  | some _ => P.cellsOf e == cx.size e
  | none => false

theorem elemOk_spec {e : Nat} (h : elemOk P cx e = true) : (∃ d, P.underlying e = some d) ∧ P.cellsOf e = cx.size e := by
  unfold elemOk at h
  split at h
  · exact ⟨⟨_, by assumption⟩, by simpa using h⟩
  · simp at h

theorem RepL_at {w : World} {S : Nat → Prop} {n : Nat} {s : SlD cx.ty} {u : Value} (h : RepL cx w S n (some (.inr s)) u) {i : Nat} {x : cx.ty s.e} (hx : s.xs[i]? = some x) :
    ∃ b off cap, u = .slice (some ⟨b, off, none⟩) s.xs.length cap ∧ S b ∧ ∃ m, ∀ j l, (cx.enc s.e false x)[j]? = some l → ∃ v, w.cell? ⟨b, off + i * cx.size s.e + j, none⟩ = some v ∧ RepL cx w S m l v := by
  cases n with
  | zero => simp [RepL] at h
  | succ n =>
    obtain ⟨a, cap, hu, _, h⟩ := h
    rcases h with h | ⟨b, off, ha, hS, h⟩
    · rw [h] at hx; simp at hx
    · refine ⟨b, off, cap, by rw [hu, ha], hS, n, fun j l hl => ?_⟩
      obtain ⟨v, hv, hr⟩ := h i x hx j l hl
      exact ⟨v, by rw [Nat.add_assoc]; exact hv, hr⟩

def evIndexAddr {β : Type} (P : Program) (slots : List (V cx.ty)) (t : TypeId) (x ix : Operand) (k : Eff cx.ty → Option β) : Option β :=
  match getV slots x, getV slots ix, sliceElem P t with
  | .inl (.inl (some (.inr s))), .inl (.inl (some (.inl (.int _ i)))), some e =>
    if e == s.e && elemOk P cx e then
      bif decide (0 ≤ i) && decide (i < s.xs.length) then
        k (purR (.inr (.inr { kind := if s.own == 1 then 1 else 2, nm := if s.own == 1 then s.nm else 0, cells := [], s := s, i := i.toNat, off := 0 })) (rdn s))
      else none
    else none
  | _, _, _ => none

theorem evIndexAddr_ok (ok : cx.Ok) {β : Type} {o : Oper} {slots : List (V cx.ty)} {nm0 : Nat} {t : TypeId} {x ix : Operand} (ho : o.op = .indexAddr t x ix) {k : Eff cx.ty → Option β} {r : β}
    (h : evIndexAddr P slots t x ix k = some r) : ∃ ef, k ef = some r ∧ EffOK P cx o slots nm0 ef := by
  unfold evIndexAddr at h
  split at h
  · rename_i s kk i e hx hix he
    split at h
    · rename_i hc
      simp only [Bool.and_eq_true, beq_iff_eq] at hc
      obtain ⟨rfl, hok⟩ := hc
      obtain ⟨⟨d, hd⟩, hsz⟩ := elemOk_spec hok
      cases hb : (decide (0 ≤ i) && decide (i < s.xs.length)) with
      | false => rw [hb] at h; simp at h
      | true =>
        rw [hb] at h
        simp only [Bool.and_eq_true, decide_eq_true_eq] at hb
        obtain ⟨hi0, hi1⟩ := hb
        refine ⟨_, h, effok_pur fun c ρ hw hop hrd => ?_⟩
        have hr := hop x (by simp [ho, Op.operands])
        rw [hx] at hr
        have hri := hop ix (by simp [ho, Op.operands])
        rw [hix] at hri
        have hri : ρ ix = .int kk i := hri
        have hit : i.toNat < s.xs.length := by omega
        obtain ⟨y, hy⟩ : ∃ y, s.xs[i.toNat]? = some y := ⟨_, List.getElem?_eq_getElem hit⟩
        -- the run, wherever the slice begins
        have run : ∀ (b off n cap : Nat), n = s.xs.length → ρ x = .slice (some ⟨b, off, none⟩) n cap → (execOp ρ o).run P c.w = .ok (.value (.pointer (some ⟨b, off + i.toNat * cx.size s.e, none⟩))) c.w := by
          intro b off n cap hn hu
          unfold execOp
          have hlt : 0 ≤ i ∧ i < (n : Int) := ⟨hi0, by omega⟩
          simp [ho, Instr.indexAt, hri, hu, asIntOf, run_underlying (sliceElem_eq he), hlt, run_sizeOf' hd, hsz, Addr.add_lit]
        have hr' : RepLS cx c (some (.inr s)) (ρ x) := hr
        unfold RepLS at hr'
        by_cases h1 : s.own = 1
        · have h2 : s.nm ∉ c.D := hrd _ (by simp [rdn, h1])
          simp only [h1, if_true, h2, if_false] at hr'
          obtain ⟨_, hr'⟩ := hr'
          by_cases h3 : s.nm ∈ c.F
          · simp only [h3, if_true] at hr'
            obtain ⟨n, hr'⟩ := hr'
            obtain ⟨b, off, cap, hu, hS, m, hm⟩ := RepL_at hr' hy
            refine ⟨_, run b off _ cap rfl hu, ?_⟩
            show RepP cx c _ _
            unfold RepP
            simp only [h1, h2, h3, if_true, if_false, beq_self_eq_true]
            exact ⟨b, off + i.toNat * cx.size s.e, rfl, hS, y, hy, m, hm⟩
          · simp only [h3, if_false] at hr'
            obtain ⟨tk, ht, hn, hc, hu⟩ := hr'
            rcases tok_el ok hw ht hc with ⟨_, h5⟩ | ⟨g, cap, h4, _⟩
            · rw [h5] at hy; simp at hy
            · refine ⟨_, run g 0 _ cap rfl (by rw [← hu, h4]), ?_⟩
              show RepP cx c _ _
              unfold RepP
              simp only [h1, h2, h3, if_true, if_false, beq_self_eq_true]
              exact ⟨tk, ht, hn, hc, hit, g, _, cap, h4, by simp⟩
        · simp only [h1, if_false] at hr'
          obtain ⟨n, hr'⟩ := hr'
          obtain ⟨b, off, cap, hu, hS, m, hm⟩ := RepL_at hr' hy
          refine ⟨_, run b off _ cap rfl hu, ?_⟩
          show RepP cx c _ _
          have h1' : (s.own == 1) = false := by simpa using h1
          unfold RepP
          simp only [h1', Bool.false_eq_true, if_false]
          exact ⟨b, off + i.toNat * cx.size s.e, rfl, hS, y, hy, m, hm⟩
    · simp at h
  · simp at h

theorem pick_list {Q : Nat → Value → Prop} : ∀ (k : Nat), (∀ j, j < k → ∃ v, Q j v) → ∃ us : List Value, us.length = k ∧ ∀ j v, us[j]? = some v → Q j v
  | 0, _ => ⟨[], rfl, fun j v h => by simp at h⟩
  | k + 1, h => by
    obtain ⟨us, hl, hq⟩ := pick_list k (fun j hj => h j (by omega))
    obtain ⟨v, hv⟩ := h k (by omega)
    refine ⟨us ++ [v], by simp [hl], fun j u hu => ?_⟩
    by_cases hj : j < us.length
    · rw [List.getElem?_append_left hj] at hu
      exact hq j u hu
    · rw [List.getElem?_append_right (by omega)] at hu
      have : j - us.length = 0 := by
        have := (List.getElem?_eq_some_iff.1 hu).1
        simp at this
        omega
      rw [this] at hu
      simp only [List.getElem?_cons_zero, Option.some.injEq] at hu
      subst hu
      rw [show j = k by omega]
      exact hv

/-- Cells that stand for pieces, loaded as a value of a type. -/
theorem load_sub {c : Ct cx.ty} {t : TypeId} {l : List (L cx.ty)} {off : Nat} {a : A cx.ty} {w : World} {b o : Nat} (h : ∀ j y, l[j]? = some y → ∃ v, w.cell? ⟨b, o + j, none⟩ = some v ∧ RepLS cx c y v)
    (ha : subV P t l off = some a) : ∃ u, (loadVar t ⟨b, o + off, none⟩).run P w = .ok u w ∧ RepA cx c a u := by
  unfold subV at ha
  split at ha
  · simp at ha
  · rename_i d hd
    unfold loadVar
    simp only [Sem.run_bind, run_isAgg hd, Result.andThen_ok]
    split at ha
    · rename_i hg
      split at ha
      · rename_i hle
        simp only [Option.some.injEq] at ha
        subst ha
        have hex : ∀ j, j < P.cellsOf t → ∃ v, w.cell? ⟨b, o + off + j, none⟩ = some v ∧ ∀ y, l[off + j]? = some y → RepLS cx c y v := by
          intro j hj
          have hlt : off + j < l.length := by omega
          obtain ⟨v, hv, hr⟩ := h (off + j) _ (List.getElem?_eq_getElem hlt)
          refine ⟨v, by rw [Nat.add_assoc]; exact hv, fun y hy => ?_⟩
          rw [List.getElem?_eq_getElem hlt] at hy
          simp only [Option.some.injEq] at hy
          subst hy
          exact hr
        obtain ⟨us, hl, hq⟩ := pick_list _ hex
        have hrun := run_loadCells_list (P := P) w ⟨b, o + off, none⟩ us (fun j v hv => by simpa [Addr.add_lit] using (hq j v hv).1)
        rw [hl] at hrun
        refine ⟨.agg us.toArray, ?_, us, rfl, ?_, fun j y u h1 h2 => ?_⟩
        · simp only [hg, if_true, Sem.run_bind, run_sizeOf' hd, Result.andThen_ok, hrun, Sem.run_pure]
        · simp [hl]; omega
        · rw [List.getElem?_take] at h1
          split at h1
          · rw [List.getElem?_drop] at h1
            exact (hq j u h2).2 y h1
          · simp at h1
      · simp at ha
    · rename_i hg
      split at ha
      · rename_i y hy
        simp only [Option.some.injEq] at ha
        subst ha
        obtain ⟨v, hv, hr⟩ := h off y hy
        have hg' : aggType P t = false := by simpa using hg
        refine ⟨v, ?_, hr⟩
        simp [hg', hv]
      · simp at ha

theorem rep_leaf (ok : cx.Ok) {c : Ct cx.ty} {e : Nat} {x : cx.ty e} {j : Nat} {l : L cx.ty} (hl : (cx.enc e false x)[j]? = some l) {n : Nat} {v : Value} (h : RepL cx c.w (Rd c) n l v) : RepLS cx c l v := by
  rcases ok.leaf e false x l (List.mem_of_getElem? hl) with ⟨y, rfl, _⟩ | ⟨s, rfl, hs⟩
  · cases n <;> simpa [RepL, RepLS] using h
  · unfold RepLS
    simp only [hs]
    simp
    exact ⟨n, h⟩

def ptCells (cx : Cx) (p : Pt cx.ty) : List (L cx.ty) :=
  match p.kind with
  | 0 => p.cells
  | _ => cx.enc p.s.e false (p.s.xs.getD p.i (cx.dflt p.s.e))

def ptRead {ty : Nat → Type} (p : Pt ty) : List Nat :=
  match p.kind with
  | 1 => [p.nm]
  | _ => []

/-- A pointer, and no window. -/
def ptOk {ty : Nat → Type} (p : Pt ty) : Bool := decide (p.kind ≤ 2) && (p.kind != 0 || p.i == 0) && (p.kind != 2 || p.nm == 0)

def evLoad {β : Type} (P : Program) (slots : List (V cx.ty)) (t : TypeId) (x : Operand) (k : Eff cx.ty → Option β) : Option β :=
  match getV slots x with
  | .inr (.inr p) => if ptOk p then
      match subV P t (ptCells cx p) p.off with
      | some a => k (purR (.inl a) (ptRead p))
      | none => none
    else none
  | _ => none

/-- Where a pointer points, and what its cells stand for. -/
theorem pt_cells (ok : cx.Ok) {c : Ct cx.ty} (hw : Wf cx c) {p : Pt cx.ty} {u : Value} (h : RepP cx c p u) (hk : ptOk p = true) (hd : ∀ n ∈ ptRead p, n ∉ c.D) :
    ∃ b o, u = .pointer (some ⟨b, o + p.off, none⟩) ∧ ∀ j y, (ptCells cx p)[j]? = some y → ∃ v, c.w.cell? ⟨b, o + j, none⟩ = some v ∧ RepLS cx c y v := by
  have el : ∀ (b o : Nat), RepEl cx c p.s p.i b o → ∀ j y, (cx.enc p.s.e false (p.s.xs.getD p.i (cx.dflt p.s.e)))[j]? = some y → ∃ v, c.w.cell? ⟨b, o + j, none⟩ = some v ∧ RepLS cx c y v := by
    rintro b o ⟨hb, x, hx, n, hr⟩ j y hy
    have hxx : p.s.xs.getD p.i (cx.dflt p.s.e) = x := by simp [List.getD, hx]
    rw [hxx] at hy
    obtain ⟨v, hv, hr⟩ := hr j y hy
    exact ⟨v, hv, rep_leaf ok hy hr⟩
  unfold ptOk at hk
  simp only [Bool.and_eq_true, decide_eq_true_eq, Bool.or_eq_true, bne_iff_ne, ne_eq, beq_iff_eq] at hk
  unfold RepP at h
  split at h
  · rename_i hk0
    obtain ⟨tk, ht, hn, hc, g, hu, hp⟩ := h
    have hi0 : p.i = 0 := hk.1.2.resolve_left (fun h => h hk0)
    rw [hi0] at hp
    have hp : u = .pointer (some ⟨g, p.off, none⟩) := hp
    refine ⟨g, 0, by rw [hp]; simp, fun j y hy => ?_⟩
    have hr := hw.rep tk ht
    unfold TokRep at hr
    rw [hc] at hr
    obtain ⟨_, g', cur, e, hu', hh, hr⟩ := hr
    rw [hu] at hu'
    simp only [Value.pointer.injEq, Option.some.injEq, Addr.mk.injEq] at hu'
    obtain ⟨rfl, _⟩ := hu'
    simp only [ptCells, hk0] at hy
    have hlt : j < cur.toList.length := by rw [hr.1]; exact (List.getElem?_eq_some_iff.1 hy).1
    refine ⟨cur.toList[j], ?_, hr.2 j y _ hy (List.getElem?_eq_getElem hlt)⟩
    rw [cell_of_row c.w g _ cur e (0, 0) hh]
    simp at hlt
    simp [hlt]
  · rename_i hk1
    have h2 : p.nm ∉ c.D := hd _ (by simp [ptRead, hk1])
    simp only [ptCells, hk1]
    simp only [h2, if_false] at h
    by_cases h3 : p.nm ∈ c.F
    · simp only [h3, if_true] at h
      obtain ⟨b, o, hu, h⟩ := h
      exact ⟨b, o, hu, el b o h⟩
    · simp only [h3, if_false] at h
      obtain ⟨tk, ht, hn, hc, hi, g, n, cap, hu, hp⟩ := h
      obtain ⟨x, hx⟩ : ∃ x, p.s.xs[p.i]? = some x := ⟨_, List.getElem?_eq_getElem hi⟩
      rcases tok_el ok hw ht hc with ⟨h4, _⟩ | ⟨g', cap', h4, _, hr⟩
      · rw [hu] at h4; simp at h4
      · rw [hu] at h4
        simp only [Value.slice.injEq, Option.some.injEq, Addr.mk.injEq] at h4
        obtain ⟨⟨rfl, _⟩, _⟩ := h4
        obtain ⟨m, hr⟩ := hr p.i x hx
        refine ⟨g, p.i * cx.size p.s.e, hp, fun j y hy => ?_⟩
        have hxx : p.s.xs.getD p.i (cx.dflt p.s.e) = x := by simp [List.getD, hx]
        rw [hxx] at hy
        obtain ⟨v, hv, hr⟩ := hr j y hy
        exact ⟨v, hv, rep_leaf ok hy hr⟩
  · rename_i hk2
    simp only [ptCells, hk2]
    obtain ⟨b, o, hu, h⟩ := h
    rw [hk.2.resolve_left (fun h => h hk2)] at hu
    exact ⟨b, o, hu, el b o h⟩
  · rename_i h0 h1 h2
    have h0' : p.kind ≠ 0 := h0
    have h1' : p.kind ≠ 1 := h1
    have h2' : p.kind ≠ 2 := h2
    omega

theorem evLoad_ok (ok : cx.Ok) {β : Type} {o : Oper} {slots : List (V cx.ty)} {nm0 : Nat} {t : TypeId} {x : Operand} (ho : o.op = .load t x) {k : Eff cx.ty → Option β} {r : β}
    (h : evLoad P slots t x k = some r) : ∃ ef, k ef = some r ∧ EffOK P cx o slots nm0 ef := by
  unfold evLoad at h
  split at h
  · rename_i p hx
    split at h
    · rename_i hk
      split at h
      · rename_i a ha
        refine ⟨_, h, effok_pur fun c ρ hw hop hrd => ?_⟩
        have hr := hop x (by simp [ho, Op.operands])
        rw [hx] at hr
        obtain ⟨b, o', hu, hc⟩ := pt_cells ok hw hr hk hrd
        obtain ⟨u, hrun, hrep⟩ := load_sub hc ha
        refine ⟨u, ?_, hrep⟩
        unfold execOp
        simp only [ho, Instr.loadAt, Instr.sureAddr, hu, Sem.run_bind, Sem.run_pure, Result.andThen_ok, hrun]
      · simp at h
    · simp at h
  · simp at h

def evFieldAddr {β : Type} (P : Program) (slots : List (V cx.ty)) (t : TypeId) (x : Operand) (i : Nat) (k : Eff cx.ty → Option β) : Option β :=
  match getV slots x, fieldOf P t i with
  | .inr (.inr p), some f => if ptOk p && (P.underlying f.type).isSome && P.cellsOf f.type != 0 then
      k (purR (.inr (.inr { p with off := p.off + f.offset })) (ptRead p))
    else none
  | _, _ => none

theorem evFieldAddr_ok (ok : cx.Ok) {β : Type} {o : Oper} {slots : List (V cx.ty)} {nm0 : Nat} {t : TypeId} {x : Operand} {i : Nat} (ho : o.op = .fieldAddr t x i) {k : Eff cx.ty → Option β} {r : β}
    (h : evFieldAddr P slots t x i k = some r) : ∃ ef, k ef = some r ∧ EffOK P cx o slots nm0 ef := by
  unfold evFieldAddr at h
  split at h
  · rename_i p f hx hf
    split at h
    · rename_i hc
      simp only [Bool.and_eq_true, bne_iff_ne, ne_eq] at hc
      obtain ⟨⟨hk, hs⟩, hz⟩ := hc
      refine ⟨_, h, effok_pur fun c ρ hw hop hrd => ?_⟩
      have hr := hop x (by simp [ho, Op.operands])
      rw [hx] at hr
      have hr : RepP cx c p (ρ x) := hr
      obtain ⟨d, hd⟩ := Option.isSome_iff_exists.1 hs
      obtain ⟨b, o', hu, _⟩ := pt_cells ok hw hr hk hrd
      refine ⟨.pointer (some ⟨b, o' + p.off + f.offset, none⟩), ?_, ?_⟩
      · unfold fieldOf at hf
        split at hf
        · rename_i fs hfs
          unfold execOp
          simp [ho, Instr.fieldAt, Instr.sureAddr, run_underlying hfs, hf, hu, fieldPlace, run_sizeOf' hd, hz, Addr.add_lit]
        · simp at hf
      · show RepP cx c _ _
        unfold RepP at hr ⊢
        rw [hu] at hr
        split at hr <;> rename_i hk'
        · obtain ⟨tk, ht, hn, hc, g, hug, hp⟩ := hr
          have hi0 : p.i = 0 := by
            unfold ptOk at hk
            simp only [Bool.and_eq_true, decide_eq_true_eq, Bool.or_eq_true, bne_iff_ne, ne_eq, beq_iff_eq] at hk
            exact hk.1.2.resolve_left (fun h => h hk')
          rw [hi0] at hp
          simp only [boxAt, Value.pointer.injEq, Option.some.injEq, Addr.mk.injEq] at hp
          simp only [hk']
          exact ⟨tk, ht, hn, hc, g, hug, by simp only [hi0, boxAt]; simp; try omega⟩
        · have h2 : p.nm ∉ c.D := hrd _ (by simp [ptRead, hk'])
          simp only [hk', h2, if_false] at hr ⊢
          by_cases h3 : p.nm ∈ c.F
          · simp only [h3, if_true] at hr ⊢
            obtain ⟨b', o'', hp, hr⟩ := hr
            simp only [Value.pointer.injEq, Option.some.injEq, Addr.mk.injEq] at hp
            exact ⟨b', o'', by simp; try omega, hr⟩
          · simp only [h3, if_false] at hr ⊢
            obtain ⟨tk, ht, hn, hc, hi, g, n, cap, hut, hp⟩ := hr
            simp only [Value.pointer.injEq, Option.some.injEq, Addr.mk.injEq] at hp
            exact ⟨tk, ht, hn, hc, hi, g, n, cap, hut, by simp; try omega⟩
        · have hnm : p.nm = 0 := by
            unfold ptOk at hk
            simp only [Bool.and_eq_true, decide_eq_true_eq, Bool.or_eq_true, bne_iff_ne, ne_eq, beq_iff_eq] at hk
            exact hk.2.resolve_left (fun h => h hk')
          simp only [hk']
          obtain ⟨b', o'', hp, hr⟩ := hr
          rw [hnm] at hp
          have hp : Value.pointer (some ⟨b, o' + p.off, none⟩) = .pointer (some ⟨b', o'' + p.off, none⟩) := hp
          simp only [Value.pointer.injEq, Option.some.injEq, Addr.mk.injEq] at hp
          refine ⟨b', o'', ?_, hr⟩
          show _ = mvA p.nm b' _
          rw [hnm]
          show _ = Value.pointer _
          simp; try omega
        · rename_i h1 h2
          unfold ptOk at hk
          simp only [Bool.and_eq_true, decide_eq_true_eq] at hk
          have h0' : p.kind ≠ 0 := by assumption
          have h1' : p.kind ≠ 1 := by assumption
          have h2' : p.kind ≠ 2 := by assumption
          omega
    · simp at h
  · simp at h

end
end Go.VM
namespace Go.VM
open Go.RowKit
section
variable {cx : Cx} {P : Program}

/-- New things join the table; nothing old has turned. -/
theorem pres_add {c : Ct cx.ty} (h : Wf cx c) {w' : World} (hb : Below c.w.heap.size c.w w') {N : List (Tk cx.ty)} (hbd : ∀ tk ∈ N, ∀ b ∈ vb tk.u ++ tk.fp, c.w.heap.size ≤ b ∧ b < w'.heap.size) {v : V cx.ty} {r : List Nat} :
    Pres cx c (c.nx (purR v r) w' (N ++ c.T)) := by
  refine ⟨fun b hr => ?_, fun _ h => h, fun _ h => h, fun tk ht _ _ => List.mem_append.2 (.inr ht), fun tk ht _ _ => List.mem_append.2 (.inr ht), fun tk ht _ _ _ hf => absurd hf (h.live tk ht).2⟩
  obtain ⟨h1, h2, h3⟩ := hr
  refine ⟨⟨Nat.lt_of_lt_of_le h1 hb.size, h2, fun tk ht hv => ?_⟩, hb.block b h1⟩
  rcases List.mem_append.1 ht with ht | ht
  · have := (hbd tk ht b (List.mem_append.2 (.inl hv))).1
    omega
  · exact h3 tk ht hv

theorem good_add {c : Ct cx.ty} (h : Wf cx c) {w' : World} (hb : Below c.w.heap.size c.w w') (hbase : ∀ b, c.w.heap.size ≤ b → c.N b) {N : List (Tk cx.ty)} {nm0 : Nat}
    (hnm : ∀ tk ∈ N, nm0 ≤ tk.nm ∧ tk.nm < nm0 + 64) (hnd : (N.map (·.nm)).Nodup) (hfp : (N.flatMap fun tk => vb tk.u ++ tk.fp).Nodup)
    (hbd : ∀ tk ∈ N, ∀ b ∈ vb tk.u ++ tk.fp, c.w.heap.size ≤ b ∧ b < w'.heap.size)
    (hf : ∀ n, Nm c n → ¬ (nm0 ≤ n ∧ n < nm0 + 64)) {v : V cx.ty} {r : List Nat} {u : Value}
    (hrep : ∀ tk ∈ N, TokRep cx (c.nx (purR v r) w' (N ++ c.T)) tk) (hv : RepV cx (c.nx (purR v r) w' (N ++ c.T)) v u) : Good cx c (purR v r) nm0 u w' (N ++ c.T) := by
  have hp := pres_add (v := v) (r := r) h hb hbd
  refine ⟨⟨?_, ?_, ?_, ?_, h.start, ?_, fun b hb' => hbase b (Nat.le_trans hb.size hb')⟩, hp, hv, kept_of hb hbase, ?_⟩
  · show ((N ++ c.T).map (·.nm)).Nodup
    rw [List.map_append, List.nodup_append]
    refine ⟨hnd, h.names, fun a ha b hb' he => ?_⟩
    obtain ⟨t1, h1, rfl⟩ := List.mem_map.1 ha
    obtain ⟨t2, h2, rfl⟩ := List.mem_map.1 hb'
    have h3 := hnm t1 h1
    exact hf t2.nm (.inl ⟨t2, h2, rfl⟩) (by omega)
  · show ((N ++ c.T).flatMap _).Nodup
    rw [List.flatMap_append, List.nodup_append]
    refine ⟨hfp, h.nodup, fun a ha b hb' he => ?_⟩
    obtain ⟨t1, h1, h1'⟩ := List.mem_flatMap.1 ha
    obtain ⟨t2, h2, h2'⟩ := List.mem_flatMap.1 hb'
    have h3 := (hbd t1 h1 a h1').1
    have h4 := (h.bound t2 h2 b h2').2
    omega
  · intro tk ht b hb'
    rcases List.mem_append.1 ht with ht | ht
    · have := hbd tk ht b hb'
      exact ⟨by show c.N b; exact hbase b this.1, this.2⟩
    · have := h.bound tk ht b hb'
      exact ⟨this.1, Nat.lt_of_lt_of_le this.2 hb.size⟩
  · intro tk ht
    rcases List.mem_append.1 ht with ht | ht
    · exact hrep tk ht
    · exact TokRep.pres cx hp (fun b hb' => hb.block b (h.bound tk ht b hb').2) (h.rep tk ht)
  · intro tk ht
    rcases List.mem_append.1 ht with ht | ht
    · have h3 := hnm tk ht
      exact ⟨fun hd => hf _ (.inr (.inl hd)) h3, fun hd => hf _ (.inr (.inr hd)) h3⟩
    · exact h.live tk ht
  · intro n hn
    rcases hn with ⟨tk, ht, rfl⟩ | hn | hn
    · rcases List.mem_append.1 ht with ht | ht
      · exact .inr (hnm tk ht)
      · exact .inl (.inl ⟨tk, ht, rfl⟩)
    · exact .inl (.inr (.inl hn))
    · exact .inl (.inr (.inr hn))

/-! ### What a called function does -/
/-- A row of our own whose elements are merely read. -/
def HalfL (cx : Cx) (w : World) (S : Nat → Prop) (s : SlD cx.ty) (u : Value) (fp : List Nat) : Prop :=
  fp = u.ownBlock.toList ∧ ∃ us n, w.ownsRow 0 s.e (cx.size s.e) u s.xs.length us ∧ us.length = (s.xs.flatMap (cx.enc s.e false)).length ∧
    ∀ (j : Nat) l v, (s.xs.flatMap (cx.enc s.e false))[j]? = some l → us[j]? = some v → RepL cx w S n l v
theorem HalfL.slice {w : World} {S : Nat → Prop} {s : SlD cx.ty} {u : Value} {f : List Nat} (h : HalfL cx w S s u f) : vb u = u.ownBlock.toList ∧ ∃ a k cap, u = .slice a k cap := by
  obtain ⟨_, us, n, hrow, _⟩ := h
  rcases hrow.2 with ⟨hu, _⟩ | ⟨g, cap, cur, hu, _⟩
  · rw [hu]; exact ⟨rfl, _, _, _, rfl⟩
  · rw [hu]; exact ⟨rfl, _, _, _, rfl⟩
theorem HalfL.mono {w w' : World} {S S' : Nat → Prop} {s : SlD cx.ty} {u : Value} {f : List Nat} (hw : ∀ b, S b → w'.heap[b]? = w.heap[b]?) (hf : ∀ b ∈ f, w'.heap[b]? = w.heap[b]?) (hS : ∀ b, S b → S' b) (h : HalfL cx w S s u f) : HalfL cx w' S' s u f := by
  obtain ⟨hfp, us, n, ⟨hx, hc⟩, hl, h⟩ := h
  refine ⟨hfp, us, n, ⟨hx, ?_⟩, hl, fun j l v h1 h2 => RepL_mono cx hw hS _ _ _ (h j l v h1 h2)⟩
  rcases hc with hc | ⟨g, cap, cur, hv, hg, hh, hr⟩
  · exact .inl hc
  · refine .inr ⟨g, cap, cur, hv, hg, ?_, hr⟩
    rw [hf g (by rw [hfp, hv]; simp [Value.ownBlock])]
    exact hh

def ResL (cx : Cx) (w : World) (S : Nat → Prop) (l : L cx.ty) (u : Value) (fp : List Nat) : Prop :=
  match l with
  | none => False
  | some (.inl v) => u = v ∧ fp = []
  | some (.inr s) => if s.own = 2 then s.o = true ∧ ∃ n, OwnL cx w n (some (.inr s)) u fp else if s.own = 4 then s.o = false ∧ HalfL cx w S s u fp else s.own = 0 ∧ fp = [] ∧ ∃ n, RepL cx w S n (some (.inr s)) u

def ResLs (cx : Cx) (w : World) (S : Nat → Prop) (l : List (L cx.ty)) (us : List Value) (fps : List (List Nat)) : Prop :=
  us.length = l.length ∧ fps.length = l.length ∧ ∀ (j : Nat) a u f, l[j]? = some a → us[j]? = some u → fps[j]? = some f → ResL cx w S a u f

def ResA (cx : Cx) (w : World) (S : Nat → Prop) (a : A cx.ty) (u : Value) (fp : List Nat) : Prop :=
  match a with
  | .inl l => ResL cx w S l u fp
  | .inr l => ∃ us fps, u = .agg (List.toArray us) ∧ fp = List.flatten fps ∧ ResLs cx w S l us fps

def ResAs (cx : Cx) (w : World) (S : Nat → Prop) (l : List (A cx.ty)) (us : List Value) (fps : List (List Nat)) : Prop :=
  us.length = l.length ∧ fps.length = l.length ∧ ∀ (j : Nat) a u f, l[j]? = some a → us[j]? = some u → fps[j]? = some f → ResA cx w S a u f

/-- What comes back: 'A0': the blocks that were lent; 'lo': the first new one. -/
def ResV (cx : Cx) (w : World) (A0 N : Nat → Prop) (r : V cx.ty) (u : Value) : Prop :=
  ∃ fp : List Nat, fp.Nodup ∧ (∀ b ∈ fp, N b ∧ b < w.heap.size) ∧
    match r with
    | .inl a => ResA cx w (fun b => A0 b ∨ (N b ∧ b < w.heap.size ∧ b ∉ fp)) a u fp
    | .inr (.inl l) => ∃ us fps, u = .tuple (List.toArray us) ∧ fp = List.flatten fps ∧ ResAs cx w (fun b => A0 b ∨ (N b ∧ b < w.heap.size ∧ b ∉ fp)) l us fps
    | _ => False

/-- A piece that is lent: nothing but values and slices that are read. -/
def ArgL (cx : Cx) (w : World) (A0 : Nat → Prop) (l : L cx.ty) (u : Value) : Prop :=
  match l with
  | none => False
  | some (.inl v) => u = v
  | some (.inr s) => s.own = 0 ∧ ∃ n, RepL cx w A0 n (some (.inr s)) u

/-- A pointer to a thing that is read. -/
def PtS (cx : Cx) (w : World) (S : Nat → Prop) (s : SlD cx.ty) (u : Value) : Prop := ∃ g off, u = mvA s.nm g off ∧ S g ∧ ∃ x, s.xs[0]? = some x ∧ ∃ n, ∀ j l, (cx.enc s.e false x)[j]? = some l → ∃ v, w.cell? ⟨g, off + j, none⟩ = some v ∧ RepL cx w S n l v
theorem PtS.mono {w w' : World} {S S' : Nat → Prop} (hS : ∀ b, S b → S' b) (hw : ∀ b, S b → w'.heap[b]? = w.heap[b]?) {s : SlD cx.ty} {u : Value} (h : PtS cx w S s u) : PtS cx w' S' s u := by
  obtain ⟨g, off, hu, hg, x, hx, n, hn⟩ := h
  refine ⟨g, off, hu, hS g hg, x, hx, n, fun j l hl => ?_⟩
  obtain ⟨v, h1, h2⟩ := hn j l hl
  exact ⟨v, by rw [World.cell?_of_block (hw g hg)]; exact h1, RepL_mono cx hw hS _ _ _ h2⟩
def isPt {ty : Nat → Type} : L ty → Bool
  | some (.inr s) => s.own == 3
  | _ => false
def ArgP (cx : Cx) (w : World) (A0 : Nat → Prop) (l : L cx.ty) (u : Value) : Prop := match l with
  | some (.inr s) => PtS cx w A0 s u
  | _ => False
def ArgA (cx : Cx) (w : World) (A0 : Nat → Prop) (a : A cx.ty) (u : Value) : Prop :=
  match a with
  | .inl l => if isPt l = true then ArgP cx w A0 l u else ArgL cx w A0 l u
  | .inr l => ∃ us : List Value, u = .agg us.toArray ∧ us.length = l.length ∧ ∀ (j : Nat) a u, l[j]? = some a → us[j]? = some u → ArgL cx w A0 a u

def ArgAs (cx : Cx) (w : World) (A0 : Nat → Prop) (l : List (A cx.ty)) (us : List Value) : Prop :=
  us.length = l.length ∧ ∀ (j : Nat) a u, l[j]? = some a → us[j]? = some u → ArgA cx w A0 a u

theorem ArgA.leaf {w : World} {A0 : Nat → Prop} {l : L cx.ty} {u : Value} (hp : isPt l = false) (h : ArgL cx w A0 l u) : ArgA cx w A0 (.inl l) u := by
  show if isPt l = true then ArgP cx w A0 l u else ArgL cx w A0 l u
  rw [if_neg (by rw [hp]; decide)]
  exact h
theorem ArgA.atPt {w : World} {A0 : Nat → Prop} {s : SlD cx.ty} {u : Value} (hp : s.own = 3) : ArgA cx w A0 (.inl (some (.inr s))) u = PtS cx w A0 s u := by
  show (if isPt (some (.inr s) : L cx.ty) = true then ArgP cx w A0 (some (.inr s)) u else ArgL cx w A0 (some (.inr s)) u) = _
  rw [if_pos (by simp [isPt, hp])]
  rfl
theorem ArgA.atLeaf {w : World} {A0 : Nat → Prop} {l : L cx.ty} {u : Value} (hp : isPt l = false) : ArgA cx w A0 (.inl l) u = ArgL cx w A0 l u := by
  show (if isPt l = true then ArgP cx w A0 l u else ArgL cx w A0 l u) = _
  rw [if_neg (by rw [hp]; decide)]
theorem ArgL.mono {w w' : World} {S S' : Nat → Prop} (hS : ∀ b, S b → S' b) (hw : ∀ b, S b → w'.heap[b]? = w.heap[b]?) {l : L cx.ty} {u : Value} (h : ArgL cx w S l u) : ArgL cx w' S' l u := by
  unfold ArgL at h ⊢
  split at h
  · exact h
  · exact h
  · obtain ⟨h1, n, h2⟩ := h
    exact ⟨h1, n, RepL_mono cx hw hS _ _ _ h2⟩
theorem ArgA.mono {w w' : World} {S S' : Nat → Prop} (hS : ∀ b, S b → S' b) (hw : ∀ b, S b → w'.heap[b]? = w.heap[b]?) {a : A cx.ty} {u : Value} (h : ArgA cx w S a u) : ArgA cx w' S' a u := by
  match a, h with
  | .inl none, h => exact h
  | .inl (some (.inl v)), h => exact h
  | .inl (some (.inr s)), h =>
    by_cases h3 : s.own = 3
    · rw [ArgA.atPt h3] at h ⊢
      exact PtS.mono hS hw h
    · have hp : isPt (some (.inr s) : L cx.ty) = false := by simp [isPt, h3]
      rw [ArgA.atLeaf hp] at h ⊢
      exact ArgL.mono hS hw h
  | .inr l, ⟨us, hu, hl, hv⟩ => exact ⟨us, hu, hl, fun j a u h1 h2 => ArgL.mono hS hw (hv j a u h1 h2)⟩

/-- The contract of a function that only reads what it is handed. -/
def Sat (P : Program) (cx : Cx) (f : FuncId) (F : List (A cx.ty) → Option (Bool × V cx.ty)) : Prop :=
  ∀ (w : World) (A0 : Nat → Prop) (l : List (A cx.ty)) (us : List Value) (r : V cx.ty), (∀ b, A0 b → b < w.heap.size) → ArgAs cx w A0 l us → F l = some (true, r) →
    Calls P f us.toArray w (fun e w' => ∃ u, e = .returned u ∧ Below w.heap.size w w' ∧ ResV cx w' A0 (fun b => w.heap.size ≤ b) r u)

end
end Go.VM
namespace Go.VM
open Go.RowKit
section
variable {cx : Cx} {P : Program}

def leafTypes (P : Program) : Nat → TypeId → List TypeId
  | 0, t => [t]
  | n + 1, t => match P.underlying t with
    | some (.struct fs) => fs.toList.flatMap (fun f => leafTypes P n f.type)
    | some (.array k e) => (List.replicate k (leafTypes P n e)).flatten
    | _ => [t]

/-- A piece as it is lent, and the things whose life that asks. -/
def argL {ty : Nat → Type} (P : Program) (t : TypeId) (l : L ty) : Option (L ty × List Nat) :=
  match l with
  | some (.inl (.slice none 0 0)) => match sliceElem P t with
    | some e => some (ls (ro e []), [])
    | none => none
  | some (.inl v) => some (lv v, [])
  | some (.inr s) => some (ls (ro s.e s.xs), rdn s)
  | none => none

def argLs {ty : Nat → Type} (P : Program) : List TypeId → List (L ty) → Option (List (L ty) × List Nat)
  | t :: ts, l :: r => match argL P t l, argLs P ts r with
    | some (a, n), some (as, ns) => some (a :: as, n ++ ns)
    | _, _ => none
  | [], [] => some ([], [])
  | _, _ => none

def argA {ty : Nat → Type} (P : Program) (t : TypeId) (a : A ty) : Option (A ty × List Nat) :=
  match a with
  | .inl l => match argL P t l with
    | some (a, n) => some (.inl a, n)
    | none => none
  | .inr l => match argLs P (leafTypes P 8 t) l with
    | some (as, n) => some (.inr as, n)
    | none => none

def decN (cx : Cx) (e : Nat) : Nat → List (L cx.ty) → Option (List (cx.ty e))
  | 0, [] => some []
  | 0, _ :: _ => none
  | n + 1, l => match cx.dec e (l.take (cx.size e)), decN cx e n (l.drop (cx.size e)) with
    | some x, some xs => some (x :: xs)
    | _, _ => none

theorem decN_spec (ok : cx.Ok) {e : Nat} (o : Bool) : ∀ (n : Nat) (l : List (L cx.ty)) (xs : List (cx.ty e)), decN cx e n l = some xs → xs.length = n ∧ l.map (weak o) = xs.flatMap (cx.enc e o)
  | 0, [], xs, h => by simp only [decN, Option.some.injEq] at h; subst h; exact ⟨rfl, rfl⟩
  | 0, _ :: _, xs, h => by simp [decN] at h
  | n + 1, l, xs, h => by
    simp only [decN] at h
    split at h
    · rename_i x ys h1 h2
      simp only [Option.some.injEq] at h
      subst h
      obtain ⟨h3, h4⟩ := decN_spec ok o n _ ys h2
      refine ⟨by simp [h3], ?_⟩
      rw [List.flatMap_cons, ← ok.dec e _ x o h1, ← h4, ← List.map_append, List.take_append_drop]
    · simp at h

/-- A window into a box as it is lent. -/
def winA (P : Program) (cx : Cx) (t : TypeId) (p : Pt cx.ty) : Option (A cx.ty) :=
  match sliceElem P t with
  | some e => if p.kind == 0 && decide (1 < p.i) && cx.flat e && cx.size e == 1 && decide (p.off + (p.i - 1) ≤ p.cells.length) then
      match decN cx e (p.i - 1) ((p.cells.drop p.off).take (p.i - 1)) with
      | some xs => some (.inl (some (.inr (ro e xs))))
      | none => none
    else none
  | none => none

/-- What a pointer handed over as a thing of type t points to (a method's receiver bears the type itself). -/
def ptE (P : Program) (t : TypeId) : Option TypeId :=
  match P.underlying t with
  | some (.pointer e) => some e
  | some (.struct _) => some t
  | _ => none

/-- What the receiver of a method points to. -/
def recvE (P : Program) (f : FuncId) : Option TypeId :=
  match P.funcs[f]? with
  | some fn => match fn.params[0]? with
    | some t => ptE P t
    | none => none
  | none => none

/-- A box's cells from a place on, as a thing that is read (tag: 0, or a method bound to it). -/
def ptB (P : Program) (cx : Cx) (e : TypeId) (tag off : Nat) (p : Pt cx.ty) : Option (A cx.ty × List Nat) :=
  match argLs P (leafTypes P 8 e) ((p.cells.drop off).take (leafTypes P 8 e).length) with
  | some (ls, n) => match cx.dec e ls with
    | some x => some (.inl (some (.inr { own := 3, nm := tag, e := e, o := false, xs := [x] })), p.nm :: n)
    | none => none
  | none => none

/-- A struct within an element that is read, by its place. -/
def ptI (P : Program) (cx : Cx) (t : TypeId) (p : Pt cx.ty) : Option (A cx.ty × List Nat) :=
  if p.nm == 0 then
    match ptE P t with
    | some e => if decide (cx.size e < cx.size p.s.e) then
        match cx.dec e (((cx.enc p.s.e false (p.s.xs.getD p.i (cx.dflt p.s.e))).drop p.off).take (cx.size e)) with
        | some y => some (.inl (some (.inr { own := 3, nm := 0, e := e, o := false, xs := [y] })), [])
        | none => none
      else none
    | none => none
  else none

/-- A pointer, or a method value, as it is lent. -/
def ptA (P : Program) (cx : Cx) (t : TypeId) (p : Pt cx.ty) : Option (A cx.ty × List Nat) :=
  match p.kind with
  | 0 => if p.i == 0 then
      (match ptE P t with
       | some e => ptB P cx e 0 p.off p
       | none => none)
    else if p.i == 1 then
      (match recvE P p.off with
       | some e => ptB P cx e (p.off + 1) 0 p
       | none => none)
    else none
  | 2 => match ptI P cx t p with
    | some r => some r
    | none => if p.off == 0 then some (.inl (some (.inr { own := 3, nm := p.nm, e := p.s.e, o := false, xs := [p.s.xs.getD p.i (cx.dflt p.s.e)] })), []) else none
  | _ => none

def argVs (P : Program) (cx : Cx) : List TypeId → List (V cx.ty) → Option (List (A cx.ty) × List Nat)
  | t :: ts, .inl a :: r => match argA P t a, argVs P cx ts r with
    | some (a, n), some (as, ns) => some (a :: as, n ++ ns)
    | _, _ => none
  | t :: ts, .inr (.inr p) :: r => match winA P cx t p, argVs P cx ts r with
    | some a, some (as, ns) => some (a :: as, p.nm :: ns)
    | none, some (as, ns) => match ptA P cx t p with
      | some (a, n) => some (a :: as, n ++ ns)
      | none => none
    | _, _ => none
  | [], [] => some ([], [])
  | _, _ => none

/-- All that a call may be lent: whatever lies there. -/
def All (c : Ct cx.ty) (b : Nat) : Prop := b < c.w.heap.size ∧ (c.S b ∨ c.N b)

theorem tok_any (ok : cx.Ok) {c : Ct cx.ty} (h : Wf cx c) {tk : Tk cx.ty} (ht : tk ∈ c.T) {s : SlD cx.ty} (hc : tk.c = .inl s) {S : Nat → Prop} (hS : ∀ b, Rd c b → S b) (hv : ∀ b ∈ vb tk.u, S b) : ∃ n, RepL cx c.w S n (some (.inr s)) tk.u := by
  rcases tok_el ok h ht hc with ⟨h1, h2⟩ | ⟨g, cap, h1, hcap, h2⟩
  · exact ⟨1, none, 0, by rw [h1, h2]; rfl, by rw [h2]; exact Nat.le_refl _, .inl h2⟩
  · have hg : S g := hv g (by rw [h1]; simp [vb])
    have hun : ∀ k, ∃ N, ∀ i x, i < k → s.xs[i]? = some x → ∀ j l, (cx.enc s.e false x)[j]? = some l → ∃ v, c.w.cell? ⟨g, i * cx.size s.e + j, none⟩ = some v ∧ RepL cx c.w S N l v := by
      intro k
      induction k with
      | zero => exact ⟨0, fun i x hi => by omega⟩
      | succ k ih =>
        obtain ⟨N, hN⟩ := ih
        by_cases hk : k < s.xs.length
        · obtain ⟨m, hm⟩ := h2 k _ (List.getElem?_eq_getElem hk)
          have up : ∀ d n (l : L cx.ty) u, RepL cx c.w S n l u → RepL cx c.w S (n + d) l u := by
            intro d
            induction d with
            | zero => intro n l u hh; exact hh
            | succ d ihd => intro n l u hh; exact RepL_succ cx _ _ _ (ihd n l u hh)
          refine ⟨N + m, fun i x hi hx j l hl => ?_⟩
          by_cases hik : i < k
          · obtain ⟨v, hv, hr⟩ := hN i x hik hx j l hl
            exact ⟨v, hv, up m N l v hr⟩
          · have : i = k := by omega
            subst this
            rw [List.getElem?_eq_getElem hk] at hx
            simp only [Option.some.injEq] at hx
            subst hx
            obtain ⟨v, hv, hr⟩ := hm j l hl
            refine ⟨v, hv, ?_⟩
            rw [Nat.add_comm]
            exact up N m l v (RepL_mono cx (fun _ _ => rfl) hS m l v hr)
        · refine ⟨N, fun i x hi hx => ?_⟩
          have : i < s.xs.length := (List.getElem?_eq_some_iff.1 hx).1
          exact hN i x (by omega) hx
    obtain ⟨N, hN⟩ := hun s.xs.length
    refine ⟨N + 1, some ⟨g, 0, none⟩, cap, h1, hcap, .inr ⟨g, 0, rfl, hg, fun i x hx j l hl => ?_⟩⟩
    obtain ⟨v, hv, hr⟩ := hN i x (List.getElem?_eq_some_iff.1 hx).1 hx j l hl
    exact ⟨v, by simpa using hv, hr⟩

theorem tok_all (ok : cx.Ok) {c : Ct cx.ty} (h : Wf cx c) {tk : Tk cx.ty} (ht : tk ∈ c.T) {s : SlD cx.ty} (hc : tk.c = .inl s) : ∃ n, RepL cx c.w (All c) n (some (.inr s)) tk.u :=
  tok_any ok h ht hc (fun b hb => ⟨hb.1, hb.2.1⟩) (fun b hb => by
    have := h.bound tk ht b (List.mem_append.2 (.inl hb))
    exact ⟨this.2, .inr this.1⟩)

theorem argL_rep (ok : cx.Ok) {c : Ct cx.ty} (hw : Wf cx c) {t : TypeId} {l l' : L cx.ty} {n : List Nat} (ha : argL P t l = some (l', n)) {u : Value} (h : RepLS cx c l u) (hd : ∀ k ∈ n, k ∉ c.D) :
    ArgL cx c.w (All c) l' u ∧ (n = [] → ArgL cx c.w (Rd c) l' u) := by
  unfold argL at ha
  split at ha
  · split at ha
    · rename_i e he
      simp only [Option.some.injEq, Prod.mk.injEq] at ha
      obtain ⟨rfl, rfl⟩ := ha
      have h : u = .slice none 0 0 := h
      subst h
      exact ⟨⟨rfl, 1, none, 0, rfl, Nat.le_refl _, .inl rfl⟩, fun _ => ⟨rfl, 1, none, 0, rfl, Nat.le_refl _, .inl rfl⟩⟩
    · simp at ha
  · simp only [Option.some.injEq, Prod.mk.injEq] at ha
    obtain ⟨rfl, rfl⟩ := ha
    exact ⟨h, fun _ => h⟩
  · rename_i s
    simp only [Option.some.injEq, Prod.mk.injEq] at ha
    obtain ⟨rfl, rfl⟩ := ha
    have flip : ∀ (S : Nat → Prop) m, RepL cx c.w S m (some (.inr s)) u → RepL cx c.w S m (some (.inr (ro s.e s.xs))) u := by
      intro S m hm
      cases m with
      | zero => simp [RepL] at hm
      | succ m => exact hm
    unfold RepLS at h
    by_cases h1 : s.own = 1
    · have h2 : s.nm ∉ c.D := hd _ (by simp [rdn, h1])
      simp only [h1, if_true, h2, if_false] at h
      obtain ⟨_, h⟩ := h
      refine ⟨?_, fun hn => by simp [rdn, h1] at hn⟩
      by_cases h3 : s.nm ∈ c.F
      · simp only [h3, if_true] at h
        obtain ⟨m, h⟩ := h
        exact ⟨rfl, m, flip _ _ (RepL_mono cx (fun _ _ => rfl) (fun b hb => ⟨hb.1, hb.2.1⟩) m _ u h)⟩
      · simp only [h3, if_false] at h
        obtain ⟨tk, ht, _, hc, hu⟩ := h
        obtain ⟨m, hm⟩ := tok_all ok hw ht hc
        rw [hu] at hm
        exact ⟨rfl, m, flip _ _ hm⟩
    · simp only [h1, if_false] at h
      obtain ⟨m, h⟩ := h
      exact ⟨⟨rfl, m, flip _ _ (RepL_mono cx (fun _ _ => rfl) (fun b hb => ⟨hb.1, hb.2.1⟩) m _ u h)⟩, fun _ => ⟨rfl, m, flip _ _ h⟩⟩
  · simp at ha

theorem argL_noPt {t : TypeId} {l l' : L cx.ty} {n : List Nat} (ha : argL P t l = some (l', n)) : isPt l' = false := by
  unfold argL at ha
  split at ha
  · split at ha
    · simp only [Option.some.injEq, Prod.mk.injEq] at ha
      obtain ⟨rfl, rfl⟩ := ha; rfl
    · simp at ha
  · simp only [Option.some.injEq, Prod.mk.injEq] at ha
    obtain ⟨rfl, rfl⟩ := ha; rfl
  · simp only [Option.some.injEq, Prod.mk.injEq] at ha
    obtain ⟨rfl, rfl⟩ := ha; rfl
  · simp at ha

theorem argLs_rep (ok : cx.Ok) {c : Ct cx.ty} (hw : Wf cx c) : ∀ (ts : List TypeId) (l l' : List (L cx.ty)) (n : List Nat) (us : List Value), argLs P ts l = some (l', n) → RepLs cx c l us → (∀ k ∈ n, k ∉ c.D) →
    us.length = l'.length ∧ (∀ (j : Nat) a u, l'[j]? = some a → us[j]? = some u → ArgL cx c.w (All c) a u ∧ (n = [] → ArgL cx c.w (Rd c) a u))
  | [], [], l', n, us, ha, h, _ => by
    simp only [argLs, Option.some.injEq, Prod.mk.injEq] at ha
    obtain ⟨rfl, rfl⟩ := ha
    exact ⟨h.1, fun j a u h1 => by simp at h1⟩
  | t :: ts, l :: r, l', n, us, ha, h, hd => by
    simp only [argLs] at ha
    split at ha
    · rename_i a n1 as ns e1 e2
      simp only [Option.some.injEq, Prod.mk.injEq] at ha
      obtain ⟨rfl, rfl⟩ := ha
      match us, h with
      | [], h => simp [RepLs] at h
      | u :: us, h =>
        have k1 := argL_rep ok hw e1 (h.2 0 l u rfl rfl) (fun k hk => hd k (List.mem_append.2 (.inl hk)))
        have k2 := argLs_rep ok hw ts r as ns us e2 ⟨by have := h.1; simpa using this, fun j a b h1 h2 => h.2 (j + 1) a b (by simpa using h1) (by simpa using h2)⟩ (fun k hk => hd k (List.mem_append.2 (.inr hk)))
        refine ⟨by simp [k2.1], fun j a' u' h1 h2 => ?_⟩
        cases j with
        | zero =>
          simp only [List.getElem?_cons_zero, Option.some.injEq] at h1 h2
          subst h1; subst h2
          exact ⟨k1.1, fun hn => k1.2 (List.append_eq_nil_iff.1 hn).1⟩
        | succ j =>
          have := k2.2 j a' u' (by simpa using h1) (by simpa using h2)
          exact ⟨this.1, fun hn => this.2 (List.append_eq_nil_iff.1 hn).2⟩
    · simp at ha
  | [], _ :: _, _, _, _, ha, _, _ => by simp [argLs] at ha
  | _ :: _, [], _, _, _, ha, _, _ => by simp [argLs] at ha

theorem argA_rep (ok : cx.Ok) {c : Ct cx.ty} (hw : Wf cx c) {t : TypeId} {a a' : A cx.ty} {n : List Nat} (ha : argA P t a = some (a', n)) {u : Value} (h : RepA cx c a u) (hd : ∀ k ∈ n, k ∉ c.D) :
    ArgA cx c.w (All c) a' u ∧ (n = [] → ArgA cx c.w (Rd c) a' u) := by
  unfold argA at ha
  split at ha
  · split at ha
    · rename_i a n e1
      simp only [Option.some.injEq, Prod.mk.injEq] at ha
      obtain ⟨rfl, rfl⟩ := ha
      have hp := argL_noPt e1
      have := argL_rep ok hw e1 h hd
      exact ⟨ArgA.leaf hp this.1, fun hn => ArgA.leaf hp (this.2 hn)⟩
    · simp at ha
  · split at ha
    · rename_i as n e1
      simp only [Option.some.injEq, Prod.mk.injEq] at ha
      obtain ⟨rfl, rfl⟩ := ha
      obtain ⟨us, hu, h⟩ := h
      have := argLs_rep ok hw _ _ _ _ us e1 h hd
      exact ⟨⟨us, hu, this.1, fun j a u h1 h2 => (this.2 j a u h1 h2).1⟩, fun hn => ⟨us, hu, this.1, fun j a u h1 h2 => (this.2 j a u h1 h2).2 hn⟩⟩
    · simp at ha

theorem winA_rep (ok : cx.Ok) {c : Ct cx.ty} (hw : Wf cx c) {t : TypeId} {p : Pt cx.ty} {a : A cx.ty} (ha : winA P cx t p = some a) {u : Value} (h : RepP cx c p u) : ArgA cx c.w (All c) a u := by
  unfold winA at ha
  split at ha
  · rename_i e he
    split at ha
    · rename_i hc
      simp only [Bool.and_eq_true, beq_iff_eq, decide_eq_true_eq] at hc
      obtain ⟨⟨⟨⟨hk0, hi⟩, hflat⟩, hsz⟩, hfit⟩ := hc
      split at ha
      · rename_i xs hxs
        simp only [Option.some.injEq] at ha
        subst ha
        obtain ⟨m, hm⟩ : ∃ m, p.i = m + 1 := ⟨p.i - 1, by omega⟩
        rw [hm] at hxs hfit
        simp only [Nat.add_sub_cancel] at hxs hfit
        unfold RepP at h
        simp only [hk0, hm] at h
        obtain ⟨tk, ht, hnm, hcc, g, htu, hpa⟩ := h
        have hpa : u = .slice (some ⟨g, p.off, none⟩) m m := hpa.trans (boxAt_win (by omega))
        have htr := hw.rep tk ht
        unfold TokRep at htr
        rw [hcc] at htr
        obtain ⟨hfp, g', cur, et, hu', hh, hcells⟩ := htr
        rw [htu] at hu'
        simp only [Value.pointer.injEq, Option.some.injEq, Addr.mk.injEq] at hu'
        obtain ⟨rfl, _⟩ := hu'
        have hgv : g ∈ vb tk.u := by rw [htu]; simp [vb]
        have hgb := hw.bound tk ht g (List.mem_append.2 (.inl hgv))
        obtain ⟨hxl, hxw⟩ := decN_spec ok false m _ xs hxs
        refine ArgA.leaf rfl ⟨rfl, 2, some ⟨g, p.off, none⟩, m, by rw [hpa, ← hxl]; rfl, by show xs.length ≤ m; omega, .inr ⟨g, p.off, rfl, ⟨hgb.2, .inr hgb.1⟩, fun i y hy j l hl => ?_⟩⟩
        have hl : (cx.enc e false y)[j]? = some l := hl
        have hy : xs[i]? = some y := hy
        have hj : j < 1 := by
          have h8 := (List.getElem?_eq_some_iff.1 hl).1
          have h9 : (cx.enc e false y).length = cx.size e := ok.len e false y
          omega
        have hfg := flat_get (cx.enc e false) 1 (fun x => by rw [ok.len, hsz]) xs i y hy j hj
        rw [← hxw, hl, List.getElem?_map] at hfg
        obtain ⟨v, hv⟩ := ok.flat e false y hflat l (List.mem_of_getElem? hl)
        subst hv
        cases hl0 : ((p.cells.drop p.off).take m)[i * 1 + j]? with
        | none => rw [hl0] at hfg; simp at hfg
        | some l0 =>
          rw [hl0] at hfg
          simp only [Option.map_some, Option.some.injEq] at hfg
          have hl1 : l0 = some (.inl v) := by
            unfold weak at hfg
            split at hfg
            · simp at hfg
            · exact hfg
          have hlm : i * 1 + j < m := by
            have := (List.getElem?_eq_some_iff.1 hl0).1
            simp at this
            omega
          have hl2 : p.cells[p.off + (i * 1 + j)]? = some l0 := by
            rw [List.getElem?_take_of_lt hlm, List.getElem?_drop] at hl0
            exact hl0
          have hlt : p.off + (i * 1 + j) < cur.toList.length := by
            rw [hcells.1]
            exact (List.getElem?_eq_some_iff.1 hl2).1
          have hcv := hcells.2 _ l0 _ hl2 (List.getElem?_eq_getElem hlt)
          rw [hl1] at hcv
          have hcv : cur.toList[p.off + (i * 1 + j)] = v := hcv
          refine ⟨v, ?_, rfl⟩
          show c.w.cell? ⟨g, p.off + (i * cx.size e + j), none⟩ = some v
          rw [hsz]
          simp only [World.cell?, hh]
          simp only [← hcv]
          simp
      · simp at ha
    · simp at ha
  · simp at ha

theorem RepL_upTo {w : World} {S : Nat → Prop} (d : Nat) : ∀ {n : Nat} {l : L cx.ty} {u : Value}, RepL cx w S n l u → RepL cx w S (n + d) l u := by
  induction d with
  | zero => intro n l u h; exact h
  | succ d ih => intro n l u h; exact RepL_succ cx _ _ _ (ih h)
theorem weak_RepL {w : World} {S : Nat → Prop} {n : Nat} {l : L cx.ty} {u : Value} (h : RepL cx w S n l u) : RepL cx w S n (weak false l) u := by
  match n, l, h with
  | _, none, h => exact h
  | _, some (.inl _), h => exact h
  | 0, some (.inr _), h => simp [RepL] at h
  | n + 1, some (.inr s), h => exact h
theorem ArgL.toRepL {w : World} {S : Nat → Prop} {l : L cx.ty} {u : Value} (h : ArgL cx w S l u) : ∃ n, RepL cx w S n l u := by
  match l, h with
  | some (.inl v), h => exact ⟨0, h⟩
  | some (.inr s), ⟨_, n, h⟩ => exact ⟨n, h⟩
theorem leaves_one {w : World} {S : Nat → Prop} : ∀ (ls : List (L cx.ty)) (us : List Value), us.length = ls.length → (∀ (j : Nat) l v, ls[j]? = some l → us[j]? = some v → ArgL cx w S l v) → ∃ n, ∀ (j : Nat) l v, ls[j]? = some l → us[j]? = some v → RepL cx w S n l v
  | [], _, _, _ => ⟨0, fun j l v h => by simp at h⟩
  | l :: r, [], h, _ => by simp at h
  | l :: r, u :: us, h, hv => by
    obtain ⟨n1, h1⟩ := leaves_one r us (by simpa using h) (fun j a b e1 e2 => hv (j + 1) a b (by simpa using e1) (by simpa using e2))
    obtain ⟨n2, h2⟩ := (hv 0 l u rfl rfl).toRepL
    refine ⟨n1 + n2, fun j a b e1 e2 => ?_⟩
    cases j with
    | zero =>
      simp at e1 e2
      subst e1; subst e2
      have := RepL_upTo n1 h2
      rwa [Nat.add_comm] at this
    | succ j => exact RepL_upTo n2 (h1 j a b (by simpa using e1) (by simpa using e2))
/-- Cells that stand for leaves, as a thing that is read. -/
theorem ptS_of_cells (ok : cx.Ok) {w : World} {S : Nat → Prop} {g : Nat} (hg : S g) {cur : Array Value} {et : TypeId} {q : Nat × Nat} (hh : w.heap[g]? = some (.cells cur et q)) {ls : List (L cx.ty)} (hlen : cur.toList.length = ls.length) (hv : ∀ (j : Nat) l v, ls[j]? = some l → cur.toList[j]? = some v → ArgL cx w S l v) {e : Nat} {x : cx.ty e} (hx : cx.dec e ls = some x) {k : Nat} :
    PtS cx w S { own := k, nm := 0, e := e, o := false, xs := [x] } (.pointer (some ⟨g, 0, none⟩)) := by
  obtain ⟨n, hn⟩ := leaves_one _ _ hlen hv
  have hback := ok.dec e _ x false hx
  refine ⟨g, 0, rfl, hg, x, rfl, n, fun j l hj => ?_⟩
  have hj : (cx.enc e false x)[j]? = some l := hj
  rw [← hback, List.getElem?_map] at hj
  cases hj1 : ls[j]? with
  | none => rw [hj1] at hj; simp at hj
  | some l0 =>
    rw [hj1] at hj
    simp only [Option.map_some, Option.some.injEq] at hj
    subst hj
    have hjl : j < cur.toList.length := by rw [hlen]; exact (List.getElem?_eq_some_iff.1 hj1).1
    have hvv := hn j l0 _ hj1 (List.getElem?_eq_getElem hjl)
    refine ⟨cur.toList[j], ?_, weak_RepL hvv⟩
    have hjs : j < cur.size := by simpa using hjl
    simp only [World.cell?, hh]
    simp [hjs]

theorem ptS_of_cells_at (ok : cx.Ok) {w : World} {S : Nat → Prop} {g : Nat} (hg : S g) {cur : Array Value} {et : TypeId} {q : Nat × Nat} (hh : w.heap[g]? = some (.cells cur et q)) {o m : Nat} {ls : List (L cx.ty)} (hlen : ((cur.toList.drop o).take m).length = ls.length) (hv : ∀ (j : Nat) l v, ls[j]? = some l → ((cur.toList.drop o).take m)[j]? = some v → ArgL cx w S l v) {e : Nat} {x : cx.ty e} (hx : cx.dec e ls = some x) {k : Nat} :
    PtS cx w S { own := k, nm := 0, e := e, o := false, xs := [x] } (.pointer (some ⟨g, o, none⟩)) := by
  obtain ⟨n, hn⟩ := leaves_one _ _ hlen hv
  have hback := ok.dec e _ x false hx
  refine ⟨g, o, rfl, hg, x, rfl, n, fun j l hj => ?_⟩
  have hj : (cx.enc e false x)[j]? = some l := hj
  rw [← hback, List.getElem?_map] at hj
  cases hj1 : ls[j]? with
  | none => rw [hj1] at hj; simp at hj
  | some l0 =>
    rw [hj1] at hj
    simp only [Option.map_some, Option.some.injEq] at hj
    subst hj
    have hjl : j < ((cur.toList.drop o).take m).length := by rw [hlen]; exact (List.getElem?_eq_some_iff.1 hj1).1
    have hvv := hn j l0 _ hj1 (List.getElem?_eq_getElem hjl)
    refine ⟨((cur.toList.drop o).take m)[j], ?_, weak_RepL hvv⟩
    have hjs : o + j < cur.size := by
      rw [List.length_take, List.length_drop, Array.length_toList] at hjl
      omega
    simp only [World.cell?, hh]
    simp [hjs]

theorem ptB_rep (ok : cx.Ok) {c : Ct cx.ty} (hw : Wf cx c) {e : TypeId} {tag off : Nat} {p : Pt cx.ty} {a : A cx.ty} {n : List Nat} (ha : ptB P cx e tag off p = some (a, n)) {g : Nat} {tk : Tk cx.ty} (ht : tk ∈ c.T) (hcc : tk.c = .inr p.cells) (htu : tk.u = .pointer (some ⟨g, 0, none⟩)) (hd : ∀ k ∈ n, k ∉ c.D) :
    ArgA cx c.w (All c) a (mvA tag g off) ∧ (n = [] → ArgA cx c.w (Rd c) a (mvA tag g off)) := by
  unfold ptB at ha
  split at ha
  · rename_i ls n1 hls
    split at ha
    · rename_i x hx
      simp only [Option.some.injEq, Prod.mk.injEq] at ha
      obtain ⟨rfl, rfl⟩ := ha
      have htr := hw.rep tk ht
      unfold TokRep at htr
      rw [hcc] at htr
      obtain ⟨hfp, g', cur, et, hu', hh, hcells⟩ := htr
      rw [htu] at hu'
      simp only [Value.pointer.injEq, Option.some.injEq, Addr.mk.injEq] at hu'
      obtain ⟨rfl, _⟩ := hu'
      have hgv : g ∈ vb tk.u := by rw [htu]; simp [vb]
      have hgb := hw.bound tk ht g (List.mem_append.2 (.inl hgv))
      have hr := argLs_rep ok hw _ _ _ _ _ hls (hcells.sub off _) (fun k hk => hd k (List.mem_cons_of_mem _ hk))
      refine ⟨?_, fun hn => by simp at hn⟩
      rw [ArgA.atPt rfl]
      obtain ⟨g2, o2, hu2, hS, hrest⟩ := ptS_of_cells_at ok (S := All c) (k := 3) ⟨hgb.2, .inr hgb.1⟩ hh hr.1 (fun j l v h1 h2 => (hr.2 j l v h1 h2).1) hx
      have hu2 : (Value.pointer (some ⟨g, off, none⟩)) = .pointer (some ⟨g2, o2, none⟩) := hu2
      simp only [Value.pointer.injEq, Option.some.injEq, Addr.mk.injEq] at hu2
      obtain ⟨rfl, rfl, _⟩ := hu2
      exact ⟨g, off, rfl, hS, hrest⟩
    · simp at ha
  · simp at ha

theorem ptI_rep (ok : cx.Ok) {c : Ct cx.ty} {t : TypeId} {p : Pt cx.ty} {a : A cx.ty} {n : List Nat} (ha : ptI P cx t p = some (a, n)) {u : Value} (hk : p.kind = 2) (h : RepP cx c p u) : ArgA cx c.w (All c) a u ∧ (n = [] → ArgA cx c.w (Rd c) a u) := by
  unfold ptI at ha
  split at ha
  case isFalse => simp at ha
  rename_i hnm
  simp only [beq_iff_eq] at hnm
  split at ha
  case h_2 => simp at ha
  rename_i e he
  split at ha
  case isFalse => simp at ha
  split at ha
  case h_2 => simp at ha
  rename_i y hy
  simp only [Option.some.injEq, Prod.mk.injEq] at ha
  obtain ⟨rfl, rfl⟩ := ha
  unfold RepP at h
  simp only [hk, hnm] at h
  obtain ⟨b, o, hu, hb, x, hx, n, hn⟩ := h
  have hxx : p.s.xs.getD p.i (cx.dflt p.s.e) = x := by simp [List.getD, hx]
  rw [hxx] at hy
  have hback := ok.dec e _ y false hy
  rw [List.map_take, List.map_drop, ok.weak] at hback
  have h2 : ArgA cx c.w (Rd c) (.inl (some (.inr { own := 3, nm := 0, e := e, o := false, xs := [y] }))) u := by
    rw [ArgA.atPt rfl]
    refine ⟨b, o + p.off, hu, hb, y, rfl, n, fun j l hj => ?_⟩
    have hj : (cx.enc e false y)[j]? = some l := hj
    rw [← hback, List.getElem?_take] at hj
    split at hj
    case isFalse => simp at hj
    rw [List.getElem?_drop] at hj
    obtain ⟨v, h1, h3⟩ := hn _ _ hj
    exact ⟨v, by rw [Nat.add_assoc]; exact h1, h3⟩
  exact ⟨ArgA.mono (fun b hb => ⟨hb.1, hb.2.1⟩) (fun _ _ => rfl) h2, fun _ => h2⟩

theorem ptA_rep (ok : cx.Ok) {c : Ct cx.ty} (hw : Wf cx c) {t : TypeId} {p : Pt cx.ty} {a : A cx.ty} {n : List Nat} (ha : ptA P cx t p = some (a, n)) {u : Value} (h : RepP cx c p u) (hd : ∀ k ∈ n, k ∉ c.D) : ArgA cx c.w (All c) a u ∧ (n = [] → ArgA cx c.w (Rd c) a u) := by
  unfold ptA at ha
  split at ha
  · rename_i hk
    unfold RepP at h
    simp only [hk] at h
    obtain ⟨tk, ht, hnm, hcc, g, htu, hpa⟩ := h
    split at ha
    · rename_i hc
      have hi : p.i = 0 := beq_iff_eq.1 hc
      rw [hi] at hpa
      have hpa : u = mvA 0 g p.off := hpa
      rw [hpa]
      split at ha
      · exact ptB_rep ok hw ha ht hcc htu hd
      · simp at ha
    · split at ha
      · rename_i hc
        have hi : p.i = 1 := beq_iff_eq.1 hc
        rw [hi] at hpa
        have hpa : u = mvA (p.off + 1) g 0 := hpa
        rw [hpa]
        split at ha
        · exact ptB_rep ok hw ha ht hcc htu hd
        · simp at ha
      · simp at ha
  · rename_i hk
    split at ha
    · rename_i r hr
      cases ha
      exact ptI_rep ok hr hk h
    split at ha
    case isFalse => simp at ha
    rename_i hoff
    simp only [beq_iff_eq] at hoff
    simp only [Option.some.injEq, Prod.mk.injEq] at ha
    obtain ⟨rfl, rfl⟩ := ha
    unfold RepP at h
    simp only [hk, hoff, Nat.add_zero] at h
    obtain ⟨b, o, hu, hb, x, hx, n, hn⟩ := h
    have key : PtS cx c.w (Rd c) { own := 3, nm := p.nm, e := p.s.e, o := false, xs := [p.s.xs.getD p.i (cx.dflt p.s.e)] } u := by
      refine ⟨b, o, hu, hb, p.s.xs.getD p.i (cx.dflt p.s.e), rfl, n, ?_⟩
      have : p.s.xs.getD p.i (cx.dflt p.s.e) = x := by simp [List.getD, hx]
      rw [this]
      exact hn
    have h2 : ArgA cx c.w (Rd c) (.inl (some (.inr { own := 3, nm := p.nm, e := p.s.e, o := false, xs := [p.s.xs.getD p.i (cx.dflt p.s.e)] }))) u := by
      rw [ArgA.atPt rfl]
      exact key
    exact ⟨ArgA.mono (fun b hb => ⟨hb.1, hb.2.1⟩) (fun _ _ => rfl) h2, fun _ => h2⟩
  · simp at ha
theorem argVs_rep (ok : cx.Ok) {c : Ct cx.ty} (hw : Wf cx c) : ∀ (ts : List TypeId) (l : List (V cx.ty)) (l' : List (A cx.ty)) (n : List Nat) (us : List Value), argVs P cx ts l = some (l', n) →
    us.length = l.length → (∀ (j : Nat) a u, l[j]? = some a → us[j]? = some u → RepV cx c a u) → (∀ k ∈ n, k ∉ c.D) → ArgAs cx c.w (All c) l' us ∧ (n = [] → ArgAs cx c.w (Rd c) l' us)
  | [], [], l', n, us, ha, hl, h, _ => by
    simp only [argVs, Option.some.injEq, Prod.mk.injEq] at ha
    obtain ⟨rfl, rfl⟩ := ha
    exact ⟨⟨hl, fun j a u h1 => by simp at h1⟩, fun _ => ⟨hl, fun j a u h1 => by simp at h1⟩⟩
  | t :: ts, .inl l :: r, l', n, us, ha, hl, h, hd => by
    simp only [argVs] at ha
    split at ha
    · rename_i a n1 as ns e1 e2
      simp only [Option.some.injEq, Prod.mk.injEq] at ha
      obtain ⟨rfl, rfl⟩ := ha
      match us, hl, h with
      | [], hl, h => simp at hl
      | u :: us, hl, h =>
        have k1 := argA_rep ok hw e1 (h 0 _ u rfl rfl) (fun k hk => hd k (List.mem_append.2 (.inl hk)))
        have k2 := argVs_rep ok hw ts r as ns us e2 (by simpa using hl) (fun j a b h1 h2 => h (j + 1) a b (by simpa using h1) (by simpa using h2)) (fun k hk => hd k (List.mem_append.2 (.inr hk)))
        refine ⟨⟨by simp [k2.1.1], fun j a' u' h1 h2 => ?_⟩, fun hn => ⟨by simp [k2.1.1], fun j a' u' h1 h2 => ?_⟩⟩
        · cases j with
          | zero =>
            simp only [List.getElem?_cons_zero, Option.some.injEq] at h1 h2
            subst h1; subst h2
            exact k1.1
          | succ j => exact k2.1.2 j a' u' (by simpa using h1) (by simpa using h2)
        · have hn' := List.append_eq_nil_iff.1 hn
          cases j with
          | zero =>
            simp only [List.getElem?_cons_zero, Option.some.injEq] at h1 h2
            subst h1; subst h2
            exact k1.2 hn'.1
          | succ j => exact (k2.2 hn'.2).2 j a' u' (by simpa using h1) (by simpa using h2)
    · simp at ha
  | [], _ :: _, _, _, _, ha, _, _, _ => by simp [argVs] at ha
  | _ :: _, [], _, _, _, ha, _, _, _ => by simp [argVs] at ha
  | _ :: _, .inr (.inl _) :: _, _, _, _, ha, _, _, _ => by simp [argVs] at ha
  | t :: ts, .inr (.inr p) :: r, l', n, us, ha, hl, h, hd => by
    simp only [argVs] at ha
    split at ha
    · rename_i a as ns e1 e2
      simp only [Option.some.injEq, Prod.mk.injEq] at ha
      obtain ⟨rfl, rfl⟩ := ha
      match us, hl, h with
      | [], hl, h => simp at hl
      | u :: us, hl, h =>
        have k1 := winA_rep ok hw e1 (h 0 _ u rfl rfl)
        have k2 := argVs_rep ok hw ts r as ns us e2 (by simpa using hl) (fun j a b h1 h2 => h (j + 1) a b (by simpa using h1) (by simpa using h2)) (fun k hk => hd k (List.mem_cons_of_mem _ hk))
        refine ⟨⟨by simp [k2.1.1], fun j a' u' h1 h2 => ?_⟩, fun hn => by simp at hn⟩
        cases j with
        | zero =>
          simp only [List.getElem?_cons_zero, Option.some.injEq] at h1 h2
          subst h1; subst h2
          exact k1
        | succ j => exact k2.1.2 j a' u' (by simpa using h1) (by simpa using h2)
    · rename_i as ns e1 e2
      split at ha
      · rename_i a n1 e3
        simp only [Option.some.injEq, Prod.mk.injEq] at ha
        obtain ⟨rfl, rfl⟩ := ha
        match us, hl, h with
        | [], hl, h => simp at hl
        | u :: us, hl, h =>
          have k1 := ptA_rep ok hw e3 (h 0 _ u rfl rfl) (fun k hk => hd k (List.mem_append.2 (.inl hk)))
          have k2 := argVs_rep ok hw ts r as ns us e2 (by simpa using hl) (fun j a b h1 h2 => h (j + 1) a b (by simpa using h1) (by simpa using h2)) (fun k hk => hd k (List.mem_append.2 (.inr hk)))
          refine ⟨⟨by simp [k2.1.1], fun j a' u' h1 h2 => ?_⟩, fun hn => ⟨by simp [k2.1.1], fun j a' u' h1 h2 => ?_⟩⟩
          · cases j with
            | zero =>
              simp only [List.getElem?_cons_zero, Option.some.injEq] at h1 h2
              subst h1; subst h2
              exact k1.1
            | succ j => exact k2.1.2 j a' u' (by simpa using h1) (by simpa using h2)
          · have hn' := List.append_eq_nil_iff.1 hn
            cases j with
            | zero =>
              simp only [List.getElem?_cons_zero, Option.some.injEq] at h1 h2
              subst h1; subst h2
              exact k1.2 hn'.1
            | succ j => exact (k2.2 hn'.2).2 j a' u' (by simpa using h1) (by simpa using h2)
      · simp at ha
    · simp at ha

end
end Go.VM
namespace Go.VM
open Go.RowKit
section
variable {cx : Cx} {P : Program}

def bindL {ty : Nat → Type} (nm : Nat) (l : L ty) : L ty :=
  match l with
  | some (.inr s) => if s.own == 2 then ls { own := 1, nm := nm, e := s.e, o := true, xs := s.xs } else if s.own == 4 then ls { own := 1, nm := nm, e := s.e, o := false, xs := s.xs } else some (.inr s)
  | l => l

def bindLs {ty : Nat → Type} (nm : Nat) : List (L ty) → List (L ty)
  | [] => []
  | l :: r => bindL nm l :: bindLs (nm + 1) r

def bindA {ty : Nat → Type} (nm : Nat) (a : A ty) : A ty :=
  match a with
  | .inl l => .inl (bindL nm l)
  | .inr l => .inr (bindLs nm l)

def bindAs {ty : Nat → Type} (nm : Nat) : List (A ty) → List (A ty)
  | [] => []
  | a :: r => bindA nm a :: bindAs (nm + 16) r

def bindV {ty : Nat → Type} (nm : Nat) (v : V ty) : V ty :=
  match v with
  | .inl a => .inl (bindA nm a)
  | .inr (.inl l) => .inr (.inl (bindAs nm l))
  | v => v

def fitsA {ty : Nat → Type} (k : Nat) (a : A ty) : Bool :=
  match a with
  | .inl _ => true
  | .inr l => decide (l.length ≤ k)

def fitsV {ty : Nat → Type} (v : V ty) : Bool :=
  match v with
  | .inl a => fitsA 64 a
  | .inr (.inl l) => decide (l.length ≤ 4) && l.all (fitsA 16)
  | _ => false

structure BSpec (cx : Cx) (w : World) (S : Nat → Prop) (lo hi : Nat) (f : List Nat) (N : List (Tk cx.ty)) (rep : Ct cx.ty → Prop) : Prop where
  nm : ∀ tk ∈ N, lo ≤ tk.nm ∧ tk.nm < hi
  nd : (N.map (·.nm)).Nodup
  fp : (N.flatMap fun tk => vb tk.u ++ tk.fp) = f
  tok : ∀ tk ∈ N, (∃ s, tk.c = .inl s) ∧ ∀ c : Ct cx.ty, c.w = w → (∀ b, S b → Rd c b) → TokRep cx c tk
  rep : ∀ c : Ct cx.ty, c.w = w → (∀ tk ∈ N, tk ∈ c.T ∧ tk.nm ∉ c.D ∧ tk.nm ∉ c.F) → (∀ b, S b → Rd c b) → rep c

theorem BSpec.both {w : World} {S : Nat → Prop} {lo hi : Nat} {f : List Nat} {N : List (Tk cx.ty)} {r : Ct cx.ty → Prop} (h : BSpec cx w S lo hi f N r) (c : Ct cx.ty) (hc : c.w = w) (hl : ∀ tk ∈ N, tk ∈ c.T ∧ tk.nm ∉ c.D ∧ tk.nm ∉ c.F) (hS : ∀ b, S b → Rd c b) : r c ∧ ∀ tk ∈ N, TokRep cx c tk :=
  ⟨h.rep c hc hl hS, fun tk ht => (h.tok tk ht).2 c hc hS⟩

theorem BSpec.app {w : World} {S : Nat → Prop} {lo mid hi : Nat} {f1 f2 : List Nat} {N1 N2 : List (Tk cx.ty)} {r1 r2 : Ct cx.ty → Prop} (h1 : BSpec cx w S lo mid f1 N1 r1) (h2 : BSpec cx w S mid hi f2 N2 r2) (hl : lo ≤ mid) (hh : mid ≤ hi) :
    BSpec cx w S lo hi (f1 ++ f2) (N1 ++ N2) (fun c => r1 c ∧ r2 c) := by
  refine ⟨fun tk ht => ?_, ?_, ?_, fun tk ht => ?_, fun c hc ht hS => ⟨?_, ?_⟩⟩
  · rcases List.mem_append.1 ht with ht | ht
    · have := h1.nm tk ht; omega
    · have := h2.nm tk ht; omega
  · rw [List.map_append, List.nodup_append]
    refine ⟨h1.nd, h2.nd, fun a ha b hb he => ?_⟩
    obtain ⟨t1, ht1, rfl⟩ := List.mem_map.1 ha
    obtain ⟨t2, ht2, rfl⟩ := List.mem_map.1 hb
    have := h1.nm t1 ht1
    have := h2.nm t2 ht2
    omega
  · rw [List.flatMap_append, h1.fp, h2.fp]
  · rcases List.mem_append.1 ht with ht | ht
    · exact h1.tok tk ht
    · exact h2.tok tk ht
  · exact h1.rep c hc (fun tk h => ht tk (List.mem_append.2 (.inl h))) hS
  · exact h2.rep c hc (fun tk h => ht tk (List.mem_append.2 (.inr h))) hS

theorem BSpec.mono {w : World} {S : Nat → Prop} {lo hi hi' : Nat} {f : List Nat} {N : List (Tk cx.ty)} {r r' : Ct cx.ty → Prop} (h : BSpec cx w S lo hi f N r) (hh : hi ≤ hi') (hr : ∀ c, r c → r' c) : BSpec cx w S lo hi' f N r' :=
  ⟨fun tk ht => ⟨(h.nm tk ht).1, Nat.lt_of_lt_of_le (h.nm tk ht).2 hh⟩, h.nd, h.fp, h.tok, fun c h1 h2 h3 => hr c (h.rep c h1 h2 h3)⟩

theorem OwnL_slice {w : World} {n : Nat} {s : SlD cx.ty} {u : Value} {f : List Nat} (h : OwnL cx w n (some (.inr s)) u f) : ∃ g, f = u.ownBlock.toList ++ g ∧ vb u = u.ownBlock.toList ∧ ∃ a k cap, u = .slice a k cap := by
  cases n with
  | zero => simp [OwnL] at h
  | succ n =>
    obtain ⟨us, fpl, hrow, hfp, _⟩ := h
    refine ⟨_, hfp, ?_⟩
    rcases hrow.2 with ⟨hu, _⟩ | ⟨g, cap, cur, hu, _⟩
    · rw [hu]; exact ⟨rfl, _, _, _, rfl⟩
    · rw [hu]; exact ⟨rfl, _, _, _, rfl⟩

theorem OwnL_own {w : World} {n : Nat} {s : SlD cx.ty} {u : Value} {f : List Nat} (h : OwnL cx w n (some (.inr s)) u f) (nm : Nat) : OwnL cx w n (some (.inr { own := 1, nm := nm, e := s.e, o := true, xs := s.xs })) u f := by
  cases n with
  | zero => simp [OwnL] at h
  | succ n => exact h

theorem bindL_spec {w : World} {S : Nat → Prop} {l : L cx.ty} {u : Value} {f : List Nat} (nm : Nat) (h : ResL cx w S l u f) : ∃ N, BSpec cx w S nm (nm + 1) f N (fun c => RepLS cx c (bindL nm l) u) := by
  match l, h with
  | some (.inl v), ⟨hu, hf⟩ => exact ⟨[], ⟨by simp, by simp, by simp [hf], by simp, fun c _ _ _ => hu⟩⟩
  | some (.inr s), h =>
    unfold ResL at h
    by_cases h2 : s.own = 2
    · simp only [h2, if_true] at h
      obtain ⟨ho, n, h⟩ := h
      obtain ⟨g, hg, hv, a, k, cap, hu⟩ := OwnL_slice h
      refine ⟨[{ nm := nm, u := u, fp := g, c := .inl { own := 1, nm := nm, e := s.e, o := true, xs := s.xs } }], ⟨by simp, by simp, by simp [hv, hg], fun tk ht => ?_, fun c _ hc _ => ?_⟩⟩
      · simp only [List.mem_singleton] at ht
        subst ht
        refine ⟨⟨_, rfl⟩, fun c hc _ => ?_⟩
        subst hc
        exact ⟨hv, n, by rw [hv, ← hg]; exact OwnL_own h nm⟩
      · obtain ⟨h3, h4, h5⟩ := hc _ (List.mem_singleton.2 rfl)
        simp only [bindL, h2, beq_self_eq_true, if_true]
        show RepLS cx c (some (.inr _)) u
        unfold RepLS
        simp only [if_true, h4, h5, if_false]
        exact ⟨⟨a, k, cap, hu⟩, _, h3, rfl, rfl, rfl⟩
    by_cases h4 : s.own = 4
    · simp only [h4, show ¬ (4 : Nat) = 2 by decide, if_false, if_true] at h
      obtain ⟨ho, h⟩ := h
      obtain ⟨hv, a, k, cap, hu⟩ := h.slice
      refine ⟨[{ nm := nm, u := u, fp := [], c := .inl { own := 1, nm := nm, e := s.e, o := false, xs := s.xs } }], ⟨by simp, by simp, by simp [hv, h.1], fun tk ht => ?_, fun c _ hc _ => ?_⟩⟩
      · simp only [List.mem_singleton] at ht
        subst ht
        refine ⟨⟨_, rfl⟩, fun c hc hS => ?_⟩
        subst hc
        obtain ⟨_, us, n, k1, k2, k3⟩ := h
        exact ⟨hv, rfl, us, n, k1, k2, fun j l v e1 e2 => RepL_mono cx (fun _ _ => rfl) hS _ _ _ (k3 j l v e1 e2)⟩
      · obtain ⟨h3, h4', h5⟩ := hc _ (List.mem_singleton.2 rfl)
        simp only [bindL, h4, show ((4 : Nat) == 2) = false from rfl, beq_self_eq_true, if_true, Bool.false_eq_true, if_false]
        show RepLS cx c (some (.inr _)) u
        unfold RepLS
        simp only [if_true, h4', h5, if_false]
        exact ⟨⟨a, k, cap, hu⟩, _, h3, rfl, rfl, rfl⟩
    · simp only [h2, h4, if_false] at h
      obtain ⟨h0, hf, n, h⟩ := h
      refine ⟨[], ⟨by simp, by simp, by simp [hf], by simp, fun c hc _ hS => ?_⟩⟩
      have hb : (s.own == 2) = false := by simpa using h2
      have hb4 : (s.own == 4) = false := by simpa using h4
      simp only [bindL, hb, hb4, Bool.false_eq_true, if_false]
      unfold RepLS
      have h1 : ¬ s.own = 1 := by omega
      simp only [h1, if_false]
      subst hc
      exact ⟨n, RepL_mono cx (fun _ _ => rfl) hS n _ u h⟩

theorem bindLs_spec {w : World} {S : Nat → Prop} : ∀ (l : List (L cx.ty)) (us : List Value) (fps : List (List Nat)) (nm : Nat), ResLs cx w S l us fps → ∃ N, BSpec cx w S nm (nm + l.length) (List.flatten fps) N (fun c => RepLs cx c (bindLs nm l) us)
  | [], us, fps, nm, h => by
    have h1 := List.eq_nil_of_length_eq_zero h.1
    have h2 := List.eq_nil_of_length_eq_zero h.2.1
    subst h1; subst h2
    exact ⟨[], ⟨by simp, by simp, by simp, by simp, fun c _ _ _ => ⟨rfl, fun j a u h => by simp [bindLs] at h⟩⟩⟩
  | l :: r, us, fps, nm, h => by
    match us, fps, h with
    | [], _, h => simp [ResLs] at h
    | _ :: _, [], h => simp [ResLs] at h
    | u :: us, f :: fps, h =>
      obtain ⟨N1, h1⟩ := bindL_spec nm (h.2.2 0 l u f rfl rfl rfl)
      obtain ⟨N2, h2⟩ := bindLs_spec r us fps (nm + 1) ⟨by simpa using h.1, by simpa using h.2.1, fun j a b f' e1 e2 e3 => h.2.2 (j + 1) a b f' (by simpa using e1) (by simpa using e2) (by simpa using e3)⟩
      refine ⟨N1 ++ N2, ?_⟩
      rw [List.flatten_cons]
      refine (h1.app h2 (by omega) (by omega)).mono (by simp; omega) fun c ⟨k1, k2⟩ => ⟨by simp [bindLs, k2.1], fun j a b e1 e2 => ?_⟩
      cases j with
      | zero =>
        simp only [bindLs, List.getElem?_cons_zero, Option.some.injEq] at e1 e2
        subst e1; subst e2
        exact k1
      | succ j => exact k2.2 j a b (by simpa [bindLs] using e1) (by simpa using e2)

theorem bindA_spec {w : World} {S : Nat → Prop} {a : A cx.ty} {u : Value} {f : List Nat} (nm k : Nat) (hk : fitsA k a = true) (h1 : 1 ≤ k) (h : ResA cx w S a u f) : ∃ N, BSpec cx w S nm (nm + k) f N (fun c => RepA cx c (bindA nm a) u) := by
  match a, h, hk with
  | .inl l, h, _ =>
    obtain ⟨N, hN⟩ := bindL_spec nm h
    exact ⟨N, hN.mono (by omega) fun _ h => h⟩
  | .inr l, ⟨us, fps, hu, hf, h⟩, hk =>
    obtain ⟨N, hN⟩ := bindLs_spec l us fps nm h
    simp only [fitsA, decide_eq_true_eq] at hk
    subst hf
    exact ⟨N, hN.mono (by omega) fun c h => ⟨us, hu, h⟩⟩

theorem bindAs_spec {w : World} {S : Nat → Prop} : ∀ (l : List (A cx.ty)) (us : List Value) (fps : List (List Nat)) (nm : Nat), l.all (fitsA 16) = true → ResAs cx w S l us fps → ∃ N, BSpec cx w S nm (nm + 16 * l.length) (List.flatten fps) N (fun c => RepAs cx c (bindAs nm l) us)
  | [], us, fps, nm, _, h => by
    have h1 := List.eq_nil_of_length_eq_zero h.1
    have h2 := List.eq_nil_of_length_eq_zero h.2.1
    subst h1; subst h2
    exact ⟨[], ⟨by simp, by simp, by simp, by simp, fun c _ _ _ => ⟨rfl, fun j a u h => by simp [bindAs] at h⟩⟩⟩
  | l :: r, us, fps, nm, hk, h => by
    match us, fps, h with
    | [], _, h => simp [ResAs] at h
    | _ :: _, [], h => simp [ResAs] at h
    | u :: us, f :: fps, h =>
      simp only [List.all_cons, Bool.and_eq_true] at hk
      obtain ⟨N1, h1⟩ := bindA_spec nm 16 hk.1 (by omega) (h.2.2 0 l u f rfl rfl rfl)
      obtain ⟨N2, h2⟩ := bindAs_spec r us fps (nm + 16) hk.2 ⟨by simpa using h.1, by simpa using h.2.1, fun j a b f' e1 e2 e3 => h.2.2 (j + 1) a b f' (by simpa using e1) (by simpa using e2) (by simpa using e3)⟩
      refine ⟨N1 ++ N2, ?_⟩
      rw [List.flatten_cons]
      refine (h1.app h2 (by omega) (by omega)).mono (by simp; omega) fun c ⟨k1, k2⟩ => ⟨by simp [bindAs, k2.1], fun j a b e1 e2 => ?_⟩
      cases j with
      | zero =>
        simp only [bindAs, List.getElem?_cons_zero, Option.some.injEq] at e1 e2
        subst e1; subst e2
        exact k1
      | succ j => exact k2.2 j a b (by simpa [bindAs] using e1) (by simpa using e2)

theorem ResV.bind {w : World} {A0 NN : Nat → Prop} {r : V cx.ty} {u : Value} (nm : Nat) (hk : fitsV r = true) (h : ResV cx w A0 NN r u) :
    ∃ fp N, fp.Nodup ∧ (∀ b ∈ fp, NN b ∧ b < w.heap.size) ∧ BSpec cx w (fun b => A0 b ∨ (NN b ∧ b < w.heap.size ∧ b ∉ fp)) nm (nm + 64) fp N (fun c => RepV cx c (bindV nm r) u) := by
  obtain ⟨fp, h1, h2, h⟩ := h
  match r, h, hk with
  | .inl a, h, hk =>
    obtain ⟨N, hN⟩ := bindA_spec nm 64 hk (by omega) h
    exact ⟨fp, N, h1, h2, hN⟩
  | .inr (.inl l), ⟨us, fps, hu, hf, h⟩, hk =>
    simp only [fitsV, Bool.and_eq_true, decide_eq_true_eq] at hk
    obtain ⟨N, hN⟩ := bindAs_spec l us fps nm hk.2 h
    rw [← hf] at hN
    exact ⟨fp, N, h1, h2, hN.mono (by omega) fun c h => ⟨us, hu, h⟩⟩
  | .inr (.inr _), h, _ => exact h.elim

def noRoL {ty : Nat → Type} : L ty → Bool
  | some (.inr s) => s.own == 2
  | _ => true

def noRoA {ty : Nat → Type} (a : A ty) : Bool :=
  match a with
  | .inl l => noRoL l
  | .inr l => l.all noRoL

def noRoV {ty : Nat → Type} (v : V ty) : Bool :=
  match v with
  | .inl a => noRoA a
  | .inr (.inl l) => l.all noRoA
  | _ => false

theorem noRoL_res {w : World} {S S' : Nat → Prop} {l : L cx.ty} {u : Value} {f : List Nat} (hn : noRoL l = true) (h : ResL cx w S l u f) : ResL cx w S' l u f := by
  match l, h, hn with
  | some (.inl v), h, _ => exact h
  | some (.inr s), h, hn =>
    have : s.own = 2 := by simpa [noRoL] using hn
    unfold ResL at h ⊢
    simp only [this, if_true] at h ⊢
    exact h

theorem noRoA_res {w : World} {S S' : Nat → Prop} {l : A cx.ty} {u : Value} {f : List Nat} (hn : noRoA l = true) (h : ResA cx w S l u f) : ResA cx w S' l u f := by
  match l, h, hn with
  | .inl l, h, hn => exact noRoL_res hn h
  | .inr l, ⟨us, fps, hu, hf, h⟩, hn => exact ⟨us, fps, hu, hf, h.1, h.2.1, fun j a b f' e1 e2 e3 => noRoL_res (by
      have := List.all_eq_true.1 hn a (List.mem_of_getElem? e1)
      exact this) (h.2.2 j a b f' e1 e2 e3)⟩

theorem noRoV_res {w : World} {A0 A1 NN : Nat → Prop} {r : V cx.ty} {u : Value} (hn : noRoV r = true) (h : ResV cx w A0 NN r u) : ResV cx w A1 NN r u := by
  obtain ⟨fp, h1, h2, h⟩ := h
  refine ⟨fp, h1, h2, ?_⟩
  match r, h, hn with
  | .inl a, h, hn => exact noRoA_res hn h
  | .inr (.inl l), ⟨us, fps, hu, hf, h⟩, hn => exact ⟨us, fps, hu, hf, h.1, h.2.1, fun j a b f' e1 e2 e3 => noRoA_res (List.all_eq_true.1 hn a (List.mem_of_getElem? e1)) (h.2.2 j a b f' e1 e2 e3)⟩
  | .inr (.inr _), h, _ => exact h.elim

/-! ### The call of a function by its contract -/
/-- A call of f with what stands for its arguments. -/
def evCallV {β : Type} (P : Program) (Kc : FuncId → Option (List (A cx.ty) → Option (Bool × V cx.ty))) (f : FuncId) (vs : List (V cx.ty)) (ts : List TypeId) (nm0 : Nat) (k : Eff cx.ty → Option β) : Option β :=
  match Kc f, P.funcs[f]?, argVs P cx ts vs with
  | some F, some fn, some (as, rd) => if fn.body.isSome && fn.name != "runtime.NumGoroutine" then
      match F as with
      | some (pre, r) => bif pre then (if fitsV r && (rd.isEmpty || noRoV r) then k (purR (bindV nm0 r) rd) else none) else none
      | none => none
    else none
  | _, _, _ => none

def evCall {β : Type} (P : Program) (Kc : FuncId → Option (List (A cx.ty) → Option (Bool × V cx.ty))) (slots : List (V cx.ty)) (f : FuncId) (args : List Operand) (ts : List TypeId) (nm0 : Nat) (k : Eff cx.ty → Option β) : Option β :=
  evCallV P Kc f (args.map (getV slots)) ts nm0 k

def KOk (P : Program) (cx : Cx) (Kc : FuncId → Option (List (A cx.ty) → Option (Bool × V cx.ty))) : Prop := ∀ f F, Kc f = some F → Sat P cx f F

theorem evCallV_ok (ok : cx.Ok) {β : Type} {o : Oper} {slots : List (V cx.ty)} {nm0 : Nat} {f : FuncId} {vs : List (V cx.ty)} {ts : List TypeId} {Kc : FuncId → Option (List (A cx.ty) → Option (Bool × V cx.ty))} (hK : KOk P cx Kc)
    (hv : ∀ (c : Ct cx.ty) (ρ : Operand → Value), (∀ x ∈ o.op.operands, RepV cx c (getV slots x) (ρ x)) → ∃ us : List Value, us.length = vs.length ∧ (∀ (j : Nat) a u, vs[j]? = some a → us[j]? = some u → RepV cx c a u) ∧
      ∀ fn, P.funcs[f]? = some fn → fn.body ≠ none → ¬ fn.name = "runtime.NumGoroutine" → (execOp ρ o).run P c.w = .ok (.enter f us.toArray) c.w)
    {k : Eff cx.ty → Option β} {r : β}
    (h : evCallV P Kc f vs ts nm0 k = some r) : ∃ ef, k ef = some r ∧ EffOK P cx o slots nm0 ef := by
  unfold evCallV at h
  split at h
  · rename_i F fn as rd hKf hfn hargs
    split at h
    · rename_i hc
      simp only [Bool.and_eq_true, bne_iff_ne, ne_eq] at hc
      obtain ⟨hbody, hname⟩ := hc
      split at h
      · rename_i pre res hF
        cases pre with
        | false => simp at h
        | true =>
          simp only [cond_true] at h
          split at h
          · rename_i hfit
            simp only [Bool.and_eq_true, Bool.or_eq_true] at hfit
            obtain ⟨hfit, hro⟩ := hfit
            refine ⟨_, h, ⟨fun c ρ hw hop _ hrd hf => ?_⟩⟩
            obtain ⟨us, hul, hur, hue⟩ := hv c ρ hop
            have harep := argVs_rep ok hw ts _ as rd us hargs hul hur hrd
            unfold Runs
            have hrun : (execOp ρ o).run P c.w = .ok (.enter f us.toArray) c.w := hue fn hfn (fun hbb => by simp [hbb] at hbody) hname
            rw [hrun]
            have hcase : ∃ A0 : Nat → Prop, (∀ b, A0 b → b < c.w.heap.size) ∧ ArgAs cx c.w A0 as (us) ∧ ((∀ b, A0 b → Rd c b) ∨ noRoV res = true) := by
              rcases hro with hro | hro
              · have : rd = [] := by simpa using hro
                exact ⟨Rd c, fun b hb => hb.1, harep.2 this, .inl fun _ h => h⟩
              · exact ⟨All c, fun b hb => hb.1, harep.1, .inr hro⟩
            obtain ⟨A0, hA0, hargs', hmode⟩ := hcase
            have hcall := hK f F hKf c.w A0 as (us) res hA0 hargs' hF
            refine hcall.mono fun e w' ⟨u, he, hb, hres⟩ => ⟨u, he, ?_⟩
            have hres' : ∃ A1 : Nat → Prop, ResV cx w' A1 (fun b => c.w.heap.size ≤ b) res u ∧ (∀ b, A1 b → Rd c b) := by
              rcases hmode with hm | hm
              · exact ⟨A0, hres, hm⟩
              · exact ⟨fun _ => False, noRoV_res hm hres, fun _ h => h.elim⟩
            obtain ⟨A1, hres', hA1⟩ := hres'
            obtain ⟨fp, N, hnd, hbd, hN⟩ := hres'.bind nm0 hfit
            have hbdN : ∀ tk ∈ N, ∀ b ∈ vb tk.u ++ tk.fp, c.w.heap.size ≤ b ∧ b < w'.heap.size := fun tk ht b hb' => hbd b (by rw [← hN.fp]; exact List.mem_flatMap.2 ⟨tk, ht, hb'⟩)
            have hbase : ∀ b, c.w.heap.size ≤ b → c.N b := by exact hw.size
            have hp := pres_add (v := bindV nm0 res) (r := rd) hw hb hbdN
            have hSR : ∀ b, A1 b ∨ (c.w.heap.size ≤ b ∧ b < w'.heap.size ∧ b ∉ fp) → Rd (c.nx (purR (bindV nm0 res) rd) w' (N ++ c.T)) b := fun b hb' => by
              rcases hb' with hb' | ⟨hb1, hb2, hb3⟩
              · exact (hp.rd b (hA1 b hb')).1
              · refine ⟨hb2, .inr (by show c.N b; exact hbase b (by omega)), fun tk ht hv => ?_⟩
                rcases List.mem_append.1 ht with ht | ht
                · exact hb3 (by rw [← hN.fp]; exact List.mem_flatMap.2 ⟨tk, ht, List.mem_append.2 (.inl hv)⟩)
                · have := (hw.bound tk ht b (List.mem_append.2 (.inl hv))).2
                  omega
            refine ⟨N ++ c.T, good_add hw hb hbase hN.nm hN.nd (by rw [hN.fp]; exact hnd) hbdN hf (fun tk ht => (hN.tok tk ht).2 _ rfl hSR) (hN.rep _ rfl (fun tk ht => ⟨List.mem_append.2 (.inl ht), ?_, ?_⟩) hSR)⟩
            · intro hd
              exact hf _ (.inr (.inl hd)) (hN.nm tk ht)
            · intro hd
              exact hf _ (.inr (.inr hd)) (hN.nm tk ht)
          · simp at h
      · simp at h
    · simp at h
  · simp at h

theorem evCall_ok (ok : cx.Ok) {β : Type} {o : Oper} {slots : List (V cx.ty)} {nm0 : Nat} {f : FuncId} {xf : Operand} (hxf : getV slots xf = vv (.func (.func f) #[] #[])) {args : Array Operand} {ts : Array TypeId} {Kc : FuncId → Option (List (A cx.ty) → Option (Bool × V cx.ty))} (hK : KOk P cx Kc)
    (ho : o.op = .call { callee := .value xf, args := args, argTypes := ts }) {k : Eff cx.ty → Option β} {r : β}
    (h : evCall P Kc slots f args.toList ts.toList nm0 k = some r) : ∃ ef, k ef = some r ∧ EffOK P cx o slots nm0 ef := by
  refine evCallV_ok ok hK (fun c ρ hop => ⟨args.toList.map ρ, by simp, fun j a u h1 h2 => ?_, fun fn hfn hb hname => ?_⟩) h
  · simp only [List.getElem?_map] at h1 h2
    cases hx : args.toList[j]? with
    | none => simp [hx] at h1
    | some x =>
      simp only [hx, Option.map_some, Option.some.injEq] at h1 h2
      subst h1; subst h2
      exact hop x (by
        have : x ∈ args := by simpa using List.mem_of_getElem? hx
        simp [ho, Op.operands, Call.operands, this])
  · have hfv := hop xf (by simp [ho, Op.operands, Call.operands])
    rw [hxf] at hfv
    have hfv : ρ xf = .func (.func f) #[] #[] := hfv
    have hargsEq : (args.toList.map ρ).toArray = args.map ρ := Array.ext' (by simp)
    rw [hargsEq]
    unfold execOp
    simp [ho, resolve, Deferred.ofValue, invoke, callFunc, hfv, hfn, hb, hname]

/-- A call by a method value. -/
def evCallM {β : Type} (P : Program) (Kc : FuncId → Option (List (A cx.ty) → Option (Bool × V cx.ty))) (slots : List (V cx.ty)) (p : Pt cx.ty) (args : List Operand) (ts : List TypeId) (nm0 : Nat) (k : Eff cx.ty → Option β) : Option β :=
  match p.kind, p.nm, recvE P (p.nm - 1) with
  | 2, f + 1, some e => if p.off == 0 && p.i == 0 then evCallV P Kc f (.inr (.inr { p with nm := 0 }) :: args.map (getV slots)) (e :: ts) nm0 k else none
  | _, _, _ => none

theorem evCallM_ok (ok : cx.Ok) {β : Type} {o : Oper} {slots : List (V cx.ty)} {nm0 : Nat} {xf : Operand} {p : Pt cx.ty} (hxf : getV slots xf = .inr (.inr p)) {args : Array Operand} {ts : Array TypeId} {Kc : FuncId → Option (List (A cx.ty) → Option (Bool × V cx.ty))} (hK : KOk P cx Kc)
    (ho : o.op = .call { callee := .value xf, args := args, argTypes := ts }) {k : Eff cx.ty → Option β} {r : β}
    (h : evCallM P Kc slots p args.toList ts.toList nm0 k = some r) : ∃ ef, k ef = some r ∧ EffOK P cx o slots nm0 ef := by
  unfold evCallM at h
  split at h
  · rename_i f e hk hnm he
    split at h
    · rename_i hc
      simp only [Bool.and_eq_true, beq_iff_eq] at hc
      refine evCallV_ok ok hK (fun c ρ hop => ?_) h
      have hfv := hop xf (by simp [ho, Op.operands, Call.operands])
      rw [hxf] at hfv
      have hfv : RepP cx c p (ρ xf) := hfv
      unfold RepP at hfv
      simp only [hk, hnm, hc.1] at hfv
      obtain ⟨b, o2, hu, hel⟩ := hfv
      have hu : ρ xf = .func (.func f) #[.pointer (some ⟨b, o2 + 0, none⟩)] #[] := hu
      refine ⟨.pointer (some ⟨b, o2 + 0, none⟩) :: args.toList.map ρ, by simp, fun j a u h1 h2 => ?_, fun fn hfn hb hname => ?_⟩
      · cases j with
        | zero =>
          simp only [List.getElem?_cons_zero, Option.some.injEq] at h1 h2
          subst h1; subst h2
          show RepP cx c { p with nm := 0 } _
          unfold RepP
          simp only [hk, hc.1]
          exact ⟨b, o2, rfl, hel⟩
        | succ j =>
          simp only [List.getElem?_cons_succ, List.getElem?_map] at h1 h2
          cases hx : args.toList[j]? with
          | none => simp [hx] at h1
          | some x =>
            simp only [hx, Option.map_some, Option.some.injEq] at h1 h2
            subst h1; subst h2
            exact hop x (by
              have : x ∈ args := by simpa using List.mem_of_getElem? hx
              simp [ho, Op.operands, Call.operands, this])
      · have hargsEq : (Value.pointer (some ⟨b, o2 + 0, none⟩) :: args.toList.map ρ).toArray = #[Value.pointer (some ⟨b, o2 + 0, none⟩)] ++ args.map ρ := Array.ext' (by simp)
        rw [hargsEq]
        unfold execOp
        simp [ho, resolve, Deferred.ofValue, invoke, callFunc, hu, hfn, hb, hname]
    · simp at h
  · simp at h

end
end Go.VM

namespace Go.VM
open Go.RowKit
section
variable {cx : Cx} {P : Program}

def blocks (tk : Tk cx.ty) : List Nat := vb tk.u ++ tk.fp

theorem disjoint_toks {c : Ct cx.ty} (h : Wf cx c) {t1 t2 : Tk cx.ty} (h1 : t1 ∈ c.T) (h2 : t2 ∈ c.T) (hne : t1.nm ≠ t2.nm) {b : Nat} (hb1 : b ∈ blocks t1) (hb2 : b ∈ blocks t2) : False := by
  obtain ⟨l1, l2, hl⟩ := List.append_of_mem h1
  have hn := h.nodup
  rw [hl] at hn h2
  simp only [List.flatMap_append, List.flatMap_cons] at hn
  rcases List.mem_append.1 h2 with h3 | h3
  · exact (List.nodup_append.1 hn).2.2 b (List.mem_flatMap.2 ⟨t2, h3, hb2⟩) b (List.mem_append.2 (.inl hb1)) rfl
  · rcases List.mem_cons.1 h3 with h3 | h3
    · exact hne (by rw [h3])
    · exact (List.nodup_append.1 (List.nodup_append.1 hn).2.1).2.2 b hb1 b (List.mem_flatMap.2 ⟨t2, h3, hb2⟩) rfl

theorem flatten_nil {fps : List (List Nat)} (h : ∀ f ∈ fps, f = []) : List.flatten fps = [] := by
  induction fps with
  | nil => rfl
  | cons a r ih => rw [List.flatten_cons, h a (List.mem_cons_self ..), ih (fun f hf => h f (List.mem_cons_of_mem _ hf))]; rfl

def ptrV {ty : Nat → Type} (nm : Nat) (cells : List (L ty)) (off : Nat) : V ty := .inr (.inr { kind := 0, nm := nm, cells := cells, s := ro 0 [], i := 0, off := off })

theorem below_alloc (w : World) (o : Obj) : Below w.heap.size w (w.alloc o) := (Below.refl _ _).alloc (Nat.le_refl _) o

/-- A new variable of its own. -/
theorem good_box {c : Ct cx.ty} (h : Wf cx c) {nm0 : Nat} (hf : ∀ n, Nm c n → ¬ (nm0 ≤ n ∧ n < nm0 + 64)) {cells : List (L cx.ty)} {us : Array Value} {t : TypeId} {r : List Nat} (hc : RepLs cx c cells us.toList) :
    Good cx c (purR (ptrV nm0 cells 0) r) nm0 (.pointer (some ⟨c.w.heap.size, 0, none⟩)) (c.w.alloc (.cells us t)) ([{ nm := nm0, u := .pointer (some ⟨c.w.heap.size, 0, none⟩), fp := [], c := .inr cells }] ++ c.T) := by
  have hb := below_alloc c.w (.cells us t)
  have hbd : ∀ tk ∈ [({ nm := nm0, u := .pointer (some ⟨c.w.heap.size, 0, none⟩), fp := [], c := .inr cells } : Tk cx.ty)], ∀ b ∈ vb tk.u ++ tk.fp, c.w.heap.size ≤ b ∧ b < (c.w.alloc (.cells us t)).heap.size := by
    intro tk ht b hb'
    simp only [List.mem_singleton] at ht
    subst ht
    simp [vb] at hb'
    subst hb'
    simp
  have hp := pres_add (v := ptrV nm0 cells 0) (r := r) h hb hbd
  refine good_add h hb h.size (by simp) (by simp) (by simp [vb]) hbd hf (fun tk ht => ?_) ?_
  · simp only [List.mem_singleton] at ht
    subst ht
    exact ⟨rfl, c.w.heap.size, us, t, rfl, heap_alloc_new c.w _, hc.pres cx hp⟩
  · exact ⟨_, List.mem_append.2 (.inl (List.mem_singleton.2 rfl)), rfl, rfl, c.w.heap.size, rfl, rfl⟩

theorem lv_rep {c : Ct cx.ty} (us : List Value) : RepLs cx c (us.map lv) us := by
  refine ⟨by simp, fun j a u h1 h2 => ?_⟩
  rw [List.getElem?_map, h2] at h1
  simp only [Option.map_some, Option.some.injEq] at h1
  subst h1
  rfl

def evAlloc {β : Type} (P : Program) (t : TypeId) (nm0 : Nat) (k : Eff cx.ty → Option β) : Option β :=
  match P.info? t with
  | some i => match i.zero with
    | some z => k (purR (ptrV nm0 (z.cells.toList.map lv) 0) [])
    | none => none
  | none => none

theorem evAlloc_ok {β : Type} {o : Oper} {slots : List (V cx.ty)} {nm0 : Nat} {t : TypeId} (ho : o.op = .alloc t) {k : Eff cx.ty → Option β} {r : β}
    (h : evAlloc P t nm0 k = some r) : ∃ ef, k ef = some r ∧ EffOK P cx o slots nm0 ef := by
  unfold evAlloc at h
  split at h
  · rename_i i hi
    split at h
    · rename_i z hz
      refine ⟨_, h, ⟨fun c ρ hw hop _ _ hf => ?_⟩⟩
      have hrun : (execOp ρ o).run P c.w = .ok (.value (.pointer (some ⟨c.w.heap.size, 0, none⟩))) (c.w.alloc (.cells z.cells t)) := by
        unfold execOp
        simp [ho, Instr.alloc, zeroValue, typeInfo, hi, hz, newVar, newRow]
      unfold Runs
      rw [hrun]
      exact ⟨_, good_box hw hf (lv_rep z.cells.toList)⟩
    · simp at h
  · simp at h

def leafOk {ty : Nat → Type} : L ty → Bool
  | none => false
  | some (.inl (.agg _)) => false
  | some (.inl (.tuple _)) => false
  | _ => true

def cellsV {ty : Nat → Type} (v : V ty) : Option (List (L ty)) :=
  match v with
  | .inl (.inl l) => if leafOk l then some [l] else none
  | .inl (.inr l) => some l
  | _ => none

theorem leafOk_cells {c : Ct cx.ty} {l : L cx.ty} {u : Value} (h : RepLS cx c l u) (ho : leafOk l = true) : u.cells = #[u] := by
  match l, h, ho with
  | some (.inl v), h, ho =>
    have h : u = v := h
    subst h
    cases u <;> first | rfl | (simp [leafOk] at ho)
  | some (.inr s), h, _ =>
    have : ∃ a n cap, u = .slice a n cap := by
      unfold RepLS at h
      by_cases h1 : s.own = 1
      · simp only [h1, if_true] at h
        exact h.1
      · simp only [h1, if_false] at h
        obtain ⟨n, h⟩ := h
        obtain ⟨a, cap, hu⟩ := RepL_slice h
        exact ⟨a, _, cap, hu⟩
    obtain ⟨a, n, cap, rfl⟩ := this
    rfl

theorem cellsV_rep {c : Ct cx.ty} {v : V cx.ty} {u : Value} (h : RepV cx c v u) {l : List (L cx.ty)} (hl : cellsV v = some l) : RepLs cx c l u.cells.toList := by
  match v, h, hl with
  | .inl (.inl x), h, hl =>
    simp only [cellsV] at hl
    split at hl
    · rename_i ho
      simp only [Option.some.injEq] at hl
      subst hl
      have h : RepLS cx c x u := h
      rw [leafOk_cells h ho]
      refine ⟨rfl, fun j a b h1 h2 => ?_⟩
      cases j with
      | zero =>
        simp at h1 h2
        subst h1; subst h2
        exact h
      | succ j => simp at h1
    · simp at hl
  | .inl (.inr x), ⟨us, hu, h'⟩, hl =>
    simp only [cellsV, Option.some.injEq] at hl
    subst hl
    rw [hu]
    simpa [Value.cells] using h'

def evBox {β : Type} (slots : List (V cx.ty)) (x : Operand) (nm0 : Nat) (k : Eff cx.ty → Option β) : Option β :=
  match cellsV (getV slots x) with
  | some l => k (purR (ptrV nm0 l 0) [])
  | none => none

theorem evBox_ok {β : Type} {o : Oper} {slots : List (V cx.ty)} {nm0 : Nat} {t : TypeId} {x : Operand} (ho : o.op = .box t x) {k : Eff cx.ty → Option β} {r : β}
    (h : evBox slots x nm0 k = some r) : ∃ ef, k ef = some r ∧ EffOK P cx o slots nm0 ef := by
  unfold evBox at h
  split at h
  · rename_i l hl
    refine ⟨_, h, ⟨fun c ρ hw hop _ _ hf => ?_⟩⟩
    have hr := cellsV_rep (hop x (by simp [ho, Op.operands])) hl
    have hrun : (execOp ρ o).run P c.w = .ok (.value (.pointer (some ⟨c.w.heap.size, 0, none⟩))) (c.w.alloc (.cells (ρ x).cells t)) := by
      unfold execOp
      simp [ho, Instr.box, newVar, newRow]
    unfold Runs
    rw [hrun]
    exact ⟨_, good_box hw hf hr⟩
  · simp at h

/-! ### Pieces put into a row of cells -/
def splice {α : Type} (l : List α) (off : Nat) (p : List α) : List α := l.take off ++ p ++ l.drop (off + p.length)

theorem splice_get {α : Type} {l p : List α} {off : Nat} (h : off + p.length ≤ l.length) (j : Nat) : (splice l off p)[j]? = if off ≤ j ∧ j < off + p.length then p[j - off]? else l[j]? := by
  unfold splice
  have hto : (l.take off).length = off := by simp; omega
  by_cases h1 : j < off
  · rw [if_neg (by omega), List.append_assoc, List.getElem?_append_left (by omega), List.getElem?_take, if_pos h1]
  · by_cases h2 : j < off + p.length
    · rw [if_pos ⟨by omega, h2⟩, List.append_assoc, List.getElem?_append_right (by omega), List.getElem?_append_left (by omega), hto]
    · rw [if_neg (by omega), List.getElem?_append_right (by simp; omega), List.getElem?_drop]
      congr 1
      simp
      omega

theorem splice_len {α : Type} {l p : List α} {off : Nat} (h : off + p.length ≤ l.length) : (splice l off p).length = l.length := by
  unfold splice
  simp
  omega

theorem RepLs.splice {c : Ct cx.ty} {l p : List (L cx.ty)} {us vs : List Value} (h1 : RepLs cx c l us) (h2 : RepLs cx c p vs) {off : Nat} (ho : off + p.length ≤ l.length) : RepLs cx c (splice l off p) (splice us off vs) := by
  have ho' : off + vs.length ≤ us.length := by rw [h1.1, h2.1]; exact ho
  refine ⟨by rw [splice_len ho, splice_len ho', h1.1], fun j a u e1 e2 => ?_⟩
  rw [splice_get ho] at e1
  rw [splice_get ho', h2.1] at e2
  split at e1
  · rename_i hj
    rw [if_pos hj] at e2
    exact h2.2 _ a u e1 e2
  · rename_i hj
    rw [if_neg hj] at e2
    exact h1.2 _ a u e1 e2

theorem foldl_set (off : Nat) : ∀ (l : List Value) (k : Nat) (cs : Array Value), off + k + l.length ≤ cs.size →
    ((l.zipIdx k).foldl (fun cs (p : Value × Nat) => cs.setIfInBounds (off + p.2) p.1) cs).toList = VM.splice cs.toList (off + k) l
  | [], k, cs, _ => by simp [VM.splice]
  | v :: r, k, cs, h => by
    simp only [List.length_cons] at h
    simp only [List.zipIdx_cons, List.foldl_cons]
    rw [foldl_set off r (k + 1) _ (by simp; omega)]
    apply List.ext_getElem?
    intro j
    rw [splice_get (by simp; omega), splice_get (by simp; omega)]
    simp only [Array.toList_setIfInBounds, List.length_cons]
    by_cases h1 : off + (k + 1) ≤ j ∧ j < off + (k + 1) + r.length
    · rw [if_pos h1, if_pos ⟨by omega, by omega⟩, show j - (off + k) = (j - (off + (k + 1))) + 1 by omega, List.getElem?_cons_succ]
    · rw [if_neg h1]
      by_cases h2 : j = off + k
      · subst h2
        rw [if_pos ⟨by omega, by omega⟩, Nat.sub_self, List.getElem?_cons_zero, List.getElem?_set_self (by simp; omega)]
      · rw [if_neg (by omega), List.getElem?_set_ne (by omega)]

def fillA {ty : Nat → Type} (place : Nat → Option (Nat × Nat)) (cells : List (L ty)) : List (Nat × V ty) → Option (List (L ty))
  | [] => some cells
  | (i, v) :: rest => match place i, cellsV v with
    | some (off, size), some l => if l.length == size && decide (off + l.length ≤ cells.length) then fillA place (splice cells off l) rest else none
    | _, _ => none

theorem fillA_rep {c : Ct cx.ty} {place : Nat → Option (Nat × Nat)} : ∀ (parts : List (Nat × V cx.ty)) (vals : List (Nat × Value)) (cells : List (L cx.ty)) (us : Array Value) (cells' : List (L cx.ty)), RepLs cx c cells us.toList →
    parts.length = vals.length → (∀ (j : Nat) p q, parts[j]? = some p → vals[j]? = some q → p.1 = q.1 ∧ RepV cx c p.2 q.2) → fillA place cells parts = some cells' → ∃ us', Instr.fill place us vals = some us' ∧ RepLs cx c cells' us'.toList
  | [], [], cells, us, cells', h, _, _, hf => by
    simp only [fillA, Option.some.injEq] at hf
    subst hf
    exact ⟨us, rfl, h⟩
  | [], _ :: _, _, _, _, _, hl, _, _ => by simp at hl
  | _ :: _, [], _, _, _, _, hl, _, _ => by simp at hl
  | (i, v) :: r, (i', u) :: r', cells, us, cells', h, hl, hp, hf => by
    obtain ⟨hi, hr⟩ := hp 0 (i, v) (i', u) rfl rfl
    have hi : i = i' := hi
    subst hi
    simp only [fillA] at hf
    split at hf
    · rename_i off size l e1 e2
      split at hf
      · rename_i hc
        simp only [Bool.and_eq_true, beq_iff_eq, decide_eq_true_eq] at hc
        obtain ⟨hs, hb⟩ := hc
        have hcv := cellsV_rep hr e2
        have hlen : u.cells.size = l.length := by simpa using hcv.1
        have hus : us.size = cells.length := by simpa using h.1
        have hset : (u.cells.zipIdx.foldl (fun cs (p : Value × Nat) => cs.setIfInBounds (off + p.2) p.1) us).toList = VM.splice us.toList off u.cells.toList := by
          have := foldl_set off u.cells.toList 0 us (by simp; omega)
          rw [← Array.foldl_toList]
          simpa [Array.toList_zipIdx] using this
        have hrep : RepLs cx c (splice cells off l) (u.cells.zipIdx.foldl (fun cs (p : Value × Nat) => cs.setIfInBounds (off + p.2) p.1) us).toList := by
          rw [hset]
          exact h.splice hcv hb
        obtain ⟨us', h1, h2⟩ := fillA_rep r r' _ _ cells' hrep (by simpa using hl) (fun j p q e3 e4 => hp (j + 1) p q (by simpa using e3) (by simpa using e4)) hf
        refine ⟨us', ?_, h2⟩
        simp only [Instr.fill, e1]
        rw [if_neg (by simp; omega)]
        exact h1
      · simp at hf
    · simp at hf

theorem run_mapM {α β : Type} {g : α → Sem β} {h : α → β} {w : World} : ∀ (l : List α), (∀ x ∈ l, (g x).run P w = .ok (h x) w) → (l.mapM g).run P w = .ok (l.map h) w
  | [], _ => by simp
  | x :: r, hx => by
    simp only [List.mapM_cons, Sem.run_bind, hx x (List.mem_cons_self ..), Result.andThen_ok, run_mapM r (fun y hy => hx y (List.mem_cons_of_mem _ hy)), Sem.run_pure, List.map_cons]

theorem run_build {t : TypeId} {fa : Array Field} (hfa : P.underlying t = some (.struct fa)) (hall : ∀ f ∈ fa.toList, ∃ d, P.underlying f.type = some d) {i : TypeInfo} {z : Value} (hi : P.info? t = some i) (hz : i.zero = some z) {parts : Array (Nat × Value)} {us' : Array Value}
    (hfill : Instr.fill (fun j => (fa.toList[j]?).map (fun f => (f.offset, P.cellsOf f.type))) z.cells parts.toList = some us') (w : World) : (Instr.build t parts).run P w = .ok (.agg us') w := by
  have hmap : (fa.mapM fun f : Field => (do let n ← sizeOf f.type; pure (f.offset, n) : Sem (Nat × Nat))).run P w = .ok ((fa.toList.map fun f => (f.offset, P.cellsOf f.type)).toArray) w := by
    rw [show fa = fa.toList.toArray by simp, List.mapM_toArray, Sem.run_map]
    rw [run_mapM (P := P) (w := w) (h := fun f => (f.offset, P.cellsOf f.type)) fa.toList (fun f hf => by
      obtain ⟨d, hd⟩ := hall f hf
      simp only [Sem.run_bind, run_sizeOf' hd, Result.andThen_ok, Sem.run_pure])]
    simp
  have hz' : (zeroValue t).run P w = .ok z w := by simp [zeroValue, typeInfo, hi, hz]
  have hfun : (fun j : Nat => ((fa.toList.map fun f => (f.offset, P.cellsOf f.type)).toArray)[j]?) = (fun j => (fa.toList[j]?).map (fun f => (f.offset, P.cellsOf f.type))) := by
    funext j; simp
  unfold Instr.build
  rw [Sem.run_bind, hz', Result.andThen_ok, Sem.run_bind, run_underlying hfa, Result.andThen_ok]
  dsimp only
  rw [Sem.run_bind, hmap, Result.andThen_ok, hfun, hfill]
  rfl

def structFields (P : Program) (t : TypeId) : Option (List Field) :=
  match P.underlying t with
  | some (.struct fs) => if fs.toList.all (fun f => (P.underlying f.type).isSome) then some fs.toList else none
  | _ => none

def evBuild {β : Type} (P : Program) (slots : List (V cx.ty)) (t : TypeId) (parts : List (Nat × Operand)) (k : Eff cx.ty → Option β) : Option β :=
  match structFields P t, P.info? t with
  | some fs, some i => match i.zero with
    | some z => match fillA (fun j => (fs[j]?).map (fun f => (f.offset, P.cellsOf f.type))) (z.cells.toList.map lv) (parts.map fun (j, x) => (j, getV slots x)) with
      | some cells => k (purR (va cells) [])
      | none => none
    | none => none
  | _, _ => none

theorem evBuild_ok {β : Type} {o : Oper} {slots : List (V cx.ty)} {nm0 : Nat} {t : TypeId} {parts : Array (Nat × Operand)} (ho : o.op = .build t parts) {k : Eff cx.ty → Option β} {r : β}
    (h : evBuild P slots t parts.toList k = some r) : ∃ ef, k ef = some r ∧ EffOK P cx o slots nm0 ef := by
  unfold evBuild at h
  split at h
  · rename_i fs i hfs hi
    split at h
    · rename_i z hz
      split at h
      · rename_i cells hcells
        unfold structFields at hfs
        split at hfs
        · rename_i fa hfa
          split at hfs
          · rename_i hall
            simp only [Option.some.injEq] at hfs
            subst hfs
            refine ⟨_, h, effok_pur fun c ρ hw hop _ => ?_⟩
            obtain ⟨us', h1, h2⟩ := fillA_rep (parts.toList.map fun p => (p.1, getV slots p.2)) (parts.toList.map fun p => (p.1, ρ p.2)) (z.cells.toList.map lv) z.cells cells (lv_rep _) (by simp) (fun j p q e1 e2 => by
              simp only [List.getElem?_map] at e1 e2
              cases hx : parts.toList[j]? with
              | none => simp [hx] at e1
              | some x =>
                simp only [hx, Option.map_some, Option.some.injEq] at e1 e2
                subst e1; subst e2
                refine ⟨rfl, hop x.2 ?_⟩
                simp only [ho, Op.operands, List.mem_toArray, List.mem_map]
                exact ⟨x, List.mem_of_getElem? hx, rfl⟩) hcells
            refine ⟨.agg us', ?_, us'.toList, by simp, h2⟩
            have hbuild := run_build hfa (fun f hf => Option.isSome_iff_exists.1 (List.all_eq_true.1 hall f hf)) hi hz (parts := parts.map fun p => (p.1, ρ p.2)) (us' := us') (by simpa using h1) c.w
            unfold execOp
            simp only [ho, Sem.run_bind]
            rw [hbuild]
            rfl
          · simp at hfs
        · simp at hfs
      · simp at h
    · simp at h
  · simp at h

end
end Go.VM

namespace Go.VM
open Go.RowKit
section
variable {cx : Cx} {P : Program}

/-- What the context says of the program's zero values. -/
structure Cx.POk (P : Program) (cx : Cx) : Prop where
  zero : ∀ e, cx.dom e = true → ∃ i z, P.info? e = some i ∧ i.zero = some z ∧ i.size = cx.size e ∧ i.bytes ≤ 100000 ∧ z.cells.size = cx.size e ∧ 0 < cx.size e ∧ z.cells.toList.map lv = cx.enc e true (cx.dflt e)
  u8 : ∀ e, cx.dom e = true → P.underlying e = some (.int .u8) → ∀ o x, ∃ n, cx.enc e o x = [lv (.int .u8 n)]

def flatVals (cx : Cx) (e : Nat) (xs : List (cx.ty e)) : List Value := (xs.flatMap (cx.enc e true)).filterMap leafVal

theorem lv_of_flat (ok : cx.Ok) {e : Nat} (hf : cx.flat e = true) (o : Bool) (xs : List (cx.ty e)) : ∀ l ∈ xs.flatMap (cx.enc e o), ∃ v, l = lv v ∧ v.oneCell' = true := by
  intro l hl
  obtain ⟨x, _, hx⟩ := List.mem_flatMap.1 hl
  obtain ⟨v, hv⟩ := ok.flat e o x hf l hx
  rcases ok.leaf e o x l hx with ⟨v', hv', h1⟩ | ⟨s, hs, _⟩
  · exact ⟨v', hv', h1⟩
  · rw [hv] at hs; simp at hs

theorem map_lv_filter {ty : Nat → Type} : ∀ (l : List (L ty)), (∀ x ∈ l, ∃ v, x = lv v) → l = (l.filterMap leafVal).map lv
  | [], _ => rfl
  | x :: r, h => by
    obtain ⟨v, hv⟩ := h x (List.mem_cons_self ..)
    have := map_lv_filter r (fun y hy => h y (List.mem_cons_of_mem _ hy))
    subst hv
    rw [List.filterMap_cons]
    simp only [lv, leafVal, List.map_cons]
    rw [← this]

theorem flat_same (ok : cx.Ok) {e : Nat} (hf : cx.flat e = true) (x : cx.ty e) : cx.enc e false x = cx.enc e true x := by
  rw [← ok.weak e true false x]
  have : ∀ l ∈ cx.enc e true x, weak false l = l := fun l hl => by
    obtain ⟨v, hv⟩ := ok.flat e true x hf l hl
    rw [hv]; rfl
  conv => rhs; rw [← List.map_id (cx.enc e true x)]
  exact List.map_congr_left this

theorem flat_enc (ok : cx.Ok) {e : Nat} (hf : cx.flat e = true) (o : Bool) (xs : List (cx.ty e)) : xs.flatMap (cx.enc e o) = (flatVals cx e xs).map lv := by
  have h1 : xs.flatMap (cx.enc e o) = xs.flatMap (cx.enc e true) := by
    cases o with
    | true => rfl
    | false =>
      have : cx.enc e false = cx.enc e true := funext (flat_same ok hf)
      rw [this]
  rw [h1]
  exact map_lv_filter _ (fun l hl => by obtain ⟨v, hv, _⟩ := lv_of_flat ok hf true xs l hl; exact ⟨v, hv⟩)

theorem flatVals_len (ok : cx.Ok) {e : Nat} (hf : cx.flat e = true) (xs : List (cx.ty e)) : (flatVals cx e xs).length = xs.length * cx.size e := by
  have := congrArg List.length (flat_enc ok hf true xs)
  rw [flat_len _ _ (fun x => ok.len e true x)] at this
  simpa using this.symm

theorem flatVals_one (ok : cx.Ok) {e : Nat} (hf : cx.flat e = true) (xs : List (cx.ty e)) : ∀ u ∈ flatVals cx e xs, u.oneCell' = true := by
  intro u hu
  have : lv u ∈ xs.flatMap (cx.enc e true) := by
    rw [flat_enc ok hf true xs]
    exact List.mem_map.2 ⟨u, hu, rfl⟩
  obtain ⟨v, hv, h1⟩ := lv_of_flat ok hf true xs _ this
  simp only [lv, Option.some.injEq, Sum.inl.injEq] at hv
  rw [hv]; exact h1

theorem own_flat (ok : cx.Ok) {w : World} {s : SlD cx.ty} (hf : cx.flat s.e = true) {u : Value} (h : w.ownsRow 0 s.e (cx.size s.e) u s.xs.length (flatVals cx s.e s.xs)) : OwnL cx w 1 (some (.inr s)) u u.ownBlock.toList := by
  have hen := flat_enc ok hf true s.xs
  refine ⟨flatVals cx s.e s.xs, List.replicate (flatVals cx s.e s.xs).length [], h, ?_, by rw [hen]; simp, by simp, fun j l c f h1 h2 h3 => ?_⟩
  · have : List.flatten (List.replicate (flatVals cx s.e s.xs).length ([] : List Nat)) = [] := flatten_nil' _
    rw [this]; simp
  · rw [hen, List.getElem?_map, h2] at h1
    simp only [Option.map_some, Option.some.injEq] at h1
    subst h1
    have : f = [] := by
      have := List.mem_of_getElem? h3
      exact (List.mem_replicate.1 this).2
    exact ⟨rfl, this⟩
where
  flatten_nil' : ∀ n, List.flatten (List.replicate n ([] : List Nat)) = []
    | 0 => rfl
    | n + 1 => by rw [List.replicate_succ, List.flatten_cons, flatten_nil' n]; rfl

theorem flat_of_own (ok : cx.Ok) {w : World} {n : Nat} {s : SlD cx.ty} (hf : cx.flat s.e = true) {u : Value} {fp : List Nat} (h : OwnL cx w n (some (.inr s)) u fp) : w.ownsRow 0 s.e (cx.size s.e) u s.xs.length (flatVals cx s.e s.xs) ∧ fp = u.ownBlock.toList := by
  cases n with
  | zero => simp [OwnL] at h
  | succ n =>
    obtain ⟨us, fpl, hrow, hfp, hl1, hl2, h⟩ := h
    have hen := flat_enc ok hf true s.xs
    have hus : us = flatVals cx s.e s.xs := by
      apply List.ext_getElem?
      intro j
      by_cases hj : j < us.length
      · have hjl : j < (flatVals cx s.e s.xs).length := by rw [hl1, hen] at hj; simpa using hj
        have h1 : (s.xs.flatMap (cx.enc s.e true))[j]? = some (lv (flatVals cx s.e s.xs)[j]) := by rw [hen]; simp [hjl]
        have h3 : fpl[j]? = some fpl[j] := List.getElem?_eq_getElem (by omega)
        have := h j _ us[j] _ h1 (List.getElem?_eq_getElem hj) h3
        rw [List.getElem?_eq_getElem hj, List.getElem?_eq_getElem hjl]
        cases n <;> (simp only [lv, OwnL] at this; rw [this.1])
      · rw [List.getElem?_eq_none (by omega), List.getElem?_eq_none (by rw [hl1, hen] at hj; simp at hj; omega)]
    have hnil : List.flatten fpl = [] := by
      have : ∀ f ∈ fpl, f = [] := fun f hf' => by
        obtain ⟨j, hj⟩ := List.getElem?_of_mem hf'
        have hjf : j < fpl.length := (List.getElem?_eq_some_iff.1 hj).1
        have hju : j < us.length := by omega
        have hjl : j < (flatVals cx s.e s.xs).length := by rw [← hus]; exact hju
        have h1 : (s.xs.flatMap (cx.enc s.e true))[j]? = some (lv (flatVals cx s.e s.xs)[j]) := by rw [hen]; simp [hjl]
        have := h j _ us[j] f h1 (List.getElem?_eq_getElem hju) hj
        cases n <;> (simp only [lv, OwnL] at this; exact this.2)
      exact flatten_nil this
    rw [hnil] at hfp
    subst hus
    exact ⟨hrow, by simpa using hfp⟩

def tokV {ty : Nat → Type} (nm e : Nat) (xs : List (ty e)) : V ty := vs { own := 1, nm := nm, e := e, o := true, xs := xs }

theorem repLS_tok {c : Ct cx.ty} {s : SlD cx.ty} {u : Value} {tk : Tk cx.ty} (h1 : s.own = 1) (hD : s.nm ∉ c.D) (hF : s.nm ∉ c.F) (ht : tk ∈ c.T) (hn : tk.nm = s.nm) (hc : tk.c = .inl s) (hu : tk.u = u) (hs : ∃ a n cap, u = .slice a n cap) : RepLS cx c (some (.inr s)) u := by
  unfold RepLS
  simp only [h1, if_true, hD, hF, if_false]
  exact ⟨hs, tk, ht, hn, hc, hu⟩

theorem rep_tok {c : Ct cx.ty} {nm e : Nat} {xs : List (cx.ty e)} {u : Value} (h : RepLS cx c (some (.inr { own := 1, nm := nm, e := e, o := true, xs := xs })) u) : RepV cx c (tokV nm e xs) u := h

/-- A new row of plain elements. -/
theorem good_row (ok : cx.Ok) {c : Ct cx.ty} (h : Wf cx c) {nm0 : Nat} (hf : ∀ n, Nm c n → ¬ (nm0 ≤ n ∧ n < nm0 + 64)) {e : Nat} (hflat : cx.flat e = true) {xs : List (cx.ty e)} {us : Array Value} {cap : Nat} {r : List Nat}
    (hcap : xs.length ≤ cap) (hm : cap ≤ maxLen) (hs : us.size = cap * cx.size e) (ht : us.toList.take (xs.length * cx.size e) = flatVals cx e xs) :
    ∃ T', Good cx c (purR (tokV nm0 e xs) r) nm0 (.slice (some ⟨c.w.heap.size, 0, none⟩) xs.length cap) (c.w.alloc (.cells us e)) T' := by
  have hb := below_alloc c.w (.cells us e)
  refine ⟨[{ nm := nm0, u := .slice (some ⟨c.w.heap.size, 0, none⟩) xs.length cap, fp := [], c := .inl { own := 1, nm := nm0, e := e, o := true, xs := xs } }] ++ c.T, ?_⟩
  have hbd : ∀ tk ∈ [({ nm := nm0, u := .slice (some ⟨c.w.heap.size, 0, none⟩) xs.length cap, fp := [], c := .inl { own := 1, nm := nm0, e := e, o := true, xs := xs } } : Tk cx.ty)], ∀ b ∈ vb tk.u ++ tk.fp, c.w.heap.size ≤ b ∧ b < (c.w.alloc (.cells us e)).heap.size := by
    intro tk ht b hb'
    simp only [List.mem_singleton] at ht
    subst ht
    simp [vb] at hb'
    subst hb'
    simp
  refine good_add h hb h.size (by simp) (by simp) (by simp [vb]) hbd hf (fun tk htk => ?_) ?_
  · simp only [List.mem_singleton] at htk
    subst htk
    have hrow : (c.w.alloc (.cells us e)).ownsRow 0 e (cx.size e) (.slice (some ⟨c.w.heap.size, 0, none⟩) xs.length cap) xs.length (flatVals cx e xs) :=
      ⟨flatVals_len ok hflat xs, .inr ⟨c.w.heap.size, cap, us, rfl, Nat.zero_le _, heap_alloc_new c.w _, hcap, hm, hs, ht⟩⟩
    refine ⟨rfl, 1, ?_⟩
    exact own_flat ok (s := { own := 1, nm := nm0, e := e, o := true, xs := xs }) hflat hrow
  · refine rep_tok (repLS_tok (s := { own := 1, nm := nm0, e := e, o := true, xs := xs }) rfl ?_ ?_ (List.mem_append.2 (.inl (List.mem_singleton.2 rfl))) rfl rfl rfl ⟨_, _, _, rfl⟩)
    · exact fun hd => hf _ (.inr (.inl hd)) ⟨Nat.le_refl _, by show nm0 < nm0 + 64; omega⟩
    · exact fun hd => hf _ (.inr (.inr hd)) ⟨Nat.le_refl _, by show nm0 < nm0 + 64; omega⟩

theorem flat_rep (ok : cx.Ok) {e : Nat} (hf : cx.flat e = true) (x : cx.ty e) : ∀ n, flatVals cx e (List.replicate n x) = List.flatten (List.replicate n (flatVals cx e [x]))
  | 0 => rfl
  | n + 1 => by
    rw [List.replicate_succ, List.replicate_succ, List.flatten_cons, ← flat_rep ok hf x n]
    simp [flatVals, List.flatMap_cons]

theorem flatten_rep_get {α : Type} (z : List α) (hz : 0 < z.length) : ∀ (n j : Nat), j < n * z.length → (List.flatten (List.replicate n z))[j]? = z[j % z.length]?
  | 0, j, h => by omega
  | n + 1, j, h => by
    rw [List.replicate_succ, List.flatten_cons]
    by_cases hj : j < z.length
    · rw [List.getElem?_append_left hj, Nat.mod_eq_of_lt hj]
    · rw [List.getElem?_append_right (by omega), flatten_rep_get z hz n (j - z.length) (by rw [Nat.add_mul] at h; omega)]
      congr 1
      rw [Nat.mod_eq_sub_mod (a := j) (by omega)]

theorem made_take {z : Array Value} {k n : Nat} (hz : 0 < z.size) (hk : k ≤ n) : (madeCells z (n * z.size)).toList.take (k * z.size) = List.flatten (List.replicate k z.toList) := by
  have hle : k * z.size ≤ n * z.size := Nat.mul_le_mul_right _ hk
  apply List.ext_getElem?
  intro j
  rw [List.getElem?_take]
  by_cases hj : j < k * z.size
  · rw [if_pos hj, flatten_rep_get z.toList (by simpa using hz) k j (by simpa using hj)]
    have hjn : j < n * z.size := by omega
    have hm : j % z.size < z.size := Nat.mod_lt _ hz
    simp [madeCells, hjn, hm]
  · rw [if_neg hj, List.getElem?_eq_none]
    have : ∀ k, (List.flatten (List.replicate k z.toList)).length = k * z.size := by
      intro k
      induction k with
      | zero => simp
      | succ k ih => rw [List.replicate_succ, List.flatten_cons, List.length_append, ih, Nat.add_mul]; simp; omega
    rw [this]; omega

def evMake {β : Type} (P : Program) (cx : Cx) (slots : List (V cx.ty)) (t : TypeId) (lo co : Operand) (nm0 : Nat) (k : Eff cx.ty → Option β) : Option β :=
  match getV slots lo, getV slots co, sliceElem P t with
  | .inl (.inl (some (.inl (.int _ l)))), .inl (.inl (some (.inl (.int _ c)))), some e =>
    if cx.flat e && cx.dom e then
      bif decide (0 ≤ l) && decide (l ≤ c) && decide (c ≤ 1000000000) then k (purR (tokV nm0 e (List.replicate l.toNat (cx.dflt e))) []) else none
    else none
  | _, _, _ => none

theorem evMake_ok (ok : cx.Ok) (hZ : cx.POk P) {β : Type} {o : Oper} {slots : List (V cx.ty)} {nm0 : Nat} {t : TypeId} {lo co : Operand} (ho : o.op = .makeSlice t lo co) {k : Eff cx.ty → Option β} {r : β}
    (h : evMake P cx slots t lo co nm0 k = some r) : ∃ ef, k ef = some r ∧ EffOK P cx o slots nm0 ef := by
  unfold evMake at h
  split at h
  · rename_i kl l kc cc e hl hc he
    split at h
    · rename_i hfd
      simp only [Bool.and_eq_true] at hfd
      obtain ⟨hflat, hdom⟩ := hfd
      cases hb : (decide (0 ≤ l) && decide (l ≤ cc) && decide (cc ≤ 1000000000)) with
      | false => rw [hb] at h; simp at h
      | true =>
        rw [hb] at h
        simp only [Bool.and_eq_true, decide_eq_true_eq] at hb
        obtain ⟨⟨h0, hlc⟩, hcm⟩ := hb
        refine ⟨_, h, ⟨fun c ρ hw hop _ _ hf => ?_⟩⟩
        have h1 := hop lo (by simp [ho, Op.operands]); rw [hl] at h1; have h1 : ρ lo = .int kl l := h1
        have h2 := hop co (by simp [ho, Op.operands]); rw [hc] at h2; have h2 : ρ co = .int kc cc := h2
        obtain ⟨i, z, hi, hz, hsz, hby, hzs, hpos, henc⟩ := hZ.zero e hdom
        have hbytes : (i.bytes : Int) * cc ≤ 281474976710656 := by
          have a1 : (i.bytes : Int) * cc ≤ 100000 * cc := Int.mul_le_mul_of_nonneg_right (by omega) (by omega)
          omega
        have hrun0 := run_make (P := P) c.w t e i z (sliceElem_eq he) hi hz kl kc l cc h0 hlc hbytes (by omega)
        have hrun : (execOp ρ o).run P c.w = .ok (.value (.slice (some ⟨c.w.heap.size, 0, none⟩) l.toNat cc.toNat)) (c.w.alloc (.cells (madeCells z.cells (cc.toNat * i.size)) e)) := by
          unfold execOp
          simp only [ho, h1, h2, Sem.run_bind, hrun0, Result.andThen_ok, Sem.run_pure]
        unfold Runs
        rw [hrun]
        have hdef : flatVals cx e [cx.dflt e] = z.cells.toList := by
          have a1 : [cx.dflt e].flatMap (cx.enc e true) = z.cells.toList.map lv := by simp [henc]
          unfold flatVals
          rw [a1]
          have : ∀ l : List Value, (l.map (lv (ty := cx.ty))).filterMap leafVal = l := by
            intro l
            induction l with
            | nil => rfl
            | cons a r ih =>
              show a :: List.filterMap leafVal (List.map lv r) = a :: r
              rw [ih]
          exact this _
        have hg := good_row ok hw hf hflat (xs := List.replicate l.toNat (cx.dflt e)) (us := madeCells z.cells (cc.toNat * i.size)) (cap := cc.toNat) (r := []) (by simp; omega) (by simp [maxLen]; omega) (by simp [size_madeCells, hsz]) (by
          rw [flat_rep ok hflat, hdef]
          simp only [List.length_replicate]
          rw [hsz, ← hzs]
          exact made_take (by rw [hzs]; exact hpos) (by omega))
        simpa using hg
    · simp at h
  · simp at h

/-- The cells of a literal before its parts are put in. -/
def zeroL {ty : Nat → Type} (z : Array Value) (n : Nat) : List (L ty) := ((Array.range n).map (z[· % z.size]!)).toList.map lv

def evBuildSlice {β : Type} (P : Program) (cx : Cx) (slots : List (V cx.ty)) (t : TypeId) (len : Nat) (parts : List (Nat × Operand)) (nm0 : Nat) (k : Eff cx.ty → Option β) : Option β :=
  match sliceElem P t with
  | some e => if cx.flat e && cx.dom e && elemOk P cx e && decide (len * cx.size e ≤ 1000000) then
      match P.info? e with
      | some i => match i.zero with
        | some z => match fillA (fun j => some (j * cx.size e, cx.size e)) (zeroL (if len * cx.size e = 0 then #[] else z.cells) (len * cx.size e)) (parts.map fun (j, x) => (j, getV slots x)) with
          | some cells => match decN cx e len cells with
            | some xs => k (purR (tokV nm0 e xs) [])
            | none => none
          | none => none
        | none => none
      | none => none
    else none
  | none => none

theorem evBuildSlice_ok (ok : cx.Ok) (hZ : cx.POk P) {β : Type} {o : Oper} {slots : List (V cx.ty)} {nm0 : Nat} {t : TypeId} {len : Nat} {parts : Array (Nat × Operand)} (ho : o.op = .buildSlice t len parts) {k : Eff cx.ty → Option β} {r : β}
    (h : evBuildSlice P cx slots t len parts.toList nm0 k = some r) : ∃ ef, k ef = some r ∧ EffOK P cx o slots nm0 ef := by
  unfold evBuildSlice at h
  split at h
  · rename_i e he
    split at h
    · rename_i hc
      simp only [Bool.and_eq_true, decide_eq_true_eq] at hc
      obtain ⟨⟨⟨hflat, hdom⟩, hel⟩, hlen⟩ := hc
      obtain ⟨⟨d, hd⟩, hcs⟩ := elemOk_spec hel
      obtain ⟨i, z, hi, hz, hsz, hby, hzs, hpos, henc⟩ := hZ.zero e hdom
      rw [hi] at h
      simp only [hz] at h
      split at h
      · rename_i cells hcells
        split at h
        · rename_i xs hxs
          refine ⟨_, h, ⟨fun c ρ hw hop _ _ hf => ?_⟩⟩
          obtain ⟨us', h1, h2⟩ := fillA_rep (c := c) (parts.toList.map fun p => (p.1, getV slots p.2)) (parts.toList.map fun p => (p.1, ρ p.2)) (zeroL (if len * cx.size e = 0 then #[] else z.cells) (len * cx.size e)) ((Array.range (len * cx.size e)).map ((if len * cx.size e = 0 then #[] else z.cells)[· % (if len * cx.size e = 0 then #[] else z.cells).size]!)) cells (lv_rep _) (by simp) (fun j p q e1 e2 => by
            simp only [List.getElem?_map] at e1 e2
            cases hx : parts.toList[j]? with
            | none => simp [hx] at e1
            | some x =>
              simp only [hx, Option.map_some, Option.some.injEq] at e1 e2
              subst e1; subst e2
              refine ⟨rfl, hop x.2 ?_⟩
              simp only [ho, Op.operands, List.mem_toArray, List.mem_map]
              exact ⟨x, List.mem_of_getElem? hx, rfl⟩) hcells
          obtain ⟨hxl, hxe⟩ := decN_spec ok true len cells xs hxs
          -- the cells are the elements' own
          have hus : us'.toList = flatVals cx e xs := by
            have hen := flat_enc ok hflat true xs
            rw [← hxe] at hen
            apply List.ext_getElem?
            intro j
            by_cases hj : j < us'.toList.length
            · have hjc : j < cells.length := by rw [← h2.1]; exact hj
              have hjf : j < (flatVals cx e xs).length := by
                have := congrArg List.length hen
                simp at this
                omega
              have h3 := h2.2 j _ _ (List.getElem?_eq_getElem hjc) (List.getElem?_eq_getElem hj)
              have h4 : weak true cells[j] = lv (flatVals cx e xs)[j] := by
                have := congrArg (fun l => l[j]?) hen
                simpa [hjc, hjf] using this
              rw [List.getElem?_eq_getElem hj, List.getElem?_eq_getElem hjf]
              have h5 : cells[j] = lv (flatVals cx e xs)[j] := by
                match hcj : cells[j], h4 with
                | none, h4 => simp [weak, lv] at h4
                | some (.inl v), h4 => exact h4
                | some (.inr s), h4 => simp [weak, lv] at h4
              rw [h5] at h3
              have h3 : us'.toList[j] = (flatVals cx e xs)[j] := h3
              rw [h3]
            · rw [List.getElem?_eq_none (by omega), List.getElem?_eq_none]
              have := congrArg List.length hen
              simp at this
              have := h2.1
              omega
          have hsize : us'.size = len * cx.size e := by
            have := flatVals_len ok hflat xs
            rw [← hus, hxl] at this
            simpa using this
          have hrun : (execOp ρ o).run P c.w = .ok (.value (.slice (some ⟨c.w.heap.size, 0, none⟩) len len)) (c.w.alloc (.cells us' e)) := by
            have hso : (sizeOf e).run P c.w = .ok (cx.size e) c.w := by rw [run_sizeOf' hd, hcs]
            have hn24 : ¬ (2 ^ 24 < len * cx.size e) := by omega
            have h1' : Instr.fill (fun j => some (j * cx.size e, cx.size e)) ((Array.range (len * cx.size e)).map ((if len * cx.size e = 0 then #[] else z.cells)[· % (if len * cx.size e = 0 then #[] else z.cells).size]!)) (parts.map fun p => (p.1, ρ p.2)).toList = some us' := by simpa using h1
            have hz' : (zeroValue e).run P c.w = .ok z c.w := by simp [zeroValue, typeInfo, hi, hz]
            have hbuild : (Instr.buildSlice t len (parts.map fun p => (p.1, ρ p.2))).run P c.w = .ok (.slice (some ⟨c.w.heap.size, 0, none⟩) len len) (c.w.alloc (.cells us' e)) := by
              unfold Instr.buildSlice
              rw [Sem.run_bind, run_underlying (sliceElem_eq he), Result.andThen_ok]
              dsimp only
              rw [Sem.run_bind, hso, Result.andThen_ok]
              by_cases hz0 : len * cx.size e = 0
              · simp only [hz0, if_true] at h1' ⊢
                simp at h1'
                simp [h1', newRow]
              · simp only [hz0, if_false] at h1' ⊢
                simp at h1'
                simp [hn24, hz', h1', newRow]
            unfold execOp
            simp only [ho, Sem.run_bind]
            rw [hbuild]
            rfl
          unfold Runs
          rw [hrun]
          have hg := good_row ok hw hf hflat (xs := xs) (us := us') (cap := len) (r := []) (by omega) (by have := Nat.le_trans (Nat.le_mul_of_pos_right len hpos) hlen; simp [maxLen]; omega) hsize (by
            rw [hxl, ← hus]
            rw [List.take_of_length_le]
            simp [hsize])
          rw [hxl] at hg
          exact hg
        · simp at h
      · simp at h
    · simp at h
  · simp at h

end
end Go.VM
