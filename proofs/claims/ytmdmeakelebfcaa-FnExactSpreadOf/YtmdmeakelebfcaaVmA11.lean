/- A part of the proof of FnExactSpreadOf: VmA11. -/
import Derived.Test.YtmdmeakelebfcaaVmA10
namespace Go.VM
open Go.RowKit
section
variable {cx : Cx} {P : Program}

/-! ### Rows that own rows: written out -/
theorem OwnL_succ {w : World} : ∀ (n : Nat) (l : L cx.ty) (u : Value) (fp : List Nat), OwnL cx w n l u fp → OwnL cx w (n + 1) l u fp
  | _, none, _, _, h => by simp [OwnL] at h
  | n, some (.inl v), u, fp, h => by
    cases n <;> simpa [OwnL] using h
  | 0, some (.inr _), _, _, h => by simp [OwnL] at h
  | n + 1, some (.inr s), u, fp, h => by
    obtain ⟨us, fpl, h1, h2, h3, h4, h5⟩ := h
    exact ⟨us, fpl, h1, h2, h3, h4, fun j l c f a b d => OwnL_succ n l c f (h5 j l c f a b d)⟩

theorem OwnL_up {w : World} (d : Nat) : ∀ {n : Nat} {l : L cx.ty} {u : Value} {fp : List Nat}, OwnL cx w n l u fp → OwnL cx w (n + d) l u fp := by
  induction d with
  | zero => intro n l u fp h; exact h
  | succ d ih => intro n l u fp h; exact OwnL_succ _ _ _ _ (ih h)

/-- A piece that goes into another thing, and its name. -/
def intoL {ty : Nat → Type} (mk : Option Nat) (l : L ty) : Option (L ty × List Nat) :=
  match l with
  | some (.inl v) => match v, mk with
    | .slice none 0 0, some e => some (ls { own := 2, nm := 0, e := e, o := true, xs := [] }, [])
    | v, _ => some (lv v, [])
  | some (.inr s) => if s.own == 1 && s.o then some (ls { own := 2, nm := 0, e := s.e, o := true, xs := s.xs }, [s.nm]) else none
  | none => none

def intoLs {ty : Nat → Type} : List (Option Nat) → List (L ty) → Option (List (L ty) × List Nat)
  | _, [] => some ([], [])
  | mks, l :: r => match intoL (mks.headD none) l, intoLs mks.tail r with
    | some (a, n), some (as, ns) => some (a :: as, n ++ ns)
    | _, _ => none

def GivesO (c : Ct cx.ty) (ns : List Nat) (fp : List Nat) : Prop := ∃ tks : List (Tk cx.ty), tks.map (·.nm) = ns ∧ (∀ tk ∈ tks, tk ∈ c.T ∧ ∃ s, tk.c = .inl s) ∧ fp = tks.flatMap blocks

theorem GivesO.nil (c : Ct cx.ty) : GivesO c [] [] := ⟨[], rfl, by simp, rfl⟩
theorem GivesO.app {c : Ct cx.ty} {a b f g : List Nat} (h1 : GivesO c a f) (h2 : GivesO c b g) : GivesO c (a ++ b) (f ++ g) := by
  obtain ⟨t1, p1, q1, r1⟩ := h1
  obtain ⟨t2, p2, q2, r2⟩ := h2
  exact ⟨t1 ++ t2, by simp [p1, p2], fun tk ht => (List.mem_append.1 ht).elim (q1 tk) (q2 tk), by rw [List.flatMap_append, r1, r2]⟩

theorem intoL_rep {c : Ct cx.ty} (hw : Wf cx c) {mk : Option Nat} {l l' : L cx.ty} {n : List Nat} (ha : intoL mk l = some (l', n)) {u : Value} (h : RepLS cx c l u) (hd : ∀ k ∈ n, k ∉ c.D ∧ k ∉ c.F) :
    weak true l' = l' ∧ ∃ m fp, OwnL cx c.w m l' u fp ∧ GivesO c n fp := by
  unfold intoL at ha
  split at ha
  · rename_i v
    have h : u = v := h
    subst h
    split at ha
    · simp only [Option.some.injEq, Prod.mk.injEq] at ha
      obtain ⟨rfl, rfl⟩ := ha
      exact ⟨rfl, 1, [], ⟨[], [], World.ownsRow_nil _ _ _ _, rfl, rfl, rfl, fun j l c f h => by simp at h⟩, GivesO.nil c⟩
    · simp only [Option.some.injEq, Prod.mk.injEq] at ha
      obtain ⟨rfl, rfl⟩ := ha
      exact ⟨rfl, 0, [], ⟨rfl, rfl⟩, GivesO.nil c⟩
  · rename_i s
    split at ha
    · rename_i hc
      simp only [Bool.and_eq_true, beq_iff_eq] at hc
      simp only [Option.some.injEq, Prod.mk.injEq] at ha
      obtain ⟨rfl, rfl⟩ := ha
      have h2 := hd s.nm (by simp)
      unfold RepLS at h
      simp only [hc.1, if_true, h2.1, h2.2, if_false] at h
      obtain ⟨_, tk, ht, hn, hcc, hu⟩ := h
      have htr := hw.rep tk ht
      unfold TokRep at htr
      rw [hcc] at htr
      simp only [hc.2, if_true] at htr
      obtain ⟨hv, m, htr⟩ := htr
      refine ⟨rfl, m, blocks tk, ?_, [tk], by simp [hn], by simp only [List.mem_singleton]; rintro _ rfl; exact ⟨ht, s, hcc⟩, by simp⟩
      rw [← hu]
      cases m with
      | zero => simp [OwnL] at htr
      | succ m => exact htr
    · simp at ha
  · simp at ha

theorem intoLs_rep {c : Ct cx.ty} (hw : Wf cx c) : ∀ (mks : List (Option Nat)) (l l' : List (L cx.ty)) (n : List Nat) (us : List Value), intoLs mks l = some (l', n) → RepLs cx c l us → (∀ k ∈ n, k ∉ c.D ∧ k ∉ c.F) →
    l'.map (weak true) = l' ∧ l'.length = l.length ∧ ∃ m fpl, fpl.length = l.length ∧ (∀ (j : Nat) a u f, l'[j]? = some a → us[j]? = some u → fpl[j]? = some f → OwnL cx c.w m a u f) ∧ GivesO c n (List.flatten fpl)
  | mks, [], l', n, us, ha, h, _ => by
    simp only [intoLs, Option.some.injEq, Prod.mk.injEq] at ha
    obtain ⟨rfl, rfl⟩ := ha
    exact ⟨rfl, rfl, 0, [], rfl, fun j a u f h1 => by simp at h1, GivesO.nil c⟩
  | mks, l :: r, l', n, us, ha, h, hd => by
    simp only [intoLs] at ha
    split at ha
    · rename_i a n1 as ns e1 e2
      simp only [Option.some.injEq, Prod.mk.injEq] at ha
      obtain ⟨rfl, rfl⟩ := ha
      match us, h with
      | [], h => simp [RepLs] at h
      | u :: us, h =>
        obtain ⟨w1, m1, f, k1, k2⟩ := intoL_rep hw e1 (h.2 0 l u rfl rfl) (fun k hk => hd k (List.mem_append.2 (.inl hk)))
        obtain ⟨w2, len2, m2, fpl, k3, k4, k5⟩ := intoLs_rep hw mks.tail r as ns us e2 ⟨by have := h.1; simpa using this, fun j a b h1 h2 => h.2 (j + 1) a b (by simpa using h1) (by simpa using h2)⟩ (fun k hk => hd k (List.mem_append.2 (.inr hk)))
        refine ⟨by simp [w1, w2], by simp [len2], m1 + m2, f :: fpl, by simp [k3], fun j a' u' f' h1 h2 h3 => ?_, by rw [List.flatten_cons]; exact k2.app k5⟩
        cases j with
        | zero =>
          simp only [List.getElem?_cons_zero, Option.some.injEq] at h1 h2 h3
          subst h1; subst h2; subst h3
          exact OwnL_up m2 k1
        | succ j =>
          rw [Nat.add_comm]
          exact OwnL_up m1 (k4 j a' u' f' (by simpa using h1) (by simpa using h2) (by simpa using h3))
    · simp at ha

/-- Some things of the table go into a new one. -/
theorem good_into {c : Ct cx.ty} (h : Wf cx c) {w' : World} {nm0 : Nat} (hf : ∀ n, Nm c n → ¬ (nm0 ≤ n ∧ n < nm0 + 64)) {dn : List Nat} (hdn : ∀ tk ∈ c.T, tk.nm ∈ dn → ∃ s, tk.c = .inl s) (hdT : ∀ n ∈ dn, ∃ tk ∈ c.T, tk.nm = n) {u' : Value} {fp' : List Nat} {s' : SlD cx.ty} (hs' : s'.own = 1 ∧ s'.nm = nm0)
    (hblk : ∀ b ∈ vb u' ++ fp', (∃ tk ∈ c.T, tk.nm ∈ dn ∧ b ∈ blocks tk) ∨ (c.w.heap.size ≤ b ∧ b < w'.heap.size)) (hvb : ∀ b ∈ vb u', (∃ tk ∈ c.T, tk.nm ∈ dn ∧ b ∈ vb tk.u) ∨ c.w.heap.size ≤ b) (hnd : (vb u' ++ fp').Nodup)
    (hheap : ∀ b, b < c.w.heap.size → (∀ tk ∈ c.T, tk.nm ∈ dn → b ∉ vb tk.u) → w'.heap[b]? = c.w.heap[b]?) (hsz : c.w.heap.size ≤ w'.heap.size) (hbel : Kept c.N c.w w')
    (htok : ∀ c' : Ct cx.ty, c'.w = w' → TokRep cx c' { nm := nm0, u := u', fp := fp', c := .inl s' }) (hsl : ∃ a n cap, u' = .slice a n cap) :
    Good cx c { v := vs s', dead := dn, frz := [], live := dn, read := [] } nm0 u' w' ({ nm := nm0, u := u', fp := fp', c := .inl s' } :: c.T.filter (fun tk => !dn.contains tk.nm)) := by
  have hmem : ∀ tk, tk ∈ c.T.filter (fun tk => !dn.contains tk.nm) ↔ tk ∈ c.T ∧ tk.nm ∉ dn := fun tk => by simp [List.mem_filter]
  have hpres : Pres cx c (c.nx { v := vs s', dead := dn, frz := [], live := dn, read := [] } w' ({ nm := nm0, u := u', fp := fp', c := .inl s' } :: c.T.filter (fun tk => !dn.contains tk.nm))) := by
    refine ⟨fun b hb => ?_, fun n hn => List.mem_append.2 (.inr hn), fun n hn => hn, fun tk ht hD _ => ?_, fun tk ht l hl => ?_, fun tk ht _ _ _ hF => absurd hF (h.live tk ht).2⟩
    · obtain ⟨h1, h2, h3⟩ := hb
      refine ⟨⟨Nat.lt_of_lt_of_le h1 hsz, h2, fun tk ht hv => ?_⟩, hheap b h1 (fun tk ht _ => h3 tk ht)⟩
      rcases List.mem_cons.1 ht with ht | ht
      · subst ht
        rcases hvb b hv with ⟨tk, k1, _, k3⟩ | hk
        · exact h3 tk k1 k3
        · omega
      · exact h3 tk ((hmem tk).1 ht).1 hv
    · refine List.mem_cons_of_mem _ ((hmem tk).2 ⟨ht, fun hd => hD (List.mem_append.2 (.inl hd))⟩)
    · refine List.mem_cons_of_mem _ ((hmem tk).2 ⟨ht, fun hd => ?_⟩)
      obtain ⟨s, hs⟩ := hdn tk ht hd
      rw [hl] at hs
      cases hs
  have hother : ∀ tk ∈ c.T, tk.nm ∉ dn → ∀ b ∈ blocks tk, ∀ t2 ∈ c.T, t2.nm ∈ dn → b ∉ blocks t2 := fun tk ht hn b hb t2 ht2 hn2 hb2 =>
    disjoint_toks h ht ht2 (fun e => hn (e ▸ hn2)) hb hb2
  have hnewD : nm0 ∉ dn ++ c.D := fun hd => by
    rcases List.mem_append.1 hd with hd | hd
    · obtain ⟨tk, k1, k2⟩ := hdT _ hd
      exact hf _ (.inl ⟨tk, k1, k2⟩) ⟨Nat.le_refl _, by omega⟩
    · exact hf _ (.inr (.inl hd)) ⟨Nat.le_refl _, by omega⟩
  have hnewF : nm0 ∉ c.F := fun hd => hf _ (.inr (.inr hd)) ⟨Nat.le_refl _, by omega⟩
  refine ⟨⟨?_, ?_, ?_, ?_, h.start, ?_, fun b hb => h.size b (Nat.le_trans hsz hb)⟩, hpres, ?_, hbel, ?_⟩
  · show (List.map _ (_ :: _)).Nodup
    rw [List.map_cons, List.nodup_cons]
    refine ⟨fun hm => ?_, (List.Sublist.map _ List.filter_sublist).nodup h.names⟩
    obtain ⟨tk, ht, he⟩ := List.mem_map.1 hm
    have he : tk.nm = nm0 := he
    exact hf _ (.inl ⟨tk, ((hmem tk).1 ht).1, rfl⟩) ⟨by omega, by omega⟩
  · show (List.flatMap _ (_ :: _)).Nodup
    rw [List.flatMap_cons, List.nodup_append]
    refine ⟨hnd, filter_sub_nodup _ h.nodup, fun a ha b hb he => ?_⟩
    subst he
    obtain ⟨tk, ht, hb⟩ := List.mem_flatMap.1 hb
    obtain ⟨ht1, ht2⟩ := (hmem tk).1 ht
    rcases hblk a ha with ⟨t2, k1, k2, k3⟩ | hk
    · exact hother tk ht1 ht2 a hb t2 k1 k2 k3
    · have := (h.bound tk ht1 a hb).2
      omega
  · intro tk ht b hb
    rcases List.mem_cons.1 ht with ht | ht
    · subst ht
      rcases hblk b hb with ⟨t2, k1, k2, k3⟩ | hk
      · have := h.bound t2 k1 b k3
        exact ⟨this.1, Nat.lt_of_lt_of_le this.2 hsz⟩
      · exact ⟨h.size b hk.1, hk.2⟩
    · have := h.bound tk ((hmem tk).1 ht).1 b hb
      exact ⟨this.1, Nat.lt_of_lt_of_le this.2 hsz⟩
  · intro tk ht
    rcases List.mem_cons.1 ht with ht | ht
    · subst ht
      exact htok _ rfl
    · obtain ⟨h1, h2⟩ := (hmem tk).1 ht
      exact TokRep.pres cx hpres (fun b hb => hheap b (h.bound tk h1 b hb).2 (fun t2 ht2 hn2 hb2 => hother tk h1 h2 b hb t2 ht2 hn2 (List.mem_append.2 (.inl hb2)))) (h.rep tk h1)
  · intro tk ht
    rcases List.mem_cons.1 ht with ht | ht
    · subst ht
      exact ⟨hnewD, hnewF⟩
    · obtain ⟨h1, h2⟩ := (hmem tk).1 ht
      refine ⟨fun hd => ?_, (h.live tk h1).2⟩
      rcases List.mem_append.1 hd with hd | hd
      · exact h2 hd
      · exact (h.live tk h1).1 hd
  · refine repLS_tok hs'.1 ?_ ?_ (List.mem_cons_self ..) hs'.2.symm rfl rfl hsl
    · rw [hs'.2]; exact hnewD
    · rw [hs'.2]; exact hnewF
  · intro n hn
    rcases hn with ⟨tk, ht, rfl⟩ | hn | hn
    · rcases List.mem_cons.1 ht with ht | ht
      · subst ht
        exact .inr ⟨Nat.le_refl _, by show nm0 < nm0 + 64; omega⟩
      · exact .inl (.inl ⟨tk, ((hmem tk).1 ht).1, rfl⟩)
    · rcases List.mem_append.1 hn with hn | hn
      · obtain ⟨tk, k1, k2⟩ := hdT _ hn
        exact .inl (.inl ⟨tk, k1, k2⟩)
      · exact .inl (.inr (.inl hn))
    · exact .inl (.inr (.inr hn))

def rowFit (P : Program) (cx : Cx) (e : TypeId) : Bool :=
  match P.info? e with
  | some i => match i.zero with
    | some z => decide (i.size = cx.size e) && decide (z.cells.size = cx.size e) && decide (0 < cx.size e) && decide (i.bytes ≤ 100000)
    | none => false
  | none => false

theorem rowFit_spec {e : TypeId} (h : rowFit P cx e = true) : ∃ i z, P.info? e = some i ∧ i.zero = some z ∧ i.size = cx.size e ∧ z.cells.size = cx.size e ∧ 0 < cx.size e ∧ i.bytes ≤ 100000 := by
  unfold rowFit at h
  split at h
  · rename_i i hi
    split at h
    · rename_i z hz
      simp only [Bool.and_eq_true, decide_eq_true_eq] at h
      exact ⟨i, z, hi, hz, h.1.1.1, h.1.1.2, h.1.2, h.2⟩
    · simp at h
  · simp at h

/-- A thing that is owned, as a row of cells with what each takes. -/
theorem own_parts {c : Ct cx.ty} (hw : Wf cx c) {s : SlD cx.ty} {u : Value} (h1 : s.own = 1) (ho : s.o = true) (hl : s.nm ∉ c.D ∧ s.nm ∉ c.F) (h : RepLS cx c (some (.inr s)) u) :
    ∃ tk ∈ c.T, tk.nm = s.nm ∧ tk.c = .inl s ∧ tk.u = u ∧ vb u = u.ownBlock.toList ∧ ∃ n us fpl, c.w.ownsRow 0 s.e (cx.size s.e) u s.xs.length us ∧ tk.fp = List.flatten fpl ∧ us.length = (s.xs.flatMap (cx.enc s.e true)).length ∧ fpl.length = us.length ∧
      ∀ (j : Nat) l v f, (s.xs.flatMap (cx.enc s.e true))[j]? = some l → us[j]? = some v → fpl[j]? = some f → OwnL cx c.w n l v f := by
  unfold RepLS at h
  simp only [h1, if_true, hl.1, hl.2, if_false] at h
  obtain ⟨_, tk, ht, hn, hc, hu⟩ := h
  have htr := hw.rep tk ht
  unfold TokRep at htr
  rw [hc] at htr
  simp only [ho, if_true] at htr
  obtain ⟨hv, m, htr⟩ := htr
  rw [hu] at hv htr
  cases m with
  | zero => simp [OwnL] at htr
  | succ m =>
    obtain ⟨us, fpl, k1, k2, k3, k4, k5⟩ := htr
    refine ⟨tk, ht, hn, hc, hu, hv, m, us, fpl, k1, ?_, k3, k4, k5⟩
    rw [hv] at k2
    exact List.append_cancel_left k2

theorem own_one (ok : cx.Ok) {w : World} {n : Nat} {e : Nat} {x : cx.ty e} {l : L cx.ty} (hl : l ∈ cx.enc e true x) {u : Value} {f : List Nat} (h : OwnL cx w n l u f) : u.oneCell' = true := by
  rcases ok.leaf e true x l hl with ⟨v, rfl, hv⟩ | ⟨s, rfl, _⟩
  · cases n <;> (simp only [OwnL] at h; rw [h.1]; exact hv)
  · obtain ⟨_, _, _, a, k, cap, hu⟩ := OwnL_slice h
    rw [hu]; rfl

end
end Go.VM
