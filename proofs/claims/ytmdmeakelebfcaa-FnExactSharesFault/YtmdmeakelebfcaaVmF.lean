/- A part of the proof of FnExactSharesFault: VmF. -/
import Derived.Test.YtmdmeakelebfcaaVmE
namespace Go.VM
open Go.RowKit
section
variable {cx : Cx} {P : Program}

/-! ### A state in its plain form: what lives on, under names of its own -/
def cnL {ty : Nat → Type} (D F : List Nat) (nm : Nat) (mk : Option Nat) (seen : List Nat) (l : L ty) : L ty × List Nat :=
  match l with
  | some (.inl v) => match v, mk with
    | .slice none 0 0, some e => (ls { own := 1, nm := nm, e := e, o := true, xs := [] }, seen)
    | v, _ => (lv v, seen)
  | some (.inr s) => if s.own == 1 then
      (if D.contains s.nm || seen.contains s.nm then (none, seen)
       else if F.contains s.nm then (ls (ro s.e s.xs), seen)
       else (ls { own := 1, nm := nm, e := s.e, o := s.o, xs := s.xs }, s.nm :: seen))
    else (ls (ro s.e s.xs), seen)
  | none => (none, seen)

def cnLs {ty : Nat → Type} (D F : List Nat) : Nat → List (Option Nat) → List Nat → List (L ty) → List (L ty) × List Nat
  | _, _, seen, [] => ([], seen)
  | nm, mks, seen, l :: r =>
    match cnL D F nm (mks.headD none) seen l with
    | (l', seen1) => match cnLs D F (nm + 1) mks.tail seen1 r with
      | (r', seen2) => (l' :: r', seen2)

def cnV {ty : Nat → Type} (D F : List Nat) (nm : Nat) (mks : List (Option Nat)) (seen : List Nat) (v : V ty) : V ty × List Nat :=
  match v with
  | .inl (.inl l) => match cnL D F nm (mks.headD none) seen l with
    | (l', seen1) => (.inl (.inl l'), seen1)
  | .inl (.inr l) => if l.length ≤ 60 then
      match cnLs D F nm mks seen l with
      | (l', seen1) => (.inl (.inr l'), seen1)
    else (junk, seen)
  | .inr (.inr p) => if p.kind == 0 && !seen.contains p.nm && decide (p.cells.length ≤ 60) then
      match cnLs D F (nm + 1) mks (p.nm :: seen) p.cells with
      | (cells, seen1) => (.inr (.inr { kind := 0, nm := nm, cells := cells, s := ro 0 [], i := p.i, off := p.off }), seen1)
    else (junk, seen)
  | _ => (junk, seen)

def specAt (spec : List (Nat × List (Option Nat))) (i : Nat) : Option (List (Option Nat)) :=
  match spec with
  | [] => none
  | (j, m) :: r => if j == i then some m else specAt r i

def cnS {ty : Nat → Type} (D F : List Nat) (spec : List (Nat × List (Option Nat))) : Nat → List Nat → List (V ty) → List (V ty)
  | _, _, [] => []
  | i, seen, v :: r => match specAt spec i with
    | some mks => match cnV D F (i * 64) mks seen v with
      | (v', seen1) => v' :: cnS D F spec (i + 1) seen1 r
    | none => junk :: cnS D F spec (i + 1) seen r

def canon {ty : Nat → Type} (spec : List (Nat × List (Option Nat))) (st : St ty) : St ty :=
  if st.slots.length ≤ 1000 then { slots := cnS st.D st.F spec 0 [] st.slots, D := [], F := [], ctr := 1, lo := st.lo } else st

/-- What one step of the canonical form does: 'N': the things under their new names. -/
structure CSpec (cx : Cx) (c : Ct cx.ty) (lo hi : Nat) (seen seen' : List Nat) (N : List (Tk cx.ty)) (rep : Ct cx.ty → Prop) : Prop where
  nm : ∀ tk ∈ N, lo ≤ tk.nm ∧ tk.nm < hi
  nd : (N.map (·.nm)).Nodup
  src : ∀ b ∈ N.flatMap blocks, ∃ tk ∈ c.T, tk.nm ∈ seen' ∧ tk.nm ∉ seen ∧ b ∈ blocks tk
  fp : (N.flatMap blocks).Nodup
  head : ∀ tk ∈ N, ∀ b ∈ vb tk.u, ∃ t ∈ c.T, b ∈ vb t.u
  grow : ∀ n ∈ seen, n ∈ seen'
  ok : ∀ c' : Ct cx.ty, c'.w = c.w → c'.D = [] → c'.F = [] → (∀ tk ∈ N, tk ∈ c'.T) → (∀ b, Rd c b → Rd c' b) → (∀ tk ∈ N, TokRep cx c' tk) ∧ rep c'

theorem CSpec.app {c : Ct cx.ty} (h : Wf cx c) {lo mid hi : Nat} {s0 s1 s2 : List Nat} {N1 N2 : List (Tk cx.ty)} {r1 r2 : Ct cx.ty → Prop} (h1 : CSpec cx c lo mid s0 s1 N1 r1) (h2 : CSpec cx c mid hi s1 s2 N2 r2) (hl : lo ≤ mid) (hh : mid ≤ hi) :
    CSpec cx c lo hi s0 s2 (N1 ++ N2) (fun c' => r1 c' ∧ r2 c') := by
  refine ⟨fun tk ht => ?_, ?_, fun b hb => ?_, ?_, fun tk ht => ?_, fun n hn => h2.grow n (h1.grow n hn), fun c' a1 a2 a3 a4 a5 => ?_⟩
  · rcases List.mem_append.1 ht with ht | ht
    · have := h1.nm tk ht; omega
    · have := h2.nm tk ht; omega
  · rw [List.map_append, List.nodup_append]
    refine ⟨h1.nd, h2.nd, fun a ha b hb he => ?_⟩
    obtain ⟨t1, ht1, rfl⟩ := List.mem_map.1 ha
    obtain ⟨t2, ht2, rfl⟩ := List.mem_map.1 hb
    have := h1.nm t1 ht1
    have := h2.nm t2 ht2
    omega
  · rw [List.flatMap_append] at hb
    rcases List.mem_append.1 hb with hb | hb
    · obtain ⟨tk, k1, k2, k3, k4⟩ := h1.src b hb
      exact ⟨tk, k1, h2.grow _ k2, k3, k4⟩
    · obtain ⟨tk, k1, k2, k3, k4⟩ := h2.src b hb
      exact ⟨tk, k1, k2, fun hs => k3 (h1.grow _ hs), k4⟩
  · rw [List.flatMap_append, List.nodup_append]
    refine ⟨h1.fp, h2.fp, fun a ha b hb he => ?_⟩
    subst he
    obtain ⟨t1, k1, k2, k3, k4⟩ := h1.src a ha
    obtain ⟨t2, m1, m2, m3, m4⟩ := h2.src a hb
    exact disjoint_toks h k1 m1 (fun e => m3 (e ▸ k2)) k4 m4
  · rcases List.mem_append.1 ht with ht | ht
    · exact h1.head tk ht
    · exact h2.head tk ht
  · have p1 := h1.ok c' a1 a2 a3 (fun tk ht => a4 tk (List.mem_append.2 (.inl ht))) a5
    have p2 := h2.ok c' a1 a2 a3 (fun tk ht => a4 tk (List.mem_append.2 (.inr ht))) a5
    refine ⟨fun tk ht => ?_, p1.2, p2.2⟩
    rcases List.mem_append.1 ht with ht | ht
    · exact p1.1 tk ht
    · exact p2.1 tk ht

theorem CSpec.mono {c : Ct cx.ty} {lo lo' hi hi' : Nat} {s0 s1 : List Nat} {N : List (Tk cx.ty)} {r r' : Ct cx.ty → Prop} (h : CSpec cx c lo hi s0 s1 N r) (hl : lo' ≤ lo) (hh : hi ≤ hi') (hr : ∀ c', r c' → r' c') : CSpec cx c lo' hi' s0 s1 N r' :=
  ⟨fun tk ht => ⟨Nat.le_trans hl (h.nm tk ht).1, Nat.lt_of_lt_of_le (h.nm tk ht).2 hh⟩, h.nd, h.src, h.fp, h.head, h.grow, fun c' a1 a2 a3 a4 a5 => ⟨(h.ok c' a1 a2 a3 a4 a5).1, hr c' (h.ok c' a1 a2 a3 a4 a5).2⟩⟩

theorem CSpec.idle {c : Ct cx.ty} {lo hi : Nat} {s : List Nat} {r : Ct cx.ty → Prop} (hr : ∀ c' : Ct cx.ty, c'.w = c.w → (∀ b, Rd c b → Rd c' b) → r c') : CSpec cx c lo hi s s [] r :=
  ⟨by simp, by simp, by simp, by simp, by simp, fun _ h => h, fun c' h1 _ _ _ h2 => ⟨by simp, hr c' h1 h2⟩⟩

theorem RepL_ro {w : World} {S : Nat → Prop} {n : Nat} {s : SlD cx.ty} {u : Value} (h : RepL cx w S n (some (.inr s)) u) : RepL cx w S n (some (.inr (ro s.e s.xs))) u := by
  cases n with
  | zero => simp [RepL] at h
  | succ n => exact h

/-- A slice's row of the table under another name. -/
theorem tokrep_rename {c c' : Ct cx.ty} (hw : c'.w = c.w) (hrd : ∀ b, Rd c b → Rd c' b) {tk : Tk cx.ty} {s : SlD cx.ty} (hc : tk.c = .inl s) (h : TokRep cx c tk) (nm : Nat) :
    TokRep cx c' { nm := nm, u := tk.u, fp := tk.fp, c := .inl { own := 1, nm := nm, e := s.e, o := s.o, xs := s.xs } } := by
  unfold TokRep at h ⊢
  rw [hc] at h
  simp only at h ⊢
  obtain ⟨hv, h⟩ := h
  refine ⟨hv, ?_⟩
  split at h
  · rename_i ho
    obtain ⟨n, h⟩ := h
    simp only [ho, if_true]
    rw [hw]
    refine ⟨n, ?_⟩
    cases n with
    | zero => simp [OwnL] at h
    | succ n => exact h
  · rename_i ho
    rw [if_neg ho]
    obtain ⟨hf, us, n, h1, h2, h3⟩ := h
    rw [hw]
    exact ⟨hf, us, n, h1, h2, fun j l v e1 e2 => RepL_mono cx (fun _ _ => rfl) hrd n l v (h3 j l v e1 e2)⟩

theorem cnL_spec {c : Ct cx.ty} (h : Wf cx c) {D F : List Nat} (hD : ∀ n, n ∈ c.D ↔ n ∈ D) (hF : ∀ n, n ∈ c.F ↔ n ∈ F) {nm : Nat} {mk : Option Nat} {seen : List Nat} {l : L cx.ty} {u : Value} (hr : RepLS cx c l u) :
    ∃ N, CSpec cx c nm (nm + 1) seen (cnL D F nm mk seen l).2 N (fun c' => RepLS cx c' (cnL D F nm mk seen l).1 u) := by
  match l, hr with
  | none, _ => exact ⟨[], CSpec.idle fun _ _ _ => trivial⟩
  | some (.inl v), hr =>
    have hr' : u = v := hr
    clear hr
    unfold cnL
    split
    · rename_i l' v' hl
      simp only [Option.some.injEq, Sum.inl.injEq] at hl
      subst hl
      split
      · rename_i e
        subst hr'
        refine ⟨[{ nm := nm, u := .slice none 0 0, fp := [], c := .inl { own := 1, nm := nm, e := e, o := true, xs := [] } }], ⟨by simp, by simp, by simp [blocks, vb], by simp [blocks, vb], by simp [vb], fun _ h => h, fun c' h1 h2 h3 h4 _ => ⟨fun tk ht => ?_, ?_⟩⟩⟩
        · simp only [List.mem_singleton] at ht
          subst ht
          exact ⟨rfl, 1, [], [], World.ownsRow_nil _ _ _ _, rfl, rfl, rfl, fun j l c f h => by simp at h⟩
        · unfold RepLS
          simp only [ls, if_true, h2, h3, List.not_mem_nil, if_false]
          exact ⟨⟨_, _, _, rfl⟩, _, h4 _ (List.mem_singleton.2 rfl), rfl, rfl, rfl⟩
      · exact ⟨[], CSpec.idle fun _ _ _ => hr'⟩
    · rename_i hl; simp at hl
    · rename_i hl; simp at hl
  | some (.inr s), hr =>
    unfold RepLS at hr
    simp only [cnL]
    by_cases h1 : s.own = 1
    · simp only [h1, if_true, beq_self_eq_true] at hr ⊢
      obtain ⟨hsl, hr⟩ := hr
      split
      · exact ⟨[], CSpec.idle fun _ _ _ => trivial⟩
      · rename_i hds
        simp only [Bool.or_eq_true, not_or, Bool.not_eq_true] at hds
        have h2 : s.nm ∉ c.D := by rw [hD]; simpa using hds.1
        have hsn : s.nm ∉ seen := by simpa using hds.2
        simp only [h2, if_false] at hr
        split
        · rename_i hf
          have h3 : s.nm ∈ c.F := by rw [hF]; simpa using hf
          simp only [h3, if_true] at hr
          obtain ⟨n, hr⟩ := hr
          refine ⟨[], CSpec.idle fun c' hw hrd => ?_⟩
          unfold RepLS
          simp only [ls, ro]
          rw [if_neg (by decide), hw]
          exact ⟨n, RepL_mono cx (fun _ _ => rfl) hrd n _ _ (RepL_ro hr)⟩
        · rename_i hf
          have h3 : s.nm ∉ c.F := by rw [hF]; simpa using hf
          simp only [h3, if_false] at hr
          obtain ⟨tk, ht, hn, hc, hu⟩ := hr
          refine ⟨[{ nm := nm, u := tk.u, fp := tk.fp, c := .inl { own := 1, nm := nm, e := s.e, o := s.o, xs := s.xs } }], ⟨by simp, by simp, fun b hb => ?_, ?_, fun tk' ht' b hb => ?_, fun n hn => List.mem_cons_of_mem _ hn, fun c' k1 k2 k3 k4 k5 => ⟨fun tk' ht' => ?_, ?_⟩⟩⟩
          · refine ⟨tk, ht, by rw [hn]; exact List.mem_cons_self .., by rw [hn]; exact hsn, by simpa [blocks] using hb⟩
          · have hnd := h.nodup
            obtain ⟨l1, l2, hl⟩ := List.append_of_mem ht
            rw [hl] at hnd
            simp only [List.flatMap_append, List.flatMap_cons] at hnd
            simpa [blocks] using (List.nodup_append.1 (List.nodup_append.1 hnd).2.1).1
          · simp only [List.mem_singleton] at ht'
            subst ht'
            exact ⟨tk, ht, hb⟩
          · simp only [List.mem_singleton] at ht'
            subst ht'
            exact tokrep_rename k1 k5 hc (h.rep tk ht) nm
          · unfold RepLS
            simp only [ls, if_true, k2, k3, List.not_mem_nil, if_false]
            exact ⟨hsl, _, k4 _ (List.mem_singleton.2 rfl), rfl, rfl, hu⟩
    · have hb1 : (s.own == 1) = false := by simpa using h1
      simp only [h1, if_false, hb1, Bool.false_eq_true] at hr ⊢
      obtain ⟨n, hr⟩ := hr
      refine ⟨[], CSpec.idle fun c' hw hrd => ?_⟩
      unfold RepLS
      simp only [ls, ro]
      rw [if_neg (by decide), hw]
      exact ⟨n, RepL_mono cx (fun _ _ => rfl) hrd n _ _ (RepL_ro hr)⟩

theorem cnLs_spec {c : Ct cx.ty} (h : Wf cx c) {D F : List Nat} (hD : ∀ n, n ∈ c.D ↔ n ∈ D) (hF : ∀ n, n ∈ c.F ↔ n ∈ F) : ∀ (l : List (L cx.ty)) (us : List Value) (nm : Nat) (mks : List (Option Nat)) (seen : List Nat), RepLs cx c l us →
    ∃ N, CSpec cx c nm (nm + l.length) seen (cnLs D F nm mks seen l).2 N (fun c' => RepLs cx c' (cnLs D F nm mks seen l).1 us)
  | [], us, nm, mks, seen, hr => ⟨[], CSpec.idle fun _ _ _ => ⟨by simpa [cnLs] using hr.1, fun j a u h => by simp [cnLs] at h⟩⟩
  | l :: r, us, nm, mks, seen, hr => by
    match us, hr with
    | [], hr => simp [RepLs] at hr
    | u :: us, hr =>
      obtain ⟨N1, h1⟩ := cnL_spec h hD hF (nm := nm) (mk := mks.headD none) (seen := seen) (hr.2 0 l u rfl rfl)
      obtain ⟨N2, h2⟩ := cnLs_spec h hD hF r us (nm + 1) mks.tail (cnL D F nm (mks.headD none) seen l).2 ⟨by simpa using hr.1, fun j a b e1 e2 => hr.2 (j + 1) a b (by simpa using e1) (by simpa using e2)⟩
      refine ⟨N1 ++ N2, ?_⟩
      have := h1.app h h2 (by omega) (by omega)
      simp only [cnLs]
      refine this.mono (Nat.le_refl _) (by simp; omega) fun c' ⟨k1, k2⟩ => ⟨by simp [k2.1], fun j a b e1 e2 => ?_⟩
      cases j with
      | zero =>
        simp only [List.getElem?_cons_zero, Option.some.injEq] at e1 e2
        subst e1; subst e2
        exact k1
      | succ j => exact k2.2 j a b (by simpa using e1) (by simpa using e2)

theorem cnV_spec {c : Ct cx.ty} (h : Wf cx c) {D F : List Nat} (hD : ∀ n, n ∈ c.D ↔ n ∈ D) (hF : ∀ n, n ∈ c.F ↔ n ∈ F) {nm : Nat} {mks : List (Option Nat)} {seen : List Nat} {v : V cx.ty} {u : Value} (hr : RepV cx c v u) :
    ∃ N, CSpec cx c nm (nm + 64) seen (cnV D F nm mks seen v).2 N (fun c' => RepV cx c' (cnV D F nm mks seen v).1 u) := by
  match v, hr with
  | .inl (.inl l), hr =>
    obtain ⟨N, hN⟩ := cnL_spec h hD hF (nm := nm) (mk := mks.headD none) (seen := seen) (l := l) (u := u) hr
    exact ⟨N, hN.mono (Nat.le_refl _) (by omega) fun _ h => h⟩
  | .inl (.inr l), ⟨us, hu, hr⟩ =>
    simp only [cnV]
    split
    · obtain ⟨N, hN⟩ := cnLs_spec h hD hF l us nm mks seen hr
      exact ⟨N, hN.mono (Nat.le_refl _) (by omega) fun _ h => ⟨us, hu, h⟩⟩
    · exact ⟨[], CSpec.idle fun _ _ _ => trivial⟩
  | .inr (.inl l), _ => exact ⟨[], CSpec.idle fun _ _ _ => trivial⟩
  | .inr (.inr p), hr =>
    simp only [cnV]
    split
    · rename_i hc
      simp only [Bool.and_eq_true, beq_iff_eq, Bool.not_eq_true', decide_eq_true_eq] at hc
      obtain ⟨⟨hk, hs⟩, hlen⟩ := hc
      have hsn : p.nm ∉ seen := by simpa using hs
      have hr : RepP cx c p u := hr
      unfold RepP at hr
      simp only [hk] at hr
      obtain ⟨tk, ht, hn, hcc, g, hg, hp⟩ := hr
      have htr := h.rep tk ht
      unfold TokRep at htr
      rw [hcc] at htr
      obtain ⟨hfp, g', cur, e, hg', hh, hcells⟩ := htr
      rw [hg] at hg'
      simp only [Value.pointer.injEq, Option.some.injEq, Addr.mk.injEq] at hg'
      obtain ⟨rfl, _⟩ := hg'
      obtain ⟨N, hN⟩ := cnLs_spec h hD hF p.cells cur.toList (nm + 1) mks (p.nm :: seen) hcells
      refine ⟨{ nm := nm, u := tk.u, fp := [], c := .inr (cnLs D F (nm + 1) mks (p.nm :: seen) p.cells).1 } :: N, ⟨fun tk' ht' => ?_, ?_, fun b hb => ?_, ?_, fun tk' ht' b hb => ?_, fun n hn' => hN.grow n (List.mem_cons_of_mem _ hn'), fun c' k1 k2 k3 k4 k5 => ?_⟩⟩
      · rcases List.mem_cons.1 ht' with ht' | ht'
        · subst ht'; simp
        · have := hN.nm tk' ht'; omega
      · rw [List.map_cons, List.nodup_cons]
        refine ⟨fun hm => ?_, hN.nd⟩
        obtain ⟨t1, h1, h2⟩ := List.mem_map.1 hm
        have h3 := hN.nm t1 h1
        have h2 : t1.nm = nm := h2
        omega
      · rw [List.flatMap_cons] at hb
        rcases List.mem_append.1 hb with hb | hb
        · exact ⟨tk, ht, hN.grow _ (by rw [hn]; exact List.mem_cons_self ..), by rw [hn]; exact hsn, by simpa [blocks, hfp] using hb⟩
        · obtain ⟨t1, m1, m2, m3, m4⟩ := hN.src b hb
          exact ⟨t1, m1, m2, fun hs' => m3 (List.mem_cons_of_mem _ hs'), m4⟩
      · rw [List.flatMap_cons, List.nodup_append]
        refine ⟨by simp [blocks, hg, vb], hN.fp, fun a ha b hb he => ?_⟩
        subst he
        obtain ⟨t1, m1, m2, m3, m4⟩ := hN.src a hb
        refine disjoint_toks h ht m1 (fun e => m3 ?_) (by simpa [blocks, hfp] using ha) m4
        rw [← e, hn]; exact List.mem_cons_self ..
      · rcases List.mem_cons.1 ht' with ht' | ht'
        · subst ht'
          exact ⟨tk, ht, hb⟩
        · exact hN.head tk' ht' b hb
      · have hk' := hN.ok c' k1 k2 k3 (fun tk' ht' => k4 tk' (List.mem_cons_of_mem _ ht')) k5
        refine ⟨fun tk' ht' => ?_, ?_⟩
        · rcases List.mem_cons.1 ht' with ht' | ht'
          · subst ht'
            exact ⟨rfl, g, cur, e, hg, by rw [k1]; exact hh, hk'.2⟩
          · exact hk'.1 tk' ht'
        · exact ⟨_, k4 _ (List.mem_cons_self ..), rfl, rfl, g, hg, hp⟩
    · exact ⟨[], CSpec.idle fun _ _ _ => trivial⟩

theorem cnS_spec {c : Ct cx.ty} (h : Wf cx c) {D F : List Nat} (hD : ∀ n, n ∈ c.D ↔ n ∈ D) (hF : ∀ n, n ∈ c.F ↔ n ∈ F) {spec : List (Nat × List (Option Nat))} : ∀ (slots : List (V cx.ty)) (us : List Value) (i : Nat) (seen : List Nat), us.length = slots.length →
    (∀ (j : Nat) v u, slots[j]? = some v → us[j]? = some u → RepV cx c v u) →
    ∃ seen' N, CSpec cx c (i * 64) ((i + slots.length) * 64) seen seen' N (fun c' => (cnS D F spec i seen slots).length = slots.length ∧ ∀ (j : Nat) v u, (cnS D F spec i seen slots)[j]? = some v → us[j]? = some u → RepV cx c' v u)
  | [], us, i, seen, _, _ => ⟨seen, [], CSpec.idle fun _ _ _ => ⟨rfl, fun j v u h => by simp [cnS] at h⟩⟩
  | v :: r, [], i, seen, hl, _ => by simp at hl
  | v :: r, u :: us, i, seen, hl, hr => by
    have hr0 := hr 0 v u rfl rfl
    simp only [cnS]
    cases hsp : specAt spec i with
    | none =>
      obtain ⟨seen', N, hN⟩ := cnS_spec h hD hF (spec := spec) r us (i + 1) seen (by simpa using hl) (fun j a b e1 e2 => hr (j + 1) a b (by simpa using e1) (by simpa using e2))
      refine ⟨seen', N, hN.mono (by omega) (by simp; omega) fun c' ⟨k1, k2⟩ => ⟨by simp [k1], fun j a b e1 e2 => ?_⟩⟩
      cases j with
      | zero =>
        simp only [List.getElem?_cons_zero, Option.some.injEq] at e1
        subst e1
        trivial
      | succ j => exact k2 j a b (by simpa using e1) (by simpa using e2)
    | some mks =>
      obtain ⟨N1, h1⟩ := cnV_spec h hD hF (nm := i * 64) (mks := mks) (seen := seen) hr0
      obtain ⟨seen', N2, h2⟩ := cnS_spec h hD hF (spec := spec) r us (i + 1) (cnV D F (i * 64) mks seen v).2 (by simpa using hl) (fun j a b e1 e2 => hr (j + 1) a b (by simpa using e1) (by simpa using e2))
      have h2' := h2.mono (lo' := i * 64 + 64) (hi' := (i + 1 + r.length) * 64) (by omega) (Nat.le_refl _) (fun _ h => h)
      have := h1.app h h2' (by omega) (by omega)
      refine ⟨seen', N1 ++ N2, this.mono (Nat.le_refl _) (by simp; omega) fun c' ⟨k1, k2, k3⟩ => ⟨by simp [k2], fun j a b e1 e2 => ?_⟩⟩
      cases j with
      | zero =>
        simp only [List.getElem?_cons_zero, Option.some.injEq] at e1 e2
        subst e1; subst e2
        exact k1
      | succ j => exact k3 j a b (by simpa using e1) (by simpa using e2)

theorem RS.canon {c : Ct cx.ty} {st : St cx.ty} {a : Act} (h : RS cx c st a) (spec : List (Nat × List (Option Nat))) : ∃ c', RS cx c' (canon spec st) a ∧ c'.w = c.w ∧ c'.S = c.S ∧ (c'.N = c.N ∧ c'.K = c.K) := by
  unfold VM.canon
  split
  · rename_i hlen
    obtain ⟨seen', N, hN⟩ := cnS_spec h.wf h.dead h.frz (spec := spec) st.slots a.tmps.toList 0 [] (by simpa using h.size) (fun j v u e1 e2 => by
      have := h.rep j
      rw [show st.slots.getD j junk = v by simp [List.getD, e1]] at this
      rw [show a.tmps.getD j undef = u by
        have e2' : a.tmps[j]? = some u := by simpa using e2
        simp [Array.getD_eq_getD_getElem?, e2']] at this
      exact this)
    let c' : Ct cx.ty := { T := N, D := [], F := [], w := c.w, S := c.S, N := c.N, K := c.K }
    have hsrc : ∀ tk ∈ N, ∀ b ∈ vb tk.u ++ tk.fp, ∃ t ∈ c.T, b ∈ blocks t := fun tk ht b hb => by
      obtain ⟨t, h1, _, _, h2⟩ := hN.src b (List.mem_flatMap.2 ⟨tk, ht, hb⟩)
      exact ⟨t, h1, h2⟩
    have hrd : ∀ b, Rd c b → Rd c' b := by
      rintro b ⟨h1, h2, h3⟩
      refine ⟨h1, h2, fun tk ht hv => ?_⟩
      obtain ⟨t, ht', hb'⟩ := hN.head tk ht b hv
      exact h3 t ht' hb'
    have hok := hN.ok c' rfl rfl rfl (fun tk ht => ht) hrd
    refine ⟨c', ⟨⟨hN.nd, hN.fp, fun tk ht b hb => ?_, hok.1, h.wf.start, fun tk _ => ⟨by simp [c'], by simp [c']⟩, h.wf.size⟩, ?_, fun t => ?_, h.defers, fun n => by simp [c'], fun n => by simp [c'], fun n hn => ?_, h.kp⟩, rfl, rfl, rfl, rfl⟩
    · obtain ⟨t, h1, h2⟩ := hsrc tk ht b hb
      exact h.wf.bound t h1 b h2
    · rw [h.size]; exact hok.2.1.symm
    · by_cases ht : t < st.slots.length
      · have ht' : t < (cnS st.D st.F spec 0 [] st.slots).length := by rw [hok.2.1]; exact ht
        have e1 := List.getElem?_eq_getElem ht'
        have hta : t < a.tmps.size := by rw [h.size]; exact ht
        have := hok.2.2 t _ a.tmps[t] e1 (by simp [hta])
        simpa [List.getD, e1, Array.getD_eq_getD_getElem?, hta] using this
      · have : (cnS st.D st.F spec 0 [] st.slots).getD t junk = junk := by
          simp [List.getD, List.getElem?_eq_none (by rw [hok.2.1]; omega : (cnS st.D st.F spec 0 [] st.slots).length ≤ t)]
        rw [this]
        trivial
    · rcases hn with ⟨tk, ht, rfl⟩ | hn | hn
      · have := (hN.nm tk ht).2
        simp only
        omega
      · simp [c'] at hn
      · simp [c'] at hn
  · exact ⟨c, h, rfl, rfl, rfl, rfl⟩

end
end Go.VM
