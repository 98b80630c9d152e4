/- A part of the proof of FnExactSpreadOf: VmH. -/
import Derived.Test.YtmdmeakelebfcaaVmG
namespace Go.VM
open Go.RowKit
section
variable {cx : Cx} {P : Program}

structure OSp (c : Ct cx.ty) (seen seen' : List Nat) (fp : List Nat) : Prop where
  src : ∀ b ∈ fp, ∃ tk ∈ c.T, tk.nm ∈ seen' ∧ tk.nm ∉ seen ∧ b ∈ blocks tk
  nd : fp.Nodup
  grow : ∀ n ∈ seen, n ∈ seen'

theorem OSp.nil (c : Ct cx.ty) (seen : List Nat) : OSp c seen seen [] := ⟨by simp, by simp, fun _ h => h⟩

theorem OSp.app {c : Ct cx.ty} (h : Wf cx c) {s0 s1 s2 f1 f2 : List Nat} (h1 : OSp c s0 s1 f1) (h2 : OSp c s1 s2 f2) : OSp c s0 s2 (f1 ++ f2) := by
  refine ⟨fun b hb => ?_, ?_, fun n hn => h2.grow n (h1.grow n hn)⟩
  · rcases List.mem_append.1 hb with hb | hb
    · obtain ⟨tk, k1, k2, k3, k4⟩ := h1.src b hb
      exact ⟨tk, k1, h2.grow _ k2, k3, k4⟩
    · obtain ⟨tk, k1, k2, k3, k4⟩ := h2.src b hb
      exact ⟨tk, k1, k2, fun hs => k3 (h1.grow _ hs), k4⟩
  · rw [List.nodup_append]
    refine ⟨h1.nd, h2.nd, fun a ha b hb he => ?_⟩
    subst he
    obtain ⟨t1, k1, k2, k3, k4⟩ := h1.src a ha
    obtain ⟨t2, m1, m2, m3, m4⟩ := h2.src a hb
    exact disjoint_toks h k1 m1 (fun e => m3 (e ▸ k2)) k4 m4

theorem outL_spec {c : Ct cx.ty} (h : Wf cx c) {D F : List Nat} (hD : ∀ n, n ∈ c.D ↔ n ∈ D) (hF : ∀ n, n ∈ c.F ↔ n ∈ F) {t : TypeId} {seen seen' : List Nat} {l l' : L cx.ty} {u : Value} (hr : RepLS cx c l u) (ho : outL P D F t seen l = some (l', seen')) :
    ∃ fp, ResL cx c.w (Rd c) l' u fp ∧ OSp c seen seen' fp := by
  unfold outL at ho
  split at ho
  · split at ho
    · simp only [Option.some.injEq, Prod.mk.injEq] at ho
      obtain ⟨rfl, rfl⟩ := ho
      have hr : u = .slice none 0 0 := hr
      subst hr
      refine ⟨[], ?_, OSp.nil c seen⟩
      unfold ResL
      simp only [ls, if_true]
      exact ⟨trivial, 1, [], [], World.ownsRow_nil _ _ _ _, rfl, rfl, rfl, fun j l c f h => by simp at h⟩
    · simp at ho
  · simp only [Option.some.injEq, Prod.mk.injEq] at ho
    obtain ⟨rfl, rfl⟩ := ho
    exact ⟨[], ⟨hr, rfl⟩, OSp.nil c seen⟩
  · rename_i s
    unfold RepLS at hr
    by_cases h1 : s.own = 1
    · simp only [h1, if_true, beq_self_eq_true] at hr ho
      obtain ⟨_, hr⟩ := hr
      split at ho
      · simp at ho
      · rename_i hds
        simp only [Bool.or_eq_true, not_or, Bool.not_eq_true] at hds
        have h2 : s.nm ∉ c.D := by rw [hD]; simpa using hds.1
        have hsn : s.nm ∉ seen := by simpa using hds.2
        simp only [h2, if_false] at hr
        split at ho
        · rename_i hf
          have h3 : s.nm ∈ c.F := by rw [hF]; simpa using hf
          simp only [h3, if_true] at hr
          simp only [Option.some.injEq, Prod.mk.injEq] at ho
          obtain ⟨rfl, rfl⟩ := ho
          obtain ⟨n, hr⟩ := hr
          refine ⟨[], ?_, OSp.nil c seen⟩
          unfold ResL
          simp only [ls, ro]
          rw [if_neg (by decide)]
          exact ⟨trivial, trivial, n, RepL_ro hr⟩
        · rename_i hf
          have h3 : s.nm ∉ c.F := by rw [hF]; simpa using hf
          simp only [h3, if_false] at hr
          obtain ⟨tk, ht, hn, hc, hu⟩ := hr
          split at ho
          · rename_i hso
            simp only [Option.some.injEq, Prod.mk.injEq] at ho
            obtain ⟨rfl, rfl⟩ := ho
            have htr := h.rep tk ht
            unfold TokRep at htr
            rw [hc] at htr
            simp only [hso, if_true] at htr
            obtain ⟨hv, n, htr⟩ := htr
            refine ⟨blocks tk, ?_, ⟨fun b hb => ⟨tk, ht, by rw [hn]; exact List.mem_cons_self .., by rw [hn]; exact hsn, hb⟩, ?_, fun n hn => List.mem_cons_of_mem _ hn⟩⟩
            · unfold ResL
              simp only [ls, if_true]
              refine ⟨trivial, n, ?_⟩
              rw [← hu]
              cases n with
              | zero => simp [OwnL] at htr
              | succ n => exact htr
            · have hnd := h.nodup
              obtain ⟨l1, l2, hl⟩ := List.append_of_mem ht
              rw [hl] at hnd
              simp only [List.flatMap_append, List.flatMap_cons] at hnd
              exact (List.nodup_append.1 (List.nodup_append.1 hnd).2.1).1
          · simp at ho
    · have hb1 : (s.own == 1) = false := by simpa using h1
      simp only [h1, if_false, hb1, Bool.false_eq_true] at hr ho
      simp only [Option.some.injEq, Prod.mk.injEq] at ho
      obtain ⟨rfl, rfl⟩ := ho
      obtain ⟨n, hr⟩ := hr
      refine ⟨[], ?_, OSp.nil c seen⟩
      unfold ResL
      simp only [ls, ro]
      rw [if_neg (by decide)]
      exact ⟨trivial, trivial, n, RepL_ro hr⟩
  · simp at ho

theorem outLs_spec {c : Ct cx.ty} (h : Wf cx c) {D F : List Nat} (hD : ∀ n, n ∈ c.D ↔ n ∈ D) (hF : ∀ n, n ∈ c.F ↔ n ∈ F) : ∀ (ts : List TypeId) (l l' : List (L cx.ty)) (us : List Value) (seen seen' : List Nat), RepLs cx c l us → outLs P D F ts seen l = some (l', seen') →
    ∃ fps, ResLs cx c.w (Rd c) l' us fps ∧ OSp c seen seen' (List.flatten fps)
  | [], [], l', us, seen, seen', hr, ho => by
    simp only [outLs, Option.some.injEq, Prod.mk.injEq] at ho
    obtain ⟨rfl, rfl⟩ := ho
    exact ⟨[], ⟨hr.1, rfl, fun j a u f h => by simp at h⟩, OSp.nil c seen⟩
  | t :: ts, l :: r, l', us, seen, seen', hr, ho => by
    match us, hr with
    | [], hr => simp [RepLs] at hr
    | u :: us, hr =>
      simp only [outLs] at ho
      split at ho
      · rename_i l1 s1 e1
        split at ho
        · rename_i r1 s2 e2
          simp only [Option.some.injEq, Prod.mk.injEq] at ho
          obtain ⟨rfl, rfl⟩ := ho
          obtain ⟨f, h1, h2⟩ := outL_spec h hD hF (hr.2 0 l u rfl rfl) e1
          obtain ⟨fps, h3, h4⟩ := outLs_spec h hD hF ts r r1 us s1 s2 ⟨by simpa using hr.1, fun j a b e1 e2 => hr.2 (j + 1) a b (by simpa using e1) (by simpa using e2)⟩ e2
          refine ⟨f :: fps, ⟨by simp [h3.1], by simp [h3.2.1], fun j a b f' e1 e2 e3 => ?_⟩, by rw [List.flatten_cons]; exact h2.app h h4⟩
          cases j with
          | zero =>
            simp only [List.getElem?_cons_zero, Option.some.injEq] at e1 e2 e3
            subst e1; subst e2; subst e3
            exact h1
          | succ j => exact h3.2.2 j a b f' (by simpa using e1) (by simpa using e2) (by simpa using e3)
        · simp at ho
      · simp at ho
  | [], _ :: _, _, _, _, _, _, ho => by simp [outLs] at ho
  | _ :: _, [], _, _, _, _, _, ho => by simp [outLs] at ho

theorem outA_spec {c : Ct cx.ty} (h : Wf cx c) {D F : List Nat} (hD : ∀ n, n ∈ c.D ↔ n ∈ D) (hF : ∀ n, n ∈ c.F ↔ n ∈ F) {t : TypeId} {seen seen' : List Nat} {a a' : A cx.ty} {u : Value} (hr : RepA cx c a u) (ho : outA P D F t seen a = some (a', seen')) :
    ∃ fp, ResA cx c.w (Rd c) a' u fp ∧ OSp c seen seen' fp := by
  unfold outA at ho
  split at ho
  · split at ho
    · rename_i l1 s1 e1
      simp only [Option.some.injEq, Prod.mk.injEq] at ho
      obtain ⟨rfl, rfl⟩ := ho
      exact outL_spec h hD hF hr e1
    · simp at ho
  · split at ho
    · rename_i l1 s1 e1
      simp only [Option.some.injEq, Prod.mk.injEq] at ho
      obtain ⟨rfl, rfl⟩ := ho
      obtain ⟨us, hu, hr⟩ := hr
      obtain ⟨fps, h1, h2⟩ := outLs_spec h hD hF _ _ _ us _ _ hr e1
      exact ⟨_, ⟨us, fps, hu, rfl, h1⟩, h2⟩
    · simp at ho

theorem outAs_spec {c : Ct cx.ty} (h : Wf cx c) {D F : List Nat} (hD : ∀ n, n ∈ c.D ↔ n ∈ D) (hF : ∀ n, n ∈ c.F ↔ n ∈ F) : ∀ (ts : List TypeId) (l l' : List (A cx.ty)) (us : List Value) (seen seen' : List Nat), RepAs cx c l us → outAs P D F ts seen l = some (l', seen') →
    ∃ fps, ResAs cx c.w (Rd c) l' us fps ∧ OSp c seen seen' (List.flatten fps)
  | [], [], l', us, seen, seen', hr, ho => by
    simp only [outAs, Option.some.injEq, Prod.mk.injEq] at ho
    obtain ⟨rfl, rfl⟩ := ho
    exact ⟨[], ⟨hr.1, rfl, fun j a u f h => by simp at h⟩, OSp.nil c seen⟩
  | t :: ts, l :: r, l', us, seen, seen', hr, ho => by
    match us, hr with
    | [], hr => simp [RepAs] at hr
    | u :: us, hr =>
      simp only [outAs] at ho
      split at ho
      · rename_i l1 s1 e1
        split at ho
        · rename_i r1 s2 e2
          simp only [Option.some.injEq, Prod.mk.injEq] at ho
          obtain ⟨rfl, rfl⟩ := ho
          obtain ⟨f, h1, h2⟩ := outA_spec h hD hF (hr.2 0 l u rfl rfl) e1
          obtain ⟨fps, h3, h4⟩ := outAs_spec h hD hF ts r r1 us s1 s2 ⟨by simpa using hr.1, fun j a b e1 e2 => hr.2 (j + 1) a b (by simpa using e1) (by simpa using e2)⟩ e2
          refine ⟨f :: fps, ⟨by simp [h3.1], by simp [h3.2.1], fun j a b f' e1 e2 e3 => ?_⟩, by rw [List.flatten_cons]; exact h2.app h h4⟩
          cases j with
          | zero =>
            simp only [List.getElem?_cons_zero, Option.some.injEq] at e1 e2 e3
            subst e1; subst e2; subst e3
            exact h1
          | succ j => exact h3.2.2 j a b f' (by simpa using e1) (by simpa using e2) (by simpa using e3)
        · simp at ho
      · simp at ho
  | [], _ :: _, _, _, _, _, _, ho => by simp [outAs] at ho
  | _ :: _, [], _, _, _, _, _, ho => by simp [outAs] at ho

/-- One of the function's results, read. -/
def readR (tmps : Array Value) : ResultVar → Sem Value
  | .tmp t => pure (tmps.getD t undef)
  | .cell a t => do loadVar t (← asAddr (tmps.getD a undef))

theorem resA_spec (ok : cx.Ok) {c : Ct cx.ty} (hw : Wf cx c) {slots : List (V cx.ty)} {tmps : Array Value} (hr : ∀ t, RepV cx c (slots.getD t junk) (tmps.getD t undef)) : ∀ (l : List ResultVar) (as : List (A cx.ty)), resA P slots l = some as →
    ∃ us, (l.mapM (readR tmps)).run P c.w = .ok us c.w ∧ RepAs cx c as us
  | [], as, h => by
    simp only [resA, Option.some.injEq] at h
    subst h
    exact ⟨[], by simp, rfl, fun j a u h => by simp at h⟩
  | .tmp t :: r, as, h => by
    simp only [resA] at h
    split at h
    · rename_i a as' e1 e2
      simp only [Option.some.injEq] at h
      subst h
      obtain ⟨us, h1, h2⟩ := resA_spec ok hw hr r as' e2
      have hrt := hr t
      rw [e1] at hrt
      refine ⟨tmps.getD t undef :: us, ?_, by simp [h2.1], fun j a b k1 k2 => ?_⟩
      · simp only [List.mapM_cons, readR, Sem.run_bind, Sem.run_pure, Result.andThen_ok, h1]
      · cases j with
        | zero =>
          simp only [List.getElem?_cons_zero, Option.some.injEq] at k1 k2
          subst k1; subst k2
          exact hrt
        | succ j => exact h2.2 j a b (by simpa using k1) (by simpa using k2)
    · simp at h
  | .cell t ty :: r, as, h => by
    simp only [resA] at h
    split at h
    · rename_i p as' e1 e2
      split at h
      · rename_i hk
        simp only [Bool.and_eq_true, beq_iff_eq] at hk
        obtain ⟨hk, hi0⟩ := hk
        split at h
        · rename_i a ha
          simp only [Option.some.injEq] at h
          subst h
          obtain ⟨us, h1, h2⟩ := resA_spec ok hw hr r as' e2
          have hrt := hr t
          rw [e1] at hrt
          have hrt : RepP cx c p (tmps.getD t undef) := hrt
          obtain ⟨b, o, hu, hcells⟩ := pt_cells ok hw hrt (by simp [ptOk, hk, hi0]) (fun n hn => by simp [ptRead, hk] at hn)
          have hpc : ptCells cx p = p.cells := by simp [ptCells, hk]
          rw [hpc] at hcells
          obtain ⟨u, hrun, hrep⟩ := load_sub hcells ha
          refine ⟨u :: us, ?_, by simp [h2.1], fun j a b k1 k2 => ?_⟩
          · simp only [List.mapM_cons, readR, hu, asAddr, Sem.run_bind, Sem.run_pure, Result.andThen_ok, hrun, h1]
          · cases j with
            | zero =>
              simp only [List.getElem?_cons_zero, Option.some.injEq] at k1 k2
              subst k1; subst k2
              exact hrep
            | succ j => exact h2.2 j a b (by simpa using k1) (by simpa using k2)
        · simp at h
      · simp at h
    · simp at h

theorem results_eq (fn : Func) (tmps : Array Value) : results fn tmps = (do
    let vs ← fn.results.toList.mapM (readR tmps)
    pure (if h : vs.length = 1 then vs[0] else .tuple vs.toArray)) := by
  unfold results
  rw [show fn.results = fn.results.toList.toArray by simp]
  simp only [List.mapM_toArray, bind_map_left, List.size_toArray, List.getElem_toArray]
  rfl

def noOwnL {ty : Nat → Type} : L ty → Bool
  | some (.inr s) => s.own == 0
  | _ => true

def noOwnA {ty : Nat → Type} (a : A ty) : Bool :=
  match a with
  | .inl l => noOwnL l
  | .inr l => l.all noOwnL

def noOwnV {ty : Nat → Type} (v : V ty) : Bool :=
  match v with
  | .inl a => noOwnA a
  | .inr (.inl l) => l.all noOwnA
  | _ => false

theorem noOwnL_fp {w : World} {S : Nat → Prop} {l : L cx.ty} {u : Value} {f : List Nat} (hn : noOwnL l = true) (h : ResL cx w S l u f) : f = [] := by
  match l, h, hn with
  | some (.inl v), h, _ => exact h.2
  | some (.inr s), h, hn =>
    have : s.own = 0 := by simpa [noOwnL] using hn
    unfold ResL at h
    simp only [this] at h
    exact h.2.1

theorem noOwnA_fp {w : World} {S : Nat → Prop} {a : A cx.ty} {u : Value} {f : List Nat} (hn : noOwnA a = true) (h : ResA cx w S a u f) : f = [] := by
  match a, h, hn with
  | .inl l, h, hn => exact noOwnL_fp hn h
  | .inr l, ⟨us, fps, hu, hf, h1, h2, h⟩, hn =>
    rw [hf]
    refine flatten_nil fun f hf' => ?_
    obtain ⟨j, hj⟩ := List.getElem?_of_mem hf'
    have hjl : j < l.length := by rw [← h2]; exact (List.getElem?_eq_some_iff.1 hj).1
    have hju : j < us.length := by omega
    exact noOwnL_fp (List.all_eq_true.1 hn _ (List.getElem_mem hjl)) (h j _ _ f (List.getElem?_eq_getElem hjl) (List.getElem?_eq_getElem hju) hj)

theorem ResL_mono {w : World} {S S' : Nat → Prop} (hS : ∀ b, S b → S' b) {l : L cx.ty} {u : Value} {f : List Nat} (h : ResL cx w S l u f) : ResL cx w S' l u f := by
  match l, h with
  | some (.inl v), h => exact h
  | some (.inr s), h =>
    simp only [ResL] at h ⊢
    split at h
    · rename_i hs; rw [if_pos hs]; exact h
    · rename_i hs; rw [if_neg hs]
      obtain ⟨h0, hf, n, h⟩ := h
      exact ⟨h0, hf, n, RepL_mono cx (fun _ _ => rfl) hS n _ u h⟩

theorem ResA_mono {w : World} {S S' : Nat → Prop} (hS : ∀ b, S b → S' b) {a : A cx.ty} {u : Value} {f : List Nat} (h : ResA cx w S a u f) : ResA cx w S' a u f := by
  match a, h with
  | .inl l, h => exact ResL_mono hS h
  | .inr l, ⟨us, fps, hu, hf, h1, h2, h⟩ => exact ⟨us, fps, hu, hf, h1, h2, fun j a b f' e1 e2 e3 => ResL_mono hS (h j a b f' e1 e2 e3)⟩

theorem outV_spec (ok : cx.Ok) {fn : Func} {st : St cx.ty} {c : Ct cx.ty} {a : Act} (h : RS cx c st a) {r : V cx.ty} (ho : outV P fn st = some r) (hmix : noRoV r = true ∨ noOwnV r = true) :
    ∃ u, (results fn a.tmps).run P c.w = .ok u c.w ∧ ResV cx c.w c.S c.N r u := by
  unfold outV at ho
  have fin1 : ∀ {a' : A cx.ty} {u : Value} {fp seen' : List Nat}, ResA cx c.w (Rd c) a' u fp → OSp c [] seen' fp → r = .inl a' → ResV cx c.w c.S c.N r u := by
    intro a' u fp seen' h1 h2 hra
    subst hra
    refine ⟨fp, h2.nd, fun b hb => ?_, ?_⟩
    · obtain ⟨tk, k1, _, _, k4⟩ := h2.src b hb
      exact h.wf.bound tk k1 b k4
    · rcases hmix with hm | hm
      · exact noRoA_res hm h1
      · have := noOwnA_fp hm h1
        subst this
        exact ResA_mono (fun b hb => by
          rcases hb.2.1 with hs | hs
          · exact .inl hs
          · exact .inr ⟨hs, hb.1, by simp⟩) h1
  have fin2 : ∀ {l : List (A cx.ty)} {us : List Value} {fps : List (List Nat)} {seen' : List Nat}, ResAs cx c.w (Rd c) l us fps → OSp c [] seen' (List.flatten fps) → r = .inr (.inl l) → ResV cx c.w c.S c.N r (.tuple us.toArray) := by
    intro l us fps seen' h1 h2 hra
    subst hra
    refine ⟨List.flatten fps, h2.nd, fun b hb => ?_, us, fps, rfl, rfl, h1.1, h1.2.1, fun j a b f e1 e2 e3 => ?_⟩
    · obtain ⟨tk, k1, _, _, k4⟩ := h2.src b hb
      exact h.wf.bound tk k1 b k4
    · have hj := h1.2.2 j a b f e1 e2 e3
      rcases hmix with hm | hm
      · exact noRoA_res (List.all_eq_true.1 hm a (List.mem_of_getElem? e1)) hj
      · have hfl : List.flatten fps = [] := by
          refine flatten_nil fun f hf' => ?_
          obtain ⟨i, hi⟩ := List.getElem?_of_mem hf'
          have hil : i < l.length := by rw [← h1.2.1]; exact (List.getElem?_eq_some_iff.1 hi).1
          have hiu : i < us.length := by rw [h1.1]; exact hil
          exact noOwnA_fp (List.all_eq_true.1 hm _ (List.getElem_mem hil)) (h1.2.2 i _ _ f (List.getElem?_eq_getElem hil) (List.getElem?_eq_getElem hiu) hi)
        rw [hfl]
        exact ResA_mono (fun b hb => by
          rcases hb.2.1 with hs | hs
          · exact .inl hs
          · exact .inr ⟨hs, hb.1, by simp⟩) hj
  rw [results_eq]
  split at ho
  · rename_i x hx
    split at ho
    · rename_i a' s1 e1
      simp only [Option.some.injEq] at ho
      obtain ⟨us, h1, h2⟩ := resA_spec (P := P) ok h.wf h.rep _ _ hx
      match us, h2 with
      | [u], h2 =>
        obtain ⟨fp, h3, h4⟩ := outA_spec h.wf h.dead h.frz (h2.2 0 x u rfl rfl) e1
        refine ⟨u, ?_, fin1 h3 h4 ho.symm⟩
        simp [h1]
      | [], h2 => simp [RepAs] at h2
      | _ :: _ :: _, h2 => simp [RepAs] at h2
    · simp at ho
  · rename_i as hne hx
    split at ho
    · rename_i as' s1 e1
      simp only [Option.some.injEq] at ho
      obtain ⟨us, h1, h2⟩ := resA_spec (P := P) ok h.wf h.rep _ _ hx
      obtain ⟨fps, h3, h4⟩ := outAs_spec h.wf h.dead h.frz _ _ _ us _ _ h2 e1
      refine ⟨.tuple us.toArray, ?_, fin2 h3 h4 ho.symm⟩
      have hlen : ¬ us.length = 1 := by
        intro hl
        rw [h2.1] at hl
        match as, hl, hne with
        | [x], _, hne => exact hne x rfl
      simp [h1, hlen]
    · simp at ho
  · simp at ho

theorem ArgL.rep {c : Ct cx.ty} {A0 : Nat → Prop} (hA : ∀ b, A0 b → Rd c b) {l : L cx.ty} {u : Value} (h : ArgL cx c.w A0 l u) : RepLS cx c l u := by
  match l, h with
  | some (.inl v), h => exact h
  | some (.inr s), ⟨h0, n, h⟩ =>
    have h1 : ¬ s.own = 1 := by omega
    simp only [RepLS, h1, if_false]
    exact ⟨n, RepL_mono cx (fun _ _ => rfl) hA n _ u h⟩

theorem ArgA.rep {c : Ct cx.ty} {A0 : Nat → Prop} (hA : ∀ b, A0 b → Rd c b) {a : A cx.ty} {u : Value} (h : ArgA cx c.w A0 a u) : RepA cx c a u := by
  match a, h with
  | .inl l, h => exact ArgL.rep hA h
  | .inr l, ⟨us, hu, hl, h⟩ => exact ⟨us, hu, hl, fun j a b e1 e2 => ArgL.rep hA (h j a b e1 e2)⟩

/-- A function does what the abstract machine reckons. -/
theorem sat_of_ev (ok : cx.Ok) (hZ : cx.POk P) (hm : P.follows .mixedOrders = true) {f : FuncId} {fn : Func} (hf : P.funcs[f]? = some fn) {F : List (A cx.ty) → Option (Bool × V cx.ty)}
    (h : ∀ as r, F as = some (true, r) → ∃ (ev : Env cx) (L : Nat), KOk P cx ev.Kc ∧ KwOk P cx ev.Kw ∧ evF P ev (loopN L) fn as = some r ∧ (noRoV r = true ∨ noOwnV r = true)) : Sat P cx f F := by
  intro w A0 l us r hA hargs hF
  obtain ⟨ev, L, hK, hKw, hev, hmix⟩ := h l r hF
  unfold evF at hev
  split at hev
  · rename_i code hcode
    let c : Ct cx.ty := { T := [], D := [], F := [], w := w, S := A0, N := fun b => w.heap.size ≤ b, K := [] }
    have hwf : Wf cx c := ⟨by simp [c], by simp [c], by simp [c], by simp [c], fun b hb => by have := hA b hb; show ¬ w.heap.size ≤ b; omega, by simp [c], fun b hb => hb⟩
    have hrd : ∀ b, A0 b → Rd c b := fun b hb => ⟨hA b hb, .inl hb, by simp [c]⟩
    refine calls_of_wp hf hcode ?_
    refine evC_ok ok hZ ev L hK hKw hm (W := w) (S := A0) (N := fun b => w.heap.size ≤ b) (KK := []) code 0 _ _ (fun e c' st' a' h1 h2 h3 h4 h5 => ?_) _ c _ ⟨hwf, ?_, fun t => ?_, rfl, fun n => by simp [c], fun n => by simp [c], fun n hn => ?_, fun p u hp => by simp [c] at hp⟩ rfl ⟨rfl, rfl⟩ (Kept.refl _ _) hev
    · have fin : outV P fn st' = some r → a'.defers = [] ∧ ∃ v, (results fn a'.tmps).run P c'.w = .ok v c'.w ∧ (∃ u, Ending.returned v = .returned u ∧ Below w.heap.size w c'.w ∧ ResV cx c'.w A0 (fun b => w.heap.size ≤ b) r u) := by
        intro ho
        obtain ⟨u, h6, h7⟩ := outV_spec ok h1 ho hmix
        rw [h2, h3.1] at h7
        exact ⟨h1.defers, u, h6, u, rfl, h4.low, h7⟩
      cases e with
      | normal => exact fin h5
      | ret => exact fin h5
      | _ => simp [finK, Kn.on] at h5
    · simp [hargs.1]
    · show RepV cx c _ _
      by_cases ht : t < l.length
      · have htu : t < us.length := by rw [hargs.1]; exact ht
        have e1 : (l.map Sum.inl ++ List.replicate (fn.ntmps - l.length) (junk : V cx.ty)).getD t junk = .inl l[t] := by
          simp [List.getD, List.getElem?_append_left, ht]
        have e2 : (us.toArray ++ Array.replicate (fn.ntmps - us.toArray.size) undef).getD t undef = us[t] := by
          simp [Array.getD_eq_getD_getElem?, Array.getElem?_append, htu]
        rw [e1, e2]
        exact ArgA.rep hrd (hargs.2 t _ _ (List.getElem?_eq_getElem ht) (List.getElem?_eq_getElem htu))
      · have e1 : (l.map Sum.inl ++ List.replicate (fn.ntmps - l.length) (junk : V cx.ty)).getD t junk = junk := by
          simp only [List.getD]
          rw [List.getElem?_append_right (by simp; omega)]
          simp only [List.length_map, List.getElem?_replicate]
          split <;> rfl
        rw [e1]
        trivial
    · rcases hn with ⟨tk, ht, _⟩ | hn | hn
      · simp [c] at ht
      · simp [c] at hn
      · simp [c] at hn
  · simp at hev

end
end Go.VM
