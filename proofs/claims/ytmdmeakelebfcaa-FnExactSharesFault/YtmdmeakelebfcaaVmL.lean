/- A part of the proof of FnExactSharesFault: VmL. -/
import Derived.Test.YtmdmeakelebfcaaVmK
namespace Go.VM
open Go.RowKit
section
variable {cx : Cx} {P : Program}

/-! ### Functions that write into what they are handed -/
def takeA {ty : Nat → Type} : Nat → List (V ty) → Option (List (A ty))
  | 0, _ => some []
  | n + 1, .inl a :: r => match takeA n r with
    | some l => some (a :: l)
    | none => none
  | _, _ => none

def outW (P : Program) (fn : Func) (n : Nat) (st : St cx.ty) : Option (List (A cx.ty)) :=
  match resA P st.slots fn.results.toList, takeA n st.slots with
  | some rs, some ks => match outAs P st.D st.F (fn.resultTypes.toList ++ fn.params.toList.take n) [] (rs ++ ks) with
    | some (as', _) => some as'
    | none => none
  | _, _ => none

def evFW (P : Program) (ev : Env cx) (lp : Lp cx (List (A cx.ty))) (fn : Func) (n : Nat) (args : List (A cx.ty)) : Option (List (A cx.ty)) :=
  match fn.body with
  | some code => if decide (args.length ≤ 1000) && args.all (fitsA 16) && decide (n ≤ args.length) then
      evC P ev lp 0 code { slots := (bindAs 0 args).map .inl ++ List.replicate (fn.ntmps - args.length) junk, D := [], F := [], ctr := 1, lo := n } { n := outW P fn n, x := fun _ _ => none, r := outW P fn n }
    else none
  | none => none

theorem resA_length : ∀ (l : List ResultVar) (slots : List (V cx.ty)) (as : List (A cx.ty)), resA P slots l = some as → as.length = l.length
  | [], _, as, h => by simp only [resA, Option.some.injEq] at h; subst h; rfl
  | .tmp t :: r, slots, as, h => by
    simp only [resA] at h
    split at h
    · rename_i a as' e1 e2
      simp only [Option.some.injEq] at h
      subst h
      simp [resA_length r slots as' e2]
    · simp at h
  | .cell t ty :: r, slots, as, h => by
    simp only [resA] at h
    split at h
    · rename_i p as' e1 e2
      split at h
      · split at h
        · simp only [Option.some.injEq] at h
          subst h
          simp [resA_length r slots as' e2]
        · simp at h
      · simp at h
    · simp at h

theorem takeA_spec : ∀ (n : Nat) (slots : List (V cx.ty)) (ks : List (A cx.ty)), takeA n slots = some ks → ks.length = n ∧ ∀ (j : Nat) a, ks[j]? = some a → slots[j]? = some (.inl a)
  | 0, _, ks, h => by
    simp only [takeA, Option.some.injEq] at h
    subst h
    exact ⟨rfl, fun j a h => by simp at h⟩
  | n + 1, .inl a :: r, ks, h => by
    simp only [takeA] at h
    split at h
    · rename_i l hl
      simp only [Option.some.injEq] at h
      subst h
      have := takeA_spec n r l hl
      refine ⟨by simp [this.1], fun j b hj => ?_⟩
      cases j with
      | zero =>
        simp only [List.getElem?_cons_zero, Option.some.injEq] at hj
        subst hj
        rfl
      | succ j => simpa using this.2 j b (by simpa using hj)
    · simp at h
  | n + 1, [], ks, h => by simp [takeA] at h
  | n + 1, .inr _ :: r, ks, h => by simp [takeA] at h

theorem repAs_app {c : Ct cx.ty} {l1 l2 : List (A cx.ty)} {u1 u2 : List Value} (h1 : RepAs cx c l1 u1) (h2 : RepAs cx c l2 u2) : RepAs cx c (l1 ++ l2) (u1 ++ u2) := by
  refine ⟨by simp [h1.1, h2.1], fun j a u e1 e2 => ?_⟩
  by_cases hj : j < l1.length
  · rw [List.getElem?_append_left hj] at e1
    rw [List.getElem?_append_left (by rw [h1.1]; exact hj)] at e2
    exact h1.2 j a u e1 e2
  · rw [List.getElem?_append_right (by omega)] at e1
    rw [List.getElem?_append_right (by rw [h1.1]; omega), h1.1] at e2
    exact h2.2 _ a u e1 e2

theorem outW_spec (ok : cx.Ok) {fn : Func} {n : Nat} {st : St cx.ty} {c : Ct cx.ty} {a : Act} (h : RS cx c st a) {us : List Value} (hn : n ≤ us.length) (hk : ∀ p, p < n → a.tmps.getD p undef = us.getD p undef) {cs : List (A cx.ty)} (ho : outW P fn n st = some cs) (hro : noRoV (.inr (.inl cs) : V cx.ty) = true) :
    ∃ rs : List Value, (results fn a.tmps).run P c.w = .ok (packR rs) c.w ∧ rs.length = fn.results.size ∧ ResV cx c.w c.S c.N (.inr (.inl cs)) (.tuple (rs ++ us.take n).toArray) := by
  unfold outW at ho
  split at ho
  · rename_i rs ks e1 e2
    split at ho
    · rename_i as' s1 e3
      simp only [Option.some.injEq] at ho
      subst ho
      obtain ⟨ur, h1, h2⟩ := resA_spec (P := P) ok h.wf h.rep _ _ e1
      obtain ⟨hkl, hkg⟩ := takeA_spec n st.slots ks e2
      have h3 : RepAs cx c ks (us.take n) := by
        refine ⟨by simp [hkl]; omega, fun j b u g1 g2 => ?_⟩
        have hj : j < n := by rw [← hkl]; exact (List.getElem?_eq_some_iff.1 g1).1
        have hs := hkg j b g1
        have hr := h.rep j
        rw [show st.slots.getD j junk = .inl b by simp [List.getD, hs], hk j hj] at hr
        have : us.getD j undef = u := by
          rw [List.getElem?_take, if_pos hj] at g2
          simp [List.getD, g2]
        rw [this] at hr
        exact hr
      obtain ⟨fps, h4, h5⟩ := outAs_spec h.wf h.dead h.frz _ _ _ _ _ _ (repAs_app h2 h3) e3
      refine ⟨ur, ?_, ?_, List.flatten fps, h5.nd, fun b hb => ?_, ur ++ us.take n, fps, rfl, rfl, h4.1, h4.2.1, fun j a b f g1 g2 g3 => ?_⟩
      · rw [results_eq]
        simp only [Sem.run_bind, h1, Result.andThen_ok, Sem.run_pure]
        rfl
      · rw [h2.1, resA_length _ _ _ e1]; simp
      · obtain ⟨tk, k1, _, _, k4⟩ := h5.src b hb
        exact h.wf.bound tk k1 b k4
      · exact noRoA_res (List.all_eq_true.1 hro a (List.mem_of_getElem? g1)) (h4.2.2 j a b f g1 g2 g3)
    · simp at ho
  · simp at ho

theorem satw_of_ev (ok : cx.Ok) (hZ : cx.POk P) (hm : P.follows .mixedOrders = true) {f : FuncId} {fn : Func} (hf : P.funcs[f]? = some fn) {n : Nat} {F : List (A cx.ty) → Option (Bool × List (A cx.ty))}
    (h : ∀ as cs, F as = some (true, cs) → ∃ (ev : Env cx) (L : Nat), KOk P cx ev.Kc ∧ KwOk P cx ev.Kw ∧ evFW P ev (loopN L) fn n as = some cs ∧ noRoV (.inr (.inl cs) : V cx.ty) = true) : SatW P cx f fn.results.size n F := by
  intro w l us fps cs hargs hnd hlt hF
  obtain ⟨ev, L, hK, hKw, hev, hmix⟩ := h l cs hF
  unfold evFW at hev
  split at hev
  · rename_i code hcode
    split at hev
    · rename_i hc
      simp only [Bool.and_eq_true, decide_eq_true_eq] at hc
      obtain ⟨⟨hl1000, hfit⟩, hnl⟩ := hc
      obtain ⟨N, hN⟩ := bindAs_spec l us fps 0 hfit hargs
      let c : Ct cx.ty := { T := N, D := [], F := [], w := w, S := fun _ => False, N := fun b => w.heap.size ≤ b ∨ b ∈ List.flatten fps, K := (us.take n).zipIdx.map fun p => (p.2, p.1) }
      have hbn : ∀ tk ∈ N, ∀ b ∈ vb tk.u ++ tk.fp, b ∈ List.flatten fps := fun tk ht b hb => by
        rw [← hN.fp]
        exact List.mem_flatMap.2 ⟨tk, ht, hb⟩
      have hwf : Wf cx c := ⟨hN.nd, by show (N.flatMap _).Nodup; rw [hN.fp]; exact hnd, fun tk ht b hb => ⟨.inr (hbn tk ht b hb), hlt b (hbn tk ht b hb)⟩, fun tk ht => by
          obtain ⟨s, h1, h2, h3, m, h4⟩ := hN.tok tk ht
          unfold TokRep
          rw [h1]
          simp only [h2, if_true]
          exact ⟨h3, m, h4⟩, fun b hb => hb.elim, fun tk _ => ⟨by simp [c], by simp [c]⟩, fun b hb => .inl hb⟩
      have hrep := hN.rep c rfl (fun tk ht => ⟨ht, by simp [c], by simp [c]⟩) (fun b hb => hb.elim)
      have hkmem : ∀ p u, (p, u) ∈ c.K → p < n ∧ us.getD p undef = u := fun p u hp => by
        obtain ⟨q, hq, he⟩ := List.mem_map.1 hp
        simp only [Prod.mk.injEq] at he
        have hq2 := List.mem_zipIdx_iff_getElem?.1 hq
        rw [he.1, he.2] at hq2
        rw [List.getElem?_take] at hq2
        split at hq2
        · rename_i hpn
          exact ⟨hpn, by simp [List.getD, hq2]⟩
        · simp at hq2
      refine calls_of_wp hf hcode ?_
      refine evC_ok ok hZ ev L hK hKw hm (W := w) (S := fun _ => False) (N := fun b => w.heap.size ≤ b ∨ b ∈ List.flatten fps) (KK := c.K) code 0 _ _ (fun e c' st' a' h1 h2 h3 h4 h5 => ?_) _ c _ ⟨hwf, ?_, fun t => ?_, rfl, fun n => by simp [c], fun n => by simp [c], fun m hm => ?_, fun p u hp => ?_⟩ rfl ⟨rfl, rfl⟩ (Kept.refl _ _) hev
      · have fin : outW P fn n st' = some cs → a'.defers = [] ∧ ∃ v, (results fn a'.tmps).run P c'.w = .ok v c'.w ∧ (∃ rs : List Value, Ending.returned v = .returned (packR rs) ∧ rs.length = fn.results.size ∧ Kept (fun b => w.heap.size ≤ b ∨ b ∈ List.flatten fps) w c'.w ∧
            ResV cx c'.w (fun _ => False) (fun b => w.heap.size ≤ b ∨ b ∈ List.flatten fps) (.inr (.inl cs)) (.tuple (rs ++ us.take n).toArray)) := by
          intro ho
          obtain ⟨rs, h6, h7, h8⟩ := outW_spec ok h1 (us := us) (by rw [hargs.1]; exact hnl) (fun p hp => by
            have hpu : p < us.length := by rw [hargs.1]; omega
            have : (p, us.getD p undef) ∈ c'.K := by
              rw [h3.2]
              refine List.mem_map.2 ⟨(us.getD p undef, p), List.mem_zipIdx_iff_getElem?.2 ?_, rfl⟩
              simp only
              rw [List.getElem?_take, if_pos hp, List.getElem?_eq_getElem hpu]
              simp [List.getD, hpu]
            exact (h1.kp _ _ this).2) ho hmix
          rw [h2, h3.1] at h8
          exact ⟨h1.defers, _, h6, rs, rfl, h7, h4, h8⟩
        cases e with
        | normal => exact fin h5
        | ret => exact fin h5
        | exit i => simp [Kn.on] at h5
        | _ => simp [Kn.on] at h5
      · simp [hargs.1, bindAs_length]
      · show RepV cx c _ _
        by_cases ht : t < l.length
        · have htu : t < us.length := by rw [hargs.1]; exact ht
          have htb : t < (bindAs 0 l).length := by rw [bindAs_length]; exact ht
          have e1 : ((bindAs 0 l).map Sum.inl ++ List.replicate (fn.ntmps - l.length) (junk : V cx.ty)).getD t junk = .inl (bindAs 0 l)[t] := by
            simp [List.getD, List.getElem?_append_left, htb]
          have e2 : (us.toArray ++ Array.replicate (fn.ntmps - us.toArray.size) undef).getD t undef = us[t] := by
            simp [Array.getD_eq_getD_getElem?, Array.getElem?_append, htu]
          rw [e1, e2]
          exact hrep.2 t _ _ (List.getElem?_eq_getElem htb) (List.getElem?_eq_getElem htu)
        · have e1 : ((bindAs 0 l).map Sum.inl ++ List.replicate (fn.ntmps - l.length) (junk : V cx.ty)).getD t junk = junk := by
            simp only [List.getD]
            rw [List.getElem?_append_right (by simp [bindAs_length]; omega)]
            simp only [List.length_map, List.getElem?_replicate]
            split <;> rfl
          rw [e1]
          trivial
      · rcases hm with ⟨tk, ht, rfl⟩ | hm | hm
        · have := (hN.nm tk ht).2
          show tk.nm < 1 * 65536
          omega
        · simp [c] at hm
        · simp [c] at hm
      · have := hkmem p u hp
        refine ⟨this.1, ?_⟩
        have hpu : p < us.length := by rw [hargs.1]; omega
        show (us.toArray ++ Array.replicate (fn.ntmps - us.toArray.size) undef).getD p undef = u
        have e2 : (us.toArray ++ Array.replicate (fn.ntmps - us.toArray.size) undef).getD p undef = us[p] := by
          simp [Array.getD_eq_getD_getElem?, Array.getElem?_append, hpu]
        rw [e2, ← this.2]
        simp [List.getD, hpu]
    · simp at hev
  · simp at hev

/-! ### Typed -/
def LArg.own {ty : Nat → Type} (e : Nat) : LArg ty (List (ty e)) :=
  { enc := fun x => ls { own := 2, nm := 0, e := e, o := true, xs := x }, dec := fun a => match a with | some (.inr s) => if s.own == 2 && s.nm == 0 && s.o then rowOf e s else none | _ => none,
    inv := fun a x h => by
      split at h
      · rename_i s
        split at h
        · rename_i hc
          simp only [Bool.and_eq_true, beq_iff_eq] at hc
          unfold rowOf at h
          split at h
          · rename_i he
            obtain ⟨own, nm, e2, o2, xs⟩ := s
            simp only at he hc
            obtain ⟨⟨rfl, rfl⟩, rfl⟩ := hc
            subst he
            cases h
            rfl
          · simp at h
        · simp at h
      · simp at h }

def fnW {cx : Cx} {X R : Type} (a : Args cx.ty X) (enc : R → List (A cx.ty)) (d : R) (m : X → Option R) : List (A cx.ty) → Option (Bool × List (A cx.ty)) :=
  fun l => (a.dec l).map fun x => ((m x).isSome, enc ((m x).getD d))

theorem fnW_inv {cx : Cx} {X R : Type} {a : Args cx.ty X} {enc : R → List (A cx.ty)} {d : R} {m : X → Option R} {l : List (A cx.ty)} {r : List (A cx.ty)} (h : fnW a enc d m l = some (true, r)) : ∃ x t, l = a.enc x ∧ m x = some t ∧ r = enc t := by
  unfold fnW at h
  cases h1 : a.dec l with
  | none => rw [h1] at h; simp at h
  | some x =>
    rw [h1] at h
    simp only [Option.map_some, Option.some.injEq, Prod.mk.injEq] at h
    cases h2 : m x with
    | none => rw [h2] at h; simp at h
    | some t =>
      rw [h2] at h
      exact ⟨x, t, a.inv l x h1, h2, h.2.symm⟩

theorem sat_w {P : Program} {cx : Cx} (ok : cx.Ok) (hZ : cx.POk P) (hm : P.follows .mixedOrders = true) {f : FuncId} {fn : Func} (hf : P.funcs[f]? = some fn) {nres n : Nat} (hnr : fn.results.size = nres) {X R : Type} (a : Args cx.ty X) (enc : R → List (A cx.ty)) (d : R) (m : X → Option R)
    (ev : Env cx) (hK : KOk P cx ev.Kc) (hKw : KwOk P cx ev.Kw) (g : Nat → X → Option R) (he : ∀ L x, evFW P ev (loopN L) fn n (a.enc x) = (g L x).map enc) (hg : ∀ x t, m x = some t → ∃ L, g L x = some t) (hs : ∀ t, noRoV (.inr (.inl (enc t)) : V cx.ty) = true) :
    SatW P cx f nres n (fnW a enc d m) := by
  subst hnr
  refine satw_of_ev ok hZ hm hf fun as r h => ?_
  obtain ⟨x, t, rfl, hx, rfl⟩ := fnW_inv h
  obtain ⟨L, hL⟩ := hg x t hx
  exact ⟨ev, L, hK, hKw, by rw [he, hL]; rfl, hs t⟩

def kwOf {cx : Cx} : List (FuncId × WFn cx) → Kwt cx
  | [], _ => none
  | (f, F) :: r, g => if g = f then some F else kwOf r g

theorem kwok_nil {P : Program} {cx : Cx} : KwOk P cx (kwOf []) := fun _ _ h => by simp [kwOf] at h
theorem kwok_cons {P : Program} {cx : Cx} {f : FuncId} {F : WFn cx} {r : List (FuncId × WFn cx)} (h : SatOf P cx f F) (hr : KwOk P cx (kwOf r)) : KwOk P cx (kwOf ((f, F) :: r)) := by
  intro g G hG
  unfold kwOf at hG
  split at hG
  · rename_i he
    subst he
    cases hG
    exact h
  · exact hr g G hG

/-! ### Functions whose rows are handed back to be read alone -/
def roL {ty : Nat → Type} : L ty → L ty
  | some (.inr s) => some (.inr (ro s.e s.xs))
  | l => l

def roA {ty : Nat → Type} : A ty → A ty
  | .inl l => .inl (roL l)
  | .inr l => .inr (l.map roL)

def roV {ty : Nat → Type} : V ty → V ty
  | .inl a => .inl (roA a)
  | .inr (.inl l) => .inr (.inl (l.map roA))
  | v => v

theorem resL_ro (ok : cx.Ok) {w : World} {S S' : Nat → Prop} {l : L cx.ty} {u : Value} {fp : List Nat} (hS : ∀ b, S b → S' b) (hf : ∀ b ∈ fp, S' b) (h : ResL cx w S l u fp) : ResL cx w S' (roL l) u [] := by
  match l, h with
  | some (.inl v), h => exact ⟨h.1, rfl⟩
  | some (.inr s), h =>
    unfold ResL at h
    show ResL cx w S' (some (.inr (ro s.e s.xs))) u []
    unfold ResL
    simp only [ro]
    rw [if_neg (by decide)]
    refine ⟨trivial, trivial, ?_⟩
    by_cases h2 : s.own = 2
    · simp only [h2, if_true] at h
      obtain ⟨_, n, h⟩ := h
      exact ⟨n, repL_flip (OwnL.rep ok n _ _ _ h hf)⟩
    · simp only [h2, if_false] at h
      obtain ⟨_, _, n, h⟩ := h
      exact ⟨n, repL_flip (RepL_mono cx (fun _ _ => rfl) hS n _ u h)⟩

theorem resA_ro (ok : cx.Ok) {w : World} {S S' : Nat → Prop} {a : A cx.ty} {u : Value} {fp : List Nat} (hS : ∀ b, S b → S' b) (hf : ∀ b ∈ fp, S' b) (h : ResA cx w S a u fp) : ResA cx w S' (roA a) u [] := by
  match a, h with
  | .inl l, h => exact resL_ro ok hS hf h
  | .inr l, ⟨us, fps, hu, hfp, h1, h2, h⟩ =>
    refine ⟨us, l.map (fun _ => []), hu, ?_, by simp [h1], by simp, fun j a v f e1 e2 e3 => ?_⟩
    · exact (flatten_nil fun f hf' => by obtain ⟨_, _, rfl⟩ := List.mem_map.1 hf'; rfl).symm
    · rw [List.getElem?_map] at e1 e3
      cases e0 : l[j]? with
      | none => rw [e0] at e1; simp at e1
      | some a0 =>
        rw [e0] at e1 e3
        simp only [Option.map_some, Option.some.injEq] at e1 e3
        subst e1; subst e3
        have hj : j < fps.length := by rw [h2]; exact (List.getElem?_eq_some_iff.1 e0).1
        refine resL_ro ok hS (fun b hb => hf b ?_) (h j a0 v fps[j] e0 e2 (List.getElem?_eq_getElem hj))
        rw [hfp]
        exact List.mem_flatten.2 ⟨_, List.getElem_mem hj, hb⟩

theorem resV_ro (ok : cx.Ok) {w : World} {A0 NN : Nat → Prop} {r : V cx.ty} {u : Value} (h : ResV cx w A0 NN r u) : ResV cx w A0 NN (roV r) u := by
  obtain ⟨fp, h1, h2, h⟩ := h
  have hS : ∀ b, (A0 b ∨ (NN b ∧ b < w.heap.size ∧ b ∉ fp)) → (A0 b ∨ (NN b ∧ b < w.heap.size ∧ b ∉ ([] : List Nat))) := fun b hb => hb.elim .inl fun hb => .inr ⟨hb.1, hb.2.1, by simp⟩
  have hf : ∀ b ∈ fp, (A0 b ∨ (NN b ∧ b < w.heap.size ∧ b ∉ ([] : List Nat))) := fun b hb => .inr ⟨(h2 b hb).1, (h2 b hb).2, by simp⟩
  refine ⟨[], List.nodup_nil, by simp, ?_⟩
  match r, h with
  | .inl a, h => exact resA_ro ok hS hf h
  | .inr (.inl l), ⟨us, fps, hu, hfp, g1, g2, h⟩ =>
    refine ⟨us, l.map (fun _ => []), hu, ?_, by simp [g1], by simp, fun j a v f e1 e2 e3 => ?_⟩
    · exact (flatten_nil fun f hf' => by obtain ⟨_, _, rfl⟩ := List.mem_map.1 hf'; rfl).symm
    · rw [List.getElem?_map] at e1 e3
      cases e0 : l[j]? with
      | none => rw [e0] at e1; simp at e1
      | some a0 =>
        rw [e0] at e1 e3
        simp only [Option.map_some, Option.some.injEq] at e1 e3
        subst e1; subst e3
        have hj : j < fps.length := by rw [g2]; exact (List.getElem?_eq_some_iff.1 e0).1
        refine resA_ro ok hS (fun b hb => hf b ?_) (h j a0 v fps[j] e0 e2 (List.getElem?_eq_getElem hj))
        rw [hfp]
        exact List.mem_flatten.2 ⟨_, List.getElem_mem hj, hb⟩
  | .inr (.inr _), h => exact h.elim

def outR (P : Program) (fn : Func) (st : St cx.ty) : Option (V cx.ty) :=
  match outV P fn st with
  | some r => if noRoV r || noOwnV r then some (roV r) else none
  | none => none

def evFR (P : Program) (ev : Env cx) (lp : Lp cx (V cx.ty)) (fn : Func) (args : List (A cx.ty)) : Option (V cx.ty) :=
  match fn.body with
  | some code => evC P ev lp 0 code { slots := args.map .inl ++ List.replicate (fn.ntmps - args.length) junk, D := [], F := [], ctr := 1 } { n := outR P fn, x := fun _ _ => none, r := outR P fn }
  | none => none

theorem satr_of_ev (ok : cx.Ok) (hZ : cx.POk P) (hm : P.follows .mixedOrders = true) {f : FuncId} {fn : Func} (hf : P.funcs[f]? = some fn) {F : List (A cx.ty) → Option (Bool × V cx.ty)}
    (h : ∀ as r, F as = some (true, r) → ∃ (ev : Env cx) (L : Nat), KOk P cx ev.Kc ∧ KwOk P cx ev.Kw ∧ evFR P ev (loopN L) fn as = some r) : Sat P cx f F := by
  intro w A0 l us r hA hargs hF
  obtain ⟨ev, L, hK, hKw, hev⟩ := h l r hF
  unfold evFR at hev
  split at hev
  · rename_i code hcode
    let c : Ct cx.ty := { T := [], D := [], F := [], w := w, S := A0, N := fun b => w.heap.size ≤ b, K := [] }
    have hwf : Wf cx c := ⟨by simp [c], by simp [c], by simp [c], by simp [c], fun b hb => by have := hA b hb; show ¬ w.heap.size ≤ b; omega, by simp [c], fun b hb => hb⟩
    have hrd : ∀ b, A0 b → Rd c b := fun b hb => ⟨hA b hb, .inl hb, by simp [c]⟩
    refine calls_of_wp hf hcode ?_
    refine evC_ok ok hZ ev L hK hKw hm (W := w) (S := A0) (N := fun b => w.heap.size ≤ b) (KK := []) code 0 _ _ (fun e c' st' a' h1 h2 h3 h4 h5 => ?_) _ c _ ⟨hwf, ?_, fun t => ?_, rfl, fun n => by simp [c], fun n => by simp [c], fun n hn => ?_, fun p u hp => by simp [c] at hp⟩ rfl ⟨rfl, rfl⟩ (Kept.refl _ _) hev
    · have fin : outR P fn st' = some r → a'.defers = [] ∧ ∃ v, (results fn a'.tmps).run P c'.w = .ok v c'.w ∧ (∃ u, Ending.returned v = .returned u ∧ Below w.heap.size w c'.w ∧ ResV cx c'.w A0 (fun b => w.heap.size ≤ b) r u) := by
        intro ho
        unfold outR at ho
        split at ho
        · rename_i r0 hr0
          split at ho
          · rename_i hmix
            simp only [Option.some.injEq] at ho
            subst ho
            obtain ⟨u, h6, h7⟩ := outV_spec ok h1 hr0 (by simpa using hmix)
            rw [h2, h3.1] at h7
            exact ⟨h1.defers, u, h6, u, rfl, h4.low, resV_ro ok h7⟩
          · simp at ho
        · simp at ho
      cases e with
      | normal => exact fin h5
      | ret => exact fin h5
      | _ => simp [Kn.on] at h5
    · simp [hargs.1]
    · show RepV cx c _ _
      by_cases ht : t < l.length
      · have htu : t < us.length := by rw [hargs.1]; exact ht
        have e1 : (l.map Sum.inl ++ List.replicate (fn.ntmps - l.length) (junk : V cx.ty)).getD t junk = .inl l[t] := by
          simp [List.getD, List.getElem?_append_left, ht]
        have e2 : (us.toArray ++ Array.replicate (fn.ntmps - us.toArray.size) undef).getD t undef = us[t] := by
          simp [Array.getD_eq_getD_getElem?, Array.getElem?_append, htu]
        rw [e1, e2]
        exact ArgA.rep hrd (hargs.2 t _ _ (List.getElem?_eq_getElem ht) (List.getElem?_eq_getElem htu))
      · have e1 : (l.map Sum.inl ++ List.replicate (fn.ntmps - l.length) (junk : V cx.ty)).getD t junk = junk := by
          simp only [List.getD]
          rw [List.getElem?_append_right (by simp; omega)]
          simp only [List.length_map, List.getElem?_replicate]
          split <;> rfl
        rw [e1]
        trivial
    · rcases hn with ⟨tk, ht, _⟩ | hn | hn
      · simp [c] at ht
      · simp [c] at hn
      · simp [c] at hn
  · simp at hev

theorem sat_r {P : Program} {cx : Cx} (ok : cx.Ok) (hZ : cx.POk P) (hm : P.follows .mixedOrders = true) {f : FuncId} {fn : Func} (hf : P.funcs[f]? = some fn) {X R : Type} (a : Args cx.ty X) (enc : R → V cx.ty) (d : R) (m : X → Option R)
    (ev : Env cx) (hK : KOk P cx ev.Kc) (hKw : KwOk P cx ev.Kw) (g : Nat → X → Option R) (he : ∀ L x, evFR P ev (loopN L) fn (a.enc x) = (g L x).map enc) (hg : ∀ x t, m x = some t → ∃ L, g L x = some t) (_hs : ∀ t, noRoV (enc t) = true ∨ noOwnV (enc t) = true) :
    Sat P cx f (fnT a enc d m) := by
  refine satr_of_ev ok hZ hm hf fun as r h => ?_
  obtain ⟨x, t, rfl, hx, rfl⟩ := fnT_inv h
  obtain ⟨L, hL⟩ := hg x t hx
  exact ⟨ev, L, hK, hKw, by rw [he, hL]; rfl⟩
end
end Go.VM
