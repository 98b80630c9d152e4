/- A part of the proof of FnExactSameConfigs: L5Pe, L5Pf, L5Pg, L5Top. -/
import Derived.Test.YtfncedbejffggaaL5Pa
import Derived.Test.YtfncedbejffggaaL5Fe
import Derived.Test.YtfncedbejffggaaVmOpen
set_option maxHeartbeats 0
set_option linter.unusedVariables false
set_option linter.unusedSimpArgs false
namespace Go.Proofs.Try
open Go Go.VM Go.RowKit

/-! ### The program's ConfigFault -/
/-- The first place of which p is not so. -/
def low {α : Type} (p : α → Bool) : List α → Nat
  | [] => 0
  | x :: r => if p x then low p r + 1 else 0
instance (bs : List Bk) : Decidable (ris bs) := by
  have : ris bs ↔ ∀ j, j < bs.length → ∀ i, i < j → (bs.getD i dBk).1 < (bs.getD j dBk).1 := ⟨fun h j hj i hi => h i j hi hj, fun h i j hi hj => h j hj i hi⟩
  exact decidable_of_iff _ this.symm
def orI : List Int → Int
  | [] => 0
  | x :: r => if x = 0 then orI r else x
theorem p93 (L : Nat) (a : List Int) (ha : a.length ≤ big) : ∀ (n i : Nat), i ≤ a.length → a.length < n + i → l93_0 L a n i (some 0) = some (orI (a.drop i))
  | 0, i, h2, h3 => by omega
  | n + 1, i, h2, h3 => by
    unfold l93_0
    unfold big at ha
    by_cases hi : i < a.length
    · rw [Int.toNat_natCast]
      simp (disch := omega) only [dt, wi, cond_true, Bool.and_self]
      rw [drop_cons 0 hi]
      unfold orI
      by_cases h0 : a.getD i 0 = 0
      · rw [bneF h0, cond_false, if_pos h0]; exact p93 L a ha n (i + 1) (by omega) (by omega)
      · rw [bneT h0, cond_true, if_neg h0]
    · simp (disch := omega) only [df, cond_false]
      rw [List.drop_eq_nil_of_le (by omega)]; rfl
def m93 (a : List Int) : Option Int := if a.length ≤ big then some (orI a) else none
theorem sat93 : Sat prog cxT 93 (c93 m93) := s93 m93 fun x t h => by
  unfold m93 at h
  split at h
  · rename_i hc
    cases h
    exact ⟨x.length + 1, p93 _ x hc _ 0 (by omega) (by omega)⟩
  · cases h
def cmpV (a b : Vp) : Int := orI [cmpI a.1 b.1, cmpI a.2.1 b.2.1, cmpI a.2.2.1 b.2.2.1]
theorem sat53 : Sat prog cxT 53 (c53 fun x => some (cmpV x.1 x.2)) := s53 _ m93 sat85 sat93 _ fun x t h => by
  obtain ⟨⟨a, b, c, d⟩, a', b', c', d'⟩ := x
  cases h
  exact ⟨0, rfl⟩
/-! names -/
/-! ConfigFault -/
end Go.Proofs.Try

set_option maxHeartbeats 0
set_option linter.unusedVariables false
set_option linter.unusedSimpArgs false
namespace Go.Proofs.Try
open Go Go.VM Go.RowKit

theorem small_ok {c : Cg} (h : ¬ szv 1048576 (wC c) < 0) : okM c ∧ okC c := by
  obtain ⟨h1, h2, h3⟩ := wC_small (c := c) (by omega)
  unfold okM okC mid big
  exact ⟨⟨by omega, by omega, fun v hv => by have := h3 v hv; omega⟩, by omega, by omega, fun v hv => by have := h3 v hv; omega⟩
theorem sz_at {c : Cg} (h : okZ c) : m17 (c, 1048576) = some (szv 1048576 (wC c)) := if_pos ⟨by simp only; omega, by simp only; omega, h⟩

/-! FnExactConfigFault -/
def m4 (c : Cg) : Option Bool := if okZ c then some true else none
/-! BackendAt -/
/-! VipFor -/
abbrev Fl := Int × Int × Int × Int × Int
/-- Vips rise. -/
def risV (vs : List Vp) : Prop := ∀ i j, i < j → j < vs.length → beh (vs.getD i dVp) (vs.getD j dVp) = true
instance (vs : List Vp) : Decidable (risV vs) := by
  have : risV vs ↔ ∀ j, j < vs.length → ∀ i, i < j → beh (vs.getD i dVp) (vs.getD j dVp) = true := ⟨fun h j hj i hi => h i j hi hj, fun h i j hi hj => h j hj i hi⟩
  exact decidable_of_iff _ this.symm
theorem cmpV_zero {a b : Vp} : cmpV a b = 0 ↔ (a.1 = b.1 ∧ a.2.1 = b.2.1 ∧ a.2.2.1 = b.2.2.1) := by
  unfold cmpV orI orI orI orI
  by_cases h1 : cmpI a.1 b.1 = 0
  · rw [if_pos h1]
    by_cases h2 : cmpI a.2.1 b.2.1 = 0
    · rw [if_pos h2]
      by_cases h3 : cmpI a.2.2.1 b.2.2.1 = 0
      · rw [if_pos h3]; simp [cmpI_zero.1 h1, cmpI_zero.1 h2, cmpI_zero.1 h3]
      · rw [if_neg h3]; exact ⟨fun h => absurd h h3, fun h => absurd (cmpI_zero.2 h.2.2) h3⟩
    · rw [if_neg h2]; exact ⟨fun h => absurd h h2, fun h => absurd (cmpI_zero.2 h.2.1) h2⟩
  · rw [if_neg h1]; exact ⟨fun h => absurd h h1, fun h => absurd (cmpI_zero.2 h.1) h1⟩
end Go.Proofs.Try

set_option maxHeartbeats 0
set_option linter.unusedVariables false
set_option linter.unusedSimpArgs false
namespace Go.Proofs.Try
open Go Go.VM Go.RowKit

/-! ### Configurations held against each other -/
theorem el75 (L : Nat) (a b : List Int) : ∀ (n : Nat) (i : Int) (k : Option Bool), l75_0 L a b n i k = eqL 0 (fun x => some (decide (x.1 = x.2))) a b n i k
  | 0, _, _ => rfl
  | n + 1, i, k => by
    unfold l75_0 eqL
    simp only [el75 L a b n, tst_some]
    congr 2
theorem el110 (L : Nat) (a b : List Int) : ∀ (n : Nat) (i : Int) (k : Option Bool), l110_0 L a b n i k = eqL 0 (fun x => some (decide (x.1 = x.2))) a b n i k
  | 0, _, _ => rfl
  | n + 1, i, k => by
    unfold l110_0 eqL
    simp only [el110 L a b n, tst_some]
    congr 2
theorem eq_row {α : Type} [DecidableEq α] (d : α) (f : α × α → Option Bool) (a b : List α) (ha : a.length ≤ big) (hf : ∀ x ∈ a, ∀ y ∈ b, f (x, y) = some (decide (x = y))) : (bif ((a.length : Int) != (b.length : Int)) then some false else eqL d f a b (a.length + 1) 0 (some true)) = some (decide (a = b)) := by
  have ha' : a.length ≤ 1000000000000 := ha
  refine bifeq (fun e => ?_) fun e h => e (by rw [h])
  refine (eqL_ok d f a b (by omega) (by omega) hf _ _ 0 (by omega) (by omega)).trans ?_
  simp only [List.drop_zero]
  split <;> rename_i hh <;> simp [hh]
theorem sat75 : Sat prog cxT 75 (c75 m117) := s75 m117 fun x t h => by
  obtain ⟨a, b⟩ := x
  unfold m117 at h
  split at h
  · rename_i hc
    cases h
    refine ⟨a.length + 1, ?_⟩
    show g75 (a.length + 1) a b = some (decide (a = b))
    unfold g75
    rw [el75]
    exact eq_row 0 _ a b hc (fun _ _ _ _ => rfl)
  · cases h
theorem sat110 : Sat prog cxT 110 (c110 m117) := s110 m117 fun x t h => by
  obtain ⟨a, b⟩ := x
  unfold m117 at h
  split at h
  · rename_i hc
    cases h
    refine ⟨a.length + 1, ?_⟩
    show g110 (a.length + 1) a b = some (decide (a = b))
    unfold g110
    rw [el110]
    exact eq_row 0 _ a b hc (fun _ _ _ _ => rfl)
  · cases h
theorem and5 (x y : Bk) : ((((x.1 == y.1 && x.2.1 == y.2.1) && x.2.2.1 == y.2.2.1) && x.2.2.2.1 == y.2.2.2.1) && x.2.2.2.2 == y.2.2.2.2) = decide (x = y) := by
  obtain ⟨a, b, c, d, e⟩ := x
  obtain ⟨a', b', c', d', e'⟩ := y
  by_cases h : (a, b, c, d, e) = (a', b', c', d', e')
  · rw [dt h]
    simp only [Prod.mk.injEq] at h
    obtain ⟨rfl, rfl, rfl, rfl, rfl⟩ := h
    simp
  · rw [df h]
    refine Bool.eq_false_iff.2 fun hh => h ?_
    simp only [Bool.and_eq_true, beq_iff_eq] at hh
    obtain ⟨⟨⟨⟨rfl, rfl⟩, rfl⟩, rfl⟩, rfl⟩ := hh
    rfl
theorem el76 (L : Nat) (a b : List Bk) : ∀ (n : Nat) (i : Int) (k : Option Bool), l76_0 L a b n i k = eqL dBk (fun x => some (decide (x.1 = x.2))) a b n i k
  | 0, _, _ => rfl
  | n + 1, i, k => by
    unfold l76_0 eqL
    simp only [el76 L a b n, tst_some, ← and5]
    rfl
theorem sat76 : Sat prog cxT 76 (c76 m55) := s76 m55 fun x t h => by
  obtain ⟨a, b⟩ := x
  unfold m55 at h
  split at h
  · rename_i hc
    cases h
    refine ⟨a.length + 1, ?_⟩
    show g76 (a.length + 1) a b = some (decide (a = b))
    unfold g76
    rw [el76]
    exact eq_row dBk _ a b hc (fun _ _ _ _ => rfl)
  · cases h
theorem sat78 : Sat prog cxT 78 (c78 m94) := s78 _ m117 sat53 sat110 m94 fun x t h => by
  obtain ⟨⟨a, b, c, d⟩, a', b', c', d'⟩ := x
  unfold m94 at h
  split at h
  · rename_i hc
    cases h
    refine ⟨0, ?_⟩
    show g78 _ m117 0 a b c d a' b' c' d' = some (decide ((a, b, c, d) = (a', b', c', d')))
    unfold g78
    rw [tst_some]
    show (bif cmpV (a, b, c, d) (a', b', c', d') == 0 then _ else _) = _
    by_cases h0 : cmpV (a, b, c, d) (a', b', c', d') = 0
    · rw [beq_iff_eq.2 h0, cond_true, show m117 (d, d') = some (decide (d = d')) from if_pos hc, tst_some]
      obtain ⟨h1, h2, h3⟩ := cmpV_zero.1 h0
      simp only at h1 h2 h3
      rw [h1, h2, h3]
      simp
    · rw [beq_eq_false_iff_ne.2 h0, cond_false, df]
      intro h
      simp only [Prod.mk.injEq] at h
      exact h0 (cmpV_zero.2 ⟨h.1, h.2.1, h.2.2.1⟩)
  · cases h
theorem el77 (L : Nat) (a b : List Vp) (u : Unit) : ∀ (n : Nat) (i : Int) (k : Option Bool), l77_0 m94 L a b u n i k = eqL dVp m94 a b n i k
  | 0, _, _ => rfl
  | n + 1, i, k => by unfold l77_0 eqL; simp only [el77 L a b u n]; rfl
def m77 (x : List Vp × List Vp × Unit) : Option Bool := if x.1.length ≤ big ∧ ∀ v ∈ x.1, v.2.2.2.length ≤ big then some (decide (x.1 = x.2.1)) else none
theorem sat77 : Sat prog cxT 77 (c77 m77) := s77 m94 sat78 m77 fun x t h => by
  obtain ⟨a, b, u⟩ := x
  unfold m77 at h
  split at h
  · rename_i hc
    cases h
    refine ⟨a.length + 1, ?_⟩
    show g77 m94 (a.length + 1) a b u = some (decide (a = b))
    unfold g77
    rw [el77]
    exact eq_row dVp _ a b hc.1 (fun x hx y _ => if_pos (hc.2 x hx))
  · cases h
theorem sat36 : Sat prog cxT 36 (c36 m21) := s36 m55 m77 sat76 sat77 m21 fun x t h => by
  obtain ⟨⟨a, b, c⟩, a', b', c'⟩ := x
  unfold m21 at h
  split at h
  · rename_i hc
    cases h
    refine ⟨0, ?_⟩
    show g36 m55 m77 0 a b c a' b' c' = some (decide ((a, b, c) = (a', b', c')))
    unfold g36
    rw [show m55 (b, b') = some (decide (b = b')) from if_pos hc.1, tst_some, show m77 (c, c', PUnit.unit) = some (decide (c = c')) from if_pos hc.2, tst_some]
    by_cases e1 : a = a'
    · subst e1
      by_cases e2 : b = b' <;> by_cases e3 : c = c' <;> simp [e2, e3]
    · rw [beq_eq_false_iff_ne.2 e1, cond_false, df (fun h => e1 (Prod.mk.inj h).1)]
  · cases h
theorem el35_0 (M : List Int × List Int → Option Bool) (L : Nat) (a0 : Int) (a1 : List Bk) (a2 : List Vp) (c0 : Int) (c1 : List Bk) (c2 : List Vp) (x : Int) (b : List Bk) (v : List Vp) (x' : Int) (b' : List Bk) (v' : List Vp) (k : Int → List Bk → List Vp → Int → List Bk → List Vp → Option Bool) :
    ∀ (n : Nat) (i : Int), l35_0 M L a0 a1 a2 c0 c1 c2 n x b v x' b' v' i k = eqL dBk (fun x => some (decide (x.1 = x.2))) b b' n i (k x b v x' b' v')
  | 0, _ => rfl
  | n + 1, i => by
    unfold l35_0 eqL
    simp only [el35_0 M L a0 a1 a2 c0 c1 c2 x b v x' b' v' k n, tst_some, ← and5]
    rfl
theorem vpeq (x y : Vp) (K : Option Bool) (hx : x.2.2.2.length ≤ big) : (bif x.1 != y.1 then some false else bif x.2.1 != y.2.1 then some false else bif x.2.2.1 != y.2.2.1 then some false else tst (m117 (x.2.2.2, y.2.2.2)) false fun q => bif !q then some false else K) = tst (m94 (x, y)) false fun q => bif !q then some false else K := by
  obtain ⟨a, b, c, d⟩ := x
  obtain ⟨a', b', c', d'⟩ := y
  rw [show m94 ((a, b, c, d), a', b', c', d') = some (decide ((a, b, c, d) = (a', b', c', d'))) from if_pos hx, show m117 (d, d') = some (decide (d = d')) from if_pos hx, tst_some, tst_some]
  by_cases e1 : a = a'
  · by_cases e2 : b = b'
    · by_cases e3 : c = c'
      · subst e1; subst e2; subst e3
        simp
      · rw [bneF (a := (a, b, c, d).1) (b := (a', b', c', d').1) e1, bneF (a := (a, b, c, d).2.1) (b := (a', b', c', d').2.1) e2, bneT (a := (a, b, c, d).2.2.1) (b := (a', b', c', d').2.2.1) e3, df (show ¬ (a, b, c, d) = (a', b', c', d') from fun h => e3 (by simp at h; exact h.2.2.1))]; rfl
    · rw [bneF (a := (a, b, c, d).1) (b := (a', b', c', d').1) e1, bneT (a := (a, b, c, d).2.1) (b := (a', b', c', d').2.1) e2, df (show ¬ (a, b, c, d) = (a', b', c', d') from fun h => e2 (by simp at h; exact h.2.1))]; rfl
  · rw [bneT (a := (a, b, c, d).1) (b := (a', b', c', d').1) e1, df (show ¬ (a, b, c, d) = (a', b', c', d') from fun h => e1 (by simp at h; exact h.1))]; rfl
theorem el35_2 (L : Nat) (a0 : Int) (a1 : List Bk) (a2 : List Vp) (c0 : Int) (c1 : List Bk) (c2 : List Vp) (x : Int) (b : List Bk) (v : List Vp) (x' : Int) (b' : List Bk) (v' : List Vp) (hv : ∀ w ∈ v, w.2.2.2.length ≤ big) (hl : v.length ≤ big) (k : Option Bool) :
    ∀ (n i : Nat), l35_2 m117 L a0 a1 a2 c0 c1 c2 n x b v x' b' v' (i : Int) k = eqL dVp m94 v v' n i k
  | 0, _ => rfl
  | n + 1, i => by
    have ih := el35_2 L a0 a1 a2 c0 c1 c2 x b v x' b' v' hv hl k n (i + 1)
    unfold l35_2 eqL
    have hl' : v.length ≤ 1000000000000 := hl
    by_cases hi : i < v.length
    · rw [dt (show (i : Int) < (v.length : Int) by omega), cond_true, cond_true, wi (x := (i : Int) + 1) (by omega) (by omega), show (i : Int) + 1 = ((i + 1 : Nat) : Int) from rfl, ih, ← vpeq _ _ _ (by rw [Int.toNat_natCast]; exact hv _ (getD_mem dVp hi))]
      rfl
    · rw [df (show ¬ (i : Int) < (v.length : Int) by omega), cond_false, cond_false]
theorem sat35 : Sat prog cxT 35 (c35 m21) := s35 m117 sat75 m21 fun x t h => by
  obtain ⟨⟨a, b, c⟩, a', b', c'⟩ := x
  unfold m21 at h
  split at h
  · rename_i hc
    obtain ⟨hb, hl, hv⟩ := hc
    cases h
    simp only at hb hl hv
    have hb' : b.length ≤ 1000000000000 := hb
    have hl' : c.length ≤ 1000000000000 := hl
    refine ⟨b.length + c.length + 1, ?_⟩
    show g35 m117 _ a b c a' b' c' = some (decide ((a, b, c) = (a', b', c')))
    unfold g35
    refine bifeq (fun e1 => bifeq (fun e2 => bifeq (fun e3 => ?_) fun e h => e (by simp at h; rw [h.2.2])) fun e h => e (by simp at h; rw [h.2.1])) fun e h => e (by simp at h; exact h.1)
    rw [el35_0]
    refine (eqL_ok dBk _ b b' (by omega) (by omega) (fun _ _ _ _ => rfl) _ _ 0 (by omega) (by omega)).trans ?_
    simp only [List.drop_zero]
    by_cases h1 : b = b'
    · rw [if_pos h1]
      refine (el35_2 _ a b c a' b' c' a b c a' b' c' hv hl _ _ 0).trans ?_
      refine (eqL_ok dVp m94 c c' (by omega) (by omega) (fun w hw y _ => if_pos (hv w hw)) _ _ 0 (by omega) (by omega)).trans ?_
      simp only [List.drop_zero]
      by_cases h2 : c = c' <;> simp [h1, h2, e1]
    · rw [if_neg h1, df (fun h => h1 (by simp at h; exact h.2.1))]
  · cases h
def m9 (x : Cg × Cg) : Option Bool := if okZ x.1 ∧ okZ x.2 then some true else none
theorem sat9 : Sat prog cxT 9 (c9 m9) := s9 m17 m19 m21 m21 m21 sat17 sat19 sat35 sat36 sat21 m9 fun x t h => by
  obtain ⟨⟨a, b, c⟩, a', b', c'⟩ := x
  unfold m9 at h
  split at h
  · rename_i hz
    obtain ⟨hz, hz'⟩ := hz
    cases h
    refine ⟨0, ?_⟩
    show g9 m17 m19 m21 m21 m21 0 a b c a' b' c' = some true
    unfold g9
    simp only [List.getD_cons_zero]
    rw [sz_at hz, tst_some]
    by_cases h : szv 1048576 (wC (a, b, c)) < 0
    · rw [dt h, cond_true]
    · obtain ⟨hM, hC⟩ := small_ok h
      have hr := szv_range (v := 1048576) (a := wC (a, b, c)) (by unfold wC; have := sumW_nonneg (w := wV) (l := c) fun x _ => wV_nonneg x; simp only; omega) (by omega)
      rw [df h, cond_false, show m17 ((a', b', c'), szv 1048576 (wC (a, b, c))) = some (szv (szv 1048576 (wC (a, b, c))) (wC (a', b', c'))) from if_pos ⟨by simp only; omega, by simp only; omega, hz'⟩, tst_some]
      by_cases h' : szv (szv 1048576 (wC (a, b, c))) (wC (a', b', c')) < 0
      · rw [dt h', cond_true]
      · have h2 : ¬ szv 1048576 (wC (a', b', c')) < 0 := by
          unfold szv at h' hr ⊢
          split at h'
          · omega
          · split at hr <;> split <;> omega
        obtain ⟨hM', hC'⟩ := small_ok h2
        rw [df h', cond_false, show m19 (a, b, c) = some (a, b, c) from if_pos hM]
        simp only [tst_some]
        rw [show m19 (a', b', c') = some (a', b', c') from if_pos hM']
        simp only [tst_some]
        rw [show m21 ((a, b, c), a', b', c') = some (decide ((a, b, c) = (a', b', c'))) from if_pos hC, tst_some, tst_some]
        simp only [beq_self_eq_true, Bool.not_true, cond_false]
        rw [show m21 ((a, b, c), a, b, c) = some (decide ((a, b, c) = (a, b, c))) from if_pos hC, tst_some, dt rfl]
        simp only [Bool.not_true, cond_false]
        rw [show m21 ((a', b', c'), a', b', c') = some (decide ((a', b', c') = (a', b', c'))) from if_pos hC', tst_some, dt rfl]
        rfl
  · cases h
end Go.Proofs.Try

namespace Go.Proofs.Try
open Go Go.VM Go.RowKit

theorem cells2 : prog.cellsOf 2 = 1 := by kernel_rfl
theorem cells4 : prog.cellsOf 4 = 1 := by kernel_rfl
theorem cells34 : prog.cellsOf 34 = 1 := by kernel_rfl
theorem cells46 : prog.cellsOf 46 = 1 := by kernel_rfl
theorem cells47 : prog.cellsOf 47 = 1 := by kernel_rfl
theorem cells49 : prog.cellsOf 49 = 3 := by kernel_rfl
theorem cells127 : prog.cellsOf 127 = 4 := by kernel_rfl
theorem cells129 : prog.cellsOf 129 = 5 := by kernel_rfl
def i64In (x : Int) : Prop := (Lit.int .i64 x).wf = true
def opI_good (x : List Int) : Prop := x.length ≤ maxLen ∧ ∀ y ∈ x, i64In y
def row2 (xs : List Int) : L cxT.ty := some (.inr (ro 2 xs))
theorem opI : Opens prog cxT 34 (fun x : List Int => [row2 x]) opI_good :=
  opens_slice (cx := cxT) (e := 2) (good := i64In) underlying34 cells2 (by decide) cxT_ok (opens_int (cx := cxT) underlying2)
def bk_good (b : Bk) : Prop := i64In b.1 ∧ i64In b.2.1 ∧ i64In b.2.2.1 ∧ i64In b.2.2.2.1 ∧ True
set_option maxRecDepth 100000 in
theorem opBk : Opens prog cxT 129 (fun b : Bk => [lv (.int .i64 b.1), lv (.int .i64 b.2.1), lv (.int .i64 b.2.2.1), lv (.int .i64 b.2.2.2.1), lv (.bool b.2.2.2.2)]) bk_good :=
  opens_struct underlying129 cells129 (opensF_cons (opens_int underlying2) rfl cells2 (opensF_cons (opens_int underlying2) rfl cells2 (opensF_cons (opens_int underlying2) rfl cells2 (opensF_cons (opens_int underlying2) rfl cells2 (opensF_one (l := fun x : Bool => lv (.bool x)) (opens_bool underlying4) rfl cells4)))))
def bks_good (x : List Bk) : Prop := x.length ≤ maxLen ∧ ∀ y ∈ x, bk_good y
def row129 (xs : List Bk) : L cxT.ty := some (.inr (ro 129 xs))
set_option maxRecDepth 100000 in
theorem opBks : Opens prog cxT 46 (fun x : List Bk => [row129 x]) bks_good :=
  opens_slice (cx := cxT) (e := 129) (good := bk_good) underlying46 cells129 (by decide) cxT_ok opBk
def vp_good (b : Vp) : Prop := i64In b.1 ∧ i64In b.2.1 ∧ i64In b.2.2.1 ∧ opI_good b.2.2.2
set_option maxRecDepth 100000 in
theorem opVp : Opens prog cxT 127 (fun b : Vp => [lv (.int .i64 b.1), lv (.int .i64 b.2.1), lv (.int .i64 b.2.2.1), row2 b.2.2.2]) vp_good :=
  opens_struct underlying127 cells127 (opensF_cons (opens_int underlying2) rfl cells2 (opensF_cons (opens_int underlying2) rfl cells2 (opensF_cons (opens_int underlying2) rfl cells2 (opensF_one (l := row2) opI rfl cells34))))
def vps_good (x : List Vp) : Prop := x.length ≤ maxLen ∧ ∀ y ∈ x, vp_good y
def row127 (xs : List Vp) : L cxT.ty := some (.inr (ro 127 xs))
set_option maxRecDepth 100000 in
theorem opVps : Opens prog cxT 47 (fun x : List Vp => [row127 x]) vps_good :=
  opens_slice (cx := cxT) (e := 127) (good := vp_good) underlying47 cells127 (by decide) cxT_ok opVp
def opC_good (c : Cg) : Prop := i64In c.1 ∧ bks_good c.2.1 ∧ vps_good c.2.2
def encC (c : Cg) : List (L cxT.ty) := [lv (.int .i64 c.1), row129 c.2.1, row127 c.2.2]
set_option maxRecDepth 100000 in
theorem opC : Opens prog cxT 49 encC opC_good :=
  opens_struct underlying49 cells49 (opensF_cons (opens_int underlying2) rfl cells2 (opensF_cons (l := row129) opBks rfl cells46 (opensF_one (l := row127) opVps rfl cells47)))
theorem okZ_of {c : Cg} (h : opC_good c) : okZ c := by
  have hm : maxLen ≤ 9223372036854775807 := by decide
  obtain ⟨_, ⟨h1, _⟩, h2, h3⟩ := h
  exact ⟨Nat.le_trans h1 hm, Nat.le_trans h2 hm, fun v hv => Nat.le_trans (h3 v hv).2.2.2.1 hm⟩
end Go.Proofs.Try
