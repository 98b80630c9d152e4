/- A part of the proof of FnExactSpreadNode: LgPt, LgPu. -/
import Derived.Test.YtdnjjhambjafoaaGreatLgPc
import Derived.Test.YtdnjjhambjafoaaGreatVmPl
set_option linter.unusedVariables false
set_option maxHeartbeats 0
set_option linter.unusedSimpArgs false
namespace Go.Proofs.Tryz
open Go Go.VM Go.RowKit
abbrev Ml := Int × Int × Int × Int × Int × Int × Int × Bool × List En
def dM : Ml := (0, 0, 0, 0, 0, 0, 0, false, [])
instance decM1 : DecidableEq (Bool × List En) := inferInstance
instance decM2 : DecidableEq (Int × Bool × List En) := instDecidableEqProd
instance decM3 : DecidableEq (Int × Int × Bool × List En) := instDecidableEqProd
instance decM4 : DecidableEq (Int × Int × Int × Bool × List En) := instDecidableEqProd
instance decM5 : DecidableEq (Int × Int × Int × Int × Bool × List En) := instDecidableEqProd
instance decM6 : DecidableEq (Int × Int × Int × Int × Int × Bool × List En) := instDecidableEqProd
instance decM7 : DecidableEq (Int × Int × Int × Int × Int × Int × Bool × List En) := instDecidableEqProd
instance decMl : DecidableEq Ml := (instDecidableEqProd : DecidableEq (Int × Int × Int × Int × Int × Int × Int × Bool × List En))
def enM (x : Ml) : List En := x.2.2.2.2.2.2.2.2
def m20 (x : Ml × Ml) : Option Bool := if (enM x.1).length ≤ mid then some (decide (x.1 = x.2)) else none
theorem bifeqB {a b : Bool} {o : Option Bool} {p : Prop} [Decidable p] (h : a = b → o = some (decide p)) (h2 : ¬ a = b → ¬ p) : (bif !(a == b) then some false else o) = some (decide p) := by
  by_cases hp : a = b
  · rw [show (a == b) = true by simpa using hp]; exact h hp
  · rw [show (a == b) = false by simpa using hp, df (h2 hp)]; rfl
theorem sat20 : Sat prog cxT 20 (c20 m20) := s20 m57 sat57 m20 fun x t h => by
  obtain ⟨⟨a, b, c, d, e, f, g, o, l⟩, a', b', c', d', e', f', g', o', l'⟩ := x
  unfold m20 at h
  split at h
  · rename_i hc
    cases h
    have hc : l.length ≤ 1000000000 := hc
    refine ⟨0, ?_⟩
    show g20 m57 0 a b c d e f g o l a' b' c' d' e' f' g' o' l' = _
    unfold g20
    rw [show m57 (l, l') = some (decide (l = l')) from if_pos (by simp only; omega), tst_some]
    refine bifeq (fun e1 => bifeq (fun e2 => bifeq (fun e3 => bifeq (fun e4 => bifeq (fun e5 => bifeq (fun e6 => bifeq (fun e7 => bifeqB (fun e8 => bifeq2 (fun e9 => ?_) ?_) ?_) ?_) ?_) ?_) ?_) ?_) ?_) ?_
    · subst e1 e2 e3 e4 e5 e6 e7 e8 e9; simp
    all_goals intro e h; simp only [Prod.mk.injEq] at h; obtain ⟨q1, q2, q3, q4, q5, q6, q7, q8, q9⟩ := h; first | exact e q1 | exact e q2 | exact e q3 | exact e q4 | exact e q5 | exact e q6 | exact e q7 | exact e q8 | exact e q9
  · cases h
theorem el74 (m : Ml × Ml → Option Bool) (L : Nat) (a b : List Ml) : ∀ (n : Nat) (i : Int) (k : Option Bool), l74_0 m L a b n i k = eqL dM m a b n i k
  | 0, _, _ => rfl
  | n + 1, i, k => by
    unfold l74_0 eqL
    simp only [el74 m L a b n]
    rfl
def enOk (l : List Ml) : Prop := ∀ x ∈ l, (enM x).length ≤ mid
instance (l : List Ml) : Decidable (enOk l) := by unfold enOk; infer_instance
def m74 (x : List Ml × List Ml) : Option Bool := if x.1.length ≤ 1000000000000 ∧ enOk x.1 then some (decide (x.1 = x.2)) else none
theorem sat74 : Sat prog cxT 74 (c74 m74) := s74 m20 sat20 m74 fun x t h => by
  obtain ⟨a, b⟩ := x
  unfold m74 at h
  split at h
  · rename_i hc
    cases h
    obtain ⟨hc, hE⟩ := hc
    have hc : a.length ≤ 1000000000000 := hc
    refine ⟨a.length + 1, ?_⟩
    show g74 m20 (a.length + 1) a b = some (decide (a = b))
    unfold g74
    refine bifeq (fun e => ?_) fun e h => e (by rw [h])
    rw [el74]
    refine (eqL_ok dM m20 a b (by omega) (by omega) (fun x hx y _ => if_pos (hE x hx)) _ _ 0 (by omega) (by omega)).trans ?_
    simp only [List.drop_zero]
    split <;> rename_i hh <;> simp [hh]
  · cases h
def mkM (x : Ml) (v : Int) : Ml := (v, v + 1, v + 2, v + 3, v + 4, v + 5, v + 6, (Int.tmod (v + 7) 3 == 0), mkR mkE 9 (enM x).length (v + 8))
def wM (x : Ml) : Int := 8 + 9 * ((enM x).length : Int)
theorem wM_mk (x : Ml) (v : Int) : wM (mkM x v) = wM x := by unfold wM mkM enM; simp only [mkR_len]
theorem mkM_mk (x : Ml) (v : Int) : mkM (mkM x v) v = mkM x v := by unfold mkM enM; simp only [mkR_len]
theorem wM_pos (x : Ml) : 0 ≤ wM x := by unfold wM; omega
def m77 (x : List Ml × Int) : Option (Int × List Ml) := if x.1.length ≤ 1000000000 ∧ 0 ≤ x.2 ∧ x.2 + sumW wM x.1 ≤ 1000000000 then some (x.2 + sumW wM x.1, mkV mkM wM x.1 x.2) else none
theorem st33 (L : Nat) (a0 : List Ml) (a1 : Int) (n : Nat) (o : List Ml) (v : Int) (i : Nat) (K : List Ml → Int → Option (Int × List Ml)) (ho : o.length ≤ 1000000000) (hi : i < o.length) (h0 : 0 ≤ v) (h1 : v ≤ 10000000000) (hq : (enM (o.getD i dM)).length ≤ 1000000000) :
    l77_0 m75 L a0 a1 (n + 1) o v i K = l77_0 m75 L a0 a1 n (o.set i (mkM (o.getD i dM) v)) (v + wM (o.getD i dM)) ((i + 1 : Nat) : Int) K := by
  conv => lhs; unfold l77_0 p77_0 p77_1 p77_2 p77_3 p77_4 p77_5 p77_6 p77_7
  simp (disch := omega) only [List.length_modify, dt, wi, cond_true, Bool.and_self, Int.toNat_natCast, modify_modify', getD_modify]
  have hd : (o.getD i (0, 0, 0, 0, 0, 0, 0, false, []) : Ml) = o.getD i dM := rfl
  simp only [hd]
  have e8 : v + 1 + 1 + 1 + 1 + 1 + 1 + 1 + 1 = v + 8 := by omega
  have e47 : m75 ((o.getD i dM).2.2.2.2.2.2.2.2, v + 8) = some (v + 8 + 9 * ((enM (o.getD i dM)).length : Int), mkR mkE 9 (enM (o.getD i dM)).length (v + 8)) := if_pos ⟨hq, by simp only; omega, by simp only; omega⟩
  rw [e8, e47, tst_some, modify_at dM o i _ hi, List.set_set, show (i : Int) + 1 = ((i + 1 : Nat) : Int) by omega, show v + 8 + 9 * ((enM (o.getD i dM)).length : Int) = v + wM (o.getD i dM) by unfold wM; omega]
  congr 2
  unfold mkM
  rw [show v + 1 + 1 = v + 2 by omega, show v + 2 + 1 = v + 3 by omega, show v + 3 + 1 = v + 4 by omega, show v + 4 + 1 = v + 5 by omega, show v + 5 + 1 = v + 6 by omega, show v + 6 + 1 = v + 7 by omega]
theorem sumW_le {l : List Ml} {v B : Int} (h0 : 0 ≤ v) (h : v + sumW wM l ≤ B) : ∀ x ∈ l, 9 * ((enM x).length : Int) ≤ B := fun x hx => by
  have := sumW_mem (w := wM) (fun y _ => wM_pos y) x hx
  have h9 : wM x = 8 + 9 * ((enM x).length : Int) := rfl
  omega
theorem sat77 : SatW prog cxT 77 (c77 m77).nres (c77 m77).n (c77 m77).F := s77 m75 sat75 m77 fun x t h => by
  obtain ⟨o, v⟩ := x
  unfold m77 at h
  split at h
  · rename_i hc
    cases h
    simp only at hc
    obtain ⟨h1, h2, h3⟩ := hc
    refine ⟨o.length + 1, ?_⟩
    show g77 m75 (o.length + 1) o v = _
    unfold g77
    refine (markRunV dM mkM wM 1000000000 wM_pos (fun x => (enM x).length ≤ 1000000000) o.length (fun n o' v' i' K => l77_0 m75 (o.length + 1) o v n o' v' i' K)
      (fun n o' v' i K hl k1 k2 k3 k4 => ?_) (fun n o' v' i K hl k1 => ?_) (fun w0_0 w0_1 => some (w0_1, w0_0)) o [] v (o.length + 1) rfl (by omega) h2 h3 (fun x hx => by have := sumW_le h2 h3 x hx; omega)).trans ?_
    · exact st33 _ _ _ _ _ _ _ _ (by omega) k1 k2 (by omega) k4
    · show l77_0 _ _ _ _ (n + 1) o' v' i K = _
      conv => lhs; unfold l77_0 p77_0 p77_1 p77_2 p77_3 p77_4 p77_5 p77_6 p77_7
      rw [df (by omega), cond_false]
    · simp
  · cases h
def hdM (x : List Ml × Int) : Prop := x.1.length ≤ 1000000000 ∧ 0 ≤ x.2 ∧ x.2 + sumW wM x.1 ≤ 1000000000 ∧ x.1 = mkV mkM wM x.1 x.2
instance (x : List Ml × Int) : Decidable (hdM x) := by unfold hdM; infer_instance
def m79 (x : List Ml × Int) : Option Int := if hdM x then some (x.2 + sumW wM x.1) else none
theorem st35 (L : Nat) (a0 : List Ml) (a1 : Int) (n : Nat) (v : Int) (i : Nat) (K : Int → Option Int) (ho : a0.length ≤ 1000000000) (hi : i < a0.length) (h0 : 0 ≤ v) (h1 : v ≤ 1000000000) (hq : (enM (a0.getD i dM)).length ≤ 1000000000) (hm : a0.getD i dM = mkM (a0.getD i dM) v) :
    l79_0 m109 L a0 a1 (n + 1) v i K = l79_0 m109 L a0 a1 n (v + wM (a0.getD i dM)) ((i + 1 : Nat) : Int) K := by
  conv => lhs; unfold l79_0
  have hd : (a0.getD i (0, 0, 0, 0, 0, 0, 0, false, []) : Ml) = a0.getD i dM := rfl
  simp (disch := omega) only [dt, wi, cond_true, Bool.and_self, Int.toNat_natCast, hd]
  have hw : wM (a0.getD i dM) = 8 + 9 * ((enM (a0.getD i dM)).length : Int) := rfl
  obtain ⟨N, hN⟩ : ∃ N, N = (enM (a0.getD i dM)).length := ⟨_, rfl⟩
  have hm2 : a0.getD i dM = (v, v + 1, v + 2, v + 3, v + 4, v + 5, v + 6, (Int.tmod (v + 7) 3 == 0), mkR mkE 9 N (v + 8)) := by rw [hN]; exact hm
  rw [← hN] at hw hq
  rw [hw, hm2]
  have e8 : v + 1 + 1 + 1 + 1 + 1 + 1 + 1 + 1 = v + 8 := by omega
  have e7 : v + 1 + 1 + 1 + 1 + 1 + 1 + 1 = v + 7 := by omega
  have e49 : m109 (mkR mkE 9 N (v + 8), v + 8) = some (v + 8 + 9 * (N : Int)) := by
    unfold m109
    rw [if_pos (hd_mk hq (by omega) (by omega))]
    simp only [mkR_len]
  simp (disch := omega) only [bneF, cond_false]
  rw [e8, e7, e49]
  simp only [tst_some, beq_self_eq_true, Bool.not_true, cond_false]
  rw [df (by omega), cond_false, show (i : Int) + 1 = ((i + 1 : Nat) : Int) by omega, show v + 8 + 9 * (N : Int) = v + (8 + 9 * (N : Int)) by omega]
end Go.Proofs.Tryz

namespace Go.Proofs.Tryz
open Go Go.VM Go.RowKit
theorem sat79 : Sat prog cxT 79 (c79 m79) := s79 m109 sat109 m79 fun x t h => by
  obtain ⟨a, v⟩ := x
  unfold m79 at h
  split at h
  · rename_i hc
    cases h
    obtain ⟨h1, h2, h3, h4⟩ := hc
    simp only at h1 h2 h3 h4
    refine ⟨a.length + 1, ?_⟩
    show g79 m109 (a.length + 1) a v = _
    unfold g79
    exact heldRunV dM mkM wM 1000000000 wM_pos wM_mk (fun x => (enM x).length ≤ 1000000000) a (fun n v' i' K => l79_0 m109 (a.length + 1) a v n v' i' K)
      (fun n v' i K k1 k2 k3 k4 k5 => st35 _ _ _ _ _ _ _ h1 k1 k2 k3 k4 k5)
      (fun n v' i K k1 => by
        show l79_0 _ _ _ _ (n + 1) v' i K = _
        conv => lhs; unfold l79_0
        rw [df (by omega), cond_false]) (fun w0_1 => some w0_1) a [] v (a.length + 1) rfl (by omega) h2 h3 (fun x hx => by have := sumW_le h2 h3 x hx; omega) h4
  · cases h
abbrev Nr := Int × Int × Int × Int × Int × List En × Int × Int × List Int × List Int × List Int × List Ml
def ndR (r : Nr) : Nd := (r.2.1, r.2.2.1, r.2.2.2.1, r.2.2.2.2.1, r.2.2.2.2.2.1, r.2.2.2.2.2.2.1, r.2.2.2.2.2.2.2.1, r.2.2.2.2.2.2.2.2.1, r.2.2.2.2.2.2.2.2.2.1, r.2.2.2.2.2.2.2.2.2.2.1)
def sdR (r : Nr) : List Ml := r.2.2.2.2.2.2.2.2.2.2.2
def mkNr (c : Int) (n : Nd) (s : List Ml) : Nr := (c, n.1, n.2.1, n.2.2.1, n.2.2.2.1, n.2.2.2.2.1, n.2.2.2.2.2.1, n.2.2.2.2.2.2.1, n.2.2.2.2.2.2.2.1, n.2.2.2.2.2.2.2.2.1, n.2.2.2.2.2.2.2.2.2, s)
def nrOk (r : Nr) : Prop := nLen (ndR r) 100000000 ∧ (sdR r).length ≤ 1000000000 ∧ enOk (sdR r) ∧ k4 (ndR r) 1 + sumW wM (sdR r) ≤ 1000000000
instance (r : Nr) : Decidable (nrOk r) := by unfold nrOk; infer_instance
instance decR1 : DecidableEq (List Int × List Ml) := inferInstance
instance decR2 : DecidableEq (List Int × List Int × List Ml) := instDecidableEqProd
instance decR3 : DecidableEq (List Int × List Int × List Int × List Ml) := instDecidableEqProd
instance decR4 : DecidableEq (Int × List Int × List Int × List Int × List Ml) := instDecidableEqProd
instance decR5 : DecidableEq (Int × Int × List Int × List Int × List Int × List Ml) := instDecidableEqProd
instance decR6 : DecidableEq (List En × Int × Int × List Int × List Int × List Int × List Ml) := instDecidableEqProd
instance decR7 : DecidableEq (Int × List En × Int × Int × List Int × List Int × List Int × List Ml) := instDecidableEqProd
instance decR8 : DecidableEq (Int × Int × List En × Int × Int × List Int × List Int × List Int × List Ml) := instDecidableEqProd
instance decR9 : DecidableEq (Int × Int × Int × List En × Int × Int × List Int × List Int × List Int × List Ml) := instDecidableEqProd
instance decR10 : DecidableEq (Int × Int × Int × Int × List En × Int × Int × List Int × List Int × List Int × List Ml) := instDecidableEqProd
instance decNr : DecidableEq Nr := (instDecidableEqProd : DecidableEq (Int × Int × Int × Int × Int × List En × Int × Int × List Int × List Int × List Int × List Ml))
def m23 (x : Nr × Nr) : Option Bool := if nrOk x.1 then some (decide (x.1 = x.2)) else none
theorem sat23 : Sat prog cxT 23 (c23 m23) := s23 m15 m74 sat15 sat74 m23 fun x t h => by
  obtain ⟨⟨q, a, b, c, d, lg, e, f, vt, nx, mt, sd⟩, q', a', b', c', d', lg', e', f', vt', nx', mt', sd'⟩ := x
  unfold m23 at h
  split at h
  · rename_i hc
    cases h
    obtain ⟨h1, h2, h3, h4⟩ := hc
    refine ⟨0, ?_⟩
    show g23 m15 m74 0 q a b c d lg e f vt nx mt sd q' a' b' c' d' lg' e' f' vt' nx' mt' sd' = _
    unfold g23
    rw [show m15 ((a, b, c, d, lg, e, f, vt, nx, mt), (a', b', c', d', lg', e', f', vt', nx', mt')) = some (decide ((a, b, c, d, lg, e, f, vt, nx, mt) = (a', b', c', d', lg', e', f', vt', nx', mt'))) from if_pos (nLen_up h1 (by decide)), tst_some,
      show m74 (sd, sd') = some (decide (sd = sd')) from if_pos ⟨Nat.le_trans h2 (by decide), h3⟩, tst_some]
    refine bifeq (fun e1 => bifeq2 (fun e2 => bifeq2 (fun e3 => ?_) ?_) ?_) ?_
    · subst e1 e3; simp only [Prod.mk.injEq] at e2; obtain ⟨rfl, rfl, rfl, rfl, rfl, rfl, rfl, rfl, rfl, rfl⟩ := e2; simp
    all_goals intro e h; simp only [Prod.mk.injEq] at h; obtain ⟨q1, q2, q3, q4, q5, q6, q7, q8, q9, q10, q11, q12⟩ := h; first | exact e q1 | exact e q12 | exact e (by rw [q2, q3, q4, q5, q6, q7, q8, q9, q10, q11])
  · cases h
def m25 (x : Nr × Int) : Option (Int × Nr) := if nrOk x.1 ∧ x.2 = 1 then some (k4 (ndR x.1) 1 + sumW wM (sdR x.1), mkNr x.1.1 (mkN (ndR x.1) 1) (mkV mkM wM (sdR x.1) (k4 (ndR x.1) 1))) else none
theorem k4_pos {n : Nd} {v : Int} (h : 0 ≤ v) : 0 ≤ k4 n v := by unfold k4 k3 k2 k1; omega
theorem sat25 : SatW prog cxT 25 (c25 m25).nres (c25 m25).n (c25 m25).F := s25 m24 m77 sat24 sat77 m25 fun x t h => by
  obtain ⟨⟨q, a, b, c, d, lg, e, f, vt, nx, mt, sd⟩, v⟩ := x
  unfold m25 at h
  split at h
  · rename_i hc
    cases h
    obtain ⟨⟨h1, h2, h3, h4⟩, rfl⟩ := hc
    refine ⟨0, ?_⟩
    show g25 m24 m77 0 q a b c d lg e f vt nx mt sd 1 = _
    unfold g25
    rw [show m24 ((a, b, c, d, lg, e, f, vt, nx, mt), 1) = some (k4 (a, b, c, d, lg, e, f, vt, nx, mt) 1, mkN (a, b, c, d, lg, e, f, vt, nx, mt) 1) from if_pos ⟨h1, by simp only; omega, by simp only; omega⟩, tst_some,
      show m77 (sd, k4 (a, b, c, d, lg, e, f, vt, nx, mt) 1) = some (k4 (a, b, c, d, lg, e, f, vt, nx, mt) 1 + sumW wM sd, mkV mkM wM sd (k4 (a, b, c, d, lg, e, f, vt, nx, mt) 1)) from if_pos ⟨h2, k4_pos (by omega), h4⟩, tst_some]
    rfl
  · cases h
def hdR (r : Nr) : Prop := nrOk r ∧ ndR r = mkN (ndR r) 1 ∧ sdR r = mkV mkM wM (sdR r) (k4 (ndR r) 1)
instance (r : Nr) : Decidable (hdR r) := by unfold hdR; infer_instance
def m26 (x : Nr × Int) : Option Int := if hdR x.1 ∧ x.2 = 1 then some (k4 (ndR x.1) 1 + sumW wM (sdR x.1)) else none
theorem sat26 : Sat prog cxT 26 (c26 m26) := s26 m78 m79 sat78 sat79 m26 fun x t h => by
  obtain ⟨⟨q, a, b, c, d, lg, e, f, vt, nx, mt, sd⟩, v⟩ := x
  unfold m26 at h
  split at h
  · rename_i hc
    cases h
    obtain ⟨⟨⟨h1, h2, h3, h4⟩, h5, h6⟩, rfl⟩ := hc
    refine ⟨0, ?_⟩
    show g26 m78 m79 0 q a b c d lg e f vt nx mt sd 1 = _
    unfold g26
    have hk := k4_pos (n := (a, b, c, d, lg, e, f, vt, nx, mt)) (v := 1) (by omega)
    have hs := sumW_nonneg (w := wM) (l := sd) fun y _ => wM_pos y
    rw [show m78 ((a, b, c, d, lg, e, f, vt, nx, mt), 1) = some (k4 (a, b, c, d, lg, e, f, vt, nx, mt) 1) from if_pos ⟨h1, by simp only; omega, by simp only; omega, h5⟩, tst_some, df (by omega), cond_false,
      show m79 (sd, k4 (a, b, c, d, lg, e, f, vt, nx, mt) 1) = some (k4 (a, b, c, d, lg, e, f, vt, nx, mt) 1 + sumW wM sd) from if_pos ⟨h2, hk, h4, h6⟩, tst_some, df (by omega), cond_false]
    rfl
  · cases h
theorem enM_mk (x : Ml) (v : Int) : (enM (mkM x v)).length = (enM x).length := by unfold enM mkM; simp only [mkR_len]; rfl
theorem hdR_mk {r : Nr} (h : nrOk r) : hdR (mkNr r.1 (mkN (ndR r) 1) (mkV mkM wM (sdR r) (k4 (ndR r) 1))) := by
  obtain ⟨h1, h2, h3, h4⟩ := h
  have e1 : ndR (mkNr r.1 (mkN (ndR r) 1) (mkV mkM wM (sdR r) (k4 (ndR r) 1))) = mkN (ndR r) 1 := rfl
  have e2 : sdR (mkNr r.1 (mkN (ndR r) 1) (mkV mkM wM (sdR r) (k4 (ndR r) 1))) = mkV mkM wM (sdR r) (k4 (ndR r) 1) := rfl
  unfold hdR nrOk
  rw [e1, e2, k4_mk, mkV_sum wM_mk, mkV_len]
  refine ⟨⟨(mkN_len _ _).2 h1, h2, fun x hx => ?_, h4⟩, (mkN_mk _ _).symm, (mkV_mk wM_mk mkM_mk _ _).symm⟩
  obtain ⟨y, hy, v, rfl⟩ := mkV_mem hx
  rw [enM_mk]
  exact h3 y hy
def m64 (c : Int) : Option Nr := some (c, 0, 0, 0, 0, [], 0, 0, [], [], [], [])
theorem sat64 : Sat prog cxT 64 (c64 m64) := s64 m64 fun x t h => by cases h; exact ⟨0, rfl⟩
theorem bare_ok (c i p t v r k : Int) : nrOk (c, i, p, t, v, [], r, k, [], [], [], []) :=
  ⟨⟨Nat.zero_le _, Nat.zero_le _, Nat.zero_le _, Nat.zero_le _⟩, Nat.zero_le _, fun x hx => (by cases hx), by simp [k4, k3, k2, k1, ndR, sdR, sumW]⟩
end Go.Proofs.Tryz
