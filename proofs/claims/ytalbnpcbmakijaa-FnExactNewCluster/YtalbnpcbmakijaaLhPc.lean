/- A part of the proof of FnExactNewCluster: LhPc, LhPd, LhPe. -/
import Derived.Test.YtalbnpcbmakijaaLhPa
set_option maxHeartbeats 0
set_option linter.unusedVariables false
set_option linter.unusedSimpArgs false
namespace Go.Proofs.Try
open Go Go.VM Go.RowKit

/-! ### Rows of nodes, wins and seals held against each other -/
theorem len_sumW {α : Type} {w : α → Int} (h : ∀ x, 1 ≤ w x) : ∀ l : List α, (l.length : Int) ≤ sumW w l
  | [] => Int.le_refl _
  | x :: r => by
    have h1 := h x
    have h2 := len_sumW h r
    show ((r.length + 1 : Nat) : Int) ≤ w x + sumW w r
    omega
theorem wD_1 (x : Nd) : 1 ≤ wD x := by unfold wD; omega
theorem wM_1 (x : Ml) : 1 ≤ wM x := by unfold wM; omega
theorem nLen_le {l : List Nd} {B : Nat} (h : sumW wD l ≤ (B : Int)) : ∀ x ∈ l, nLen x B := fun x hx => nLen_w (by
  have := sumW_mem (w := wD) (fun y _ => wD_pos y) x hx
  omega)
def m18 (x : List Nd × List Nd) : Option Bool := if sumW wD x.1 ≤ 1000000000 then some (decide (x.1 = x.2)) else none
theorem el18 (L : Nat) (a b : List Nd) : ∀ (n : Nat) (i : Int) (k : Option Bool), l18_0 m30 L a b n i k = eqL dN m30 a b n i k
  | 0, _, _ => rfl
  | n + 1, i, k => by
    unfold l18_0 B18_0 eqL
    simp only [bnd, el18 L a b n]
    rfl
theorem eq_row {α : Type} [DecidableEq α] {d : α} {m : α × α → Option Bool} {a b : List α} {L : Nat} {l : Nat → Int → Option Bool → Option Bool} (hl : ∀ n i k, l n i k = eqL d m a b n i k) (hL : a.length < L) (ha : a.length ≤ 1000000000000) (hm : ∀ x ∈ a, ∀ y ∈ b, m (x, y) = some (decide (x = y))) :
    (bif ((a.length : Nat) : Int) != ((b.length : Nat) : Int) then some false else l L 0 (some true)) = some (decide (a = b)) := by
  refine bifeq (fun e => ?_) fun e h => e (by rw [h])
  rw [hl]
  refine (eqL_ok d m a b (by omega) (by omega) hm _ _ 0 (by omega) (by omega)).trans ?_
  simp only [List.drop_zero]
  split <;> rename_i hh <;> simp [hh]
theorem sat18 : Sat prog cxT 18 (c18 m18) := s18 m30 sat30 m18 fun x t h => by
  obtain ⟨a, b⟩ := x
  unfold m18 at h
  split at h
  · rename_i hc
    cases h
    have hc : sumW wD a ≤ 1000000000 := hc
    have hn := len_sumW wD_1 a
    exact ⟨a.length + 1, eq_row (el18 _ a b) (Nat.lt_succ_self _) (by show a.length ≤ 1000000000000; omega) fun x hx y _ => if_pos (nLen_le hc x hx)⟩
  · cases h
abbrev Wn := Int × Int
abbrev Sl := Int × En
instance decSl : DecidableEq Sl := instDecidableEqProd
theorem sat32 : Sat prog cxT 32 (c32 fun x => some (decide (x.1 = x.2))) := s32 _ fun x t h => by
  obtain ⟨⟨a, b⟩, a', b'⟩ := x
  cases h
  refine ⟨0, bifeq (fun e1 => bifeq (fun e2 => ?_) ?_) ?_⟩
  · simp at e1 e2; simp [e1, e2]
  · intro e h; simp at h; exact e h.2
  · intro e h; simp at h; exact e h.1
theorem sat33 : Sat prog cxT 33 (c33 fun x => some (decide (x.1 = x.2))) := s33 _ sat40 _ fun x t h => by
  obtain ⟨⟨a, b⟩, a', b'⟩ := x
  cases h
  refine ⟨0, ?_⟩
  show (bif a != a' then some false else bif !decide (b = b') then some false else some true) = some (decide ((a, b) = (a', b')))
  refine bifeq (fun e1 => ?_) ?_
  · subst e1; rw [bifn]; simp
  · intro e h; simp at h; exact e h.1
def m20 (x : List Wn × List Wn) : Option Bool := if x.1.length ≤ 1000000000 then some (decide (x.1 = x.2)) else none
theorem el20 (L : Nat) (a b : List Wn) : ∀ (n : Nat) (i : Int) (k : Option Bool), l20_0 (fun x => some (decide (x.1 = x.2))) L a b n i k = eqL (0, 0) (fun x => some (decide (x.1 = x.2))) a b n i k
  | 0, _, _ => rfl
  | n + 1, i, k => by
    unfold l20_0 B20_0 eqL
    simp only [bnd, el20 L a b n]
theorem sat20 : Sat prog cxT 20 (c20 m20) := s20 _ sat32 m20 fun x t h => by
  obtain ⟨a, b⟩ := x
  unfold m20 at h
  split at h
  · rename_i hc
    cases h
    have hc : a.length ≤ 1000000000 := hc
    exact ⟨a.length + 1, eq_row (el20 _ a b) (Nat.lt_succ_self _) (by show a.length ≤ 1000000000000; omega) fun x hx y _ => rfl⟩
  · cases h
def dS : Sl := (0, dEn)
def m21 (x : List Sl × List Sl) : Option Bool := if x.1.length ≤ 1000000000 then some (decide (x.1 = x.2)) else none
theorem el21 (L : Nat) (a b : List Sl) : ∀ (n : Nat) (i : Int) (k : Option Bool), l21_0 (fun x => some (decide (x.1 = x.2))) L a b n i k = eqL dS (fun x => some (decide (x.1 = x.2))) a b n i k
  | 0, _, _ => rfl
  | n + 1, i, k => by
    unfold l21_0 B21_0 eqL
    simp only [bnd, el21 L a b n]
    rfl
theorem sat21 : Sat prog cxT 21 (c21 m21) := s21 _ sat33 m21 fun x t h => by
  obtain ⟨a, b⟩ := x
  unfold m21 at h
  split at h
  · rename_i hc
    cases h
    have hc : a.length ≤ 1000000000 := hc
    exact ⟨a.length + 1, eq_row (el21 _ a b) (Nat.lt_succ_self _) (by show a.length ≤ 1000000000000; omega) fun x hx y _ => rfl⟩
  · cases h

/-! ### Marks of wins and of seals -/
def mkW (v : Int) : Wn := (v, v + 1)
def mkS (v : Int) : Sl := (v, mkE (v + 1))
def m24 (x : List Wn × Int) : Option (Int × List Wn) := if x.1.length ≤ 1000000000 ∧ 0 ≤ x.2 ∧ x.2 ≤ 100000000000 then some (x.2 + 2 * (x.1.length : Int), mkR mkW 2 x.1.length x.2) else none
theorem st24 (L : Nat) (a0 : List Wn) (a1 : Int) (n : Nat) (o : List Wn) (v : Int) (i : Nat) (K : List Wn → Int → Option (Int × List Wn)) (ho : o.length ≤ 1000000000) (hi : i < o.length) (h0 : 0 ≤ v) (h1 : v ≤ 1000000000000000) :
    l24_0 L a0 a1 (n + 1) o v i K = l24_0 L a0 a1 n (o.set i (mkW v)) (v + 2) ((i + 1 : Nat) : Int) K := by
  conv => lhs; unfold l24_0 B24_0; dsimp only
  simp (disch := omega) only [bnd, List.length_set, dt, wi, cond_true, Bool.and_self, Int.toNat_natCast, List.set_set]
  rw [show v + 1 + 1 = v + 2 by omega, show (i : Int) + 1 = ((i + 1 : Nat) : Int) by omega]
  congr 2
  simp [mkW, hi]
theorem sat24 : SatW prog cxT 24 (c24 m24).nres (c24 m24).n (c24 m24).F := s24 m24 fun x t h => by
  obtain ⟨o, v⟩ := x
  unfold m24 at h
  split at h
  · rename_i hc
    cases h
    simp only at hc
    refine ⟨o.length + 1, ?_⟩
    show g24 (o.length + 1) o v = _
    unfold g24 G24 A24_0; dsimp only
    refine (markRun mkW 2 1000000000000000 o.length (by omega) (fun n o' v' i' K => l24_0 (o.length + 1) o v n o' v' i' K) (fun n o' v' i' K hl h1 h2 h3 => st24 _ _ _ _ _ _ _ _ (by omega) h1 h2 h3)
      (fun n o' v' i' K hl h1 => ?_) (fun w0_0 w0_1 => some (w0_1, w0_0)) (o.length + 1) 0 o v rfl (by omega) (by omega) hc.2.1 (by omega)).trans ?_
    · show l24_0 _ _ _ (n + 1) o' v' i' K = _
      conv => lhs; unfold l24_0 B24_0; dsimp only
      rw [df (by omega), cond_false]
    · simp
  · cases h
def m25 (x : List Sl × Int) : Option (Int × List Sl) := if x.1.length ≤ 1000000000 ∧ 0 ≤ x.2 ∧ x.2 ≤ 100000000000 then some (x.2 + 10 * (x.1.length : Int), mkR mkS 10 x.1.length x.2) else none
theorem st25 (L : Nat) (a0 : List Sl) (a1 : Int) (n : Nat) (o : List Sl) (v : Int) (i : Nat) (K : List Sl → Int → Option (Int × List Sl)) (ho : o.length ≤ 1000000000) (hi : i < o.length) (h0 : 0 ≤ v) (h1 : v ≤ 1000000000000000) :
    l25_0 L a0 a1 (n + 1) o v i K = l25_0 L a0 a1 n (o.set i (mkS v)) (v + 10) ((i + 1 : Nat) : Int) K := by
  conv => lhs; unfold l25_0 B25_0; dsimp only
  simp (disch := omega) only [bnd, List.length_modify, dt, wi, cond_true, Bool.and_self, Int.toNat_natCast, modify_modify', modify_const]
  rw [show v + 1 + 1 + 1 + 1 + 1 + 1 + 1 + 1 + 1 + 1 = v + 10 by omega, show (i : Int) + 1 = ((i + 1 : Nat) : Int) by omega]
  congr 2
  unfold mkS mkE
  simp only [Prod.mk.injEq, true_and]
  omega
theorem sat25 : SatW prog cxT 25 (c25 m25).nres (c25 m25).n (c25 m25).F := s25 m25 fun x t h => by
  obtain ⟨o, v⟩ := x
  unfold m25 at h
  split at h
  · rename_i hc
    cases h
    simp only at hc
    refine ⟨o.length + 1, ?_⟩
    show g25 (o.length + 1) o v = _
    unfold g25 G25 A25_0; dsimp only
    refine (markRun mkS 10 1000000000000000 o.length (by omega) (fun n o' v' i' K => l25_0 (o.length + 1) o v n o' v' i' K) (fun n o' v' i' K hl h1 h2 h3 => st25 _ _ _ _ _ _ _ _ (by omega) h1 h2 h3)
      (fun n o' v' i' K hl h1 => ?_) (fun w0_0 w0_1 => some (w0_1, w0_0)) (o.length + 1) 0 o v rfl (by omega) (by omega) hc.2.1 (by omega)).trans ?_
    · show l25_0 _ _ _ (n + 1) o' v' i' K = _
      conv => lhs; unfold l25_0 B25_0; dsimp only
      simp (disch := omega) only [bnd, df, cond_false]
    · simp
  · cases h
def hdW (x : List Wn × Int) : Prop := x.1.length ≤ 1000000000 ∧ 0 ≤ x.2 ∧ x.2 ≤ 100000000000 ∧ x.1 = mkR mkW 2 x.1.length x.2
instance (x : List Wn × Int) : Decidable (hdW x) := by unfold hdW; infer_instance
def m28 (x : List Wn × Int) : Option Int := if hdW x then some (x.2 + 2 * (x.1.length : Int)) else none
theorem st28 (L : Nat) (a0 : List Wn) (a1 : Int) (n : Nat) (v : Int) (i : Nat) (K : Int → Option Int) (ho : a0.length ≤ 1000000000) (hi : i < a0.length) (h0 : 0 ≤ v) (h1 : v ≤ 1000000000000000) (hm : a0.getD i (0, 0) = mkW v) :
    l28_0 L a0 a1 (n + 1) v i K = l28_0 L a0 a1 n (v + 2) ((i + 1 : Nat) : Int) K := by
  conv => lhs; unfold l28_0 B28_0; dsimp only
  simp (disch := omega) only [bnd, dt, wi, cond_true, Bool.and_self, Int.toNat_natCast, hm]
  unfold mkW
  simp (disch := omega) only [bneF, cond_false]
  rw [show v + 1 + 1 = v + 2 by omega, show (i : Int) + 1 = ((i + 1 : Nat) : Int) by omega]
theorem held_run {α : Type} {d : α} {f : Int → α} {s : Int} {l : Nat → Int → Int → (Int → Option Int) → Option Int} {a : List α} {v : Int} (hs : 0 ≤ s) (hv : 0 ≤ v) (hB : v + s * (a.length : Int) ≤ 1000000000000000) (hm : a = mkR f s a.length v)
    (h1 : ∀ n (v : Int) (i : Nat) K, i < a.length → 0 ≤ v → v ≤ 1000000000000000 → a.getD i d = f v → l (n + 1) v i K = l n (v + s) ((i + 1 : Nat) : Int) K) (h2 : ∀ n (v : Int) (i : Nat) K, ¬ i < a.length → l (n + 1) v i K = K v) : l (a.length + 1) v 0 some = some (v + s * (a.length : Int)) := by
  have := heldRun d f s 1000000000000000 hs a.length v l hv (fun n v' i' K k1 k2 k3 k4 => h1 n v' i' K k1 k2 k3 (by rw [← hm] at k4; exact k4)) h2 hB some (a.length + 1) 0 (by omega) (by omega)
  simp only [Int.natCast_zero, Int.mul_zero, Int.add_zero] at this
  exact this
theorem sat28 : Sat prog cxT 28 (c28 m28) := s28 m28 fun x t h => by
  obtain ⟨a, v⟩ := x
  unfold m28 at h
  split at h
  · rename_i hc
    cases h
    obtain ⟨h1, h2, h3, h4⟩ := hc
    simp only at h1 h2 h3 h4
    refine ⟨a.length + 1, held_run (d := ((0, 0) : Wn)) (by omega) h2 (by omega) h4 (fun n v' i' K k1 k2 k3 k4 => st28 _ _ _ _ _ _ _ h1 k1 k2 k3 k4) fun n v' i' K k1 => ?_⟩
    show l28_0 _ _ _ (n + 1) v' i' K = _
    conv => lhs; unfold l28_0 B28_0; dsimp only
    simp (disch := omega) only [bnd, df, cond_false]
  · cases h
def hdS (x : List Sl × Int) : Prop := x.1.length ≤ 1000000000 ∧ 0 ≤ x.2 ∧ x.2 ≤ 100000000000 ∧ x.1 = mkR mkS 10 x.1.length x.2
instance (x : List Sl × Int) : Decidable (hdS x) := by unfold hdS; infer_instance
def m29 (x : List Sl × Int) : Option Int := if hdS x then some (x.2 + 10 * (x.1.length : Int)) else none
theorem st29 (L : Nat) (a0 : List Sl) (a1 : Int) (n : Nat) (v : Int) (i : Nat) (K : Int → Option Int) (ho : a0.length ≤ 1000000000) (hi : i < a0.length) (h0 : 0 ≤ v) (h1 : v ≤ 1000000000000000) (hm : a0.getD i dS = mkS v) :
    l29_0 L a0 a1 (n + 1) v i K = l29_0 L a0 a1 n (v + 10) ((i + 1 : Nat) : Int) K := by
  conv => lhs; unfold l29_0 B29_0; dsimp only
  have hm' : a0.getD i (0, 0, 0, 0, 0, 0, 0, 0, 0, 0) = mkS v := hm
  simp (disch := omega) only [bnd, dt, wi, cond_true, Bool.and_self, Int.toNat_natCast, hm']
  unfold mkS mkE
  simp (disch := omega) only [bneF, cond_false]
  rw [show v + 1 + 1 + 1 + 1 + 1 + 1 + 1 + 1 + 1 + 1 = v + 10 by omega, show (i : Int) + 1 = ((i + 1 : Nat) : Int) by omega]
theorem sat29 : Sat prog cxT 29 (c29 m29) := s29 m29 fun x t h => by
  obtain ⟨a, v⟩ := x
  unfold m29 at h
  split at h
  · rename_i hc
    cases h
    obtain ⟨h1, h2, h3, h4⟩ := hc
    simp only at h1 h2 h3 h4
    refine ⟨a.length + 1, held_run (d := dS) (by omega) h2 (by omega) h4 (fun n v' i' K k1 k2 k3 k4 => st29 _ _ _ _ _ _ _ h1 k1 k2 k3 k4) fun n v' i' K k1 => ?_⟩
    show l29_0 _ _ _ (n + 1) v' i' K = _
    conv => lhs; unfold l29_0 B29_0; dsimp only
    simp (disch := omega) only [bnd, df, cond_false]
  · cases h
end Go.Proofs.Try

set_option maxHeartbeats 0
set_option linter.unusedVariables false
set_option linter.unusedSimpArgs false
namespace Go.Proofs.Try
open Go Go.VM Go.RowKit

/-! ### Clusters -/
abbrev Cl := List Nd × List Ml × List Wn × List Sl
def wC (c : Cl) : Int := sumW wD c.1 + sumW wM c.2.1 + 2 * (c.2.2.1.length : Int) + 10 * (c.2.2.2.length : Int)
def cOk (c : Cl) : Prop := wC c ≤ 900000000
instance (c : Cl) : Decidable (cOk c) := by unfold cOk; infer_instance
theorem cOk_all {a : List Nd} {b : List Ml} {c : List Wn} {d : List Sl} (h : cOk (a, b, c, d)) : 0 ≤ sumW wD a ∧ 0 ≤ sumW wM b ∧ sumW wD a + sumW wM b + 2 * (c.length : Int) + 10 * (d.length : Int) ≤ 900000000 ∧ (a.length : Int) ≤ 900000000 ∧ (b.length : Int) ≤ 900000000 ∧ enOk b := by
  have h : sumW wD a + sumW wM b + 2 * (c.length : Int) + 10 * (d.length : Int) ≤ 900000000 := h
  have h1 := len_sumW wD_1 a
  have h2 := len_sumW wM_1 b
  refine ⟨by omega, by omega, h, by omega, by omega, fun x hx => ?_⟩
  have := sumW_mem (w := wM) (fun y _ => wM_pos y) x hx
  have h9 : wM x = 8 + 9 * ((enM x).length : Int) := rfl
  unfold mid
  omega
instance decC1 : DecidableEq (List Wn × List Sl) := instDecidableEqProd
instance decC2 : DecidableEq (List Ml × List Wn × List Sl) := instDecidableEqProd
instance decCl : DecidableEq Cl := instDecidableEqProd
def m13 (x : Cl × Cl) : Option Bool := if cOk x.1 then some (decide (x.1 = x.2)) else none
theorem sat13 : Sat prog cxT 13 (c13 m13) := s13 m18 m19 m20 m21 sat18 sat19 sat20 sat21 m13 fun x t h => by
  obtain ⟨⟨a, b, c, d⟩, a', b', c', d'⟩ := x
  unfold m13 at h
  split at h
  · rename_i hc
    cases h
    obtain ⟨h1, h2, h3, h4, h5, h6⟩ := cOk_all hc
    refine ⟨0, ?_⟩
    show g13 m18 m19 m20 m21 0 a b c d a' b' c' d' = _
    unfold g13 G13; dsimp only
    rw [show m18 (a, a') = some (decide (a = a')) from if_pos (by show sumW wD a ≤ _; omega), tst_some, show m19 (b, b') = some (decide (b = b')) from if_pos ⟨by show b.length ≤ _; omega, h6⟩, tst_some,
      show m20 (c, c') = some (decide (c = c')) from if_pos (by show c.length ≤ _; omega), tst_some, show m21 (d, d') = some (decide (d = d')) from if_pos (by show d.length ≤ _; omega), tst_some]
    refine bifeq2 (fun e1 => bifeq2 (fun e2 => bifeq2 (fun e3 => bifeq2 (fun e4 => ?_) ?_) ?_) ?_) ?_
    · subst e1 e2 e3 e4; simp
    all_goals intro e h; simp only [Prod.mk.injEq] at h; obtain ⟨q1, q2, q3, q4⟩ := h; first | exact e q1 | exact e q2 | exact e q3 | exact e q4
  · cases h
def mkC (c : Cl) (v : Int) : Cl := (mkV mkD wD c.1 v, mkV mkM wM c.2.1 (v + sumW wD c.1), mkR mkW 2 c.2.2.1.length (v + sumW wD c.1 + sumW wM c.2.1), mkR mkS 10 c.2.2.2.length (v + sumW wD c.1 + sumW wM c.2.1 + 2 * (c.2.2.1.length : Int)))
theorem wC_mk (c : Cl) (v : Int) : wC (mkC c v) = wC c := by unfold wC mkC; simp only [mkR_len, mkV_sum wD_mk, mkV_sum wM_mk]
theorem mkC_mk (c : Cl) (v : Int) : mkC (mkC c v) v = mkC c v := by unfold mkC; simp only [mkR_len, mkV_sum wD_mk, mkV_sum wM_mk, mkV_mk wD_mk mkD_mk, mkV_mk wM_mk mkM_mk]
def m14 (x : Cl × Int) : Option (Int × Cl) := if cOk x.1 ∧ 0 ≤ x.2 ∧ x.2 ≤ 50000000 then some (x.2 + wC x.1, mkC x.1 x.2) else none
theorem sat14 : SatW prog cxT 14 (c14 m14).nres (c14 m14).n (c14 m14).F := s14 m22 m23 m24 m25 sat22 sat23 sat24 sat25 m14 fun x t h => by
  obtain ⟨⟨a, b, c, d⟩, v⟩ := x
  unfold m14 at h
  split at h
  · rename_i hc
    cases h
    obtain ⟨hc, k1, k2⟩ := hc
    obtain ⟨h1, h2, h3, h4, h5, h6⟩ := cOk_all hc
    simp only at k1 k2
    refine ⟨0, ?_⟩
    show g14 m22 m23 m24 m25 0 a b c d v = _
    unfold g14 G14; dsimp only
    rw [show m22 (a, v) = some (v + sumW wD a, mkV mkD wD a v) from if_pos ⟨by show a.length ≤ _; omega, k1, by show v + sumW wD a ≤ _; omega⟩, tst_some]
    simp only
    rw [show m23 (b, v + sumW wD a) = some (v + sumW wD a + sumW wM b, mkV mkM wM b (v + sumW wD a)) from if_pos ⟨by show b.length ≤ _; omega, by show 0 ≤ v + sumW wD a; omega, by show v + sumW wD a + sumW wM b ≤ _; omega⟩, tst_some]
    simp only
    rw [show m24 (c, v + sumW wD a + sumW wM b) = some (v + sumW wD a + sumW wM b + 2 * (c.length : Int), mkR mkW 2 c.length (v + sumW wD a + sumW wM b)) from if_pos ⟨by show c.length ≤ _; omega, by show 0 ≤ v + sumW wD a + sumW wM b; omega, by show v + sumW wD a + sumW wM b ≤ _; omega⟩, tst_some]
    simp only
    rw [show m25 (d, v + sumW wD a + sumW wM b + 2 * (c.length : Int)) = some (v + sumW wD a + sumW wM b + 2 * (c.length : Int) + 10 * (d.length : Int), mkR mkS 10 d.length (v + sumW wD a + sumW wM b + 2 * (c.length : Int))) from if_pos ⟨by show d.length ≤ _; omega, by show 0 ≤ v + sumW wD a + sumW wM b + 2 * (c.length : Int); omega, by show v + sumW wD a + sumW wM b + 2 * (c.length : Int) ≤ _; omega⟩, tst_some]
    unfold wC mkC
    simp only [Int.add_assoc]
  · cases h
def hdC (x : Cl × Int) : Prop := cOk x.1 ∧ 0 ≤ x.2 ∧ x.2 ≤ 50000000 ∧ x.1 = mkC x.1 x.2
instance (x : Cl × Int) : Decidable (hdC x) := by unfold hdC; infer_instance
def m15 (x : Cl × Int) : Option Int := if hdC x then some (x.2 + wC x.1) else none
theorem sat15 : Sat prog cxT 15 (c15 m15) := s15 m26 m27 m28 m29 sat26 sat27 sat28 sat29 m15 fun x t h => by
  obtain ⟨⟨a, b, c, d⟩, v⟩ := x
  unfold m15 at h
  split at h
  · rename_i hc
    cases h
    obtain ⟨hc, k1, k2, k3⟩ := hc
    obtain ⟨h1, h2, h3, h4, h5, h6⟩ := cOk_all hc
    simp only [mkC, Prod.mk.injEq] at k1 k2 k3
    obtain ⟨r1, r2, r3, r4⟩ := k3
    refine ⟨0, ?_⟩
    show g15 m26 m27 m28 m29 0 a b c d v = _
    unfold g15 G15; dsimp only
    rw [show m26 (a, v) = some (v + sumW wD a) from if_pos ⟨by show a.length ≤ _; omega, k1, by show v + sumW wD a ≤ _; omega, r1⟩, tst_some, df (by omega), cond_false,
      show m27 (b, v + sumW wD a) = some (v + sumW wD a + sumW wM b) from if_pos ⟨by show b.length ≤ _; omega, by show 0 ≤ v + sumW wD a; omega, by show v + sumW wD a + sumW wM b ≤ _; omega, r2⟩, tst_some, df (by omega), cond_false,
      show m28 (c, v + sumW wD a + sumW wM b) = some (v + sumW wD a + sumW wM b + 2 * (c.length : Int)) from if_pos ⟨by show c.length ≤ _; omega, by show 0 ≤ v + sumW wD a + sumW wM b; omega, by show v + sumW wD a + sumW wM b ≤ _; omega, r3⟩, tst_some, df (by omega), cond_false,
      show m29 (d, v + sumW wD a + sumW wM b + 2 * (c.length : Int)) = some (v + sumW wD a + sumW wM b + 2 * (c.length : Int) + 10 * (d.length : Int)) from if_pos ⟨by show d.length ≤ _; omega, by show 0 ≤ v + sumW wD a + sumW wM b + 2 * (c.length : Int); omega, by show v + sumW wD a + sumW wM b + 2 * (c.length : Int) ≤ _; omega, r4⟩, tst_some, df (by omega), cond_false]
    unfold wC
    simp only [Int.add_assoc]
  · cases h
theorem hdC_mk {c : Cl} {v : Int} (h : cOk c) (h0 : 0 ≤ v) (h1 : v ≤ 50000000) : hdC (mkC c v, v) := ⟨by unfold cOk at h ⊢; simp only [wC_mk]; exact h, h0, h1, (mkC_mk c v).symm⟩

/-! ### Answers that bear a cluster -/
abbrev Cr := Int × Cl
instance decCr : DecidableEq Cr := instDecidableEqProd
def m6 (x : Cr × Cr) : Option Bool := if cOk x.1.2 then some (decide (x.1 = x.2)) else none
theorem sat6 : Sat prog cxT 6 (c6 m6) := s6 m13 sat13 m6 fun x t h => by
  obtain ⟨⟨q, a⟩, q', a'⟩ := x
  unfold m6 at h
  split at h
  · rename_i hc
    cases h
    refine ⟨0, ?_⟩
    show (bif q != q' then some false else tst (m13 (a, a')) false fun q1 => bif !q1 then some false else some true) = _
    rw [show m13 (a, a') = some (decide (a = a')) from if_pos hc, tst_some]
    refine bifeq (fun e1 => bifeq2 (fun e2 => ?_) ?_) ?_
    · subst e1 e2; simp
    all_goals intro e h; simp only [Prod.mk.injEq] at h; obtain ⟨q1, q2⟩ := h; first | exact e q1 | exact e q2
  · cases h
def m7 (x : Cr × Int) : Option (Int × Cr) := if cOk x.1.2 ∧ x.2 = 1 then some (1 + wC x.1.2, (x.1.1, mkC x.1.2 1)) else none
theorem sat7 : SatW prog cxT 7 (c7 m7).nres (c7 m7).n (c7 m7).F := s7 m14 sat14 m7 fun x t h => by
  obtain ⟨⟨q, a⟩, v⟩ := x
  unfold m7 at h
  split at h
  · rename_i hc
    cases h
    obtain ⟨hc, rfl⟩ := hc
    refine ⟨0, ?_⟩
    show tst (m14 (a, 1)) _ (fun q1 => some (q1.1, q, q1.2)) = _
    rw [show m14 (a, 1) = some (1 + wC a, mkC a 1) from if_pos ⟨hc, by simp only; omega, by simp only; omega⟩, tst_some]
  · cases h
def m8 (x : Cr × Int) : Option Int := if hdC (x.1.2, 1) ∧ x.2 = 1 then some (1 + wC x.1.2) else none
theorem wC_0 (c : Cl) : 0 ≤ wC c := by
  have h1 := len_sumW wD_1 c.1
  have h2 := len_sumW wM_1 c.2.1
  unfold wC
  omega
theorem sat8 : Sat prog cxT 8 (c8 m8) := s8 m15 sat15 m8 fun x t h => by
  obtain ⟨⟨q, a⟩, v⟩ := x
  unfold m8 at h
  split at h
  · rename_i hc
    cases h
    obtain ⟨hc, rfl⟩ := hc
    refine ⟨0, ?_⟩
    show tst (m15 (a, 1)) _ (fun q1 => bif decide (q1 < 0) then some (-1) else some q1) = some (1 + wC a)
    have := wC_0 a
    rw [show m15 (a, 1) = some (1 + wC a) from if_pos hc, tst_some, df (by omega), cond_false]
  · cases h
/-- The law of answers that bear a cluster. -/
theorem cr_law {r : Cr} (h : cOk r.2) : m6 (r, r) = some true ∧ m7 (r, 1) = some (1 + wC r.2, (r.1, mkC r.2 1)) ∧ m8 ((r.1, mkC r.2 1), 1) = some (1 + wC r.2) ∧ 0 ≤ wC r.2 :=
  ⟨(if_pos h).trans (by rw [dt rfl]), if_pos ⟨h, rfl⟩, (if_pos ⟨hdC_mk h (by omega) (by omega), rfl⟩).trans (by rw [wC_mk]), wC_0 _⟩
end Go.Proofs.Try

set_option maxHeartbeats 0
set_option linter.unusedVariables false
set_option linter.unusedSimpArgs false
namespace Go.Proofs.Try
open Go Go.VM Go.RowKit

/-! ### A cluster that has just begun -/
def nd (i p : Int) : Nd := (i, p, 0, -1, [], 0, 0, [], [], [])
def nds (p : Int) : List Nd := (List.range p.toNat).map fun i : Nat => nd (i : Int) p
def ncR (p : Int) : Cr := if 1 ≤ p ∧ p ≤ 5 then (0, nds p, [], [], []) else (3, [], [], [], [])
def m10 (c : Int) : Option Cr := some (c, [], [], [], [])
theorem sat10 : Sat prog cxT 10 (c10 m10) := s10 m10 fun x t h => by cases h; exact ⟨0, rfl⟩
def m12 (x : Int × Int) : Option (Int × Int × Int × Int × Int × List En × Int × Int × List Int × List Int × List Int × List Ml) := if 1 ≤ x.2 ∧ x.2 ≤ 5 ∧ 0 ≤ x.1 ∧ x.1 < x.2 then some (0, x.1, x.2, 0, -1, [], 0, 0, [], [], [], []) else none
theorem sat12 : Sat prog cxT 12 (c12 m12) := s12 m11 m17 sat11 sat17 m12 fun x t h => by
  obtain ⟨i, p⟩ := x
  unfold m12 at h
  split at h
  · rename_i hc
    cases h
    obtain ⟨h1, h2, h3, h4⟩ := hc
    refine ⟨0, ?_⟩
    show tst (m11 p) false (fun q1 => bif !q1 then _ else tst (m17 (i, p)) false fun q2 => bif !q2 then _ else some (0, i, p, 0, -1, [], 0, 0, [], [], [], [])) = _
    rw [show m11 p = some true from congrArg some (dt ⟨h1, h2⟩), tst_some, show m17 (i, p) = some true from congrArg some (dt ⟨h3, h4⟩), tst_some]
    rfl
  · cases h
def m4 (p : Int) : Option Cr := some (ncR p)
theorem k4_1 : w4 m9 m10 10 1 = some (ncR 1) := by kernel_rfl
theorem k4_2 : w4 m9 m10 10 2 = some (ncR 2) := by kernel_rfl
theorem k4_3 : w4 m9 m10 10 3 = some (ncR 3) := by kernel_rfl
theorem k4_4 : w4 m9 m10 10 4 = some (ncR 4) := by kernel_rfl
theorem k4_5 : w4 m9 m10 10 5 = some (ncR 5) := by kernel_rfl
theorem sat4 : Sat prog cxT 4 (c4 m4) := s4 m9 m10 sat9 sat10 m4 fun p t h => by
  cases h
  by_cases hp : 1 ≤ p ∧ p ≤ 5
  · refine ⟨10, ?_⟩
    obtain rfl | rfl | rfl | rfl | rfl : p = 1 ∨ p = 2 ∨ p = 3 ∨ p = 4 ∨ p = 5 := by omega
    · exact k4_1
    · exact k4_2
    · exact k4_3
    · exact k4_4
    · exact k4_5
  · refine ⟨0, ?_⟩
    show tst (m9 (p, 1, 5)) false (fun q1 => bif !q1 then tst (m10 3) _ (fun q3 => some (q3.1, q3.2.1, q3.2.2.1, q3.2.2.2.1, q3.2.2.2.2)) else _) = _
    rw [show m9 (p, 1, 5) = some false from congrArg some (df hp), tst_some]
    unfold ncR
    rw [if_neg hp]
    rfl
theorem k5_1 : w5 m11 m12 10 1 = some (ncR 1) := by kernel_rfl
theorem k5_2 : w5 m11 m12 10 2 = some (ncR 2) := by kernel_rfl
theorem k5_3 : w5 m11 m12 10 3 = some (ncR 3) := by kernel_rfl
theorem k5_4 : w5 m11 m12 10 4 = some (ncR 4) := by kernel_rfl
theorem k5_5 : w5 m11 m12 10 5 = some (ncR 5) := by kernel_rfl
theorem sat5 : Sat prog cxT 5 (c5 m4) := s5 m11 m12 sat11 sat12 m4 fun p t h => by
  cases h
  by_cases hp : 1 ≤ p ∧ p ≤ 5
  · refine ⟨10, ?_⟩
    obtain rfl | rfl | rfl | rfl | rfl : p = 1 ∨ p = 2 ∨ p = 3 ∨ p = 4 ∨ p = 5 := by omega
    · exact k5_1
    · exact k5_2
    · exact k5_3
    · exact k5_4
    · exact k5_5
  · refine ⟨0, ?_⟩
    show tst (m11 p) false (fun q1 => bif !q1 then some (3, [], [], [], []) else _) = _
    rw [show m11 p = some false from congrArg some (df hp), tst_some]
    unfold ncR
    rw [if_neg hp]
    rfl
theorem ncO (p : Int) (h : decide (cOk (nds p, [], [], [])) = true) : cOk (nds p, [], [], []) := of_decide_eq_true h
theorem ncR_ok (p : Int) : cOk (ncR p).2 := by
  unfold ncR
  split
  · obtain rfl | rfl | rfl | rfl | rfl : p = 1 ∨ p = 2 ∨ p = 3 ∨ p = 4 ∨ p = 5 := by omega
    · exact ncO 1 (by kernel_rfl)
    · exact ncO 2 (by kernel_rfl)
    · exact ncO 3 (by kernel_rfl)
    · exact ncO 4 (by kernel_rfl)
    · exact ncO 5 (by kernel_rfl)
  · exact of_decide_eq_true (show decide (cOk ([], [], [], [])) = true by kernel_rfl)
def mT3 (p : Int) : Option Bool := some true
theorem sat3 : Sat prog cxT 3 (c3 mT3) := s3 m4 m4 m6 m7 m8 sat4 sat5 sat6 sat7 sat8 mT3 fun p t h => by
  cases h
  refine ⟨0, ?_⟩
  show g3 m4 m4 m6 m7 m8 0 p = _
  obtain ⟨e1, e2, e3, e4⟩ := cr_law (ncR_ok p)
  unfold g3 G3; dsimp only
  rw [show m4 p = some (ncR p) from rfl]
  generalize ncR p = r at e1 e2 e3 e4
  simp only [tst_some]
  rw [show m6 _ = some true from e1]
  simp only [tst_some, Bool.not_true, cond_false]
  rw [show m7 _ = some _ from e2]
  simp only [tst_some]
  rw [show m8 _ = some _ from e3]
  simp only [tst_some]
  rw [df (by omega), bneF rfl]
  rfl
end Go.Proofs.Try
