/- A part of the proof of FnExactNewNode: LePu, LePv. -/
import Derived.Test.YtdnjjhambjafoaaVmPl
import Derived.Test.YtdnjjhambjafoaaLeFa
import Derived.Test.YtdnjjhambjafoaaLeFb
import Derived.Test.YtdnjjhambjafoaaLeFc
set_option maxHeartbeats 0
set_option linter.unusedVariables false
set_option linter.unusedSimpArgs false
namespace Go.Proofs.Try
open Go Go.VM Go.RowKit

abbrev Cm := Int × Int × Int × Int × Int × Int

/-! ### Numbers -/
def ptOk (x : Int) : Bool := decide (0 ≤ x ∧ x ≤ 65535)
theorem bif_and {a b : Int} {x : Int} : (bif decide (x ≥ a) then some (decide (x ≤ b)) else some false) = some (decide (a ≤ x ∧ x ≤ b)) := by
  by_cases h : a ≤ x
  · rw [dt (show x ≥ a from h)]; simp [h]
  · rw [df (show ¬ x ≥ a from h)]; simp [h]
theorem sat9 : Sat prog cxT 9 (c9 fun x => some (decide (x.2.1 ≤ x.1 ∧ x.1 ≤ x.2.2))) := s9 _ fun x t h => by
  obtain ⟨x, a, b⟩ := x
  cases h
  exact ⟨0, bif_and⟩
def mid : Nat := 1000000000
theorem bifeq {α : Type} [DecidableEq α] [BEq α] [LawfulBEq α] {a b : α} {o : Option Bool} {p : Prop} [Decidable p] (h : a = b → o = some (decide p)) (h2 : ¬ a = b → ¬ p) : (bif a != b then some false else o) = some (decide p) := by
  by_cases e : a = b
  · rw [bneF e, cond_false, h e]
  · rw [bneT e, cond_true, df (h2 e)]
theorem bifn {b : Bool} : (bif !b then some false else some true) = some b := by cases b <;> rfl
/-! ### Entries: what laws do with them -/
abbrev En := Int × Int × Int × Int × Int × Int × Int × Int × Int
def dEn : En := (0, 0, 0, 0, 0, 0, 0, 0, 0)
instance decCm : DecidableEq Cm := inferInstance
instance decE1 : DecidableEq (Int × Cm) := instDecidableEqProd
instance decE2 : DecidableEq (Int × Int × Cm) := instDecidableEqProd
instance decEn : DecidableEq En := (instDecidableEqProd : DecidableEq (Int × Int × Int × Cm))
theorem sat28 : Sat prog cxT 28 (c28 fun x => some (decide (x.1 = x.2))) := s28 _ fun x t h => by
  obtain ⟨⟨a, b, c, d, e, f⟩, a', b', c', d', e', f'⟩ := x
  cases h
  refine ⟨0, ?_⟩
  show g28 0 a b c d e f a' b' c' d' e' f' = _
  unfold g28
  refine bifeq (fun e1 => bifeq (fun e2 => bifeq (fun e3 => bifeq (fun e4 => bifeq (fun e5 => bifeq (fun e6 => ?_) ?_) ?_) ?_) ?_) ?_) ?_
  · simp [e1, e2, e3, e4, e5, e6]
  · intro e h; simp at h; exact e h.2.2.2.2.2
  · intro e h; simp at h; exact e h.2.2.2.2.1
  · intro e h; simp at h; exact e h.2.2.2.1
  · intro e h; simp at h; exact e h.2.2.1
  · intro e h; simp at h; exact e h.2.1
  · intro e h; simp at h; exact e h.1
theorem sat27 : Sat prog cxT 27 (c27 fun x => some (decide (x.1 = x.2))) := s27 _ sat28 _ fun x t h => by
  obtain ⟨⟨t, c, s, q⟩, t', c', s', q'⟩ := x
  cases h
  refine ⟨0, ?_⟩
  show g27 (fun x => some (decide (x.1 = x.2))) 0 t c s q.1 q.2.1 q.2.2.1 q.2.2.2.1 q.2.2.2.2.1 q.2.2.2.2.2 t' c' s' q'.1 q'.2.1 q'.2.2.1 q'.2.2.2.1 q'.2.2.2.2.1 q'.2.2.2.2.2 = _
  unfold g27
  refine bifeq (fun e1 => bifeq (fun e2 => bifeq (fun e3 => ?_) ?_) ?_) ?_
  · rw [tst_some, bifn]; subst e1; subst e2; subst e3
    show some (decide (q = q')) = _
    simp
  · intro e h; simp at h; exact e h.2.2.1
  · intro e h; simp at h; exact e h.2.1
  · intro e h; simp at h; exact e h.1
theorem el20 (L : Nat) (a b : List En) : ∀ (n : Nat) (i : Int) (k : Option Bool), l20_0 (fun x => some (decide (x.1 = x.2))) L a b n i k = eqL dEn (fun x => some (decide (x.1 = x.2))) a b n i k
  | 0, _, _ => rfl
  | n + 1, i, k => by
    unfold l20_0 eqL
    simp only [tst_some, el20 L a b n]
    rfl
def m20 (x : List En × List En) : Option Bool := if x.1.length ≤ 1000000000000 then some (decide (x.1 = x.2)) else none
theorem sat20 : Sat prog cxT 20 (c20 m20) := s20 _ sat27 m20 fun x t h => by
  obtain ⟨a, b⟩ := x
  unfold m20 at h
  split at h
  · rename_i hc
    cases h
    refine ⟨a.length + 1, ?_⟩
    show g20 _ (a.length + 1) a b = _
    unfold g20
    by_cases e : a.length = b.length
    · rw [bneF (show ((a.length : Nat) : Int) = (b.length : Int) by omega), cond_false, el20]
      refine (eqL_ok dEn _ a b e (by simp only at hc; omega) (fun x _ y _ => rfl) (some true) _ 0 (by omega) (by omega)).trans ?_
      simp only [List.drop_zero]
      split <;> rename_i hh <;> simp [hh]
    · rw [bneT (show ¬ ((a.length : Nat) : Int) = (b.length : Int) by omega), cond_true]
      simp only
      rw [df (fun h => e (by rw [h]))]
  · cases h

/-! ### Marks -/
def mkE (v : Int) : En := (v, v + 1, v + 2, v + 3, v + 4, v + 5, v + 6, v + 7, v + 8)
def m23 (x : List En × Int) : Option (Int × List En) := if x.1.length ≤ 1000000000 ∧ 0 ≤ x.2 ∧ x.2 ≤ 100000000000 then some (x.2 + 9 * (x.1.length : Int), mkR mkE 9 x.1.length x.2) else none
theorem st27 (L : Nat) (a0 : List En) (a1 : Int) (n : Nat) (o : List En) (v : Int) (i : Nat) (K : List En → Int → Option (Int × List En)) (ho : o.length ≤ 1000000000) (hi : i < o.length) (h0 : 0 ≤ v) (h1 : v ≤ 1000000000000000) :
    l23_0 L a0 a1 (n + 1) o v i K = l23_0 L a0 a1 n (o.set i (mkE v)) (v + 9) ((i + 1 : Nat) : Int) K := by
  conv => lhs; unfold l23_0
  simp (disch := omega) only [List.length_modify, dt, wi, cond_true, Bool.and_self, Int.toNat_natCast, modify_modify', modify_const]
  rw [show v + 1 + 1 + 1 + 1 + 1 + 1 + 1 + 1 + 1 = v + 9 by omega, show (i : Int) + 1 = ((i + 1 : Nat) : Int) by omega]
  have e : (v, v + 1, v + 1 + 1, v + 1 + 1 + 1, v + 1 + 1 + 1 + 1, v + 1 + 1 + 1 + 1 + 1, v + 1 + 1 + 1 + 1 + 1 + 1, v + 1 + 1 + 1 + 1 + 1 + 1 + 1, v + 1 + 1 + 1 + 1 + 1 + 1 + 1 + 1) = mkE v := by
    unfold mkE
    simp only [Prod.mk.injEq, true_and]
    omega
  rw [e]
theorem sat23 : SatW prog cxT 23 (c23 m23).nres (c23 m23).n (c23 m23).F := s23 m23 fun x t h => by
  obtain ⟨o, v⟩ := x
  unfold m23 at h
  split at h
  · rename_i hc
    cases h
    simp only at hc
    refine ⟨o.length + 1, ?_⟩
    show g23 (o.length + 1) o v = _
    unfold g23
    refine (markRun mkE 9 1000000000000000 o.length (by omega) (fun n o' v' i' K => l23_0 (o.length + 1) o v n o' v' i' K) (fun n o' v' i' K hl h1 h2 h3 => st27 _ _ _ _ _ _ _ _ (by omega) h1 h2 h3)
      (fun n o' v' i' K hl h1 => ?_) (fun w0_0 w0_1 => some (w0_1, w0_0)) (o.length + 1) 0 o v rfl (by omega) (by omega) hc.2.1 (by omega)).trans ?_
    · show l23_0 _ _ _ (n + 1) o' v' i' K = _
      conv => lhs; unfold l23_0
      rw [df (by omega), cond_false]
    · simp
  · cases h
/-- Rows that were marked hold their marks. -/
def hdE (x : List En × Int) : Prop := x.1.length ≤ 1000000000 ∧ 0 ≤ x.2 ∧ x.2 ≤ 100000000000 ∧ x.1 = mkR mkE 9 x.1.length x.2
instance (x : List En × Int) : Decidable (hdE x) := by unfold hdE; infer_instance
def m25 (x : List En × Int) : Option Int := if hdE x then some (x.2 + 9 * (x.1.length : Int)) else none
theorem st49 (L : Nat) (a0 : List En) (a1 : Int) (n : Nat) (v : Int) (i : Nat) (K : Int → Option Int) (ho : a0.length ≤ 1000000000) (hi : i < a0.length) (h0 : 0 ≤ v) (h1 : v ≤ 1000000000000000) (hm : a0.getD i dEn = mkE v) :
    l25_0 L a0 a1 (n + 1) v i K = l25_0 L a0 a1 n (v + 9) ((i + 1 : Nat) : Int) K := by
  conv => lhs; unfold l25_0
  have hm' : a0.getD i (0, 0, 0, 0, 0, 0, 0, 0, 0) = mkE v := hm
  simp (disch := omega) only [dt, wi, cond_true, Bool.and_self, Int.toNat_natCast, hm']
  unfold mkE
  simp (disch := omega) only [bneF, cond_false]
  rw [show v + 1 + 1 + 1 + 1 + 1 + 1 + 1 + 1 + 1 = v + 9 by omega, show (i : Int) + 1 = ((i + 1 : Nat) : Int) by omega]
theorem sat25 : Sat prog cxT 25 (c25 m25) := s25 m25 fun x t h => by
  obtain ⟨a, v⟩ := x
  unfold m25 at h
  split at h
  · rename_i hc
    cases h
    obtain ⟨h1, h2, h3, h4⟩ := hc
    simp only at h1 h2 h3 h4
    refine ⟨a.length + 1, ?_⟩
    show g25 (a.length + 1) a v = _
    unfold g25
    have := heldRun dEn mkE 9 1000000000000000 (by omega) a.length v (fun n v' i' K => l25_0 (a.length + 1) a v n v' i' K) h2 (fun n v' i' K k1 k2 k3 k4 => st49 _ _ _ _ _ _ _ h1 k1 k2 k3 (by rw [← h4] at k4; exact k4))
      (fun n v' i' K k1 => by
        show l25_0 _ _ _ (n + 1) v' i' K = _
        conv => lhs; unfold l25_0
        rw [df (by omega), cond_false]) (by omega) (fun w0_1 => some w0_1) (a.length + 1) 0 (by omega) (by omega)
    simp only [Int.natCast_zero, Int.mul_zero, Int.add_zero] at this
    exact this
  · cases h
theorem hd_mk {n : Nat} {v : Int} (hn : n ≤ 1000000000) (h0 : 0 ≤ v) (h1 : v ≤ 100000000000) : hdE (mkR mkE 9 n v, v) := ⟨by simp only [mkR_len]; exact hn, h0, h1, by simp only [mkR_len]⟩

/-! ### What is not right with an entry, and with a log -/
theorem el21 (L : Nat) (a b : List Int) : ∀ (n : Nat) (i : Int) (k : Option Bool), l21_0 L a b n i k = eqL 0 (fun x => some (decide (x.1 = x.2))) a b n i k
  | 0, _, _ => rfl
  | n + 1, i, k => by
    unfold l21_0 eqL
    simp only [el21 L a b n, tst_some]
    congr 2
def m21 (x : List Int × List Int) : Option Bool := if x.1.length ≤ 1000000000000 then some (decide (x.1 = x.2)) else none
theorem sat21 : Sat prog cxT 21 (c21 m21) := s21 m21 fun x t h => by
  obtain ⟨a, b⟩ := x
  unfold m21 at h
  split at h
  · rename_i hc
    cases h
    have hc : a.length ≤ 1000000000000 := hc
    refine ⟨a.length + 1, ?_⟩
    show g21 (a.length + 1) a b = some (decide (a = b))
    unfold g21
    refine bifeq (fun e => ?_) fun e h => e (by rw [h])
    rw [el21]
    refine (eqL_ok 0 _ a b (by omega) (by omega) (fun _ _ _ _ => rfl) _ _ 0 (by omega) (by omega)).trans ?_
    simp only [List.drop_zero]
    split <;> rename_i hh <;> simp [hh]
  · cases h
/-! ### Nodes: what laws do with them -/
abbrev Nd := Int × Int × Int × Int × List En × Int × Int × List Int × List Int × List Int
instance decN1 : DecidableEq (List Int × List Int × List Int) := inferInstance
instance decN2 : DecidableEq (Int × List Int × List Int × List Int) := instDecidableEqProd
instance decN3 : DecidableEq (Int × Int × List Int × List Int × List Int) := instDecidableEqProd
instance decN4 : DecidableEq (List En × Int × Int × List Int × List Int × List Int) := instDecidableEqProd
instance decN5 : DecidableEq (Int × List En × Int × Int × List Int × List Int × List Int) := instDecidableEqProd
instance decN6 : DecidableEq (Int × Int × List En × Int × Int × List Int × List Int × List Int) := instDecidableEqProd
instance decN7 : DecidableEq (Int × Int × Int × List En × Int × Int × List Int × List Int × List Int) := instDecidableEqProd
instance decNd : DecidableEq Nd := (instDecidableEqProd : DecidableEq (Int × Int × Int × Int × List En × Int × Int × List Int × List Int × List Int))
/-- As long as rows may be. -/
def nLen (n : Nd) (B : Nat) : Prop := n.2.2.2.2.1.length ≤ B ∧ n.2.2.2.2.2.2.2.1.length ≤ B ∧ n.2.2.2.2.2.2.2.2.1.length ≤ B ∧ n.2.2.2.2.2.2.2.2.2.length ≤ B
instance (n : Nd) (B : Nat) : Decidable (nLen n B) := by unfold nLen; infer_instance
def m13 (x : Nd × Nd) : Option Bool := if nLen x.1 mid then some (decide (x.1 = x.2)) else none
theorem bifeq2 {p q : Prop} [Decidable p] [Decidable q] {o : Option Bool} (h : p → o = some (decide q)) (h2 : ¬ p → ¬ q) : (bif !decide p then some false else o) = some (decide q) := by
  by_cases hp : p
  · rw [dt hp]; exact h hp
  · rw [df hp, df (h2 hp)]; rfl
theorem sat13 : Sat prog cxT 13 (c13 m13) := s13 m20 m21 sat20 sat21 m13 fun x t h => by
  obtain ⟨⟨a, b, c, d, lg, e, f, vt, nx, mt⟩, a', b', c', d', lg', e', f', vt', nx', mt'⟩ := x
  unfold m13 at h
  split at h
  · rename_i hc
    cases h
    obtain ⟨h2, h3, h4, h5⟩ := hc
    simp only [mid] at h2 h3 h4 h5
    refine ⟨0, ?_⟩
    show g13 m20 m21 0 a b c d lg e f vt nx mt a' b' c' d' lg' e' f' vt' nx' mt' = _
    unfold g13
    rw [show m20 (lg, lg') = some (decide (lg = lg')) from if_pos (by simp only; omega), tst_some, show m21 (vt, vt') = some (decide (vt = vt')) from if_pos (by simp only; omega), tst_some, show m21 (nx, nx') = some (decide (nx = nx')) from if_pos (by simp only; omega), tst_some,
      show m21 (mt, mt') = some (decide (mt = mt')) from if_pos (by simp only; omega), tst_some]
    refine bifeq (fun e1 => bifeq (fun e2 => bifeq (fun e3 => bifeq (fun e4 => bifeq2 (fun e5 => bifeq (fun e6 => bifeq (fun e7 => bifeq2 (fun e8 => bifeq2 (fun e9 => bifeq2 (fun e10 => ?_) ?_) ?_) ?_) ?_) ?_) ?_) ?_) ?_) ?_) ?_
    · subst e1 e2 e3 e4 e5 e6 e7 e8 e9 e10; simp
    all_goals intro e h; simp only [Prod.mk.injEq] at h; obtain ⟨q1, q2, q3, q4, q5, q6, q7, q8, q9, q10⟩ := h; first | exact e q1 | exact e q2 | exact e q3 | exact e q4 | exact e q5 | exact e q6 | exact e q7 | exact e q8 | exact e q9 | exact e q10
  · cases h

/-! ### Marks of numbers -/
def mkI (v : Int) : Int := v
def m24 (x : List Int × Int) : Option (Int × List Int) := if x.1.length ≤ 1000000000 ∧ 0 ≤ x.2 ∧ x.2 ≤ 100000000000 then some (x.2 + 1 * (x.1.length : Int), mkR mkI 1 x.1.length x.2) else none
theorem st48 (L : Nat) (a0 : List Int) (a1 : Int) (n : Nat) (o : List Int) (v : Int) (i : Nat) (K : List Int → Int → Option (Int × List Int)) (ho : o.length ≤ 1000000000) (hi : i < o.length) (h0 : 0 ≤ v) (h1 : v ≤ 1000000000000000) :
    l24_0 L a0 a1 (n + 1) o v i K = l24_0 L a0 a1 n (o.set i (mkI v)) (v + 1) ((i + 1 : Nat) : Int) K := by
  conv => lhs; unfold l24_0
  simp (disch := omega) only [dt, wi, cond_true, Bool.and_self, Int.toNat_natCast]
  rw [show (i : Int) + 1 = ((i + 1 : Nat) : Int) by omega]
  rfl
theorem sat24 : SatW prog cxT 24 (c24 m24).nres (c24 m24).n (c24 m24).F := s24 m24 fun x t h => by
  obtain ⟨o, v⟩ := x
  unfold m24 at h
  split at h
  · rename_i hc
    cases h
    simp only at hc
    refine ⟨o.length + 1, ?_⟩
    show g24 (o.length + 1) o v = _
    unfold g24
    refine (markRun mkI 1 1000000000000000 o.length (by omega) (fun n o' v' i' K => l24_0 (o.length + 1) o v n o' v' i' K) (fun n o' v' i' K hl h1 h2 h3 => st48 _ _ _ _ _ _ _ _ (by omega) h1 h2 h3)
      (fun n o' v' i' K hl h1 => ?_) (fun w0_0 w0_1 => some (w0_1, w0_0)) (o.length + 1) 0 o v rfl (by omega) (by omega) hc.2.1 (by omega)).trans ?_
    · show l24_0 _ _ _ (n + 1) o' v' i' K = _
      conv => lhs; unfold l24_0
      rw [df (by omega), cond_false]
    · simp
  · cases h
def hdI (x : List Int × Int) : Prop := x.1.length ≤ 1000000000 ∧ 0 ≤ x.2 ∧ x.2 ≤ 100000000000 ∧ x.1 = mkR mkI 1 x.1.length x.2
instance (x : List Int × Int) : Decidable (hdI x) := by unfold hdI; infer_instance
def m26 (x : List Int × Int) : Option Int := if hdI x then some (x.2 + 1 * (x.1.length : Int)) else none
theorem st50 (L : Nat) (a0 : List Int) (a1 : Int) (n : Nat) (v : Int) (i : Nat) (K : Int → Option Int) (ho : a0.length ≤ 1000000000) (hi : i < a0.length) (h0 : 0 ≤ v) (h1 : v ≤ 1000000000000000) (hm : a0.getD i 0 = mkI v) :
    l26_0 L a0 a1 (n + 1) v i K = l26_0 L a0 a1 n (v + 1) ((i + 1 : Nat) : Int) K := by
  conv => lhs; unfold l26_0
  simp (disch := omega) only [dt, wi, cond_true, Bool.and_self, Int.toNat_natCast, hm]
  unfold mkI
  simp (disch := omega) only [bneF, cond_false]
  rw [show (i : Int) + 1 = ((i + 1 : Nat) : Int) by omega]
theorem sat26 : Sat prog cxT 26 (c26 m26) := s26 m26 fun x t h => by
  obtain ⟨a, v⟩ := x
  unfold m26 at h
  split at h
  · rename_i hc
    cases h
    obtain ⟨h1, h2, h3, h4⟩ := hc
    simp only at h1 h2 h3 h4
    refine ⟨a.length + 1, ?_⟩
    show g26 (a.length + 1) a v = _
    unfold g26
    have := heldRun 0 mkI 1 1000000000000000 (by omega) a.length v (fun n v' i' K => l26_0 (a.length + 1) a v n v' i' K) h2 (fun n v' i' K k1 k2 k3 k4 => st50 _ _ _ _ _ _ _ h1 k1 k2 k3 (by rw [← h4] at k4; exact k4))
      (fun n v' i' K k1 => by
        show l26_0 _ _ _ (n + 1) v' i' K = _
        conv => lhs; unfold l26_0
        rw [df (by omega), cond_false]) (by omega) (fun w0_1 => some w0_1) (a.length + 1) 0 (by omega) (by omega)
    simp only [Int.natCast_zero, Int.mul_zero, Int.add_zero] at this
    exact this
  · cases h
/-! ### Marks of nodes -/
/-- The marks of a node's rows, from v on. -/
def k1 (n : Nd) (v : Int) : Int := v + 9 * (n.2.2.2.2.1.length : Int)
def k2 (n : Nd) (v : Int) : Int := k1 n v + 1 * (n.2.2.2.2.2.2.2.1.length : Int)
def k3 (n : Nd) (v : Int) : Int := k2 n v + 1 * (n.2.2.2.2.2.2.2.2.1.length : Int)
def k4 (n : Nd) (v : Int) : Int := k3 n v + 1 * (n.2.2.2.2.2.2.2.2.2.length : Int)
def mkN (n : Nd) (v : Int) : Nd := (n.1, n.2.1, n.2.2.1, n.2.2.2.1, mkR mkE 9 n.2.2.2.2.1.length v, n.2.2.2.2.2.1, n.2.2.2.2.2.2.1, mkR mkI 1 n.2.2.2.2.2.2.2.1.length (k1 n v), mkR mkI 1 n.2.2.2.2.2.2.2.2.1.length (k2 n v), mkR mkI 1 n.2.2.2.2.2.2.2.2.2.length (k3 n v))
def m15 (x : Nd × Int) : Option (Int × Nd) := if nLen x.1 100000000 ∧ 0 ≤ x.2 ∧ x.2 ≤ 1000000000 then some (k4 x.1 x.2, mkN x.1 x.2) else none
theorem sat15 : SatW prog cxT 15 (c15 m15).nres (c15 m15).n (c15 m15).F := s15 m23 m24 sat23 sat24 m15 fun x t h => by
  obtain ⟨⟨a, b, c, d, lg, e, f, vt, nx, mt⟩, v⟩ := x
  unfold m15 at h
  split at h
  · rename_i hc
    cases h
    obtain ⟨⟨h2, h3, h4, h5⟩, h0, h1⟩ := hc
    simp only at h0 h1 h2 h3 h4 h5
    refine ⟨0, ?_⟩
    show g15 m23 m24 0 a b c d lg e f vt nx mt v = _
    unfold g15
    rw [show m23 (lg, v) = some (v + 9 * (lg.length : Int), mkR mkE 9 lg.length v) from if_pos ⟨by simp only; omega, h0, by simp only; omega⟩, tst_some,
      show m24 (vt, v + 9 * (lg.length : Int)) = some (v + 9 * (lg.length : Int) + 1 * (vt.length : Int), mkR mkI 1 vt.length (v + 9 * (lg.length : Int))) from if_pos ⟨by simp only; omega, by simp only; omega, by simp only; omega⟩, tst_some,
      show m24 (nx, v + 9 * (lg.length : Int) + 1 * (vt.length : Int)) = some (v + 9 * (lg.length : Int) + 1 * (vt.length : Int) + 1 * (nx.length : Int), mkR mkI 1 nx.length (v + 9 * (lg.length : Int) + 1 * (vt.length : Int))) from if_pos ⟨by simp only; omega, by simp only; omega, by simp only; omega⟩, tst_some,
      show m24 (mt, v + 9 * (lg.length : Int) + 1 * (vt.length : Int) + 1 * (nx.length : Int)) = some (v + 9 * (lg.length : Int) + 1 * (vt.length : Int) + 1 * (nx.length : Int) + 1 * (mt.length : Int), mkR mkI 1 mt.length (v + 9 * (lg.length : Int) + 1 * (vt.length : Int) + 1 * (nx.length : Int))) from if_pos ⟨by simp only; omega, by simp only; omega, by simp only; omega⟩, tst_some]
    rfl
  · cases h
/-- Nodes that were marked hold their marks. -/
def hdN (x : Nd × Int) : Prop := nLen x.1 100000000 ∧ 0 ≤ x.2 ∧ x.2 ≤ 1000000000 ∧ x.1 = mkN x.1 x.2
instance (x : Nd × Int) : Decidable (hdN x) := by unfold hdN; infer_instance
def m17 (x : Nd × Int) : Option Int := if hdN x then some (k4 x.1 x.2) else none
theorem sat17 : Sat prog cxT 17 (c17 m17) := s17 m25 m26 sat25 sat26 m17 fun x t h => by
  obtain ⟨⟨a, b, c, d, lg, e, f, vt, nx, mt⟩, v⟩ := x
  unfold m17 at h
  split at h
  · rename_i hc
    cases h
    obtain ⟨⟨h2, h3, h4, h5⟩, h0, h1, h6⟩ := hc
    simp only at h0 h1 h2 h3 h4 h5
    simp only [mkN, k1, k2, k3, Prod.mk.injEq] at h6
    obtain ⟨-, -, -, -, q1, -, -, q2, q3, q4⟩ := h6
    refine ⟨0, ?_⟩
    show g17 m25 m26 0 a b c d lg e f vt nx mt v = _
    unfold g17
    rw [show m25 (lg, v) = some (v + 9 * (lg.length : Int)) from if_pos ⟨by simp only; omega, h0, by simp only; omega, q1⟩, tst_some, df (by omega), cond_false,
      show m26 (vt, v + 9 * (lg.length : Int)) = some (v + 9 * (lg.length : Int) + 1 * (vt.length : Int)) from if_pos ⟨by simp only; omega, by simp only; omega, by simp only; omega, q2⟩, tst_some, df (by omega), cond_false,
      show m26 (nx, v + 9 * (lg.length : Int) + 1 * (vt.length : Int)) = some (v + 9 * (lg.length : Int) + 1 * (vt.length : Int) + 1 * (nx.length : Int)) from if_pos ⟨by simp only; omega, by simp only; omega, by simp only; omega, q3⟩, tst_some, df (by omega), cond_false,
      show m26 (mt, v + 9 * (lg.length : Int) + 1 * (vt.length : Int) + 1 * (nx.length : Int)) = some (v + 9 * (lg.length : Int) + 1 * (vt.length : Int) + 1 * (nx.length : Int) + 1 * (mt.length : Int)) from if_pos ⟨by simp only; omega, by simp only; omega, by simp only; omega, q4⟩, tst_some, df (by omega), cond_false]
    rfl
  · cases h
theorem mkN_len (n : Nd) (v : Int) {B : Nat} : nLen (mkN n v) B ↔ nLen n B := by simp only [nLen, mkN, mkR_len]
theorem mkN_mk (n : Nd) (v : Int) : mkN (mkN n v) v = mkN n v := by simp only [mkN, k1, k2, k3, mkR_len]
theorem k4_mk (n : Nd) (v : Int) : k4 (mkN n v) v = k4 n v := by simp only [k4, k3, k2, k1, mkN, mkR_len]

/-! ### Mails: what laws do with them -/
abbrev Ml := Int × Int × Int × Int × Int × Int × Int × Bool × List En
def dM : Ml := (0, 0, 0, 0, 0, 0, 0, false, [])
instance decM1 : DecidableEq (Bool × List En) := inferInstance
instance decM2 : DecidableEq (Int × Bool × List En) := instDecidableEqProd
instance decM3 : DecidableEq (Int × Int × Bool × List En) := instDecidableEqProd
instance decM4 : DecidableEq (Int × Int × Int × Bool × List En) := instDecidableEqProd
instance decM5 : DecidableEq (Int × Int × Int × Int × Bool × List En) := instDecidableEqProd
instance decM6 : DecidableEq (Int × Int × Int × Int × Int × Bool × List En) := instDecidableEqProd
instance decM7 : DecidableEq (Int × Int × Int × Int × Int × Int × Bool × List En) := instDecidableEqProd
instance decMl : DecidableEq Ml := (instDecidableEqProd : DecidableEq (Int × Int × Int × Int × Int × Int × Int × Bool × List En))
def enM (x : Ml) : List En := x.2.2.2.2.2.2.2.2
def m22 (x : Ml × Ml) : Option Bool := if (enM x.1).length ≤ mid then some (decide (x.1 = x.2)) else none
theorem bifeqB {a b : Bool} {o : Option Bool} {p : Prop} [Decidable p] (h : a = b → o = some (decide p)) (h2 : ¬ a = b → ¬ p) : (bif !(a == b) then some false else o) = some (decide p) := by
  by_cases hp : a = b
  · rw [show (a == b) = true by simpa using hp]; exact h hp
  · rw [show (a == b) = false by simpa using hp, df (h2 hp)]; rfl
theorem sat22 : Sat prog cxT 22 (c22 m22) := s22 m20 sat20 m22 fun x t h => by
  obtain ⟨⟨a, b, c, d, e, f, g, o, l⟩, a', b', c', d', e', f', g', o', l'⟩ := x
  unfold m22 at h
  split at h
  · rename_i hc
    cases h
    have hc : l.length ≤ 1000000000 := hc
    refine ⟨0, ?_⟩
    show g22 m20 0 a b c d e f g o l a' b' c' d' e' f' g' o' l' = _
    unfold g22
    rw [show m20 (l, l') = some (decide (l = l')) from if_pos (by simp only; omega), tst_some]
    refine bifeq (fun e1 => bifeq (fun e2 => bifeq (fun e3 => bifeq (fun e4 => bifeq (fun e5 => bifeq (fun e6 => bifeq (fun e7 => bifeqB (fun e8 => bifeq2 (fun e9 => ?_) ?_) ?_) ?_) ?_) ?_) ?_) ?_) ?_) ?_
    · subst e1 e2 e3 e4 e5 e6 e7 e8 e9; simp
    all_goals intro e h; simp only [Prod.mk.injEq] at h; obtain ⟨q1, q2, q3, q4, q5, q6, q7, q8, q9⟩ := h; first | exact e q1 | exact e q2 | exact e q3 | exact e q4 | exact e q5 | exact e q6 | exact e q7 | exact e q8 | exact e q9
  · cases h
theorem el14 (m : Ml × Ml → Option Bool) (L : Nat) (a b : List Ml) : ∀ (n : Nat) (i : Int) (k : Option Bool), l14_0 m L a b n i k = eqL dM m a b n i k
  | 0, _, _ => rfl
  | n + 1, i, k => by
    unfold l14_0 eqL
    simp only [el14 m L a b n]
    rfl
def enOk (l : List Ml) : Prop := ∀ x ∈ l, (enM x).length ≤ mid
instance (l : List Ml) : Decidable (enOk l) := by unfold enOk; infer_instance
def m14 (x : List Ml × List Ml) : Option Bool := if x.1.length ≤ 1000000000000 ∧ enOk x.1 then some (decide (x.1 = x.2)) else none
theorem sat14 : Sat prog cxT 14 (c14 m14) := s14 m22 sat22 m14 fun x t h => by
  obtain ⟨a, b⟩ := x
  unfold m14 at h
  split at h
  · rename_i hc
    cases h
    obtain ⟨hc, hE⟩ := hc
    have hc : a.length ≤ 1000000000000 := hc
    refine ⟨a.length + 1, ?_⟩
    show g14 m22 (a.length + 1) a b = some (decide (a = b))
    unfold g14
    refine bifeq (fun e => ?_) fun e h => e (by rw [h])
    rw [el14]
    refine (eqL_ok dM m22 a b (by omega) (by omega) (fun x hx y _ => if_pos (hE x hx)) _ _ 0 (by omega) (by omega)).trans ?_
    simp only [List.drop_zero]
    split <;> rename_i hh <;> simp [hh]
  · cases h
/-! ### Marks of mails -/
def mkM (x : Ml) (v : Int) : Ml := (v, v + 1, v + 2, v + 3, v + 4, v + 5, v + 6, (Int.tmod (v + 7) 3 == 0), mkR mkE 9 (enM x).length (v + 8))
def wM (x : Ml) : Int := 8 + 9 * ((enM x).length : Int)
theorem wM_mk (x : Ml) (v : Int) : wM (mkM x v) = wM x := by unfold wM mkM enM; simp only [mkR_len]
theorem mkM_mk (x : Ml) (v : Int) : mkM (mkM x v) v = mkM x v := by unfold mkM enM; simp only [mkR_len]
theorem wM_pos (x : Ml) : 0 ≤ wM x := by unfold wM; omega
def m16 (x : List Ml × Int) : Option (Int × List Ml) := if x.1.length ≤ 1000000000 ∧ 0 ≤ x.2 ∧ x.2 + sumW wM x.1 ≤ 1000000000 then some (x.2 + sumW wM x.1, mkV mkM wM x.1 x.2) else none
theorem st33 (L : Nat) (a0 : List Ml) (a1 : Int) (n : Nat) (o : List Ml) (v : Int) (i : Nat) (K : List Ml → Int → Option (Int × List Ml)) (ho : o.length ≤ 1000000000) (hi : i < o.length) (h0 : 0 ≤ v) (h1 : v ≤ 10000000000) (hq : (enM (o.getD i dM)).length ≤ 1000000000) :
    l16_0 m23 L a0 a1 (n + 1) o v i K = l16_0 m23 L a0 a1 n (o.set i (mkM (o.getD i dM) v)) (v + wM (o.getD i dM)) ((i + 1 : Nat) : Int) K := by
  conv => lhs; unfold l16_0
  simp (disch := omega) only [List.length_modify, dt, wi, cond_true, Bool.and_self, Int.toNat_natCast, modify_modify', getD_modify]
  have hd : (o.getD i (0, 0, 0, 0, 0, 0, 0, false, []) : Ml) = o.getD i dM := rfl
  simp only [hd]
  have e8 : v + 1 + 1 + 1 + 1 + 1 + 1 + 1 + 1 = v + 8 := by omega
  have e47 : m23 ((o.getD i dM).2.2.2.2.2.2.2.2, v + 8) = some (v + 8 + 9 * ((enM (o.getD i dM)).length : Int), mkR mkE 9 (enM (o.getD i dM)).length (v + 8)) := if_pos ⟨hq, by simp only; omega, by simp only; omega⟩
  rw [e8, e47, tst_some, modify_at dM o i _ hi, List.set_set, show (i : Int) + 1 = ((i + 1 : Nat) : Int) by omega, show v + 8 + 9 * ((enM (o.getD i dM)).length : Int) = v + wM (o.getD i dM) by unfold wM; omega]
  congr 2
  unfold mkM
  rw [show v + 1 + 1 = v + 2 by omega, show v + 2 + 1 = v + 3 by omega, show v + 3 + 1 = v + 4 by omega, show v + 4 + 1 = v + 5 by omega, show v + 5 + 1 = v + 6 by omega, show v + 6 + 1 = v + 7 by omega]
theorem sumW_le {l : List Ml} {v B : Int} (h0 : 0 ≤ v) (h : v + sumW wM l ≤ B) : ∀ x ∈ l, 9 * ((enM x).length : Int) ≤ B := fun x hx => by
  have := sumW_mem (w := wM) (fun y _ => wM_pos y) x hx
  have h9 : wM x = 8 + 9 * ((enM x).length : Int) := rfl
  omega
theorem sat16 : SatW prog cxT 16 (c16 m16).nres (c16 m16).n (c16 m16).F := s16 m23 sat23 m16 fun x t h => by
  obtain ⟨o, v⟩ := x
  unfold m16 at h
  split at h
  · rename_i hc
    cases h
    simp only at hc
    obtain ⟨h1, h2, h3⟩ := hc
    refine ⟨o.length + 1, ?_⟩
    show g16 m23 (o.length + 1) o v = _
    unfold g16
    refine (markRunV dM mkM wM 1000000000 wM_pos (fun x => (enM x).length ≤ 1000000000) o.length (fun n o' v' i' K => l16_0 m23 (o.length + 1) o v n o' v' i' K)
      (fun n o' v' i K hl k1 k2 k3 k4 => ?_) (fun n o' v' i K hl k1 => ?_) (fun w0_0 w0_1 => some (w0_1, w0_0)) o [] v (o.length + 1) rfl (by omega) h2 h3 (fun x hx => by have := sumW_le h2 h3 x hx; omega)).trans ?_
    · exact st33 _ _ _ _ _ _ _ _ (by omega) k1 k2 (by omega) k4
    · show l16_0 _ _ _ _ (n + 1) o' v' i K = _
      conv => lhs; unfold l16_0
      rw [df (by omega), cond_false]
    · simp
  · cases h
/-- Mails that were marked hold their marks. -/
def hdM (x : List Ml × Int) : Prop := x.1.length ≤ 1000000000 ∧ 0 ≤ x.2 ∧ x.2 + sumW wM x.1 ≤ 1000000000 ∧ x.1 = mkV mkM wM x.1 x.2
instance (x : List Ml × Int) : Decidable (hdM x) := by unfold hdM; infer_instance
def m18 (x : List Ml × Int) : Option Int := if hdM x then some (x.2 + sumW wM x.1) else none
theorem st35 (L : Nat) (a0 : List Ml) (a1 : Int) (n : Nat) (v : Int) (i : Nat) (K : Int → Option Int) (ho : a0.length ≤ 1000000000) (hi : i < a0.length) (h0 : 0 ≤ v) (h1 : v ≤ 1000000000) (hq : (enM (a0.getD i dM)).length ≤ 1000000000) (hm : a0.getD i dM = mkM (a0.getD i dM) v) :
    l18_0 m25 L a0 a1 (n + 1) v i K = l18_0 m25 L a0 a1 n (v + wM (a0.getD i dM)) ((i + 1 : Nat) : Int) K := by
  conv => lhs; unfold l18_0
  have hd : (a0.getD i (0, 0, 0, 0, 0, 0, 0, false, []) : Ml) = a0.getD i dM := rfl
  simp (disch := omega) only [dt, wi, cond_true, Bool.and_self, Int.toNat_natCast, hd]
  have hw : wM (a0.getD i dM) = 8 + 9 * ((enM (a0.getD i dM)).length : Int) := rfl
  obtain ⟨N, hN⟩ : ∃ N, N = (enM (a0.getD i dM)).length := ⟨_, rfl⟩
  have hm2 : a0.getD i dM = (v, v + 1, v + 2, v + 3, v + 4, v + 5, v + 6, (Int.tmod (v + 7) 3 == 0), mkR mkE 9 N (v + 8)) := by rw [hN]; exact hm
  rw [← hN] at hw hq
  rw [hw, hm2]
  have e8 : v + 1 + 1 + 1 + 1 + 1 + 1 + 1 + 1 = v + 8 := by omega
  have e7 : v + 1 + 1 + 1 + 1 + 1 + 1 + 1 = v + 7 := by omega
  have e49 : m25 (mkR mkE 9 N (v + 8), v + 8) = some (v + 8 + 9 * (N : Int)) := by
    unfold m25
    rw [if_pos (hd_mk hq (by omega) (by omega))]
    simp only [mkR_len]
  simp (disch := omega) only [bneF, cond_false]
  rw [e8, e7, e49]
  simp only [tst_some, beq_self_eq_true, Bool.not_true, cond_false]
  rw [df (by omega), cond_false, show (i : Int) + 1 = ((i + 1 : Nat) : Int) by omega, show v + 8 + 9 * (N : Int) = v + (8 + 9 * (N : Int)) by omega]

theorem sat18 : Sat prog cxT 18 (c18 m18) := s18 m25 sat25 m18 fun x t h => by
  obtain ⟨a, v⟩ := x
  unfold m18 at h
  split at h
  · rename_i hc
    cases h
    obtain ⟨h1, h2, h3, h4⟩ := hc
    simp only at h1 h2 h3 h4
    refine ⟨a.length + 1, ?_⟩
    show g18 m25 (a.length + 1) a v = _
    unfold g18
    exact heldRunV dM mkM wM 1000000000 wM_pos wM_mk (fun x => (enM x).length ≤ 1000000000) a (fun n v' i' K => l18_0 m25 (a.length + 1) a v n v' i' K)
      (fun n v' i K k1 k2 k3 k4 k5 => st35 _ _ _ _ _ _ _ h1 k1 k2 k3 k4 k5)
      (fun n v' i K k1 => by
        show l18_0 _ _ _ _ (n + 1) v' i K = _
        conv => lhs; unfold l18_0
        rw [df (by omega), cond_false]) (fun w0_1 => some w0_1) a [] v (a.length + 1) rfl (by omega) h2 h3 (fun x hx => by have := sumW_le h2 h3 x hx; omega) h4
  · cases h
/-! ### Answers that bear a node -/
theorem nLen_up {x : Nd} {a b : Nat} (h : nLen x a) (hab : a ≤ b) : nLen x b := ⟨Nat.le_trans h.1 hab, Nat.le_trans h.2.1 hab, Nat.le_trans h.2.2.1 hab, Nat.le_trans h.2.2.2 hab⟩
abbrev Nr := Int × Int × Int × Int × Int × List En × Int × Int × List Int × List Int × List Int × List Ml
def ndR (r : Nr) : Nd := (r.2.1, r.2.2.1, r.2.2.2.1, r.2.2.2.2.1, r.2.2.2.2.2.1, r.2.2.2.2.2.2.1, r.2.2.2.2.2.2.2.1, r.2.2.2.2.2.2.2.2.1, r.2.2.2.2.2.2.2.2.2.1, r.2.2.2.2.2.2.2.2.2.2.1)
def sdR (r : Nr) : List Ml := r.2.2.2.2.2.2.2.2.2.2.2
def mkNr (c : Int) (n : Nd) (s : List Ml) : Nr := (c, n.1, n.2.1, n.2.2.1, n.2.2.2.1, n.2.2.2.2.1, n.2.2.2.2.2.1, n.2.2.2.2.2.2.1, n.2.2.2.2.2.2.2.1, n.2.2.2.2.2.2.2.2.1, n.2.2.2.2.2.2.2.2.2, s)
def nrOk (r : Nr) : Prop := nLen (ndR r) 100000000 ∧ (sdR r).length ≤ 1000000000 ∧ enOk (sdR r) ∧ k4 (ndR r) 1 + sumW wM (sdR r) ≤ 1000000000
instance (r : Nr) : Decidable (nrOk r) := by unfold nrOk; infer_instance
instance decR1 : DecidableEq (List Int × List Ml) := inferInstance
instance decR2 : DecidableEq (List Int × List Int × List Ml) := instDecidableEqProd
instance decR3 : DecidableEq (List Int × List Int × List Int × List Ml) := instDecidableEqProd
instance decR4 : DecidableEq (Int × List Int × List Int × List Int × List Ml) := instDecidableEqProd
instance decR5 : DecidableEq (Int × Int × List Int × List Int × List Int × List Ml) := instDecidableEqProd
instance decR6 : DecidableEq (List En × Int × Int × List Int × List Int × List Int × List Ml) := instDecidableEqProd
instance decR7 : DecidableEq (Int × List En × Int × Int × List Int × List Int × List Int × List Ml) := instDecidableEqProd
instance decR8 : DecidableEq (Int × Int × List En × Int × Int × List Int × List Int × List Int × List Ml) := instDecidableEqProd
instance decR9 : DecidableEq (Int × Int × Int × List En × Int × Int × List Int × List Int × List Int × List Ml) := instDecidableEqProd
instance decR10 : DecidableEq (Int × Int × Int × Int × List En × Int × Int × List Int × List Int × List Int × List Ml) := instDecidableEqProd
instance decNr : DecidableEq Nr := (instDecidableEqProd : DecidableEq (Int × Int × Int × Int × Int × List En × Int × Int × List Int × List Int × List Int × List Ml))
def m6 (x : Nr × Nr) : Option Bool := if nrOk x.1 then some (decide (x.1 = x.2)) else none
theorem sat6 : Sat prog cxT 6 (c6 m6) := s6 m13 m14 sat13 sat14 m6 fun x t h => by
  obtain ⟨⟨q, a, b, c, d, lg, e, f, vt, nx, mt, sd⟩, q', a', b', c', d', lg', e', f', vt', nx', mt', sd'⟩ := x
  unfold m6 at h
  split at h
  · rename_i hc
    cases h
    obtain ⟨h1, h2, h3, h4⟩ := hc
    refine ⟨0, ?_⟩
    show g6 m13 m14 0 q a b c d lg e f vt nx mt sd q' a' b' c' d' lg' e' f' vt' nx' mt' sd' = _
    unfold g6
    rw [show m13 ((a, b, c, d, lg, e, f, vt, nx, mt), (a', b', c', d', lg', e', f', vt', nx', mt')) = some (decide ((a, b, c, d, lg, e, f, vt, nx, mt) = (a', b', c', d', lg', e', f', vt', nx', mt'))) from if_pos (nLen_up h1 (by decide)), tst_some,
      show m14 (sd, sd') = some (decide (sd = sd')) from if_pos ⟨Nat.le_trans h2 (by decide), h3⟩, tst_some]
    refine bifeq (fun e1 => bifeq2 (fun e2 => bifeq2 (fun e3 => ?_) ?_) ?_) ?_
    · subst e1 e3; simp only [Prod.mk.injEq] at e2; obtain ⟨rfl, rfl, rfl, rfl, rfl, rfl, rfl, rfl, rfl, rfl⟩ := e2; simp
    all_goals intro e h; simp only [Prod.mk.injEq] at h; obtain ⟨q1, q2, q3, q4, q5, q6, q7, q8, q9, q10, q11, q12⟩ := h; first | exact e q1 | exact e q12 | exact e (by rw [q2, q3, q4, q5, q6, q7, q8, q9, q10, q11])
  · cases h
def m7 (x : Nr × Int) : Option (Int × Nr) := if nrOk x.1 ∧ x.2 = 1 then some (k4 (ndR x.1) 1 + sumW wM (sdR x.1), mkNr x.1.1 (mkN (ndR x.1) 1) (mkV mkM wM (sdR x.1) (k4 (ndR x.1) 1))) else none
theorem k4_pos {n : Nd} {v : Int} (h : 0 ≤ v) : 0 ≤ k4 n v := by unfold k4 k3 k2 k1; omega
theorem sat7 : SatW prog cxT 7 (c7 m7).nres (c7 m7).n (c7 m7).F := s7 m15 m16 sat15 sat16 m7 fun x t h => by
  obtain ⟨⟨q, a, b, c, d, lg, e, f, vt, nx, mt, sd⟩, v⟩ := x
  unfold m7 at h
  split at h
  · rename_i hc
    cases h
    obtain ⟨⟨h1, h2, h3, h4⟩, rfl⟩ := hc
    refine ⟨0, ?_⟩
    show g7 m15 m16 0 q a b c d lg e f vt nx mt sd 1 = _
    unfold g7
    rw [show m15 ((a, b, c, d, lg, e, f, vt, nx, mt), 1) = some (k4 (a, b, c, d, lg, e, f, vt, nx, mt) 1, mkN (a, b, c, d, lg, e, f, vt, nx, mt) 1) from if_pos ⟨h1, by simp only; omega, by simp only; omega⟩, tst_some,
      show m16 (sd, k4 (a, b, c, d, lg, e, f, vt, nx, mt) 1) = some (k4 (a, b, c, d, lg, e, f, vt, nx, mt) 1 + sumW wM sd, mkV mkM wM sd (k4 (a, b, c, d, lg, e, f, vt, nx, mt) 1)) from if_pos ⟨h2, k4_pos (by omega), h4⟩, tst_some]
    rfl
  · cases h
def hdR (r : Nr) : Prop := nrOk r ∧ ndR r = mkN (ndR r) 1 ∧ sdR r = mkV mkM wM (sdR r) (k4 (ndR r) 1)
instance (r : Nr) : Decidable (hdR r) := by unfold hdR; infer_instance
def m8 (x : Nr × Int) : Option Int := if hdR x.1 ∧ x.2 = 1 then some (k4 (ndR x.1) 1 + sumW wM (sdR x.1)) else none
theorem sat8 : Sat prog cxT 8 (c8 m8) := s8 m17 m18 sat17 sat18 m8 fun x t h => by
  obtain ⟨⟨q, a, b, c, d, lg, e, f, vt, nx, mt, sd⟩, v⟩ := x
  unfold m8 at h
  split at h
  · rename_i hc
    cases h
    obtain ⟨⟨⟨h1, h2, h3, h4⟩, h5, h6⟩, rfl⟩ := hc
    refine ⟨0, ?_⟩
    show g8 m17 m18 0 q a b c d lg e f vt nx mt sd 1 = _
    unfold g8
    have hk := k4_pos (n := (a, b, c, d, lg, e, f, vt, nx, mt)) (v := 1) (by omega)
    have hs := sumW_nonneg (w := wM) (l := sd) fun y _ => wM_pos y
    rw [show m17 ((a, b, c, d, lg, e, f, vt, nx, mt), 1) = some (k4 (a, b, c, d, lg, e, f, vt, nx, mt) 1) from if_pos ⟨h1, by simp only; omega, by simp only; omega, h5⟩, tst_some, df (by omega), cond_false,
      show m18 (sd, k4 (a, b, c, d, lg, e, f, vt, nx, mt) 1) = some (k4 (a, b, c, d, lg, e, f, vt, nx, mt) 1 + sumW wM sd) from if_pos ⟨h2, hk, h4, h6⟩, tst_some, df (by omega), cond_false]
    rfl
  · cases h
theorem enM_mk (x : Ml) (v : Int) : (enM (mkM x v)).length = (enM x).length := by unfold enM mkM; simp only [mkR_len]; rfl
/-- What was marked holds its marks. -/
theorem hdR_mk {r : Nr} (h : nrOk r) : hdR (mkNr r.1 (mkN (ndR r) 1) (mkV mkM wM (sdR r) (k4 (ndR r) 1))) := by
  obtain ⟨h1, h2, h3, h4⟩ := h
  have e1 : ndR (mkNr r.1 (mkN (ndR r) 1) (mkV mkM wM (sdR r) (k4 (ndR r) 1))) = mkN (ndR r) 1 := rfl
  have e2 : sdR (mkNr r.1 (mkN (ndR r) 1) (mkV mkM wM (sdR r) (k4 (ndR r) 1))) = mkV mkM wM (sdR r) (k4 (ndR r) 1) := rfl
  unfold hdR nrOk
  rw [e1, e2, k4_mk, mkV_sum wM_mk, mkV_len]
  refine ⟨⟨(mkN_len _ _).2 h1, h2, fun x hx => ?_, h4⟩, (mkN_mk _ _).symm, (mkV_mk wM_mk mkM_mk _ _).symm⟩
  obtain ⟨y, hy, v, rfl⟩ := mkV_mem hx
  rw [enM_mk]
  exact h3 y hy
def m9 (x : Int × Int × Int) : Option Bool := some (decide (x.2.1 ≤ x.1 ∧ x.1 ≤ x.2.2))
def idOk (p i : Int) : Bool := decide (0 ≤ i ∧ i ≤ IntKind.wrap .i64 (p - 1))
/-! ### A node that has just begun -/
def m10 (c : Int) : Option Nr := some (c, 0, 0, 0, 0, [], 0, 0, [], [], [], [])
theorem sat10 : Sat prog cxT 10 (c10 m10) := s10 m10 fun x t h => by cases h; exact ⟨0, rfl⟩
def nwR (i p : Int) : Nr := bif !decide (1 ≤ p ∧ p ≤ 5) then (3, 0, 0, 0, 0, [], 0, 0, [], [], [], []) else bif !idOk p i then (3, 0, 0, 0, 0, [], 0, 0, [], [], [], []) else (0, i, p, 0, -1, [], 0, 0, [], [], [], [])
def m4 (x : Int × Int) : Option Nr := some (nwR x.1 x.2)
theorem sat4 : Sat prog cxT 4 (c4 m4) := s4 m9 m10 sat9 sat10 m4 fun x t h => by
  obtain ⟨i, p⟩ := x
  cases h
  refine ⟨0, ?_⟩
  show g4 m9 m10 0 i p = _
  unfold g4
  simp only [m9, m10, tst_some]
  unfold nwR
  show (bif !decide _ then _ else bif !decide _ then _ else _) = some (bif !decide _ then _ else bif !decide _ then _ else _)
  cases decide (1 ≤ p ∧ p ≤ 5)
  · rfl
  · cases decide (0 ≤ i ∧ i ≤ IntKind.wrap .i64 (p - 1)) <;> rfl
theorem bare_ok (c i p t v r k : Int) : nrOk (c, i, p, t, v, [], r, k, [], [], [], []) :=
  ⟨⟨Nat.zero_le _, Nat.zero_le _, Nat.zero_le _, Nat.zero_le _⟩, Nat.zero_le _, fun x hx => (by cases hx), by simp [k4, k3, k2, k1, ndR, sdR, sumW]⟩
theorem nwR_ok (i p : Int) : nrOk (nwR i p) := by
  unfold nwR
  cases decide (1 ≤ p ∧ p ≤ 5)
  · exact bare_ok ..
  · cases idOk p i
    · exact bare_ok ..
    · exact bare_ok ..
/-- The law of answers that are right, out of the contracts. -/
theorem law3 (i p : Int) : g3 m4 m4 m6 m7 m8 0 i p = some true := by
  have hr := nwR_ok i p
  unfold g3
  rw [show m4 (i, p) = some (nwR i p) from rfl]
  generalize nwR i p = r at hr
  simp only [tst_some]
  have e13 : m6 (r, r) = some true := (if_pos hr).trans (by rw [dt rfl])
  have e14 : m7 (r, 1) = some (k4 (ndR r) 1 + sumW wM (sdR r), mkNr r.1 (mkN (ndR r) 1) (mkV mkM wM (sdR r) (k4 (ndR r) 1))) := if_pos ⟨hr, rfl⟩
  have e15 : m8 (mkNr r.1 (mkN (ndR r) 1) (mkV mkM wM (sdR r) (k4 (ndR r) 1)), 1) = some (k4 (ndR r) 1 + sumW wM (sdR r)) := (if_pos ⟨hdR_mk hr, rfl⟩).trans (by
    show some (k4 (mkN (ndR r) 1) 1 + sumW wM (mkV mkM wM (sdR r) (k4 (ndR r) 1))) = _
    rw [k4_mk, mkV_sum wM_mk])
  have hk := k4_pos (n := ndR r) (v := 1) (by omega)
  have hs := sumW_nonneg (w := wM) (l := sdR r) fun y _ => wM_pos y
  rw [show m6 _ = some true from e13, show m7 _ = some _ from e14]
  simp only [tst_some]
  simp only [mkNr, mkN, ndR, sdR] at e15 hk hs ⊢
  rw [e15]
  simp only [tst_some]
  rw [df (by omega), bneF rfl]
  rfl

end Go.Proofs.Try

set_option maxHeartbeats 0
set_option linter.unusedVariables false
set_option linter.unusedSimpArgs false
namespace Go.Proofs.Try
open Go Go.VM Go.RowKit
/-! ### The program's own side -/
theorem ge_le {a b c : Int} : (bif decide (a ≥ b) then some (decide (a ≤ c)) else some false) = some (decide (b ≤ a ∧ a ≤ c)) := by
  by_cases h : a ≥ b
  · rw [dt h, cond_true]; exact congrArg some (decide_eq_decide.2 ⟨fun k => ⟨h, k⟩, fun k => k.2⟩)
  · rw [df h, cond_false, df (fun k => h k.1)]
theorem sat19 : Sat prog cxT 19 (c19 m9) := s19 m9 fun x t h => by
  obtain ⟨a, b, c⟩ := x
  cases h
  exact ⟨0, ge_le⟩
def m11 (p : Int) : Option Bool := some (decide (1 ≤ p ∧ p ≤ 5))
theorem sat11 : Sat prog cxT 11 (c11 m11) := s11 m9 sat19 m11 fun x t h => by cases h; exact ⟨0, rfl⟩
def m12 (x : Int × Int) : Option Bool := some (decide (0 ≤ x.1 ∧ x.1 < x.2))
theorem sat12 : Sat prog cxT 12 (c12 m12) := s12 m12 fun x t h => by
  obtain ⟨a, b⟩ := x
  cases h
  refine ⟨0, ?_⟩
  show g12 0 a b = _
  unfold g12
  by_cases h : a ≥ 0
  · rw [dt h, cond_true]; exact congrArg some (decide_eq_decide.2 ⟨fun k => ⟨h, k⟩, fun k => k.2⟩)
  · rw [df h, cond_false, df (fun k => h k.1)]
theorem sat5 : Sat prog cxT 5 (c5 m4) := s5 m11 m12 sat11 sat12 m4 fun x t h => by
  obtain ⟨i, p⟩ := x
  cases h
  refine ⟨0, ?_⟩
  show g5 m11 m12 0 i p = _
  unfold g5 nwR
  simp only [m11, m12, tst_some]
  by_cases hp : 1 ≤ p ∧ p ≤ 5
  · rw [dt hp]
    unfold idOk
    rw [wi (show -9223372036854775808 ≤ p - 1 by omega) (by omega), show decide (0 ≤ i ∧ i < p) = decide (0 ≤ i ∧ i ≤ p - 1) from decide_eq_decide.2 (by omega)]
    simp only [Bool.not_true, cond_false]
    cases decide (0 ≤ i ∧ i ≤ p - 1) <;> rfl
  · rw [df hp]; rfl
def mT (x : Int × Int) : Option Bool := some true
theorem sat3 : Sat prog cxT 3 (c3 mT) := s3 m4 m4 m6 m7 m8 sat4 sat5 sat6 sat7 sat8 mT fun x t h => by
  cases h
  exact ⟨0, law3 x.1 x.2⟩
end Go.Proofs.Try
