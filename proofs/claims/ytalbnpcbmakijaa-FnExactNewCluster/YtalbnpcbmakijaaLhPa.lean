/- A part of the proof of FnExactNewCluster: LhPa, LhPb. -/
import Derived.Test.YtalbnpcbmakijaaVmPl
import Derived.Test.YtalbnpcbmakijaaLhFa
import Derived.Test.YtalbnpcbmakijaaLhFc
import Derived.Test.YtalbnpcbmakijaaLhFd
set_option maxHeartbeats 0
set_option linter.unusedVariables false
set_option linter.unusedSimpArgs false
namespace Go.Proofs.Try
open Go Go.VM Go.RowKit

abbrev Cm := Int × Int × Int × Int × Int × Int

/-! ### Numbers -/
def ptOk (x : Int) : Bool := decide (0 ≤ x ∧ x ≤ 65535)
theorem bif_and {a b : Int} {x : Int} : (bif decide (x ≥ a) then some (decide (x ≤ b)) else some false) = some (decide (a ≤ x ∧ x ≤ b)) := by
  by_cases h : a ≤ x
  · rw [dt (show x ≥ a from h)]; simp [h]
  · rw [df (show ¬ x ≥ a from h)]; simp [h]
theorem sat9 : Sat prog cxT 9 (c9 fun x => some (decide (x.2.1 ≤ x.1 ∧ x.1 ≤ x.2.2))) := s9 _ fun x t h => by
  obtain ⟨x, a, b⟩ := x
  cases h
  exact ⟨0, bif_and⟩
def mid : Nat := 1000000000
theorem bifeq {α : Type} [DecidableEq α] [BEq α] [LawfulBEq α] {a b : α} {o : Option Bool} {p : Prop} [Decidable p] (h : a = b → o = some (decide p)) (h2 : ¬ a = b → ¬ p) : (bif a != b then some false else o) = some (decide p) := by
  by_cases e : a = b
  · rw [bneF e, cond_false, h e]
  · rw [bneT e, cond_true, df (h2 e)]
theorem bifn {b : Bool} : (bif !b then some false else some true) = some b := by cases b <;> rfl
/-! ### Entries: what laws do with them -/
abbrev En := Int × Int × Int × Int × Int × Int × Int × Int × Int
def dEn : En := (0, 0, 0, 0, 0, 0, 0, 0, 0)
instance decCm : DecidableEq Cm := inferInstance
instance decE1 : DecidableEq (Int × Cm) := instDecidableEqProd
instance decE2 : DecidableEq (Int × Int × Cm) := instDecidableEqProd
instance decEn : DecidableEq En := (instDecidableEqProd : DecidableEq (Int × Int × Int × Cm))
theorem sat41 : Sat prog cxT 41 (c41 fun x => some (decide (x.1 = x.2))) := s41 _ fun x t h => by
  obtain ⟨⟨a, b, c, d, e, f⟩, a', b', c', d', e', f'⟩ := x
  cases h
  refine ⟨0, ?_⟩
  show g41 0 a b c d e f a' b' c' d' e' f' = _
  unfold g41 G41; dsimp only
  refine bifeq (fun e1 => bifeq (fun e2 => bifeq (fun e3 => bifeq (fun e4 => bifeq (fun e5 => bifeq (fun e6 => ?_) ?_) ?_) ?_) ?_) ?_) ?_
  · simp [e1, e2, e3, e4, e5, e6]
  · intro e h; simp at h; exact e h.2.2.2.2.2
  · intro e h; simp at h; exact e h.2.2.2.2.1
  · intro e h; simp at h; exact e h.2.2.2.1
  · intro e h; simp at h; exact e h.2.2.1
  · intro e h; simp at h; exact e h.2.1
  · intro e h; simp at h; exact e h.1
theorem sat40 : Sat prog cxT 40 (c40 fun x => some (decide (x.1 = x.2))) := s40 _ sat41 _ fun x t h => by
  obtain ⟨⟨t, c, s, q⟩, t', c', s', q'⟩ := x
  cases h
  refine ⟨0, ?_⟩
  show g40 (fun x => some (decide (x.1 = x.2))) 0 t c s q.1 q.2.1 q.2.2.1 q.2.2.2.1 q.2.2.2.2.1 q.2.2.2.2.2 t' c' s' q'.1 q'.2.1 q'.2.2.1 q'.2.2.2.1 q'.2.2.2.2.1 q'.2.2.2.2.2 = _
  unfold g40 G40; dsimp only
  refine bifeq (fun e1 => bifeq (fun e2 => bifeq (fun e3 => ?_) ?_) ?_) ?_
  · rw [tst_some, bifn]; subst e1; subst e2; subst e3
    show some (decide (q = q')) = _
    simp
  · intro e h; simp at h; exact e h.2.2.1
  · intro e h; simp at h; exact e h.2.1
  · intro e h; simp at h; exact e h.1
theorem el38 (L : Nat) (a b : List En) : ∀ (n : Nat) (i : Int) (k : Option Bool), l38_0 (fun x => some (decide (x.1 = x.2))) L a b n i k = eqL dEn (fun x => some (decide (x.1 = x.2))) a b n i k
  | 0, _, _ => rfl
  | n + 1, i, k => by
    unfold l38_0 B38_0 eqL; dsimp only
    simp only [tst_some, el38 L a b n]
    rfl
def m38 (x : List En × List En) : Option Bool := if x.1.length ≤ 1000000000000 then some (decide (x.1 = x.2)) else none
theorem sat38 : Sat prog cxT 38 (c38 m38) := s38 _ sat40 m38 fun x t h => by
  obtain ⟨a, b⟩ := x
  unfold m38 at h
  split at h
  · rename_i hc
    cases h
    refine ⟨a.length + 1, ?_⟩
    show g38 _ (a.length + 1) a b = _
    unfold g38 A38_0 G38; dsimp only
    by_cases e : a.length = b.length
    · rw [bneF (show ((a.length : Nat) : Int) = (b.length : Int) by omega), cond_false, el38]
      refine (eqL_ok dEn _ a b e (by simp only at hc; omega) (fun x _ y _ => rfl) (some true) _ 0 (by omega) (by omega)).trans ?_
      simp only [List.drop_zero]
      split <;> rename_i hh <;> simp [hh]
    · rw [bneT (show ¬ ((a.length : Nat) : Int) = (b.length : Int) by omega), cond_true]
      rw [df (fun h => e (by rw [h]))]
  · cases h

/-! ### Marks -/
def mkE (v : Int) : En := (v, v + 1, v + 2, v + 3, v + 4, v + 5, v + 6, v + 7, v + 8)
def m34 (x : List En × Int) : Option (Int × List En) := if x.1.length ≤ 1000000000 ∧ 0 ≤ x.2 ∧ x.2 ≤ 100000000000 then some (x.2 + 9 * (x.1.length : Int), mkR mkE 9 x.1.length x.2) else none
theorem st27 (L : Nat) (a0 : List En) (a1 : Int) (n : Nat) (o : List En) (v : Int) (i : Nat) (K : List En → Int → Option (Int × List En)) (ho : o.length ≤ 1000000000) (hi : i < o.length) (h0 : 0 ≤ v) (h1 : v ≤ 1000000000000000) :
    l34_0 L a0 a1 (n + 1) o v i K = l34_0 L a0 a1 n (o.set i (mkE v)) (v + 9) ((i + 1 : Nat) : Int) K := by
  conv => lhs; unfold l34_0 B34_0; dsimp only
  simp (disch := omega) only [bnd, List.length_modify, dt, wi, cond_true, Bool.and_self, Int.toNat_natCast, modify_modify', modify_const]
  rw [show v + 1 + 1 + 1 + 1 + 1 + 1 + 1 + 1 + 1 = v + 9 by omega, show (i : Int) + 1 = ((i + 1 : Nat) : Int) by omega]
  have e : (v, v + 1, v + 1 + 1, v + 1 + 1 + 1, v + 1 + 1 + 1 + 1, v + 1 + 1 + 1 + 1 + 1, v + 1 + 1 + 1 + 1 + 1 + 1, v + 1 + 1 + 1 + 1 + 1 + 1 + 1, v + 1 + 1 + 1 + 1 + 1 + 1 + 1 + 1) = mkE v := by
    unfold mkE
    simp only [Prod.mk.injEq, true_and]
    omega
  rw [e]
theorem sat34 : SatW prog cxT 34 (c34 m34).nres (c34 m34).n (c34 m34).F := s34 m34 fun x t h => by
  obtain ⟨o, v⟩ := x
  unfold m34 at h
  split at h
  · rename_i hc
    cases h
    simp only at hc
    refine ⟨o.length + 1, ?_⟩
    show g34 (o.length + 1) o v = _
    unfold g34 A34_0 G34; dsimp only
    refine (markRun mkE 9 1000000000000000 o.length (by omega) (fun n o' v' i' K => l34_0 (o.length + 1) o v n o' v' i' K) (fun n o' v' i' K hl h1 h2 h3 => st27 _ _ _ _ _ _ _ _ (by omega) h1 h2 h3)
      (fun n o' v' i' K hl h1 => ?_) (fun w0_0 w0_1 => some (w0_1, w0_0)) (o.length + 1) 0 o v rfl (by omega) (by omega) hc.2.1 (by omega)).trans ?_
    · show l34_0 _ _ _ (n + 1) o' v' i' K = _
      conv => lhs; unfold l34_0 B34_0; dsimp only
      rw [df (by omega), cond_false]
    · simp
  · cases h
/-- Rows that were marked hold their marks. -/
def hdE (x : List En × Int) : Prop := x.1.length ≤ 1000000000 ∧ 0 ≤ x.2 ∧ x.2 ≤ 100000000000 ∧ x.1 = mkR mkE 9 x.1.length x.2
instance (x : List En × Int) : Decidable (hdE x) := by unfold hdE; infer_instance
def m36 (x : List En × Int) : Option Int := if hdE x then some (x.2 + 9 * (x.1.length : Int)) else none
theorem st49 (L : Nat) (a0 : List En) (a1 : Int) (n : Nat) (v : Int) (i : Nat) (K : Int → Option Int) (ho : a0.length ≤ 1000000000) (hi : i < a0.length) (h0 : 0 ≤ v) (h1 : v ≤ 1000000000000000) (hm : a0.getD i dEn = mkE v) :
    l36_0 L a0 a1 (n + 1) v i K = l36_0 L a0 a1 n (v + 9) ((i + 1 : Nat) : Int) K := by
  conv => lhs; unfold l36_0 B36_0; dsimp only
  have hm' : a0.getD i (0, 0, 0, 0, 0, 0, 0, 0, 0) = mkE v := hm
  simp (disch := omega) only [bnd, dt, wi, cond_true, Bool.and_self, Int.toNat_natCast, hm']
  unfold mkE
  simp (disch := omega) only [bneF, cond_false]
  rw [show v + 1 + 1 + 1 + 1 + 1 + 1 + 1 + 1 + 1 = v + 9 by omega, show (i : Int) + 1 = ((i + 1 : Nat) : Int) by omega]
theorem sat36 : Sat prog cxT 36 (c36 m36) := s36 m36 fun x t h => by
  obtain ⟨a, v⟩ := x
  unfold m36 at h
  split at h
  · rename_i hc
    cases h
    obtain ⟨h1, h2, h3, h4⟩ := hc
    simp only at h1 h2 h3 h4
    refine ⟨a.length + 1, ?_⟩
    show g36 (a.length + 1) a v = _
    unfold g36 A36_0 G36; dsimp only
    have := heldRun dEn mkE 9 1000000000000000 (by omega) a.length v (fun n v' i' K => l36_0 (a.length + 1) a v n v' i' K) h2 (fun n v' i' K k1 k2 k3 k4 => st49 _ _ _ _ _ _ _ h1 k1 k2 k3 (by rw [← h4] at k4; exact k4))
      (fun n v' i' K k1 => by
        show l36_0 _ _ _ (n + 1) v' i' K = _
        conv => lhs; unfold l36_0 B36_0; dsimp only
        rw [df (by omega), cond_false]) (by omega) (fun w0_1 => some w0_1) (a.length + 1) 0 (by omega) (by omega)
    simp only [Int.natCast_zero, Int.mul_zero, Int.add_zero] at this
    exact this
  · cases h
theorem hd_mk {n : Nat} {v : Int} (hn : n ≤ 1000000000) (h0 : 0 ≤ v) (h1 : v ≤ 100000000000) : hdE (mkR mkE 9 n v, v) := ⟨by simp only [mkR_len]; exact hn, h0, h1, by simp only [mkR_len]⟩

/-! ### What is not right with an entry, and with a log -/
theorem el39 (L : Nat) (a b : List Int) : ∀ (n : Nat) (i : Int) (k : Option Bool), l39_0 L a b n i k = eqL 0 (fun x => some (decide (x.1 = x.2))) a b n i k
  | 0, _, _ => rfl
  | n + 1, i, k => by
    unfold l39_0 B39_0 eqL; dsimp only
    simp only [el39 L a b n, tst_some]
    congr 2
def m39 (x : List Int × List Int) : Option Bool := if x.1.length ≤ 1000000000000 then some (decide (x.1 = x.2)) else none
theorem sat39 : Sat prog cxT 39 (c39 m39) := s39 m39 fun x t h => by
  obtain ⟨a, b⟩ := x
  unfold m39 at h
  split at h
  · rename_i hc
    cases h
    have hc : a.length ≤ 1000000000000 := hc
    refine ⟨a.length + 1, ?_⟩
    show g39 (a.length + 1) a b = some (decide (a = b))
    unfold g39 A39_0 G39; dsimp only
    refine bifeq (fun e => ?_) fun e h => e (by rw [h])
    rw [el39]
    refine (eqL_ok 0 _ a b (by omega) (by omega) (fun _ _ _ _ => rfl) _ _ 0 (by omega) (by omega)).trans ?_
    simp only [List.drop_zero]
    split <;> rename_i hh <;> simp [hh]
  · cases h
/-! ### Nodes: what laws do with them -/
abbrev Nd := Int × Int × Int × Int × List En × Int × Int × List Int × List Int × List Int
instance decN1 : DecidableEq (List Int × List Int × List Int) := inferInstance
instance decN2 : DecidableEq (Int × List Int × List Int × List Int) := instDecidableEqProd
instance decN3 : DecidableEq (Int × Int × List Int × List Int × List Int) := instDecidableEqProd
instance decN4 : DecidableEq (List En × Int × Int × List Int × List Int × List Int) := instDecidableEqProd
instance decN5 : DecidableEq (Int × List En × Int × Int × List Int × List Int × List Int) := instDecidableEqProd
instance decN6 : DecidableEq (Int × Int × List En × Int × Int × List Int × List Int × List Int) := instDecidableEqProd
instance decN7 : DecidableEq (Int × Int × Int × List En × Int × Int × List Int × List Int × List Int) := instDecidableEqProd
instance decNd : DecidableEq Nd := (instDecidableEqProd : DecidableEq (Int × Int × Int × Int × List En × Int × Int × List Int × List Int × List Int))
/-- As long as rows may be. -/
def nLen (n : Nd) (B : Nat) : Prop := n.2.2.2.2.1.length ≤ B ∧ n.2.2.2.2.2.2.2.1.length ≤ B ∧ n.2.2.2.2.2.2.2.2.1.length ≤ B ∧ n.2.2.2.2.2.2.2.2.2.length ≤ B
instance (n : Nd) (B : Nat) : Decidable (nLen n B) := by unfold nLen; infer_instance
def m30 (x : Nd × Nd) : Option Bool := if nLen x.1 mid then some (decide (x.1 = x.2)) else none
theorem bifeq2 {p q : Prop} [Decidable p] [Decidable q] {o : Option Bool} (h : p → o = some (decide q)) (h2 : ¬ p → ¬ q) : (bif !decide p then some false else o) = some (decide q) := by
  by_cases hp : p
  · rw [dt hp]; exact h hp
  · rw [df hp, df (h2 hp)]; rfl
theorem sat30 : Sat prog cxT 30 (c30 m30) := s30 m38 m39 sat38 sat39 m30 fun x t h => by
  obtain ⟨⟨a, b, c, d, lg, e, f, vt, nx, mt⟩, a', b', c', d', lg', e', f', vt', nx', mt'⟩ := x
  unfold m30 at h
  split at h
  · rename_i hc
    cases h
    obtain ⟨h2, h3, h4, h5⟩ := hc
    simp only [mid] at h2 h3 h4 h5
    refine ⟨0, ?_⟩
    show g30 m38 m39 0 a b c d lg e f vt nx mt a' b' c' d' lg' e' f' vt' nx' mt' = _
    unfold g30 G30; dsimp only
    rw [show m38 (lg, lg') = some (decide (lg = lg')) from if_pos (by simp only; omega), tst_some, show m39 (vt, vt') = some (decide (vt = vt')) from if_pos (by simp only; omega), tst_some, show m39 (nx, nx') = some (decide (nx = nx')) from if_pos (by simp only; omega), tst_some,
      show m39 (mt, mt') = some (decide (mt = mt')) from if_pos (by simp only; omega), tst_some]
    refine bifeq (fun e1 => bifeq (fun e2 => bifeq (fun e3 => bifeq (fun e4 => bifeq2 (fun e5 => bifeq (fun e6 => bifeq (fun e7 => bifeq2 (fun e8 => bifeq2 (fun e9 => bifeq2 (fun e10 => ?_) ?_) ?_) ?_) ?_) ?_) ?_) ?_) ?_) ?_) ?_
    · subst e1 e2 e3 e4 e5 e6 e7 e8 e9 e10; simp
    all_goals intro e h; simp only [Prod.mk.injEq] at h; obtain ⟨q1, q2, q3, q4, q5, q6, q7, q8, q9, q10⟩ := h; first | exact e q1 | exact e q2 | exact e q3 | exact e q4 | exact e q5 | exact e q6 | exact e q7 | exact e q8 | exact e q9 | exact e q10
  · cases h

/-! ### Marks of numbers -/
def mkI (v : Int) : Int := v
def m35 (x : List Int × Int) : Option (Int × List Int) := if x.1.length ≤ 1000000000 ∧ 0 ≤ x.2 ∧ x.2 ≤ 100000000000 then some (x.2 + 1 * (x.1.length : Int), mkR mkI 1 x.1.length x.2) else none
theorem st48 (L : Nat) (a0 : List Int) (a1 : Int) (n : Nat) (o : List Int) (v : Int) (i : Nat) (K : List Int → Int → Option (Int × List Int)) (ho : o.length ≤ 1000000000) (hi : i < o.length) (h0 : 0 ≤ v) (h1 : v ≤ 1000000000000000) :
    l35_0 L a0 a1 (n + 1) o v i K = l35_0 L a0 a1 n (o.set i (mkI v)) (v + 1) ((i + 1 : Nat) : Int) K := by
  conv => lhs; unfold l35_0 B35_0; dsimp only
  simp (disch := omega) only [bnd, dt, wi, cond_true, Bool.and_self, Int.toNat_natCast]
  rw [show (i : Int) + 1 = ((i + 1 : Nat) : Int) by omega]
  rfl
theorem sat35 : SatW prog cxT 35 (c35 m35).nres (c35 m35).n (c35 m35).F := s35 m35 fun x t h => by
  obtain ⟨o, v⟩ := x
  unfold m35 at h
  split at h
  · rename_i hc
    cases h
    simp only at hc
    refine ⟨o.length + 1, ?_⟩
    show g35 (o.length + 1) o v = _
    unfold g35 A35_0 G35; dsimp only
    refine (markRun mkI 1 1000000000000000 o.length (by omega) (fun n o' v' i' K => l35_0 (o.length + 1) o v n o' v' i' K) (fun n o' v' i' K hl h1 h2 h3 => st48 _ _ _ _ _ _ _ _ (by omega) h1 h2 h3)
      (fun n o' v' i' K hl h1 => ?_) (fun w0_0 w0_1 => some (w0_1, w0_0)) (o.length + 1) 0 o v rfl (by omega) (by omega) hc.2.1 (by omega)).trans ?_
    · show l35_0 _ _ _ (n + 1) o' v' i' K = _
      conv => lhs; unfold l35_0 B35_0; dsimp only
      rw [df (by omega), cond_false]
    · simp
  · cases h
def hdI (x : List Int × Int) : Prop := x.1.length ≤ 1000000000 ∧ 0 ≤ x.2 ∧ x.2 ≤ 100000000000 ∧ x.1 = mkR mkI 1 x.1.length x.2
instance (x : List Int × Int) : Decidable (hdI x) := by unfold hdI; infer_instance
def m37 (x : List Int × Int) : Option Int := if hdI x then some (x.2 + 1 * (x.1.length : Int)) else none
theorem st50 (L : Nat) (a0 : List Int) (a1 : Int) (n : Nat) (v : Int) (i : Nat) (K : Int → Option Int) (ho : a0.length ≤ 1000000000) (hi : i < a0.length) (h0 : 0 ≤ v) (h1 : v ≤ 1000000000000000) (hm : a0.getD i 0 = mkI v) :
    l37_0 L a0 a1 (n + 1) v i K = l37_0 L a0 a1 n (v + 1) ((i + 1 : Nat) : Int) K := by
  conv => lhs; unfold l37_0 B37_0; dsimp only
  simp (disch := omega) only [bnd, dt, wi, cond_true, Bool.and_self, Int.toNat_natCast, hm]
  unfold mkI
  simp (disch := omega) only [bneF, cond_false]
  rw [show (i : Int) + 1 = ((i + 1 : Nat) : Int) by omega]
theorem sat37 : Sat prog cxT 37 (c37 m37) := s37 m37 fun x t h => by
  obtain ⟨a, v⟩ := x
  unfold m37 at h
  split at h
  · rename_i hc
    cases h
    obtain ⟨h1, h2, h3, h4⟩ := hc
    simp only at h1 h2 h3 h4
    refine ⟨a.length + 1, ?_⟩
    show g37 (a.length + 1) a v = _
    unfold g37 A37_0 G37; dsimp only
    have := heldRun 0 mkI 1 1000000000000000 (by omega) a.length v (fun n v' i' K => l37_0 (a.length + 1) a v n v' i' K) h2 (fun n v' i' K k1 k2 k3 k4 => st50 _ _ _ _ _ _ _ h1 k1 k2 k3 (by rw [← h4] at k4; exact k4))
      (fun n v' i' K k1 => by
        show l37_0 _ _ _ (n + 1) v' i' K = _
        conv => lhs; unfold l37_0 B37_0; dsimp only
        rw [df (by omega), cond_false]) (by omega) (fun w0_1 => some w0_1) (a.length + 1) 0 (by omega) (by omega)
    simp only [Int.natCast_zero, Int.mul_zero, Int.add_zero] at this
    exact this
  · cases h
/-! ### Marks of nodes -/
/-- The marks of a node's rows, from v on. -/
def k1 (n : Nd) (v : Int) : Int := v + 9 * (n.2.2.2.2.1.length : Int)
def k2 (n : Nd) (v : Int) : Int := k1 n v + 1 * (n.2.2.2.2.2.2.2.1.length : Int)
def k3 (n : Nd) (v : Int) : Int := k2 n v + 1 * (n.2.2.2.2.2.2.2.2.1.length : Int)
def k4 (n : Nd) (v : Int) : Int := k3 n v + 1 * (n.2.2.2.2.2.2.2.2.2.length : Int)
def mkN (n : Nd) (v : Int) : Nd := (n.1, n.2.1, n.2.2.1, n.2.2.2.1, mkR mkE 9 n.2.2.2.2.1.length v, n.2.2.2.2.2.1, n.2.2.2.2.2.2.1, mkR mkI 1 n.2.2.2.2.2.2.2.1.length (k1 n v), mkR mkI 1 n.2.2.2.2.2.2.2.2.1.length (k2 n v), mkR mkI 1 n.2.2.2.2.2.2.2.2.2.length (k3 n v))
/-- Nodes that were marked hold their marks. -/
def hdN (x : Nd × Int) : Prop := nLen x.1 100000000 ∧ 0 ≤ x.2 ∧ x.2 ≤ 1000000000 ∧ x.1 = mkN x.1 x.2
instance (x : Nd × Int) : Decidable (hdN x) := by unfold hdN; infer_instance
/-! ### Mails: what laws do with them -/
abbrev Ml := Int × Int × Int × Int × Int × Int × Int × Bool × List En
def dM : Ml := (0, 0, 0, 0, 0, 0, 0, false, [])
instance decM1 : DecidableEq (Bool × List En) := inferInstance
instance decM2 : DecidableEq (Int × Bool × List En) := instDecidableEqProd
instance decM3 : DecidableEq (Int × Int × Bool × List En) := instDecidableEqProd
instance decM4 : DecidableEq (Int × Int × Int × Bool × List En) := instDecidableEqProd
instance decM5 : DecidableEq (Int × Int × Int × Int × Bool × List En) := instDecidableEqProd
instance decM6 : DecidableEq (Int × Int × Int × Int × Int × Bool × List En) := instDecidableEqProd
instance decM7 : DecidableEq (Int × Int × Int × Int × Int × Int × Bool × List En) := instDecidableEqProd
instance decMl : DecidableEq Ml := (instDecidableEqProd : DecidableEq (Int × Int × Int × Int × Int × Int × Int × Bool × List En))
def enM (x : Ml) : List En := x.2.2.2.2.2.2.2.2
def m31 (x : Ml × Ml) : Option Bool := if (enM x.1).length ≤ mid then some (decide (x.1 = x.2)) else none
theorem bifeqB {a b : Bool} {o : Option Bool} {p : Prop} [Decidable p] (h : a = b → o = some (decide p)) (h2 : ¬ a = b → ¬ p) : (bif !(a == b) then some false else o) = some (decide p) := by
  by_cases hp : a = b
  · rw [show (a == b) = true by simpa using hp]; exact h hp
  · rw [show (a == b) = false by simpa using hp, df (h2 hp)]; rfl
theorem sat31 : Sat prog cxT 31 (c31 m31) := s31 m38 sat38 m31 fun x t h => by
  obtain ⟨⟨a, b, c, d, e, f, g, o, l⟩, a', b', c', d', e', f', g', o', l'⟩ := x
  unfold m31 at h
  split at h
  · rename_i hc
    cases h
    have hc : l.length ≤ 1000000000 := hc
    refine ⟨0, ?_⟩
    show g31 m38 0 a b c d e f g o l a' b' c' d' e' f' g' o' l' = _
    unfold g31 G31; dsimp only
    rw [show m38 (l, l') = some (decide (l = l')) from if_pos (by simp only; omega), tst_some]
    refine bifeq (fun e1 => bifeq (fun e2 => bifeq (fun e3 => bifeq (fun e4 => bifeq (fun e5 => bifeq (fun e6 => bifeq (fun e7 => bifeqB (fun e8 => bifeq2 (fun e9 => ?_) ?_) ?_) ?_) ?_) ?_) ?_) ?_) ?_) ?_
    · subst e1 e2 e3 e4 e5 e6 e7 e8 e9; simp
    all_goals intro e h; simp only [Prod.mk.injEq] at h; obtain ⟨q1, q2, q3, q4, q5, q6, q7, q8, q9⟩ := h; first | exact e q1 | exact e q2 | exact e q3 | exact e q4 | exact e q5 | exact e q6 | exact e q7 | exact e q8 | exact e q9
  · cases h
theorem el19 (m : Ml × Ml → Option Bool) (L : Nat) (a b : List Ml) : ∀ (n : Nat) (i : Int) (k : Option Bool), l19_0 m L a b n i k = eqL dM m a b n i k
  | 0, _, _ => rfl
  | n + 1, i, k => by
    unfold l19_0 B19_0 eqL; dsimp only
    simp only [el19 m L a b n]
    rfl
def enOk (l : List Ml) : Prop := ∀ x ∈ l, (enM x).length ≤ mid
instance (l : List Ml) : Decidable (enOk l) := by unfold enOk; infer_instance
def m19 (x : List Ml × List Ml) : Option Bool := if x.1.length ≤ 1000000000000 ∧ enOk x.1 then some (decide (x.1 = x.2)) else none
theorem sat19 : Sat prog cxT 19 (c19 m19) := s19 m31 sat31 m19 fun x t h => by
  obtain ⟨a, b⟩ := x
  unfold m19 at h
  split at h
  · rename_i hc
    cases h
    obtain ⟨hc, hE⟩ := hc
    have hc : a.length ≤ 1000000000000 := hc
    refine ⟨a.length + 1, ?_⟩
    show g19 m31 (a.length + 1) a b = some (decide (a = b))
    unfold g19 A19_0 G19; dsimp only
    refine bifeq (fun e => ?_) fun e h => e (by rw [h])
    rw [el19]
    refine (eqL_ok dM m31 a b (by omega) (by omega) (fun x hx y _ => if_pos (hE x hx)) _ _ 0 (by omega) (by omega)).trans ?_
    simp only [List.drop_zero]
    split <;> rename_i hh <;> simp [hh]
  · cases h
/-! ### Marks of mails -/
def mkM (x : Ml) (v : Int) : Ml := (v, v + 1, v + 2, v + 3, v + 4, v + 5, v + 6, (Int.tmod (v + 7) 3 == 0), mkR mkE 9 (enM x).length (v + 8))
def wM (x : Ml) : Int := 8 + 9 * ((enM x).length : Int)
theorem wM_mk (x : Ml) (v : Int) : wM (mkM x v) = wM x := by unfold wM mkM enM; simp only [mkR_len]
theorem mkM_mk (x : Ml) (v : Int) : mkM (mkM x v) v = mkM x v := by unfold mkM enM; simp only [mkR_len]
theorem wM_pos (x : Ml) : 0 ≤ wM x := by unfold wM; omega
def m23 (x : List Ml × Int) : Option (Int × List Ml) := if x.1.length ≤ 1000000000 ∧ 0 ≤ x.2 ∧ x.2 + sumW wM x.1 ≤ 1000000000 then some (x.2 + sumW wM x.1, mkV mkM wM x.1 x.2) else none
theorem st33 (L : Nat) (a0 : List Ml) (a1 : Int) (n : Nat) (o : List Ml) (v : Int) (i : Nat) (K : List Ml → Int → Option (Int × List Ml)) (ho : o.length ≤ 1000000000) (hi : i < o.length) (h0 : 0 ≤ v) (h1 : v ≤ 10000000000) (hq : (enM (o.getD i dM)).length ≤ 1000000000) :
    l23_0 m34 L a0 a1 (n + 1) o v i K = l23_0 m34 L a0 a1 n (o.set i (mkM (o.getD i dM) v)) (v + wM (o.getD i dM)) ((i + 1 : Nat) : Int) K := by
  conv => lhs; unfold l23_0 B23_0; dsimp only
  simp (disch := omega) only [bnd, List.length_modify, dt, wi, cond_true, Bool.and_self, Int.toNat_natCast, modify_modify', getD_modify]
  have hd : (o.getD i (0, 0, 0, 0, 0, 0, 0, false, []) : Ml) = o.getD i dM := rfl
  simp only [hd]
  have e8 : v + 1 + 1 + 1 + 1 + 1 + 1 + 1 + 1 = v + 8 := by omega
  have e47 : m34 ((o.getD i dM).2.2.2.2.2.2.2.2, v + 8) = some (v + 8 + 9 * ((enM (o.getD i dM)).length : Int), mkR mkE 9 (enM (o.getD i dM)).length (v + 8)) := if_pos ⟨hq, by simp only; omega, by simp only; omega⟩
  rw [e8, e47, tst_some, show (i : Int) + 1 = ((i + 1 : Nat) : Int) by omega, show v + 8 + 9 * ((enM (o.getD i dM)).length : Int) = v + wM (o.getD i dM) by unfold wM; omega]
  congr 2
  unfold mkM
  rw [show v + 1 + 1 = v + 2 by omega, show v + 2 + 1 = v + 3 by omega, show v + 3 + 1 = v + 4 by omega, show v + 4 + 1 = v + 5 by omega, show v + 5 + 1 = v + 6 by omega, show v + 6 + 1 = v + 7 by omega]
  exact modify_const _ _ _
theorem sumW_le {l : List Ml} {v B : Int} (h0 : 0 ≤ v) (h : v + sumW wM l ≤ B) : ∀ x ∈ l, 9 * ((enM x).length : Int) ≤ B := fun x hx => by
  have := sumW_mem (w := wM) (fun y _ => wM_pos y) x hx
  have h9 : wM x = 8 + 9 * ((enM x).length : Int) := rfl
  omega
theorem sat23 : SatW prog cxT 23 (c23 m23).nres (c23 m23).n (c23 m23).F := s23 m34 sat34 m23 fun x t h => by
  obtain ⟨o, v⟩ := x
  unfold m23 at h
  split at h
  · rename_i hc
    cases h
    simp only at hc
    obtain ⟨h1, h2, h3⟩ := hc
    refine ⟨o.length + 1, ?_⟩
    show g23 m34 (o.length + 1) o v = _
    unfold g23 A23_0 G23; dsimp only
    refine (markRunV dM mkM wM 1000000000 wM_pos (fun x => (enM x).length ≤ 1000000000) o.length (fun n o' v' i' K => l23_0 m34 (o.length + 1) o v n o' v' i' K)
      (fun n o' v' i K hl k1 k2 k3 k4 => ?_) (fun n o' v' i K hl k1 => ?_) (fun w0_0 w0_1 => some (w0_1, w0_0)) o [] v (o.length + 1) rfl (by omega) h2 h3 (fun x hx => by have := sumW_le h2 h3 x hx; omega)).trans ?_
    · exact st33 _ _ _ _ _ _ _ _ (by omega) k1 k2 (by omega) k4
    · show l23_0 _ _ _ _ (n + 1) o' v' i K = _
      conv => lhs; unfold l23_0 B23_0; dsimp only
      rw [df (by omega), cond_false]
    · simp
  · cases h
/-- Mails that were marked hold their marks. -/
def hdM (x : List Ml × Int) : Prop := x.1.length ≤ 1000000000 ∧ 0 ≤ x.2 ∧ x.2 + sumW wM x.1 ≤ 1000000000 ∧ x.1 = mkV mkM wM x.1 x.2
instance (x : List Ml × Int) : Decidable (hdM x) := by unfold hdM; infer_instance
def m27 (x : List Ml × Int) : Option Int := if hdM x then some (x.2 + sumW wM x.1) else none
theorem st35 (L : Nat) (a0 : List Ml) (a1 : Int) (n : Nat) (v : Int) (i : Nat) (K : Int → Option Int) (ho : a0.length ≤ 1000000000) (hi : i < a0.length) (h0 : 0 ≤ v) (h1 : v ≤ 1000000000) (hq : (enM (a0.getD i dM)).length ≤ 1000000000) (hm : a0.getD i dM = mkM (a0.getD i dM) v) :
    l27_0 m36 L a0 a1 (n + 1) v i K = l27_0 m36 L a0 a1 n (v + wM (a0.getD i dM)) ((i + 1 : Nat) : Int) K := by
  conv => lhs; unfold l27_0 B27_0; dsimp only
  have hd : (a0.getD i (0, 0, 0, 0, 0, 0, 0, false, []) : Ml) = a0.getD i dM := rfl
  simp (disch := omega) only [bnd, dt, wi, cond_true, Bool.and_self, Int.toNat_natCast, hd]
  have hw : wM (a0.getD i dM) = 8 + 9 * ((enM (a0.getD i dM)).length : Int) := rfl
  obtain ⟨N, hN⟩ : ∃ N, N = (enM (a0.getD i dM)).length := ⟨_, rfl⟩
  have hm2 : a0.getD i dM = (v, v + 1, v + 2, v + 3, v + 4, v + 5, v + 6, (Int.tmod (v + 7) 3 == 0), mkR mkE 9 N (v + 8)) := by rw [hN]; exact hm
  rw [← hN] at hw hq
  rw [hw, hm2]
  have e8 : v + 1 + 1 + 1 + 1 + 1 + 1 + 1 + 1 = v + 8 := by omega
  have e7 : v + 1 + 1 + 1 + 1 + 1 + 1 + 1 = v + 7 := by omega
  have e49 : m36 (mkR mkE 9 N (v + 8), v + 8) = some (v + 8 + 9 * (N : Int)) := by
    unfold m36
    rw [if_pos (hd_mk hq (by omega) (by omega))]
    simp only [mkR_len]
  simp (disch := omega) only [bneF, cond_false]
  rw [e8, e7, e49]
  simp only [tst_some, beq_self_eq_true, Bool.not_true, cond_false]
  rw [df (by omega), cond_false, show (i : Int) + 1 = ((i + 1 : Nat) : Int) by omega, show v + 8 + 9 * (N : Int) = v + (8 + 9 * (N : Int)) by omega]

theorem sat27 : Sat prog cxT 27 (c27 m27) := s27 m36 sat36 m27 fun x t h => by
  obtain ⟨a, v⟩ := x
  unfold m27 at h
  split at h
  · rename_i hc
    cases h
    obtain ⟨h1, h2, h3, h4⟩ := hc
    simp only at h1 h2 h3 h4
    refine ⟨a.length + 1, ?_⟩
    show g27 m36 (a.length + 1) a v = _
    unfold g27 A27_0 G27; dsimp only
    exact heldRunV dM mkM wM 1000000000 wM_pos wM_mk (fun x => (enM x).length ≤ 1000000000) a (fun n v' i' K => l27_0 m36 (a.length + 1) a v n v' i' K)
      (fun n v' i K k1 k2 k3 k4 k5 => st35 _ _ _ _ _ _ _ h1 k1 k2 k3 k4 k5)
      (fun n v' i K k1 => by
        show l27_0 _ _ _ _ (n + 1) v' i K = _
        conv => lhs; unfold l27_0 B27_0; dsimp only
        rw [df (by omega), cond_false]) (fun w0_1 => some w0_1) a [] v (a.length + 1) rfl (by omega) h2 h3 (fun x hx => by have := sumW_le h2 h3 x hx; omega) h4
  · cases h
/-! ### Answers that bear a node -/
abbrev Nr := Int × Int × Int × Int × Int × List En × Int × Int × List Int × List Int × List Int × List Ml
def ndR (r : Nr) : Nd := (r.2.1, r.2.2.1, r.2.2.2.1, r.2.2.2.2.1, r.2.2.2.2.2.1, r.2.2.2.2.2.2.1, r.2.2.2.2.2.2.2.1, r.2.2.2.2.2.2.2.2.1, r.2.2.2.2.2.2.2.2.2.1, r.2.2.2.2.2.2.2.2.2.2.1)
def sdR (r : Nr) : List Ml := r.2.2.2.2.2.2.2.2.2.2.2
def nrOk (r : Nr) : Prop := nLen (ndR r) 100000000 ∧ (sdR r).length ≤ 1000000000 ∧ enOk (sdR r) ∧ k4 (ndR r) 1 + sumW wM (sdR r) ≤ 1000000000
instance (r : Nr) : Decidable (nrOk r) := by unfold nrOk; infer_instance
instance decR1 : DecidableEq (List Int × List Ml) := inferInstance
instance decR2 : DecidableEq (List Int × List Int × List Ml) := instDecidableEqProd
instance decR3 : DecidableEq (List Int × List Int × List Int × List Ml) := instDecidableEqProd
instance decR4 : DecidableEq (Int × List Int × List Int × List Int × List Ml) := instDecidableEqProd
instance decR5 : DecidableEq (Int × Int × List Int × List Int × List Int × List Ml) := instDecidableEqProd
instance decR6 : DecidableEq (List En × Int × Int × List Int × List Int × List Int × List Ml) := instDecidableEqProd
instance decR7 : DecidableEq (Int × List En × Int × Int × List Int × List Int × List Int × List Ml) := instDecidableEqProd
instance decR8 : DecidableEq (Int × Int × List En × Int × Int × List Int × List Int × List Int × List Ml) := instDecidableEqProd
instance decR9 : DecidableEq (Int × Int × Int × List En × Int × Int × List Int × List Int × List Int × List Ml) := instDecidableEqProd
instance decR10 : DecidableEq (Int × Int × Int × Int × List En × Int × Int × List Int × List Int × List Int × List Ml) := instDecidableEqProd
instance decNr : DecidableEq Nr := (instDecidableEqProd : DecidableEq (Int × Int × Int × Int × Int × List En × Int × Int × List Int × List Int × List Int × List Ml))
def hdR (r : Nr) : Prop := nrOk r ∧ ndR r = mkN (ndR r) 1 ∧ sdR r = mkV mkM wM (sdR r) (k4 (ndR r) 1)
instance (r : Nr) : Decidable (hdR r) := by unfold hdR; infer_instance
def m9 (x : Int × Int × Int) : Option Bool := some (decide (x.2.1 ≤ x.1 ∧ x.1 ≤ x.2.2))
/-! ### A node that has just begun -/
theorem ge_le {a b c : Int} : (bif decide (a ≥ b) then some (decide (a ≤ c)) else some false) = some (decide (b ≤ a ∧ a ≤ c)) := by
  by_cases h : a ≥ b
  · rw [dt h, cond_true]; exact congrArg some (decide_eq_decide.2 ⟨fun k => ⟨h, k⟩, fun k => k.2⟩)
  · rw [df h, cond_false, df (fun k => h k.1)]
theorem sat16 : Sat prog cxT 16 (c16 m9) := s16 m9 fun x t h => by
  obtain ⟨a, b, c⟩ := x
  cases h
  exact ⟨0, ge_le⟩
def m11 (p : Int) : Option Bool := some (decide (1 ≤ p ∧ p ≤ 5))
theorem sat11 : Sat prog cxT 11 (c11 m11) := s11 m9 sat16 m11 fun x t h => by cases h; exact ⟨0, rfl⟩
def m17 (x : Int × Int) : Option Bool := some (decide (0 ≤ x.1 ∧ x.1 < x.2))
theorem sat17 : Sat prog cxT 17 (c17 m17) := s17 m17 fun x t h => by
  obtain ⟨a, b⟩ := x
  cases h
  refine ⟨0, ?_⟩
  show g17 0 a b = _
  unfold g17 G17; dsimp only
  by_cases h : a ≥ 0
  · rw [dt h, cond_true]; exact congrArg some (decide_eq_decide.2 ⟨fun k => ⟨h, k⟩, fun k => k.2⟩)
  · rw [df h, cond_false, df (fun k => h k.1)]
end Go.Proofs.Try

set_option maxHeartbeats 0
set_option linter.unusedVariables false
set_option linter.unusedSimpArgs false
namespace Go.Proofs.Try
open Go Go.VM Go.RowKit

/-! ### Marks of rows of nodes -/
def dN : Nd := (0, 0, 0, 0, [], 0, 0, [], [], [])
def j1 (x : Nd) (v : Int) : Int := v + 4 + 9 * (x.2.2.2.2.1.length : Int)
def j2 (x : Nd) (v : Int) : Int := j1 x v + 2 + 1 * (x.2.2.2.2.2.2.2.1.length : Int)
def j3 (x : Nd) (v : Int) : Int := j2 x v + 1 * (x.2.2.2.2.2.2.2.2.1.length : Int)
def wD (x : Nd) : Int := 6 + 9 * (x.2.2.2.2.1.length : Int) + (x.2.2.2.2.2.2.2.1.length : Int) + (x.2.2.2.2.2.2.2.2.1.length : Int) + (x.2.2.2.2.2.2.2.2.2.length : Int)
def mkD (x : Nd) (v : Int) : Nd := (v, v + 1, v + 2, v + 3, mkR mkE 9 x.2.2.2.2.1.length (v + 4), j1 x v, j1 x v + 1, mkR mkI 1 x.2.2.2.2.2.2.2.1.length (j1 x v + 2), mkR mkI 1 x.2.2.2.2.2.2.2.2.1.length (j2 x v), mkR mkI 1 x.2.2.2.2.2.2.2.2.2.length (j3 x v))
theorem wD_pos (x : Nd) : 0 ≤ wD x := by unfold wD; omega
theorem wD_mk (x : Nd) (v : Int) : wD (mkD x v) = wD x := by unfold wD mkD; simp only [mkR_len]
theorem mkD_mk (x : Nd) (v : Int) : mkD (mkD x v) v = mkD x v := by unfold mkD j3 j2 j1; simp only [mkR_len]
def m22 (x : List Nd × Int) : Option (Int × List Nd) := if x.1.length ≤ 1000000000 ∧ 0 ≤ x.2 ∧ x.2 + sumW wD x.1 ≤ 1000000000 then some (x.2 + sumW wD x.1, mkV mkD wD x.1 x.2) else none
theorem st22 (L : Nat) (a0 : List Nd) (a1 : Int) (n : Nat) (o : List Nd) (v : Int) (i : Nat) (K : List Nd → Int → Option (Int × List Nd)) (ho : o.length ≤ 1000000000) (hi : i < o.length) (h0 : 0 ≤ v) (h1 : v ≤ 10000000000) (hq : nLen (o.getD i dN) 1000000000) :
    l22_0 m34 m35 L a0 a1 (n + 1) o v i K = l22_0 m34 m35 L a0 a1 n (o.set i (mkD (o.getD i dN) v)) (v + wD (o.getD i dN)) ((i + 1 : Nat) : Int) K := by
  conv => lhs; unfold l22_0 B22_0; dsimp only
  have hd : (o.getD i (0, 0, 0, 0, [], 0, 0, [], [], []) : Nd) = o.getD i dN := rfl
  obtain ⟨x, hx⟩ : ∃ x, x = o.getD i dN := ⟨_, rfl⟩
  obtain ⟨q1, q2, q3, q4⟩ := hq
  rw [← hx] at q1 q2 q3 q4 hd ⊢
  simp (disch := omega) only [bnd, List.length_modify, dt, wi, cond_true, Bool.and_self, Int.toNat_natCast, modify_modify', getD_modify, hd]
  rw [show v + 1 + 1 + 1 + 1 = v + 4 by omega, show m34 (x.2.2.2.2.1, v + 4) = some (v + 4 + 9 * (x.2.2.2.2.1.length : Int), mkR mkE 9 x.2.2.2.2.1.length (v + 4)) from if_pos ⟨q1, by simp only; omega, by simp only; omega⟩, tst_some]
  simp (disch := omega) only [bnd, List.length_modify, dt, wi, cond_true, Bool.and_self, Int.toNat_natCast, modify_modify', getD_modify, hd]
  rw [show m35 (x.2.2.2.2.2.2.2.1, v + 4 + 9 * (x.2.2.2.2.1.length : Int) + 1 + 1) = some (j2 x v, mkR mkI 1 x.2.2.2.2.2.2.2.1.length (j1 x v + 2)) from (if_pos ⟨q2, by simp only; omega, by simp only; omega⟩).trans (by unfold j2 j1; simp only [Int.add_assoc, Int.reduceAdd]), tst_some]
  simp (disch := omega) only [bnd, List.length_modify, dt, wi, cond_true, Bool.and_self, Int.toNat_natCast, modify_modify', getD_modify, hd]
  have e1 : j1 x v = v + 4 + 9 * (x.2.2.2.2.1.length : Int) := rfl
  have e2 : j2 x v = j1 x v + 2 + 1 * (x.2.2.2.2.2.2.2.1.length : Int) := rfl
  have e3 : j3 x v = j2 x v + 1 * (x.2.2.2.2.2.2.2.2.1.length : Int) := rfl
  rw [show m35 (x.2.2.2.2.2.2.2.2.1, j2 x v) = some (j3 x v, mkR mkI 1 x.2.2.2.2.2.2.2.2.1.length (j2 x v)) from if_pos ⟨q3, by simp only; omega, by simp only; omega⟩, tst_some]
  simp (disch := omega) only [bnd, List.length_modify, dt, wi, cond_true, Bool.and_self, Int.toNat_natCast, modify_modify', getD_modify, hd]
  rw [show m35 (x.2.2.2.2.2.2.2.2.2, j3 x v) = some (j3 x v + 1 * (x.2.2.2.2.2.2.2.2.2.length : Int), mkR mkI 1 x.2.2.2.2.2.2.2.2.2.length (j3 x v)) from if_pos ⟨q4, by simp only; omega, by simp only; omega⟩, tst_some]
  rw [← e1, modify_const, show v + 1 + 1 = v + 2 by omega, show v + 2 + 1 = v + 3 by omega, show j3 x v + 1 * (x.2.2.2.2.2.2.2.2.2.length : Int) = v + wD x by unfold wD; omega]
  rfl
theorem sumD_le {l : List Nd} {v B : Int} (h0 : 0 ≤ v) (h : v + sumW wD l ≤ B) : ∀ x ∈ l, wD x ≤ B := fun x hx => by
  have := sumW_mem (w := wD) (fun y _ => wD_pos y) x hx
  omega
theorem nLen_w {x : Nd} {B : Nat} (h : wD x ≤ (B : Int)) : nLen x B := by
  unfold wD at h
  unfold nLen
  omega
theorem sat22 : SatW prog cxT 22 (c22 m22).nres (c22 m22).n (c22 m22).F := s22 m34 m35 sat34 sat35 m22 fun x t h => by
  obtain ⟨o, v⟩ := x
  unfold m22 at h
  split at h
  · rename_i hc
    cases h
    simp only at hc
    obtain ⟨h1, h2, h3⟩ := hc
    refine ⟨o.length + 1, ?_⟩
    show g22 m34 m35 (o.length + 1) o v = _
    unfold g22 G22 A22_0; dsimp only
    refine (markRunV dN mkD wD 1000000000 wD_pos (fun x => nLen x 1000000000) o.length (fun n o' v' i' K => l22_0 m34 m35 (o.length + 1) o v n o' v' i' K)
      (fun n o' v' i K hl k1 k2 k3 k4 => ?_) (fun n o' v' i K hl k1 => ?_) (fun w0_0 w0_1 => some (w0_1, w0_0)) o [] v (o.length + 1) rfl (by omega) h2 h3 (fun x hx => nLen_w (by have := sumD_le h2 h3 x hx; omega))).trans ?_
    · exact st22 _ _ _ _ _ _ _ _ (by omega) k1 k2 (by omega) k4
    · show l22_0 _ _ _ _ _ (n + 1) o' v' i K = _
      conv => lhs; unfold l22_0 B22_0; dsimp only
      simp (disch := omega) only [bnd, df, cond_false]
    · simp
  · cases h
/-- Nodes that were marked hold their marks. -/
def hdD (x : List Nd × Int) : Prop := x.1.length ≤ 1000000000 ∧ 0 ≤ x.2 ∧ x.2 + sumW wD x.1 ≤ 1000000000 ∧ x.1 = mkV mkD wD x.1 x.2
instance (x : List Nd × Int) : Decidable (hdD x) := by unfold hdD; infer_instance
def m26 (x : List Nd × Int) : Option Int := if hdD x then some (x.2 + sumW wD x.1) else none
theorem st26 (L : Nat) (a0 : List Nd) (a1 : Int) (n : Nat) (v : Int) (i : Nat) (K : Int → Option Int) (ho : a0.length ≤ 1000000000) (hi : i < a0.length) (h0 : 0 ≤ v) (h1 : v ≤ 1000000000) (hq : nLen (a0.getD i dN) 1000000000) (hm : a0.getD i dN = mkD (a0.getD i dN) v) :
    l26_0 m36 m37 L a0 a1 (n + 1) v i K = l26_0 m36 m37 L a0 a1 n (v + wD (a0.getD i dN)) ((i + 1 : Nat) : Int) K := by
  conv => lhs; unfold l26_0 B26_0; dsimp only
  have hd : (a0.getD i (0, 0, 0, 0, [], 0, 0, [], [], []) : Nd) = a0.getD i dN := rfl
  obtain ⟨x, hx⟩ : ∃ x, x = a0.getD i dN := ⟨_, rfl⟩
  rw [← hx] at hm hq hd ⊢
  simp (disch := omega) only [bnd, dt, wi, cond_true, Bool.and_self, Int.toNat_natCast, hd]
  obtain ⟨a, b, c, d, lg, e, f, vt, nx, mt⟩ := x
  obtain ⟨q1, q2, q3, q4⟩ := hq
  simp only at q1 q2 q3 q4
  have e1 : j1 (a, b, c, d, lg, e, f, vt, nx, mt) v = v + 4 + 9 * (lg.length : Int) := rfl
  have e2 : j2 (a, b, c, d, lg, e, f, vt, nx, mt) v = v + 4 + 9 * (lg.length : Int) + 2 + 1 * (vt.length : Int) := rfl
  have e3 : j3 (a, b, c, d, lg, e, f, vt, nx, mt) v = v + 4 + 9 * (lg.length : Int) + 2 + 1 * (vt.length : Int) + 1 * (nx.length : Int) := rfl
  simp only [mkD, Prod.mk.injEq, e1, e2, e3] at hm
  obtain ⟨r1, r2, r3, r4, r5, r6, r7, r8, r9, r10⟩ := hm
  have e4 : wD (a, b, c, d, lg, e, f, vt, nx, mt) = 6 + 9 * (lg.length : Int) + (vt.length : Int) + (nx.length : Int) + (mt.length : Int) := rfl
  rw [e4, r1, r2, r3, r4, r6, r7]
  simp (disch := omega) only [bneF, cond_false]
  rw [show v + 1 + 1 + 1 + 1 = v + 4 by omega, show m36 (lg, v + 4) = some (v + 4 + 9 * (lg.length : Int)) from if_pos ⟨q1, by simp only; omega, by simp only; omega, r5⟩, tst_some]
  simp (disch := omega) only [bneF, df, wi, cond_false]
  rw [show m37 (vt, v + 4 + 9 * (lg.length : Int) + 1 + 1) = some (v + 4 + 9 * (lg.length : Int) + 2 + 1 * (vt.length : Int)) from (if_pos ⟨q2, by simp only; omega, by simp only; omega, by rw [show v + 4 + 9 * (lg.length : Int) + 1 + 1 = v + 4 + 9 * (lg.length : Int) + 2 by omega]; exact r8⟩).trans (by congr 1; simp only; omega), tst_some]
  simp (disch := omega) only [bneF, df, wi, cond_false]
  rw [show m37 (nx, v + 4 + 9 * (lg.length : Int) + 2 + 1 * (vt.length : Int)) = some (v + 4 + 9 * (lg.length : Int) + 2 + 1 * (vt.length : Int) + 1 * (nx.length : Int)) from if_pos ⟨q3, by simp only; omega, by simp only; omega, r9⟩, tst_some]
  simp (disch := omega) only [bneF, df, wi, cond_false]
  rw [show m37 (mt, v + 4 + 9 * (lg.length : Int) + 2 + 1 * (vt.length : Int) + 1 * (nx.length : Int)) = some (v + 4 + 9 * (lg.length : Int) + 2 + 1 * (vt.length : Int) + 1 * (nx.length : Int) + 1 * (mt.length : Int)) from if_pos ⟨q4, by simp only; omega, by simp only; omega, r10⟩, tst_some]
  simp (disch := omega) only [bneF, df, wi, cond_false]
  congr 1
  omega
theorem sat26 : Sat prog cxT 26 (c26 m26) := s26 m36 m37 sat36 sat37 m26 fun x t h => by
  obtain ⟨a, v⟩ := x
  unfold m26 at h
  split at h
  · rename_i hc
    cases h
    obtain ⟨h1, h2, h3, h4⟩ := hc
    simp only at h1 h2 h3 h4
    refine ⟨a.length + 1, ?_⟩
    show g26 m36 m37 (a.length + 1) a v = _
    unfold g26 G26 A26_0; dsimp only
    exact heldRunV dN mkD wD 1000000000 wD_pos wD_mk (fun x => nLen x 1000000000) a (fun n v' i' K => l26_0 m36 m37 (a.length + 1) a v n v' i' K)
      (fun n v' i K k1 k2 k3 k4 k5 => st26 _ _ _ _ _ _ _ h1 k1 k2 k3 k4 k5)
      (fun n v' i K k1 => by
        show l26_0 _ _ _ _ _ (n + 1) v' i K = _
        conv => lhs; unfold l26_0 B26_0; dsimp only
        simp (disch := omega) only [bnd, df, cond_false]) (fun w0_1 => some w0_1) a [] v (a.length + 1) rfl (by omega) h2 h3 (fun x hx => nLen_w (by have := sumD_le h2 h3 x hx; omega)) h4
  · cases h
end Go.Proofs.Try
