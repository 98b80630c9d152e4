/- A part of the proof of FnExactSameConfigs: L5Pa, L5Pb, L5Pc, L5Pd. -/
import Derived.Test.YtfncedbejffggaaVmPl
import Derived.Test.YtfncedbejffggaaL5Fa
import Derived.Test.YtfncedbejffggaaL5Fc
set_option maxHeartbeats 0
set_option linter.unusedVariables false
set_option linter.unusedSimpArgs false
namespace Go.Proofs.Try
open Go Go.VM Go.RowKit

/-! ### Numbers -/
def ptOk (x : Int) : Bool := decide (0 ≤ x ∧ x ≤ 65535)
theorem sat114 : Sat prog cxT 114 (c114 fun _ => some false) := s114 _ fun x t h => by
  cases h
  refine ⟨0, ?_⟩
  unfold g114; simp
theorem sat85 : Sat prog cxT 85 (c85 fun x => some (cmpI x.1 x.2)) := s85 _ sat114 _ fun x t h => by
  obtain ⟨a, b⟩ := x
  cases h
  refine ⟨0, ?_⟩
  show g85 (fun _ => some false) 0 a b = some (cmpI a b)
  unfold g85 cmpI
  simp only [tst_some, cond_false]
  by_cases h1 : a < b
  · rw [dt h1, if_pos h1]; rfl
  · rw [df h1, if_neg h1, cond_false]
    by_cases h2 : b < a
    · rw [dt (show a > b from h2), if_pos h2]; rfl
    · rw [df (show ¬ a > b from h2), if_neg h2]; rfl

/-! ### What laws do with configurations -/
abbrev Cg := Int × List Bk × List Vp
def big : Nat := 1000000000000
def top : Nat := 9223372036854775807
def wV (v : Vp) : Int := (v.2.2.2.length : Int)
def wC (c : Cg) : Int := (c.2.1.length : Int) + (c.2.2.length : Int) + sumW wV c.2.2
def okC (c : Cg) : Prop := c.2.1.length ≤ big ∧ c.2.2.length ≤ big ∧ ∀ v ∈ c.2.2, v.2.2.2.length ≤ big
instance (c : Cg) : Decidable (okC c) := by unfold okC; infer_instance
def okZ (c : Cg) : Prop := c.2.1.length ≤ top ∧ c.2.2.length ≤ top ∧ ∀ v ∈ c.2.2, v.2.2.2.length ≤ top
instance (c : Cg) : Decidable (okZ c) := by unfold okZ; infer_instance
theorem wV_nonneg (v : Vp) : 0 ≤ wV v := by unfold wV; omega

theorem szv_eq {v : Int} {n : Nat} (h0 : 0 ≤ v) (h1 : v ≤ 1048576) (hn : n ≤ top) : (bif decide (IntKind.wrap .i64 (v - (n : Int)) < 0) then some (-1) else some (IntKind.wrap .i64 (v - (n : Int)))) = some (szv v n) := by
  unfold top at hn
  rw [wi (by omega) (by omega)]
  unfold szv
  by_cases h : v - (n : Int) < 0
  · rw [dt h, if_pos h]; rfl
  · rw [df h, if_neg h]; rfl
def m115 (x : List Int × Int) : Option Int := if 0 ≤ x.2 ∧ x.2 ≤ 1048576 ∧ x.1.length ≤ top then some (szv x.2 x.1.length) else none
theorem sat115 : Sat prog cxT 115 (c115 m115) := s115 m115 fun x t h => by
  obtain ⟨a, v⟩ := x
  unfold m115 at h
  split at h
  · rename_i hc; cases h; exact ⟨0, szv_eq hc.1 hc.2.1 hc.2.2⟩
  · cases h
def m86 (x : Vp × Int) : Option Int := if 0 ≤ x.2 ∧ x.2 ≤ 1048576 ∧ x.1.2.2.2.length ≤ top then some (szv x.2 (wV x.1)) else none
theorem sat86 : Sat prog cxT 86 (c86 m86) := s86 m115 sat115 m86 fun x t h => by
  obtain ⟨⟨a, b, c, d⟩, v⟩ := x
  unfold m86 at h
  split at h
  · rename_i hc
    cases h
    refine ⟨0, ?_⟩
    show g86 m115 0 a b c d v = _
    unfold g86
    rw [show m115 (d, v) = some (szv v d.length) from if_pos hc, tst_some]
    show _ = some (szv v (d.length : Int))
    by_cases h : szv v (d.length : Int) < 0
    · rw [dt h]
      unfold szv at h ⊢
      split at h
      · rename_i h2; rw [if_pos h2]; rfl
      · omega
    · rw [df h]; rfl
  · cases h
def m46 (x : List Bk × Int) : Option Int := if 0 ≤ x.2 ∧ x.2 ≤ 1048576 ∧ x.1.length ≤ top then some (szv x.2 x.1.length) else none
theorem sat46 : Sat prog cxT 46 (c46 m46) := s46 m46 fun x t h => by
  obtain ⟨a, v⟩ := x
  unfold m46 at h
  split at h
  · rename_i hc; cases h; exact ⟨0, szv_eq hc.1 hc.2.1 hc.2.2⟩
  · cases h
def dVp : Vp := (0, 0, 0, [])
def dBk : Bk := (0, 0, 0, 0, false)
theorem el47 (L : Nat) (a : List Vp) (v0 : Int) : ∀ (n : Nat) (v i : Int) (k : Int → Option Int), l47_0 m86 L a v0 n v i k = szL dVp m86 a n v i k
  | 0, _, _, _ => rfl
  | n + 1, v, i, k => by
    unfold l47_0 szL
    simp only [el47 L a v0 n]
    rfl
def m47 (x : List Vp × Int) : Option Int := if 0 ≤ x.2 ∧ x.2 ≤ 1048576 ∧ x.1.length ≤ top ∧ ∀ v ∈ x.1, v.2.2.2.length ≤ top then some (szv x.2 ((x.1.length : Int) + sumW wV x.1)) else none
theorem sat47 : Sat prog cxT 47 (c47 m47) := s47 m86 sat86 m47 fun x t h => by
  obtain ⟨a, v⟩ := x
  unfold m47 at h
  split at h
  · rename_i hc
    obtain ⟨h0, h1, h2, h3⟩ := hc
    cases h
    simp only at h0 h1 h2 h3
    have h2' : a.length ≤ 9223372036854775807 := h2
    refine ⟨a.length + 1, ?_⟩
    show g47 m86 (a.length + 1) a v = some (szv v ((a.length : Int) + sumW wV a))
    unfold g47
    rw [wi (by omega) (by omega)]
    have hs : 0 ≤ sumW wV a := sumW_nonneg fun x _ => wV_nonneg x
    by_cases hn : v - (a.length : Int) < 0
    · rw [dt hn, cond_true]
      unfold szv
      rw [if_pos (by omega)]
    · rw [df hn, cond_false, el47]
      refine (szL_ok dVp m86 a wV 1048576 (by omega) (fun x _ => wV_nonneg x) (fun x hx v h0 h1 => if_pos ⟨h0, h1, h3 x hx⟩) _ (a.length + 1) 0 (v - a.length) (by omega) (by omega) (by omega) (by omega)).trans ?_
      rw [List.drop_zero]
      unfold szv
      have e : v - ((a.length : Int) + sumW wV a) = v - (a.length : Int) - sumW wV a := by omega
      rw [e]
      split <;> rfl
  · cases h
theorem szv_szv {v a b : Int} (ha : 0 ≤ a) (hb : 0 ≤ b) (hv : 0 ≤ v) : szv v (a + b) = if szv v a < 0 then -1 else szv (szv v a) b := by
  unfold szv
  by_cases h : v - a < 0
  · rw [if_pos h, if_pos (by omega), if_pos (by omega)]
  · rw [if_neg h, if_neg h, show v - (a + b) = v - a - b by omega]
theorem szv_range {v a : Int} (ha : 0 ≤ a) (hv : 0 ≤ v) : -1 ≤ szv v a ∧ szv v a ≤ v := by unfold szv; split <;> omega
def m17 (x : Cg × Int) : Option Int := if 0 ≤ x.2 ∧ x.2 ≤ 1048576 ∧ okZ x.1 then some (szv x.2 (wC x.1)) else none
theorem sat17 : Sat prog cxT 17 (c17 m17) := s17 m46 m47 sat46 sat47 m17 fun x t h => by
  obtain ⟨⟨a, b, c⟩, v⟩ := x
  unfold m17 at h
  split at h
  · rename_i hc
    obtain ⟨h0, h1, h2, h3, h4⟩ := hc
    cases h
    simp only at h0 h1 h2 h3 h4
    refine ⟨0, ?_⟩
    show g17 m46 m47 0 a b c v = some (szv v ((b.length : Int) + (c.length : Int) + sumW wV c))
    unfold g17
    have hs : 0 ≤ sumW wV c := sumW_nonneg fun x _ => wV_nonneg x
    have hr := szv_range (v := v) (a := (b.length : Int)) (by omega) h0
    rw [show m46 (b, v) = some (szv v b.length) from if_pos ⟨h0, h1, h2⟩, tst_some, Int.add_assoc, szv_szv (by omega) (by omega) h0]
    by_cases hn : szv v (b.length : Int) < 0
    · rw [dt hn, if_pos hn]; rfl
    · rw [df hn, if_neg hn, cond_false]
      rw [show m47 (c, szv v b.length) = some (szv (szv v b.length) ((c.length : Int) + sumW wV c)) from if_pos ⟨by omega, by simp only; omega, h3, h4⟩, tst_some]
      have hr2 := szv_range (v := szv v (b.length : Int)) (a := (c.length : Int) + sumW wV c) (by omega) (by omega)
      by_cases hn2 : szv (szv v (b.length : Int)) ((c.length : Int) + sumW wV c) < 0
      · rw [dt hn2, cond_true]; congr 1; omega
      · rw [df hn2]; rfl
  · cases h
theorem wC_small {c : Cg} (h : 0 ≤ szv 1048576 (wC c)) : c.2.1.length ≤ 1048576 ∧ c.2.2.length ≤ 1048576 ∧ ∀ x ∈ c.2.2, x.2.2.2.length ≤ 1048576 := by
  unfold szv at h
  have hs : 0 ≤ sumW wV c.2.2 := sumW_nonneg fun x _ => wV_nonneg x
  unfold wC at h
  split at h
  · omega
  · refine ⟨by omega, by omega, fun x hx => ?_⟩
    have := sumW_mem (w := wV) (l := c.2.2) (fun x _ => wV_nonneg x) x hx
    unfold wV at this hs h
    omega
end Go.Proofs.Try

set_option maxHeartbeats 0
set_option linter.unusedVariables false
set_option linter.unusedSimpArgs false
namespace Go.Proofs.Try
open Go Go.VM Go.RowKit

/-! ### Copies -/
def mid : Nat := 1000000000
theorem el116 (L : Nat) (a : List Int) : ∀ (n : Nat) (o : List Int) (i : Int) (k : List Int → Option (List Int)), l116_0 L a n o i k = toL 0 (fun x => some x) a n o i k
  | 0, _, _, _ => rfl
  | n + 1, o, i, k => by unfold l116_0 toL; simp only [el116 L a n, tst_some]
theorem make_ok {n : Nat} (h : n ≤ mid) : ((decide ((0 : Int) ≤ (n : Int)) && decide ((n : Int) ≤ (n : Int))) && decide ((n : Int) ≤ (1000000000 : Int))) = true := by
  unfold mid at h
  rw [dt (by omega), dt (Int.le_refl _), dt (by omega)]; rfl
def m116 (a : List Int) : Option (List Int) := if a.length ≤ mid then some a else none
theorem sat116 : Sat prog cxT 116 (c116 m116) := s116 m116 fun x t h => by
  unfold m116 at h
  split at h
  · rename_i ha
    cases h
    refine ⟨x.length + 1, ?_⟩
    unfold g116
    rw [make_ok ha, cond_true, el116, Int.toNat_natCast]
    unfold mid at ha
    exact toL_ok 0 _ x (by omega) (fun _ _ => rfl) _ _ 0 _ (by simp) (by omega) (by omega) rfl
  · cases h
def m88 (v : Vp) : Option Vp := if v.2.2.2.length ≤ mid then some v else none
theorem sat88 : Sat prog cxT 88 (c88 m88) := s88 m116 sat116 m88 fun x t h => by
  obtain ⟨a, b, c, d⟩ := x
  unfold m88 at h
  split at h
  · rename_i ha
    cases h
    refine ⟨0, ?_⟩
    show g88 m116 0 a b c d = _
    unfold g88
    rw [show m116 d = some d from if_pos ha, tst_some]
  · cases h
theorem el49 (L : Nat) (a : List Vp) : ∀ (n : Nat) (o : List Vp) (i : Int) (k : List Vp → Option (List Vp)), l49_0 m88 L a n o i k = toL dVp m88 a n o i k
  | 0, _, _, _ => rfl
  | n + 1, o, i, k => by unfold l49_0 toL; simp only [el49 L a n]; rfl
def m49 (a : List Vp) : Option (List Vp) := if a.length ≤ mid ∧ ∀ v ∈ a, v.2.2.2.length ≤ mid then some a else none
theorem sat49 : Sat prog cxT 49 (c49 m49) := s49 m88 sat88 m49 fun x t h => by
  unfold m49 at h
  split at h
  · rename_i ha
    cases h
    refine ⟨x.length + 1, ?_⟩
    unfold g49
    rw [make_ok ha.1, cond_true, el49, Int.toNat_natCast]
    have := ha.1
    unfold mid at this
    exact toL_ok dVp m88 x (by omega) (fun v hv => if_pos (ha.2 v hv)) _ _ 0 _ (by simp) (by omega) (by omega) rfl
  · cases h
theorem sat87 : Sat prog cxT 87 (c87 fun b => some b) := s87 _ fun x t h => by
  obtain ⟨a, b, c, d, e⟩ := x
  cases h
  exact ⟨0, rfl⟩
theorem el48 (L : Nat) (a : List Bk) : ∀ (n : Nat) (o : List Bk) (i : Int) (k : List Bk → Option (List Bk)), l48_0 (fun b => some b) L a n o i k = toL dBk (fun b => some b) a n o i k
  | 0, _, _, _ => rfl
  | n + 1, o, i, k => by unfold l48_0 toL; simp only [el48 L a n]; rfl
def m48 (a : List Bk) : Option (List Bk) := if a.length ≤ mid then some a else none
theorem sat48 : Sat prog cxT 48 (c48 m48) := s48 _ sat87 m48 fun x t h => by
  unfold m48 at h
  split at h
  · rename_i ha
    cases h
    refine ⟨x.length + 1, ?_⟩
    unfold g48
    rw [make_ok ha, cond_true, el48, Int.toNat_natCast]
    unfold mid at ha
    exact toL_ok dBk _ x (by omega) (fun v hv => rfl) _ _ 0 _ (by simp) (by omega) (by omega) rfl
  · cases h
def okM (c : Cg) : Prop := c.2.1.length ≤ mid ∧ c.2.2.length ≤ mid ∧ ∀ v ∈ c.2.2, v.2.2.2.length ≤ mid
instance (c : Cg) : Decidable (okM c) := by unfold okM; infer_instance
def m19 (c : Cg) : Option Cg := if okM c then some c else none
theorem sat19 : Sat prog cxT 19 (c19 m19) := s19 m48 m49 sat48 sat49 m19 fun x t h => by
  obtain ⟨a, b, c⟩ := x
  unfold m19 at h
  split at h
  · rename_i ha
    cases h
    refine ⟨0, ?_⟩
    show g19 m48 m49 0 a b c = _
    unfold g19
    rw [show m48 b = some b from if_pos ha.1, tst_some, show m49 c = some c from if_pos ha.2, tst_some]
  · cases h

/-! ### Comparisons -/
theorem bifeq {α : Type} [DecidableEq α] [BEq α] [LawfulBEq α] {a b : α} {o : Option Bool} {p : Prop} [Decidable p] (h : a = b → o = some (decide p)) (h2 : ¬ a = b → ¬ p) : (bif a != b then some false else o) = some (decide p) := by
  by_cases e : a = b
  · rw [bneF e, cond_false, h e]
  · rw [bneT e, cond_true, df (h2 e)]
theorem el117 (L : Nat) (a b : List Int) : ∀ (n : Nat) (i : Int) (k : Option Bool), l117_0 L a b n i k = eqL 0 (fun x => some (decide (x.1 = x.2))) a b n i k
  | 0, _, _ => rfl
  | n + 1, i, k => by
    unfold l117_0 eqL
    simp only [el117 L a b n, tst_some]
    congr 2
def m117 (x : List Int × List Int) : Option Bool := if x.1.length ≤ big then some (decide (x.1 = x.2)) else none
theorem sat117 : Sat prog cxT 117 (c117 m117) := s117 m117 fun x t h => by
  obtain ⟨a, b⟩ := x
  unfold m117 at h
  split at h
  · rename_i hc
    cases h
    have hc : a.length ≤ 1000000000000 := hc
    refine ⟨a.length + 1, ?_⟩
    show g117 (a.length + 1) a b = some (decide (a = b))
    unfold g117
    refine bifeq (fun e => ?_) fun e h => e (by rw [h])
    rw [el117]
    refine (eqL_ok 0 _ a b (by omega) (by omega) (fun _ _ _ _ => rfl) _ _ 0 (by omega) (by omega)).trans ?_
    simp only [List.drop_zero]
    split <;> rename_i hh <;> simp [hh]
  · cases h
def m94 (x : Vp × Vp) : Option Bool := if x.1.2.2.2.length ≤ big then some (decide (x.1 = x.2)) else none
theorem bifn {b : Bool} : (bif !b then some false else some true) = some b := by cases b <;> rfl
theorem sat94 : Sat prog cxT 94 (c94 m94) := s94 m117 sat117 m94 fun x t h => by
  obtain ⟨⟨a, b, c, d⟩, a', b', c', d'⟩ := x
  unfold m94 at h
  split at h
  · rename_i hc
    cases h
    refine ⟨0, ?_⟩
    show g94 m117 0 a b c d a' b' c' d' = some (decide ((a, b, c, d) = (a', b', c', d')))
    unfold g94
    rw [show m117 (d, d') = some (decide (d = d')) from if_pos hc, tst_some]
    refine bifeq (fun e1 => bifeq (fun e2 => bifeq (fun e3 => ?_) ?_) ?_) ?_
    · rw [bifn]; simp [e1, e2, e3]
    · intro e h; simp at h; exact e h.2.2.1
    · intro e h; simp at h; exact e h.2.1
    · intro e h; simp at h; exact e h.1
  · cases h
theorem el56 (L : Nat) (a b : List Vp) : ∀ (n : Nat) (i : Int) (k : Option Bool), l56_0 m94 L a b n i k = eqL dVp m94 a b n i k
  | 0, _, _ => rfl
  | n + 1, i, k => by unfold l56_0 eqL; simp only [el56 L a b n]; rfl
def m56 (x : List Vp × List Vp) : Option Bool := if x.1.length ≤ big ∧ ∀ v ∈ x.1, v.2.2.2.length ≤ big then some (decide (x.1 = x.2)) else none
theorem sat56 : Sat prog cxT 56 (c56 m56) := s56 m94 sat94 m56 fun x t h => by
  obtain ⟨a, b⟩ := x
  unfold m56 at h
  split at h
  · rename_i hc
    cases h
    have hc1 : a.length ≤ 1000000000000 := hc.1
    refine ⟨a.length + 1, ?_⟩
    show g56 m94 (a.length + 1) a b = some (decide (a = b))
    unfold g56
    refine bifeq (fun e => ?_) fun e h => e (by rw [h])
    rw [el56]
    refine (eqL_ok dVp _ a b (by omega) (by omega) (fun x hx y _ => if_pos (hc.2 x hx)) _ _ 0 (by omega) (by omega)).trans ?_
    simp only [List.drop_zero]
    split <;> rename_i hh <;> simp [hh]
  · cases h
theorem sat65 : Sat prog cxT 65 (c65 fun x => some (decide (x.1 = x.2))) := s65 _ fun x t h => by
  obtain ⟨⟨a, b, c, d, e⟩, a', b', c', d', e'⟩ := x
  cases h
  refine ⟨0, ?_⟩
  show g65 0 a b c d e a' b' c' d' e' = some (decide ((a, b, c, d, e) = (a', b', c', d', e')))
  unfold g65
  refine bifeq (fun e1 => bifeq (fun e2 => bifeq (fun e3 => bifeq (fun e4 => ?_) ?_) ?_) ?_) ?_
  · rw [bifn]; subst e1; subst e2; subst e3; subst e4; cases e <;> cases e' <;> simp
  · intro e h; simp at h; exact e h.2.2.2.1
  · intro e h; simp at h; exact e h.2.2.1
  · intro e h; simp at h; exact e h.2.1
  · intro e h; simp at h; exact e h.1
theorem el55 (L : Nat) (a b : List Bk) : ∀ (n : Nat) (i : Int) (k : Option Bool), l55_0 (fun x => some (decide (x.1 = x.2))) L a b n i k = eqL dBk (fun x => some (decide (x.1 = x.2))) a b n i k
  | 0, _, _ => rfl
  | n + 1, i, k => by unfold l55_0 eqL; simp only [el55 L a b n]; rfl
def m55 (x : List Bk × List Bk) : Option Bool := if x.1.length ≤ big then some (decide (x.1 = x.2)) else none
theorem sat55 : Sat prog cxT 55 (c55 m55) := s55 _ sat65 m55 fun x t h => by
  obtain ⟨a, b⟩ := x
  unfold m55 at h
  split at h
  · rename_i hc
    cases h
    have hc1 : a.length ≤ 1000000000000 := hc
    refine ⟨a.length + 1, ?_⟩
    show g55 _ (a.length + 1) a b = some (decide (a = b))
    unfold g55
    refine bifeq (fun e => ?_) fun e h => e (by rw [h])
    rw [el55]
    refine (eqL_ok dBk _ a b (by omega) (by omega) (fun x hx y _ => rfl) _ _ 0 (by omega) (by omega)).trans ?_
    simp only [List.drop_zero]
    split <;> rename_i hh <;> simp [hh]
  · cases h
instance decBk : DecidableEq Bk := inferInstance
instance decVp : DecidableEq Vp := inferInstance
instance decLs : DecidableEq (List Bk × List Vp) := @instDecidableEqProd _ _ (@instDecidableEqList _ decBk) (@instDecidableEqList _ decVp)
instance decCg : DecidableEq Cg := @instDecidableEqProd _ _ inferInstance decLs
def m21 (x : Cg × Cg) : Option Bool := if okC x.1 then some (decide (x.1 = x.2)) else none
theorem sat21 : Sat prog cxT 21 (c21 m21) := s21 m55 m56 sat55 sat56 m21 fun x t h => by
  obtain ⟨⟨a, b, c⟩, a', b', c'⟩ := x
  unfold m21 at h
  split at h
  · rename_i hc
    cases h
    refine ⟨0, ?_⟩
    show g21 m55 m56 0 a b c a' b' c' = some (decide ((a, b, c) = (a', b', c')))
    unfold g21
    rw [show m55 (b, b') = some (decide (b = b')) from if_pos hc.1, tst_some, show m56 (c, c') = some (decide (c = c')) from if_pos hc.2, tst_some]
    refine bifeq (fun e1 => ?_) ?_
    · subst e1
      by_cases e2 : b = b' <;> by_cases e3 : c = c' <;> simp [e2, e3]
    · intro e h; simp at h; exact e h.1
  · cases h
end Go.Proofs.Try

set_option maxHeartbeats 0
set_option linter.unusedVariables false
set_option linter.unusedSimpArgs false
namespace Go.Proofs.Try
open Go Go.VM Go.RowKit

/-! ### Faults of configurations, plainly -/
def beh (a b : Vp) : Bool := if a.1 = b.1 then (if a.2.1 = b.2.1 then decide (a.2.2.1 < b.2.2.1) else decide (a.2.1 < b.2.1)) else decide (a.1 < b.1)
/-- Names of backends rise. -/
def ris (bs : List Bk) : Prop := ∀ i j, i < j → j < bs.length → (bs.getD i dBk).1 < (bs.getD j dBk).1
end Go.Proofs.Try

set_option maxHeartbeats 0
set_option linter.unusedVariables false
set_option linter.unusedSimpArgs false
namespace Go.Proofs.Try
open Go Go.VM Go.RowKit

/-! ### The specification's ConfigFault -/
end Go.Proofs.Try
