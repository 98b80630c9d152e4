/- A part of the proof of FnExactSharesFor: L5Pa, L5Pb, L5Pc, L5Pd. -/
import Derived.Test.YtfncedbejffggaaVmPl
import Derived.Test.YtfncedbejffggaaL5Fa
import Derived.Test.YtfncedbejffggaaL5Fd
set_option maxHeartbeats 0
set_option linter.unusedVariables false
set_option linter.unusedSimpArgs false
namespace Go.Proofs.Try
open Go Go.VM Go.RowKit

/-! ### Numbers -/
def nmOk (x : Int) : Bool := decide (1 ≤ x ∧ x ≤ 999)
def adOk (x : Int) : Bool := decide (0 ≤ x ∧ x ≤ 4294967295)
def wtOk (x : Int) : Bool := decide (0 ≤ x ∧ x ≤ 9)
def stOk (x : Int) : Bool := decide (1 ≤ x ∧ x ≤ 3)
def ptOk (x : Int) : Bool := decide (0 ≤ x ∧ x ≤ 65535)
def prOk (x : Int) : Bool := decide (x = 6 ∨ x = 17)
def vrOk (x : Int) : Bool := decide (0 ≤ x ∧ x ≤ 1000000)

theorem bif_and {a b : Int} {x : Int} : (bif decide (x ≥ a) then some (decide (x ≤ b)) else some false) = some (decide (a ≤ x ∧ x ≤ b)) := by
  by_cases h : a ≤ x
  · rw [dt (show x ≥ a from h)]; simp [h]
  · rw [df (show ¬ x ≥ a from h)]; simp [h]
theorem bif_or {a b : Int} {x : Int} : (bif x == a then some true else some (x == b)) = some (decide (x = a ∨ x = b)) := by
  by_cases h : x = a
  · simp [h]
  · rw [beq_eq_false_iff_ne.2 h, cond_false]
    by_cases h2 : x = b
    · rw [beq_iff_eq.2 h2, dt (.inr h2)]
    · rw [beq_eq_false_iff_ne.2 h2, df (by rintro (h3 | h3) <;> contradiction)]
theorem sat41 : Sat prog cxT 41 (c41 fun x => some (decide (x.2.1 ≤ x.1 ∧ x.1 ≤ x.2.2))) := s41 _ fun x t h => by
  obtain ⟨x, a, b⟩ := x
  cases h
  exact ⟨0, bif_and⟩
theorem sat44 : Sat prog cxT 44 (c44 fun x => some (nmOk x)) := s44 _ fun x t h => by cases h; exact ⟨0, bif_and⟩
theorem sat45 : Sat prog cxT 45 (c45 fun x => some (wtOk x)) := s45 _ fun x t h => by cases h; exact ⟨0, bif_and⟩
theorem sat50 : Sat prog cxT 50 (c50 fun x => some (vrOk x)) := s50 _ fun x t h => by cases h; exact ⟨0, bif_and⟩
theorem sat89 : Sat prog cxT 89 (c89 fun x => some (adOk x)) := s89 _ fun x t h => by cases h; exact ⟨0, bif_and⟩
theorem sat90 : Sat prog cxT 90 (c90 fun x => some (stOk x)) := s90 _ fun x t h => by cases h; exact ⟨0, bif_and⟩
theorem sat91 : Sat prog cxT 91 (c91 fun x => some (ptOk x)) := s91 _ fun x t h => by cases h; exact ⟨0, bif_and⟩
theorem sat92 : Sat prog cxT 92 (c92 fun x => some (prOk x)) := s92 _ fun x t h => by cases h; exact ⟨0, bif_or⟩
theorem sat58 : Sat prog cxT 58 (c58 fun x => some (vrOk x)) := s58 _ sat41 _ fun x t h => by cases h; exact ⟨0, rfl⟩
theorem sat59 : Sat prog cxT 59 (c59 fun x => some (nmOk x)) := s59 _ sat41 _ fun x t h => by cases h; exact ⟨0, rfl⟩
theorem sat60 : Sat prog cxT 60 (c60 fun x => some (adOk x)) := s60 _ sat41 _ fun x t h => by cases h; exact ⟨0, rfl⟩
theorem sat62 : Sat prog cxT 62 (c62 fun x => some (prOk x)) := s62 _ fun x t h => by cases h; exact ⟨0, bif_or⟩
theorem sat95 : Sat prog cxT 95 (c95 fun x => some (ptOk x)) := s95 _ sat41 _ fun x t h => by cases h; exact ⟨0, rfl⟩
theorem sat114 : Sat prog cxT 114 (c114 fun _ => some false) := s114 _ fun x t h => by
  cases h
  refine ⟨0, ?_⟩
  unfold g114; simp
theorem sat85 : Sat prog cxT 85 (c85 fun x => some (cmpI x.1 x.2)) := s85 _ sat114 _ fun x t h => by
  obtain ⟨a, b⟩ := x
  cases h
  refine ⟨0, ?_⟩
  show g85 (fun _ => some false) 0 a b = some (cmpI a b)
  unfold g85 cmpI
  simp only [tst_some, cond_false]
  by_cases h1 : a < b
  · rw [dt h1, if_pos h1]; rfl
  · rw [df h1, if_neg h1, cond_false]
    by_cases h2 : b < a
    · rw [dt (show a > b from h2), if_pos h2]; rfl
    · rw [df (show ¬ a > b from h2), if_neg h2]; rfl

/-! ### What laws do with configurations -/
abbrev Cg := Int × List Bk × List Vp
def big : Nat := 1000000000000
def top : Nat := 9223372036854775807
def wV (v : Vp) : Int := (v.2.2.2.length : Int)
def wC (c : Cg) : Int := (c.2.1.length : Int) + (c.2.2.length : Int) + sumW wV c.2.2
def okC (c : Cg) : Prop := c.2.1.length ≤ big ∧ c.2.2.length ≤ big ∧ ∀ v ∈ c.2.2, v.2.2.2.length ≤ big
instance (c : Cg) : Decidable (okC c) := by unfold okC; infer_instance
def okZ (c : Cg) : Prop := c.2.1.length ≤ top ∧ c.2.2.length ≤ top ∧ ∀ v ∈ c.2.2, v.2.2.2.length ≤ top
instance (c : Cg) : Decidable (okZ c) := by unfold okZ; infer_instance
theorem wV_nonneg (v : Vp) : 0 ≤ wV v := by unfold wV; omega

theorem szv_eq {v : Int} {n : Nat} (h0 : 0 ≤ v) (h1 : v ≤ 1048576) (hn : n ≤ top) : (bif decide (IntKind.wrap .i64 (v - (n : Int)) < 0) then some (-1) else some (IntKind.wrap .i64 (v - (n : Int)))) = some (szv v n) := by
  unfold top at hn
  rw [wi (by omega) (by omega)]
  unfold szv
  by_cases h : v - (n : Int) < 0
  · rw [dt h, if_pos h]; rfl
  · rw [df h, if_neg h]; rfl
def m115 (x : List Int × Int) : Option Int := if 0 ≤ x.2 ∧ x.2 ≤ 1048576 ∧ x.1.length ≤ top then some (szv x.2 x.1.length) else none
theorem sat115 : Sat prog cxT 115 (c115 m115) := s115 m115 fun x t h => by
  obtain ⟨a, v⟩ := x
  unfold m115 at h
  split at h
  · rename_i hc; cases h; exact ⟨0, szv_eq hc.1 hc.2.1 hc.2.2⟩
  · cases h
def m86 (x : Vp × Int) : Option Int := if 0 ≤ x.2 ∧ x.2 ≤ 1048576 ∧ x.1.2.2.2.length ≤ top then some (szv x.2 (wV x.1)) else none
theorem sat86 : Sat prog cxT 86 (c86 m86) := s86 m115 sat115 m86 fun x t h => by
  obtain ⟨⟨a, b, c, d⟩, v⟩ := x
  unfold m86 at h
  split at h
  · rename_i hc
    cases h
    refine ⟨0, ?_⟩
    show g86 m115 0 a b c d v = _
    unfold g86
    rw [show m115 (d, v) = some (szv v d.length) from if_pos hc, tst_some]
    show _ = some (szv v (d.length : Int))
    by_cases h : szv v (d.length : Int) < 0
    · rw [dt h]
      unfold szv at h ⊢
      split at h
      · rename_i h2; rw [if_pos h2]; rfl
      · omega
    · rw [df h]; rfl
  · cases h
def m46 (x : List Bk × Int) : Option Int := if 0 ≤ x.2 ∧ x.2 ≤ 1048576 ∧ x.1.length ≤ top then some (szv x.2 x.1.length) else none
theorem sat46 : Sat prog cxT 46 (c46 m46) := s46 m46 fun x t h => by
  obtain ⟨a, v⟩ := x
  unfold m46 at h
  split at h
  · rename_i hc; cases h; exact ⟨0, szv_eq hc.1 hc.2.1 hc.2.2⟩
  · cases h
def dVp : Vp := (0, 0, 0, [])
def dBk : Bk := (0, 0, 0, 0, false)
theorem el47 (L : Nat) (a : List Vp) (v0 : Int) : ∀ (n : Nat) (v i : Int) (k : Int → Option Int), l47_0 m86 L a v0 n v i k = szL dVp m86 a n v i k
  | 0, _, _, _ => rfl
  | n + 1, v, i, k => by
    unfold l47_0 szL
    simp only [el47 L a v0 n]
    rfl
def m47 (x : List Vp × Int) : Option Int := if 0 ≤ x.2 ∧ x.2 ≤ 1048576 ∧ x.1.length ≤ top ∧ ∀ v ∈ x.1, v.2.2.2.length ≤ top then some (szv x.2 ((x.1.length : Int) + sumW wV x.1)) else none
theorem sat47 : Sat prog cxT 47 (c47 m47) := s47 m86 sat86 m47 fun x t h => by
  obtain ⟨a, v⟩ := x
  unfold m47 at h
  split at h
  · rename_i hc
    obtain ⟨h0, h1, h2, h3⟩ := hc
    cases h
    simp only at h0 h1 h2 h3
    have h2' : a.length ≤ 9223372036854775807 := h2
    refine ⟨a.length + 1, ?_⟩
    show g47 m86 (a.length + 1) a v = some (szv v ((a.length : Int) + sumW wV a))
    unfold g47
    rw [wi (by omega) (by omega)]
    have hs : 0 ≤ sumW wV a := sumW_nonneg fun x _ => wV_nonneg x
    by_cases hn : v - (a.length : Int) < 0
    · rw [dt hn, cond_true]
      unfold szv
      rw [if_pos (by omega)]
    · rw [df hn, cond_false, el47]
      refine (szL_ok dVp m86 a wV 1048576 (by omega) (fun x _ => wV_nonneg x) (fun x hx v h0 h1 => if_pos ⟨h0, h1, h3 x hx⟩) _ (a.length + 1) 0 (v - a.length) (by omega) (by omega) (by omega) (by omega)).trans ?_
      rw [List.drop_zero]
      unfold szv
      have e : v - ((a.length : Int) + sumW wV a) = v - (a.length : Int) - sumW wV a := by omega
      rw [e]
      split <;> rfl
  · cases h
theorem szv_szv {v a b : Int} (ha : 0 ≤ a) (hb : 0 ≤ b) (hv : 0 ≤ v) : szv v (a + b) = if szv v a < 0 then -1 else szv (szv v a) b := by
  unfold szv
  by_cases h : v - a < 0
  · rw [if_pos h, if_pos (by omega), if_pos (by omega)]
  · rw [if_neg h, if_neg h, show v - (a + b) = v - a - b by omega]
theorem szv_range {v a : Int} (ha : 0 ≤ a) (hv : 0 ≤ v) : -1 ≤ szv v a ∧ szv v a ≤ v := by unfold szv; split <;> omega
def m17 (x : Cg × Int) : Option Int := if 0 ≤ x.2 ∧ x.2 ≤ 1048576 ∧ okZ x.1 then some (szv x.2 (wC x.1)) else none
theorem sat17 : Sat prog cxT 17 (c17 m17) := s17 m46 m47 sat46 sat47 m17 fun x t h => by
  obtain ⟨⟨a, b, c⟩, v⟩ := x
  unfold m17 at h
  split at h
  · rename_i hc
    obtain ⟨h0, h1, h2, h3, h4⟩ := hc
    cases h
    simp only at h0 h1 h2 h3 h4
    refine ⟨0, ?_⟩
    show g17 m46 m47 0 a b c v = some (szv v ((b.length : Int) + (c.length : Int) + sumW wV c))
    unfold g17
    have hs : 0 ≤ sumW wV c := sumW_nonneg fun x _ => wV_nonneg x
    have hr := szv_range (v := v) (a := (b.length : Int)) (by omega) h0
    rw [show m46 (b, v) = some (szv v b.length) from if_pos ⟨h0, h1, h2⟩, tst_some, Int.add_assoc, szv_szv (by omega) (by omega) h0]
    by_cases hn : szv v (b.length : Int) < 0
    · rw [dt hn, if_pos hn]; rfl
    · rw [df hn, if_neg hn, cond_false]
      rw [show m47 (c, szv v b.length) = some (szv (szv v b.length) ((c.length : Int) + sumW wV c)) from if_pos ⟨by omega, by simp only; omega, h3, h4⟩, tst_some]
      have hr2 := szv_range (v := szv v (b.length : Int)) (a := (c.length : Int) + sumW wV c) (by omega) (by omega)
      by_cases hn2 : szv (szv v (b.length : Int)) ((c.length : Int) + sumW wV c) < 0
      · rw [dt hn2, cond_true]; congr 1; omega
      · rw [df hn2]; rfl
  · cases h
theorem wC_small {c : Cg} (h : 0 ≤ szv 1048576 (wC c)) : c.2.1.length ≤ 1048576 ∧ c.2.2.length ≤ 1048576 ∧ ∀ x ∈ c.2.2, x.2.2.2.length ≤ 1048576 := by
  unfold szv at h
  have hs : 0 ≤ sumW wV c.2.2 := sumW_nonneg fun x _ => wV_nonneg x
  unfold wC at h
  split at h
  · omega
  · refine ⟨by omega, by omega, fun x hx => ?_⟩
    have := sumW_mem (w := wV) (l := c.2.2) (fun x _ => wV_nonneg x) x hx
    unfold wV at this hs h
    omega
end Go.Proofs.Try

set_option maxHeartbeats 0
set_option linter.unusedVariables false
set_option linter.unusedSimpArgs false
namespace Go.Proofs.Try
open Go Go.VM Go.RowKit

/-! ### Copies -/
def mid : Nat := 1000000000
theorem el116 (L : Nat) (a : List Int) : ∀ (n : Nat) (o : List Int) (i : Int) (k : List Int → Option (List Int)), l116_0 L a n o i k = toL 0 (fun x => some x) a n o i k
  | 0, _, _, _ => rfl
  | n + 1, o, i, k => by unfold l116_0 toL; simp only [el116 L a n, tst_some]
theorem make_ok {n : Nat} (h : n ≤ mid) : ((decide ((0 : Int) ≤ (n : Int)) && decide ((n : Int) ≤ (n : Int))) && decide ((n : Int) ≤ (1000000000 : Int))) = true := by
  unfold mid at h
  rw [dt (by omega), dt (Int.le_refl _), dt (by omega)]; rfl
def m116 (a : List Int) : Option (List Int) := if a.length ≤ mid then some a else none
theorem sat116 : Sat prog cxT 116 (c116 m116) := s116 m116 fun x t h => by
  unfold m116 at h
  split at h
  · rename_i ha
    cases h
    refine ⟨x.length + 1, ?_⟩
    unfold g116
    rw [make_ok ha, cond_true, el116, Int.toNat_natCast]
    unfold mid at ha
    exact toL_ok 0 _ x (by omega) (fun _ _ => rfl) _ _ 0 _ (by simp) (by omega) (by omega) rfl
  · cases h
def m88 (v : Vp) : Option Vp := if v.2.2.2.length ≤ mid then some v else none
theorem sat88 : Sat prog cxT 88 (c88 m88) := s88 m116 sat116 m88 fun x t h => by
  obtain ⟨a, b, c, d⟩ := x
  unfold m88 at h
  split at h
  · rename_i ha
    cases h
    refine ⟨0, ?_⟩
    show g88 m116 0 a b c d = _
    unfold g88
    rw [show m116 d = some d from if_pos ha, tst_some]
  · cases h
theorem el49 (L : Nat) (a : List Vp) : ∀ (n : Nat) (o : List Vp) (i : Int) (k : List Vp → Option (List Vp)), l49_0 m88 L a n o i k = toL dVp m88 a n o i k
  | 0, _, _, _ => rfl
  | n + 1, o, i, k => by unfold l49_0 toL; simp only [el49 L a n]; rfl
def m49 (a : List Vp) : Option (List Vp) := if a.length ≤ mid ∧ ∀ v ∈ a, v.2.2.2.length ≤ mid then some a else none
theorem sat49 : Sat prog cxT 49 (c49 m49) := s49 m88 sat88 m49 fun x t h => by
  unfold m49 at h
  split at h
  · rename_i ha
    cases h
    refine ⟨x.length + 1, ?_⟩
    unfold g49
    rw [make_ok ha.1, cond_true, el49, Int.toNat_natCast]
    have := ha.1
    unfold mid at this
    exact toL_ok dVp m88 x (by omega) (fun v hv => if_pos (ha.2 v hv)) _ _ 0 _ (by simp) (by omega) (by omega) rfl
  · cases h
theorem sat87 : Sat prog cxT 87 (c87 fun b => some b) := s87 _ fun x t h => by
  obtain ⟨a, b, c, d, e⟩ := x
  cases h
  exact ⟨0, rfl⟩
theorem el48 (L : Nat) (a : List Bk) : ∀ (n : Nat) (o : List Bk) (i : Int) (k : List Bk → Option (List Bk)), l48_0 (fun b => some b) L a n o i k = toL dBk (fun b => some b) a n o i k
  | 0, _, _, _ => rfl
  | n + 1, o, i, k => by unfold l48_0 toL; simp only [el48 L a n]; rfl
def m48 (a : List Bk) : Option (List Bk) := if a.length ≤ mid then some a else none
theorem sat48 : Sat prog cxT 48 (c48 m48) := s48 _ sat87 m48 fun x t h => by
  unfold m48 at h
  split at h
  · rename_i ha
    cases h
    refine ⟨x.length + 1, ?_⟩
    unfold g48
    rw [make_ok ha, cond_true, el48, Int.toNat_natCast]
    unfold mid at ha
    exact toL_ok dBk _ x (by omega) (fun v hv => rfl) _ _ 0 _ (by simp) (by omega) (by omega) rfl
  · cases h
def okM (c : Cg) : Prop := c.2.1.length ≤ mid ∧ c.2.2.length ≤ mid ∧ ∀ v ∈ c.2.2, v.2.2.2.length ≤ mid
instance (c : Cg) : Decidable (okM c) := by unfold okM; infer_instance
def m19 (c : Cg) : Option Cg := if okM c then some c else none
theorem sat19 : Sat prog cxT 19 (c19 m19) := s19 m48 m49 sat48 sat49 m19 fun x t h => by
  obtain ⟨a, b, c⟩ := x
  unfold m19 at h
  split at h
  · rename_i ha
    cases h
    refine ⟨0, ?_⟩
    show g19 m48 m49 0 a b c = _
    unfold g19
    rw [show m48 b = some b from if_pos ha.1, tst_some, show m49 c = some c from if_pos ha.2, tst_some]
  · cases h

/-! ### Comparisons -/
theorem bifeq {α : Type} [DecidableEq α] [BEq α] [LawfulBEq α] {a b : α} {o : Option Bool} {p : Prop} [Decidable p] (h : a = b → o = some (decide p)) (h2 : ¬ a = b → ¬ p) : (bif a != b then some false else o) = some (decide p) := by
  by_cases e : a = b
  · rw [bneF e, cond_false, h e]
  · rw [bneT e, cond_true, df (h2 e)]
theorem el117 (L : Nat) (a b : List Int) : ∀ (n : Nat) (i : Int) (k : Option Bool), l117_0 L a b n i k = eqL 0 (fun x => some (decide (x.1 = x.2))) a b n i k
  | 0, _, _ => rfl
  | n + 1, i, k => by
    unfold l117_0 eqL
    simp only [el117 L a b n, tst_some]
    congr 2
def m117 (x : List Int × List Int) : Option Bool := if x.1.length ≤ big then some (decide (x.1 = x.2)) else none
theorem sat117 : Sat prog cxT 117 (c117 m117) := s117 m117 fun x t h => by
  obtain ⟨a, b⟩ := x
  unfold m117 at h
  split at h
  · rename_i hc
    cases h
    have hc : a.length ≤ 1000000000000 := hc
    refine ⟨a.length + 1, ?_⟩
    show g117 (a.length + 1) a b = some (decide (a = b))
    unfold g117
    refine bifeq (fun e => ?_) fun e h => e (by rw [h])
    rw [el117]
    refine (eqL_ok 0 _ a b (by omega) (by omega) (fun _ _ _ _ => rfl) _ _ 0 (by omega) (by omega)).trans ?_
    simp only [List.drop_zero]
    split <;> rename_i hh <;> simp [hh]
  · cases h
def m94 (x : Vp × Vp) : Option Bool := if x.1.2.2.2.length ≤ big then some (decide (x.1 = x.2)) else none
theorem bifn {b : Bool} : (bif !b then some false else some true) = some b := by cases b <;> rfl
theorem sat94 : Sat prog cxT 94 (c94 m94) := s94 m117 sat117 m94 fun x t h => by
  obtain ⟨⟨a, b, c, d⟩, a', b', c', d'⟩ := x
  unfold m94 at h
  split at h
  · rename_i hc
    cases h
    refine ⟨0, ?_⟩
    show g94 m117 0 a b c d a' b' c' d' = some (decide ((a, b, c, d) = (a', b', c', d')))
    unfold g94
    rw [show m117 (d, d') = some (decide (d = d')) from if_pos hc, tst_some]
    refine bifeq (fun e1 => bifeq (fun e2 => bifeq (fun e3 => ?_) ?_) ?_) ?_
    · rw [bifn]; simp [e1, e2, e3]
    · intro e h; simp at h; exact e h.2.2.1
    · intro e h; simp at h; exact e h.2.1
    · intro e h; simp at h; exact e h.1
  · cases h
theorem el56 (L : Nat) (a b : List Vp) : ∀ (n : Nat) (i : Int) (k : Option Bool), l56_0 m94 L a b n i k = eqL dVp m94 a b n i k
  | 0, _, _ => rfl
  | n + 1, i, k => by unfold l56_0 eqL; simp only [el56 L a b n]; rfl
def m56 (x : List Vp × List Vp) : Option Bool := if x.1.length ≤ big ∧ ∀ v ∈ x.1, v.2.2.2.length ≤ big then some (decide (x.1 = x.2)) else none
theorem sat56 : Sat prog cxT 56 (c56 m56) := s56 m94 sat94 m56 fun x t h => by
  obtain ⟨a, b⟩ := x
  unfold m56 at h
  split at h
  · rename_i hc
    cases h
    have hc1 : a.length ≤ 1000000000000 := hc.1
    refine ⟨a.length + 1, ?_⟩
    show g56 m94 (a.length + 1) a b = some (decide (a = b))
    unfold g56
    refine bifeq (fun e => ?_) fun e h => e (by rw [h])
    rw [el56]
    refine (eqL_ok dVp _ a b (by omega) (by omega) (fun x hx y _ => if_pos (hc.2 x hx)) _ _ 0 (by omega) (by omega)).trans ?_
    simp only [List.drop_zero]
    split <;> rename_i hh <;> simp [hh]
  · cases h
theorem sat65 : Sat prog cxT 65 (c65 fun x => some (decide (x.1 = x.2))) := s65 _ fun x t h => by
  obtain ⟨⟨a, b, c, d, e⟩, a', b', c', d', e'⟩ := x
  cases h
  refine ⟨0, ?_⟩
  show g65 0 a b c d e a' b' c' d' e' = some (decide ((a, b, c, d, e) = (a', b', c', d', e')))
  unfold g65
  refine bifeq (fun e1 => bifeq (fun e2 => bifeq (fun e3 => bifeq (fun e4 => ?_) ?_) ?_) ?_) ?_
  · rw [bifn]; subst e1; subst e2; subst e3; subst e4; cases e <;> cases e' <;> simp
  · intro e h; simp at h; exact e h.2.2.2.1
  · intro e h; simp at h; exact e h.2.2.1
  · intro e h; simp at h; exact e h.2.1
  · intro e h; simp at h; exact e h.1
theorem el55 (L : Nat) (a b : List Bk) : ∀ (n : Nat) (i : Int) (k : Option Bool), l55_0 (fun x => some (decide (x.1 = x.2))) L a b n i k = eqL dBk (fun x => some (decide (x.1 = x.2))) a b n i k
  | 0, _, _ => rfl
  | n + 1, i, k => by unfold l55_0 eqL; simp only [el55 L a b n]; rfl
def m55 (x : List Bk × List Bk) : Option Bool := if x.1.length ≤ big then some (decide (x.1 = x.2)) else none
theorem sat55 : Sat prog cxT 55 (c55 m55) := s55 _ sat65 m55 fun x t h => by
  obtain ⟨a, b⟩ := x
  unfold m55 at h
  split at h
  · rename_i hc
    cases h
    have hc1 : a.length ≤ 1000000000000 := hc
    refine ⟨a.length + 1, ?_⟩
    show g55 _ (a.length + 1) a b = some (decide (a = b))
    unfold g55
    refine bifeq (fun e => ?_) fun e h => e (by rw [h])
    rw [el55]
    refine (eqL_ok dBk _ a b (by omega) (by omega) (fun x hx y _ => rfl) _ _ 0 (by omega) (by omega)).trans ?_
    simp only [List.drop_zero]
    split <;> rename_i hh <;> simp [hh]
  · cases h
instance decBk : DecidableEq Bk := inferInstance
instance decVp : DecidableEq Vp := inferInstance
instance decLs : DecidableEq (List Bk × List Vp) := @instDecidableEqProd _ _ (@instDecidableEqList _ decBk) (@instDecidableEqList _ decVp)
instance decCg : DecidableEq Cg := @instDecidableEqProd _ _ inferInstance decLs
def m21 (x : Cg × Cg) : Option Bool := if okC x.1 then some (decide (x.1 = x.2)) else none
theorem sat21 : Sat prog cxT 21 (c21 m21) := s21 m55 m56 sat55 sat56 m21 fun x t h => by
  obtain ⟨⟨a, b, c⟩, a', b', c'⟩ := x
  unfold m21 at h
  split at h
  · rename_i hc
    cases h
    refine ⟨0, ?_⟩
    show g21 m55 m56 0 a b c a' b' c' = some (decide ((a, b, c) = (a', b', c')))
    unfold g21
    rw [show m55 (b, b') = some (decide (b = b')) from if_pos hc.1, tst_some, show m56 (c, c') = some (decide (c = c')) from if_pos hc.2, tst_some]
    refine bifeq (fun e1 => ?_) ?_
    · subst e1
      by_cases e2 : b = b' <;> by_cases e3 : c = c' <;> simp [e2, e3]
    · intro e h; simp at h; exact e h.1
  · cases h
abbrev BkR := Int × Bk
end Go.Proofs.Try

set_option maxHeartbeats 0
set_option linter.unusedVariables false
set_option linter.unusedSimpArgs false
namespace Go.Proofs.Try
open Go Go.VM Go.RowKit

/-! ### Faults of configurations, plainly -/
def bkOk (b : Bk) : Bool := nmOk b.1 && adOk b.2.1 && wtOk b.2.2.1 && stOk b.2.2.2.1
def vpOk (v : Vp) : Bool := adOk v.1 && ptOk v.2.1 && prOk v.2.2.1
def beh (a b : Vp) : Bool := if a.1 = b.1 then (if a.2.1 = b.2.1 then decide (a.2.2.1 < b.2.2.1) else decide (a.2.1 < b.2.1)) else decide (a.1 < b.1)
def hasB (bs : List Bk) (y : Int) : Bool := bs.any fun b => b.1 == y
def rsN (ns : List Int) (i : Nat) : Int := if 0 < i ∧ ns.getD i 0 ≤ ns.getD (i - 1) 0 then 1 else 0
def knN (bs : List Bk) (ns : List Int) (i : Nat) : Int := if hasB bs (ns.getD i 0) then 0 else 4
def nF (bs : List Bk) (ns : List Int) : Int := if fst (knN bs ns) ns.length 0 = 0 then fst (rsN ns) ns.length 0 else 4
def bF (bs : List Bk) (i : Nat) : Int := if bkOk (bs.getD i dBk) then (if 0 < i ∧ (bs.getD i dBk).1 ≤ (bs.getD (i - 1) dBk).1 then 1 else 0) else 3
def vF (bs : List Bk) (vs : List Vp) (i : Nat) : Int := if vpOk (vs.getD i dVp) then (if 0 < i ∧ beh (vs.getD (i - 1) dVp) (vs.getD i dVp) = false then 1 else nF bs (vs.getD i dVp).2.2.2) else 3
def cF (c : Cg) : Int := if vrOk c.1 then (if 8 < c.2.1.length ∨ 4 < c.2.2.length then 2 else if fst (bF c.2.1) c.2.1.length 0 = 0 then fst (vF c.2.1 c.2.2) c.2.2.length 0 else fst (bF c.2.1) c.2.1.length 0) else 3

theorem cF_zero {c : Cg} (h : cF c = 0) : vrOk c.1 = true ∧ c.2.1.length ≤ 8 ∧ c.2.2.length ≤ 4 ∧ (∀ j, j < c.2.1.length → bF c.2.1 j = 0) ∧ ∀ j, j < c.2.2.length → vF c.2.1 c.2.2 j = 0 := by
  unfold cF at h
  split at h
  · rename_i h1
    split at h
    · exact absurd h (by decide)
    · rename_i h2
      split at h
      · rename_i h3
        exact ⟨h1, by omega, by omega, fun j hj => fst_zero.1 h3 j (Nat.zero_le _) (by omega), fun j hj => fst_zero.1 h j (Nat.zero_le _) (by omega)⟩
      · rename_i h3; exact absurd h h3
  · exact absurd h (by decide)

/-- Names of backends rise. -/
def ris (bs : List Bk) : Prop := ∀ i j, i < j → j < bs.length → (bs.getD i dBk).1 < (bs.getD j dBk).1
theorem ris_of {bs : List Bk} (h : ∀ j, j < bs.length → bF bs j = 0) : ris bs := by
  have step : ∀ j, 0 < j → j < bs.length → (bs.getD (j - 1) dBk).1 < (bs.getD j dBk).1 := fun j h0 hj => by
    have := h j hj
    unfold bF at this
    split at this
    · split at this
      · exact absurd this (by decide)
      · rename_i h2; have : ¬ (bs.getD j dBk).1 ≤ (bs.getD (j - 1) dBk).1 := fun h3 => h2 ⟨h0, h3⟩; omega
    · exact absurd this (by decide)
  intro i j hij
  induction j with
  | zero => omega
  | succ j ih =>
    intro hj
    have h1 := step (j + 1) (by omega) hj
    simp only [Nat.add_sub_cancel] at h1
    by_cases h2 : i = j
    · rw [h2]; exact h1
    · have := ih (by omega) (by omega)
      omega

theorem sat81 : Sat prog cxT 81 (c81 fun b => some (bkOk b)) := s81 _ _ _ sat59 sat60 sat41 _ fun x t h => by
  obtain ⟨a, b, c, d, e⟩ := x
  cases h
  refine ⟨0, ?_⟩
  show g81 _ _ _ 0 a b c d e = some (nmOk a && adOk b && wtOk c && stOk d)
  unfold g81
  simp only [tst_some]
  cases nmOk a <;> cases adOk b <;> simp only [cond_true, cond_false, Bool.false_and, Bool.true_and]
  show (bif wtOk c then some (stOk d) else some false) = _
  cases wtOk c <;> rfl
theorem sat51 : Sat prog cxT 51 (c51 fun b => some (bkOk b)) := s51 _ _ _ _ sat44 sat89 sat45 sat90 _ fun x t h => by
  obtain ⟨a, b, c, d, e⟩ := x
  cases h
  refine ⟨0, ?_⟩
  show g51 _ _ _ _ 0 a b c d e = some (nmOk a && adOk b && wtOk c && stOk d)
  unfold g51
  simp only [tst_some]
  cases nmOk a <;> cases adOk b <;> cases wtOk c <;> rfl
theorem sat52 : Sat prog cxT 52 (c52 fun v => some (vpOk v)) := s52 _ _ _ sat89 sat91 sat92 _ fun x t h => by
  obtain ⟨a, b, c, d⟩ := x
  cases h
  refine ⟨0, ?_⟩
  show g52 _ _ _ 0 a b c d = some (adOk a && ptOk b && prOk c)
  unfold g52
  simp only [tst_some]
  cases adOk a <;> cases ptOk b <;> rfl
theorem sat113 : Sat prog cxT 113 (c113 fun x => some (beh x.1 x.2)) := s113 _ fun x t h => by
  obtain ⟨⟨a, b, c, d⟩, a', b', c', d'⟩ := x
  cases h
  refine ⟨0, ?_⟩
  show g113 0 a b c d a' b' c' d' = some (if a = a' then (if b = b' then decide (c < c') else decide (b < b')) else decide (a < a'))
  unfold g113
  by_cases h1 : a = a'
  · rw [bneF h1, cond_false, if_pos h1]
    by_cases h2 : b = b'
    · rw [bneF h2, cond_false, if_pos h2]
    · rw [bneT h2, cond_true, if_neg h2]
  · rw [bneT h1, cond_true, if_neg h1]

def atB (bs : List Bk) (y : Int) : Int := idx (fun b => b.1 == y) bs 0
theorem p64 (L : Nat) (c : Cg) (y : Int) (hb : c.2.1.length ≤ big) (k : Option Int) : ∀ (n i : Nat), i ≤ c.2.1.length → c.2.1.length < n + i →
    l64_0 L c y n i k = if idx (fun b => b.1 == y) (c.2.1.drop i) i < 0 then k else some (idx (fun b => b.1 == y) (c.2.1.drop i) i)
  | 0, i, h2, h3 => by omega
  | n + 1, i, h2, h3 => by
    unfold l64_0
    have hb' : c.2.1.length ≤ 1000000000000 := hb
    by_cases hi : i < c.2.1.length
    · rw [Int.toNat_natCast]
      simp (disch := omega) only [dt, wi, cond_true, Bool.and_self]
      rw [drop_cons dBk hi, idx_cons]
      by_cases hy : (c.2.1.getD i dBk).1 = y
      · rw [show ((c.2.1.getD i dBk).1 == y) = true from beq_iff_eq.2 hy, if_pos rfl, if_neg (by omega)]
        rw [show ((List.getD c.2.1 i (0, 0, 0, 0, false)).1 == y) = true from beq_iff_eq.2 hy]; rfl
      · simp only [show ((c.2.1.getD i dBk).1 == y) = false from beq_eq_false_iff_ne.2 hy, Bool.false_eq_true, if_false]
        rw [show ((List.getD c.2.1 i (0, 0, 0, 0, false)).1 == y) = false from beq_eq_false_iff_ne.2 hy, cond_false, show (i : Int) + 1 = ((i + 1 : Nat) : Int) from rfl]
        exact p64 L c y hb k n (i + 1) (by omega) (by omega)
    · simp (disch := omega) only [df, cond_false]
      rw [List.drop_eq_nil_of_le (by omega)]
      rfl
theorem idx_none {α : Type} {p : α → Bool} : ∀ (l : List α) (i : Nat), l.any p = false → idx p l i = -1
  | [], _, _ => rfl
  | x :: r, i, h => by
    simp only [List.any_cons, Bool.or_eq_false_iff] at h
    rw [idx_cons, h.1]
    simp only [Bool.false_eq_true, if_false]
    exact idx_none r _ h.2
def m64 (x : Cg × Int) : Option Int := if x.1.2.1.length ≤ big then some (atB x.1.2.1 x.2) else none
theorem sat64 : Sat prog cxT 64 (c64 m64) := s64 m64 fun x t h => by
  obtain ⟨c, y⟩ := x
  unfold m64 at h
  split at h
  · rename_i hc
    cases h
    refine ⟨c.2.1.length + 1, ?_⟩
    show g64 (c.2.1.length + 1) c y = some (atB c.2.1 y)
    unfold g64
    refine (p64 _ c y hc _ (c.2.1.length + 1) 0 (by omega) (by omega)).trans ?_
    rw [List.drop_zero]
    unfold atB
    split
    · rename_i h2
      rw [idx_none c.2.1 0 (idx_neg.1 h2)]
    · rfl
  · cases h
end Go.Proofs.Try

set_option maxHeartbeats 0
set_option linter.unusedVariables false
set_option linter.unusedSimpArgs false
namespace Go.Proofs.Try
open Go Go.VM Go.RowKit

/-! ### The specification's ConfigFault -/
theorem toNat_pred {i : Nat} (h : 0 < i) : ((i : Int) - 1).toNat = i - 1 := by omega
theorem fst_step {f : Nat → Int} {m i : Nat} (h : i < m) : fst f (m - i) i = if f i = 0 then fst f (m - (i + 1)) (i + 1) else f i := by
  rw [show m - i = (m - (i + 1)) + 1 by omega, fst_succ]
theorem fst_done {f : Nat → Int} {m i : Nat} (h : ¬ i < m) : fst f (m - i) i = 0 := by
  rw [show m - i = 0 by omega]; rfl
theorem hasB_at {bs : List Bk} {y : Int} : decide (atB bs y < 0) = !hasB bs y := by
  by_cases h : hasB bs y = true
  · rw [h]
    obtain ⟨j, h1, _⟩ := idx_get dBk (l := bs) (i := 0) h
    exact df (by unfold atB; rw [h1]; omega)
  · have h' : hasB bs y = false := by simpa using h
    rw [h']
    exact dt (idx_neg.2 h')
theorem p82_0 (M60 M95 M62 : Int → Option Bool) (M113 : Vp × Vp → Option Bool) (L : Nat) (c : Cg) (b1 : Int) (x y z : Int) (ns : List Int) (hb : c.2.1.length ≤ big) (hn : ns.length ≤ big) (k : Int → Int → Int → List Int → Option Int) :
    ∀ (n i : Nat), i ≤ ns.length → ns.length < n + i → l82_0 M60 M95 M62 M113 m64 L c b1 n x y z ns i k = if fst (knN c.2.1 ns) (ns.length - i) i = 0 then k x y z ns else some 4
  | 0, i, h2, h3 => by omega
  | n + 1, i, h2, h3 => by
    unfold l82_0
    have hn' : ns.length ≤ 1000000000000 := hn
    by_cases hi : i < ns.length
    · rw [Int.toNat_natCast]
      simp (disch := omega) only [dt, wi, cond_true, Bool.and_self]
      rw [fst_step hi, show m64 (c, ns.getD i 0) = some (atB c.2.1 (ns.getD i 0)) from if_pos hb, tst_some]
      simp only [hasB_at]
      unfold knN
      by_cases hh : hasB c.2.1 (ns.getD i 0) = true
      · simp only [hh, if_true, Bool.not_true, cond_false]
        exact p82_0 M60 M95 M62 M113 L c b1 x y z ns hb hn k n (i + 1) (by omega) (by omega)
      · simp only [show hasB c.2.1 (ns.getD i 0) = false by simpa using hh, Bool.false_eq_true, if_false, Bool.not_false, cond_true]
        rfl
    · simp (disch := omega) only [df, cond_false]
      rw [fst_done hi, if_pos rfl]
theorem p82_2 (M60 M95 M62 : Int → Option Bool) (M113 : Vp × Vp → Option Bool) (M64 : Cg × Int → Option Int) (L : Nat) (c : Cg) (b1 : Int) (x y z : Int) (ns : List Int) (hn : ns.length ≤ big) (k : Option Int) :
    ∀ (n i : Nat), 0 < i → (i ≤ ns.length + 1) → ns.length + 1 < n + i → l82_2 M60 M95 M62 M113 M64 L c b1 n x y z ns i k = if fst (rsN ns) (ns.length - i) i = 0 then k else some 1
  | 0, i, h2, h1, h3 => by omega
  | n + 1, i, h2, h1, h3 => by
    unfold l82_2
    have hn' : ns.length ≤ 1000000000000 := hn
    by_cases hi : i < ns.length
    · simp (disch := omega) only [dt, wi, cond_true, Bool.and_self]
      rw [toNat_pred h2, Int.toNat_natCast, fst_step hi]
      unfold rsN
      by_cases hh : ns.getD i 0 ≤ ns.getD (i - 1) 0
      · rw [dt hh, cond_true, if_pos (show 0 < i ∧ ns.getD i 0 ≤ ns.getD (i - 1) 0 from ⟨h2, hh⟩)]; rfl
      · rw [df hh, cond_false, if_neg (show ¬ (0 < i ∧ ns.getD i 0 ≤ ns.getD (i - 1) 0) from fun h => hh h.2), if_pos rfl]
        exact p82_2 M60 M95 M62 M113 M64 L c b1 x y z ns hn k n (i + 1) (by omega) (by omega) (by omega)
    · have e : ¬ (i : Int) < (ns.length : Int) := by omega
      simp only [df e, cond_false]
      rw [fst_done hi, if_pos rfl]

def m82 (x : Cg × Int) : Option Int := if okC x.1 ∧ 0 ≤ x.2 ∧ x.2 < (x.1.2.2.length : Int) then some (vF x.1.2.1 x.1.2.2 x.2.toNat) else none
theorem rsN_zero (ns : List Int) : rsN ns 0 = 0 := by unfold rsN; rw [if_neg (by omega)]
theorem rsN_from (ns : List Int) : fst (rsN ns) (ns.length - 1) 1 = fst (rsN ns) ns.length 0 := by
  cases h : ns.length with
  | zero => rfl
  | succ n => rw [fst_succ, if_pos (rsN_zero ns)]; rfl
theorem rsN_val (ns : List Int) : fst (rsN ns) ns.length 0 = 0 ∨ fst (rsN ns) ns.length 0 = 1 := by
  by_cases h : fst (rsN ns) ns.length 0 = 0
  · exact .inl h
  · obtain ⟨j, _, _, hj⟩ := fst_any h
    refine .inr ?_
    rw [← hj] at h ⊢
    unfold rsN at h ⊢
    split
    · rfl
    · rename_i h2; rw [if_neg h2] at h; exact absurd rfl h
theorem tail82 (L : Nat) (c : Cg) (b1 : Int) (x y z : Int) (ns : List Int) (hb : c.2.1.length ≤ big) (hn : ns.length ≤ big) (hL : ns.length + 1 < L) (M60 M95 M62 : Int → Option Bool) (M113 : Vp × Vp → Option Bool) :
    l82_0 M60 M95 M62 M113 m64 L c b1 L x y z ns 0 (fun u0 u1 u2 u3 => l82_2 M60 M95 M62 M113 m64 L c b1 L u0 u1 u2 u3 1 (some 0)) = some (nF c.2.1 ns) := by
  refine (p82_0 M60 M95 M62 M113 L c b1 x y z ns hb hn _ L 0 (by omega) (by omega)).trans ?_
  rw [Nat.sub_zero]
  unfold nF
  by_cases h : fst (knN c.2.1 ns) ns.length 0 = 0
  · rw [if_pos h, if_pos h]
    refine (p82_2 M60 M95 M62 M113 m64 L c b1 x y z ns hn _ L 1 (by omega) (by omega) (by omega)).trans ?_
    rw [rsN_from]
    rcases rsN_val ns with h2 | h2
    · rw [if_pos h2, h2]
    · rw [if_neg (by rw [h2]; decide), h2]
  · rw [if_neg h, if_neg h]
theorem sat82 : Sat prog cxT 82 (c82 m82) := s82 _ _ _ _ m64 sat60 sat95 sat62 sat113 sat64 m82 fun x t h => by
  obtain ⟨⟨a, b, c⟩, y⟩ := x
  unfold m82 at h
  split at h
  · rename_i hc
    obtain ⟨⟨h1, h2, h3⟩, h4, h5⟩ := hc
    cases h
    simp only at h1 h2 h3 h4 h5
    obtain ⟨i, rfl⟩ := Int.eq_ofNat_of_zero_le h4
    have hi : i < c.length := by omega
    have h2' : c.length ≤ 1000000000000 := h2
    refine ⟨(c.getD i dVp).2.2.2.length + 2, ?_⟩
    have hns := h3 _ (getD_mem dVp hi)
    show g82 _ _ _ _ m64 _ (a, b, c) (i : Int) = some (vF b c (i : Int).toNat)
    unfold g82
    simp only
    rw [Int.toNat_natCast, dt h4, dt h5, Bool.and_self, cond_true]
    simp only [tst_some]
    unfold vF
    have hv : ∀ o : Option Int, (bif !adOk (c.getD i dVp).1 then some 3 else bif !ptOk (c.getD i dVp).2.1 then some 3 else bif !prOk (c.getD i dVp).2.2.1 then some 3 else o) = if vpOk (c.getD i dVp) = true then o else some 3 := by
      intro o
      unfold vpOk
      cases adOk (c.getD i dVp).1 <;> cases ptOk (c.getD i dVp).2.1 <;> cases prOk (c.getD i dVp).2.2.1 <;> simp
    refine (hv _).trans ?_
    by_cases hok : vpOk (c.getD i dVp) = true
    · rw [if_pos hok, if_pos hok]
      by_cases h0 : 0 < i
      · rw [dt (show (i : Int) > 0 by omega), cond_true, wi (by omega) (by omega), dt (show (0 : Int) ≤ (i : Int) - 1 by omega), dt (show (i : Int) - 1 < (c.length : Int) by omega), Bool.and_self, cond_true, toNat_pred h0]
        by_cases hbh : beh (c.getD (i - 1) dVp) (c.getD i dVp) = false
        · rw [if_pos ⟨h0, hbh⟩]
          show (bif !beh (c.getD (i - 1) dVp) (c.getD i dVp) then _ else _) = _
          rw [hbh]; rfl
        · rw [if_neg (fun h => hbh h.2)]
          show (bif !beh (c.getD (i - 1) dVp) (c.getD i dVp) then _ else _) = _
          rw [show beh (c.getD (i - 1) dVp) (c.getD i dVp) = true by simpa using hbh]
          exact tail82 _ (a, b, c) i _ _ _ _ h1 hns (by omega) _ _ _ _
      · rw [df (show ¬ (i : Int) > 0 by omega), cond_false, if_neg (fun h => h0 h.1)]
        exact tail82 _ (a, b, c) i _ _ _ _ h1 hns (by omega) _ _ _ _
    · rw [if_neg hok, if_neg hok]
  · cases h

theorem p40_0 (M58 : Int → Option Bool) (M82 : Cg × Int → Option Int) (L : Nat) (c : Cg) (hb : c.2.1.length ≤ big) (k : Option Int) :
    ∀ (n i : Nat), i ≤ c.2.1.length → c.2.1.length < n + i → l40_0 M58 (fun b => some (bkOk b)) M82 L c n i k = if fst (bF c.2.1) (c.2.1.length - i) i = 0 then k else some (fst (bF c.2.1) (c.2.1.length - i) i)
  | 0, i, h2, h3 => by omega
  | n + 1, i, h2, h3 => by
    unfold l40_0
    have hn' : c.2.1.length ≤ 1000000000000 := hb
    generalize hbs : c.2.1 = bs at *
    by_cases hi : i < bs.length
    · rw [dt (show (i : Int) < (bs.length : Int) by omega), dt (show (0 : Int) ≤ (i : Int) by omega), Bool.and_self, cond_true, cond_true, tst_some, Int.toNat_natCast, fst_step hi, wi (x := (i : Int) + 1) (by omega) (by omega)]
      have ih := p40_0 M58 M82 L c (by rw [hbs]; exact hb) k n (i + 1) (by rw [hbs]; omega) (by rw [hbs]; omega)
      rw [hbs] at ih
      by_cases hok : bkOk (bs.getD i dBk) = true
      · refine (congrArg (fun b => bif !b then _ else _) hok).trans ?_
        simp only [Bool.not_true, cond_false]
        by_cases h0 : 0 < i
        · rw [dt (show (i : Int) > 0 by omega), cond_true, wi (by omega) (by omega), dt (show (0 : Int) ≤ (i : Int) - 1 by omega), dt (show (i : Int) - 1 < (bs.length : Int) by omega), Bool.and_self, cond_true, toNat_pred h0]
          by_cases hh : (bs.getD i dBk).1 ≤ (bs.getD (i - 1) dBk).1
          · have e : bF bs i = 1 := by unfold bF; rw [if_pos hok, if_pos ⟨h0, hh⟩]
            rw [dt (c := (List.getD bs i (0, 0, 0, 0, false)).1 ≤ (List.getD bs (i - 1) (0, 0, 0, 0, false)).1) hh, cond_true, e]; rfl
          · have e : bF bs i = 0 := by unfold bF; rw [if_pos hok, if_neg (fun h => hh h.2)]
            rw [df (c := (List.getD bs i (0, 0, 0, 0, false)).1 ≤ (List.getD bs (i - 1) (0, 0, 0, 0, false)).1) hh, cond_false, if_pos e]
            exact ih
        · have e : bF bs i = 0 := by unfold bF; rw [if_pos hok, if_neg (fun h => h0 h.1)]
          rw [df (show ¬ (i : Int) > 0 by omega), cond_false, if_pos e]
          exact ih
      · have e : bF bs i = 3 := by unfold bF; rw [if_neg hok]
        refine (congrArg (fun b => bif !b then _ else _) (show bkOk (bs.getD i dBk) = false by simpa using hok)).trans ?_
        rw [e]; rfl
    · rw [df (show ¬ (i : Int) < (bs.length : Int) by omega), cond_false, fst_done hi, if_pos rfl]
theorem p40_2 (M58 : Int → Option Bool) (M81 : Bk → Option Bool) (L : Nat) (c : Cg) (hok : okC c) (k : Option Int) :
    ∀ (n i : Nat), i ≤ c.2.2.length → c.2.2.length < n + i → l40_2 M58 M81 m82 L c n i k = if fst (vF c.2.1 c.2.2) (c.2.2.length - i) i = 0 then k else some (fst (vF c.2.1 c.2.2) (c.2.2.length - i) i)
  | 0, i, h2, h3 => by omega
  | n + 1, i, h2, h3 => by
    unfold l40_2
    have hn' : c.2.2.length ≤ 1000000000000 := hok.2.1
    by_cases hi : i < c.2.2.length
    · rw [dt (show (i : Int) < (c.2.2.length : Int) by omega), cond_true, fst_step hi, wi (x := (i : Int) + 1) (by omega) (by omega)]
      rw [show m82 (c, (i : Int)) = some (vF c.2.1 c.2.2 i) from if_pos ⟨hok, by simp only; omega, by simp only; omega⟩, tst_some]
      by_cases e : vF c.2.1 c.2.2 i = 0
      · rw [bneF e, cond_false, if_pos e]
        exact p40_2 M58 M81 L c hok k n (i + 1) (by omega) (by omega)
      · rw [bneT e, cond_true, if_neg e, if_neg e]
    · rw [df (show ¬ (i : Int) < (c.2.2.length : Int) by omega), cond_false, fst_done hi, if_pos rfl]
def m40 (c : Cg) : Option Int := if okC c then some (cF c) else none
theorem sat40 : Sat prog cxT 40 (c40 m40) := s40 _ _ m82 sat58 sat81 sat82 m40 fun x t h => by
  obtain ⟨a, b, c⟩ := x
  unfold m40 at h
  split at h
  · rename_i hc
    cases h
    refine ⟨b.length + c.length + 1, ?_⟩
    show g40 _ _ m82 _ (a, b, c) = some (cF (a, b, c))
    unfold g40 cF
    simp only [tst_some]
    cases hv : vrOk a
    · simp
    · simp only [Bool.not_true, cond_false, if_true]
      by_cases h8 : 8 < b.length
      · rw [dt (show (b.length : Int) > 8 by omega), cond_true, if_pos (.inl h8)]
      · rw [df (show ¬ (b.length : Int) > 8 by omega), cond_false]
        by_cases h4 : 4 < c.length
        · rw [dt (show (c.length : Int) > 4 by omega), cond_true, if_pos (.inr h4)]
        · rw [df (show ¬ (c.length : Int) > 4 by omega), cond_false, if_neg (by omega)]
          refine (p40_0 _ _ _ (a, b, c) hc.1 _ _ 0 (by omega) (by simp only; omega)).trans ?_
          rw [Nat.sub_zero]
          by_cases e : fst (bF b) b.length 0 = 0
          · rw [if_pos e, if_pos e]
            refine (p40_2 _ _ _ (a, b, c) hc _ _ 0 (by omega) (by simp only; omega)).trans ?_
            rw [Nat.sub_zero]
            split
            · rename_i e2; rw [e2]
            · rfl
          · rw [if_neg e, if_neg e]
  · cases h
def mCF (c : Cg) : Option Int := if okC c then some (cF c) else none
end Go.Proofs.Try
