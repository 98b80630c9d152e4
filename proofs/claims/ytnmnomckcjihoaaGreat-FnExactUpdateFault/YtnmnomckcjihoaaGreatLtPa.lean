/- A part of the proof of FnExactUpdateFault: LtPa, LtPb. -/
import Derived.Test.YtnmnomckcjihoaaGreatVmPl
import Derived.Test.YtnmnomckcjihoaaGreatLtFa
import Derived.Test.YtnmnomckcjihoaaGreatLtFb
import Derived.Test.YtnmnomckcjihoaaGreatLtFc
import Derived.Test.YtnmnomckcjihoaaGreatLtFd
set_option linter.unusedVariables false
set_option maxHeartbeats 0
set_option linter.unusedVariables false
set_option linter.unusedSimpArgs false
namespace Go.Proofs.Tryz
open Go Go.VM Go.RowKit

/-! ### Numbers -/
def nmOk (x : Int) : Bool := decide (1 ≤ x ∧ x ≤ 999)
def adOk (x : Int) : Bool := decide (0 ≤ x ∧ x ≤ 4294967295)
def wtOk (x : Int) : Bool := decide (0 ≤ x ∧ x ≤ 9)
def stOk (x : Int) : Bool := decide (1 ≤ x ∧ x ≤ 3)
def ptOk (x : Int) : Bool := decide (0 ≤ x ∧ x ≤ 65535)
def prOk (x : Int) : Bool := decide (x = 6 ∨ x = 17)
def vrOk (x : Int) : Bool := decide (0 ≤ x ∧ x ≤ 1000000)

theorem bif_and {a b : Int} {x : Int} : (bif decide (x ≥ a) then some (decide (x ≤ b)) else some false) = some (decide (a ≤ x ∧ x ≤ b)) := by
  by_cases h : a ≤ x
  · rw [dt (show x ≥ a from h)]; simp [h]
  · rw [df (show ¬ x ≥ a from h)]; simp [h]
theorem bif_or {a b : Int} {x : Int} : (bif x == a then some true else some (x == b)) = some (decide (x = a ∨ x = b)) := by
  by_cases h : x = a
  · simp [h]
  · rw [beq_eq_false_iff_ne.2 h, cond_false]
    by_cases h2 : x = b
    · rw [beq_iff_eq.2 h2, dt (.inr h2)]
    · rw [beq_eq_false_iff_ne.2 h2, df (by rintro (h3 | h3) <;> contradiction)]
theorem sat34 : Sat prog cxT 34 (c34 fun x => some (decide (x.2.1 ≤ x.1 ∧ x.1 ≤ x.2.2))) := s34 _ fun x t h => by
  obtain ⟨x, a, b⟩ := x
  cases h
  exact ⟨0, bif_and⟩
theorem sat85 : Sat prog cxT 85 (c85 fun x => some (nmOk x)) := s85 _ fun x t h => by cases h; exact ⟨0, bif_and⟩
theorem sat87 : Sat prog cxT 87 (c87 fun x => some (wtOk x)) := s87 _ fun x t h => by cases h; exact ⟨0, bif_and⟩
theorem sat29 : Sat prog cxT 29 (c29 fun x => some (vrOk x)) := s29 _ fun x t h => by cases h; exact ⟨0, bif_and⟩
theorem sat86 : Sat prog cxT 86 (c86 fun x => some (adOk x)) := s86 _ fun x t h => by cases h; exact ⟨0, bif_and⟩
theorem sat88 : Sat prog cxT 88 (c88 fun x => some (stOk x)) := s88 _ fun x t h => by cases h; exact ⟨0, bif_and⟩
theorem sat89 : Sat prog cxT 89 (c89 fun x => some (ptOk x)) := s89 _ fun x t h => by cases h; exact ⟨0, bif_and⟩
theorem sat90 : Sat prog cxT 90 (c90 fun x => some (prOk x)) := s90 _ fun x t h => by cases h; exact ⟨0, bif_or⟩
theorem sat24 : Sat prog cxT 24 (c24 fun x => some (vrOk x)) := s24 _ sat34 _ fun x t h => by cases h; exact ⟨0, rfl⟩
theorem sat51 : Sat prog cxT 51 (c51 fun x => some (nmOk x)) := s51 _ sat34 _ fun x t h => by cases h; exact ⟨0, rfl⟩
theorem sat52 : Sat prog cxT 52 (c52 fun x => some (adOk x)) := s52 _ sat34 _ fun x t h => by cases h; exact ⟨0, rfl⟩
theorem sat54 : Sat prog cxT 54 (c54 fun x => some (prOk x)) := s54 _ fun x t h => by cases h; exact ⟨0, bif_or⟩
theorem sat68 : Sat prog cxT 68 (c68 fun x => some (ptOk x)) := s68 _ sat34 _ fun x t h => by cases h; exact ⟨0, rfl⟩
theorem sat109 : Sat prog cxT 109 (c109 fun _ => some false) := s109 _ fun x t h => by
  cases h
  refine ⟨0, ?_⟩
  unfold g109; simp
theorem sat92 : Sat prog cxT 92 (c92 fun x => some (cmpI x.1 x.2)) := s92 _ sat109 _ fun x t h => by
  obtain ⟨a, b⟩ := x
  cases h
  refine ⟨0, ?_⟩
  show g92 (fun _ => some false) 0 a b = some (cmpI a b)
  unfold g92 cmpI
  simp only [tst_some, cond_false]
  by_cases h1 : a < b
  · rw [dt h1, if_pos h1]; rfl
  · rw [df h1, if_neg h1, cond_false]
    by_cases h2 : b < a
    · rw [dt (show a > b from h2), if_pos h2]; rfl
    · rw [df (show ¬ a > b from h2), if_neg h2]; rfl

/-! ### What laws do with configurations -/
abbrev Cg := Int × List Bk × List Vp
def big : Nat := 1000000000000
def top : Nat := 9223372036854775807
def wV (v : Vp) : Int := (v.2.2.2.length : Int)
def wC (c : Cg) : Int := (c.2.1.length : Int) + (c.2.2.length : Int) + sumW wV c.2.2
def okC (c : Cg) : Prop := c.2.1.length ≤ big ∧ c.2.2.length ≤ big ∧ ∀ v ∈ c.2.2, v.2.2.2.length ≤ big
instance (c : Cg) : Decidable (okC c) := by unfold okC; infer_instance
def okZ (c : Cg) : Prop := c.2.1.length ≤ top ∧ c.2.2.length ≤ top ∧ ∀ v ∈ c.2.2, v.2.2.2.length ≤ top
instance (c : Cg) : Decidable (okZ c) := by unfold okZ; infer_instance
theorem wV_nonneg (v : Vp) : 0 ≤ wV v := by unfold wV; omega

theorem szv_eq {v : Int} {n : Nat} (h0 : 0 ≤ v) (h1 : v ≤ 1048576) (hn : n ≤ top) : (bif decide (IntKind.wrap .i64 (v - (n : Int)) < 0) then some (-1) else some (IntKind.wrap .i64 (v - (n : Int)))) = some (szv v n) := by
  unfold top at hn
  rw [wi (by omega) (by omega)]
  unfold szv
  by_cases h : v - (n : Int) < 0
  · rw [dt h, if_pos h]; rfl
  · rw [df h, if_neg h]; rfl
def m83 (x : List Int × Int) : Option Int := if 0 ≤ x.2 ∧ x.2 ≤ 1048576 ∧ x.1.length ≤ top then some (szv x.2 x.1.length) else none
theorem sat83 : Sat prog cxT 83 (c83 m83) := s83 m83 fun x t h => by
  obtain ⟨a, v⟩ := x
  unfold m83 at h
  split at h
  · rename_i hc; cases h; exact ⟨0, szv_eq hc.1 hc.2.1 hc.2.2⟩
  · cases h
def m67 (x : Vp × Int) : Option Int := if 0 ≤ x.2 ∧ x.2 ≤ 1048576 ∧ x.1.2.2.2.length ≤ top then some (szv x.2 (wV x.1)) else none
theorem sat67 : Sat prog cxT 67 (c67 m67) := s67 m83 sat83 m67 fun x t h => by
  obtain ⟨⟨a, b, c, d⟩, v⟩ := x
  unfold m67 at h
  split at h
  · rename_i hc
    cases h
    refine ⟨0, ?_⟩
    show g67 m83 0 a b c d v = _
    unfold g67
    rw [show m83 (d, v) = some (szv v d.length) from if_pos hc, tst_some]
    show _ = some (szv v (d.length : Int))
    by_cases h : szv v (d.length : Int) < 0
    · rw [dt h]
      unfold szv at h ⊢
      split at h
      · rename_i h2; rw [if_pos h2]; rfl
      · omega
    · rw [df h]; rfl
  · cases h
def m46 (x : List Bk × Int) : Option Int := if 0 ≤ x.2 ∧ x.2 ≤ 1048576 ∧ x.1.length ≤ top then some (szv x.2 x.1.length) else none
theorem sat46 : Sat prog cxT 46 (c46 m46) := s46 m46 fun x t h => by
  obtain ⟨a, v⟩ := x
  unfold m46 at h
  split at h
  · rename_i hc; cases h; exact ⟨0, szv_eq hc.1 hc.2.1 hc.2.2⟩
  · cases h
def dVp : Vp := (0, 0, 0, [])
def dBk : Bk := (0, 0, 0, 0, false)
theorem el47 (L : Nat) (a : List Vp) (v0 : Int) : ∀ (n : Nat) (v i : Int) (k : Int → Option Int), l47_0 m67 L a v0 n v i k = szL dVp m67 a n v i k
  | 0, _, _, _ => rfl
  | n + 1, v, i, k => by
    unfold l47_0 szL
    simp only [el47 L a v0 n]
    rfl
def m47 (x : List Vp × Int) : Option Int := if 0 ≤ x.2 ∧ x.2 ≤ 1048576 ∧ x.1.length ≤ top ∧ ∀ v ∈ x.1, v.2.2.2.length ≤ top then some (szv x.2 ((x.1.length : Int) + sumW wV x.1)) else none
theorem sat47 : Sat prog cxT 47 (c47 m47) := s47 m67 sat67 m47 fun x t h => by
  obtain ⟨a, v⟩ := x
  unfold m47 at h
  split at h
  · rename_i hc
    obtain ⟨h0, h1, h2, h3⟩ := hc
    cases h
    simp only at h0 h1 h2 h3
    have h2' : a.length ≤ 9223372036854775807 := h2
    refine ⟨a.length + 1, ?_⟩
    show g47 m67 (a.length + 1) a v = some (szv v ((a.length : Int) + sumW wV a))
    unfold g47
    rw [wi (by omega) (by omega)]
    have hs : 0 ≤ sumW wV a := sumW_nonneg fun x _ => wV_nonneg x
    by_cases hn : v - (a.length : Int) < 0
    · rw [dt hn, cond_true]
      unfold szv
      rw [if_pos (by omega)]
    · rw [df hn, cond_false, el47]
      refine (szL_ok dVp m67 a wV 1048576 (by omega) (fun x _ => wV_nonneg x) (fun x hx v h0 h1 => if_pos ⟨h0, h1, h3 x hx⟩) _ (a.length + 1) 0 (v - a.length) (by omega) (by omega) (by omega) (by omega)).trans ?_
      rw [List.drop_zero]
      unfold szv
      have e : v - ((a.length : Int) + sumW wV a) = v - (a.length : Int) - sumW wV a := by omega
      rw [e]
      split <;> rfl
  · cases h
theorem szv_szv {v a b : Int} (ha : 0 ≤ a) (hb : 0 ≤ b) (hv : 0 ≤ v) : szv v (a + b) = if szv v a < 0 then -1 else szv (szv v a) b := by
  unfold szv
  by_cases h : v - a < 0
  · rw [if_pos h, if_pos (by omega), if_pos (by omega)]
  · rw [if_neg h, if_neg h, show v - (a + b) = v - a - b by omega]
theorem szv_range {v a : Int} (ha : 0 ≤ a) (hv : 0 ≤ v) : -1 ≤ szv v a ∧ szv v a ≤ v := by unfold szv; split <;> omega
def m23 (x : Cg × Int) : Option Int := if 0 ≤ x.2 ∧ x.2 ≤ 1048576 ∧ okZ x.1 then some (szv x.2 (wC x.1)) else none
theorem sat23 : Sat prog cxT 23 (c23 m23) := s23 m46 m47 sat46 sat47 m23 fun x t h => by
  obtain ⟨⟨a, b, c⟩, v⟩ := x
  unfold m23 at h
  split at h
  · rename_i hc
    obtain ⟨h0, h1, h2, h3, h4⟩ := hc
    cases h
    simp only at h0 h1 h2 h3 h4
    refine ⟨0, ?_⟩
    show g23 m46 m47 0 a b c v = some (szv v ((b.length : Int) + (c.length : Int) + sumW wV c))
    unfold g23
    have hs : 0 ≤ sumW wV c := sumW_nonneg fun x _ => wV_nonneg x
    have hr := szv_range (v := v) (a := (b.length : Int)) (by omega) h0
    rw [show m46 (b, v) = some (szv v b.length) from if_pos ⟨h0, h1, h2⟩, tst_some, Int.add_assoc, szv_szv (by omega) (by omega) h0]
    by_cases hn : szv v (b.length : Int) < 0
    · rw [dt hn, if_pos hn]; rfl
    · rw [df hn, if_neg hn, cond_false]
      rw [show m47 (c, szv v b.length) = some (szv (szv v b.length) ((c.length : Int) + sumW wV c)) from if_pos ⟨by omega, by simp only; omega, h3, h4⟩, tst_some]
      have hr2 := szv_range (v := szv v (b.length : Int)) (a := (c.length : Int) + sumW wV c) (by omega) (by omega)
      by_cases hn2 : szv (szv v (b.length : Int)) ((c.length : Int) + sumW wV c) < 0
      · rw [dt hn2, cond_true]; congr 1; omega
      · rw [df hn2]; rfl
  · cases h
theorem wC_small {c : Cg} (h : 0 ≤ szv 1048576 (wC c)) : c.2.1.length ≤ 1048576 ∧ c.2.2.length ≤ 1048576 ∧ ∀ x ∈ c.2.2, x.2.2.2.length ≤ 1048576 := by
  unfold szv at h
  have hs : 0 ≤ sumW wV c.2.2 := sumW_nonneg fun x _ => wV_nonneg x
  unfold wC at h
  split at h
  · omega
  · refine ⟨by omega, by omega, fun x hx => ?_⟩
    have := sumW_mem (w := wV) (l := c.2.2) (fun x _ => wV_nonneg x) x hx
    unfold wV at this hs h
    omega

end Go.Proofs.Tryz

set_option maxHeartbeats 0
set_option linter.unusedVariables false
set_option linter.unusedSimpArgs false
namespace Go.Proofs.Tryz
open Go Go.VM Go.RowKit

/-! ### Copies -/
def mid : Nat := 1000000000
theorem el84 (L : Nat) (a : List Int) : ∀ (n : Nat) (o : List Int) (i : Int) (k : List Int → Option (List Int)), l84_0 L a n o i k = toL 0 (fun x => some x) a n o i k
  | 0, _, _, _ => rfl
  | n + 1, o, i, k => by unfold l84_0 toL; simp only [el84 L a n, tst_some]
theorem make_ok {n : Nat} (h : n ≤ mid) : ((decide ((0 : Int) ≤ (n : Int)) && decide ((n : Int) ≤ (n : Int))) && decide ((n : Int) ≤ (1000000000 : Int))) = true := by
  unfold mid at h
  rw [dt (by omega), dt (Int.le_refl _), dt (by omega)]; rfl
def m84 (a : List Int) : Option (List Int) := if a.length ≤ mid then some a else none
theorem sat84 : Sat prog cxT 84 (c84 m84) := s84 m84 fun x t h => by
  unfold m84 at h
  split at h
  · rename_i ha
    cases h
    refine ⟨x.length + 1, ?_⟩
    unfold g84
    rw [make_ok ha, cond_true, el84, Int.toNat_natCast]
    unfold mid at ha
    exact toL_ok 0 _ x (by omega) (fun _ _ => rfl) _ _ 0 _ (by simp) (by omega) (by omega) rfl
  · cases h
def m72 (v : Vp) : Option Vp := if v.2.2.2.length ≤ mid then some v else none
theorem sat72 : Sat prog cxT 72 (c72 m72) := s72 m84 sat84 m72 fun x t h => by
  obtain ⟨a, b, c, d⟩ := x
  unfold m72 at h
  split at h
  · rename_i ha
    cases h
    refine ⟨0, ?_⟩
    show g72 m84 0 a b c d = _
    unfold g72
    rw [show m84 d = some d from if_pos ha, tst_some]
  · cases h
theorem el56 (L : Nat) (a : List Vp) : ∀ (n : Nat) (o : List Vp) (i : Int) (k : List Vp → Option (List Vp)), l56_0 m72 L a n o i k = toL dVp m72 a n o i k
  | 0, _, _, _ => rfl
  | n + 1, o, i, k => by unfold l56_0 toL; simp only [el56 L a n]; rfl
def m56 (a : List Vp) : Option (List Vp) := if a.length ≤ mid ∧ ∀ v ∈ a, v.2.2.2.length ≤ mid then some a else none
theorem sat56 : Sat prog cxT 56 (c56 m56) := s56 m72 sat72 m56 fun x t h => by
  unfold m56 at h
  split at h
  · rename_i ha
    cases h
    refine ⟨x.length + 1, ?_⟩
    unfold g56
    rw [make_ok ha.1, cond_true, el56, Int.toNat_natCast]
    have := ha.1
    unfold mid at this
    exact toL_ok dVp m72 x (by omega) (fun v hv => if_pos (ha.2 v hv)) _ _ 0 _ (by simp) (by omega) (by omega) rfl
  · cases h
theorem sat71 : Sat prog cxT 71 (c71 fun b => some b) := s71 _ fun x t h => by
  obtain ⟨a, b, c, d, e⟩ := x
  cases h
  exact ⟨0, rfl⟩
theorem el55 (L : Nat) (a : List Bk) : ∀ (n : Nat) (o : List Bk) (i : Int) (k : List Bk → Option (List Bk)), l55_0 (fun b => some b) L a n o i k = toL dBk (fun b => some b) a n o i k
  | 0, _, _, _ => rfl
  | n + 1, o, i, k => by unfold l55_0 toL; simp only [el55 L a n]; rfl
def m55 (a : List Bk) : Option (List Bk) := if a.length ≤ mid then some a else none
theorem sat55 : Sat prog cxT 55 (c55 m55) := s55 _ sat71 m55 fun x t h => by
  unfold m55 at h
  split at h
  · rename_i ha
    cases h
    refine ⟨x.length + 1, ?_⟩
    unfold g55
    rw [make_ok ha, cond_true, el55, Int.toNat_natCast]
    unfold mid at ha
    exact toL_ok dBk _ x (by omega) (fun v hv => rfl) _ _ 0 _ (by simp) (by omega) (by omega) rfl
  · cases h
def okM (c : Cg) : Prop := c.2.1.length ≤ mid ∧ c.2.2.length ≤ mid ∧ ∀ v ∈ c.2.2, v.2.2.2.length ≤ mid
instance (c : Cg) : Decidable (okM c) := by unfold okM; infer_instance
def m28 (c : Cg) : Option Cg := if okM c then some c else none
theorem sat28 : Sat prog cxT 28 (c28 m28) := s28 m55 m56 sat55 sat56 m28 fun x t h => by
  obtain ⟨a, b, c⟩ := x
  unfold m28 at h
  split at h
  · rename_i ha
    cases h
    refine ⟨0, ?_⟩
    show g28 m55 m56 0 a b c = _
    unfold g28
    rw [show m55 b = some b from if_pos ha.1, tst_some, show m56 c = some c from if_pos ha.2, tst_some]
  · cases h

/-! ### Comparisons -/
theorem bifeq {α : Type} [DecidableEq α] [BEq α] [LawfulBEq α] {a b : α} {o : Option Bool} {p : Prop} [Decidable p] (h : a = b → o = some (decide p)) (h2 : ¬ a = b → ¬ p) : (bif a != b then some false else o) = some (decide p) := by
  by_cases e : a = b
  · rw [bneF e, cond_false, h e]
  · rw [bneT e, cond_true, df (h2 e)]
theorem el107 (L : Nat) (a b : List Int) : ∀ (n : Nat) (i : Int) (k : Option Bool), l107_0 L a b n i k = eqL 0 (fun x => some (decide (x.1 = x.2))) a b n i k
  | 0, _, _ => rfl
  | n + 1, i, k => by
    unfold l107_0 eqL
    simp only [el107 L a b n, tst_some]
    congr 2
def m107 (x : List Int × List Int) : Option Bool := if x.1.length ≤ big then some (decide (x.1 = x.2)) else none
theorem sat107 : Sat prog cxT 107 (c107 m107) := s107 m107 fun x t h => by
  obtain ⟨a, b⟩ := x
  unfold m107 at h
  split at h
  · rename_i hc
    cases h
    have hc : a.length ≤ 1000000000000 := hc
    refine ⟨a.length + 1, ?_⟩
    show g107 (a.length + 1) a b = some (decide (a = b))
    unfold g107
    refine bifeq (fun e => ?_) fun e h => e (by rw [h])
    rw [el107]
    refine (eqL_ok 0 _ a b (by omega) (by omega) (fun _ _ _ _ => rfl) _ _ 0 (by omega) (by omega)).trans ?_
    simp only [List.drop_zero]
    split <;> rename_i hh <;> simp [hh]
  · cases h
def m80 (x : Vp × Vp) : Option Bool := if x.1.2.2.2.length ≤ big then some (decide (x.1 = x.2)) else none
theorem bifn {b : Bool} : (bif !b then some false else some true) = some b := by cases b <;> rfl
theorem sat80 : Sat prog cxT 80 (c80 m80) := s80 m107 sat107 m80 fun x t h => by
  obtain ⟨⟨a, b, c, d⟩, a', b', c', d'⟩ := x
  unfold m80 at h
  split at h
  · rename_i hc
    cases h
    refine ⟨0, ?_⟩
    show g80 m107 0 a b c d a' b' c' d' = some (decide ((a, b, c, d) = (a', b', c', d')))
    unfold g80
    rw [show m107 (d, d') = some (decide (d = d')) from if_pos hc, tst_some]
    refine bifeq (fun e1 => bifeq (fun e2 => bifeq (fun e3 => ?_) ?_) ?_) ?_
    · rw [bifn]; simp [e1, e2, e3]
    · intro e h; simp at h; exact e h.2.2.1
    · intro e h; simp at h; exact e h.2.1
    · intro e h; simp at h; exact e h.1
  · cases h
theorem el61 (L : Nat) (a b : List Vp) : ∀ (n : Nat) (i : Int) (k : Option Bool), l61_0 m80 L a b n i k = eqL dVp m80 a b n i k
  | 0, _, _ => rfl
  | n + 1, i, k => by unfold l61_0 eqL; simp only [el61 L a b n]; rfl
def m61 (x : List Vp × List Vp) : Option Bool := if x.1.length ≤ big ∧ ∀ v ∈ x.1, v.2.2.2.length ≤ big then some (decide (x.1 = x.2)) else none
theorem sat61 : Sat prog cxT 61 (c61 m61) := s61 m80 sat80 m61 fun x t h => by
  obtain ⟨a, b⟩ := x
  unfold m61 at h
  split at h
  · rename_i hc
    cases h
    have hc1 : a.length ≤ 1000000000000 := hc.1
    refine ⟨a.length + 1, ?_⟩
    show g61 m80 (a.length + 1) a b = some (decide (a = b))
    unfold g61
    refine bifeq (fun e => ?_) fun e h => e (by rw [h])
    rw [el61]
    refine (eqL_ok dVp _ a b (by omega) (by omega) (fun x hx y _ => if_pos (hc.2 x hx)) _ _ 0 (by omega) (by omega)).trans ?_
    simp only [List.drop_zero]
    split <;> rename_i hh <;> simp [hh]
  · cases h
theorem sat79 : Sat prog cxT 79 (c79 fun x => some (decide (x.1 = x.2))) := s79 _ fun x t h => by
  obtain ⟨⟨a, b, c, d, e⟩, a', b', c', d', e'⟩ := x
  cases h
  refine ⟨0, ?_⟩
  show g79 0 a b c d e a' b' c' d' e' = some (decide ((a, b, c, d, e) = (a', b', c', d', e')))
  unfold g79
  refine bifeq (fun e1 => bifeq (fun e2 => bifeq (fun e3 => bifeq (fun e4 => ?_) ?_) ?_) ?_) ?_
  · rw [bifn]; subst e1; subst e2; subst e3; subst e4; cases e <;> cases e' <;> simp
  · intro e h; simp at h; exact e h.2.2.2.1
  · intro e h; simp at h; exact e h.2.2.1
  · intro e h; simp at h; exact e h.2.1
  · intro e h; simp at h; exact e h.1
theorem el60 (L : Nat) (a b : List Bk) : ∀ (n : Nat) (i : Int) (k : Option Bool), l60_0 (fun x => some (decide (x.1 = x.2))) L a b n i k = eqL dBk (fun x => some (decide (x.1 = x.2))) a b n i k
  | 0, _, _ => rfl
  | n + 1, i, k => by unfold l60_0 eqL; simp only [el60 L a b n]; rfl
def m60 (x : List Bk × List Bk) : Option Bool := if x.1.length ≤ big then some (decide (x.1 = x.2)) else none
theorem sat60 : Sat prog cxT 60 (c60 m60) := s60 _ sat79 m60 fun x t h => by
  obtain ⟨a, b⟩ := x
  unfold m60 at h
  split at h
  · rename_i hc
    cases h
    have hc1 : a.length ≤ 1000000000000 := hc
    refine ⟨a.length + 1, ?_⟩
    show g60 _ (a.length + 1) a b = some (decide (a = b))
    unfold g60
    refine bifeq (fun e => ?_) fun e h => e (by rw [h])
    rw [el60]
    refine (eqL_ok dBk _ a b (by omega) (by omega) (fun x hx y _ => rfl) _ _ 0 (by omega) (by omega)).trans ?_
    simp only [List.drop_zero]
    split <;> rename_i hh <;> simp [hh]
  · cases h
instance decBk : DecidableEq Bk := inferInstance
instance decVp : DecidableEq Vp := inferInstance
instance decLs : DecidableEq (List Bk × List Vp) := @instDecidableEqProd _ _ (@instDecidableEqList _ decBk) (@instDecidableEqList _ decVp)
instance decCg : DecidableEq Cg := @instDecidableEqProd _ _ inferInstance decLs
def m32 (x : Cg × Cg) : Option Bool := if okC x.1 then some (decide (x.1 = x.2)) else none
theorem sat32 : Sat prog cxT 32 (c32 m32) := s32 m60 m61 sat60 sat61 m32 fun x t h => by
  obtain ⟨⟨a, b, c⟩, a', b', c'⟩ := x
  unfold m32 at h
  split at h
  · rename_i hc
    cases h
    refine ⟨0, ?_⟩
    show g32 m60 m61 0 a b c a' b' c' = some (decide ((a, b, c) = (a', b', c')))
    unfold g32
    rw [show m60 (b, b') = some (decide (b = b')) from if_pos hc.1, tst_some, show m61 (c, c') = some (decide (c = c')) from if_pos hc.2, tst_some]
    refine bifeq (fun e1 => ?_) ?_
    · subst e1
      by_cases e2 : b = b' <;> by_cases e3 : c = c' <;> simp [e2, e3]
    · intro e h; simp at h; exact e h.1
  · cases h
end Go.Proofs.Tryz
