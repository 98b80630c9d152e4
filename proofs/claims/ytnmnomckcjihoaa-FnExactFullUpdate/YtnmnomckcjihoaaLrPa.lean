/- A part of the proof of FnExactFullUpdate: LrPa, LrPb. -/
import Derived.Test.YtnmnomckcjihoaaVmPl
import Derived.Test.YtnmnomckcjihoaaLrFa
import Derived.Test.YtnmnomckcjihoaaLrFc
import Derived.Test.YtnmnomckcjihoaaLrFd
import Derived.Test.YtnmnomckcjihoaaLrFe
set_option linter.unusedVariables false
set_option maxHeartbeats 0
set_option linter.unusedVariables false
set_option linter.unusedSimpArgs false
namespace Go.Proofs.Try
open Go Go.VM Go.RowKit

/-! ### Numbers -/
def nmOk (x : Int) : Bool := decide (1 ≤ x ∧ x ≤ 999)
def adOk (x : Int) : Bool := decide (0 ≤ x ∧ x ≤ 4294967295)
def wtOk (x : Int) : Bool := decide (0 ≤ x ∧ x ≤ 9)
def stOk (x : Int) : Bool := decide (1 ≤ x ∧ x ≤ 3)
def ptOk (x : Int) : Bool := decide (0 ≤ x ∧ x ≤ 65535)
def prOk (x : Int) : Bool := decide (x = 6 ∨ x = 17)
def vrOk (x : Int) : Bool := decide (0 ≤ x ∧ x ≤ 1000000)

theorem bif_and {a b : Int} {x : Int} : (bif decide (x ≥ a) then some (decide (x ≤ b)) else some false) = some (decide (a ≤ x ∧ x ≤ b)) := by
  by_cases h : a ≤ x
  · rw [dt (show x ≥ a from h)]; simp [h]
  · rw [df (show ¬ x ≥ a from h)]; simp [h]
theorem bif_or {a b : Int} {x : Int} : (bif x == a then some true else some (x == b)) = some (decide (x = a ∨ x = b)) := by
  by_cases h : x = a
  · simp [h]
  · rw [beq_eq_false_iff_ne.2 h, cond_false]
    by_cases h2 : x = b
    · rw [beq_iff_eq.2 h2, dt (.inr h2)]
    · rw [beq_eq_false_iff_ne.2 h2, df (by rintro (h3 | h3) <;> contradiction)]
theorem sat55 : Sat prog cxT 55 (c55 fun x => some (decide (x.2.1 ≤ x.1 ∧ x.1 ≤ x.2.2))) := s55 _ fun x t h => by
  obtain ⟨x, a, b⟩ := x
  cases h
  exact ⟨0, bif_and⟩
theorem sat62 : Sat prog cxT 62 (c62 fun x => some (nmOk x)) := s62 _ fun x t h => by cases h; exact ⟨0, bif_and⟩
theorem sat64 : Sat prog cxT 64 (c64 fun x => some (wtOk x)) := s64 _ fun x t h => by cases h; exact ⟨0, bif_and⟩
theorem sat39 : Sat prog cxT 39 (c39 fun x => some (vrOk x)) := s39 _ fun x t h => by cases h; exact ⟨0, bif_and⟩
theorem sat63 : Sat prog cxT 63 (c63 fun x => some (adOk x)) := s63 _ fun x t h => by cases h; exact ⟨0, bif_and⟩
theorem sat65 : Sat prog cxT 65 (c65 fun x => some (stOk x)) := s65 _ fun x t h => by cases h; exact ⟨0, bif_and⟩
theorem sat66 : Sat prog cxT 66 (c66 fun x => some (ptOk x)) := s66 _ fun x t h => by cases h; exact ⟨0, bif_and⟩
theorem sat67 : Sat prog cxT 67 (c67 fun x => some (prOk x)) := s67 _ fun x t h => by cases h; exact ⟨0, bif_or⟩
theorem sat36 : Sat prog cxT 36 (c36 fun x => some (vrOk x)) := s36 _ sat55 _ fun x t h => by cases h; exact ⟨0, rfl⟩
theorem sat56 : Sat prog cxT 56 (c56 fun x => some (nmOk x)) := s56 _ sat55 _ fun x t h => by cases h; exact ⟨0, rfl⟩
theorem sat57 : Sat prog cxT 57 (c57 fun x => some (adOk x)) := s57 _ sat55 _ fun x t h => by cases h; exact ⟨0, rfl⟩
theorem sat59 : Sat prog cxT 59 (c59 fun x => some (prOk x)) := s59 _ fun x t h => by cases h; exact ⟨0, bif_or⟩
theorem sat58 : Sat prog cxT 58 (c58 fun x => some (ptOk x)) := s58 _ sat55 _ fun x t h => by cases h; exact ⟨0, rfl⟩
theorem sat80 : Sat prog cxT 80 (c80 fun _ => some false) := s80 _ fun x t h => by
  cases h
  refine ⟨0, ?_⟩
  unfold g80; simp
theorem sat69 : Sat prog cxT 69 (c69 fun x => some (cmpI x.1 x.2)) := s69 _ sat80 _ fun x t h => by
  obtain ⟨a, b⟩ := x
  cases h
  refine ⟨0, ?_⟩
  show g69 (fun _ => some false) 0 a b = some (cmpI a b)
  unfold g69 cmpI
  simp only [tst_some, cond_false]
  by_cases h1 : a < b
  · rw [dt h1, if_pos h1]; rfl
  · rw [df h1, if_neg h1, cond_false]
    by_cases h2 : b < a
    · rw [dt (show a > b from h2), if_pos h2]; rfl
    · rw [df (show ¬ a > b from h2), if_neg h2]; rfl

/-! ### What laws do with configurations -/
def big : Nat := 1000000000000
def top : Nat := 9223372036854775807
def wV (v : Vp) : Int := (v.2.2.2.length : Int)
def wC (c : Cg) : Int := (c.2.1.length : Int) + (c.2.2.length : Int) + sumW wV c.2.2
def okC (c : Cg) : Prop := c.2.1.length ≤ big ∧ c.2.2.length ≤ big ∧ ∀ v ∈ c.2.2, v.2.2.2.length ≤ big
instance (c : Cg) : Decidable (okC c) := by unfold okC; infer_instance
def okZ (c : Cg) : Prop := c.2.1.length ≤ top ∧ c.2.2.length ≤ top ∧ ∀ v ∈ c.2.2, v.2.2.2.length ≤ top
instance (c : Cg) : Decidable (okZ c) := by unfold okZ; infer_instance
theorem wV_nonneg (v : Vp) : 0 ≤ wV v := by unfold wV; omega

theorem szv_eq {v : Int} {n : Nat} (h0 : 0 ≤ v) (h1 : v ≤ 1048576) (hn : n ≤ top) : (bif decide (IntKind.wrap .i64 (v - (n : Int)) < 0) then some (-1) else some (IntKind.wrap .i64 (v - (n : Int)))) = some (szv v n) := by
  unfold top at hn
  rw [wi (by omega) (by omega)]
  unfold szv
  by_cases h : v - (n : Int) < 0
  · rw [dt h, if_pos h]; rfl
  · rw [df h, if_neg h]; rfl
def m74 (x : List Int × Int) : Option Int := if 0 ≤ x.2 ∧ x.2 ≤ 1048576 ∧ x.1.length ≤ top then some (szv x.2 x.1.length) else none
theorem sat74 : Sat prog cxT 74 (c74 m74) := s74 m74 fun x t h => by
  obtain ⟨a, v⟩ := x
  unfold m74 at h
  split at h
  · rename_i hc; cases h; exact ⟨0, szv_eq hc.1 hc.2.1 hc.2.2⟩
  · cases h
def m45 (x : Vp × Int) : Option Int := if 0 ≤ x.2 ∧ x.2 ≤ 1048576 ∧ x.1.2.2.2.length ≤ top then some (szv x.2 (wV x.1)) else none
theorem sat45 : Sat prog cxT 45 (c45 m45) := s45 m74 sat74 m45 fun x t h => by
  obtain ⟨⟨a, b, c, d⟩, v⟩ := x
  unfold m45 at h
  split at h
  · rename_i hc
    cases h
    refine ⟨0, ?_⟩
    show g45 m74 0 a b c d v = _
    unfold g45
    rw [show m74 (d, v) = some (szv v d.length) from if_pos hc, tst_some]
    show _ = some (szv v (d.length : Int))
    by_cases h : szv v (d.length : Int) < 0
    · rw [dt h]
      unfold szv at h ⊢
      split at h
      · rename_i h2; rw [if_pos h2]; rfl
      · omega
    · rw [df h]; rfl
  · cases h
def m23 (x : List Bk × Int) : Option Int := if 0 ≤ x.2 ∧ x.2 ≤ 1048576 ∧ x.1.length ≤ top then some (szv x.2 x.1.length) else none
theorem sat23 : Sat prog cxT 23 (c23 m23) := s23 m23 fun x t h => by
  obtain ⟨a, v⟩ := x
  unfold m23 at h
  split at h
  · rename_i hc; cases h; exact ⟨0, szv_eq hc.1 hc.2.1 hc.2.2⟩
  · cases h
def dVp : Vp := (0, 0, 0, [])
def dBk : Bk := (0, 0, 0, 0, false)
theorem el24 (L : Nat) (a : List Vp) (v0 : Int) : ∀ (n : Nat) (v i : Int) (k : Int → Option Int), l24_0 m45 L a v0 n v i k = szL dVp m45 a n v i k
  | 0, _, _, _ => rfl
  | n + 1, v, i, k => by
    unfold l24_0 szL
    simp only [el24 L a v0 n]
    rfl
def m24 (x : List Vp × Int) : Option Int := if 0 ≤ x.2 ∧ x.2 ≤ 1048576 ∧ x.1.length ≤ top ∧ ∀ v ∈ x.1, v.2.2.2.length ≤ top then some (szv x.2 ((x.1.length : Int) + sumW wV x.1)) else none
theorem sat24 : Sat prog cxT 24 (c24 m24) := s24 m45 sat45 m24 fun x t h => by
  obtain ⟨a, v⟩ := x
  unfold m24 at h
  split at h
  · rename_i hc
    obtain ⟨h0, h1, h2, h3⟩ := hc
    cases h
    simp only at h0 h1 h2 h3
    have h2' : a.length ≤ 9223372036854775807 := h2
    refine ⟨a.length + 1, ?_⟩
    show g24 m45 (a.length + 1) a v = some (szv v ((a.length : Int) + sumW wV a))
    unfold g24
    rw [wi (by omega) (by omega)]
    have hs : 0 ≤ sumW wV a := sumW_nonneg fun x _ => wV_nonneg x
    by_cases hn : v - (a.length : Int) < 0
    · rw [dt hn, cond_true]
      unfold szv
      rw [if_pos (by omega)]
    · rw [df hn, cond_false, el24]
      refine (szL_ok dVp m45 a wV 1048576 (by omega) (fun x _ => wV_nonneg x) (fun x hx v h0 h1 => if_pos ⟨h0, h1, h3 x hx⟩) _ (a.length + 1) 0 (v - a.length) (by omega) (by omega) (by omega) (by omega)).trans ?_
      rw [List.drop_zero]
      unfold szv
      have e : v - ((a.length : Int) + sumW wV a) = v - (a.length : Int) - sumW wV a := by omega
      rw [e]
      split <;> rfl
  · cases h
theorem szv_szv {v a b : Int} (ha : 0 ≤ a) (hb : 0 ≤ b) (hv : 0 ≤ v) : szv v (a + b) = if szv v a < 0 then -1 else szv (szv v a) b := by
  unfold szv
  by_cases h : v - a < 0
  · rw [if_pos h, if_pos (by omega), if_pos (by omega)]
  · rw [if_neg h, if_neg h, show v - (a + b) = v - a - b by omega]
theorem szv_range {v a : Int} (ha : 0 ≤ a) (hv : 0 ≤ v) : -1 ≤ szv v a ∧ szv v a ≤ v := by unfold szv; split <;> omega
def m10 (x : Cg × Int) : Option Int := if 0 ≤ x.2 ∧ x.2 ≤ 1048576 ∧ okZ x.1 then some (szv x.2 (wC x.1)) else none
theorem sat10 : Sat prog cxT 10 (c10 m10) := s10 m23 m24 sat23 sat24 m10 fun x t h => by
  obtain ⟨⟨a, b, c⟩, v⟩ := x
  unfold m10 at h
  split at h
  · rename_i hc
    obtain ⟨h0, h1, h2, h3, h4⟩ := hc
    cases h
    simp only at h0 h1 h2 h3 h4
    refine ⟨0, ?_⟩
    show g10 m23 m24 0 a b c v = some (szv v ((b.length : Int) + (c.length : Int) + sumW wV c))
    unfold g10
    have hs : 0 ≤ sumW wV c := sumW_nonneg fun x _ => wV_nonneg x
    have hr := szv_range (v := v) (a := (b.length : Int)) (by omega) h0
    rw [show m23 (b, v) = some (szv v b.length) from if_pos ⟨h0, h1, h2⟩, tst_some, Int.add_assoc, szv_szv (by omega) (by omega) h0]
    by_cases hn : szv v (b.length : Int) < 0
    · rw [dt hn, if_pos hn]; rfl
    · rw [df hn, if_neg hn, cond_false]
      rw [show m24 (c, szv v b.length) = some (szv (szv v b.length) ((c.length : Int) + sumW wV c)) from if_pos ⟨by omega, by simp only; omega, h3, h4⟩, tst_some]
      have hr2 := szv_range (v := szv v (b.length : Int)) (a := (c.length : Int) + sumW wV c) (by omega) (by omega)
      by_cases hn2 : szv (szv v (b.length : Int)) ((c.length : Int) + sumW wV c) < 0
      · rw [dt hn2, cond_true]; congr 1; omega
      · rw [df hn2]; rfl
  · cases h
theorem wC_small {c : Cg} (h : 0 ≤ szv 1048576 (wC c)) : c.2.1.length ≤ 1048576 ∧ c.2.2.length ≤ 1048576 ∧ ∀ x ∈ c.2.2, x.2.2.2.length ≤ 1048576 := by
  unfold szv at h
  have hs : 0 ≤ sumW wV c.2.2 := sumW_nonneg fun x _ => wV_nonneg x
  unfold wC at h
  split at h
  · omega
  · refine ⟨by omega, by omega, fun x hx => ?_⟩
    have := sumW_mem (w := wV) (l := c.2.2) (fun x _ => wV_nonneg x) x hx
    unfold wV at this hs h
    omega

end Go.Proofs.Try

set_option maxHeartbeats 0
set_option linter.unusedVariables false
set_option linter.unusedSimpArgs false
namespace Go.Proofs.Try
open Go Go.VM Go.RowKit

/-! ### Copies -/
def mid : Nat := 1000000000
theorem el75 (L : Nat) (a : List Int) : ∀ (n : Nat) (o : List Int) (i : Int) (k : List Int → Option (List Int)), l75_0 L a n o i k = toL 0 (fun x => some x) a n o i k
  | 0, _, _, _ => rfl
  | n + 1, o, i, k => by unfold l75_0 toL; simp only [el75 L a n, tst_some]
theorem make_ok {n : Nat} (h : n ≤ mid) : ((decide ((0 : Int) ≤ (n : Int)) && decide ((n : Int) ≤ (n : Int))) && decide ((n : Int) ≤ (1000000000 : Int))) = true := by
  unfold mid at h
  rw [dt (by omega), dt (Int.le_refl _), dt (by omega)]; rfl
def m75 (a : List Int) : Option (List Int) := if a.length ≤ mid then some a else none
theorem sat75 : Sat prog cxT 75 (c75 m75) := s75 m75 fun x t h => by
  unfold m75 at h
  split at h
  · rename_i ha
    cases h
    refine ⟨x.length + 1, ?_⟩
    unfold g75
    rw [make_ok ha, cond_true, el75, Int.toNat_natCast]
    unfold mid at ha
    exact toL_ok 0 _ x (by omega) (fun _ _ => rfl) _ _ 0 _ (by simp) (by omega) (by omega) rfl
  · cases h
def m47 (v : Vp) : Option Vp := if v.2.2.2.length ≤ mid then some v else none
theorem sat47 : Sat prog cxT 47 (c47 m47) := s47 m75 sat75 m47 fun x t h => by
  obtain ⟨a, b, c, d⟩ := x
  unfold m47 at h
  split at h
  · rename_i ha
    cases h
    refine ⟨0, ?_⟩
    show g47 m75 0 a b c d = _
    unfold g47
    rw [show m75 d = some d from if_pos ha, tst_some]
  · cases h
theorem el27 (L : Nat) (a : List Vp) : ∀ (n : Nat) (o : List Vp) (i : Int) (k : List Vp → Option (List Vp)), l27_0 m47 L a n o i k = toL dVp m47 a n o i k
  | 0, _, _, _ => rfl
  | n + 1, o, i, k => by unfold l27_0 toL; simp only [el27 L a n]; rfl
def m27 (a : List Vp) : Option (List Vp) := if a.length ≤ mid ∧ ∀ v ∈ a, v.2.2.2.length ≤ mid then some a else none
theorem sat27 : Sat prog cxT 27 (c27 m27) := s27 m47 sat47 m27 fun x t h => by
  unfold m27 at h
  split at h
  · rename_i ha
    cases h
    refine ⟨x.length + 1, ?_⟩
    unfold g27
    rw [make_ok ha.1, cond_true, el27, Int.toNat_natCast]
    have := ha.1
    unfold mid at this
    exact toL_ok dVp m47 x (by omega) (fun v hv => if_pos (ha.2 v hv)) _ _ 0 _ (by simp) (by omega) (by omega) rfl
  · cases h
theorem sat46 : Sat prog cxT 46 (c46 fun b => some b) := s46 _ fun x t h => by
  obtain ⟨a, b, c, d, e⟩ := x
  cases h
  exact ⟨0, rfl⟩
theorem el26 (L : Nat) (a : List Bk) : ∀ (n : Nat) (o : List Bk) (i : Int) (k : List Bk → Option (List Bk)), l26_0 (fun b => some b) L a n o i k = toL dBk (fun b => some b) a n o i k
  | 0, _, _, _ => rfl
  | n + 1, o, i, k => by unfold l26_0 toL; simp only [el26 L a n]; rfl
def m26 (a : List Bk) : Option (List Bk) := if a.length ≤ mid then some a else none
theorem sat26 : Sat prog cxT 26 (c26 m26) := s26 _ sat46 m26 fun x t h => by
  unfold m26 at h
  split at h
  · rename_i ha
    cases h
    refine ⟨x.length + 1, ?_⟩
    unfold g26
    rw [make_ok ha, cond_true, el26, Int.toNat_natCast]
    unfold mid at ha
    exact toL_ok dBk _ x (by omega) (fun v hv => rfl) _ _ 0 _ (by simp) (by omega) (by omega) rfl
  · cases h
def okM (c : Cg) : Prop := c.2.1.length ≤ mid ∧ c.2.2.length ≤ mid ∧ ∀ v ∈ c.2.2, v.2.2.2.length ≤ mid
instance (c : Cg) : Decidable (okM c) := by unfold okM; infer_instance
def m12 (c : Cg) : Option Cg := if okM c then some c else none
theorem sat12 : Sat prog cxT 12 (c12 m12) := s12 m26 m27 sat26 sat27 m12 fun x t h => by
  obtain ⟨a, b, c⟩ := x
  unfold m12 at h
  split at h
  · rename_i ha
    cases h
    refine ⟨0, ?_⟩
    show g12 m26 m27 0 a b c = _
    unfold g12
    rw [show m26 b = some b from if_pos ha.1, tst_some, show m27 c = some c from if_pos ha.2, tst_some]
  · cases h

/-! ### Comparisons -/
theorem bifeq {α : Type} [DecidableEq α] [BEq α] [LawfulBEq α] {a b : α} {o : Option Bool} {p : Prop} [Decidable p] (h : a = b → o = some (decide p)) (h2 : ¬ a = b → ¬ p) : (bif a != b then some false else o) = some (decide p) := by
  by_cases e : a = b
  · rw [bneF e, cond_false, h e]
  · rw [bneT e, cond_true, df (h2 e)]
theorem el77 (L : Nat) (a b : List Int) : ∀ (n : Nat) (i : Int) (k : Option Bool), l77_0 L a b n i k = eqL 0 (fun x => some (decide (x.1 = x.2))) a b n i k
  | 0, _, _ => rfl
  | n + 1, i, k => by
    unfold l77_0 eqL
    simp only [el77 L a b n, tst_some]
    congr 2
def m77 (x : List Int × List Int) : Option Bool := if x.1.length ≤ big then some (decide (x.1 = x.2)) else none
theorem sat77 : Sat prog cxT 77 (c77 m77) := s77 m77 fun x t h => by
  obtain ⟨a, b⟩ := x
  unfold m77 at h
  split at h
  · rename_i hc
    cases h
    have hc : a.length ≤ 1000000000000 := hc
    refine ⟨a.length + 1, ?_⟩
    show g77 (a.length + 1) a b = some (decide (a = b))
    unfold g77
    refine bifeq (fun e => ?_) fun e h => e (by rw [h])
    rw [el77]
    refine (eqL_ok 0 _ a b (by omega) (by omega) (fun _ _ _ _ => rfl) _ _ 0 (by omega) (by omega)).trans ?_
    simp only [List.drop_zero]
    split <;> rename_i hh <;> simp [hh]
  · cases h
def m50 (x : Vp × Vp) : Option Bool := if x.1.2.2.2.length ≤ big then some (decide (x.1 = x.2)) else none
theorem bifn {b : Bool} : (bif !b then some false else some true) = some b := by cases b <;> rfl
theorem sat50 : Sat prog cxT 50 (c50 m50) := s50 m77 sat77 m50 fun x t h => by
  obtain ⟨⟨a, b, c, d⟩, a', b', c', d'⟩ := x
  unfold m50 at h
  split at h
  · rename_i hc
    cases h
    refine ⟨0, ?_⟩
    show g50 m77 0 a b c d a' b' c' d' = some (decide ((a, b, c, d) = (a', b', c', d')))
    unfold g50
    rw [show m77 (d, d') = some (decide (d = d')) from if_pos hc, tst_some]
    refine bifeq (fun e1 => bifeq (fun e2 => bifeq (fun e3 => ?_) ?_) ?_) ?_
    · rw [bifn]; simp [e1, e2, e3]
    · intro e h; simp at h; exact e h.2.2.1
    · intro e h; simp at h; exact e h.2.1
    · intro e h; simp at h; exact e h.1
  · cases h
theorem el31 (L : Nat) (a b : List Vp) : ∀ (n : Nat) (i : Int) (k : Option Bool), l31_0 m50 L a b n i k = eqL dVp m50 a b n i k
  | 0, _, _ => rfl
  | n + 1, i, k => by unfold l31_0 eqL; simp only [el31 L a b n]; rfl
def m31 (x : List Vp × List Vp) : Option Bool := if x.1.length ≤ big ∧ ∀ v ∈ x.1, v.2.2.2.length ≤ big then some (decide (x.1 = x.2)) else none
theorem sat31 : Sat prog cxT 31 (c31 m31) := s31 m50 sat50 m31 fun x t h => by
  obtain ⟨a, b⟩ := x
  unfold m31 at h
  split at h
  · rename_i hc
    cases h
    have hc1 : a.length ≤ 1000000000000 := hc.1
    refine ⟨a.length + 1, ?_⟩
    show g31 m50 (a.length + 1) a b = some (decide (a = b))
    unfold g31
    refine bifeq (fun e => ?_) fun e h => e (by rw [h])
    rw [el31]
    refine (eqL_ok dVp _ a b (by omega) (by omega) (fun x hx y _ => if_pos (hc.2 x hx)) _ _ 0 (by omega) (by omega)).trans ?_
    simp only [List.drop_zero]
    split <;> rename_i hh <;> simp [hh]
  · cases h
theorem sat49 : Sat prog cxT 49 (c49 fun x => some (decide (x.1 = x.2))) := s49 _ fun x t h => by
  obtain ⟨⟨a, b, c, d, e⟩, a', b', c', d', e'⟩ := x
  cases h
  refine ⟨0, ?_⟩
  show g49 0 a b c d e a' b' c' d' e' = some (decide ((a, b, c, d, e) = (a', b', c', d', e')))
  unfold g49
  refine bifeq (fun e1 => bifeq (fun e2 => bifeq (fun e3 => bifeq (fun e4 => ?_) ?_) ?_) ?_) ?_
  · rw [bifn]; subst e1; subst e2; subst e3; subst e4; cases e <;> cases e' <;> simp
  · intro e h; simp at h; exact e h.2.2.2.1
  · intro e h; simp at h; exact e h.2.2.1
  · intro e h; simp at h; exact e h.2.1
  · intro e h; simp at h; exact e h.1
theorem el30 (L : Nat) (a b : List Bk) : ∀ (n : Nat) (i : Int) (k : Option Bool), l30_0 (fun x => some (decide (x.1 = x.2))) L a b n i k = eqL dBk (fun x => some (decide (x.1 = x.2))) a b n i k
  | 0, _, _ => rfl
  | n + 1, i, k => by unfold l30_0 eqL; simp only [el30 L a b n]; rfl
def m30 (x : List Bk × List Bk) : Option Bool := if x.1.length ≤ big then some (decide (x.1 = x.2)) else none
theorem sat30 : Sat prog cxT 30 (c30 m30) := s30 _ sat49 m30 fun x t h => by
  obtain ⟨a, b⟩ := x
  unfold m30 at h
  split at h
  · rename_i hc
    cases h
    have hc1 : a.length ≤ 1000000000000 := hc
    refine ⟨a.length + 1, ?_⟩
    show g30 _ (a.length + 1) a b = some (decide (a = b))
    unfold g30
    refine bifeq (fun e => ?_) fun e h => e (by rw [h])
    rw [el30]
    refine (eqL_ok dBk _ a b (by omega) (by omega) (fun x hx y _ => rfl) _ _ 0 (by omega) (by omega)).trans ?_
    simp only [List.drop_zero]
    split <;> rename_i hh <;> simp [hh]
  · cases h
instance decBk : DecidableEq Bk := inferInstance
instance decVp : DecidableEq Vp := inferInstance
instance decLs : DecidableEq (List Bk × List Vp) := @instDecidableEqProd _ _ (@instDecidableEqList _ decBk) (@instDecidableEqList _ decVp)
instance decCg : DecidableEq Cg := @instDecidableEqProd _ _ inferInstance decLs
def m15 (x : Cg × Cg) : Option Bool := if okC x.1 then some (decide (x.1 = x.2)) else none
theorem sat15 : Sat prog cxT 15 (c15 m15) := s15 m30 m31 sat30 sat31 m15 fun x t h => by
  obtain ⟨⟨a, b, c⟩, a', b', c'⟩ := x
  unfold m15 at h
  split at h
  · rename_i hc
    cases h
    refine ⟨0, ?_⟩
    show g15 m30 m31 0 a b c a' b' c' = some (decide ((a, b, c) = (a', b', c')))
    unfold g15
    rw [show m30 (b, b') = some (decide (b = b')) from if_pos hc.1, tst_some, show m31 (c, c') = some (decide (c = c')) from if_pos hc.2, tst_some]
    refine bifeq (fun e1 => ?_) ?_
    · subst e1
      by_cases e2 : b = b' <;> by_cases e3 : c = c' <;> simp [e2, e3]
    · intro e h; simp at h; exact e h.1
  · cases h
end Go.Proofs.Try
