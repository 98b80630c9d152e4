/- A part of the proof of FnExactPackConfig: L6Pa, L6Pc, L6Pe, L6Ph. -/
import Derived.Test.YthfopihmealhkaaVmPl
import Derived.Test.YthfopihmealhkaaL6Fa
import Derived.Test.YthfopihmealhkaaL6Fd
set_option maxHeartbeats 0
set_option linter.unusedVariables false
set_option linter.unusedSimpArgs false
namespace Go.Proofs.Try
open Go Go.VM Go.RowKit

abbrev Bk := Int × Int × Int × Int × Bool
abbrev Vp := Int × Int × Int × List Int

/-! ### Numbers -/
def nmOk (x : Int) : Bool := decide (1 ≤ x ∧ x ≤ 999)
def adOk (x : Int) : Bool := decide (0 ≤ x ∧ x ≤ 4294967295)
def wtOk (x : Int) : Bool := decide (0 ≤ x ∧ x ≤ 9)
def stOk (x : Int) : Bool := decide (1 ≤ x ∧ x ≤ 3)
def ptOk (x : Int) : Bool := decide (0 ≤ x ∧ x ≤ 65535)
def prOk (x : Int) : Bool := decide (x = 6 ∨ x = 17)
def vrOk (x : Int) : Bool := decide (0 ≤ x ∧ x ≤ 1000000)

theorem bif_and {a b : Int} {x : Int} : (bif decide (x ≥ a) then some (decide (x ≤ b)) else some false) = some (decide (a ≤ x ∧ x ≤ b)) := by
  by_cases h : a ≤ x
  · rw [dt (show x ≥ a from h)]; simp [h]
  · rw [df (show ¬ x ≥ a from h)]; simp [h]
theorem bif_or {a b : Int} {x : Int} : (bif x == a then some true else some (x == b)) = some (decide (x = a ∨ x = b)) := by
  by_cases h : x = a
  · simp [h]
  · rw [beq_eq_false_iff_ne.2 h, cond_false]
    by_cases h2 : x = b
    · rw [beq_iff_eq.2 h2, dt (.inr h2)]
    · rw [beq_eq_false_iff_ne.2 h2, df (by rintro (h3 | h3) <;> contradiction)]
theorem sat105 : Sat prog cxT 105 (c105 fun x => some (decide (x.2.1 ≤ x.1 ∧ x.1 ≤ x.2.2))) := s105 _ fun x t h => by
  obtain ⟨x, a, b⟩ := x
  cases h
  exact ⟨0, bif_and⟩
theorem sat131 : Sat prog cxT 131 (c131 fun x => some (nmOk x)) := s131 _ fun x t h => by cases h; exact ⟨0, bif_and⟩
theorem sat133 : Sat prog cxT 133 (c133 fun x => some (wtOk x)) := s133 _ fun x t h => by cases h; exact ⟨0, bif_and⟩
theorem sat91 : Sat prog cxT 91 (c91 fun x => some (vrOk x)) := s91 _ fun x t h => by cases h; exact ⟨0, bif_and⟩
theorem sat132 : Sat prog cxT 132 (c132 fun x => some (adOk x)) := s132 _ fun x t h => by cases h; exact ⟨0, bif_and⟩
theorem sat134 : Sat prog cxT 134 (c134 fun x => some (stOk x)) := s134 _ fun x t h => by cases h; exact ⟨0, bif_and⟩
theorem sat135 : Sat prog cxT 135 (c135 fun x => some (ptOk x)) := s135 _ fun x t h => by cases h; exact ⟨0, bif_and⟩
theorem sat136 : Sat prog cxT 136 (c136 fun x => some (prOk x)) := s136 _ fun x t h => by cases h; exact ⟨0, bif_or⟩
theorem sat99 : Sat prog cxT 99 (c99 fun x => some (vrOk x)) := s99 _ sat105 _ fun x t h => by cases h; exact ⟨0, rfl⟩
theorem sat106 : Sat prog cxT 106 (c106 fun x => some (nmOk x)) := s106 _ sat105 _ fun x t h => by cases h; exact ⟨0, rfl⟩
theorem sat107 : Sat prog cxT 107 (c107 fun x => some (adOk x)) := s107 _ sat105 _ fun x t h => by cases h; exact ⟨0, rfl⟩
theorem sat109 : Sat prog cxT 109 (c109 fun x => some (prOk x)) := s109 _ fun x t h => by cases h; exact ⟨0, bif_or⟩
theorem sat150 : Sat prog cxT 150 (c150 fun x => some (ptOk x)) := s150 _ sat105 _ fun x t h => by cases h; exact ⟨0, rfl⟩
theorem sat152 : Sat prog cxT 152 (c152 fun _ => some false) := s152 _ fun x t h => by
  cases h
  refine ⟨0, ?_⟩
  unfold g152; simp
theorem sat104 : Sat prog cxT 104 (c104 fun x => some (cmpI x.1 x.2)) := s104 _ sat152 _ fun x t h => by
  obtain ⟨a, b⟩ := x
  cases h
  refine ⟨0, ?_⟩
  show g104 (fun _ => some false) 0 a b = some (cmpI a b)
  unfold g104 cmpI
  simp only [tst_some, cond_false]
  by_cases h1 : a < b
  · rw [dt h1, if_pos h1]; rfl
  · rw [df h1, if_neg h1, cond_false]
    by_cases h2 : b < a
    · rw [dt (show a > b from h2), if_pos h2]; rfl
    · rw [df (show ¬ a > b from h2), if_neg h2]; rfl

/-! ### What laws do with configurations -/
abbrev Cg := Int × List Bk × List Vp
def big : Nat := 1000000000000
def top : Nat := 9223372036854775807
def wV (v : Vp) : Int := (v.2.2.2.length : Int)
def wC (c : Cg) : Int := (c.2.1.length : Int) + (c.2.2.length : Int) + sumW wV c.2.2
def okC (c : Cg) : Prop := c.2.1.length ≤ big ∧ c.2.2.length ≤ big ∧ ∀ v ∈ c.2.2, v.2.2.2.length ≤ big
instance (c : Cg) : Decidable (okC c) := by unfold okC; infer_instance
def okZ (c : Cg) : Prop := c.2.1.length ≤ top ∧ c.2.2.length ≤ top ∧ ∀ v ∈ c.2.2, v.2.2.2.length ≤ top
instance (c : Cg) : Decidable (okZ c) := by unfold okZ; infer_instance
theorem wV_nonneg (v : Vp) : 0 ≤ wV v := by unfold wV; omega

theorem szv_eq {v : Int} {n : Nat} (h0 : 0 ≤ v) (h1 : v ≤ 1048576) (hn : n ≤ top) : (bif decide (IntKind.wrap .i64 (v - (n : Int)) < 0) then some (-1) else some (IntKind.wrap .i64 (v - (n : Int)))) = some (szv v n) := by
  unfold top at hn
  rw [wi (by omega) (by omega)]
  unfold szv
  by_cases h : v - (n : Int) < 0
  · rw [dt h, if_pos h]; rfl
  · rw [df h, if_neg h]; rfl
def m164 (x : List Int × Int) : Option Int := if 0 ≤ x.2 ∧ x.2 ≤ 1048576 ∧ x.1.length ≤ top then some (szv x.2 x.1.length) else none
theorem sat164 : Sat prog cxT 164 (c164 m164) := s164 m164 fun x t h => by
  obtain ⟨a, v⟩ := x
  unfold m164 at h
  split at h
  · rename_i hc; cases h; exact ⟨0, szv_eq hc.1 hc.2.1 hc.2.2⟩
  · cases h
def m116 (x : Vp × Int) : Option Int := if 0 ≤ x.2 ∧ x.2 ≤ 1048576 ∧ x.1.2.2.2.length ≤ top then some (szv x.2 (wV x.1)) else none
theorem sat116 : Sat prog cxT 116 (c116 m116) := s116 m164 sat164 m116 fun x t h => by
  obtain ⟨⟨a, b, c, d⟩, v⟩ := x
  unfold m116 at h
  split at h
  · rename_i hc
    cases h
    refine ⟨0, ?_⟩
    show g116 m164 0 a b c d v = _
    unfold g116
    rw [show m164 (d, v) = some (szv v d.length) from if_pos hc, tst_some]
    show _ = some (szv v (d.length : Int))
    by_cases h : szv v (d.length : Int) < 0
    · rw [dt h]
      unfold szv at h ⊢
      split at h
      · rename_i h2; rw [if_pos h2]; rfl
      · omega
    · rw [df h]; rfl
  · cases h
def m67 (x : List Bk × Int) : Option Int := if 0 ≤ x.2 ∧ x.2 ≤ 1048576 ∧ x.1.length ≤ top then some (szv x.2 x.1.length) else none
theorem sat67 : Sat prog cxT 67 (c67 m67) := s67 m67 fun x t h => by
  obtain ⟨a, v⟩ := x
  unfold m67 at h
  split at h
  · rename_i hc; cases h; exact ⟨0, szv_eq hc.1 hc.2.1 hc.2.2⟩
  · cases h
def dVp : Vp := (0, 0, 0, [])
def dBk : Bk := (0, 0, 0, 0, false)
theorem el68 (L : Nat) (a : List Vp) (v0 : Int) : ∀ (n : Nat) (v i : Int) (k : Int → Option Int), l68_0 m116 L a v0 n v i k = szL dVp m116 a n v i k
  | 0, _, _, _ => rfl
  | n + 1, v, i, k => by
    unfold l68_0 szL
    simp only [el68 L a v0 n]
    rfl
def m68 (x : List Vp × Int) : Option Int := if 0 ≤ x.2 ∧ x.2 ≤ 1048576 ∧ x.1.length ≤ top ∧ ∀ v ∈ x.1, v.2.2.2.length ≤ top then some (szv x.2 ((x.1.length : Int) + sumW wV x.1)) else none
theorem sat68 : Sat prog cxT 68 (c68 m68) := s68 m116 sat116 m68 fun x t h => by
  obtain ⟨a, v⟩ := x
  unfold m68 at h
  split at h
  · rename_i hc
    obtain ⟨h0, h1, h2, h3⟩ := hc
    cases h
    simp only at h0 h1 h2 h3
    have h2' : a.length ≤ 9223372036854775807 := h2
    refine ⟨a.length + 1, ?_⟩
    show g68 m116 (a.length + 1) a v = some (szv v ((a.length : Int) + sumW wV a))
    unfold g68
    rw [wi (by omega) (by omega)]
    have hs : 0 ≤ sumW wV a := sumW_nonneg fun x _ => wV_nonneg x
    by_cases hn : v - (a.length : Int) < 0
    · rw [dt hn, cond_true]
      unfold szv
      rw [if_pos (by omega)]
    · rw [df hn, cond_false, el68]
      refine (szL_ok dVp m116 a wV 1048576 (by omega) (fun x _ => wV_nonneg x) (fun x hx v h0 h1 => if_pos ⟨h0, h1, h3 x hx⟩) _ (a.length + 1) 0 (v - a.length) (by omega) (by omega) (by omega) (by omega)).trans ?_
      rw [List.drop_zero]
      unfold szv
      have e : v - ((a.length : Int) + sumW wV a) = v - (a.length : Int) - sumW wV a := by omega
      rw [e]
      split <;> rfl
  · cases h
theorem szv_szv {v a b : Int} (ha : 0 ≤ a) (hb : 0 ≤ b) (hv : 0 ≤ v) : szv v (a + b) = if szv v a < 0 then -1 else szv (szv v a) b := by
  unfold szv
  by_cases h : v - a < 0
  · rw [if_pos h, if_pos (by omega), if_pos (by omega)]
  · rw [if_neg h, if_neg h, show v - (a + b) = v - a - b by omega]
theorem szv_range {v a : Int} (ha : 0 ≤ a) (hv : 0 ≤ v) : -1 ≤ szv v a ∧ szv v a ≤ v := by unfold szv; split <;> omega
def m27 (x : Cg × Int) : Option Int := if 0 ≤ x.2 ∧ x.2 ≤ 1048576 ∧ okZ x.1 then some (szv x.2 (wC x.1)) else none
theorem sat27 : Sat prog cxT 27 (c27 m27) := s27 m67 m68 sat67 sat68 m27 fun x t h => by
  obtain ⟨⟨a, b, c⟩, v⟩ := x
  unfold m27 at h
  split at h
  · rename_i hc
    obtain ⟨h0, h1, h2, h3, h4⟩ := hc
    cases h
    simp only at h0 h1 h2 h3 h4
    refine ⟨0, ?_⟩
    show g27 m67 m68 0 a b c v = some (szv v ((b.length : Int) + (c.length : Int) + sumW wV c))
    unfold g27
    have hs : 0 ≤ sumW wV c := sumW_nonneg fun x _ => wV_nonneg x
    have hr := szv_range (v := v) (a := (b.length : Int)) (by omega) h0
    rw [show m67 (b, v) = some (szv v b.length) from if_pos ⟨h0, h1, h2⟩, tst_some, Int.add_assoc, szv_szv (by omega) (by omega) h0]
    by_cases hn : szv v (b.length : Int) < 0
    · rw [dt hn, if_pos hn]; rfl
    · rw [df hn, if_neg hn, cond_false]
      rw [show m68 (c, szv v b.length) = some (szv (szv v b.length) ((c.length : Int) + sumW wV c)) from if_pos ⟨by omega, by simp only; omega, h3, h4⟩, tst_some]
      have hr2 := szv_range (v := szv v (b.length : Int)) (a := (c.length : Int) + sumW wV c) (by omega) (by omega)
      by_cases hn2 : szv (szv v (b.length : Int)) ((c.length : Int) + sumW wV c) < 0
      · rw [dt hn2, cond_true]; congr 1; omega
      · rw [df hn2]; rfl
  · cases h
theorem wC_small {c : Cg} (h : 0 ≤ szv 1048576 (wC c)) : c.2.1.length ≤ 1048576 ∧ c.2.2.length ≤ 1048576 ∧ ∀ x ∈ c.2.2, x.2.2.2.length ≤ 1048576 := by
  unfold szv at h
  have hs : 0 ≤ sumW wV c.2.2 := sumW_nonneg fun x _ => wV_nonneg x
  unfold wC at h
  split at h
  · omega
  · refine ⟨by omega, by omega, fun x hx => ?_⟩
    have := sumW_mem (w := wV) (l := c.2.2) (fun x _ => wV_nonneg x) x hx
    unfold wV at this hs h
    omega

/-! ### Copies -/
def mid : Nat := 1000000000
theorem el165 (L : Nat) (a : List Int) : ∀ (n : Nat) (o : List Int) (i : Int) (k : List Int → Option (List Int)), l165_0 L a n o i k = toL 0 (fun x => some x) a n o i k
  | 0, _, _, _ => rfl
  | n + 1, o, i, k => by unfold l165_0 toL; simp only [el165 L a n, tst_some]
theorem make_ok {n : Nat} (h : n ≤ mid) : ((decide ((0 : Int) ≤ (n : Int)) && decide ((n : Int) ≤ (n : Int))) && decide ((n : Int) ≤ (1000000000 : Int))) = true := by
  unfold mid at h
  rw [dt (by omega), dt (Int.le_refl _), dt (by omega)]; rfl
def m165 (a : List Int) : Option (List Int) := if a.length ≤ mid then some a else none
theorem sat165 : Sat prog cxT 165 (c165 m165) := s165 m165 fun x t h => by
  unfold m165 at h
  split at h
  · rename_i ha
    cases h
    refine ⟨x.length + 1, ?_⟩
    unfold g165
    rw [make_ok ha, cond_true, el165, Int.toNat_natCast]
    unfold mid at ha
    exact toL_ok 0 _ x (by omega) (fun _ _ => rfl) _ _ 0 _ (by simp) (by omega) (by omega) rfl
  · cases h
def m118 (v : Vp) : Option Vp := if v.2.2.2.length ≤ mid then some v else none
theorem sat118 : Sat prog cxT 118 (c118 m118) := s118 m165 sat165 m118 fun x t h => by
  obtain ⟨a, b, c, d⟩ := x
  unfold m118 at h
  split at h
  · rename_i ha
    cases h
    refine ⟨0, ?_⟩
    show g118 m165 0 a b c d = _
    unfold g118
    rw [show m165 d = some d from if_pos ha, tst_some]
  · cases h
theorem el71 (L : Nat) (a : List Vp) : ∀ (n : Nat) (o : List Vp) (i : Int) (k : List Vp → Option (List Vp)), l71_0 m118 L a n o i k = toL dVp m118 a n o i k
  | 0, _, _, _ => rfl
  | n + 1, o, i, k => by unfold l71_0 toL; simp only [el71 L a n]; rfl
def m71 (a : List Vp) : Option (List Vp) := if a.length ≤ mid ∧ ∀ v ∈ a, v.2.2.2.length ≤ mid then some a else none
theorem sat71 : Sat prog cxT 71 (c71 m71) := s71 m118 sat118 m71 fun x t h => by
  unfold m71 at h
  split at h
  · rename_i ha
    cases h
    refine ⟨x.length + 1, ?_⟩
    unfold g71
    rw [make_ok ha.1, cond_true, el71, Int.toNat_natCast]
    have := ha.1
    unfold mid at this
    exact toL_ok dVp m118 x (by omega) (fun v hv => if_pos (ha.2 v hv)) _ _ 0 _ (by simp) (by omega) (by omega) rfl
  · cases h
theorem sat117 : Sat prog cxT 117 (c117 fun b => some b) := s117 _ fun x t h => by
  obtain ⟨a, b, c, d, e⟩ := x
  cases h
  exact ⟨0, rfl⟩
theorem el70 (L : Nat) (a : List Bk) : ∀ (n : Nat) (o : List Bk) (i : Int) (k : List Bk → Option (List Bk)), l70_0 (fun b => some b) L a n o i k = toL dBk (fun b => some b) a n o i k
  | 0, _, _, _ => rfl
  | n + 1, o, i, k => by unfold l70_0 toL; simp only [el70 L a n]; rfl
def m70 (a : List Bk) : Option (List Bk) := if a.length ≤ mid then some a else none
theorem sat70 : Sat prog cxT 70 (c70 m70) := s70 _ sat117 m70 fun x t h => by
  unfold m70 at h
  split at h
  · rename_i ha
    cases h
    refine ⟨x.length + 1, ?_⟩
    unfold g70
    rw [make_ok ha, cond_true, el70, Int.toNat_natCast]
    unfold mid at ha
    exact toL_ok dBk _ x (by omega) (fun v hv => rfl) _ _ 0 _ (by simp) (by omega) (by omega) rfl
  · cases h
def okM (c : Cg) : Prop := c.2.1.length ≤ mid ∧ c.2.2.length ≤ mid ∧ ∀ v ∈ c.2.2, v.2.2.2.length ≤ mid
instance (c : Cg) : Decidable (okM c) := by unfold okM; infer_instance
def m29 (c : Cg) : Option Cg := if okM c then some c else none
theorem sat29 : Sat prog cxT 29 (c29 m29) := s29 m70 m71 sat70 sat71 m29 fun x t h => by
  obtain ⟨a, b, c⟩ := x
  unfold m29 at h
  split at h
  · rename_i ha
    cases h
    refine ⟨0, ?_⟩
    show g29 m70 m71 0 a b c = _
    unfold g29
    rw [show m70 b = some b from if_pos ha.1, tst_some, show m71 c = some c from if_pos ha.2, tst_some]
  · cases h

/-! ### Comparisons -/
theorem bifeq {α : Type} [DecidableEq α] [BEq α] [LawfulBEq α] {a b : α} {o : Option Bool} {p : Prop} [Decidable p] (h : a = b → o = some (decide p)) (h2 : ¬ a = b → ¬ p) : (bif a != b then some false else o) = some (decide p) := by
  by_cases e : a = b
  · rw [bneF e, cond_false, h e]
  · rw [bneT e, cond_true, df (h2 e)]
theorem el83 (L : Nat) (a b : List Int) : ∀ (n : Nat) (i : Int) (k : Option Bool), l83_0 L a b n i k = eqL 0 (fun x => some (decide (x.1 = x.2))) a b n i k
  | 0, _, _ => rfl
  | n + 1, i, k => by
    unfold l83_0 eqL
    simp only [el83 L a b n, tst_some]
    congr 2
def m83 (x : List Int × List Int) : Option Bool := if x.1.length ≤ big then some (decide (x.1 = x.2)) else none
theorem sat83 : Sat prog cxT 83 (c83 m83) := s83 m83 fun x t h => by
  obtain ⟨a, b⟩ := x
  unfold m83 at h
  split at h
  · rename_i hc
    cases h
    have hc : a.length ≤ 1000000000000 := hc
    refine ⟨a.length + 1, ?_⟩
    show g83 (a.length + 1) a b = some (decide (a = b))
    unfold g83
    refine bifeq (fun e => ?_) fun e h => e (by rw [h])
    rw [el83]
    refine (eqL_ok 0 _ a b (by omega) (by omega) (fun _ _ _ _ => rfl) _ _ 0 (by omega) (by omega)).trans ?_
    simp only [List.drop_zero]
    split <;> rename_i hh <;> simp [hh]
  · cases h
def m122 (x : Vp × Vp) : Option Bool := if x.1.2.2.2.length ≤ big then some (decide (x.1 = x.2)) else none
theorem bifn {b : Bool} : (bif !b then some false else some true) = some b := by cases b <;> rfl
theorem sat122 : Sat prog cxT 122 (c122 m122) := s122 m83 sat83 m122 fun x t h => by
  obtain ⟨⟨a, b, c, d⟩, a', b', c', d'⟩ := x
  unfold m122 at h
  split at h
  · rename_i hc
    cases h
    refine ⟨0, ?_⟩
    show g122 m83 0 a b c d a' b' c' d' = some (decide ((a, b, c, d) = (a', b', c', d')))
    unfold g122
    rw [show m83 (d, d') = some (decide (d = d')) from if_pos hc, tst_some]
    refine bifeq (fun e1 => bifeq (fun e2 => bifeq (fun e3 => ?_) ?_) ?_) ?_
    · rw [bifn]; simp [e1, e2, e3]
    · intro e h; simp at h; exact e h.2.2.1
    · intro e h; simp at h; exact e h.2.1
    · intro e h; simp at h; exact e h.1
  · cases h
theorem el77 (L : Nat) (a b : List Vp) : ∀ (n : Nat) (i : Int) (k : Option Bool), l77_0 m122 L a b n i k = eqL dVp m122 a b n i k
  | 0, _, _ => rfl
  | n + 1, i, k => by unfold l77_0 eqL; simp only [el77 L a b n]; rfl
def m77 (x : List Vp × List Vp) : Option Bool := if x.1.length ≤ big ∧ ∀ v ∈ x.1, v.2.2.2.length ≤ big then some (decide (x.1 = x.2)) else none
theorem sat77 : Sat prog cxT 77 (c77 m77) := s77 m122 sat122 m77 fun x t h => by
  obtain ⟨a, b⟩ := x
  unfold m77 at h
  split at h
  · rename_i hc
    cases h
    have hc1 : a.length ≤ 1000000000000 := hc.1
    refine ⟨a.length + 1, ?_⟩
    show g77 m122 (a.length + 1) a b = some (decide (a = b))
    unfold g77
    refine bifeq (fun e => ?_) fun e h => e (by rw [h])
    rw [el77]
    refine (eqL_ok dVp _ a b (by omega) (by omega) (fun x hx y _ => if_pos (hc.2 x hx)) _ _ 0 (by omega) (by omega)).trans ?_
    simp only [List.drop_zero]
    split <;> rename_i hh <;> simp [hh]
  · cases h
theorem sat121 : Sat prog cxT 121 (c121 fun x => some (decide (x.1 = x.2))) := s121 _ fun x t h => by
  obtain ⟨⟨a, b, c, d, e⟩, a', b', c', d', e'⟩ := x
  cases h
  refine ⟨0, ?_⟩
  show g121 0 a b c d e a' b' c' d' e' = some (decide ((a, b, c, d, e) = (a', b', c', d', e')))
  unfold g121
  refine bifeq (fun e1 => bifeq (fun e2 => bifeq (fun e3 => bifeq (fun e4 => ?_) ?_) ?_) ?_) ?_
  · rw [bifn]; subst e1; subst e2; subst e3; subst e4; cases e <;> cases e' <;> simp
  · intro e h; simp at h; exact e h.2.2.2.1
  · intro e h; simp at h; exact e h.2.2.1
  · intro e h; simp at h; exact e h.2.1
  · intro e h; simp at h; exact e h.1
theorem el76 (L : Nat) (a b : List Bk) : ∀ (n : Nat) (i : Int) (k : Option Bool), l76_0 (fun x => some (decide (x.1 = x.2))) L a b n i k = eqL dBk (fun x => some (decide (x.1 = x.2))) a b n i k
  | 0, _, _ => rfl
  | n + 1, i, k => by unfold l76_0 eqL; simp only [el76 L a b n]; rfl
def m76 (x : List Bk × List Bk) : Option Bool := if x.1.length ≤ big then some (decide (x.1 = x.2)) else none
theorem sat76 : Sat prog cxT 76 (c76 m76) := s76 _ sat121 m76 fun x t h => by
  obtain ⟨a, b⟩ := x
  unfold m76 at h
  split at h
  · rename_i hc
    cases h
    have hc1 : a.length ≤ 1000000000000 := hc
    refine ⟨a.length + 1, ?_⟩
    show g76 _ (a.length + 1) a b = some (decide (a = b))
    unfold g76
    refine bifeq (fun e => ?_) fun e h => e (by rw [h])
    rw [el76]
    refine (eqL_ok dBk _ a b (by omega) (by omega) (fun x hx y _ => rfl) _ _ 0 (by omega) (by omega)).trans ?_
    simp only [List.drop_zero]
    split <;> rename_i hh <;> simp [hh]
  · cases h
instance decBk : DecidableEq Bk := inferInstance
instance decVp : DecidableEq Vp := inferInstance
instance decLs : DecidableEq (List Bk × List Vp) := @instDecidableEqProd _ _ (@instDecidableEqList _ decBk) (@instDecidableEqList _ decVp)
instance decCg : DecidableEq Cg := @instDecidableEqProd _ _ inferInstance decLs
def m31 (x : Cg × Cg) : Option Bool := if okC x.1 then some (decide (x.1 = x.2)) else none
theorem sat31 : Sat prog cxT 31 (c31 m31) := s31 m76 m77 sat76 sat77 m31 fun x t h => by
  obtain ⟨⟨a, b, c⟩, a', b', c'⟩ := x
  unfold m31 at h
  split at h
  · rename_i hc
    cases h
    refine ⟨0, ?_⟩
    show g31 m76 m77 0 a b c a' b' c' = some (decide ((a, b, c) = (a', b', c')))
    unfold g31
    rw [show m76 (b, b') = some (decide (b = b')) from if_pos hc.1, tst_some, show m77 (c, c') = some (decide (c = c')) from if_pos hc.2, tst_some]
    refine bifeq (fun e1 => ?_) ?_
    · subst e1
      by_cases e2 : b = b' <;> by_cases e3 : c = c' <;> simp [e2, e3]
    · intro e h; simp at h; exact e h.1
  · cases h
end Go.Proofs.Try

set_option maxHeartbeats 0
set_option linter.unusedVariables false
set_option linter.unusedSimpArgs false
namespace Go.Proofs.Try
open Go Go.VM Go.RowKit

/-! ### Faults of configurations, plainly -/
def bkOk (b : Bk) : Bool := nmOk b.1 && adOk b.2.1 && wtOk b.2.2.1 && stOk b.2.2.2.1
def vpOk (v : Vp) : Bool := adOk v.1 && ptOk v.2.1 && prOk v.2.2.1
def beh (a b : Vp) : Bool := if a.1 = b.1 then (if a.2.1 = b.2.1 then decide (a.2.2.1 < b.2.2.1) else decide (a.2.1 < b.2.1)) else decide (a.1 < b.1)
def hasB (bs : List Bk) (y : Int) : Bool := bs.any fun b => b.1 == y
def rsN (ns : List Int) (i : Nat) : Int := if 0 < i ∧ ns.getD i 0 ≤ ns.getD (i - 1) 0 then 1 else 0
def knN (bs : List Bk) (ns : List Int) (i : Nat) : Int := if hasB bs (ns.getD i 0) then 0 else 4
def nF (bs : List Bk) (ns : List Int) : Int := if fst (knN bs ns) ns.length 0 = 0 then fst (rsN ns) ns.length 0 else 4
def bF (bs : List Bk) (i : Nat) : Int := if bkOk (bs.getD i dBk) then (if 0 < i ∧ (bs.getD i dBk).1 ≤ (bs.getD (i - 1) dBk).1 then 1 else 0) else 3
def vF (bs : List Bk) (vs : List Vp) (i : Nat) : Int := if vpOk (vs.getD i dVp) then (if 0 < i ∧ beh (vs.getD (i - 1) dVp) (vs.getD i dVp) = false then 1 else nF bs (vs.getD i dVp).2.2.2) else 3
def cF (c : Cg) : Int := if vrOk c.1 then (if 8 < c.2.1.length ∨ 4 < c.2.2.length then 2 else if fst (bF c.2.1) c.2.1.length 0 = 0 then fst (vF c.2.1 c.2.2) c.2.2.length 0 else fst (bF c.2.1) c.2.1.length 0) else 3

theorem cF_zero {c : Cg} (h : cF c = 0) : vrOk c.1 = true ∧ c.2.1.length ≤ 8 ∧ c.2.2.length ≤ 4 ∧ (∀ j, j < c.2.1.length → bF c.2.1 j = 0) ∧ ∀ j, j < c.2.2.length → vF c.2.1 c.2.2 j = 0 := by
  unfold cF at h
  split at h
  · rename_i h1
    split at h
    · exact absurd h (by decide)
    · rename_i h2
      split at h
      · rename_i h3
        exact ⟨h1, by omega, by omega, fun j hj => fst_zero.1 h3 j (Nat.zero_le _) (by omega), fun j hj => fst_zero.1 h j (Nat.zero_le _) (by omega)⟩
      · rename_i h3; exact absurd h h3
  · exact absurd h (by decide)

/-- Names of backends rise. -/
def ris (bs : List Bk) : Prop := ∀ i j, i < j → j < bs.length → (bs.getD i dBk).1 < (bs.getD j dBk).1
theorem ris_of {bs : List Bk} (h : ∀ j, j < bs.length → bF bs j = 0) : ris bs := by
  have step : ∀ j, 0 < j → j < bs.length → (bs.getD (j - 1) dBk).1 < (bs.getD j dBk).1 := fun j h0 hj => by
    have := h j hj
    unfold bF at this
    split at this
    · split at this
      · exact absurd this (by decide)
      · rename_i h2; have : ¬ (bs.getD j dBk).1 ≤ (bs.getD (j - 1) dBk).1 := fun h3 => h2 ⟨h0, h3⟩; omega
    · exact absurd this (by decide)
  intro i j hij
  induction j with
  | zero => omega
  | succ j ih =>
    intro hj
    have h1 := step (j + 1) (by omega) hj
    simp only [Nat.add_sub_cancel] at h1
    by_cases h2 : i = j
    · rw [h2]; exact h1
    · have := ih (by omega) (by omega)
      omega

theorem sat100 : Sat prog cxT 100 (c100 fun b => some (bkOk b)) := s100 _ _ _ sat106 sat107 sat105 _ fun x t h => by
  obtain ⟨a, b, c, d, e⟩ := x
  cases h
  refine ⟨0, ?_⟩
  show g100 _ _ _ 0 a b c d e = some (nmOk a && adOk b && wtOk c && stOk d)
  unfold g100
  simp only [tst_some]
  cases nmOk a <;> cases adOk b <;> simp only [cond_true, cond_false, Bool.false_and, Bool.true_and]
  show (bif wtOk c then some (stOk d) else some false) = _
  cases wtOk c <;> rfl
theorem sat92 : Sat prog cxT 92 (c92 fun b => some (bkOk b)) := s92 _ _ _ _ sat131 sat132 sat133 sat134 _ fun x t h => by
  obtain ⟨a, b, c, d, e⟩ := x
  cases h
  refine ⟨0, ?_⟩
  show g92 _ _ _ _ 0 a b c d e = some (nmOk a && adOk b && wtOk c && stOk d)
  unfold g92
  simp only [tst_some]
  cases nmOk a <;> cases adOk b <;> cases wtOk c <;> rfl
theorem sat93 : Sat prog cxT 93 (c93 fun v => some (vpOk v)) := s93 _ _ _ sat132 sat135 sat136 _ fun x t h => by
  obtain ⟨a, b, c, d⟩ := x
  cases h
  refine ⟨0, ?_⟩
  show g93 _ _ _ 0 a b c d = some (adOk a && ptOk b && prOk c)
  unfold g93
  simp only [tst_some]
  cases adOk a <;> cases ptOk b <;> rfl
theorem sat151 : Sat prog cxT 151 (c151 fun x => some (beh x.1 x.2)) := s151 _ fun x t h => by
  obtain ⟨⟨a, b, c, d⟩, a', b', c', d'⟩ := x
  cases h
  refine ⟨0, ?_⟩
  show g151 0 a b c d a' b' c' d' = some (if a = a' then (if b = b' then decide (c < c') else decide (b < b')) else decide (a < a'))
  unfold g151
  by_cases h1 : a = a'
  · rw [bneF h1, cond_false, if_pos h1]
    by_cases h2 : b = b'
    · rw [bneF h2, cond_false, if_pos h2]
    · rw [bneT h2, cond_true, if_neg h2]
  · rw [bneT h1, cond_true, if_neg h1]

def atB (bs : List Bk) (y : Int) : Int := idx (fun b => b.1 == y) bs 0
theorem p53 (L : Nat) (c : Cg) (y : Int) (hb : c.2.1.length ≤ big) (k : Option Int) : ∀ (n i : Nat), i ≤ c.2.1.length → c.2.1.length < n + i →
    l53_0 L c y n i k = if idx (fun b => b.1 == y) (c.2.1.drop i) i < 0 then k else some (idx (fun b => b.1 == y) (c.2.1.drop i) i)
  | 0, i, h2, h3 => by omega
  | n + 1, i, h2, h3 => by
    unfold l53_0
    have hb' : c.2.1.length ≤ 1000000000000 := hb
    by_cases hi : i < c.2.1.length
    · rw [Int.toNat_natCast]
      simp (disch := omega) only [dt, wi, cond_true, Bool.and_self]
      rw [drop_cons dBk hi, idx_cons]
      by_cases hy : (c.2.1.getD i dBk).1 = y
      · rw [show ((c.2.1.getD i dBk).1 == y) = true from beq_iff_eq.2 hy, if_pos rfl, if_neg (by omega)]
        rw [show ((List.getD c.2.1 i (0, 0, 0, 0, false)).1 == y) = true from beq_iff_eq.2 hy]; rfl
      · simp only [show ((c.2.1.getD i dBk).1 == y) = false from beq_eq_false_iff_ne.2 hy, Bool.false_eq_true, if_false]
        rw [show ((List.getD c.2.1 i (0, 0, 0, 0, false)).1 == y) = false from beq_eq_false_iff_ne.2 hy, cond_false, show (i : Int) + 1 = ((i + 1 : Nat) : Int) from rfl]
        exact p53 L c y hb k n (i + 1) (by omega) (by omega)
    · simp (disch := omega) only [df, cond_false]
      rw [List.drop_eq_nil_of_le (by omega)]
      rfl
theorem idx_none {α : Type} {p : α → Bool} : ∀ (l : List α) (i : Nat), l.any p = false → idx p l i = -1
  | [], _, _ => rfl
  | x :: r, i, h => by
    simp only [List.any_cons, Bool.or_eq_false_iff] at h
    rw [idx_cons, h.1]
    simp only [Bool.false_eq_true, if_false]
    exact idx_none r _ h.2
def m53 (x : Cg × Int) : Option Int := if x.1.2.1.length ≤ big then some (atB x.1.2.1 x.2) else none
theorem sat53 : Sat prog cxT 53 (c53 m53) := s53 m53 fun x t h => by
  obtain ⟨c, y⟩ := x
  unfold m53 at h
  split at h
  · rename_i hc
    cases h
    refine ⟨c.2.1.length + 1, ?_⟩
    show g53 (c.2.1.length + 1) c y = some (atB c.2.1 y)
    unfold g53
    refine (p53 _ c y hc _ (c.2.1.length + 1) 0 (by omega) (by omega)).trans ?_
    rw [List.drop_zero]
    unfold atB
    split
    · rename_i h2
      rw [idx_none c.2.1 0 (idx_neg.1 h2)]
    · rfl
  · cases h

/-! ### The specification's ConfigFault -/
theorem toNat_pred {i : Nat} (h : 0 < i) : ((i : Int) - 1).toNat = i - 1 := by omega
theorem fst_step {f : Nat → Int} {m i : Nat} (h : i < m) : fst f (m - i) i = if f i = 0 then fst f (m - (i + 1)) (i + 1) else f i := by
  rw [show m - i = (m - (i + 1)) + 1 by omega, fst_succ]
theorem fst_done {f : Nat → Int} {m i : Nat} (h : ¬ i < m) : fst f (m - i) i = 0 := by
  rw [show m - i = 0 by omega]; rfl
theorem hasB_at {bs : List Bk} {y : Int} : decide (atB bs y < 0) = !hasB bs y := by
  by_cases h : hasB bs y = true
  · rw [h]
    obtain ⟨j, h1, _⟩ := idx_get dBk (l := bs) (i := 0) h
    exact df (by unfold atB; rw [h1]; omega)
  · have h' : hasB bs y = false := by simpa using h
    rw [h']
    exact dt (idx_neg.2 h')
theorem p101_0 (M60 M95 M62 : Int → Option Bool) (M113 : Vp × Vp → Option Bool) (L : Nat) (c : Cg) (b1 : Int) (x y z : Int) (ns : List Int) (hb : c.2.1.length ≤ big) (hn : ns.length ≤ big) (k : Int → Int → Int → List Int → Option Int) :
    ∀ (n i : Nat), i ≤ ns.length → ns.length < n + i → l101_0 M60 M95 M62 M113 m53 L c b1 n x y z ns i k = if fst (knN c.2.1 ns) (ns.length - i) i = 0 then k x y z ns else some 4
  | 0, i, h2, h3 => by omega
  | n + 1, i, h2, h3 => by
    unfold l101_0
    have hn' : ns.length ≤ 1000000000000 := hn
    by_cases hi : i < ns.length
    · rw [Int.toNat_natCast]
      simp (disch := omega) only [dt, wi, cond_true, Bool.and_self]
      rw [fst_step hi, show m53 (c, ns.getD i 0) = some (atB c.2.1 (ns.getD i 0)) from if_pos hb, tst_some]
      simp only [hasB_at]
      unfold knN
      by_cases hh : hasB c.2.1 (ns.getD i 0) = true
      · simp only [hh, if_true, Bool.not_true, cond_false]
        exact p101_0 M60 M95 M62 M113 L c b1 x y z ns hb hn k n (i + 1) (by omega) (by omega)
      · simp only [show hasB c.2.1 (ns.getD i 0) = false by simpa using hh, Bool.false_eq_true, if_false, Bool.not_false, cond_true]
        rfl
    · simp (disch := omega) only [df, cond_false]
      rw [fst_done hi, if_pos rfl]
theorem p101_2 (M60 M95 M62 : Int → Option Bool) (M113 : Vp × Vp → Option Bool) (M64 : Cg × Int → Option Int) (L : Nat) (c : Cg) (b1 : Int) (x y z : Int) (ns : List Int) (hn : ns.length ≤ big) (k : Option Int) :
    ∀ (n i : Nat), 0 < i → (i ≤ ns.length + 1) → ns.length + 1 < n + i → l101_2 M60 M95 M62 M113 M64 L c b1 n x y z ns i k = if fst (rsN ns) (ns.length - i) i = 0 then k else some 1
  | 0, i, h2, h1, h3 => by omega
  | n + 1, i, h2, h1, h3 => by
    unfold l101_2
    have hn' : ns.length ≤ 1000000000000 := hn
    by_cases hi : i < ns.length
    · simp (disch := omega) only [dt, wi, cond_true, Bool.and_self]
      rw [toNat_pred h2, Int.toNat_natCast, fst_step hi]
      unfold rsN
      by_cases hh : ns.getD i 0 ≤ ns.getD (i - 1) 0
      · rw [dt hh, cond_true, if_pos (show 0 < i ∧ ns.getD i 0 ≤ ns.getD (i - 1) 0 from ⟨h2, hh⟩)]; rfl
      · rw [df hh, cond_false, if_neg (show ¬ (0 < i ∧ ns.getD i 0 ≤ ns.getD (i - 1) 0) from fun h => hh h.2), if_pos rfl]
        exact p101_2 M60 M95 M62 M113 M64 L c b1 x y z ns hn k n (i + 1) (by omega) (by omega) (by omega)
    · have e : ¬ (i : Int) < (ns.length : Int) := by omega
      simp only [df e, cond_false]
      rw [fst_done hi, if_pos rfl]

def m101 (x : Cg × Int) : Option Int := if okC x.1 ∧ 0 ≤ x.2 ∧ x.2 < (x.1.2.2.length : Int) then some (vF x.1.2.1 x.1.2.2 x.2.toNat) else none
theorem rsN_zero (ns : List Int) : rsN ns 0 = 0 := by unfold rsN; rw [if_neg (by omega)]
theorem rsN_from (ns : List Int) : fst (rsN ns) (ns.length - 1) 1 = fst (rsN ns) ns.length 0 := by
  cases h : ns.length with
  | zero => rfl
  | succ n => rw [fst_succ, if_pos (rsN_zero ns)]; rfl
theorem rsN_val (ns : List Int) : fst (rsN ns) ns.length 0 = 0 ∨ fst (rsN ns) ns.length 0 = 1 := by
  by_cases h : fst (rsN ns) ns.length 0 = 0
  · exact .inl h
  · obtain ⟨j, _, _, hj⟩ := fst_any h
    refine .inr ?_
    rw [← hj] at h ⊢
    unfold rsN at h ⊢
    split
    · rfl
    · rename_i h2; rw [if_neg h2] at h; exact absurd rfl h
theorem tail82 (L : Nat) (c : Cg) (b1 : Int) (x y z : Int) (ns : List Int) (hb : c.2.1.length ≤ big) (hn : ns.length ≤ big) (hL : ns.length + 1 < L) (M60 M95 M62 : Int → Option Bool) (M113 : Vp × Vp → Option Bool) :
    l101_0 M60 M95 M62 M113 m53 L c b1 L x y z ns 0 (fun u0 u1 u2 u3 => l101_2 M60 M95 M62 M113 m53 L c b1 L u0 u1 u2 u3 1 (some 0)) = some (nF c.2.1 ns) := by
  refine (p101_0 M60 M95 M62 M113 L c b1 x y z ns hb hn _ L 0 (by omega) (by omega)).trans ?_
  rw [Nat.sub_zero]
  unfold nF
  by_cases h : fst (knN c.2.1 ns) ns.length 0 = 0
  · rw [if_pos h, if_pos h]
    refine (p101_2 M60 M95 M62 M113 m53 L c b1 x y z ns hn _ L 1 (by omega) (by omega) (by omega)).trans ?_
    rw [rsN_from]
    rcases rsN_val ns with h2 | h2
    · rw [if_pos h2, h2]
    · rw [if_neg (by rw [h2]; decide), h2]
  · rw [if_neg h, if_neg h]
theorem sat101 : Sat prog cxT 101 (c101 m101) := s101 _ _ _ _ m53 sat107 sat150 sat109 sat151 sat53 m101 fun x t h => by
  obtain ⟨⟨a, b, c⟩, y⟩ := x
  unfold m101 at h
  split at h
  · rename_i hc
    obtain ⟨⟨h1, h2, h3⟩, h4, h5⟩ := hc
    cases h
    simp only at h1 h2 h3 h4 h5
    obtain ⟨i, rfl⟩ := Int.eq_ofNat_of_zero_le h4
    have hi : i < c.length := by omega
    have h2' : c.length ≤ 1000000000000 := h2
    refine ⟨(c.getD i dVp).2.2.2.length + 2, ?_⟩
    have hns := h3 _ (getD_mem dVp hi)
    show g101 _ _ _ _ m53 _ (a, b, c) (i : Int) = some (vF b c (i : Int).toNat)
    unfold g101
    simp only
    rw [Int.toNat_natCast, dt h4, dt h5, Bool.and_self, cond_true]
    simp only [tst_some]
    unfold vF
    have hv : ∀ o : Option Int, (bif !adOk (c.getD i dVp).1 then some 3 else bif !ptOk (c.getD i dVp).2.1 then some 3 else bif !prOk (c.getD i dVp).2.2.1 then some 3 else o) = if vpOk (c.getD i dVp) = true then o else some 3 := by
      intro o
      unfold vpOk
      cases adOk (c.getD i dVp).1 <;> cases ptOk (c.getD i dVp).2.1 <;> cases prOk (c.getD i dVp).2.2.1 <;> simp
    refine (hv _).trans ?_
    by_cases hok : vpOk (c.getD i dVp) = true
    · rw [if_pos hok, if_pos hok]
      by_cases h0 : 0 < i
      · rw [dt (show (i : Int) > 0 by omega), cond_true, wi (by omega) (by omega), dt (show (0 : Int) ≤ (i : Int) - 1 by omega), dt (show (i : Int) - 1 < (c.length : Int) by omega), Bool.and_self, cond_true, toNat_pred h0]
        by_cases hbh : beh (c.getD (i - 1) dVp) (c.getD i dVp) = false
        · rw [if_pos ⟨h0, hbh⟩]
          show (bif !beh (c.getD (i - 1) dVp) (c.getD i dVp) then _ else _) = _
          rw [hbh]; rfl
        · rw [if_neg (fun h => hbh h.2)]
          show (bif !beh (c.getD (i - 1) dVp) (c.getD i dVp) then _ else _) = _
          rw [show beh (c.getD (i - 1) dVp) (c.getD i dVp) = true by simpa using hbh]
          exact tail82 _ (a, b, c) i _ _ _ _ h1 hns (by omega) _ _ _ _
      · rw [df (show ¬ (i : Int) > 0 by omega), cond_false, if_neg (fun h => h0 h.1)]
        exact tail82 _ (a, b, c) i _ _ _ _ h1 hns (by omega) _ _ _ _
    · rw [if_neg hok, if_neg hok]
  · cases h

theorem p52_0 (M58 : Int → Option Bool) (M82 : Cg × Int → Option Int) (L : Nat) (c : Cg) (hb : c.2.1.length ≤ big) (k : Option Int) :
    ∀ (n i : Nat), i ≤ c.2.1.length → c.2.1.length < n + i → l52_0 M58 (fun b => some (bkOk b)) M82 L c n i k = if fst (bF c.2.1) (c.2.1.length - i) i = 0 then k else some (fst (bF c.2.1) (c.2.1.length - i) i)
  | 0, i, h2, h3 => by omega
  | n + 1, i, h2, h3 => by
    unfold l52_0
    have hn' : c.2.1.length ≤ 1000000000000 := hb
    generalize hbs : c.2.1 = bs at *
    by_cases hi : i < bs.length
    · rw [dt (show (i : Int) < (bs.length : Int) by omega), dt (show (0 : Int) ≤ (i : Int) by omega), Bool.and_self, cond_true, cond_true, tst_some, Int.toNat_natCast, fst_step hi, wi (x := (i : Int) + 1) (by omega) (by omega)]
      have ih := p52_0 M58 M82 L c (by rw [hbs]; exact hb) k n (i + 1) (by rw [hbs]; omega) (by rw [hbs]; omega)
      rw [hbs] at ih
      by_cases hok : bkOk (bs.getD i dBk) = true
      · refine (congrArg (fun b => bif !b then _ else _) hok).trans ?_
        simp only [Bool.not_true, cond_false]
        by_cases h0 : 0 < i
        · rw [dt (show (i : Int) > 0 by omega), cond_true, wi (by omega) (by omega), dt (show (0 : Int) ≤ (i : Int) - 1 by omega), dt (show (i : Int) - 1 < (bs.length : Int) by omega), Bool.and_self, cond_true, toNat_pred h0]
          by_cases hh : (bs.getD i dBk).1 ≤ (bs.getD (i - 1) dBk).1
          · have e : bF bs i = 1 := by unfold bF; rw [if_pos hok, if_pos ⟨h0, hh⟩]
            rw [dt (c := (List.getD bs i (0, 0, 0, 0, false)).1 ≤ (List.getD bs (i - 1) (0, 0, 0, 0, false)).1) hh, cond_true, e]; rfl
          · have e : bF bs i = 0 := by unfold bF; rw [if_pos hok, if_neg (fun h => hh h.2)]
            rw [df (c := (List.getD bs i (0, 0, 0, 0, false)).1 ≤ (List.getD bs (i - 1) (0, 0, 0, 0, false)).1) hh, cond_false, if_pos e]
            exact ih
        · have e : bF bs i = 0 := by unfold bF; rw [if_pos hok, if_neg (fun h => h0 h.1)]
          rw [df (show ¬ (i : Int) > 0 by omega), cond_false, if_pos e]
          exact ih
      · have e : bF bs i = 3 := by unfold bF; rw [if_neg hok]
        refine (congrArg (fun b => bif !b then _ else _) (show bkOk (bs.getD i dBk) = false by simpa using hok)).trans ?_
        rw [e]; rfl
    · rw [df (show ¬ (i : Int) < (bs.length : Int) by omega), cond_false, fst_done hi, if_pos rfl]
theorem p52_2 (M58 : Int → Option Bool) (M81 : Bk → Option Bool) (L : Nat) (c : Cg) (hok : okC c) (k : Option Int) :
    ∀ (n i : Nat), i ≤ c.2.2.length → c.2.2.length < n + i → l52_2 M58 M81 m101 L c n i k = if fst (vF c.2.1 c.2.2) (c.2.2.length - i) i = 0 then k else some (fst (vF c.2.1 c.2.2) (c.2.2.length - i) i)
  | 0, i, h2, h3 => by omega
  | n + 1, i, h2, h3 => by
    unfold l52_2
    have hn' : c.2.2.length ≤ 1000000000000 := hok.2.1
    by_cases hi : i < c.2.2.length
    · rw [dt (show (i : Int) < (c.2.2.length : Int) by omega), cond_true, fst_step hi, wi (x := (i : Int) + 1) (by omega) (by omega)]
      rw [show m101 (c, (i : Int)) = some (vF c.2.1 c.2.2 i) from if_pos ⟨hok, by simp only; omega, by simp only; omega⟩, tst_some]
      by_cases e : vF c.2.1 c.2.2 i = 0
      · rw [bneF e, cond_false, if_pos e]
        exact p52_2 M58 M81 L c hok k n (i + 1) (by omega) (by omega)
      · rw [bneT e, cond_true, if_neg e, if_neg e]
    · rw [df (show ¬ (i : Int) < (c.2.2.length : Int) by omega), cond_false, fst_done hi, if_pos rfl]
def m52 (c : Cg) : Option Int := if okC c then some (cF c) else none
theorem sat52 : Sat prog cxT 52 (c52 m52) := s52 _ _ m101 sat99 sat100 sat101 m52 fun x t h => by
  obtain ⟨a, b, c⟩ := x
  unfold m52 at h
  split at h
  · rename_i hc
    cases h
    refine ⟨b.length + c.length + 1, ?_⟩
    show g52 _ _ m101 _ (a, b, c) = some (cF (a, b, c))
    unfold g52 cF
    simp only [tst_some]
    cases hv : vrOk a
    · simp
    · simp only [Bool.not_true, cond_false, if_true]
      by_cases h8 : 8 < b.length
      · rw [dt (show (b.length : Int) > 8 by omega), cond_true, if_pos (.inl h8)]
      · rw [df (show ¬ (b.length : Int) > 8 by omega), cond_false]
        by_cases h4 : 4 < c.length
        · rw [dt (show (c.length : Int) > 4 by omega), cond_true, if_pos (.inr h4)]
        · rw [df (show ¬ (c.length : Int) > 4 by omega), cond_false, if_neg (by omega)]
          refine (p52_0 _ _ _ (a, b, c) hc.1 _ _ 0 (by omega) (by simp only; omega)).trans ?_
          rw [Nat.sub_zero]
          by_cases e : fst (bF b) b.length 0 = 0
          · rw [if_pos e, if_pos e]
            refine (p52_2 _ _ _ (a, b, c) hc _ _ 0 (by omega) (by simp only; omega)).trans ?_
            rw [Nat.sub_zero]
            split
            · rename_i e2; rw [e2]
            · rfl
          · rw [if_neg e, if_neg e]
  · cases h
def mCF (c : Cg) : Option Int := if okC c then some (cF c) else none
end Go.Proofs.Try

set_option maxHeartbeats 0
set_option linter.unusedVariables false
set_option linter.unusedSimpArgs false
namespace Go.Proofs.Try
open Go Go.VM Go.RowKit

/-! ### The program's ConfigFault -/
theorem sat103 : Sat prog cxT 103 (c103 fun x => some (cmpI x.1.1 x.2)) := s103 _ sat104 _ fun x t h => by
  obtain ⟨⟨a, b, c, d, e⟩, y⟩ := x
  cases h
  exact ⟨0, rfl⟩
/-- The first place of which p is not so. -/
def low {α : Type} (p : α → Bool) : List α → Nat
  | [] => 0
  | x :: r => if p x then low p r + 1 else 0
theorem low_le {α : Type} (p : α → Bool) : ∀ l, low p l ≤ l.length
  | [] => Nat.le_refl _
  | x :: r => by
    have := low_le p r
    unfold low
    split <;> simp only [List.length_cons] <;> omega
theorem low_lt {α : Type} (p : α → Bool) (d : α) : ∀ (l : List α) (j : Nat), j < low p l → p (l.getD j d) = true
  | [], j, h => by simp [low] at h
  | x :: r, j, h => by
    unfold low at h
    split at h
    · rename_i hx
      cases j with
      | zero => simpa using hx
      | succ j => simpa using low_lt p d r j (by omega)
    · omega
theorem low_at {α : Type} (p : α → Bool) (d : α) : ∀ (l : List α), low p l < l.length → p (l.getD (low p l) d) = false
  | [], h => by simp at h
  | x :: r, h => by
    unfold low at h ⊢
    split at h
    · rename_i hx
      rw [if_pos hx]
      simpa using low_at p d r (by simpa using h)
    · rename_i hx
      rw [if_neg hx]
      simpa using hx
theorem el102 (L : Nat) (a : List Bk) (y : Int) (u : Unit) : ∀ (n : Nat) (lo hi : Int) (k : Int → Option (Int × Bool)), l102_0 (fun x => some (cmpI x.1.1 x.2)) L a y u n lo hi k = bsL a.length (fun j => some (cmpI (a.getD j dBk).1 y)) n lo hi k
  | 0, _, _, _ => rfl
  | n + 1, lo, hi, k => by unfold l102_0 bsL; simp only [el102 L a y u n]; rfl
def plB (bs : List Bk) (y : Int) : Nat := low (fun b : Bk => decide (b.1 < y)) bs
instance (bs : List Bk) : Decidable (ris bs) := by
  have : ris bs ↔ ∀ j, j < bs.length → ∀ i, i < j → (bs.getD i dBk).1 < (bs.getD j dBk).1 := ⟨fun h j hj i hi => h i j hi hj, fun h i j hi hj => h j hj i hi⟩
  exact decidable_of_iff _ this.symm
theorem ris_high {bs : List Bk} (h : ris bs) {y : Int} {j : Nat} (h1 : plB bs y ≤ j) (h2 : j < bs.length) : y ≤ (bs.getD j dBk).1 := by
  have hl : plB bs y < bs.length := by omega
  have h3 := low_at (fun b : Bk => decide (b.1 < y)) dBk bs hl
  have h4 : ¬ (bs.getD (plB bs y) dBk).1 < y := of_decide_eq_false h3
  by_cases he : plB bs y = j
  · rw [he] at h4; omega
  · have := h (plB bs y) j (by omega) h2
    omega
theorem ris_has {bs : List Bk} (h : ris bs) (y : Int) : hasB bs y = (decide (plB bs y < bs.length) && ((bs.getD (plB bs y) dBk).1 == y)) := by
  by_cases hl : plB bs y < bs.length
  · rw [dt hl, Bool.true_and]
    by_cases he : (bs.getD (plB bs y) dBk).1 = y
    · rw [beq_iff_eq.2 he]
      exact List.any_eq_true.2 ⟨_, getD_mem dBk hl, beq_iff_eq.2 he⟩
    · rw [beq_eq_false_iff_ne.2 he]
      refine Bool.eq_false_iff.2 fun hh => ?_
      obtain ⟨b, hb, hy⟩ := List.any_eq_true.1 hh
      obtain ⟨j, hj, rfl⟩ := List.mem_iff_getElem.1 hb
      have hy : (bs.getD j dBk).1 = y := by rw [getD_at dBk hj]; simpa using hy
      have hge := ris_high h (y := y) (j := plB bs y) (Nat.le_refl _) hl
      rcases Nat.lt_trichotomy j (plB bs y) with h1 | h1 | h1
      · have := low_lt (fun b : Bk => decide (b.1 < y)) dBk bs j h1
        have : (bs.getD j dBk).1 < y := by simpa using this
        omega
      · rw [← h1] at he; exact he hy
      · have := h _ _ h1 hj; omega
  · rw [df hl, Bool.false_and]
    refine Bool.eq_false_iff.2 fun hh => ?_
    obtain ⟨b, hb, hy⟩ := List.any_eq_true.1 hh
    obtain ⟨j, hj, rfl⟩ := List.mem_iff_getElem.1 hb
    have hle := low_le (fun b : Bk => decide (b.1 < y)) bs
    have := low_lt (fun b : Bk => decide (b.1 < y)) dBk bs j (by show j < plB bs y; omega)
    have h5 : (bs.getD j dBk).1 < y := by simpa using this
    rw [getD_at dBk hj] at h5
    have : bs[j].1 = y := by simpa using hy
    omega
def m102 (x : List Bk × Int × Unit) : Option (Int × Bool) := if ris x.1 ∧ x.1.length ≤ big then some ((plB x.1 x.2.1 : Int), hasB x.1 x.2.1) else none
theorem sat102 : Sat prog cxT 102 (c102 m102) := s102 _ sat103 m102 fun x t h => by
  obtain ⟨bs, y, u⟩ := x
  unfold m102 at h
  split at h
  · rename_i hc
    obtain ⟨hr, hb⟩ := hc
    cases h
    simp only at hr hb
    have hb' : bs.length ≤ 1000000000000 := hb
    have hle : plB bs y ≤ bs.length := low_le _ bs
    refine ⟨bs.length + 1, ?_⟩
    show g102 _ _ bs y u = some ((plB bs y : Int), hasB bs y)
    unfold g102
    rw [el102]
    refine (bsL_ok bs.length _ (fun j => cmpI (bs.getD j dBk).1 y) (by omega) (fun _ _ => rfl) (plB bs y) (fun j hj => ?_) (fun j h1 h2 => cmpI_pos.2 (ris_high hr h1 h2)) _ (bs.length + 1) 0 bs.length (by omega) hle (Nat.le_refl _) (by omega)).trans ?_
    · have := low_lt (fun b : Bk => decide (b.1 < y)) dBk bs j hj
      exact cmpI_neg.2 (by simpa using this)
    · rw [ris_has hr]
      by_cases hl : plB bs y < bs.length
      · rw [dt (show (plB bs y : Int) < (bs.length : Int) by omega), dt (show (0 : Int) ≤ (plB bs y : Int) by omega), dt hl, Bool.and_self, cond_true, cond_true, tst_some, Int.toNat_natCast, Bool.true_and]
        show some ((plB bs y : Int), cmpI (bs.getD (plB bs y) dBk).1 y == 0) = _
        by_cases he : (bs.getD (plB bs y) dBk).1 = y
        · rw [beq_iff_eq.2 he, beq_iff_eq.2 (cmpI_zero.2 he)]
        · rw [beq_eq_false_iff_ne.2 he, beq_eq_false_iff_ne.2 (fun h => he (cmpI_zero.1 h))]
      · rw [df (show ¬ (plB bs y : Int) < (bs.length : Int) by omega), df hl, cond_false, Bool.false_and]
  · cases h
def m55 (x : List Bk × Int) : Option (Int × Bool) := if ris x.1 ∧ x.1.length ≤ big then some ((plB x.1 x.2 : Int), hasB x.1 x.2) else none
theorem sat55 : Sat prog cxT 55 (c55 m55) := s55 m102 sat102 m55 fun x t h => by
  obtain ⟨bs, y⟩ := x
  unfold m55 at h
  split at h
  · rename_i hc
    cases h
    refine ⟨0, ?_⟩
    show g55 m102 0 bs y = _
    unfold g55
    rw [show m102 (bs, y, PUnit.unit) = some ((plB bs y : Int), hasB bs y) from if_pos hc, tst_some]
  · cases h
def orI : List Int → Int
  | [] => 0
  | x :: r => if x = 0 then orI r else x
theorem p137 (L : Nat) (a : List Int) (ha : a.length ≤ big) : ∀ (n i : Nat), i ≤ a.length → a.length < n + i → l137_0 L a n i (some 0) = some (orI (a.drop i))
  | 0, i, h2, h3 => by omega
  | n + 1, i, h2, h3 => by
    unfold l137_0
    unfold big at ha
    by_cases hi : i < a.length
    · rw [Int.toNat_natCast]
      simp (disch := omega) only [dt, wi, cond_true, Bool.and_self]
      rw [drop_cons 0 hi]
      unfold orI
      by_cases h0 : a.getD i 0 = 0
      · rw [bneF h0, cond_false, if_pos h0]; exact p137 L a ha n (i + 1) (by omega) (by omega)
      · rw [bneT h0, cond_true, if_neg h0]
    · simp (disch := omega) only [df, cond_false]
      rw [List.drop_eq_nil_of_le (by omega)]; rfl
def m137 (a : List Int) : Option Int := if a.length ≤ big then some (orI a) else none
theorem sat137 : Sat prog cxT 137 (c137 m137) := s137 m137 fun x t h => by
  unfold m137 at h
  split at h
  · rename_i hc
    cases h
    exact ⟨x.length + 1, p137 _ x hc _ 0 (by omega) (by omega)⟩
  · cases h
def cmpV (a b : Vp) : Int := orI [cmpI a.1 b.1, cmpI a.2.1 b.2.1, cmpI a.2.2.1 b.2.2.1]
theorem sat94 : Sat prog cxT 94 (c94 fun x => some (cmpV x.1 x.2)) := s94 _ m137 sat104 sat137 _ fun x t h => by
  obtain ⟨⟨a, b, c, d⟩, a', b', c', d'⟩ := x
  cases h
  exact ⟨0, rfl⟩
theorem cmpV_le {a b : Vp} : cmpV a b ≤ 0 ↔ beh b a = false := by
  have key : cmpV a b ≤ 0 ↔ ¬ beh b a = true := by
    unfold cmpV orI orI orI orI beh cmpI
    by_cases h1 : b.1 = a.1
    · rw [if_pos h1]
      by_cases h2 : b.2.1 = a.2.1
      · rw [if_pos h2]
        simp only [h1, h2, Int.lt_irrefl, if_false, if_true, decide_eq_true_eq]
        split <;> (try split) <;> (try split) <;> omega
      · rw [if_neg h2]
        simp only [h1, Int.lt_irrefl, if_false, if_true, decide_eq_true_eq]
        by_cases h3 : a.2.1 < b.2.1
        · simp only [h3, if_true]; simp; omega
        · have h4 : b.2.1 < a.2.1 := by omega
          simp only [h3, h4, if_false, if_true]; simp
    · rw [if_neg h1]
      simp only [decide_eq_true_eq]
      by_cases h3 : a.1 < b.1
      · simp only [h3, if_true]; simp; omega
      · have h4 : b.1 < a.1 := by omega
        simp only [h3, h4, if_false, if_true]; simp
  rw [key]; simp

/-! names -/
theorem p95_0 (bs : List Bk) (hr : ris bs) (hb : bs.length ≤ big) (L : Nat) (ns : List Int) (hn : ns.length ≤ big) (k : Option Int) : ∀ (n i : Nat), i ≤ ns.length → ns.length < n + i → l95_0 m55 L ns bs n i k = if fst (knN bs ns) (ns.length - i) i = 0 then k else some 4
  | 0, i, h2, h3 => by omega
  | n + 1, i, h2, h3 => by
    unfold l95_0
    have hn' : ns.length ≤ 1000000000000 := hn
    by_cases hi : i < ns.length
    · rw [Int.toNat_natCast]
      simp (disch := omega) only [dt, wi, cond_true, Bool.and_self]
      rw [fst_step hi, show m55 (bs, ns.getD i 0) = some ((plB bs (ns.getD i 0) : Int), hasB bs (ns.getD i 0)) from if_pos ⟨hr, hb⟩, tst_some]
      unfold knN
      by_cases hh : hasB bs (ns.getD i 0) = true
      · simp only [hh, if_true, Bool.not_true, cond_false]
        exact p95_0 bs hr hb L ns hn k n (i + 1) (by omega) (by omega)
      · simp only [show hasB bs (ns.getD i 0) = false by simpa using hh, Bool.false_eq_true, if_false, Bool.not_false, cond_true]
        rfl
    · simp (disch := omega) only [df, cond_false]
      rw [fst_done hi, if_pos rfl]
theorem p95_2 (bs : List Bk) (L : Nat) (ns : List Int) (hn : ns.length ≤ big) (k : Option Int) : ∀ (n i : Nat), i ≤ ns.length → ns.length < n + i → l95_2 m55 L ns bs n i k = if fst (rsN ns) (ns.length - i) i = 0 then k else some 1
  | 0, i, h2, h3 => by omega
  | n + 1, i, h2, h3 => by
    unfold l95_2
    have hn' : ns.length ≤ 1000000000000 := hn
    by_cases hi : i < ns.length
    · rw [dt (show (i : Int) < (ns.length : Int) by omega), dt (show (0 : Int) ≤ (i : Int) by omega), Bool.and_self, cond_true, cond_true, fst_step hi, wi (x := (i : Int) + 1) (by omega) (by omega)]
      have ih := p95_2 bs L ns hn k n (i + 1) (by omega) (by omega)
      by_cases h0 : 0 < i
      · rw [dt (show (i : Int) > 0 by omega), cond_true, wi (by omega) (by omega), dt (show (0 : Int) ≤ (i : Int) - 1 by omega), dt (show (i : Int) - 1 < (ns.length : Int) by omega), Bool.and_self, cond_true, toNat_pred h0, Int.toNat_natCast]
        by_cases hh : ns.getD i 0 ≤ ns.getD (i - 1) 0
        · have e : rsN ns i = 1 := if_pos ⟨h0, hh⟩
          rw [dt hh, cond_true, e]; rfl
        · have e : rsN ns i = 0 := if_neg fun h => hh h.2
          rw [df hh, cond_false, if_pos e]; exact ih
      · have e : rsN ns i = 0 := if_neg fun h => h0 h.1
        rw [df (show ¬ (i : Int) > 0 by omega), cond_false, if_pos e]; exact ih
    · simp (disch := omega) only [df, cond_false]
      rw [fst_done hi, if_pos rfl]
def m95 (x : List Int × List Bk) : Option Int := if ris x.2 ∧ x.2.length ≤ big ∧ x.1.length ≤ big then some (nF x.2 x.1) else none
theorem sat95 : Sat prog cxT 95 (c95 m95) := s95 m55 sat55 m95 fun x t h => by
  obtain ⟨ns, bs⟩ := x
  unfold m95 at h
  split at h
  · rename_i hc
    obtain ⟨hr, hb, hn⟩ := hc
    cases h
    refine ⟨ns.length + 1, ?_⟩
    show g95 m55 _ ns bs = some (nF bs ns)
    unfold g95
    refine (p95_0 bs hr hb _ ns hn _ _ 0 (by omega) (by omega)).trans ?_
    rw [Nat.sub_zero]
    unfold nF
    by_cases h : fst (knN bs ns) ns.length 0 = 0
    · rw [if_pos h, if_pos h]
      refine (p95_2 bs _ ns hn _ _ 0 (by omega) (by omega)).trans ?_
      rw [Nat.sub_zero]
      rcases rsN_val ns with h2 | h2
      · rw [if_pos h2, h2]
      · rw [if_neg (by rw [h2]; decide), h2]
    · rw [if_neg h, if_neg h]
  · cases h

/-! ConfigFault -/
abbrev vB : Bk → Option Bool := fun b => some (bkOk b)
abbrev vV : Vp → Option Bool := fun v => some (vpOk v)
abbrev vW : Vp × Vp → Option Int := fun x => some (cmpV x.1 x.2)
theorem p48_0 (M50 : Int → Option Bool) (L : Nat) (a : Int) (bs : List Bk) (vs : List Vp) (v : Int) (ws : List Vp) (hb : bs.length ≤ big) (k : Int → List Bk → List Vp → Option Int) :
    ∀ (n i : Nat), i ≤ bs.length → bs.length < n + i → l48_0 M50 vB vV vW m95 L a bs vs n v bs ws i k = if fst (bF bs) (bs.length - i) i = 0 then k v bs ws else some (fst (bF bs) (bs.length - i) i)
  | 0, i, h2, h3 => by omega
  | n + 1, i, h2, h3 => by
    unfold l48_0
    have hn' : bs.length ≤ 1000000000000 := hb
    by_cases hi : i < bs.length
    · rw [dt (show (i : Int) < (bs.length : Int) by omega), dt (show (0 : Int) ≤ (i : Int) by omega), Bool.and_self, cond_true, cond_true, tst_some, Int.toNat_natCast, fst_step hi, wi (x := (i : Int) + 1) (by omega) (by omega)]
      have ih := p48_0 M50 L a bs vs v ws hb k n (i + 1) (by omega) (by omega)
      by_cases hok : bkOk (bs.getD i dBk) = true
      · refine (congrArg (fun b => bif !b then _ else _) hok).trans ?_
        simp only [Bool.not_true, cond_false]
        by_cases h0 : 0 < i
        · rw [dt (show (i : Int) > 0 by omega), cond_true, wi (by omega) (by omega), dt (show (0 : Int) ≤ (i : Int) - 1 by omega), dt (show (i : Int) - 1 < (bs.length : Int) by omega), Bool.and_self, cond_true, toNat_pred h0]
          by_cases hh : (bs.getD i dBk).1 ≤ (bs.getD (i - 1) dBk).1
          · have e : bF bs i = 1 := by unfold bF; rw [if_pos hok, if_pos ⟨h0, hh⟩]
            rw [dt (c := (List.getD bs i (0, 0, 0, 0, false)).1 ≤ (List.getD bs (i - 1) (0, 0, 0, 0, false)).1) hh, cond_true, e]; rfl
          · have e : bF bs i = 0 := by unfold bF; rw [if_pos hok, if_neg (fun h => hh h.2)]
            rw [df (c := (List.getD bs i (0, 0, 0, 0, false)).1 ≤ (List.getD bs (i - 1) (0, 0, 0, 0, false)).1) hh, cond_false, if_pos e]
            exact ih
        · have e : bF bs i = 0 := by unfold bF; rw [if_pos hok, if_neg (fun h => h0 h.1)]
          rw [df (show ¬ (i : Int) > 0 by omega), cond_false, if_pos e]
          exact ih
      · have e : bF bs i = 3 := by unfold bF; rw [if_neg hok]
        refine (congrArg (fun b => bif !b then _ else _) (show bkOk (bs.getD i dBk) = false by simpa using hok)).trans ?_
        rw [e]; rfl
    · rw [df (show ¬ (i : Int) < (bs.length : Int) by omega), cond_false, fst_done hi, if_pos rfl]
theorem p48_2 (M50 : Int → Option Bool) (M51 : Bk → Option Bool) (L : Nat) (a : Int) (as0 : List Bk) (us : List Vp) (v : Int) (bs : List Bk) (vs : List Vp) (hr : ris bs) (hok : okC (v, bs, vs)) (k : Option Int) :
    ∀ (n i : Nat), i ≤ vs.length → vs.length < n + i → l48_2 M50 M51 vV vW m95 L a as0 us n v bs vs vs (vs.length : Int) i k = if fst (vF bs vs) (vs.length - i) i = 0 then k else some (fst (vF bs vs) (vs.length - i) i)
  | 0, i, h2, h3 => by omega
  | n + 1, i, h2, h3 => by
    unfold l48_2
    have hn' : vs.length ≤ 1000000000000 := hok.2.1
    by_cases hi : i < vs.length
    · rw [dt (show (i : Int) < (vs.length : Int) by omega), dt (show (0 : Int) ≤ (i : Int) by omega), Bool.and_self, cond_true, cond_true, tst_some, Int.toNat_natCast, fst_step hi, wi (x := (i : Int) + 1) (by omega) (by omega)]
      have ih := p48_2 M50 M51 L a as0 us v bs vs hr hok k n (i + 1) (by omega) (by omega)
      have en : m95 ((vs.getD i dVp).2.2.2, bs) = some (nF bs (vs.getD i dVp).2.2.2) := if_pos ⟨hr, hok.1, hok.2.2 _ (getD_mem dVp hi)⟩
      have tail : ∀ (e : vF bs vs i = nF bs (vs.getD i dVp).2.2.2), (tst (m95 ((vs.getD i dVp).2.2.2, bs)) 0 fun q => bif q != 0 then some q else l48_2 M50 M51 vV vW m95 L a as0 us n v bs vs vs (vs.length : Int) ((i : Int) + 1) k) = if vF bs vs i = 0 then (if fst (vF bs vs) (vs.length - (i + 1)) (i + 1) = 0 then k else some (fst (vF bs vs) (vs.length - (i + 1)) (i + 1))) else some (vF bs vs i) := fun e => by
        rw [en, tst_some, ← e]
        by_cases h : vF bs vs i = 0
        · rw [bneF h, cond_false, if_pos h]; exact ih
        · rw [bneT h, cond_true, if_neg h]
      have fin : ∀ X : Option Int, X = (if vF bs vs i = 0 then (if fst (vF bs vs) (vs.length - (i + 1)) (i + 1) = 0 then k else some (fst (vF bs vs) (vs.length - (i + 1)) (i + 1))) else some (vF bs vs i)) → X = if (if vF bs vs i = 0 then fst (vF bs vs) (vs.length - (i + 1)) (i + 1) else vF bs vs i) = 0 then k else some (if vF bs vs i = 0 then fst (vF bs vs) (vs.length - (i + 1)) (i + 1) else vF bs vs i) := fun X hX => by
        rw [hX]
        by_cases h : vF bs vs i = 0
        · simp only [h, if_true]
        · simp only [h, if_false]
      refine fin _ ?_
      by_cases hk : vpOk (vs.getD i dVp) = true
      · refine (congrArg (fun b => bif !b then _ else _) hk).trans ?_
        simp only [Bool.not_true, cond_false]
        by_cases h0 : 0 < i
        · rw [dt (show (i : Int) > 0 by omega), cond_true, wi (by omega) (by omega), dt (show (0 : Int) ≤ (i : Int) - 1 by omega), dt (show (i : Int) - 1 < (vs.length : Int) by omega), Bool.and_self, cond_true, toNat_pred h0, tst_some]
          by_cases hh : cmpV (vs.getD i dVp) (vs.getD (i - 1) dVp) ≤ 0
          · have e : vF bs vs i = 1 := by unfold vF; rw [if_pos hk, if_pos ⟨h0, cmpV_le.1 hh⟩]
            refine (congrArg (fun b => bif b then _ else _) (dt hh)).trans ?_
            rw [e]; rfl
          · have e : vF bs vs i = nF bs (vs.getD i dVp).2.2.2 := by unfold vF; rw [if_pos hk, if_neg (fun h => hh (cmpV_le.2 h.2))]
            refine (congrArg (fun b => bif b then _ else _) (df hh)).trans ?_
            exact tail e
        · have e : vF bs vs i = nF bs (vs.getD i dVp).2.2.2 := by unfold vF; rw [if_pos hk, if_neg (fun h => h0 h.1)]
          rw [df (show ¬ (i : Int) > 0 by omega), cond_false]
          exact tail e
      · have e : vF bs vs i = 3 := by unfold vF; rw [if_neg hk]
        refine (congrArg (fun b => bif !b then _ else _) (show vpOk (vs.getD i dVp) = false by simpa using hk)).trans ?_
        rw [e]; rfl
    · rw [df (show ¬ (i : Int) < (vs.length : Int) by omega), cond_false, fst_done hi, if_pos rfl]
theorem sat48 : Sat prog cxT 48 (c48 mCF) := s48 _ _ _ _ m95 sat91 sat92 sat93 sat94 sat95 mCF fun x t h => by
  obtain ⟨a, b, c⟩ := x
  unfold mCF at h
  split at h
  · rename_i hc
    cases h
    refine ⟨b.length + c.length + 1, ?_⟩
    show g48 _ _ _ _ m95 _ a b c = some (cF (a, b, c))
    unfold g48 cF
    simp only [tst_some]
    cases hv : vrOk a
    · simp
    · simp only [Bool.not_true, cond_false, if_true]
      by_cases h8 : 8 < b.length
      · rw [dt (show (b.length : Int) > 8 by omega), cond_true, if_pos (.inl h8)]
      · rw [df (show ¬ (b.length : Int) > 8 by omega), cond_false]
        by_cases h4 : 4 < c.length
        · rw [dt (show (c.length : Int) > 4 by omega), cond_true, if_pos (.inr h4)]
        · rw [df (show ¬ (c.length : Int) > 4 by omega), cond_false, if_neg (by omega)]
          refine (p48_0 _ _ a b c a c hc.1 _ _ 0 (by omega) (by omega)).trans ?_
          rw [Nat.sub_zero]
          by_cases e : fst (bF b) b.length 0 = 0
          · rw [if_pos e, if_pos e]
            refine (p48_2 _ _ _ a b c a b c (ris_of fun j hj => fst_zero.1 e j (Nat.zero_le _) (by omega)) hc _ _ 0 (by omega) (by omega)).trans ?_
            rw [Nat.sub_zero]
            split
            · rename_i e2; rw [e2]
            · rfl
          · rw [if_neg e, if_neg e]
  · cases h

end Go.Proofs.Try

set_option maxHeartbeats 0
set_option linter.unusedVariables false
set_option linter.unusedSimpArgs false
namespace Go.Proofs.Try
open Go Go.VM Go.RowKit

theorem small_ok {c : Cg} (h : ¬ szv 1048576 (wC c) < 0) : okM c ∧ okC c := by
  obtain ⟨h1, h2, h3⟩ := wC_small (c := c) (by omega)
  unfold okM okC mid big
  exact ⟨⟨by omega, by omega, fun v hv => by have := h3 v hv; omega⟩, by omega, by omega, fun v hv => by have := h3 v hv; omega⟩
theorem sz_at {c : Cg} (h : okZ c) : m27 (c, 1048576) = some (szv 1048576 (wC c)) := if_pos ⟨by simp only; omega, by simp only; omega, h⟩

/-! FnExactConfigFault -/
abbrev Fl := Int × Int × Int × Int × Int
/-- Vips rise. -/
def risV (vs : List Vp) : Prop := ∀ i j, i < j → j < vs.length → beh (vs.getD i dVp) (vs.getD j dVp) = true
instance (vs : List Vp) : Decidable (risV vs) := by
  have : risV vs ↔ ∀ j, j < vs.length → ∀ i, i < j → beh (vs.getD i dVp) (vs.getD j dVp) = true := ⟨fun h j hj i hi => h i j hi hj, fun h i j hi hj => h j hj i hi⟩
  exact decidable_of_iff _ this.symm
abbrev Sh := Int × Int
def pick (bs : List Bk) (y : Int) : List Sh := if (bs.getD (plB bs y) dBk).2.2.2.2 = true ∧ (bs.getD (plB bs y) dBk).2.2.2.1 = 1 then [(y, (bs.getD (plB bs y) dBk).2.2.1)] else []
theorem known {bs : List Bk} {vs : List Vp} (h : ∀ j, j < vs.length → vF bs vs j = 0) {j : Nat} (hj : j < vs.length) {i : Nat} (hi : i < (vs.getD j dVp).2.2.2.length) : hasB bs ((vs.getD j dVp).2.2.2.getD i 0) = true := by
  have h1 := h j hj
  unfold vF at h1
  split at h1
  · split at h1
    · exact absurd h1 (by decide)
    · unfold nF at h1
      split at h1
      · rename_i h2
        have := fst_zero.1 h2 i (Nat.zero_le _) (by omega)
        unfold knN at this
        split at this
        · assumption
        · exact absurd this (by decide)
      · exact absurd h1 (by decide)
  · exact absurd h1 (by decide)
def okS (c : Cg) (y : Int) : Prop := okM c ∧ cF c = 0 ∧ 0 ≤ y ∧ y < (c.2.2.length : Int)
instance (c : Cg) (y : Int) : Decidable (okS c y) := by unfold okS; infer_instance
def m84 (x : List Int × Int) : Option (Int × List Int) := g84 (x.1.length + 1) x.1 x.2
theorem sat84 : SatW prog cxT 84 (c84 m84).nres (c84 m84).n (c84 m84).F := s84 m84 fun x t h => ⟨_, h⟩
theorem p84 (L : Nat) (a : List Int) (c : Int) (N : Nat) (hN : N ≤ 1000000000000) (K : List Int → Int → Option (Int × List Int)) : ∀ (n i : Nat) (o : List Int) (q : Int), o.length = N → i ≤ N → N < n + i → 0 ≤ q → q + (N - i : Nat) ≤ 1000000000000000 →
    ∃ o', o'.length = N ∧ l84_0 L a c n o q i K = K o' (q + (N - i : Nat))
  | 0, i, o, q, _, h2, h3, _, _ => by omega
  | n + 1, i, o, q, h1, h2, h3, h4, h5 => by
    unfold l84_0
    by_cases hi : i < N
    · obtain ⟨o', k1, k2⟩ := p84 L a c N hN K n (i + 1) (o.set i q) (q + 1) (by rw [List.length_set]; exact h1) (by omega) (by omega) (by omega) (by omega)
      refine ⟨o', k1, ?_⟩
      rw [dt (show (i : Int) < (o.length : Int) by omega), dt (show (0 : Int) ≤ (i : Int) by omega), Bool.and_self, cond_true, cond_true, Int.toNat_natCast, wi (x := (i : Int) + 1) (by omega) (by omega), wi (x := q + 1) (by omega) (by omega)]
      refine k2.trans ?_
      congr 1
      omega
    · refine ⟨o, h1, ?_⟩
      rw [df (show ¬ (i : Int) < (o.length : Int) by omega), cond_false, show N - i = 0 by omega]
      simp
theorem m109_some {l : List Int} {q : Int} (hl : l.length ≤ 1000000000000) (h0 : 0 ≤ q) (h1 : q ≤ 100000000000000) : ∃ l', l'.length = l.length ∧ m84 (l, q) = some (q + (l.length : Int), l') := by
  obtain ⟨o', k1, k2⟩ := p84 (l.length + 1) l q l.length hl (fun o k => some (k, o)) (l.length + 1) 0 l q rfl (by omega) (by omega) h0 (by omega)
  exact ⟨o', k1, k2⟩
def m78 (x : List Bk × Int) : Option (Int × List Bk) := g78 (x.1.length + 1) x.1 x.2
theorem sat78 : SatW prog cxT 78 (c78 m78).nres (c78 m78).n (c78 m78).F := s78 m78 fun x t h => ⟨_, h⟩
theorem p78 (L : Nat) (a : List Bk) (c : Int) (N : Nat) (hN : N ≤ 1000000000) (K : List Bk → Int → Option (Int × List Bk)) : ∀ (n i : Nat) (o : List Bk) (q : Int), o.length = N → i ≤ N → N < n + i → 0 ≤ q → q + 5 * (N - i : Nat) ≤ 1000000000000000 →
    ∃ o', o'.length = N ∧ l78_0 L a c n o q i K = K o' (q + 5 * (N - i : Nat))
  | 0, i, o, q, _, h2, h3, _, _ => by omega
  | n + 1, i, o, q, h1, h2, h3, h4, h5 => by
    unfold l78_0
    by_cases hi : i < N
    · simp only [bnd_eq, List.length_set]
      rw [dt (show (i : Int) < (o.length : Int) by omega), dt (show (0 : Int) ≤ (i : Int) by omega), Bool.and_self]
      simp only [cond_true]
      rw [wi (x := (i : Int) + 1) (by omega) (by omega), wi (x := q + 1) (by omega) (by omega), wi (x := q + 1 + 1) (by omega) (by omega), wi (x := q + 1 + 1 + 1) (by omega) (by omega), wi (x := q + 1 + 1 + 1 + 1) (by omega) (by omega), wi (x := q + 1 + 1 + 1 + 1 + 1) (by omega) (by omega)]
      refine (p78 L a c N hN K n (i + 1) _ (q + 1 + 1 + 1 + 1 + 1) (by simp only [List.length_set]; exact h1) (by omega) (by omega) (by omega) (by omega)).imp fun o' k => ⟨k.1, k.2.trans ?_⟩
      congr 1
      omega
    · refine ⟨o, h1, ?_⟩
      rw [df (show ¬ (i : Int) < (o.length : Int) by omega), cond_false, show N - i = 0 by omega]
      simp
theorem m71_some {l : List Bk} {q : Int} (hl : l.length ≤ 1000000000) (h0 : 0 ≤ q) (h1 : q ≤ 100000000000000) : ∃ l', m78 (l, q) = some (q + 5 * (l.length : Int), l') := by
  obtain ⟨o', k1, k2⟩ := p78 (l.length + 1) l q l.length hl (fun o k => some (k, o)) (l.length + 1) 0 l q rfl (by omega) (by omega) h0 (by omega)
  exact ⟨o', k2⟩
def m79 (x : List Vp × Int) : Option (Int × List Vp) := g79 m84 (x.1.length + 1) x.1 x.2
theorem sat79 : SatW prog cxT 79 (c79 m79).nres (c79 m79).n (c79 m79).F := s79 m84 sat84 m79 fun x t h => ⟨_, h⟩
theorem p79 (L : Nat) (a : List Vp) (c : Int) (N : Nat) (hN : N ≤ 1048576) (K : List Vp → Int → Option (Int × List Vp)) : ∀ (n i : Nat) (o : List Vp) (q : Int), o.length = N → (∀ v ∈ o, v.2.2.2.length ≤ 1048576) → i ≤ N → N < n + i → 0 ≤ q → q ≤ 10000000 + 2000000 * (i : Int) →
    ∃ o' q', 0 ≤ q' ∧ l79_0 m84 L a c n o q i K = K o' q'
  | 0, i, o, q, _, _, h2, h3, _, _ => by omega
  | n + 1, i, o, q, h1, hv, h2, h3, h4, h5 => by
    unfold l79_0
    by_cases hi : i < N
    · have hio : i < o.length := by omega
      simp only [bnd_eq, List.length_set]
      rw [dt (show (i : Int) < (o.length : Int) by omega), dt (show (0 : Int) ≤ (i : Int) by omega), Bool.and_self]
      simp only [cond_true]
      rw [wi (x := (i : Int) + 1) (by omega) (by omega), wi (x := q + 1) (by omega) (by omega), wi (x := q + 1 + 1) (by omega) (by omega), wi (x := q + 1 + 1 + 1) (by omega) (by omega)]
      simp only [Int.toNat_natCast, List.set_set]
      have eg : ∀ x : Vp, (o.set i x).getD i (0, 0, 0, []) = x := fun x => by simp [List.getD, List.getElem?_set_self hio]
      simp only [eg]
      have hnl : (o.getD i dVp).2.2.2.length ≤ 1048576 := hv _ (getD_mem dVp hio)
      have hnl' : (o.getD i (0, 0, 0, [])).2.2.2.length ≤ 1048576 := hnl
      obtain ⟨l', e1, e2⟩ := m109_some (l := (o.getD i (0, 0, 0, [])).2.2.2) (q := q + 1 + 1 + 1) (by omega) (by omega) (by omega)
      rw [e2, tst_some]
      refine p79 L a c N hN K n (i + 1) _ _ (by rw [List.length_set]; exact h1) (fun v hvm => ?_) (by omega) (by omega) (by simp only; omega) (by simp only; omega)
      rcases List.mem_or_eq_of_mem_set hvm with hvm | rfl
      · exact hv v hvm
      · show l'.length ≤ 1048576
        rw [e1]; exact hnl'
    · refine ⟨o, q, h4, ?_⟩
      rw [df (show ¬ (i : Int) < (o.length : Int) by omega), cond_false]
theorem m72_some {l : List Vp} {q : Int} (hl : l.length ≤ 1048576) (hv : ∀ v ∈ l, v.2.2.2.length ≤ 1048576) (h0 : 0 ≤ q) (h1 : q ≤ 10000000) : ∃ l' q', 0 ≤ q' ∧ m79 (l, q) = some (q', l') := by
  obtain ⟨o', q', k1, k2⟩ := p79 (l.length + 1) l q l.length hl (fun o k => some (k, o)) (l.length + 1) 0 l q rfl hv (by omega) (by omega) h0 (by omega)
  exact ⟨o', q', k1, k2⟩
def m32 (x : Cg × Int) : Option (Int × Cg) := g32 m78 m79 0 x.1.1 x.1.2.1 x.1.2.2 x.2
theorem sat32 : SatW prog cxT 32 (c32 m32).nres (c32 m32).n (c32 m32).F := s32 m78 m79 sat78 sat79 m32 fun x t h => ⟨0, h⟩
theorem m32_some {c : Cg} (h1 : c.2.1.length ≤ 1048576) (h2 : c.2.2.length ≤ 1048576) (h3 : ∀ v ∈ c.2.2, v.2.2.2.length ≤ 1048576) : ∃ r : Int × Cg, 0 ≤ r.1 ∧ m32 (c, 1) = some r := by
  obtain ⟨l', e1⟩ := m71_some (l := c.2.1) (q := 1) (by omega) (by omega) (by omega)
  obtain ⟨l2, q', e2, e3⟩ := m72_some (l := c.2.2) (q := 1 + 5 * (c.2.1.length : Int)) h2 h3 (by omega) (by omega)
  refine ⟨(q', c.1, l', l2), e2, ?_⟩
  show g32 m78 m79 0 c.1 c.2.1 c.2.2 1 = _
  unfold g32
  rw [e1, tst_some, e3, tst_some]

/-! FnExactSharesFor -/
end Go.Proofs.Try
