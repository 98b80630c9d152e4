/- A part of the proof of FnExactSpreadNode: LgPa, LgPb. -/
import Derived.Test.YtdnjjhambjafoaaGreatVmPl
import Derived.Test.YtdnjjhambjafoaaGreatLgFa
import Derived.Test.YtdnjjhambjafoaaGreatLgFc
set_option linter.unusedVariables false
set_option maxHeartbeats 0
set_option linter.unusedSimpArgs false
namespace Go.Proofs.Tryz
open Go Go.VM Go.RowKit
abbrev Cm := Int × Int × Int × Int × Int × Int
def nmOk (x : Int) : Bool := decide (1 ≤ x ∧ x ≤ 999)
def adOk (x : Int) : Bool := decide (0 ≤ x ∧ x ≤ 4294967295)
def wtOk (x : Int) : Bool := decide (0 ≤ x ∧ x ≤ 9)
def stOk (x : Int) : Bool := decide (1 ≤ x ∧ x ≤ 3)
def ptOk (x : Int) : Bool := decide (0 ≤ x ∧ x ≤ 65535)
def prOk (x : Int) : Bool := decide (x = 6 ∨ x = 17)
def vrOk (x : Int) : Bool := decide (0 ≤ x ∧ x ≤ 1000000)
theorem bif_and {a b : Int} {x : Int} : (bif decide (x ≥ a) then some (decide (x ≤ b)) else some false) = some (decide (a ≤ x ∧ x ≤ b)) := by
  by_cases h : a ≤ x
  · rw [dt (show x ≥ a from h)]; simp [h]
  · rw [df (show ¬ x ≥ a from h)]; simp [h]
theorem bif_or {a b : Int} {x : Int} : (bif x == a then some true else some (x == b)) = some (decide (x = a ∨ x = b)) := by
  by_cases h : x = a
  · simp [h]
  · rw [beq_eq_false_iff_ne.2 h, cond_false]
    by_cases h2 : x = b
    · rw [beq_iff_eq.2 h2, dt (.inr h2)]
    · rw [beq_eq_false_iff_ne.2 h2, df (by rintro (h3 | h3) <;> contradiction)]
theorem sat94 : Sat prog cxT 94 (c94 fun x => some (decide (x.2.1 ≤ x.1 ∧ x.1 ≤ x.2.2))) := s94 _ fun x t h => by
  obtain ⟨x, a, b⟩ := x
  cases h
  exact ⟨0, bif_and⟩
theorem sat157 : Sat prog cxT 157 (c157 fun x => some (nmOk x)) := s157 _ fun x t h => by cases h; exact ⟨0, bif_and⟩
theorem sat159 : Sat prog cxT 159 (c159 fun x => some (wtOk x)) := s159 _ fun x t h => by cases h; exact ⟨0, bif_and⟩
theorem sat141 : Sat prog cxT 141 (c141 fun x => some (vrOk x)) := s141 _ fun x t h => by cases h; exact ⟨0, bif_and⟩
theorem sat158 : Sat prog cxT 158 (c158 fun x => some (adOk x)) := s158 _ fun x t h => by cases h; exact ⟨0, bif_and⟩
theorem sat162 : Sat prog cxT 162 (c162 fun x => some (stOk x)) := s162 _ fun x t h => by cases h; exact ⟨0, bif_and⟩
theorem sat165 : Sat prog cxT 165 (c165 fun x => some (ptOk x)) := s165 _ fun x t h => by cases h; exact ⟨0, bif_and⟩
theorem sat166 : Sat prog cxT 166 (c166 fun x => some (prOk x)) := s166 _ fun x t h => by cases h; exact ⟨0, bif_or⟩
theorem sat136 : Sat prog cxT 136 (c136 fun x => some (vrOk x)) := s136 _ sat94 _ fun x t h => by cases h; exact ⟨0, rfl⟩
theorem sat137 : Sat prog cxT 137 (c137 fun x => some (nmOk x)) := s137 _ sat94 _ fun x t h => by cases h; exact ⟨0, rfl⟩
theorem sat138 : Sat prog cxT 138 (c138 fun x => some (adOk x)) := s138 _ sat94 _ fun x t h => by cases h; exact ⟨0, rfl⟩
theorem sat140 : Sat prog cxT 140 (c140 fun x => some (prOk x)) := s140 _ fun x t h => by cases h; exact ⟨0, bif_or⟩
theorem sat156 : Sat prog cxT 156 (c156 fun x => some (ptOk x)) := s156 _ sat94 _ fun x t h => by cases h; exact ⟨0, rfl⟩
def top : Nat := 9223372036854775807
def mid : Nat := 1000000000
theorem szv_eq {v : Int} {n : Nat} (h0 : 0 ≤ v) (h1 : v ≤ 1048576) (hn : n ≤ top) : (bif decide (IntKind.wrap .i64 (v - (n : Int)) < 0) then some (-1) else some (IntKind.wrap .i64 (v - (n : Int)))) = some (szv v n) := by
  unfold top at hn
  rw [wi (by omega) (by omega)]
  unfold szv
  by_cases h : v - (n : Int) < 0
  · rw [dt h, if_pos h]; rfl
  · rw [df h, if_neg h]; rfl
theorem make_ok {n : Nat} (h : n ≤ mid) : ((decide ((0 : Int) ≤ (n : Int)) && decide ((n : Int) ≤ (n : Int))) && decide ((n : Int) ≤ (1000000000 : Int))) = true := by
  unfold mid at h
  rw [dt (by omega), dt (Int.le_refl _), dt (by omega)]; rfl
theorem bifeq {α : Type} [DecidableEq α] [BEq α] [LawfulBEq α] {a b : α} {o : Option Bool} {p : Prop} [Decidable p] (h : a = b → o = some (decide p)) (h2 : ¬ a = b → ¬ p) : (bif a != b then some false else o) = some (decide p) := by
  by_cases e : a = b
  · rw [bneF e, cond_false, h e]
  · rw [bneT e, cond_true, df (h2 e)]
theorem bifn {b : Bool} : (bif !b then some false else some true) = some b := by cases b <;> rfl
theorem beqF {a b : Int} (h : ¬ a = b) : (a == b) = false := by simpa using h
end Go.Proofs.Tryz

namespace Go.Proofs.Tryz
open Go Go.VM Go.RowKit
abbrev En := Int × Int × Int × Int × Int × Int × Int × Int × Int
def dEn : En := (0, 0, 0, 0, 0, 0, 0, 0, 0)
instance decCm : DecidableEq Cm := inferInstance
instance decE1 : DecidableEq (Int × Cm) := instDecidableEqProd
instance decE2 : DecidableEq (Int × Int × Cm) := instDecidableEqProd
instance decEn : DecidableEq En := (instDecidableEqProd : DecidableEq (Int × Int × Int × Cm))
theorem sat85 : Sat prog cxT 85 (c85 fun x => some x) := s85 _ fun x t h => by cases h; exact ⟨0, rfl⟩
theorem sat30 : Sat prog cxT 30 (c30 fun x => some x) := s30 _ sat85 _ fun x t h => by cases h; exact ⟨0, rfl⟩
theorem sat129 : Sat prog cxT 129 (c129 fun x => some (decide (x.1 = x.2))) := s129 _ fun x t h => by
  obtain ⟨⟨a, b, c, d, e, f⟩, a', b', c', d', e', f'⟩ := x
  cases h
  refine ⟨0, ?_⟩
  show g129 0 a b c d e f a' b' c' d' e' f' = _
  unfold g129
  refine bifeq (fun e1 => bifeq (fun e2 => bifeq (fun e3 => bifeq (fun e4 => bifeq (fun e5 => bifeq (fun e6 => ?_) ?_) ?_) ?_) ?_) ?_) ?_
  · simp [e1, e2, e3, e4, e5, e6]
  · intro e h; simp at h; exact e h.2.2.2.2.2
  · intro e h; simp at h; exact e h.2.2.2.2.1
  · intro e h; simp at h; exact e h.2.2.2.1
  · intro e h; simp at h; exact e h.2.2.1
  · intro e h; simp at h; exact e h.2.1
  · intro e h; simp at h; exact e h.1
theorem sat100 : Sat prog cxT 100 (c100 fun x => some (decide (x.1 = x.2))) := s100 _ sat129 _ fun x t h => by
  obtain ⟨⟨t, c, s, q⟩, t', c', s', q'⟩ := x
  cases h
  refine ⟨0, ?_⟩
  show g100 (fun x => some (decide (x.1 = x.2))) 0 t c s q.1 q.2.1 q.2.2.1 q.2.2.2.1 q.2.2.2.2.1 q.2.2.2.2.2 t' c' s' q'.1 q'.2.1 q'.2.2.1 q'.2.2.2.1 q'.2.2.2.2.1 q'.2.2.2.2.2 = _
  unfold g100
  refine bifeq (fun e1 => bifeq (fun e2 => bifeq (fun e3 => ?_) ?_) ?_) ?_
  · rw [tst_some, bifn]; subst e1; subst e2; subst e3
    show some (decide (q = q')) = _
    simp
  · intro e h; simp at h; exact e h.2.2.1
  · intro e h; simp at h; exact e h.2.1
  · intro e h; simp at h; exact e h.1
def m40 (x : List En × Int) : Option Int := if x.1.length ≤ top ∧ 0 ≤ x.2 ∧ x.2 ≤ 1048576 then some (szv x.2 (x.1.length : Int)) else none
theorem sat40 : Sat prog cxT 40 (c40 m40) := s40 m40 fun x t h => by
  obtain ⟨a, v⟩ := x
  unfold m40 at h
  split at h
  · rename_i hc
    cases h
    exact ⟨0, szv_eq hc.2.1 hc.2.2 hc.1⟩
  · cases h
theorem el43 (L : Nat) (a : List En) : ∀ (n : Nat) (o : List En) (i : Int) (k : List En → Option (List En)), l43_0 (fun x => some x) L a n o i k = toL dEn (fun x => some x) a n o i k
  | 0, _, _, _ => rfl
  | n + 1, o, i, k => by
    unfold l43_0 toL
    simp only [tst_some, el43 L a n]
    rfl
def m43 (a : List En) : Option (List En) := if a.length ≤ mid then some a else none
theorem sat43 : Sat prog cxT 43 (c43 m43) := s43 _ sat30 m43 fun x t h => by
  unfold m43 at h
  split at h
  · rename_i ha
    cases h
    refine ⟨x.length + 1, ?_⟩
    unfold g43
    have ha' : x.length ≤ 1000000000 := ha
    rw [make_ok ha, cond_true, el43]
    exact toL_ok dEn (fun x => some x) x (by omega) (fun _ _ => rfl) (fun w => some w) _ 0 _ (by simp) (by omega) (by omega) rfl
  · cases h
theorem el57 (L : Nat) (a b : List En) : ∀ (n : Nat) (i : Int) (k : Option Bool), l57_0 (fun x => some (decide (x.1 = x.2))) L a b n i k = eqL dEn (fun x => some (decide (x.1 = x.2))) a b n i k
  | 0, _, _ => rfl
  | n + 1, i, k => by
    unfold l57_0 eqL
    simp only [tst_some, el57 L a b n]
    rfl
def m57 (x : List En × List En) : Option Bool := if x.1.length ≤ 1000000000000 then some (decide (x.1 = x.2)) else none
theorem sat57 : Sat prog cxT 57 (c57 m57) := s57 _ sat100 m57 fun x t h => by
  obtain ⟨a, b⟩ := x
  unfold m57 at h
  split at h
  · rename_i hc
    cases h
    refine ⟨a.length + 1, ?_⟩
    show g57 _ (a.length + 1) a b = _
    unfold g57
    by_cases e : a.length = b.length
    · rw [bneF (show ((a.length : Nat) : Int) = (b.length : Int) by omega), cond_false, el57]
      refine (eqL_ok dEn _ a b e (by simp only at hc; omega) (fun x _ y _ => rfl) (some true) _ 0 (by omega) (by omega)).trans ?_
      simp only [List.drop_zero]
      split <;> rename_i hh <;> simp [hh]
    · rw [bneT (show ¬ ((a.length : Nat) : Int) = (b.length : Int) by omega), cond_true]
      simp only
      rw [df (fun h => e (by rw [h]))]
  · cases h
def mkE (v : Int) : En := (v, v + 1, v + 2, v + 3, v + 4, v + 5, v + 6, v + 7, v + 8)
def m75 (x : List En × Int) : Option (Int × List En) := if x.1.length ≤ 1000000000 ∧ 0 ≤ x.2 ∧ x.2 ≤ 100000000000 then some (x.2 + 9 * (x.1.length : Int), mkR mkE 9 x.1.length x.2) else none
theorem st27 (L : Nat) (a0 : List En) (a1 : Int) (n : Nat) (o : List En) (v : Int) (i : Nat) (K : List En → Int → Option (Int × List En)) (ho : o.length ≤ 1000000000) (hi : i < o.length) (h0 : 0 ≤ v) (h1 : v ≤ 1000000000000000) :
    l75_0 L a0 a1 (n + 1) o v i K = l75_0 L a0 a1 n (o.set i (mkE v)) (v + 9) ((i + 1 : Nat) : Int) K := by
  conv => lhs; unfold l75_0 p75_0 p75_1 p75_2 p75_3 p75_4 p75_5 p75_6 p75_7 p75_8
  simp (disch := omega) only [List.length_modify, dt, wi, cond_true, Bool.and_self, Int.toNat_natCast, modify_modify', modify_const]
  rw [show v + 1 + 1 + 1 + 1 + 1 + 1 + 1 + 1 + 1 = v + 9 by omega, show (i : Int) + 1 = ((i + 1 : Nat) : Int) by omega]
  have e : (v, v + 1, v + 1 + 1, v + 1 + 1 + 1, v + 1 + 1 + 1 + 1, v + 1 + 1 + 1 + 1 + 1, v + 1 + 1 + 1 + 1 + 1 + 1, v + 1 + 1 + 1 + 1 + 1 + 1 + 1, v + 1 + 1 + 1 + 1 + 1 + 1 + 1 + 1) = mkE v := by
    unfold mkE
    simp only [Prod.mk.injEq, true_and]
    omega
  rw [e]
theorem sat75 : SatW prog cxT 75 (c75 m75).nres (c75 m75).n (c75 m75).F := s75 m75 fun x t h => by
  obtain ⟨o, v⟩ := x
  unfold m75 at h
  split at h
  · rename_i hc
    cases h
    simp only at hc
    refine ⟨o.length + 1, ?_⟩
    show g75 (o.length + 1) o v = _
    unfold g75
    refine (markRun mkE 9 1000000000000000 o.length (by omega) (fun n o' v' i' K => l75_0 (o.length + 1) o v n o' v' i' K) (fun n o' v' i' K hl h1 h2 h3 => st27 _ _ _ _ _ _ _ _ (by omega) h1 h2 h3)
      (fun n o' v' i' K hl h1 => ?_) (fun w0_0 w0_1 => some (w0_1, w0_0)) (o.length + 1) 0 o v rfl (by omega) (by omega) hc.2.1 (by omega)).trans ?_
    · show l75_0 _ _ _ (n + 1) o' v' i' K = _
      conv => lhs; unfold l75_0 p75_0 p75_1 p75_2 p75_3 p75_4 p75_5 p75_6 p75_7 p75_8
      rw [df (by omega), cond_false]
    · simp
  · cases h
def hdE (x : List En × Int) : Prop := x.1.length ≤ 1000000000 ∧ 0 ≤ x.2 ∧ x.2 ≤ 100000000000 ∧ x.1 = mkR mkE 9 x.1.length x.2
instance (x : List En × Int) : Decidable (hdE x) := by unfold hdE; infer_instance
def m109 (x : List En × Int) : Option Int := if hdE x then some (x.2 + 9 * (x.1.length : Int)) else none
theorem st49 (L : Nat) (a0 : List En) (a1 : Int) (n : Nat) (v : Int) (i : Nat) (K : Int → Option Int) (ho : a0.length ≤ 1000000000) (hi : i < a0.length) (h0 : 0 ≤ v) (h1 : v ≤ 1000000000000000) (hm : a0.getD i dEn = mkE v) :
    l109_0 L a0 a1 (n + 1) v i K = l109_0 L a0 a1 n (v + 9) ((i + 1 : Nat) : Int) K := by
  conv => lhs; unfold l109_0
  have hm' : a0.getD i (0, 0, 0, 0, 0, 0, 0, 0, 0) = mkE v := hm
  simp (disch := omega) only [dt, wi, cond_true, Bool.and_self, Int.toNat_natCast, hm']
  unfold mkE
  simp (disch := omega) only [bneF, cond_false]
  rw [show v + 1 + 1 + 1 + 1 + 1 + 1 + 1 + 1 + 1 = v + 9 by omega, show (i : Int) + 1 = ((i + 1 : Nat) : Int) by omega]
theorem sat109 : Sat prog cxT 109 (c109 m109) := s109 m109 fun x t h => by
  obtain ⟨a, v⟩ := x
  unfold m109 at h
  split at h
  · rename_i hc
    cases h
    obtain ⟨h1, h2, h3, h4⟩ := hc
    simp only at h1 h2 h3 h4
    refine ⟨a.length + 1, ?_⟩
    show g109 (a.length + 1) a v = _
    unfold g109
    have := heldRun dEn mkE 9 1000000000000000 (by omega) a.length v (fun n v' i' K => l109_0 (a.length + 1) a v n v' i' K) h2 (fun n v' i' K k1 k2 k3 k4 => st49 _ _ _ _ _ _ _ h1 k1 k2 k3 (by rw [← h4] at k4; exact k4))
      (fun n v' i' K k1 => by
        show l109_0 _ _ _ (n + 1) v' i' K = _
        conv => lhs; unfold l109_0
        rw [df (by omega), cond_false]) (by omega) (fun w0_1 => some w0_1) (a.length + 1) 0 (by omega) (by omega)
    simp only [Int.natCast_zero, Int.mul_zero, Int.add_zero] at this
    exact this
  · cases h
theorem hd_mk {n : Nat} {v : Int} (hn : n ≤ 1000000000) (h0 : 0 ≤ v) (h1 : v ≤ 100000000000) : hdE (mkR mkE 9 n v, v) := ⟨by simp only [mkR_len]; exact hn, h0, h1, by simp only [mkR_len]⟩
end Go.Proofs.Tryz
