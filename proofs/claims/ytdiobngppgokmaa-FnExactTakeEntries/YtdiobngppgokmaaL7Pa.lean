/- A part of the proof of FnExactTakeEntries: L7Pa, L7Pb. -/
import Derived.Test.YtdiobngppgokmaaVmPl
import Derived.Test.YtdiobngppgokmaaL7Fa
import Derived.Test.YtdiobngppgokmaaL7Fc
import Derived.Test.YtdiobngppgokmaaL7Fd
set_option maxHeartbeats 0
set_option linter.unusedVariables false
set_option linter.unusedSimpArgs false
namespace Go.Proofs.Try
open Go Go.VM Go.RowKit

abbrev Cm := Int × Int × Int × Int × Int × Int

/-! ### Numbers -/
def nmOk (x : Int) : Bool := decide (1 ≤ x ∧ x ≤ 999)
def adOk (x : Int) : Bool := decide (0 ≤ x ∧ x ≤ 4294967295)
def wtOk (x : Int) : Bool := decide (0 ≤ x ∧ x ≤ 9)
def stOk (x : Int) : Bool := decide (1 ≤ x ∧ x ≤ 3)
def ptOk (x : Int) : Bool := decide (0 ≤ x ∧ x ≤ 65535)
def prOk (x : Int) : Bool := decide (x = 6 ∨ x = 17)
def vrOk (x : Int) : Bool := decide (0 ≤ x ∧ x ≤ 1000000)

theorem bif_and {a b : Int} {x : Int} : (bif decide (x ≥ a) then some (decide (x ≤ b)) else some false) = some (decide (a ≤ x ∧ x ≤ b)) := by
  by_cases h : a ≤ x
  · rw [dt (show x ≥ a from h)]; simp [h]
  · rw [df (show ¬ x ≥ a from h)]; simp [h]
theorem bif_or {a b : Int} {x : Int} : (bif x == a then some true else some (x == b)) = some (decide (x = a ∨ x = b)) := by
  by_cases h : x = a
  · simp [h]
  · rw [beq_eq_false_iff_ne.2 h, cond_false]
    by_cases h2 : x = b
    · rw [beq_iff_eq.2 h2, dt (.inr h2)]
    · rw [beq_eq_false_iff_ne.2 h2, df (by rintro (h3 | h3) <;> contradiction)]
theorem sat36 : Sat prog cxT 36 (c36 fun x => some (decide (x.2.1 ≤ x.1 ∧ x.1 ≤ x.2.2))) := s36 _ fun x t h => by
  obtain ⟨x, a, b⟩ := x
  cases h
  exact ⟨0, bif_and⟩
theorem sat66 : Sat prog cxT 66 (c66 fun x => some (nmOk x)) := s66 _ fun x t h => by cases h; exact ⟨0, bif_and⟩
theorem sat68 : Sat prog cxT 68 (c68 fun x => some (wtOk x)) := s68 _ fun x t h => by cases h; exact ⟨0, bif_and⟩
theorem sat59 : Sat prog cxT 59 (c59 fun x => some (vrOk x)) := s59 _ fun x t h => by cases h; exact ⟨0, bif_and⟩
theorem sat67 : Sat prog cxT 67 (c67 fun x => some (adOk x)) := s67 _ fun x t h => by cases h; exact ⟨0, bif_and⟩
theorem sat71 : Sat prog cxT 71 (c71 fun x => some (stOk x)) := s71 _ fun x t h => by cases h; exact ⟨0, bif_and⟩
theorem sat74 : Sat prog cxT 74 (c74 fun x => some (ptOk x)) := s74 _ fun x t h => by cases h; exact ⟨0, bif_and⟩
theorem sat75 : Sat prog cxT 75 (c75 fun x => some (prOk x)) := s75 _ fun x t h => by cases h; exact ⟨0, bif_or⟩
theorem sat54 : Sat prog cxT 54 (c54 fun x => some (vrOk x)) := s54 _ sat36 _ fun x t h => by cases h; exact ⟨0, rfl⟩
theorem sat55 : Sat prog cxT 55 (c55 fun x => some (nmOk x)) := s55 _ sat36 _ fun x t h => by cases h; exact ⟨0, rfl⟩
theorem sat56 : Sat prog cxT 56 (c56 fun x => some (adOk x)) := s56 _ sat36 _ fun x t h => by cases h; exact ⟨0, rfl⟩
theorem sat58 : Sat prog cxT 58 (c58 fun x => some (prOk x)) := s58 _ fun x t h => by cases h; exact ⟨0, bif_or⟩
theorem sat65 : Sat prog cxT 65 (c65 fun x => some (ptOk x)) := s65 _ sat36 _ fun x t h => by cases h; exact ⟨0, rfl⟩
def top : Nat := 9223372036854775807
def mid : Nat := 1000000000
theorem szv_eq {v : Int} {n : Nat} (h0 : 0 ≤ v) (h1 : v ≤ 1048576) (hn : n ≤ top) : (bif decide (IntKind.wrap .i64 (v - (n : Int)) < 0) then some (-1) else some (IntKind.wrap .i64 (v - (n : Int)))) = some (szv v n) := by
  unfold top at hn
  rw [wi (by omega) (by omega)]
  unfold szv
  by_cases h : v - (n : Int) < 0
  · rw [dt h, if_pos h]; rfl
  · rw [df h, if_neg h]; rfl
theorem make_ok {n : Nat} (h : n ≤ mid) : ((decide ((0 : Int) ≤ (n : Int)) && decide ((n : Int) ≤ (n : Int))) && decide ((n : Int) ≤ (1000000000 : Int))) = true := by
  unfold mid at h
  rw [dt (by omega), dt (Int.le_refl _), dt (by omega)]; rfl
theorem bifeq {α : Type} [DecidableEq α] [BEq α] [LawfulBEq α] {a b : α} {o : Option Bool} {p : Prop} [Decidable p] (h : a = b → o = some (decide p)) (h2 : ¬ a = b → ¬ p) : (bif a != b then some false else o) = some (decide p) := by
  by_cases e : a = b
  · rw [bneF e, cond_false, h e]
  · rw [bneT e, cond_true, df (h2 e)]
theorem bifn {b : Bool} : (bif !b then some false else some true) = some b := by cases b <;> rfl
theorem beqF {a b : Int} (h : ¬ a = b) : (a == b) = false := by simpa using h
end Go.Proofs.Try

set_option maxHeartbeats 0
set_option linter.unusedVariables false
set_option linter.unusedSimpArgs false
namespace Go.Proofs.Try
open Go Go.VM Go.RowKit

/-! ### Entries: what laws do with them -/
abbrev En := Int × Int × Int × Int × Int × Int × Int × Int × Int
def dEn : En := (0, 0, 0, 0, 0, 0, 0, 0, 0)
instance decCm : DecidableEq Cm := inferInstance
instance decE1 : DecidableEq (Int × Cm) := instDecidableEqProd
instance decE2 : DecidableEq (Int × Int × Cm) := instDecidableEqProd
instance decEn : DecidableEq En := (instDecidableEqProd : DecidableEq (Int × Int × Int × Cm))
theorem sat38 : Sat prog cxT 38 (c38 fun x => some x) := s38 _ fun x t h => by cases h; exact ⟨0, rfl⟩
theorem sat12 : Sat prog cxT 12 (c12 fun x => some x) := s12 _ sat38 _ fun x t h => by cases h; exact ⟨0, rfl⟩
theorem sat45 : Sat prog cxT 45 (c45 fun x => some (decide (x.1 = x.2))) := s45 _ fun x t h => by
  obtain ⟨⟨a, b, c, d, e, f⟩, a', b', c', d', e', f'⟩ := x
  cases h
  refine ⟨0, ?_⟩
  show g45 0 a b c d e f a' b' c' d' e' f' = _
  unfold g45
  refine bifeq (fun e1 => bifeq (fun e2 => bifeq (fun e3 => bifeq (fun e4 => bifeq (fun e5 => bifeq (fun e6 => ?_) ?_) ?_) ?_) ?_) ?_) ?_
  · simp [e1, e2, e3, e4, e5, e6]
  · intro e h; simp at h; exact e h.2.2.2.2.2
  · intro e h; simp at h; exact e h.2.2.2.2.1
  · intro e h; simp at h; exact e h.2.2.2.1
  · intro e h; simp at h; exact e h.2.2.1
  · intro e h; simp at h; exact e h.2.1
  · intro e h; simp at h; exact e h.1
theorem sat21 : Sat prog cxT 21 (c21 fun x => some (decide (x.1 = x.2))) := s21 _ sat45 _ fun x t h => by
  obtain ⟨⟨t, c, s, q⟩, t', c', s', q'⟩ := x
  cases h
  refine ⟨0, ?_⟩
  show g21 (fun x => some (decide (x.1 = x.2))) 0 t c s q.1 q.2.1 q.2.2.1 q.2.2.2.1 q.2.2.2.2.1 q.2.2.2.2.2 t' c' s' q'.1 q'.2.1 q'.2.2.1 q'.2.2.2.1 q'.2.2.2.2.1 q'.2.2.2.2.2 = _
  unfold g21
  refine bifeq (fun e1 => bifeq (fun e2 => bifeq (fun e3 => ?_) ?_) ?_) ?_
  · rw [tst_some, bifn]; subst e1; subst e2; subst e3
    show some (decide (q = q')) = _
    simp
  · intro e h; simp at h; exact e h.2.2.1
  · intro e h; simp at h; exact e h.2.1
  · intro e h; simp at h; exact e h.1
def m14 (x : List En × Int) : Option Int := if x.1.length ≤ top ∧ 0 ≤ x.2 ∧ x.2 ≤ 1048576 then some (szv x.2 (x.1.length : Int)) else none
theorem sat14 : Sat prog cxT 14 (c14 m14) := s14 m14 fun x t h => by
  obtain ⟨a, v⟩ := x
  unfold m14 at h
  split at h
  · rename_i hc
    cases h
    exact ⟨0, szv_eq hc.2.1 hc.2.2 hc.1⟩
  · cases h
theorem el16 (L : Nat) (a : List En) : ∀ (n : Nat) (o : List En) (i : Int) (k : List En → Option (List En)), l16_0 (fun x => some x) L a n o i k = toL dEn (fun x => some x) a n o i k
  | 0, _, _, _ => rfl
  | n + 1, o, i, k => by
    unfold l16_0 toL
    simp only [tst_some, el16 L a n]
    rfl
def m16 (a : List En) : Option (List En) := if a.length ≤ mid then some a else none
theorem sat16 : Sat prog cxT 16 (c16 m16) := s16 _ sat12 m16 fun x t h => by
  unfold m16 at h
  split at h
  · rename_i ha
    cases h
    refine ⟨x.length + 1, ?_⟩
    unfold g16
    have ha' : x.length ≤ 1000000000 := ha
    rw [make_ok ha, cond_true, el16]
    exact toL_ok dEn (fun x => some x) x (by omega) (fun _ _ => rfl) (fun w => some w) _ 0 _ (by simp) (by omega) (by omega) rfl
  · cases h
theorem el18 (L : Nat) (a b : List En) : ∀ (n : Nat) (i : Int) (k : Option Bool), l18_0 (fun x => some (decide (x.1 = x.2))) L a b n i k = eqL dEn (fun x => some (decide (x.1 = x.2))) a b n i k
  | 0, _, _ => rfl
  | n + 1, i, k => by
    unfold l18_0 eqL
    simp only [tst_some, el18 L a b n]
    rfl
def m18 (x : List En × List En) : Option Bool := if x.1.length ≤ 1000000000000 then some (decide (x.1 = x.2)) else none
theorem sat18 : Sat prog cxT 18 (c18 m18) := s18 _ sat21 m18 fun x t h => by
  obtain ⟨a, b⟩ := x
  unfold m18 at h
  split at h
  · rename_i hc
    cases h
    refine ⟨a.length + 1, ?_⟩
    show g18 _ (a.length + 1) a b = _
    unfold g18
    by_cases e : a.length = b.length
    · rw [bneF (show ((a.length : Nat) : Int) = (b.length : Int) by omega), cond_false, el18]
      refine (eqL_ok dEn _ a b e (by simp only at hc; omega) (fun x _ y _ => rfl) (some true) _ 0 (by omega) (by omega)).trans ?_
      simp only [List.drop_zero]
      split <;> rename_i hh <;> simp [hh]
    · rw [bneT (show ¬ ((a.length : Nat) : Int) = (b.length : Int) by omega), cond_true]
      simp only
      rw [df (fun h => e (by rw [h]))]
  · cases h

/-! ### Marks -/
def mkE (v : Int) : En := (v, v + 1, v + 2, v + 3, v + 4, v + 5, v + 6, v + 7, v + 8)
def m27 (x : List En × Int) : Option (Int × List En) := if x.1.length ≤ 1000000000 ∧ 0 ≤ x.2 ∧ x.2 ≤ 100000000000 then some (x.2 + 9 * (x.1.length : Int), mkR mkE 9 x.1.length x.2) else none
theorem st27 (L : Nat) (a0 : List En) (a1 : Int) (n : Nat) (o : List En) (v : Int) (i : Nat) (K : List En → Int → Option (Int × List En)) (ho : o.length ≤ 1000000000) (hi : i < o.length) (h0 : 0 ≤ v) (h1 : v ≤ 1000000000000000) :
    l27_0 L a0 a1 (n + 1) o v i K = l27_0 L a0 a1 n (o.set i (mkE v)) (v + 9) ((i + 1 : Nat) : Int) K := by
  conv => lhs; unfold l27_0
  simp (disch := omega) only [List.length_modify, dt, wi, cond_true, Bool.and_self, Int.toNat_natCast, modify_modify', modify_const]
  rw [show v + 1 + 1 + 1 + 1 + 1 + 1 + 1 + 1 + 1 = v + 9 by omega, show (i : Int) + 1 = ((i + 1 : Nat) : Int) by omega]
  have e : (v, v + 1, v + 1 + 1, v + 1 + 1 + 1, v + 1 + 1 + 1 + 1, v + 1 + 1 + 1 + 1 + 1, v + 1 + 1 + 1 + 1 + 1 + 1, v + 1 + 1 + 1 + 1 + 1 + 1 + 1, v + 1 + 1 + 1 + 1 + 1 + 1 + 1 + 1) = mkE v := by
    unfold mkE
    simp only [Prod.mk.injEq, true_and]
    omega
  rw [e]
theorem sat27 : SatW prog cxT 27 (c27 m27).nres (c27 m27).n (c27 m27).F := s27 m27 fun x t h => by
  obtain ⟨o, v⟩ := x
  unfold m27 at h
  split at h
  · rename_i hc
    cases h
    simp only at hc
    refine ⟨o.length + 1, ?_⟩
    show g27 (o.length + 1) o v = _
    unfold g27
    refine (markRun mkE 9 1000000000000000 o.length (by omega) (fun n o' v' i' K => l27_0 (o.length + 1) o v n o' v' i' K) (fun n o' v' i' K hl h1 h2 h3 => st27 _ _ _ _ _ _ _ _ (by omega) h1 h2 h3)
      (fun n o' v' i' K hl h1 => ?_) (fun w0_0 w0_1 => some (w0_1, w0_0)) (o.length + 1) 0 o v rfl (by omega) (by omega) hc.2.1 (by omega)).trans ?_
    · show l27_0 _ _ _ (n + 1) o' v' i' K = _
      conv => lhs; unfold l27_0
      rw [df (by omega), cond_false]
    · simp
  · cases h
def m28 (x : (Int × List En) × Int) : Option (Int × Int × List En) := if x.1.2.length ≤ 1000000000 ∧ 0 ≤ x.2 ∧ x.2 ≤ 100000000000 then some (x.2 + 9 * (x.1.2.length : Int), x.1.1, mkR mkE 9 x.1.2.length x.2) else none
theorem sat28 : SatW prog cxT 28 (c28 m28).nres (c28 m28).n (c28 m28).F := s28 m27 sat27 m28 fun x t h => by
  obtain ⟨⟨c, o⟩, v⟩ := x
  unfold m28 at h
  split at h
  · rename_i hc
    cases h
    refine ⟨0, ?_⟩
    show g28 m27 0 c o v = _
    unfold g28
    rw [show m27 (o, v) = some (v + 9 * (o.length : Int), mkR mkE 9 o.length v) from if_pos hc, tst_some]
  · cases h
/-- Rows that were marked hold their marks. -/
def hdE (x : List En × Int) : Prop := x.1.length ≤ 1000000000 ∧ 0 ≤ x.2 ∧ x.2 ≤ 100000000000 ∧ x.1 = mkR mkE 9 x.1.length x.2
instance (x : List En × Int) : Decidable (hdE x) := by unfold hdE; infer_instance
def m49 (x : List En × Int) : Option Int := if hdE x then some (x.2 + 9 * (x.1.length : Int)) else none
theorem st49 (L : Nat) (a0 : List En) (a1 : Int) (n : Nat) (v : Int) (i : Nat) (K : Int → Option Int) (ho : a0.length ≤ 1000000000) (hi : i < a0.length) (h0 : 0 ≤ v) (h1 : v ≤ 1000000000000000) (hm : a0.getD i dEn = mkE v) :
    l49_0 L a0 a1 (n + 1) v i K = l49_0 L a0 a1 n (v + 9) ((i + 1 : Nat) : Int) K := by
  conv => lhs; unfold l49_0
  have hm' : a0.getD i (0, 0, 0, 0, 0, 0, 0, 0, 0) = mkE v := hm
  simp (disch := omega) only [dt, wi, cond_true, Bool.and_self, Int.toNat_natCast, hm']
  unfold mkE
  simp (disch := omega) only [bneF, cond_false]
  rw [show v + 1 + 1 + 1 + 1 + 1 + 1 + 1 + 1 + 1 = v + 9 by omega, show (i : Int) + 1 = ((i + 1 : Nat) : Int) by omega]
theorem sat49 : Sat prog cxT 49 (c49 m49) := s49 m49 fun x t h => by
  obtain ⟨a, v⟩ := x
  unfold m49 at h
  split at h
  · rename_i hc
    cases h
    obtain ⟨h1, h2, h3, h4⟩ := hc
    simp only at h1 h2 h3 h4
    refine ⟨a.length + 1, ?_⟩
    show g49 (a.length + 1) a v = _
    unfold g49
    have := heldRun dEn mkE 9 1000000000000000 (by omega) a.length v (fun n v' i' K => l49_0 (a.length + 1) a v n v' i' K) h2 (fun n v' i' K k1 k2 k3 k4 => st49 _ _ _ _ _ _ _ h1 k1 k2 k3 (by rw [← h4] at k4; exact k4))
      (fun n v' i' K k1 => by
        show l49_0 _ _ _ (n + 1) v' i' K = _
        conv => lhs; unfold l49_0
        rw [df (by omega), cond_false]) (by omega) (fun w0_1 => some w0_1) (a.length + 1) 0 (by omega) (by omega)
    simp only [Int.natCast_zero, Int.mul_zero, Int.add_zero] at this
    exact this
  · cases h
def m29 (x : (Int × List En) × Int) : Option Int := if hdE (x.1.2, x.2) then some (x.2 + 9 * (x.1.2.length : Int)) else none
theorem sat29 : Sat prog cxT 29 (c29 m29) := s29 m49 sat49 m29 fun x t h => by
  obtain ⟨⟨c, a⟩, v⟩ := x
  unfold m29 at h
  split at h
  · rename_i hc
    cases h
    refine ⟨0, ?_⟩
    show g29 m49 0 c a v = _
    unfold g29
    rw [show m49 (a, v) = some (v + 9 * (a.length : Int)) from if_pos hc, tst_some]
    have := hc.2.1
    simp only at this
    rw [df (by omega), cond_false]
  · cases h
theorem hd_mk {n : Nat} {v : Int} (hn : n ≤ 1000000000) (h0 : 0 ≤ v) (h1 : v ≤ 100000000000) : hdE (mkR mkE 9 n v, v) := ⟨by simp only [mkR_len]; exact hn, h0, h1, by simp only [mkR_len]⟩
def m26 (x : (Int × List En) × (Int × List En)) : Option Bool := if x.1.2.length ≤ 1000000000000 then some (decide (x.1 = x.2)) else none
theorem sat26 : Sat prog cxT 26 (c26 m26) := s26 m18 sat18 m26 fun x t h => by
  obtain ⟨⟨c, a⟩, d, b⟩ := x
  unfold m26 at h
  split at h
  · rename_i hc
    cases h
    refine ⟨0, ?_⟩
    show g26 m18 0 c a d b = _
    unfold g26
    refine bifeq (fun e1 => ?_) fun e h => e (by simpa using congrArg Prod.fst h)
    rw [show m18 (a, b) = some (decide (a = b)) from if_pos hc, tst_some, bifn]
    subst e1
    simp
  · cases h
end Go.Proofs.Try
