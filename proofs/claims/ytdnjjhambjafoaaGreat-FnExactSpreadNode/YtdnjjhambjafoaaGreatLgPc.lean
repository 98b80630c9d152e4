/- A part of the proof of FnExactSpreadNode: LgPc, LgPl, LgPn, LgPo, LgPq, LgPr, LgPs. -/
import Derived.Test.YtdnjjhambjafoaaGreatLgPa
import Derived.Test.YtdnjjhambjafoaaGreatLgQc
import Derived.Test.YtdnjjhambjafoaaGreatLgFg
import Derived.Test.YtdnjjhambjafoaaGreatLgFi
set_option linter.unusedVariables false
set_option maxHeartbeats 0
set_option linter.unusedSimpArgs false
namespace Go.Proofs.Tryz
open Go Go.VM Go.RowKit
def tmOk (x : Int) : Bool := decide (1 ≤ x ∧ x ≤ 100000)
def clOk (x : Int) : Bool := decide (0 ≤ x ∧ x ≤ 999)
def sqOk (x : Int) : Bool := decide (0 ≤ x ∧ x ≤ 1000000)
theorem sat60 : Sat prog cxT 60 (c60 fun x => some (tmOk x)) := s60 _ fun x t h => by cases h; exact ⟨0, bif_and⟩
theorem sat116 : Sat prog cxT 116 (c116 fun x => some (clOk x)) := s116 _ fun x t h => by cases h; exact ⟨0, bif_and⟩
theorem sat117 : Sat prog cxT 117 (c117 fun x => some (sqOk x)) := s117 _ fun x t h => by cases h; exact ⟨0, bif_and⟩
def z6 (q : Cm) : Bool := (((((q.1 == 0) && (q.2.1 == 0)) && (q.2.2.1 == 0)) && (q.2.2.2.1 == 0)) && (q.2.2.2.2.1 == 0)) && (q.2.2.2.2.2 == 0)
def enF (x : En) : Int := bif !tmOk x.1 then 3 else bif !clOk x.2.1 then 3 else bif !sqOk x.2.2.1 then 3 else bif !((x.2.1 == 0) == (x.2.2.1 == 0)) then 1 else bif x.2.1 != 0 then cmF x.2.2.2 else bif !z6 x.2.2.2 then 1 else 0
def mEn (x : En) : Option Int := some (enF x)
theorem some_bif {α : Type} (b : Bool) (x y : α) : (bif b then some x else some y) = some (bif b then x else y) := by cases b <;> rfl
theorem sat86 : Sat prog cxT 86 (c86 mEn) := s86 _ _ _ m118 sat60 sat116 sat117 sat118 mEn fun x t h => by
  obtain ⟨t, c, s, q⟩ := x
  cases h
  refine ⟨0, ?_⟩
  show g86 _ _ _ m118 0 t c s q.1 q.2.1 q.2.2.1 q.2.2.2.1 q.2.2.2.2.1 q.2.2.2.2.2 = _
  unfold g86
  simp only [tst_some]
  rw [show m118 (q.1, (q.2.1, (q.2.2.1, (q.2.2.2.1, (q.2.2.2.2.1, q.2.2.2.2.2))))) = some (cmF q) from rfl, tst_some]
  simp only [some_bif]
  rfl
theorem sat83 : Sat prog cxT 83 (c83 mEn) := s83 _ m118 sat94 sat115 mEn fun x t h => by
  obtain ⟨t, c, s, q⟩ := x
  cases h
  refine ⟨0, ?_⟩
  show g83 _ m118 0 t c s q.1 q.2.1 q.2.2.1 q.2.2.2.1 q.2.2.2.2.1 q.2.2.2.2.2 = _
  unfold g83
  simp only [tst_some]
  rw [show m118 (q.1, (q.2.1, (q.2.2.1, (q.2.2.2.1, (q.2.2.2.2.1, q.2.2.2.2.2))))) = some (cmF q) from rfl, tst_some]
  simp only [some_bif]
  rfl
def lgE (a : List En) (i : Nat) : Int := if enF (a.getD i dEn) = 0 then (if 0 < i ∧ (a.getD i dEn).1 < (a.getD (i - 1) dEn).1 then 1 else 0) else enF (a.getD i dEn)
def logF (a : List En) : Int := if 40 < a.length then 2 else fst (lgE a) a.length 0
def mLog (a : List En) : Option Int := some (logF a)
theorem el96 (L : Nat) (a : List En) (ha : a.length ≤ 40) : ∀ (n i : Nat), i ≤ a.length → a.length < n + i → l96_0 mEn L a n i (some 0) = some (fst (lgE a) (a.length - i) i)
  | 0, i, h1, h2 => by omega
  | n + 1, i, h1, h2 => by
    unfold l96_0
    by_cases hi : i < a.length
    · simp (disch := omega) only [dt, cond_true, Bool.and_self, Int.toNat_natCast]
      have e0 : mEn ((a.getD i dEn).1, (a.getD i dEn).2.1, (a.getD i dEn).2.2.1, (a.getD i dEn).2.2.2.1, (a.getD i dEn).2.2.2.2.1, (a.getD i dEn).2.2.2.2.2.1, (a.getD i dEn).2.2.2.2.2.2.1, (a.getD i dEn).2.2.2.2.2.2.2.1, (a.getD i dEn).2.2.2.2.2.2.2.2) = some (enF (a.getD i dEn)) := rfl
      have e0' := e0
      unfold dEn at e0'
      rw [e0', tst_some]
      have ih := el96 L a ha n (i + 1) (by omega) (by omega)
      have es : a.length - i = (a.length - (i + 1)) + 1 := by omega
      rw [wi (x := (i : Int) + 1) (by omega) (by omega), show (i : Int) + 1 = ((i + 1 : Nat) : Int) by omega, ih, es, fst_succ]
      change (bif enF (a.getD i dEn) != 0 then some (enF (a.getD i dEn)) else _) = _
      by_cases h0 : enF (a.getD i dEn) = 0
      · rw [bneF h0, cond_false]
        have hE : lgE a i = if 0 < i ∧ (a.getD i dEn).1 < (a.getD (i - 1) dEn).1 then 1 else 0 := if_pos h0
        by_cases hp : 0 < i
        · rw [dt (show (i : Int) > 0 by omega), cond_true, wi (by omega) (by omega)]
          simp (disch := omega) only [dt, cond_true, Bool.and_self]
          rw [show ((i : Int) - 1).toNat = i - 1 by omega]
          change (bif decide ((a.getD i dEn).1 < (a.getD (i - 1) dEn).1) then _ else _) = _
          by_cases hl : (a.getD i dEn).1 < (a.getD (i - 1) dEn).1
          · rw [dt hl, cond_true, hE.trans (if_pos ⟨hp, hl⟩)]; rfl
          · rw [df hl, cond_false, hE.trans (if_neg fun h => hl h.2)]; rfl
        · rw [df (show ¬ (i : Int) > 0 by omega), cond_false, hE.trans (if_neg fun h => hp h.1)]; rfl
      · rw [bneT h0, cond_true]
        have : lgE a i = enF (a.getD i dEn) := if_neg h0
        rw [this, if_neg h0]
    · rw [df (by omega), cond_false]
      rw [show a.length - i = 0 by omega]
      rfl
theorem sat96 : Sat prog cxT 96 (c96 mLog) := s96 mEn sat83 mLog fun x t h => by
  cases h
  refine ⟨x.length + 1, ?_⟩
  show g96 mEn (x.length + 1) x = some (logF x)
  unfold g96 logF
  by_cases hc : 40 < x.length
  · rw [dt (show (x.length : Int) > 40 by omega), cond_true, if_pos hc]
  · rw [df (show ¬ (x.length : Int) > 40 by omega), cond_false, if_neg hc]
    exact el96 _ x (by omega) _ 0 (by omega) (by omega)
theorem en_term {x : En} (h : enF x = 0) : 1 ≤ x.1 := by
  unfold enF at h
  cases ht : tmOk x.1 with
  | true => have := of_decide_eq_true ht; omega
  | false => rw [ht] at h; simp at h
theorem el50 (L : Nat) (a : List En) (ha : a.length ≤ 40) : ∀ (n i : Nat) (p : Int), i ≤ a.length → a.length < n + i → (if i = 0 then p = 0 else p = (a.getD (i - 1) dEn).1) → l50_0 mEn L a n p i (some 0) = some (fst (lgE a) (a.length - i) i)
  | 0, i, p, h1, h2, _ => by omega
  | n + 1, i, p, h1, h2, h3 => by
    unfold l50_0
    by_cases hi : i < a.length
    · simp (disch := omega) only [dt, cond_true, Bool.and_self, Int.toNat_natCast]
      have e0 : mEn ((a.getD i dEn).1, (a.getD i dEn).2.1, (a.getD i dEn).2.2.1, (a.getD i dEn).2.2.2.1, (a.getD i dEn).2.2.2.2.1, (a.getD i dEn).2.2.2.2.2.1, (a.getD i dEn).2.2.2.2.2.2.1, (a.getD i dEn).2.2.2.2.2.2.2.1, (a.getD i dEn).2.2.2.2.2.2.2.2) = some (enF (a.getD i dEn)) := rfl
      have e0' := e0
      unfold dEn at e0'
      rw [e0', tst_some]
      have ih := el50 L a ha n (i + 1) (a.getD i dEn).1 (by omega) (by omega) (by rw [if_neg (by omega)]; rfl)
      have es : a.length - i = (a.length - (i + 1)) + 1 := by omega
      rw [wi (x := (i : Int) + 1) (by omega) (by omega), show (i : Int) + 1 = ((i + 1 : Nat) : Int) by omega, es, fst_succ]
      change (bif enF (a.getD i dEn) != 0 then some (enF (a.getD i dEn)) else bif decide ((a.getD i dEn).1 < p) then _ else l50_0 mEn L a n (a.getD i dEn).1 ((i + 1 : Nat) : Int) (some 0)) = _
      rw [ih]
      by_cases h0 : enF (a.getD i dEn) = 0
      · rw [bneF h0, cond_false]
        have h1t := en_term h0
        have hE : lgE a i = if 0 < i ∧ (a.getD i dEn).1 < (a.getD (i - 1) dEn).1 then 1 else 0 := if_pos h0
        by_cases hp : 0 < i
        · rw [if_neg (by omega)] at h3
          rw [h3]
          by_cases hl : (a.getD i dEn).1 < (a.getD (i - 1) dEn).1
          · rw [dt hl, cond_true, hE.trans (if_pos ⟨hp, hl⟩)]; rfl
          · rw [df hl, cond_false, hE.trans (if_neg fun h => hl h.2)]; rfl
        · rw [if_pos (by omega)] at h3
          rw [df (by omega), cond_false, hE.trans (if_neg fun h => hp h.1)]; rfl
      · rw [bneT h0, cond_true]
        have : lgE a i = enF (a.getD i dEn) := if_neg h0
        rw [this, if_neg h0]
    · rw [df (by omega), cond_false]
      rw [show a.length - i = 0 by omega]
      rfl
theorem sat50 : Sat prog cxT 50 (c50 mLog) := s50 mEn sat86 mLog fun x t h => by
  cases h
  refine ⟨x.length + 1, ?_⟩
  show g50 mEn (x.length + 1) x = some (logF x)
  unfold g50 logF
  by_cases hc : 40 < x.length
  · rw [dt (show (x.length : Int) > 40 by omega), cond_true, if_pos hc]
  · rw [df (show ¬ (x.length : Int) > 40 by omega), cond_false, if_neg hc]
    exact el50 _ x (by omega) _ 0 0 (by omega) (by omega) rfl
end Go.Proofs.Tryz

namespace Go.Proofs.Tryz
open Go Go.VM Go.RowKit
def lastE (a : List En) : En := a.getD (a.length - 1) dEn
def m99 (a : List En) : Option Int := some (a.length : Int)
theorem sat99 : Sat prog cxT 99 (c99 m99) := s99 m99 fun x t h => by cases h; exact ⟨0, rfl⟩
abbrev EnB := Int × Int × Int × Int × Int × Int × Int × Int × Int × Bool
def withB (x : En) (b : Bool) : EnB := (x.1, x.2.1, x.2.2.1, x.2.2.2.1, x.2.2.2.2.1, x.2.2.2.2.2.1, x.2.2.2.2.2.2.1, x.2.2.2.2.2.2.2.1, x.2.2.2.2.2.2.2.2, b)
def m98 (x : List En × Int) : Option EnB := if x.1.length ≤ mid then some (if 1 ≤ x.2 ∧ x.2 ≤ (x.1.length : Int) then withB (x.1.getD (x.2 - 1).toNat dEn) true else withB dEn false) else none
theorem sat98 : Sat prog cxT 98 (c98 m98) := s98 m99 sat99 m98 fun x t h => by
  obtain ⟨a, i⟩ := x
  unfold m98 at h
  split at h
  · rename_i hm
    have hm' : a.length ≤ 1000000000 := hm
    cases h
    refine ⟨0, ?_⟩
    show g98 m99 0 a i = _
    unfold g98
    rw [show m99 a = some (a.length : Int) from rfl, tst_some]
    by_cases h1 : i < 1
    · rw [dt h1, cond_true, if_neg (by simp only; omega)]; rfl
    · rw [df h1, cond_false]
      by_cases h2 : i > (a.length : Int)
      · rw [dt h2, cond_true, if_neg (by simp only; omega)]; rfl
      · rw [df h2, cond_false, if_pos (by simp only; omega)]
        simp (disch := omega) only [wi, dt, Bool.and_self, cond_true]
        rfl
  · cases h
def mLast (a : List En) : Option En := if a.length ≤ mid then some (lastE a) else none
theorem sat51 : Sat prog cxT 51 (c51 mLast) := s51 m99 m98 sat99 sat98 mLast fun a t h => by
  unfold mLast at h
  split at h
  · rename_i hm
    have hm' : a.length ≤ 1000000000 := hm
    cases h
    refine ⟨0, ?_⟩
    unfold g51
    rw [show m99 a = some (a.length : Int) from rfl, tst_some]
    by_cases h0 : a.length = 0
    · rw [show m98 (a, (a.length : Int)) = some (withB dEn false) from (if_pos hm).trans (by rw [if_neg (by simp only; omega)]), tst_some]
      have : a = [] := List.length_eq_zero_iff.1 h0
      subst this
      rfl
    · rw [show m98 (a, (a.length : Int)) = some (withB (lastE a) true) from (if_pos hm).trans (by rw [if_pos (by simp only; omega)]; unfold lastE; simp only; rw [show ((a.length : Int) - 1).toNat = a.length - 1 by omega]), tst_some]
      rfl
  · cases h
theorem sat66 : Sat prog cxT 66 (c66 mLast) := s66 mLast fun a t h => by
  unfold mLast at h
  split at h
  · rename_i hm
    have hm' : a.length ≤ 1000000000 := hm
    cases h
    refine ⟨0, ?_⟩
    unfold g66
    by_cases h0 : a.length = 0
    · have : a = [] := List.length_eq_zero_iff.1 h0
      subst this
      rfl
    · rw [beqF (by omega), cond_false]
      simp (disch := omega) only [wi, dt, Bool.and_self, cond_true]
      rw [show ((a.length : Int) - 1).toNat = a.length - 1 by omega]
      rfl
  · cases h
end Go.Proofs.Tryz

namespace Go.Proofs.Tryz
open Go Go.VM Go.RowKit
def m41 (x : List Int × Int) : Option Int := if 0 ≤ x.2 ∧ x.2 ≤ 1048576 ∧ x.1.length ≤ top then some (szv x.2 x.1.length) else none
theorem sat41 : Sat prog cxT 41 (c41 m41) := s41 m41 fun x t h => by
  obtain ⟨a, v⟩ := x
  unfold m41 at h
  split at h
  · rename_i hc; cases h; exact ⟨0, szv_eq hc.1 hc.2.1 hc.2.2⟩
  · cases h
theorem el44 (L : Nat) (a : List Int) : ∀ (n : Nat) (o : List Int) (i : Int) (k : List Int → Option (List Int)), l44_0 L a n o i k = toL 0 (fun x => some x) a n o i k
  | 0, _, _, _ => rfl
  | n + 1, o, i, k => by unfold l44_0 toL; simp only [el44 L a n, tst_some]
theorem make_ok' {n : Nat} (h : n ≤ mid) : ((decide ((0 : Int) ≤ (n : Int)) && decide ((n : Int) ≤ (n : Int))) && decide ((n : Int) ≤ (1000000000 : Int))) = true := by
  unfold mid at h
  rw [dt (by omega), dt (Int.le_refl _), dt (by omega)]; rfl
def m44 (a : List Int) : Option (List Int) := if a.length ≤ mid then some a else none
theorem sat44 : Sat prog cxT 44 (c44 m44) := s44 m44 fun x t h => by
  unfold m44 at h
  split at h
  · rename_i ha
    cases h
    refine ⟨x.length + 1, ?_⟩
    unfold g44
    rw [make_ok' ha, cond_true, el44, Int.toNat_natCast]
    unfold mid at ha
    exact toL_ok 0 _ x (by omega) (fun _ _ => rfl) _ _ 0 _ (by simp) (by omega) (by omega) rfl
  · cases h
theorem el58 (L : Nat) (a b : List Int) : ∀ (n : Nat) (i : Int) (k : Option Bool), l58_0 L a b n i k = eqL 0 (fun x => some (decide (x.1 = x.2))) a b n i k
  | 0, _, _ => rfl
  | n + 1, i, k => by
    unfold l58_0 eqL
    simp only [el58 L a b n, tst_some]
    congr 2
def m58 (x : List Int × List Int) : Option Bool := if x.1.length ≤ 1000000000000 then some (decide (x.1 = x.2)) else none
theorem sat58 : Sat prog cxT 58 (c58 m58) := s58 m58 fun x t h => by
  obtain ⟨a, b⟩ := x
  unfold m58 at h
  split at h
  · rename_i hc
    cases h
    have hc : a.length ≤ 1000000000000 := hc
    refine ⟨a.length + 1, ?_⟩
    show g58 (a.length + 1) a b = some (decide (a = b))
    unfold g58
    refine bifeq (fun e => ?_) fun e h => e (by rw [h])
    rw [el58]
    refine (eqL_ok 0 _ a b (by omega) (by omega) (fun _ _ _ _ => rfl) _ _ 0 (by omega) (by omega)).trans ?_
    simp only [List.drop_zero]
    split <;> rename_i hh <;> simp [hh]
  · cases h
abbrev Nd := Int × Int × Int × Int × List En × Int × Int × List Int × List Int × List Int
instance decN1 : DecidableEq (List Int × List Int × List Int) := inferInstance
instance decN2 : DecidableEq (Int × List Int × List Int × List Int) := instDecidableEqProd
instance decN3 : DecidableEq (Int × Int × List Int × List Int × List Int) := instDecidableEqProd
instance decN4 : DecidableEq (List En × Int × Int × List Int × List Int × List Int) := instDecidableEqProd
instance decN5 : DecidableEq (Int × List En × Int × Int × List Int × List Int × List Int) := instDecidableEqProd
instance decN6 : DecidableEq (Int × Int × List En × Int × Int × List Int × List Int × List Int) := instDecidableEqProd
instance decN7 : DecidableEq (Int × Int × Int × List En × Int × Int × List Int × List Int × List Int) := instDecidableEqProd
instance decNd : DecidableEq Nd := (instDecidableEqProd : DecidableEq (Int × Int × Int × Int × List En × Int × Int × List Int × List Int × List Int))
def wN (n : Nd) : Int := (n.2.2.2.2.1.length : Int) + n.2.2.2.2.2.2.2.1.length + n.2.2.2.2.2.2.2.2.1.length + n.2.2.2.2.2.2.2.2.2.length
def nLen (n : Nd) (B : Nat) : Prop := n.2.2.2.2.1.length ≤ B ∧ n.2.2.2.2.2.2.2.1.length ≤ B ∧ n.2.2.2.2.2.2.2.2.1.length ≤ B ∧ n.2.2.2.2.2.2.2.2.2.length ≤ B
instance (n : Nd) (B : Nat) : Decidable (nLen n B) := by unfold nLen; infer_instance
def m11 (x : Nd × Int) : Option Int := if 0 ≤ x.2 ∧ x.2 ≤ 1048576 ∧ nLen x.1 top then some (szv x.2 (wN x.1)) else none
theorem szv_neg {v w : Int} (h : v - w < 0) : szv v w = -1 := if_pos h
theorem szv_pos {v w : Int} (h : ¬ v - w < 0) : szv v w = v - w := if_neg h
theorem sat11 : Sat prog cxT 11 (c11 m11) := s11 m40 m41 sat40 sat41 m11 fun x t h => by
  obtain ⟨⟨a, b, c, d, lg, e, f, vt, nx, mt⟩, v⟩ := x
  unfold m11 at h
  split at h
  · rename_i hc
    cases h
    obtain ⟨h0, h1, h2, h3, h4, h5⟩ := hc
    simp only at h0 h1 h2 h3 h4 h5
    refine ⟨0, ?_⟩
    show g11 m40 m41 0 a b c d lg e f vt nx mt v = some (szv v ((lg.length : Int) + vt.length + nx.length + mt.length))
    have e1 : m40 (lg, v) = some (szv v lg.length) := if_pos ⟨h2, h0, h1⟩
    unfold g11
    rw [e1, tst_some]
    by_cases k1 : v - (lg.length : Int) < 0
    · rw [szv_neg k1, dt (by omega), cond_true, szv_neg (by omega)]
    rw [szv_pos k1, df k1, cond_false]
    have e2 : m41 (vt, v - lg.length) = some (szv (v - lg.length) vt.length) := if_pos ⟨by simp only; omega, by simp only; omega, h3⟩
    rw [e2, tst_some]
    by_cases k2 : v - (lg.length : Int) - vt.length < 0
    · rw [szv_neg k2, dt (by omega), cond_true, szv_neg (by omega)]
    rw [szv_pos k2, df k2, cond_false]
    have e3 : m41 (nx, v - lg.length - vt.length) = some (szv (v - lg.length - vt.length) nx.length) := if_pos ⟨by simp only; omega, by simp only; omega, h4⟩
    rw [e3, tst_some]
    by_cases k3 : v - (lg.length : Int) - vt.length - nx.length < 0
    · rw [szv_neg k3, dt (by omega), cond_true, szv_neg (by omega)]
    rw [szv_pos k3, df k3, cond_false]
    have e4 : m41 (mt, v - lg.length - vt.length - nx.length) = some (szv (v - lg.length - vt.length - nx.length) mt.length) := if_pos ⟨by simp only; omega, by simp only; omega, h5⟩
    rw [e4, tst_some]
    by_cases k4 : v - (lg.length : Int) - vt.length - nx.length - mt.length < 0
    · rw [szv_neg k4, dt (by omega), cond_true, szv_neg (by omega)]
    rw [szv_pos k4, df k4, cond_false, szv_pos (by omega)]
    congr 1
    omega
  · cases h
def m13 (n : Nd) : Option Nd := if nLen n mid then some n else none
theorem sat13 : Sat prog cxT 13 (c13 m13) := s13 m43 m44 sat43 sat44 m13 fun x t h => by
  obtain ⟨a, b, c, d, lg, e, f, vt, nx, mt⟩ := x
  unfold m13 at h
  split at h
  · rename_i hc
    cases h
    obtain ⟨h2, h3, h4, h5⟩ := hc
    refine ⟨0, ?_⟩
    show g13 m43 m44 0 a b c d lg e f vt nx mt = _
    unfold g13
    rw [show m43 lg = some lg from if_pos h2, tst_some, show m44 vt = some vt from if_pos h3, tst_some, show m44 nx = some nx from if_pos h4, tst_some, show m44 mt = some mt from if_pos h5, tst_some]
  · cases h
def m15 (x : Nd × Nd) : Option Bool := if nLen x.1 mid then some (decide (x.1 = x.2)) else none
theorem bifeq2 {p q : Prop} [Decidable p] [Decidable q] {o : Option Bool} (h : p → o = some (decide q)) (h2 : ¬ p → ¬ q) : (bif !decide p then some false else o) = some (decide q) := by
  by_cases hp : p
  · rw [dt hp]; exact h hp
  · rw [df hp, df (h2 hp)]; rfl
theorem sat15 : Sat prog cxT 15 (c15 m15) := s15 m57 m58 sat57 sat58 m15 fun x t h => by
  obtain ⟨⟨a, b, c, d, lg, e, f, vt, nx, mt⟩, a', b', c', d', lg', e', f', vt', nx', mt'⟩ := x
  unfold m15 at h
  split at h
  · rename_i hc
    cases h
    obtain ⟨h2, h3, h4, h5⟩ := hc
    simp only [mid] at h2 h3 h4 h5
    refine ⟨0, ?_⟩
    show g15 m57 m58 0 a b c d lg e f vt nx mt a' b' c' d' lg' e' f' vt' nx' mt' = _
    unfold g15
    rw [show m57 (lg, lg') = some (decide (lg = lg')) from if_pos (by simp only; omega), tst_some, show m58 (vt, vt') = some (decide (vt = vt')) from if_pos (by simp only; omega), tst_some, show m58 (nx, nx') = some (decide (nx = nx')) from if_pos (by simp only; omega), tst_some,
      show m58 (mt, mt') = some (decide (mt = mt')) from if_pos (by simp only; omega), tst_some]
    refine bifeq (fun e1 => bifeq (fun e2 => bifeq (fun e3 => bifeq (fun e4 => bifeq2 (fun e5 => bifeq (fun e6 => bifeq (fun e7 => bifeq2 (fun e8 => bifeq2 (fun e9 => bifeq2 (fun e10 => ?_) ?_) ?_) ?_) ?_) ?_) ?_) ?_) ?_) ?_) ?_
    · subst e1 e2 e3 e4 e5 e6 e7 e8 e9 e10; simp
    all_goals intro e h; simp only [Prod.mk.injEq] at h; obtain ⟨q1, q2, q3, q4, q5, q6, q7, q8, q9, q10⟩ := h; first | exact e q1 | exact e q2 | exact e q3 | exact e q4 | exact e q5 | exact e q6 | exact e q7 | exact e q8 | exact e q9 | exact e q10
  · cases h
end Go.Proofs.Tryz

namespace Go.Proofs.Tryz
open Go Go.VM Go.RowKit
def mkI (v : Int) : Int := v
def m76 (x : List Int × Int) : Option (Int × List Int) := if x.1.length ≤ 1000000000 ∧ 0 ≤ x.2 ∧ x.2 ≤ 100000000000 then some (x.2 + 1 * (x.1.length : Int), mkR mkI 1 x.1.length x.2) else none
theorem st48 (L : Nat) (a0 : List Int) (a1 : Int) (n : Nat) (o : List Int) (v : Int) (i : Nat) (K : List Int → Int → Option (Int × List Int)) (ho : o.length ≤ 1000000000) (hi : i < o.length) (h0 : 0 ≤ v) (h1 : v ≤ 1000000000000000) :
    l76_0 L a0 a1 (n + 1) o v i K = l76_0 L a0 a1 n (o.set i (mkI v)) (v + 1) ((i + 1 : Nat) : Int) K := by
  conv => lhs; unfold l76_0
  simp (disch := omega) only [dt, wi, cond_true, Bool.and_self, Int.toNat_natCast]
  rw [show (i : Int) + 1 = ((i + 1 : Nat) : Int) by omega]
  rfl
theorem sat76 : SatW prog cxT 76 (c76 m76).nres (c76 m76).n (c76 m76).F := s76 m76 fun x t h => by
  obtain ⟨o, v⟩ := x
  unfold m76 at h
  split at h
  · rename_i hc
    cases h
    simp only at hc
    refine ⟨o.length + 1, ?_⟩
    show g76 (o.length + 1) o v = _
    unfold g76
    refine (markRun mkI 1 1000000000000000 o.length (by omega) (fun n o' v' i' K => l76_0 (o.length + 1) o v n o' v' i' K) (fun n o' v' i' K hl h1 h2 h3 => st48 _ _ _ _ _ _ _ _ (by omega) h1 h2 h3)
      (fun n o' v' i' K hl h1 => ?_) (fun w0_0 w0_1 => some (w0_1, w0_0)) (o.length + 1) 0 o v rfl (by omega) (by omega) hc.2.1 (by omega)).trans ?_
    · show l76_0 _ _ _ (n + 1) o' v' i' K = _
      conv => lhs; unfold l76_0
      rw [df (by omega), cond_false]
    · simp
  · cases h
def hdI (x : List Int × Int) : Prop := x.1.length ≤ 1000000000 ∧ 0 ≤ x.2 ∧ x.2 ≤ 100000000000 ∧ x.1 = mkR mkI 1 x.1.length x.2
instance (x : List Int × Int) : Decidable (hdI x) := by unfold hdI; infer_instance
def m110 (x : List Int × Int) : Option Int := if hdI x then some (x.2 + 1 * (x.1.length : Int)) else none
theorem st50 (L : Nat) (a0 : List Int) (a1 : Int) (n : Nat) (v : Int) (i : Nat) (K : Int → Option Int) (ho : a0.length ≤ 1000000000) (hi : i < a0.length) (h0 : 0 ≤ v) (h1 : v ≤ 1000000000000000) (hm : a0.getD i 0 = mkI v) :
    l110_0 L a0 a1 (n + 1) v i K = l110_0 L a0 a1 n (v + 1) ((i + 1 : Nat) : Int) K := by
  conv => lhs; unfold l110_0
  simp (disch := omega) only [dt, wi, cond_true, Bool.and_self, Int.toNat_natCast, hm]
  unfold mkI
  simp (disch := omega) only [bneF, cond_false]
  rw [show (i : Int) + 1 = ((i + 1 : Nat) : Int) by omega]
theorem sat110 : Sat prog cxT 110 (c110 m110) := s110 m110 fun x t h => by
  obtain ⟨a, v⟩ := x
  unfold m110 at h
  split at h
  · rename_i hc
    cases h
    obtain ⟨h1, h2, h3, h4⟩ := hc
    simp only at h1 h2 h3 h4
    refine ⟨a.length + 1, ?_⟩
    show g110 (a.length + 1) a v = _
    unfold g110
    have := heldRun 0 mkI 1 1000000000000000 (by omega) a.length v (fun n v' i' K => l110_0 (a.length + 1) a v n v' i' K) h2 (fun n v' i' K k1 k2 k3 k4 => st50 _ _ _ _ _ _ _ h1 k1 k2 k3 (by rw [← h4] at k4; exact k4))
      (fun n v' i' K k1 => by
        show l110_0 _ _ _ (n + 1) v' i' K = _
        conv => lhs; unfold l110_0
        rw [df (by omega), cond_false]) (by omega) (fun w0_1 => some w0_1) (a.length + 1) 0 (by omega) (by omega)
    simp only [Int.natCast_zero, Int.mul_zero, Int.add_zero] at this
    exact this
  · cases h
def k1 (n : Nd) (v : Int) : Int := v + 9 * (n.2.2.2.2.1.length : Int)
def k2 (n : Nd) (v : Int) : Int := k1 n v + 1 * (n.2.2.2.2.2.2.2.1.length : Int)
def k3 (n : Nd) (v : Int) : Int := k2 n v + 1 * (n.2.2.2.2.2.2.2.2.1.length : Int)
def k4 (n : Nd) (v : Int) : Int := k3 n v + 1 * (n.2.2.2.2.2.2.2.2.2.length : Int)
def mkN (n : Nd) (v : Int) : Nd := (n.1, n.2.1, n.2.2.1, n.2.2.2.1, mkR mkE 9 n.2.2.2.2.1.length v, n.2.2.2.2.2.1, n.2.2.2.2.2.2.1, mkR mkI 1 n.2.2.2.2.2.2.2.1.length (k1 n v), mkR mkI 1 n.2.2.2.2.2.2.2.2.1.length (k2 n v), mkR mkI 1 n.2.2.2.2.2.2.2.2.2.length (k3 n v))
def m24 (x : Nd × Int) : Option (Int × Nd) := if nLen x.1 100000000 ∧ 0 ≤ x.2 ∧ x.2 ≤ 1000000000 then some (k4 x.1 x.2, mkN x.1 x.2) else none
theorem sat24 : SatW prog cxT 24 (c24 m24).nres (c24 m24).n (c24 m24).F := s24 m75 m76 sat75 sat76 m24 fun x t h => by
  obtain ⟨⟨a, b, c, d, lg, e, f, vt, nx, mt⟩, v⟩ := x
  unfold m24 at h
  split at h
  · rename_i hc
    cases h
    obtain ⟨⟨h2, h3, h4, h5⟩, h0, h1⟩ := hc
    simp only at h0 h1 h2 h3 h4 h5
    refine ⟨0, ?_⟩
    show g24 m75 m76 0 a b c d lg e f vt nx mt v = _
    unfold g24
    rw [show m75 (lg, v) = some (v + 9 * (lg.length : Int), mkR mkE 9 lg.length v) from if_pos ⟨by simp only; omega, h0, by simp only; omega⟩, tst_some,
      show m76 (vt, v + 9 * (lg.length : Int)) = some (v + 9 * (lg.length : Int) + 1 * (vt.length : Int), mkR mkI 1 vt.length (v + 9 * (lg.length : Int))) from if_pos ⟨by simp only; omega, by simp only; omega, by simp only; omega⟩, tst_some,
      show m76 (nx, v + 9 * (lg.length : Int) + 1 * (vt.length : Int)) = some (v + 9 * (lg.length : Int) + 1 * (vt.length : Int) + 1 * (nx.length : Int), mkR mkI 1 nx.length (v + 9 * (lg.length : Int) + 1 * (vt.length : Int))) from if_pos ⟨by simp only; omega, by simp only; omega, by simp only; omega⟩, tst_some,
      show m76 (mt, v + 9 * (lg.length : Int) + 1 * (vt.length : Int) + 1 * (nx.length : Int)) = some (v + 9 * (lg.length : Int) + 1 * (vt.length : Int) + 1 * (nx.length : Int) + 1 * (mt.length : Int), mkR mkI 1 mt.length (v + 9 * (lg.length : Int) + 1 * (vt.length : Int) + 1 * (nx.length : Int))) from if_pos ⟨by simp only; omega, by simp only; omega, by simp only; omega⟩, tst_some]
    rfl
  · cases h
def hdN (x : Nd × Int) : Prop := nLen x.1 100000000 ∧ 0 ≤ x.2 ∧ x.2 ≤ 1000000000 ∧ x.1 = mkN x.1 x.2
instance (x : Nd × Int) : Decidable (hdN x) := by unfold hdN; infer_instance
def m78 (x : Nd × Int) : Option Int := if hdN x then some (k4 x.1 x.2) else none
theorem sat78 : Sat prog cxT 78 (c78 m78) := s78 m109 m110 sat109 sat110 m78 fun x t h => by
  obtain ⟨⟨a, b, c, d, lg, e, f, vt, nx, mt⟩, v⟩ := x
  unfold m78 at h
  split at h
  · rename_i hc
    cases h
    obtain ⟨⟨h2, h3, h4, h5⟩, h0, h1, h6⟩ := hc
    simp only at h0 h1 h2 h3 h4 h5
    simp only [mkN, k1, k2, k3, Prod.mk.injEq] at h6
    obtain ⟨-, -, -, -, q1, -, -, q2, q3, q4⟩ := h6
    refine ⟨0, ?_⟩
    show g78 m109 m110 0 a b c d lg e f vt nx mt v = _
    unfold g78
    rw [show m109 (lg, v) = some (v + 9 * (lg.length : Int)) from if_pos ⟨by simp only; omega, h0, by simp only; omega, q1⟩, tst_some, df (by omega), cond_false,
      show m110 (vt, v + 9 * (lg.length : Int)) = some (v + 9 * (lg.length : Int) + 1 * (vt.length : Int)) from if_pos ⟨by simp only; omega, by simp only; omega, by simp only; omega, q2⟩, tst_some, df (by omega), cond_false,
      show m110 (nx, v + 9 * (lg.length : Int) + 1 * (vt.length : Int)) = some (v + 9 * (lg.length : Int) + 1 * (vt.length : Int) + 1 * (nx.length : Int)) from if_pos ⟨by simp only; omega, by simp only; omega, by simp only; omega, q3⟩, tst_some, df (by omega), cond_false,
      show m110 (mt, v + 9 * (lg.length : Int) + 1 * (vt.length : Int) + 1 * (nx.length : Int)) = some (v + 9 * (lg.length : Int) + 1 * (vt.length : Int) + 1 * (nx.length : Int) + 1 * (mt.length : Int)) from if_pos ⟨by simp only; omega, by simp only; omega, by simp only; omega, q4⟩, tst_some, df (by omega), cond_false]
    rfl
  · cases h
theorem mkN_len (n : Nd) (v : Int) {B : Nat} : nLen (mkN n v) B ↔ nLen n B := by simp only [nLen, mkN, mkR_len]
theorem mkN_mk (n : Nd) (v : Int) : mkN (mkN n v) v = mkN n v := by simp only [mkN, k1, k2, k3, mkR_len]
theorem k4_mk (n : Nd) (v : Int) : k4 (mkN n v) v = k4 n v := by simp only [k4, k3, k2, k1, mkN, mkR_len]
end Go.Proofs.Tryz

namespace Go.Proofs.Tryz
open Go Go.VM Go.RowKit
def m94 (x : Int × Int × Int) : Option Bool := some (decide (x.2.1 ≤ x.1 ∧ x.1 ≤ x.2.2))
def idOk (p i : Int) : Bool := decide (0 ≤ i ∧ i ≤ IntKind.wrap .i64 (p - 1))
def m95 (x : Nd × Int) : Option Bool := some (idOk x.1.2.1 x.2)
theorem sat95 : Sat prog cxT 95 (c95 m95) := s95 m94 sat94 m95 fun x t h => by cases h; exact ⟨0, rfl⟩
def alw (p : Nat → Bool) : Nat → Nat → Bool
  | 0, _ => true
  | n + 1, i => p i && alw p n (i + 1)
theorem alw_iff {p : Nat → Bool} : ∀ {n i : Nat}, alw p n i = true ↔ ∀ j, i ≤ j → j < i + n → p j = true
  | 0, i => ⟨fun _ j h1 h2 => by omega, fun _ => rfl⟩
  | n + 1, i => by
    show (p i && alw p n (i + 1)) = true ↔ _
    rw [Bool.and_eq_true, alw_iff]
    refine ⟨fun ⟨h1, h2⟩ j h3 h4 => ?_, fun h => ⟨h i (Nat.le_refl _) (by omega), fun j h3 h4 => h j (by omega) (by omega)⟩⟩
    rcases Nat.lt_or_ge i j with h5 | h5
    · exact h2 j h5 (by omega)
    · rw [show j = i by omega]; exact h1
def rises (a : List Int) : Bool := alw (fun i => decide (a.getD (i - 1) 0 < a.getD i 0)) (a.length - 1) 1
theorem el128 (L : Nat) (a : List Int) (ha : a.length ≤ 1000000000) (K : Option Bool) : ∀ (n i : Nat), 1 ≤ i → a.length < n + i → 1 ≤ n → l128_0 L a n (i : Int) K = bif alw (fun i => decide (a.getD (i - 1) 0 < a.getD i 0)) (a.length - i) i then K else some false
  | 0, i, h1, h, h9 => by omega
  | n + 1, i, h1, h, h9 => by
    unfold l128_0
    by_cases hi : i < a.length
    · simp (disch := omega) only [dt, wi, cond_true, Bool.and_self, Int.toNat_natCast]
      rw [show ((i : Int) - 1).toNat = i - 1 by omega, show a.length - i = a.length - (i + 1) + 1 by omega]
      unfold alw
      by_cases hq : a.getD i 0 ≤ a.getD (i - 1) 0
      · rw [dt hq, cond_true, df (by omega)]; rfl
      · rw [df hq, cond_false, show (i : Int) + 1 = ((i + 1 : Nat) : Int) by omega, el128 L a ha K n (i + 1) (by omega) (by omega) (by omega), dt (by omega), Bool.true_and]
    · rw [df (by omega), cond_false, show a.length - i = 0 by omega]
      rfl
def m128 (a : List Int) : Option Bool := if a.length ≤ mid then some (rises a) else none
theorem sat128 : Sat prog cxT 128 (c128 m128) := s128 m128 fun a t h => by
  unfold m128 at h
  split at h
  · rename_i hm
    cases h
    refine ⟨a.length + 1, ?_⟩
    unfold g128
    refine (el128 (a.length + 1) a hm (some true) (a.length + 1) 1 (by omega) (by omega) (by omega)).trans ?_
    unfold rises
    cases alw (fun i => decide (a.getD (i - 1) 0 < a.getD i 0)) (a.length - 1) 1 <;> rfl
  · cases h
def ids (p : Int) (a : List Int) : Bool := alw (fun i => idOk p (a.getD i 0)) a.length 0
theorem el97 (L : Nat) (x : Nd) (ha : x.2.2.2.2.2.2.2.1.length ≤ 1000000000) (K : Option Bool) : ∀ (n i : Nat), i ≤ x.2.2.2.2.2.2.2.1.length → x.2.2.2.2.2.2.2.1.length < n + i → l97_0 m128 m95 L x n (i : Int) K = bif alw (fun i => idOk x.2.1 (x.2.2.2.2.2.2.2.1.getD i 0)) (x.2.2.2.2.2.2.2.1.length - i) i then K else some false
  | 0, i, h0, h => by omega
  | n + 1, i, h0, h => by
    unfold l97_0
    by_cases hi : i < x.2.2.2.2.2.2.2.1.length
    · simp (disch := omega) only [dt, wi, cond_true, Bool.and_self, Int.toNat_natCast]
      rw [show m95 (x, x.2.2.2.2.2.2.2.1.getD i 0) = some (idOk x.2.1 (x.2.2.2.2.2.2.2.1.getD i 0)) from rfl, tst_some, show x.2.2.2.2.2.2.2.1.length - i = x.2.2.2.2.2.2.2.1.length - (i + 1) + 1 by omega]
      unfold alw
      cases hq : idOk x.2.1 (x.2.2.2.2.2.2.2.1.getD i 0)
      · rfl
      · rw [Bool.not_true, cond_false, show (i : Int) + 1 = ((i + 1 : Nat) : Int) by omega, el97 L x ha K n (i + 1) (by omega) (by omega), Bool.true_and]
    · rw [df (by omega), cond_false, show x.2.2.2.2.2.2.2.1.length - i = 0 by omega]
      rfl
def lists (x : Nd) : Bool := rises x.2.2.2.2.2.2.2.1 && (decide (x.2.2.2.2.2.2.2.1 = []) || x.2.2.2.2.2.1 == 1) && ids x.2.1 x.2.2.2.2.2.2.2.1 &&
  (decide ((x.2.2.2.2.2.2.2.2.1.length : Int) = if x.2.2.2.2.2.1 = 2 then x.2.1 else 0) && decide ((x.2.2.2.2.2.2.2.2.2.length : Int) = if x.2.2.2.2.2.1 = 2 then x.2.1 else 0))
def m97 (x : Nd) : Option Bool := if nLen x mid then some (lists x) else none
theorem tail39 (r p : Int) (a b : Nat) : (bif r == 2 then bif ((a : Int) == p) then some ((b : Int) == p) else some false else bif ((a : Int) == 0) then some ((b : Int) == 0) else some false) =
    some (decide ((a : Int) = if r = 2 then p else 0) && decide ((b : Int) = if r = 2 then p else 0)) := by
  have bq : ∀ x y : Int, (x == y) = decide (x = y) := fun x y => by by_cases h : x = y <;> simp [h]
  rw [bq, bq, bq, bq, bq]
  by_cases hr : r = 2
  · rw [dt hr, cond_true, if_pos hr]
    cases decide ((a : Int) = p) <;> rfl
  · rw [df hr, cond_false, if_neg hr]
    cases decide ((a : Int) = 0) <;> rfl
theorem sat97 : Sat prog cxT 97 (c97 m97) := s97 m128 m95 sat128 sat95 m97 fun x t h => by
  unfold m97 at h
  split at h
  · rename_i hm
    cases h
    obtain ⟨h1, h2, h3, h4⟩ := hm
    simp only [mid] at h1 h2 h3 h4
    refine ⟨x.2.2.2.2.2.2.2.1.length + 1, ?_⟩
    have e0 := fun K => el97 (x.2.2.2.2.2.2.2.1.length + 1) x h2 K (x.2.2.2.2.2.2.2.1.length + 1) 0 (by omega) (by omega)
    simp only [Int.natCast_zero, Nat.sub_zero] at e0
    show g97 m128 m95 _ x = _
    unfold g97
    rw [show m128 x.2.2.2.2.2.2.2.1 = some (rises x.2.2.2.2.2.2.2.1) from if_pos h2, tst_some, tail39, e0]
    unfold lists
    show _ = some (_ && _ && alw _ _ _ && _)
    cases rises x.2.2.2.2.2.2.2.1
    · rfl
    rw [Bool.not_true, cond_false, Bool.true_and]
    by_cases hv : x.2.2.2.2.2.2.2.1 = []
    · rw [hv]
      rfl
    · have hl : 0 < x.2.2.2.2.2.2.2.1.length := List.length_pos_iff.2 hv
      rw [dt (show (x.2.2.2.2.2.2.2.1.length : Int) > 0 by omega), cond_true, df hv, Bool.false_or]
      by_cases hr : x.2.2.2.2.2.1 = 1
      · rw [bneF hr, cond_false, show (x.2.2.2.2.2.1 == 1) = true by simpa using hr, Bool.true_and]
        cases alw (fun i => idOk x.2.1 (x.2.2.2.2.2.2.2.1.getD i 0)) x.2.2.2.2.2.2.2.1.length 0 <;> rfl
      · rw [show (x.2.2.2.2.2.1 != 1) = true by simpa using hr, cond_true, show (x.2.2.2.2.2.1 == 1) = false by simpa using hr]
        rfl
  · cases h
end Go.Proofs.Tryz

namespace Go.Proofs.Tryz
open Go Go.VM Go.RowKit
def nmOkN (x : Nd) (i : Nat) : Bool := decide (1 ≤ x.2.2.2.2.2.2.2.2.1.getD i 0 ∧ x.2.2.2.2.2.2.2.2.1.getD i 0 ≤ (x.2.2.2.2.1.length : Int) + 1) && decide (0 ≤ x.2.2.2.2.2.2.2.2.2.getD i 0 ∧ x.2.2.2.2.2.2.2.2.2.getD i 0 ≤ (x.2.2.2.2.1.length : Int))
theorem el42 (L : Nat) (x : Nd) (hl : nLen x mid) (he : x.2.2.2.2.2.2.2.2.2.length = x.2.2.2.2.2.2.2.2.1.length) (K : Option Int) : ∀ (n i : Nat), i ≤ x.2.2.2.2.2.2.2.2.1.length → x.2.2.2.2.2.2.2.2.1.length < n + i →
    l42_0 m94 m95 mLog mLast m97 L x n (i : Int) K = bif alw (nmOkN x) (x.2.2.2.2.2.2.2.2.1.length - i) i then K else some 3
  | 0, i, h0, h => by omega
  | n + 1, i, h0, h => by
    obtain ⟨h1, h2, h3, h4⟩ := hl
    simp only [mid] at h1 h2 h3 h4
    unfold l42_0
    by_cases hi : i < x.2.2.2.2.2.2.2.2.1.length
    · rw [dt (show (i : Int) < (x.2.2.2.2.2.2.2.2.1.length : Int) by omega), dt (show (0 : Int) ≤ (i : Int) by omega), dt (show (i : Int) < (x.2.2.2.2.2.2.2.2.2.length : Int) by omega)]
      simp only [Bool.and_self, cond_true, Int.toNat_natCast]
      rw [wi (show -9223372036854775808 ≤ (x.2.2.2.2.1.length : Int) + 1 by omega) (by omega), wi (show -9223372036854775808 ≤ (i : Int) + 1 by omega) (by omega)]
      rw [show m94 (x.2.2.2.2.2.2.2.2.1.getD i 0, 1, (x.2.2.2.2.1.length : Int) + 1) = some (decide (1 ≤ x.2.2.2.2.2.2.2.2.1.getD i 0 ∧ x.2.2.2.2.2.2.2.2.1.getD i 0 ≤ (x.2.2.2.2.1.length : Int) + 1)) from rfl, tst_some,
        show m94 (x.2.2.2.2.2.2.2.2.2.getD i 0, 0, (x.2.2.2.2.1.length : Int)) = some (decide (0 ≤ x.2.2.2.2.2.2.2.2.2.getD i 0 ∧ x.2.2.2.2.2.2.2.2.2.getD i 0 ≤ (x.2.2.2.2.1.length : Int))) from rfl, tst_some,
        show x.2.2.2.2.2.2.2.2.1.length - i = x.2.2.2.2.2.2.2.2.1.length - (i + 1) + 1 by omega]
      show _ = bif (decide _ && decide _) && alw _ _ _ then K else some 3
      cases decide (1 ≤ x.2.2.2.2.2.2.2.2.1.getD i 0 ∧ x.2.2.2.2.2.2.2.2.1.getD i 0 ≤ (x.2.2.2.2.1.length : Int) + 1)
      · rfl
      cases decide (0 ≤ x.2.2.2.2.2.2.2.2.2.getD i 0 ∧ x.2.2.2.2.2.2.2.2.2.getD i 0 ≤ (x.2.2.2.2.1.length : Int))
      · rfl
      simp only [Bool.not_true, cond_false, Bool.true_and]
      rw [show (i : Int) + 1 = ((i + 1 : Nat) : Int) by omega, el42 L x ⟨h1, h2, h3, h4⟩ he K n (i + 1) (by omega) (by omega)]
    · rw [df (by omega), cond_false, show x.2.2.2.2.2.2.2.2.1.length - i = 0 by omega]
      rfl
def endF (x : Nd) : Int := bif x.2.2.2.2.2.1 != 0 then bif x.2.2.2.1 != x.1 then 1 else bif x.2.2.1 == 0 then 1 else 0 else 0
def ndF (x : Nd) : Int :=
  bif !decide (1 ≤ x.2.1 ∧ x.2.1 ≤ 5) then 3 else bif !idOk x.2.1 x.1 then 3 else bif !decide (0 ≤ x.2.2.1 ∧ x.2.2.1 ≤ 100000) then 3 else bif !decide (-1 ≤ x.2.2.2.1 ∧ x.2.2.2.1 ≤ IntKind.wrap .i64 (x.2.1 - 1)) then 3
  else bif !decide (0 ≤ x.2.2.2.2.2.1 ∧ x.2.2.2.2.2.1 ≤ 2) then 3 else bif logF x.2.2.2.2.1 != 0 then logF x.2.2.2.2.1 else bif decide ((lastE x.2.2.2.2.1).1 > x.2.2.1) then 1
  else bif !decide (0 ≤ x.2.2.2.2.2.2.1 ∧ x.2.2.2.2.2.2.1 ≤ (x.2.2.2.2.1.length : Int)) then 3 else bif !lists x then 1 else bif alw (nmOkN x) x.2.2.2.2.2.2.2.2.1.length 0 then endF x else 3
def m42 (x : Nd) : Option Int := if nLen x mid then some (ndF x) else none
theorem lists_len {x : Nd} (h : lists x = true) : x.2.2.2.2.2.2.2.2.2.length = x.2.2.2.2.2.2.2.2.1.length := by
  unfold lists at h
  simp only [Bool.and_eq_true, decide_eq_true_eq] at h
  obtain ⟨_, h1, h2⟩ := h
  omega
theorem sat42 : Sat prog cxT 42 (c42 m42) := s42 m94 m95 mLog mLast m97 sat94 sat95 sat96 sat66 sat97 m42 fun x t h => by
  unfold m42 at h
  split at h
  · rename_i hm
    cases h
    refine ⟨x.2.2.2.2.2.2.2.2.1.length + 1, ?_⟩
    have hl := hm
    obtain ⟨h1, h2, h3, h4⟩ := hm
    show g42 m94 m95 mLog mLast m97 _ x = _
    unfold g42
    rw [show mLog x.2.2.2.2.1 = some (logF x.2.2.2.2.1) from rfl, show mLast x.2.2.2.2.1 = some (lastE x.2.2.2.2.1) from if_pos h1, show m97 x = some (lists x) from if_pos hl]
    simp only [m94, m95, tst_some]
    unfold ndF
    have bq : ∀ (b : Bool) (u v : Int), (bif b then some u else some v) = some (bif b then u else v) := fun b u v => by cases b <;> rfl
    by_cases hL : lists x = true
    · have e0 := fun K => el42 (x.2.2.2.2.2.2.2.2.1.length + 1) x hl (lists_len hL) K (x.2.2.2.2.2.2.2.2.1.length + 1) 0 (by omega) (by omega)
      simp only [Int.natCast_zero, Nat.sub_zero] at e0
      rw [e0]
      unfold endF
      simp only [bq]
    · rw [Bool.not_eq_true] at hL
      simp only [hL, Bool.not_false, cond_true, bq]
  · cases h
end Go.Proofs.Tryz

namespace Go.Proofs.Tryz
open Go Go.VM Go.RowKit
def mW (x : Nd) : Option Bool := if nLen x top then some true else none
theorem small_nd {x : Nd} {v : Int} (h1 : v ≤ 1048576) (h : ¬ szv v (wN x) < 0) : nLen x 1048576 ∧ szv v (wN x) = v - wN x := by
  unfold szv at h ⊢
  split at h
  · omega
  · rename_i hh
    rw [if_neg hh]
    unfold wN at hh
    unfold nLen
    exact ⟨⟨by omega, by omega, by omega, by omega⟩, rfl⟩
theorem nLen_up {x : Nd} {a b : Nat} (h : nLen x a) (hab : a ≤ b) : nLen x b := ⟨Nat.le_trans h.1 hab, Nat.le_trans h.2.1 hab, Nat.le_trans h.2.2.1 hab, Nat.le_trans h.2.2.2 hab⟩
theorem m6_eq {x : Nd} (h : nLen x top) : m11 (x, 1048576) = some (szv 1048576 (wN x)) := if_pos ⟨by omega, by omega, h⟩
theorem m8_eq {x : Nd} (h : nLen x mid) : m13 x = some x := if_pos h
theorem m10_eq {x : Nd} (h : nLen x mid) : m15 (x, x) = some true := (if_pos h).trans (by rw [dt rfl])
end Go.Proofs.Tryz
