/- A part of the proof of FnExactUpToDate: L7Pc, L7Pd, L7Pe, L7Top. -/
import Derived.Test.YtdiobngppgokmaaL7Pa
import Derived.Test.YtdiobngppgokmaaL7Qc
import Derived.Test.YtdiobngppgokmaaL7Fe
import Derived.Test.YtdiobngppgokmaaL7Ff
import Derived.Test.YtdiobngppgokmaaVmOpen
set_option maxHeartbeats 0
set_option linter.unusedVariables false
set_option linter.unusedSimpArgs false
namespace Go.Proofs.Try
open Go Go.VM Go.RowKit

/-! ### What is not right with an entry, and with a log -/
def tmOk (x : Int) : Bool := decide (1 ≤ x ∧ x ≤ 100000)
def clOk (x : Int) : Bool := decide (0 ≤ x ∧ x ≤ 999)
def sqOk (x : Int) : Bool := decide (0 ≤ x ∧ x ≤ 1000000)
theorem sat39 : Sat prog cxT 39 (c39 fun x => some (tmOk x)) := s39 _ fun x t h => by cases h; exact ⟨0, bif_and⟩
theorem sat40 : Sat prog cxT 40 (c40 fun x => some (clOk x)) := s40 _ fun x t h => by cases h; exact ⟨0, bif_and⟩
theorem sat41 : Sat prog cxT 41 (c41 fun x => some (sqOk x)) := s41 _ fun x t h => by cases h; exact ⟨0, bif_and⟩
def z6 (q : Cm) : Bool := (((((q.1 == 0) && (q.2.1 == 0)) && (q.2.2.1 == 0)) && (q.2.2.2.1 == 0)) && (q.2.2.2.2.1 == 0)) && (q.2.2.2.2.2 == 0)
def enF (x : En) : Int := bif !tmOk x.1 then 3 else bif !clOk x.2.1 then 3 else bif !sqOk x.2.2.1 then 3 else bif !((x.2.1 == 0) == (x.2.2.1 == 0)) then 1 else bif x.2.1 != 0 then cmF x.2.2.2 else bif !z6 x.2.2.2 then 1 else 0
def mEn (x : En) : Option Int := some (enF x)
theorem some_bif {α : Type} (b : Bool) (x y : α) : (bif b then some x else some y) = some (bif b then x else y) := by cases b <;> rfl
theorem sat13 : Sat prog cxT 13 (c13 mEn) := s13 _ _ _ m42 sat39 sat40 sat41 sat42 mEn fun x t h => by
  obtain ⟨t, c, s, q⟩ := x
  cases h
  refine ⟨0, ?_⟩
  show g13 _ _ _ m42 0 t c s q.1 q.2.1 q.2.2.1 q.2.2.2.1 q.2.2.2.2.1 q.2.2.2.2.2 = _
  unfold g13
  simp only [tst_some]
  rw [show m42 (q.1, (q.2.1, (q.2.2.1, (q.2.2.2.1, (q.2.2.2.2.1, q.2.2.2.2.2))))) = some (cmF q) from rfl, tst_some]
  simp only [some_bif]
  rfl
theorem sat11 : Sat prog cxT 11 (c11 mEn) := s11 _ m42 sat36 sat37 mEn fun x t h => by
  obtain ⟨t, c, s, q⟩ := x
  cases h
  refine ⟨0, ?_⟩
  show g11 _ m42 0 t c s q.1 q.2.1 q.2.2.1 q.2.2.2.1 q.2.2.2.2.1 q.2.2.2.2.2 = _
  unfold g11
  simp only [tst_some]
  rw [show m42 (q.1, (q.2.1, (q.2.2.1, (q.2.2.2.1, (q.2.2.2.2.1, q.2.2.2.2.2))))) = some (cmF q) from rfl, tst_some]
  simp only [some_bif]
  rfl
/-- What is not right at one place of a log. -/
def lgE (a : List En) (i : Nat) : Int := if enF (a.getD i dEn) = 0 then (if 0 < i ∧ (a.getD i dEn).1 < (a.getD (i - 1) dEn).1 then 1 else 0) else enF (a.getD i dEn)
def logF (a : List En) : Int := if 40 < a.length then 2 else fst (lgE a) a.length 0
def mLog (a : List En) : Option Int := some (logF a)
theorem el15 (L : Nat) (a : List En) (ha : a.length ≤ 40) : ∀ (n i : Nat), i ≤ a.length → a.length < n + i → l15_0 mEn L a n i (some 0) = some (fst (lgE a) (a.length - i) i)
  | 0, i, h1, h2 => by omega
  | n + 1, i, h1, h2 => by
    unfold l15_0
    by_cases hi : i < a.length
    · simp (disch := omega) only [dt, cond_true, Bool.and_self, Int.toNat_natCast]
      have e0 : mEn ((a.getD i dEn).1, (a.getD i dEn).2.1, (a.getD i dEn).2.2.1, (a.getD i dEn).2.2.2.1, (a.getD i dEn).2.2.2.2.1, (a.getD i dEn).2.2.2.2.2.1, (a.getD i dEn).2.2.2.2.2.2.1, (a.getD i dEn).2.2.2.2.2.2.2.1, (a.getD i dEn).2.2.2.2.2.2.2.2) = some (enF (a.getD i dEn)) := rfl
      have e0' := e0
      unfold dEn at e0'
      rw [e0', tst_some]
      have ih := el15 L a ha n (i + 1) (by omega) (by omega)
      have es : a.length - i = (a.length - (i + 1)) + 1 := by omega
      rw [wi (x := (i : Int) + 1) (by omega) (by omega), show (i : Int) + 1 = ((i + 1 : Nat) : Int) by omega, ih, es, fst_succ]
      change (bif enF (a.getD i dEn) != 0 then some (enF (a.getD i dEn)) else _) = _
      by_cases h0 : enF (a.getD i dEn) = 0
      · rw [bneF h0, cond_false]
        have hE : lgE a i = if 0 < i ∧ (a.getD i dEn).1 < (a.getD (i - 1) dEn).1 then 1 else 0 := if_pos h0
        by_cases hp : 0 < i
        · rw [dt (show (i : Int) > 0 by omega), cond_true, wi (by omega) (by omega)]
          simp (disch := omega) only [dt, cond_true, Bool.and_self]
          rw [show ((i : Int) - 1).toNat = i - 1 by omega]
          change (bif decide ((a.getD i dEn).1 < (a.getD (i - 1) dEn).1) then _ else _) = _
          by_cases hl : (a.getD i dEn).1 < (a.getD (i - 1) dEn).1
          · rw [dt hl, cond_true, hE.trans (if_pos ⟨hp, hl⟩)]; rfl
          · rw [df hl, cond_false, hE.trans (if_neg fun h => hl h.2)]; rfl
        · rw [df (show ¬ (i : Int) > 0 by omega), cond_false, hE.trans (if_neg fun h => hp h.1)]; rfl
      · rw [bneT h0, cond_true]
        have : lgE a i = enF (a.getD i dEn) := if_neg h0
        rw [this, if_neg h0]
    · rw [df (by omega), cond_false]
      rw [show a.length - i = 0 by omega]
      rfl
theorem sat15 : Sat prog cxT 15 (c15 mLog) := s15 mEn sat11 mLog fun x t h => by
  cases h
  refine ⟨x.length + 1, ?_⟩
  show g15 mEn (x.length + 1) x = some (logF x)
  unfold g15 logF
  by_cases hc : 40 < x.length
  · rw [dt (show (x.length : Int) > 40 by omega), cond_true, if_pos hc]
  · rw [df (show ¬ (x.length : Int) > 40 by omega), cond_false, if_neg hc]
    exact el15 _ x (by omega) _ 0 (by omega) (by omega)
theorem en_term {x : En} (h : enF x = 0) : 1 ≤ x.1 := by
  unfold enF at h
  cases ht : tmOk x.1 with
  | true => have := of_decide_eq_true ht; omega
  | false => rw [ht] at h; simp at h
theorem el17 (L : Nat) (a : List En) (ha : a.length ≤ 40) : ∀ (n i : Nat) (p : Int), i ≤ a.length → a.length < n + i → (if i = 0 then p = 0 else p = (a.getD (i - 1) dEn).1) → l17_0 mEn L a n p i (some 0) = some (fst (lgE a) (a.length - i) i)
  | 0, i, p, h1, h2, _ => by omega
  | n + 1, i, p, h1, h2, h3 => by
    unfold l17_0
    by_cases hi : i < a.length
    · simp (disch := omega) only [dt, cond_true, Bool.and_self, Int.toNat_natCast]
      have e0 : mEn ((a.getD i dEn).1, (a.getD i dEn).2.1, (a.getD i dEn).2.2.1, (a.getD i dEn).2.2.2.1, (a.getD i dEn).2.2.2.2.1, (a.getD i dEn).2.2.2.2.2.1, (a.getD i dEn).2.2.2.2.2.2.1, (a.getD i dEn).2.2.2.2.2.2.2.1, (a.getD i dEn).2.2.2.2.2.2.2.2) = some (enF (a.getD i dEn)) := rfl
      have e0' := e0
      unfold dEn at e0'
      rw [e0', tst_some]
      have ih := el17 L a ha n (i + 1) (a.getD i dEn).1 (by omega) (by omega) (by rw [if_neg (by omega)]; rfl)
      have es : a.length - i = (a.length - (i + 1)) + 1 := by omega
      rw [wi (x := (i : Int) + 1) (by omega) (by omega), show (i : Int) + 1 = ((i + 1 : Nat) : Int) by omega, es, fst_succ]
      change (bif enF (a.getD i dEn) != 0 then some (enF (a.getD i dEn)) else bif decide ((a.getD i dEn).1 < p) then _ else l17_0 mEn L a n (a.getD i dEn).1 ((i + 1 : Nat) : Int) (some 0)) = _
      rw [ih]
      by_cases h0 : enF (a.getD i dEn) = 0
      · rw [bneF h0, cond_false]
        have h1t := en_term h0
        have hE : lgE a i = if 0 < i ∧ (a.getD i dEn).1 < (a.getD (i - 1) dEn).1 then 1 else 0 := if_pos h0
        by_cases hp : 0 < i
        · rw [if_neg (by omega)] at h3
          rw [h3]
          by_cases hl : (a.getD i dEn).1 < (a.getD (i - 1) dEn).1
          · rw [dt hl, cond_true, hE.trans (if_pos ⟨hp, hl⟩)]; rfl
          · rw [df hl, cond_false, hE.trans (if_neg fun h => hl h.2)]; rfl
        · rw [if_pos (by omega)] at h3
          rw [df (by omega), cond_false, hE.trans (if_neg fun h => hp h.1)]; rfl
      · rw [bneT h0, cond_true]
        have : lgE a i = enF (a.getD i dEn) := if_neg h0
        rw [this, if_neg h0]
    · rw [df (by omega), cond_false]
      rw [show a.length - i = 0 by omega]
      rfl
theorem sat17 : Sat prog cxT 17 (c17 mLog) := s17 mEn sat13 mLog fun x t h => by
  cases h
  refine ⟨x.length + 1, ?_⟩
  show g17 mEn (x.length + 1) x = some (logF x)
  unfold g17 logF
  by_cases hc : 40 < x.length
  · rw [dt (show (x.length : Int) > 40 by omega), cond_true, if_pos hc]
  · rw [df (show ¬ (x.length : Int) > 40 by omega), cond_false, if_neg hc]
    exact el17 _ x (by omega) _ 0 0 (by omega) (by omega) rfl
end Go.Proofs.Try

set_option maxHeartbeats 0
set_option linter.unusedVariables false
set_option linter.unusedSimpArgs false
namespace Go.Proofs.Try
open Go Go.VM Go.RowKit

/-! ### What stands where in a log -/
def lastE (a : List En) : En := a.getD (a.length - 1) dEn
def m44 (a : List En) : Option Int := some (a.length : Int)
theorem sat44 : Sat prog cxT 44 (c44 m44) := s44 m44 fun x t h => by cases h; exact ⟨0, rfl⟩
abbrev EnB := Int × Int × Int × Int × Int × Int × Int × Int × Int × Bool
def withB (x : En) (b : Bool) : EnB := (x.1, x.2.1, x.2.2.1, x.2.2.2.1, x.2.2.2.2.1, x.2.2.2.2.2.1, x.2.2.2.2.2.2.1, x.2.2.2.2.2.2.2.1, x.2.2.2.2.2.2.2.2, b)
def m43 (x : List En × Int) : Option EnB := if x.1.length ≤ mid then some (if 1 ≤ x.2 ∧ x.2 ≤ (x.1.length : Int) then withB (x.1.getD (x.2 - 1).toNat dEn) true else withB dEn false) else none
theorem sat43 : Sat prog cxT 43 (c43 m43) := s43 m44 sat44 m43 fun x t h => by
  obtain ⟨a, i⟩ := x
  unfold m43 at h
  split at h
  · rename_i hm
    have hm' : a.length ≤ 1000000000 := hm
    cases h
    refine ⟨0, ?_⟩
    show g43 m44 0 a i = _
    unfold g43
    rw [show m44 a = some (a.length : Int) from rfl, tst_some]
    by_cases h1 : i < 1
    · rw [dt h1, cond_true, if_neg (by simp only; omega)]; rfl
    · rw [df h1, cond_false]
      by_cases h2 : i > (a.length : Int)
      · rw [dt h2, cond_true, if_neg (by simp only; omega)]; rfl
      · rw [df h2, cond_false, if_pos (by simp only; omega)]
        simp (disch := omega) only [wi, dt, Bool.and_self, cond_true]
        rfl
  · cases h
def mLast (a : List En) : Option En := if a.length ≤ mid then some (lastE a) else none
theorem sat20 : Sat prog cxT 20 (c20 mLast) := s20 m44 m43 sat44 sat43 mLast fun a t h => by
  unfold mLast at h
  split at h
  · rename_i hm
    have hm' : a.length ≤ 1000000000 := hm
    cases h
    refine ⟨0, ?_⟩
    unfold g20
    rw [show m44 a = some (a.length : Int) from rfl, tst_some]
    by_cases h0 : a.length = 0
    · rw [show m43 (a, (a.length : Int)) = some (withB dEn false) from (if_pos hm).trans (by rw [if_neg (by simp only; omega)]), tst_some]
      have : a = [] := List.length_eq_zero_iff.1 h0
      subst this
      rfl
    · rw [show m43 (a, (a.length : Int)) = some (withB (lastE a) true) from (if_pos hm).trans (by rw [if_pos (by simp only; omega)]; unfold lastE; simp only; rw [show ((a.length : Int) - 1).toNat = a.length - 1 by omega]), tst_some]
      rfl
  · cases h
theorem sat19 : Sat prog cxT 19 (c19 mLast) := s19 mLast fun a t h => by
  unfold mLast at h
  split at h
  · rename_i hm
    have hm' : a.length ≤ 1000000000 := hm
    cases h
    refine ⟨0, ?_⟩
    unfold g19
    by_cases h0 : a.length = 0
    · have : a = [] := List.length_eq_zero_iff.1 h0
      subst this
      rfl
    · rw [beqF (by omega), cond_false]
      simp (disch := omega) only [wi, dt, Bool.and_self, cond_true]
      rw [show ((a.length : Int) - 1).toNat = a.length - 1 by omega]
      rfl
  · cases h
/-- Has a log an entry of an index and a term? -/
def fits (a : List En) (i t : Int) : Bool := bif i == 0 then t == 0 else decide (1 ≤ i ∧ i ≤ (a.length : Int)) && (a.getD (i - 1).toNat dEn).1 == t
def m22 (x : List En × Int × Int) : Option Bool := if x.1.length ≤ mid then some (decide (logF x.1 = 0) && fits x.1 x.2.1 x.2.2) else none
def upd (a : List En) (i t : Int) : Bool := bif decide (t > (lastE a).1) then true else bif t == (lastE a).1 then decide (i ≥ (a.length : Int)) else false
def m50 (x : List En × Int × Int) : Option Bool := if x.1.length ≤ mid then some (upd x.1 x.2.1 x.2.2) else none
theorem sat50 : Sat prog cxT 50 (c50 m50) := s50 mLast sat19 m50 fun x t h => by
  obtain ⟨a, i, t'⟩ := x
  unfold m50 at h
  split at h
  · rename_i hm
    cases h
    refine ⟨0, ?_⟩
    show g50 mLast 0 a i t' = some (upd a i t')
    unfold g50 upd
    rw [show mLast a = some (lastE a) from if_pos hm, tst_some]
    simp only [some_bif]
  · cases h
def m30 (x : List En × Int × Int) : Option Bool := if x.1.length ≤ mid then some (decide (logF x.1 = 0) && upd x.1 x.2.1 x.2.2) else none
theorem sat30 : Sat prog cxT 30 (c30 m30) := s30 mLog m50 sat15 sat50 m30 fun x t h => by
  obtain ⟨a, i, t'⟩ := x
  unfold m30 at h
  split at h
  · rename_i hm
    cases h
    refine ⟨0, ?_⟩
    show g30 mLog m50 0 a i t' = _
    unfold g30
    rw [show mLog a = some (logF a) from rfl, tst_some, show m50 (a, i, t') = some (upd a i t') from if_pos hm, tst_some]
    by_cases h0 : logF a = 0
    · rw [h0, beq_self_eq_true, cond_true]; simp [h0]
    · rw [beqF h0, cond_false]; simp [h0]
  · cases h
theorem sat31 : Sat prog cxT 31 (c31 m30) := s31 mLog mLast sat17 sat20 m30 fun x t h => by
  obtain ⟨a, i, t'⟩ := x
  unfold m30 at h
  split at h
  · rename_i hm
    cases h
    refine ⟨0, ?_⟩
    show g31 mLog mLast 0 a i t' = _
    unfold g31 upd
    rw [show mLog a = some (logF a) from rfl, tst_some, show mLast a = some (lastE a) from if_pos hm, tst_some]
    by_cases h0 : logF a = 0
    · rw [bneF h0, cond_false, dt h0, Bool.true_and]
      simp only [some_bif]
    · rw [bneT h0, cond_true, df h0]; rfl
  · cases h

/-! ### How far two logs are alike -/
end Go.Proofs.Try

set_option maxHeartbeats 0
set_option linter.unusedVariables false
set_option linter.unusedSimpArgs false
namespace Go.Proofs.Try
open Go Go.VM Go.RowKit

/-! ### The laws of the look functions -/
theorem small {a : List En} {v : Int} (h1 : v ≤ 1048576) (h : ¬ szv v (a.length : Int) < 0) : a.length ≤ 1048576 ∧ szv v (a.length : Int) = v - (a.length : Int) := by
  unfold szv at h ⊢
  split at h
  · omega
  · rename_i hh
    rw [if_neg hh]
    exact ⟨by omega, rfl⟩
theorem m14_eq {a : List En} {v : Int} (h : a.length ≤ top) (h0 : 0 ≤ v) (h1 : v ≤ 1048576) : m14 (a, v) = some (szv v (a.length : Int)) := if_pos ⟨h, h0, h1⟩
theorem m16_eq {a : List En} (h : a.length ≤ 1048576) : m16 a = some a := if_pos (by show a.length ≤ 1000000000; omega)
theorem m18_eq {a : List En} (h : a.length ≤ 1048576) : m18 (a, a) = some true := (if_pos (by simp only; omega)).trans (by rw [dt rfl])
theorem mid_of {a : List En} (h : a.length ≤ 1048576) : a.length ≤ mid := by unfold mid; omega
def mB (x : List En × Int × Int) : Option Bool := if x.1.length ≤ top then some true else none
theorem sat8 : Sat prog cxT 8 (c8 mB) := s8 m14 m16 m30 m30 m18 sat14 sat16 sat30 sat31 sat18 mB fun x t h => by
  obtain ⟨a, i, t'⟩ := x
  unfold mB at h
  split at h
  · rename_i ht
    cases h
    refine ⟨0, ?_⟩
    show g8 m14 m16 m30 m30 m18 0 a i t' = some true
    unfold g8
    rw [m14_eq ht (by omega) (by omega), tst_some]
    by_cases hs : szv 1048576 (a.length : Int) < 0
    · rw [dt hs, cond_true]
    · rw [df hs, cond_false]
      have hl := (small (by omega) hs).1
      simp only [m16_eq hl, tst_some, show m30 (a, i, t') = some (decide (logF a = 0) && upd a i t') from if_pos (mid_of hl), m18_eq hl]
      simp
  · cases h
end Go.Proofs.Try

namespace Go.Proofs.Try
open Go Go.VM Go.RowKit

theorem cells2 : prog.cellsOf 2 = 1 := by kernel_rfl
theorem cells23 : prog.cellsOf 23 = 6 := by kernel_rfl
theorem cells25 : prog.cellsOf 25 = 9 := by kernel_rfl
def i64In (x : Int) : Prop := (Lit.int .i64 x).wf = true
def opM_good (f : Cm) : Prop := i64In f.1 ∧ i64In f.2.1 ∧ i64In f.2.2.1 ∧ i64In f.2.2.2.1 ∧ i64In f.2.2.2.2.1 ∧ i64In f.2.2.2.2.2
def encM (f : Cm) : List (L cxT.ty) := [lv (.int .i64 f.1), lv (.int .i64 f.2.1), lv (.int .i64 f.2.2.1), lv (.int .i64 f.2.2.2.1), lv (.int .i64 f.2.2.2.2.1), lv (.int .i64 f.2.2.2.2.2)]
set_option maxRecDepth 100000 in
theorem opM : Opens prog cxT 23 encM opM_good :=
  opens_struct underlying23 cells23 (opensF_cons (opens_int underlying2) rfl cells2 (opensF_cons (opens_int underlying2) rfl cells2 (opensF_cons (opens_int underlying2) rfl cells2 (opensF_cons (opens_int underlying2) rfl cells2 (opensF_cons (opens_int underlying2) rfl cells2 (opensF_one (l := fun x : Int => lv (.int .i64 x)) (opens_int underlying2) rfl cells2))))))
def opE_good (x : En) : Prop := i64In x.1 ∧ i64In x.2.1 ∧ i64In x.2.2.1 ∧ opM_good x.2.2.2
def encE (x : En) : List (L cxT.ty) := [lv (.int .i64 x.1), lv (.int .i64 x.2.1), lv (.int .i64 x.2.2.1), lv (.int .i64 x.2.2.2.1), lv (.int .i64 x.2.2.2.2.1), lv (.int .i64 x.2.2.2.2.2.1), lv (.int .i64 x.2.2.2.2.2.2.1), lv (.int .i64 x.2.2.2.2.2.2.2.1), lv (.int .i64 x.2.2.2.2.2.2.2.2)]
def i1 (x : Int) : List (L cxT.ty) := [lv (.int .i64 x)]
theorem opI1 : Opens prog cxT 2 i1 i64In := opens_int underlying2
set_option maxRecDepth 100000 in
theorem opE : Opens prog cxT 25 encE opE_good :=
  opens_structG (T := En) (k := 1 + (1 + (1 + 6))) (enc := fun x => i1 x.1 ++ (i1 x.2.1 ++ (i1 x.2.2.1 ++ encM x.2.2.2))) (good := opE_good) underlying25 cells25
    (opensG_cons (enc1 := i1) (good := i64In) opI1 rfl cells2 (opensG_cons (enc1 := i1) (good := i64In) opI1 rfl cells2 (opensG_cons (enc1 := i1) (good := i64In) opI1 rfl cells2 (opensG_one (enc := encM) (good := opM_good) opM rfl cells23))))
def opEs_good (x : List En) : Prop := x.length ≤ maxLen ∧ ∀ y ∈ x, opE_good y
def row25 (xs : List En) : L cxT.ty := some (.inr (ro 25 xs))
set_option maxRecDepth 100000 in
theorem opEs : Opens prog cxT 32 (fun x : List En => [row25 x]) opEs_good :=
  opens_slice (cx := cxT) (e := 25) (good := opE_good) underlying32 cells25 (by decide) cxT_ok opE
theorem top_of {x : List En} (h : opEs_good x) : x.length ≤ top := Nat.le_trans h.1 (by decide)
end Go.Proofs.Try
