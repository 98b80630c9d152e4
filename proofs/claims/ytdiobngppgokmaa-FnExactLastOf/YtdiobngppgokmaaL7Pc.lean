/- A part of the proof of FnExactLastOf: L7Pc, L7Pd, L7Pe, L7Top. -/
import Derived.Test.YtdiobngppgokmaaL7Pa
import Derived.Test.YtdiobngppgokmaaL7Qc
import Derived.Test.YtdiobngppgokmaaL7Fe
import Derived.Test.YtdiobngppgokmaaL7Ff
import Derived.Test.YtdiobngppgokmaaVmOpen
set_option maxHeartbeats 0
set_option linter.unusedVariables false
set_option linter.unusedSimpArgs false
namespace Go.Proofs.Try
open Go Go.VM Go.RowKit

/-! ### What is not right with an entry, and with a log -/
def tmOk (x : Int) : Bool := decide (1 ≤ x ∧ x ≤ 100000)
def clOk (x : Int) : Bool := decide (0 ≤ x ∧ x ≤ 999)
def sqOk (x : Int) : Bool := decide (0 ≤ x ∧ x ≤ 1000000)
def z6 (q : Cm) : Bool := (((((q.1 == 0) && (q.2.1 == 0)) && (q.2.2.1 == 0)) && (q.2.2.2.1 == 0)) && (q.2.2.2.2.1 == 0)) && (q.2.2.2.2.2 == 0)
def enF (x : En) : Int := bif !tmOk x.1 then 3 else bif !clOk x.2.1 then 3 else bif !sqOk x.2.2.1 then 3 else bif !((x.2.1 == 0) == (x.2.2.1 == 0)) then 1 else bif x.2.1 != 0 then cmF x.2.2.2 else bif !z6 x.2.2.2 then 1 else 0
/-- What is not right at one place of a log. -/
def lgE (a : List En) (i : Nat) : Int := if enF (a.getD i dEn) = 0 then (if 0 < i ∧ (a.getD i dEn).1 < (a.getD (i - 1) dEn).1 then 1 else 0) else enF (a.getD i dEn)
def logF (a : List En) : Int := if 40 < a.length then 2 else fst (lgE a) a.length 0
end Go.Proofs.Try

set_option maxHeartbeats 0
set_option linter.unusedVariables false
set_option linter.unusedSimpArgs false
namespace Go.Proofs.Try
open Go Go.VM Go.RowKit

/-! ### What stands where in a log -/
def lastE (a : List En) : En := a.getD (a.length - 1) dEn
def m44 (a : List En) : Option Int := some (a.length : Int)
theorem sat44 : Sat prog cxT 44 (c44 m44) := s44 m44 fun x t h => by cases h; exact ⟨0, rfl⟩
abbrev EnB := Int × Int × Int × Int × Int × Int × Int × Int × Int × Bool
def withB (x : En) (b : Bool) : EnB := (x.1, x.2.1, x.2.2.1, x.2.2.2.1, x.2.2.2.2.1, x.2.2.2.2.2.1, x.2.2.2.2.2.2.1, x.2.2.2.2.2.2.2.1, x.2.2.2.2.2.2.2.2, b)
def m43 (x : List En × Int) : Option EnB := if x.1.length ≤ mid then some (if 1 ≤ x.2 ∧ x.2 ≤ (x.1.length : Int) then withB (x.1.getD (x.2 - 1).toNat dEn) true else withB dEn false) else none
theorem sat43 : Sat prog cxT 43 (c43 m43) := s43 m44 sat44 m43 fun x t h => by
  obtain ⟨a, i⟩ := x
  unfold m43 at h
  split at h
  · rename_i hm
    have hm' : a.length ≤ 1000000000 := hm
    cases h
    refine ⟨0, ?_⟩
    show g43 m44 0 a i = _
    unfold g43
    rw [show m44 a = some (a.length : Int) from rfl, tst_some]
    by_cases h1 : i < 1
    · rw [dt h1, cond_true, if_neg (by simp only; omega)]; rfl
    · rw [df h1, cond_false]
      by_cases h2 : i > (a.length : Int)
      · rw [dt h2, cond_true, if_neg (by simp only; omega)]; rfl
      · rw [df h2, cond_false, if_pos (by simp only; omega)]
        simp (disch := omega) only [wi, dt, Bool.and_self, cond_true]
        rfl
  · cases h
def mLast (a : List En) : Option En := if a.length ≤ mid then some (lastE a) else none
theorem sat20 : Sat prog cxT 20 (c20 mLast) := s20 m44 m43 sat44 sat43 mLast fun a t h => by
  unfold mLast at h
  split at h
  · rename_i hm
    have hm' : a.length ≤ 1000000000 := hm
    cases h
    refine ⟨0, ?_⟩
    unfold g20
    rw [show m44 a = some (a.length : Int) from rfl, tst_some]
    by_cases h0 : a.length = 0
    · rw [show m43 (a, (a.length : Int)) = some (withB dEn false) from (if_pos hm).trans (by rw [if_neg (by simp only; omega)]), tst_some]
      have : a = [] := List.length_eq_zero_iff.1 h0
      subst this
      rfl
    · rw [show m43 (a, (a.length : Int)) = some (withB (lastE a) true) from (if_pos hm).trans (by rw [if_pos (by simp only; omega)]; unfold lastE; simp only; rw [show ((a.length : Int) - 1).toNat = a.length - 1 by omega]), tst_some]
      rfl
  · cases h
theorem sat19 : Sat prog cxT 19 (c19 mLast) := s19 mLast fun a t h => by
  unfold mLast at h
  split at h
  · rename_i hm
    have hm' : a.length ≤ 1000000000 := hm
    cases h
    refine ⟨0, ?_⟩
    unfold g19
    by_cases h0 : a.length = 0
    · have : a = [] := List.length_eq_zero_iff.1 h0
      subst this
      rfl
    · rw [beqF (by omega), cond_false]
      simp (disch := omega) only [wi, dt, Bool.and_self, cond_true]
      rw [show ((a.length : Int) - 1).toNat = a.length - 1 by omega]
      rfl
  · cases h
/-- Has a log an entry of an index and a term? -/
def fits (a : List En) (i t : Int) : Bool := bif i == 0 then t == 0 else decide (1 ≤ i ∧ i ≤ (a.length : Int)) && (a.getD (i - 1).toNat dEn).1 == t
def m22 (x : List En × Int × Int) : Option Bool := if x.1.length ≤ mid then some (decide (logF x.1 = 0) && fits x.1 x.2.1 x.2.2) else none
/-! ### How far two logs are alike -/
end Go.Proofs.Try

set_option maxHeartbeats 0
set_option linter.unusedVariables false
set_option linter.unusedSimpArgs false
namespace Go.Proofs.Try
open Go Go.VM Go.RowKit

/-! ### The laws of the look functions -/
theorem small {a : List En} {v : Int} (h1 : v ≤ 1048576) (h : ¬ szv v (a.length : Int) < 0) : a.length ≤ 1048576 ∧ szv v (a.length : Int) = v - (a.length : Int) := by
  unfold szv at h ⊢
  split at h
  · omega
  · rename_i hh
    rw [if_neg hh]
    exact ⟨by omega, rfl⟩
def mA (a : List En) : Option Bool := if a.length ≤ top then some true else none
theorem m14_eq {a : List En} {v : Int} (h : a.length ≤ top) (h0 : 0 ≤ v) (h1 : v ≤ 1048576) : m14 (a, v) = some (szv v (a.length : Int)) := if_pos ⟨h, h0, h1⟩
theorem m16_eq {a : List En} (h : a.length ≤ 1048576) : m16 a = some a := if_pos (by show a.length ≤ 1000000000; omega)
theorem m18_eq {a : List En} (h : a.length ≤ 1048576) : m18 (a, a) = some true := (if_pos (by simp only; omega)).trans (by rw [dt rfl])
theorem mid_of {a : List En} (h : a.length ≤ 1048576) : a.length ≤ mid := by unfold mid; omega
theorem sat5 : Sat prog cxT 5 (c5 mA) := s5 m14 m16 mLast mLast _ m18 sat14 sat16 sat19 sat20 sat21 sat18 mA fun a t h => by
  unfold mA at h
  split at h
  · rename_i ht
    cases h
    refine ⟨0, ?_⟩
    show g5 m14 m16 mLast mLast (fun x => some (decide (x.1 = x.2))) m18 0 a = some true
    unfold g5
    rw [m14_eq ht (by omega) (by omega), tst_some]
    by_cases hs : szv 1048576 (a.length : Int) < 0
    · rw [dt hs, cond_true]
    · rw [df hs, cond_false]
      have hl := (small (by omega) hs).1
      simp only [m16_eq hl, tst_some, show mLast a = some (lastE a) from if_pos (mid_of hl), m18_eq hl]
      simp
  · cases h
end Go.Proofs.Try

namespace Go.Proofs.Try
open Go Go.VM Go.RowKit

theorem cells2 : prog.cellsOf 2 = 1 := by kernel_rfl
theorem cells23 : prog.cellsOf 23 = 6 := by kernel_rfl
theorem cells25 : prog.cellsOf 25 = 9 := by kernel_rfl
def i64In (x : Int) : Prop := (Lit.int .i64 x).wf = true
def opM_good (f : Cm) : Prop := i64In f.1 ∧ i64In f.2.1 ∧ i64In f.2.2.1 ∧ i64In f.2.2.2.1 ∧ i64In f.2.2.2.2.1 ∧ i64In f.2.2.2.2.2
def encM (f : Cm) : List (L cxT.ty) := [lv (.int .i64 f.1), lv (.int .i64 f.2.1), lv (.int .i64 f.2.2.1), lv (.int .i64 f.2.2.2.1), lv (.int .i64 f.2.2.2.2.1), lv (.int .i64 f.2.2.2.2.2)]
set_option maxRecDepth 100000 in
theorem opM : Opens prog cxT 23 encM opM_good :=
  opens_struct underlying23 cells23 (opensF_cons (opens_int underlying2) rfl cells2 (opensF_cons (opens_int underlying2) rfl cells2 (opensF_cons (opens_int underlying2) rfl cells2 (opensF_cons (opens_int underlying2) rfl cells2 (opensF_cons (opens_int underlying2) rfl cells2 (opensF_one (l := fun x : Int => lv (.int .i64 x)) (opens_int underlying2) rfl cells2))))))
def opE_good (x : En) : Prop := i64In x.1 ∧ i64In x.2.1 ∧ i64In x.2.2.1 ∧ opM_good x.2.2.2
def encE (x : En) : List (L cxT.ty) := [lv (.int .i64 x.1), lv (.int .i64 x.2.1), lv (.int .i64 x.2.2.1), lv (.int .i64 x.2.2.2.1), lv (.int .i64 x.2.2.2.2.1), lv (.int .i64 x.2.2.2.2.2.1), lv (.int .i64 x.2.2.2.2.2.2.1), lv (.int .i64 x.2.2.2.2.2.2.2.1), lv (.int .i64 x.2.2.2.2.2.2.2.2)]
def i1 (x : Int) : List (L cxT.ty) := [lv (.int .i64 x)]
theorem opI1 : Opens prog cxT 2 i1 i64In := opens_int underlying2
set_option maxRecDepth 100000 in
theorem opE : Opens prog cxT 25 encE opE_good :=
  opens_structG (T := En) (k := 1 + (1 + (1 + 6))) (enc := fun x => i1 x.1 ++ (i1 x.2.1 ++ (i1 x.2.2.1 ++ encM x.2.2.2))) (good := opE_good) underlying25 cells25
    (opensG_cons (enc1 := i1) (good := i64In) opI1 rfl cells2 (opensG_cons (enc1 := i1) (good := i64In) opI1 rfl cells2 (opensG_cons (enc1 := i1) (good := i64In) opI1 rfl cells2 (opensG_one (enc := encM) (good := opM_good) opM rfl cells23))))
def opEs_good (x : List En) : Prop := x.length ≤ maxLen ∧ ∀ y ∈ x, opE_good y
def row25 (xs : List En) : L cxT.ty := some (.inr (ro 25 xs))
set_option maxRecDepth 100000 in
theorem opEs : Opens prog cxT 32 (fun x : List En => [row25 x]) opEs_good :=
  opens_slice (cx := cxT) (e := 25) (good := opE_good) underlying32 cells25 (by decide) cxT_ok opE
theorem top_of {x : List En} (h : opEs_good x) : x.length ≤ top := Nat.le_trans h.1 (by decide)
end Go.Proofs.Try
