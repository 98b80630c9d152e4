/- A part of the proof of FnExactCommonOf: L7Pc, L7Pd, L7Pe, L7Top. -/
import Derived.Test.YtdiobngppgokmaaL7Pa
import Derived.Test.YtdiobngppgokmaaL7Qc
import Derived.Test.YtdiobngppgokmaaL7Fe
import Derived.Test.YtdiobngppgokmaaL7Ff
import Derived.Test.YtdiobngppgokmaaVmOpen
set_option maxHeartbeats 0
set_option linter.unusedVariables false
set_option linter.unusedSimpArgs false
namespace Go.Proofs.Try
open Go Go.VM Go.RowKit

/-! ### What is not right with an entry, and with a log -/
def tmOk (x : Int) : Bool := decide (1 ≤ x ∧ x ≤ 100000)
def clOk (x : Int) : Bool := decide (0 ≤ x ∧ x ≤ 999)
def sqOk (x : Int) : Bool := decide (0 ≤ x ∧ x ≤ 1000000)
def z6 (q : Cm) : Bool := (((((q.1 == 0) && (q.2.1 == 0)) && (q.2.2.1 == 0)) && (q.2.2.2.1 == 0)) && (q.2.2.2.2.1 == 0)) && (q.2.2.2.2.2 == 0)
def enF (x : En) : Int := bif !tmOk x.1 then 3 else bif !clOk x.2.1 then 3 else bif !sqOk x.2.2.1 then 3 else bif !((x.2.1 == 0) == (x.2.2.1 == 0)) then 1 else bif x.2.1 != 0 then cmF x.2.2.2 else bif !z6 x.2.2.2 then 1 else 0
/-- What is not right at one place of a log. -/
def lgE (a : List En) (i : Nat) : Int := if enF (a.getD i dEn) = 0 then (if 0 < i ∧ (a.getD i dEn).1 < (a.getD (i - 1) dEn).1 then 1 else 0) else enF (a.getD i dEn)
def logF (a : List En) : Int := if 40 < a.length then 2 else fst (lgE a) a.length 0
end Go.Proofs.Try

set_option maxHeartbeats 0
set_option linter.unusedVariables false
set_option linter.unusedSimpArgs false
namespace Go.Proofs.Try
open Go Go.VM Go.RowKit

/-! ### What stands where in a log -/
def m44 (a : List En) : Option Int := some (a.length : Int)
theorem sat44 : Sat prog cxT 44 (c44 m44) := s44 m44 fun x t h => by cases h; exact ⟨0, rfl⟩
/-- Has a log an entry of an index and a term? -/
def fits (a : List En) (i t : Int) : Bool := bif i == 0 then t == 0 else decide (1 ≤ i ∧ i ≤ (a.length : Int)) && (a.getD (i - 1).toNat dEn).1 == t
def m22 (x : List En × Int × Int) : Option Bool := if x.1.length ≤ mid then some (decide (logF x.1 = 0) && fits x.1 x.2.1 x.2.2) else none
/-! ### How far two logs are alike -/
def sameE (x y : En) : Bool := decide (x = y)
theorem ints9 {a b c d e f g i j a' b' c' d' e' f' g' i' j' : Int} : (((((((((a == a') && (b == b')) && (c == c')) && (d == d')) && (e == e')) && (f == f')) && (g == g')) && (i == i')) && (j == j')) = decide (((a, b, c, d, e, f, g, i, j) : En) = (a', b', c', d', e', f', g', i', j')) := by
  simp only [Prod.mk.injEq, Bool.decide_and, Bool.and_assoc]
  rfl
theorem sat52 : Sat prog cxT 52 (c52 fun x => some (sameE x.1 x.2)) := s52 _ fun x t h => by
  obtain ⟨⟨a, b, c, d, e, f, g, i, j⟩, a', b', c', d', e', f', g', i', j'⟩ := x
  cases h
  exact ⟨0, congrArg some ints9⟩
def m51 (x : List En × List En × Unit) : Option Int := if x.1.length ≤ mid ∧ x.2.1.length ≤ mid then some (cmL sameE x.1 x.2.1 : Nat) else none
theorem min_cast {a b : Nat} : (if (b : Int) < (a : Int) then (b : Int) else (a : Int)) = ((min a b : Nat) : Int) := by
  by_cases h : b < a
  · rw [if_pos (by omega)]; omega
  · rw [if_neg (by omega)]; omega
theorem el51 (L : Nat) (a b : List En) (u : Unit) (ha : a.length ≤ 1000000000) (hb : b.length ≤ 1000000000) : ∀ (n i : Nat), i ≤ min a.length b.length → min a.length b.length < n + i →
    l51_0 m44 (fun x => some (sameE x.1 x.2)) L a b u n (min a.length b.length : Nat) (min a.length b.length : Nat) i some = some ((i + cmL sameE (a.drop i) (b.drop i) : Nat) : Int)
  | 0, i, h1, h2 => by omega
  | n + 1, i, h1, h2 => by
    unfold l51_0
    by_cases hi : i < min a.length b.length
    · simp (disch := omega) only [dt, cond_true, Bool.and_self, Int.toNat_natCast, tst_some]
      have ih := el51 L a b u ha hb n (i + 1) (by omega) (by omega)
      rw [wi (by omega) (by omega), show (i : Int) + 1 = ((i + 1 : Nat) : Int) by omega, ih, cmL_drop dEn sameE (i := i) (by omega) (by omega)]
      change (bif !sameE (a.getD i dEn) (b.getD i dEn) then _ else _) = _
      cases sameE (a.getD i dEn) (b.getD i dEn)
      · rfl
      · simp only [Bool.not_true, cond_false, if_true]
        congr 2; omega
    · rw [df (by omega), cond_false]
      have : i = min a.length b.length := by omega
      rw [cmL_end sameE (by
        rcases Nat.lt_or_ge a.length b.length with h | h
        · exact .inl (List.drop_eq_nil_of_le (by omega))
        · exact .inr (List.drop_eq_nil_of_le (by omega))), this]
      rfl
theorem sat51 : Sat prog cxT 51 (c51 m51) := s51 m44 _ sat44 sat52 m51 fun x t h => by
  obtain ⟨a, b, u⟩ := x
  unfold m51 at h
  split at h
  · rename_i hm
    have h1 : a.length ≤ 1000000000 := hm.1
    have h2 : b.length ≤ 1000000000 := hm.2
    cases h
    refine ⟨a.length + 1, ?_⟩
    show g51 m44 _ (a.length + 1) a b u = _
    unfold g51
    rw [show m44 a = some (a.length : Int) from rfl, tst_some, show m44 b = some (b.length : Int) from rfl, tst_some, min_cast]
    refine (el51 _ a b u h1 h2 (a.length + 1) 0 (by omega) (by omega)).trans ?_
    simp
  · cases h
def m33 (x : List En × List En) : Option Int := if x.1.length ≤ mid ∧ x.2.length ≤ mid then some (cmL sameE x.1 x.2 : Nat) else none
theorem sat33 : Sat prog cxT 33 (c33 m33) := s33 m51 sat51 m33 fun x t h => by
  obtain ⟨a, b⟩ := x
  unfold m33 at h
  split at h
  · rename_i hm
    cases h
    refine ⟨0, ?_⟩
    show g33 m51 0 a b = _
    unfold g33
    rw [show m51 (a, (b, PUnit.unit)) = some ((cmL sameE a b : Nat) : Int) from if_pos hm, tst_some]
  · cases h
theorem el32 (L : Nat) (a b : List En) (ha : a.length ≤ 1000000000) (hb : b.length ≤ 1000000000) : ∀ (n i : Nat), i ≤ min a.length b.length → min a.length b.length < n + i →
    l32_0 L a b n i some = some ((i + cmL sameE (a.drop i) (b.drop i) : Nat) : Int)
  | 0, i, h1, h2 => by omega
  | n + 1, i, h1, h2 => by
    unfold l32_0
    by_cases hi : i < min a.length b.length
    · simp (disch := omega) only [dt, cond_true, Bool.and_self, Int.toNat_natCast]
      have ih := el32 L a b ha hb n (i + 1) (by omega) (by omega)
      rw [wi (by omega) (by omega), show (i : Int) + 1 = ((i + 1 : Nat) : Int) by omega, ih, cmL_drop dEn sameE (i := i) (by omega) (by omega)]
      rw [ints9]
      change (bif sameE (a.getD i dEn) (b.getD i dEn) then _ else _) = _
      cases sameE (a.getD i dEn) (b.getD i dEn)
      · rfl
      · simp only [cond_true, if_true]
        congr 2; omega
    · have hE : cmL sameE (a.drop i) (b.drop i) = 0 := cmL_end sameE (by
        rcases Nat.lt_or_ge a.length b.length with h | h
        · exact .inl (List.drop_eq_nil_of_le (by omega))
        · exact .inr (List.drop_eq_nil_of_le (by omega)))
      rw [hE]
      by_cases h3 : i < a.length
      · rw [dt (by omega), cond_true, df (by omega), cond_false]; rfl
      · rw [df (by omega), cond_false]; rfl
theorem sat32 : Sat prog cxT 32 (c32 m33) := s32 m33 fun x t h => by
  obtain ⟨a, b⟩ := x
  unfold m33 at h
  split at h
  · rename_i hm
    cases h
    refine ⟨a.length + 1, ?_⟩
    show g32 (a.length + 1) a b = _
    unfold g32
    refine (el32 _ a b hm.1 hm.2 (a.length + 1) 0 (by omega) (by omega)).trans ?_
    simp
  · cases h
end Go.Proofs.Try

set_option maxHeartbeats 0
set_option linter.unusedVariables false
set_option linter.unusedSimpArgs false
namespace Go.Proofs.Try
open Go Go.VM Go.RowKit

/-! ### The laws of the look functions -/
theorem small {a : List En} {v : Int} (h1 : v ≤ 1048576) (h : ¬ szv v (a.length : Int) < 0) : a.length ≤ 1048576 ∧ szv v (a.length : Int) = v - (a.length : Int) := by
  unfold szv at h ⊢
  split at h
  · omega
  · rename_i hh
    rw [if_neg hh]
    exact ⟨by omega, rfl⟩
theorem m14_eq {a : List En} {v : Int} (h : a.length ≤ top) (h0 : 0 ≤ v) (h1 : v ≤ 1048576) : m14 (a, v) = some (szv v (a.length : Int)) := if_pos ⟨h, h0, h1⟩
theorem m16_eq {a : List En} (h : a.length ≤ 1048576) : m16 a = some a := if_pos (by show a.length ≤ 1000000000; omega)
theorem m18_eq {a : List En} (h : a.length ≤ 1048576) : m18 (a, a) = some true := (if_pos (by simp only; omega)).trans (by rw [dt rfl])
theorem mid_of {a : List En} (h : a.length ≤ 1048576) : a.length ≤ mid := by unfold mid; omega
def mC (x : List En × List En) : Option Bool := if x.1.length ≤ top ∧ x.2.length ≤ top then some true else none
theorem sat9 : Sat prog cxT 9 (c9 mC) := s9 m14 m16 m33 m33 m18 sat14 sat16 sat32 sat33 sat18 mC fun x t h => by
  obtain ⟨a, b⟩ := x
  unfold mC at h
  split at h
  · rename_i ht
    cases h
    refine ⟨0, ?_⟩
    show g9 m14 m16 m33 m33 m18 0 a b = some true
    unfold g9
    rw [m14_eq ht.1 (by omega) (by omega), tst_some]
    by_cases hs : szv 1048576 (a.length : Int) < 0
    · rw [dt hs, cond_true]
    · rw [df hs, cond_false]
      obtain ⟨hl, hv⟩ := small (by omega) hs
      rw [hv, m14_eq ht.2 (by omega) (by omega), tst_some]
      by_cases hs2 : szv (1048576 - (a.length : Int)) (b.length : Int) < 0
      · rw [dt hs2, cond_true]
      · rw [df hs2, cond_false]
        obtain ⟨hl2, _⟩ := small (by omega) hs2
        simp only [m16_eq hl, m16_eq hl2, tst_some, show m33 (a, b) = some ((cmL sameE a b : Nat) : Int) from if_pos ⟨mid_of hl, mid_of hl2⟩, m18_eq hl, m18_eq hl2]
        simp
  · cases h
end Go.Proofs.Try

namespace Go.Proofs.Try
open Go Go.VM Go.RowKit

theorem cells2 : prog.cellsOf 2 = 1 := by kernel_rfl
theorem cells23 : prog.cellsOf 23 = 6 := by kernel_rfl
theorem cells25 : prog.cellsOf 25 = 9 := by kernel_rfl
def i64In (x : Int) : Prop := (Lit.int .i64 x).wf = true
def opM_good (f : Cm) : Prop := i64In f.1 ∧ i64In f.2.1 ∧ i64In f.2.2.1 ∧ i64In f.2.2.2.1 ∧ i64In f.2.2.2.2.1 ∧ i64In f.2.2.2.2.2
def encM (f : Cm) : List (L cxT.ty) := [lv (.int .i64 f.1), lv (.int .i64 f.2.1), lv (.int .i64 f.2.2.1), lv (.int .i64 f.2.2.2.1), lv (.int .i64 f.2.2.2.2.1), lv (.int .i64 f.2.2.2.2.2)]
set_option maxRecDepth 100000 in
theorem opM : Opens prog cxT 23 encM opM_good :=
  opens_struct underlying23 cells23 (opensF_cons (opens_int underlying2) rfl cells2 (opensF_cons (opens_int underlying2) rfl cells2 (opensF_cons (opens_int underlying2) rfl cells2 (opensF_cons (opens_int underlying2) rfl cells2 (opensF_cons (opens_int underlying2) rfl cells2 (opensF_one (l := fun x : Int => lv (.int .i64 x)) (opens_int underlying2) rfl cells2))))))
def opE_good (x : En) : Prop := i64In x.1 ∧ i64In x.2.1 ∧ i64In x.2.2.1 ∧ opM_good x.2.2.2
def encE (x : En) : List (L cxT.ty) := [lv (.int .i64 x.1), lv (.int .i64 x.2.1), lv (.int .i64 x.2.2.1), lv (.int .i64 x.2.2.2.1), lv (.int .i64 x.2.2.2.2.1), lv (.int .i64 x.2.2.2.2.2.1), lv (.int .i64 x.2.2.2.2.2.2.1), lv (.int .i64 x.2.2.2.2.2.2.2.1), lv (.int .i64 x.2.2.2.2.2.2.2.2)]
def i1 (x : Int) : List (L cxT.ty) := [lv (.int .i64 x)]
theorem opI1 : Opens prog cxT 2 i1 i64In := opens_int underlying2
set_option maxRecDepth 100000 in
theorem opE : Opens prog cxT 25 encE opE_good :=
  opens_structG (T := En) (k := 1 + (1 + (1 + 6))) (enc := fun x => i1 x.1 ++ (i1 x.2.1 ++ (i1 x.2.2.1 ++ encM x.2.2.2))) (good := opE_good) underlying25 cells25
    (opensG_cons (enc1 := i1) (good := i64In) opI1 rfl cells2 (opensG_cons (enc1 := i1) (good := i64In) opI1 rfl cells2 (opensG_cons (enc1 := i1) (good := i64In) opI1 rfl cells2 (opensG_one (enc := encM) (good := opM_good) opM rfl cells23))))
def opEs_good (x : List En) : Prop := x.length ≤ maxLen ∧ ∀ y ∈ x, opE_good y
def row25 (xs : List En) : L cxT.ty := some (.inr (ro 25 xs))
set_option maxRecDepth 100000 in
theorem opEs : Opens prog cxT 32 (fun x : List En => [row25 x]) opEs_good :=
  opens_slice (cx := cxT) (e := 25) (good := opE_good) underlying32 cells25 (by decide) cxT_ok opE
theorem top_of {x : List En} (h : opEs_good x) : x.length ≤ top := Nat.le_trans h.1 (by decide)
end Go.Proofs.Try
