/- A part of the proof of FnExactWatchFault: LrNa, LrTop. -/
import Derived.Test.YtnmnomckcjihoaaLrPe
import Derived.Test.YtnmnomckcjihoaaVmOpen
set_option maxHeartbeats 0
set_option linter.unusedVariables false
set_option linter.unusedSimpArgs false
namespace Go.Proofs.Try
open Go Go.VM Go.RowKit

/-! ### Watches: FnExactWatchFault -/
abbrev Wt := Bool × Int × List Bk × List Vp
def zC : Cg := ((0 : Int), [], [])
theorem sat20 : Sat prog cxT 20 (c20 fun c => some (decide (c = zC))) := s20 _ fun x t h => by
  obtain ⟨a, b, c⟩ := x
  cases h
  refine ⟨0, ?_⟩
  unfold g20 zC
  by_cases h1 : a = 0
  · rw [show (a == (0 : Int)) = true by simpa using h1, cond_true]
    cases b with
    | nil =>
      rw [show ((Nat.cast (List.length ([] : List Bk)) : Int) == (0 : Int)) = true from rfl, cond_true]
      cases c with
      | nil => simp [h1]
      | cons y l => simp; omega
    | cons y l =>
      rw [show ((Nat.cast (List.length (y :: l)) : Int) == (0 : Int)) = false by simp; omega, cond_false]
      simp
  · rw [show (a == (0 : Int)) = false by simpa using h1, cond_false]
    simp [h1]
theorem sat22 : Sat prog cxT 22 (c22 fun c => if okC c then some (decide (c = zC)) else none) := s22 m15 sat44 _ fun x t h => by
  obtain ⟨a, b, c⟩ := x
  split at h
  · rename_i hc
    cases h
    refine ⟨0, ?_⟩
    show g22 m15 0 a b c = _
    unfold g22
    rw [show m15 ((a, b, c), ((0 : Int), [], [])) = some (decide ((a, b, c) = zC)) from if_pos hc, tst_some]
  · cases h
def wF (w : Wt) : Int := if cF w.2 = 0 then (if w.1 = false ∧ w.2 ≠ zC then 1 else 0) else cF w.2
def mWF (w : Wt) : Option Int := if okC w.2 then some (wF w) else none
theorem wF_eq (M1 : Cg → Option Int) (M2 : Cg → Option Bool) (a : Bool) (c : Cg) (h1 : M1 c = some (cF c)) (h2 : M2 c = some (decide (c = zC))) :
    (tst (M1 (c.1, c.2.1, c.2.2)) (0 : Int) fun (q1 : Int) => bif (q1 != (0 : Int)) then some q1
      else bif (!a) then tst (M2 (c.1, c.2.1, c.2.2)) false fun (q3 : Bool) => bif (!q3) then some (1 : Int)
          else some (0 : Int)
      else some (0 : Int)) = some (wF (a, c)) := by
  unfold wF
  rw [show M1 (c.1, c.2.1, c.2.2) = some (cF c) from h1, tst_some, show M2 (c.1, c.2.1, c.2.2) = some (decide (c = zC)) from h2]
  simp only [tst_some]
  by_cases e : cF c = 0
  · rw [bneF e, cond_false, if_pos e]
    cases a with
    | true => simp
    | false =>
      by_cases hz : c = zC
      · rw [dt hz]; simp [hz]
      · rw [df hz]; simp [hz]
  · rw [bneT e, cond_true, if_neg e]
theorem sat6 : Sat prog cxT 6 (c6 mWF) := s6 _ _ sat19 sat20 mWF fun x t h => by
  obtain ⟨a, b, c, d⟩ := x
  unfold mWF at h
  split at h
  · rename_i hc
    cases h
    exact ⟨0, wF_eq m19 (fun c => some (decide (c = zC))) a (b, c, d) (if_pos hc) rfl⟩
  · cases h
theorem sat8 : Sat prog cxT 8 (c8 mWF) := s8 _ _ sat21 sat22 mWF fun x t h => by
  obtain ⟨a, b, c, d⟩ := x
  unfold mWF at h
  split at h
  · rename_i hc
    cases h
    exact ⟨0, wF_eq mCF (fun c => if okC c then some (decide (c = zC)) else none) a (b, c, d) (if_pos hc) (if_pos hc)⟩
  · cases h
theorem sat5 : Sat prog cxT 5 (c5 fun x => m10 (x.1.2, x.2)) := s5 m10 sat10 _ fun x t h => by
  obtain ⟨⟨a, b, c, d⟩, v⟩ := x
  refine ⟨0, ?_⟩
  show g5 m10 0 a b c d v = some t
  have h : m10 ((b, c, d), v) = some t := h
  unfold g5
  rw [h, tst_some]
  unfold m10 at h
  split at h
  · rename_i hc
    cases h
    have hr := szv_range (v := v) (a := wC (b, c, d)) (by unfold wC; have := sumW_nonneg (w := wV) (l := (b, c, d).2.2) fun x _ => wV_nonneg x; omega) hc.1
    by_cases hn : szv v (wC (b, c, d)) < 0
    · rw [dt hn, cond_true]; congr 1; simp only; omega
    · rw [df hn, cond_false]
  · cases h
def m7 (w : Wt) : Option Wt := if okM w.2 then some w else none
theorem sat7 : Sat prog cxT 7 (c7 m7) := s7 m12 sat12 m7 fun x t h => by
  obtain ⟨a, b, c, d⟩ := x
  unfold m7 at h
  split at h
  · rename_i hc
    cases h
    refine ⟨0, ?_⟩
    show g7 m12 0 a b c d = _
    unfold g7
    rw [show m12 (b, c, d) = some (b, c, d) from if_pos hc, tst_some]
  · cases h
def m9 (x : Wt × Wt) : Option Bool := if okC x.1.2 then some (decide (x.1 = x.2)) else none
theorem sat9 : Sat prog cxT 9 (c9 m9) := s9 m15 sat15 m9 fun x t h => by
  obtain ⟨⟨a, b, c, d⟩, a', b', c', d'⟩ := x
  unfold m9 at h
  split at h
  · rename_i hc
    cases h
    refine ⟨0, ?_⟩
    show g9 m15 0 a b c d a' b' c' d' = _
    unfold g9
    rw [show m15 ((b, c, d), (b', c', d')) = some (decide ((b, c, d) = (b', c', d'))) from if_pos hc, tst_some]
    by_cases h1 : a = a'
    · subst h1
      by_cases h2 : (b, c, d) = (b', c', d')
      · rw [dt h2, h2]; simp
      · rw [df h2]
        have : ¬ ((a, b, c, d) = (a, b', c', d')) := fun h => h2 (Prod.mk.inj h).2
        simp [this]
    · have : ¬ ((a, b, c, d) = (a', b', c', d')) := fun h => h1 (Prod.mk.inj h).1
      rw [show (!(a == a')) = true by simpa using h1, cond_true]
      simp [this]
  · cases h
theorem smallC {c : Cg} (hz : okZ c) (h : ¬ szv 1048576 (wC c) < 0) : okM c ∧ okC c := by
  obtain ⟨a, b, d⟩ := wC_small (c := c) (by omega)
  unfold okM okC mid big
  exact ⟨⟨by omega, by omega, fun v hv => by have := d v hv; omega⟩, ⟨by omega, by omega, fun v hv => by have := d v hv; omega⟩⟩
def m3 (x : Wt) : Option Bool := if okZ x.2 then some true else none
theorem sat3 : Sat prog cxT 3 (c3 m3) := s3 _ m7 mWF mWF m9 sat5 sat7 sat6 sat8 sat9 m3 fun x t h => by
  obtain ⟨a, b, c, d⟩ := x
  unfold m3 at h
  split at h
  · rename_i hz
    cases h
    refine ⟨0, ?_⟩
    show g3 (fun x => m10 (x.1.2, x.2)) m7 mWF mWF m9 0 a b c d = some true
    have hz : okZ (b, c, d) := hz
    unfold g3
    simp only []
    rw [show m10 ((b, c, d), 1048576) = some (szv 1048576 (wC (b, c, d))) from if_pos ⟨by simp only; omega, by simp only; omega, hz⟩, tst_some]
    by_cases h : szv 1048576 (wC (b, c, d)) < 0
    · rw [dt h, cond_true]
    · obtain ⟨hM, hC⟩ := smallC hz h
      have eX : m7 (a, b, c, d) = some (a, b, c, d) := if_pos hM
      have pX : m9 ((a, b, c, d), (a, b, c, d)) = some true := by rw [show m9 ((a, b, c, d), (a, b, c, d)) = some (decide ((a, b, c, d) = (a, b, c, d))) from if_pos hC, dt rfl]
      have fX : mWF (a, b, c, d) = some (wF (a, b, c, d)) := if_pos hC
      rw [df h, cond_false]
      simp only [eX, tst_some, pX, fX, bne_self_eq_false, Bool.not_true, cond_false]
  · cases h
end Go.Proofs.Try

set_option maxHeartbeats 0
set_option linter.unusedVariables false
set_option linter.unusedSimpArgs false
namespace Go.Proofs.Try
open Go Go.VM Go.RowKit

theorem cells2 : prog.cellsOf 2 = 1 := by kernel_rfl
theorem cells4 : prog.cellsOf 4 = 1 := by kernel_rfl
theorem cells22 : prog.cellsOf 22 = 1 := by kernel_rfl
theorem cells23 : prog.cellsOf 23 = 1 := by kernel_rfl
theorem cells27 : prog.cellsOf 27 = 4 := by kernel_rfl
theorem cells25 : prog.cellsOf 25 = 3 := by kernel_rfl
theorem cells73 : prog.cellsOf 73 = 1 := by kernel_rfl
theorem cells80 : prog.cellsOf 80 = 4 := by kernel_rfl
theorem cells82 : prog.cellsOf 82 = 5 := by kernel_rfl
def i64In (x : Int) : Prop := (Lit.int .i64 x).wf = true
def opI_good (x : List Int) : Prop := x.length ≤ maxLen ∧ ∀ y ∈ x, i64In y
def row2 (xs : List Int) : L cxT.ty := some (.inr (ro 2 xs))
theorem opI : Opens prog cxT 73 (fun x : List Int => [row2 x]) opI_good :=
  opens_slice (cx := cxT) (e := 2) (good := i64In) underlying73 cells2 (by decide) cxT_ok (opens_int (cx := cxT) underlying2)
def bk_good (b : Bk) : Prop := i64In b.1 ∧ i64In b.2.1 ∧ i64In b.2.2.1 ∧ i64In b.2.2.2.1 ∧ True
set_option maxRecDepth 100000 in
theorem opBk : Opens prog cxT 82 (fun b : Bk => [lv (.int .i64 b.1), lv (.int .i64 b.2.1), lv (.int .i64 b.2.2.1), lv (.int .i64 b.2.2.2.1), lv (.bool b.2.2.2.2)]) bk_good :=
  opens_struct underlying82 cells82 (opensF_cons (opens_int underlying2) rfl cells2 (opensF_cons (opens_int underlying2) rfl cells2 (opensF_cons (opens_int underlying2) rfl cells2 (opensF_cons (opens_int underlying2) rfl cells2 (opensF_one (l := fun x : Bool => lv (.bool x)) (opens_bool underlying4) rfl cells4)))))
def bks_good (x : List Bk) : Prop := x.length ≤ maxLen ∧ ∀ y ∈ x, bk_good y
def row82 (xs : List Bk) : L cxT.ty := some (.inr (ro 82 xs))
set_option maxRecDepth 100000 in
theorem opBks : Opens prog cxT 22 (fun x : List Bk => [row82 x]) bks_good :=
  opens_slice (cx := cxT) (e := 82) (good := bk_good) underlying22 cells82 (by decide) cxT_ok opBk
def vp_good (b : Vp) : Prop := i64In b.1 ∧ i64In b.2.1 ∧ i64In b.2.2.1 ∧ opI_good b.2.2.2
set_option maxRecDepth 100000 in
theorem opVp : Opens prog cxT 80 (fun b : Vp => [lv (.int .i64 b.1), lv (.int .i64 b.2.1), lv (.int .i64 b.2.2.1), row2 b.2.2.2]) vp_good :=
  opens_struct underlying80 cells80 (opensF_cons (opens_int underlying2) rfl cells2 (opensF_cons (opens_int underlying2) rfl cells2 (opensF_cons (opens_int underlying2) rfl cells2 (opensF_one (l := row2) opI rfl cells73))))
def vps_good (x : List Vp) : Prop := x.length ≤ maxLen ∧ ∀ y ∈ x, vp_good y
def row80 (xs : List Vp) : L cxT.ty := some (.inr (ro 80 xs))
set_option maxRecDepth 100000 in
theorem opVps : Opens prog cxT 23 (fun x : List Vp => [row80 x]) vps_good :=
  opens_slice (cx := cxT) (e := 80) (good := vp_good) underlying23 cells80 (by decide) cxT_ok opVp
def opC_good (c : Cg) : Prop := i64In c.1 ∧ bks_good c.2.1 ∧ vps_good c.2.2
def encC (c : Cg) : List (L cxT.ty) := [lv (.int .i64 c.1), row82 c.2.1, row80 c.2.2]
set_option maxRecDepth 100000 in
theorem opC : Opens prog cxT 25 encC opC_good :=
  opens_struct underlying25 cells25 (opensF_cons (opens_int underlying2) rfl cells2 (opensF_cons (l := row82) opBks rfl cells22 (opensF_one (l := row80) opVps rfl cells23)))
def opW_good (w : Wt) : Prop := True ∧ opC_good w.2
def encW (w : Wt) : List (L cxT.ty) := [lv (.bool w.1), lv (.int .i64 w.2.1), row82 w.2.2.1, row80 w.2.2.2]
set_option maxRecDepth 100000 in
theorem opW : Opens prog cxT 27 encW opW_good :=
  opens_structG (T := Wt) (k := 1 + 3) (enc := encW) (good := opW_good) underlying27 cells27 (opensG_cons (enc1 := fun x : Bool => [lv (.bool x)]) (good := fun _ => True) (opens_bool underlying4) rfl cells4 (opensG_one (enc := encC) (good := opC_good) opC rfl cells25))
theorem zC_of {c : Cg} (h : opC_good c) : okZ c := by
  have hm : maxLen ≤ top := by decide
  obtain ⟨_, ⟨h1, _⟩, h2, h3⟩ := h
  exact ⟨Nat.le_trans h1 hm, Nat.le_trans h2 hm, fun v hv => Nat.le_trans (h3 v hv).2.2.2.1 hm⟩
end Go.Proofs.Try
