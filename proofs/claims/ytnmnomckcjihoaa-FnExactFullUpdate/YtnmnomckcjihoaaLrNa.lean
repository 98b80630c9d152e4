/- A part of the proof of FnExactFullUpdate: LrNa, LrNb, LrNc. -/
import Derived.Test.YtnmnomckcjihoaaLrPe
import Derived.Test.YtnmnomckcjihoaaLrPh
set_option linter.unusedVariables false
set_option maxHeartbeats 0
set_option linter.unusedVariables false
set_option linter.unusedSimpArgs false
namespace Go.Proofs.Try
open Go Go.VM Go.RowKit

/-! ### Watches: FnExactWatchFault -/
abbrev Wt := Bool × Int × List Bk × List Vp
def m7 (w : Wt) : Option Wt := if okM w.2 then some w else none
def m9 (x : Wt × Wt) : Option Bool := if okC x.1.2 then some (decide (x.1 = x.2)) else none
theorem smallC {c : Cg} (hz : okZ c) (h : ¬ szv 1048576 (wC c) < 0) : okM c ∧ okC c := by
  obtain ⟨a, b, d⟩ := wC_small (c := c) (by omega)
  unfold okM okC mid big
  exact ⟨⟨by omega, by omega, fun v hv => by have := d v hv; omega⟩, ⟨by omega, by omega, fun v hv => by have := d v hv; omega⟩⟩
def m3 (x : Wt) : Option Bool := if okZ x.2 then some true else none
end Go.Proofs.Try

set_option maxHeartbeats 0
set_option linter.unusedVariables false
set_option linter.unusedSimpArgs false
namespace Go.Proofs.Try
open Go Go.VM Go.RowKit

/-! ### Configurations without fault are small -/
def risN (ns : List Int) : Prop := ∀ i j, i < j → j < ns.length → ns.getD i 0 < ns.getD j 0
theorem nF_zero {bs : List Bk} {ns : List Int} (h : nF bs ns = 0) : (∀ j, j < ns.length → hasB bs (ns.getD j 0) = true) ∧ ∀ j, j < ns.length → rsN ns j = 0 := by
  unfold nF at h
  split at h
  · rename_i h1
    refine ⟨fun j hj => ?_, fun j hj => fst_zero.1 h j (Nat.zero_le _) (by omega)⟩
    have := fst_zero.1 h1 j (Nat.zero_le _) (by omega)
    unfold knN at this
    split at this
    · assumption
    · exact absurd this (by decide)
  · exact absurd h (by decide)
theorem vF_zero {bs : List Bk} {vs : List Vp} {j : Nat} (h : vF bs vs j = 0) : vpOk (vs.getD j dVp) = true ∧ nF bs (vs.getD j dVp).2.2.2 = 0 := by
  unfold vF at h
  split at h
  · rename_i h1
    split at h
    · exact absurd h (by decide)
    · exact ⟨h1, h⟩
  · exact absurd h (by decide)
theorem risN_of {ns : List Int} (h : ∀ j, j < ns.length → rsN ns j = 0) : risN ns := by
  intro i j hij
  induction j with
  | zero => omega
  | succ j ih =>
    intro hj
    have h1 := h (j + 1) hj
    unfold rsN at h1
    have h2 : ns.getD j 0 < ns.getD (j + 1) 0 := by
      by_cases hc : 0 < j + 1 ∧ ns.getD (j + 1) 0 ≤ ns.getD (j + 1 - 1) 0
      · rw [if_pos hc] at h1; exact absurd h1 (by decide)
      · rw [Nat.add_sub_cancel] at hc
        omega
    by_cases h3 : i = j
    · rw [h3]; exact h2
    · have := ih (by omega) (by omega)
      omega
theorem names_le {bs : List Bk} {ns : List Int} (hr : ris bs) (hn : risN ns) (hh : ∀ j, j < ns.length → hasB bs (ns.getD j 0) = true) : ns.length ≤ bs.length := by
  have hat : ∀ j, j < ns.length → plB bs (ns.getD j 0) < bs.length ∧ (bs.getD (plB bs (ns.getD j 0)) dBk).1 = ns.getD j 0 := fun j hj => by
    have := hh j hj
    rw [ris_has hr, Bool.and_eq_true] at this
    exact ⟨of_decide_eq_true this.1, by simpa using this.2⟩
  have key : ∀ j, j < ns.length → j ≤ plB bs (ns.getD j 0) := by
    intro j
    induction j with
    | zero => intro _; omega
    | succ j ih =>
      intro hj
      have h1 := ih (by omega)
      obtain ⟨a1, a2⟩ := hat j (by omega)
      obtain ⟨b1, b2⟩ := hat (j + 1) hj
      have h2 := hn j (j + 1) (by omega) hj
      rcases Nat.lt_or_ge (plB bs (ns.getD j 0)) (plB bs (ns.getD (j + 1) 0)) with h3 | h3
      · omega
      · exfalso
        rcases Nat.lt_or_eq_of_le h3 with h4 | h4
        · have := hr _ _ h4 a1
          omega
        · rw [h4] at b2
          omega
  rcases Nat.eq_zero_or_pos ns.length with h0 | h0
  · omega
  · have h1 := key (ns.length - 1) (by omega)
    have h2 := (hat (ns.length - 1) (by omega)).1
    omega
theorem okS_of {c : Cg} (h : cF c = 0) : okS c := by
  obtain ⟨h1, h2, h3, h4, h5⟩ := cF_zero h
  have hr := ris_of h4
  refine ⟨by omega, by omega, fun v hv => ?_⟩
  obtain ⟨j, hj, rfl⟩ := List.mem_iff_getElem.1 hv
  obtain ⟨k1, k2⟩ := vF_zero (h5 j hj)
  rw [getD_at dVp hj] at k2
  obtain ⟨k3, k4⟩ := nF_zero k2
  have := names_le hr (risN_of k4) k3
  omega

/-! ### FnExactFullUpdate -/
abbrev Ud := Int × Int × Bool × Int × List Bk × List Vp × List Cm
abbrev Ur := Int × Ud
def fuF (c : Cg) : Ur := if cF c = 0 then (0, 0, c.1, true, c.1, c.2.1, c.2.2, []) else (cF c, 0, 0, false, 0, [], [], [])
def mFu (c : Cg) : Option Ur := if okC c then some (fuF c) else none
theorem sat11 : Sat prog cxT 11 (c11 mFu) := s11 _ _ sat19 sat25 mFu fun x t h => by
  obtain ⟨a, b, c⟩ := x
  unfold mFu at h
  split at h
  · rename_i hc
    cases h
    refine ⟨0, ?_⟩
    show g11 m19 mCp 0 a b c = some (fuF (a, b, c))
    unfold g11 fuF
    rw [show m19 (a, b, c) = some (cF (a, b, c)) from if_pos hc, tst_some]
    by_cases e : cF (a, b, c) = 0
    · rw [bneF e, cond_false, if_pos e, show mCp (a, b, c) = some (a, b, c) from if_pos (okS_of e), tst_some]
    · rw [bneT e, cond_true, if_neg e]
  · cases h
theorem sat13 : Sat prog cxT 13 (c13 mFu) := s13 _ _ sat21 sat28 mFu fun x t h => by
  obtain ⟨a, b, c⟩ := x
  unfold mFu at h
  split at h
  · rename_i hc
    cases h
    refine ⟨0, ?_⟩
    show g13 mCF mCp 0 a b c = some (fuF (a, b, c))
    unfold g13 fuF
    rw [show mCF (a, b, c) = some (cF (a, b, c)) from if_pos hc, tst_some]
    by_cases e : cF (a, b, c) = 0
    · rw [bneF e, cond_false, if_pos e, show mCp (a, b, c) = some (a, b, c) from if_pos (okS_of e), tst_some]
    · rw [bneT e, cond_true, if_neg e]
  · cases h
def m76 (x : Cm × Cm) : Option Bool := some (decide (x.1 = x.2))
theorem sat76 : Sat prog cxT 76 (c76 m76) := s76 m76 fun x t h => by
  obtain ⟨⟨a, b, c, d, e, f⟩, a', b', c', d', e', f'⟩ := x
  cases h
  refine ⟨0, ?_⟩
  show g76 0 a b c d e f a' b' c' d' e' f' = _
  unfold g76
  by_cases h1 : a = a'
  · rw [bneF h1, cond_false]
    by_cases h2 : b = b'
    · rw [bneF h2, cond_false]
      by_cases h3 : c = c'
      · rw [bneF h3, cond_false]
        by_cases h4 : d = d'
        · rw [bneF h4, cond_false]
          by_cases h5 : e = e'
          · rw [bneF h5, cond_false]
            by_cases h6 : f = f'
            · rw [bneF h6, cond_false]; simp [h1, h2, h3, h4, h5, h6]
            · rw [bneT h6, cond_true]; simp [h6]
          · rw [bneT h5, cond_true]; simp [h5]
        · rw [bneT h4, cond_true]; simp [h4]
      · rw [bneT h3, cond_true]; simp [h3]
    · rw [bneT h2, cond_true]; simp [h2]
  · rw [bneT h1, cond_true]; simp [h1]
end Go.Proofs.Try

set_option maxHeartbeats 0
set_option linter.unusedVariables false
set_option linter.unusedSimpArgs false
namespace Go.Proofs.Try
open Go Go.VM Go.RowKit

/-! Updates that are held against one another, marked, and held to their marks; of no commands -/
def m48 (x : List Cm × List Cm) : Option Bool := if x.1.length = 0 ∧ x.2.length = 0 then some true else none
theorem sat48 : Sat prog cxT 48 (c48 m48) := s48 m76 sat76 m48 fun x t h => by
  unfold m48 at h
  split at h
  · rename_i hx
    obtain ⟨a, b⟩ := x
    obtain rfl := List.eq_nil_of_length_eq_zero hx.1
    obtain rfl := List.eq_nil_of_length_eq_zero hx.2
    cases h
    exact ⟨1, rfl⟩
  · cases h
noncomputable def m29 (x : Ud × Ud) : Option Bool := @ite _ ( okC (x.1.2.2.2.1, x.1.2.2.2.2.1, x.1.2.2.2.2.2.1) ∧ x.1.2.2.2.2.2.2 = [] ∧ x.2 = x.1) (Classical.propDecidable _) (some true) none
theorem sat29 : Sat prog cxT 29 (c29 m29) := s29 m15 m48 sat15 sat48 m29 fun x t h => by
  obtain ⟨⟨a, b, c, d, e, f, g⟩, y⟩ := x
  unfold m29 at h
  split at h
  · rename_i hc
    obtain ⟨h1, h2, h3⟩ := hc
    simp only at h1 h2 h3
    subst h2; subst h3
    cases h
    refine ⟨0, ?_⟩
    show g29 m15 m48 0 a b c d e f [] a b c d e f [] = _
    unfold g29
    rw [show m15 ((d, e, f), (d, e, f)) = some true from (if_pos h1).trans (by rw [dt rfl]), tst_some, show m48 (([] : List Cm), ([] : List Cm)) = some true from if_pos ⟨rfl, rfl⟩, tst_some, bneF rfl, bneF rfl]
    cases c <;> rfl
  · cases h
noncomputable def m14 (x : Ur × Ur) : Option Bool := @ite _ ( okC (x.1.2.2.2.2.1, x.1.2.2.2.2.2.1, x.1.2.2.2.2.2.2.1) ∧ x.1.2.2.2.2.2.2.2 = [] ∧ x.2 = x.1) (Classical.propDecidable _) (some true) none
theorem sat14 : Sat prog cxT 14 (c14 m14) := s14 m29 sat29 m14 fun x t h => by
  obtain ⟨⟨k, a, b, c, d, e, f, g⟩, y⟩ := x
  unfold m14 at h
  split at h
  · rename_i hc
    obtain ⟨h1, h2, h3⟩ := hc
    simp only at h1 h2 h3
    subst h2; subst h3
    cases h
    refine ⟨0, ?_⟩
    show g14 m29 0 k a b c d e f [] k a b c d e f [] = _
    unfold g14
    rw [show m29 ((a, b, c, d, e, f, []), (a, b, c, d, e, f, [])) = some true from if_pos ⟨h1, rfl, rfl⟩, tst_some, bneF rfl]
    rfl
  · cases h
def m52 (x : List Cm × Int) : Option (Int × List Cm) := if x.1 = [] then some (x.2, []) else none
theorem sat52 : SatW prog cxT 52 (c52 m52).nres (c52 m52).n (c52 m52).F := s52 m52 fun x t h => by
  obtain ⟨l, q⟩ := x
  unfold m52 at h
  split at h
  · rename_i hx
    simp only at hx
    subst hx
    cases h
    exact ⟨1, rfl⟩
  · cases h
def m54 (x : List Cm × Int) : Option Int := if x.1 = [] then some x.2 else none
theorem sat54 : Sat prog cxT 54 (c54 m54) := s54 m54 fun x t h => by
  obtain ⟨l, q⟩ := x
  unfold m54 at h
  split at h
  · rename_i hx
    simp only at hx
    subst hx
    cases h
    exact ⟨1, rfl⟩
  · cases h
def m34 (x : Ud × Int) : Option (Int × Ud) := g34 m16 m52 0 x.1.1 x.1.2.1 x.1.2.2.1 x.1.2.2.2.1 x.1.2.2.2.2.1 x.1.2.2.2.2.2.1 x.1.2.2.2.2.2.2 x.2
theorem sat34 : SatW prog cxT 34 (c34 m34).nres (c34 m34).n (c34 m34).F := s34 m16 m52 sat16 sat52 m34 fun x t h => ⟨0, h⟩
def m17 (x : Ur × Int) : Option (Int × Ur) := g17 m34 0 x.1.1 x.1.2.1 x.1.2.2.1 x.1.2.2.2.1 x.1.2.2.2.2.1 x.1.2.2.2.2.2.1 x.1.2.2.2.2.2.2.1 x.1.2.2.2.2.2.2.2 x.2
theorem sat17 : SatW prog cxT 17 (c17 m17).nres (c17 m17).n (c17 m17).F := s17 m34 sat34 m17 fun x t h => ⟨0, h⟩
def m35 (x : Ud × Int) : Option Int := g35 m53 m54 0 x.1.1 x.1.2.1 x.1.2.2.1 x.1.2.2.2.1 x.1.2.2.2.2.1 x.1.2.2.2.2.2.1 x.1.2.2.2.2.2.2 x.2
theorem sat35 : Sat prog cxT 35 (c35 m35) := s35 m53 m54 sat53 sat54 m35 fun x t h => ⟨0, h⟩
def m18 (x : Ur × Int) : Option Int := g18 m35 0 x.1.1 x.1.2.1 x.1.2.2.1 x.1.2.2.2.1 x.1.2.2.2.2.1 x.1.2.2.2.2.2.1 x.1.2.2.2.2.2.2.1 x.1.2.2.2.2.2.2.2 x.2
theorem sat18 : Sat prog cxT 18 (c18 m18) := s18 m35 sat35 m18 fun x t h => ⟨0, h⟩
/-- A result that is marked holds its marks. -/
theorem held_ur {k a b : Int} {o : Bool} {v : Int} {bs : List Bk} {vs : List Vp} (h1 : bs.length ≤ 1000000) (h2 : vs.length ≤ 1000000) (h3 : ∀ v ∈ vs, v.2.2.2.length ≤ 1048576) (h4 : sumW wP vs ≤ 1000000000) :
    ∃ q bs' vs', 0 ≤ q ∧ m17 ((k, a, b, o, v, bs, vs, []), 1) = some (q, k, a, b, o, v, bs', vs', []) ∧ m18 ((k, a, b, o, v, bs', vs', []), 1) = some q := by
  have hs : 0 ≤ sumW wP vs := sumW_nonneg fun x _ => wP_pos x
  refine ⟨1 + 5 * (bs.length : Int) + sumW wP vs, mkR mkB 5 bs.length 1, mkV mkP wP vs (1 + 5 * (bs.length : Int)), by omega, ?_, ?_⟩
  · show g17 m34 0 k a b o v bs vs [] 1 = _
    unfold g17 m34
    show tst (g34 m16 m52 0 a b o v bs vs [] 1) _ _ = _
    unfold g34 m16
    show tst (tst (g16 m32 m33 0 v bs vs 1) _ _) _ _ = _
    unfold g16
    rw [ex27 (l := bs) (q := 1) (by omega) (by omega) (by omega), tst_some]
    simp only
    rw [ex28 (l := vs) (q := 1 + 5 * (bs.length : Int)) h2 h3 (by omega) (by omega), tst_some, tst_some, show m52 (([] : List Cm), 1 + 5 * (bs.length : Int) + sumW wP vs) = some (1 + 5 * (bs.length : Int) + sumW wP vs, []) from if_pos rfl, tst_some, tst_some]
  · show g18 m35 0 k a b o v (mkR mkB 5 bs.length 1) (mkV mkP wP vs (1 + 5 * (bs.length : Int))) [] 1 = _
    unfold g18 m35
    show tst (g35 m53 m54 0 a b o v (mkR mkB 5 bs.length 1) (mkV mkP wP vs (1 + 5 * (bs.length : Int))) [] 1) _ _ = _
    unfold g35 m53
    show tst (tst (g53 m78 m79 0 v (mkR mkB 5 bs.length 1) (mkV mkP wP vs (1 + 5 * (bs.length : Int))) 1) _ _) _ _ = _
    unfold g53
    rw [hx69 (n := bs.length) (q := 1) (by omega) (by omega) (by omega), tst_some, df (show ¬ 1 + 5 * (bs.length : Int) < 0 by omega), cond_false, hx70 (l := vs) (q := 1 + 5 * (bs.length : Int)) h2 h3 (by omega) (by omega), tst_some, df (show ¬ 1 + 5 * (bs.length : Int) + sumW wP vs < 0 by omega), cond_false, tst_some, df (show ¬ 1 + 5 * (bs.length : Int) + sumW wP vs < 0 by omega), cond_false,
      show m54 (([] : List Cm), 1 + 5 * (bs.length : Int) + sumW wP vs) = some (1 + 5 * (bs.length : Int) + sumW wP vs) from if_pos rfl, tst_some, df (show ¬ 1 + 5 * (bs.length : Int) + sumW wP vs < 0 by omega), cond_false, tst_some, df (show ¬ 1 + 5 * (bs.length : Int) + sumW wP vs < 0 by omega), cond_false]
theorem sum_le {l : List Vp} (h : ∀ v ∈ l, v.2.2.2.length ≤ 1000) : sumW wP l ≤ 1003 * (l.length : Int) := by
  induction l with
  | nil => simp [sumW]
  | cons x r ih =>
    have h1 := ih fun v hv => h v (List.mem_cons_of_mem _ hv)
    have h2 := h x (List.mem_cons_self ..)
    have h3 : wP x ≤ 1003 := by unfold wP; omega
    simp only [sumW, List.length_cons]
    omega
theorem fuF_form (c : Cg) : ∃ k b o v bs vs, fuF c = (k, 0, b, o, v, bs, vs, []) ∧ okS (v, bs, vs) := by
  unfold fuF
  split
  · exact ⟨_, _, _, _, _, _, rfl, okS_of ‹_›⟩
  · exact ⟨_, _, _, _, _, _, rfl, by simp, by simp, fun v hv => by simp at hv⟩
def m4 (c : Cg) : Option Bool := if okZ c then some true else none
theorem sat4 : Sat prog cxT 4 (c4 m4) := s4 m10 m12 mFu mFu m14 m15 m16 m17 m18 sat10 sat12 sat11 sat13 sat14 sat15 sat16 sat17 sat18 m4 fun x t h => by
  obtain ⟨a, b, c⟩ := x
  unfold m4 at h
  split at h
  · rename_i hz
    cases h
    refine ⟨0, ?_⟩
    show g4 m10 m12 mFu mFu m14 m15 m16 m17 m18 0 a b c = some true
    unfold g4
    simp only []
    rw [show m10 ((a, b, c), 1048576) = some (szv 1048576 (wC (a, b, c))) from if_pos ⟨by simp only; omega, by simp only; omega, hz⟩, tst_some]
    by_cases h : szv 1048576 (wC (a, b, c)) < 0
    · rw [dt h, cond_true]
    · rw [df h, cond_false]
      obtain ⟨hM, hC⟩ := smallC hz h
      obtain ⟨w1, w2, w3⟩ := wC_small (c := (a, b, c)) (by omega)
      obtain ⟨r, hr0, hr⟩ := m32_some (c := (a, b, c)) w1 w2 w3
      have h12 : m12 (a, b, c) = some (a, b, c) := if_pos hM
      have h15 : m15 ((a, b, c), a, b, c) = some true := (if_pos hC).trans (by rw [dt rfl])
      have hF : mFu (a, b, c) = some (fuF (a, b, c)) := if_pos hC
      obtain ⟨k, y, o, v, bs, vs, hf, s1, s2, s3⟩ := fuF_form (a, b, c)
      simp only at s1 s2 s3
      rw [hf] at hF
      have h14 : m14 ((k, 0, y, o, v, bs, vs, []), k, 0, y, o, v, bs, vs, []) = some true := if_pos ⟨⟨by unfold big; simp only; omega, by unfold big; simp only; omega, fun v hv => by have := s3 v hv; unfold big; omega⟩, rfl, rfl⟩
      obtain ⟨q, bs', vs', q0, e1, e2⟩ := held_ur (k := k) (a := 0) (b := y) (o := o) (v := v) (bs := bs) (vs := vs) (by omega) (by omega) (fun v hv => by have := s3 v hv; omega) (by have := sum_le s3; omega)
      simp only [h12, tst_some, hF, h14, h15, hr, e1, e2, Bool.not_true, cond_false]
      rw [df (show ¬ r.1 < 0 by omega), df (show ¬ q < 0 by omega), bneF rfl]
      simp only [cond_false]
  · cases h
end Go.Proofs.Try
