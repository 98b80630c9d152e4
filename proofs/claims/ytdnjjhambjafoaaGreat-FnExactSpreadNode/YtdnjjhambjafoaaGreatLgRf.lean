/- A part of the proof of FnExactSpreadNode: LgRf, LgTop. -/
import Derived.Test.YtdnjjhambjafoaaGreatLgRa
import Derived.Test.YtdnjjhambjafoaaGreatLgSa
import Derived.Test.YtdnjjhambjafoaaGreatLgFp
import Derived.Test.YtdnjjhambjafoaaGreatVmOpen
import Derived.Test.YtdnjjhambjafoaaGreatLgPt
set_option linter.unusedVariables false
set_option maxHeartbeats 0
set_option linter.unusedSimpArgs false
namespace Go.Proofs.Tryz
open Go Go.VM Go.RowKit
def m111 (x : Int × Int) : Option Int := some (if x.1 < x.2 then x.1 else x.2)
theorem sat111 : Sat prog cxT 111 (c111 m111) := s111 m111 fun x t h => by
  obtain ⟨a, b⟩ := x
  cases h
  refine ⟨0, ?_⟩
  show g111 0 a b = some (if a < b then a else b)
  unfold g111
  by_cases h : a < b
  · rw [dt h, if_pos h]; rfl
  · rw [df h, if_neg h]; rfl
def nxI (x : Nd) (to : Int) : Int := x.2.2.2.2.2.2.2.2.1.getD to.toNat 0 - 1
def apM (x : Nd) (to : Int) : Ml := (3, x.1, to, x.2.2.1, nxI x to, (if 0 < nxI x to then (x.2.2.2.2.1.getD (nxI x to - 1).toNat dEn).1 else 0), x.2.2.2.2.2.2.1, false, (x.2.2.2.2.1.drop (nxI x to).toNat).take 4)
def ldOk (x : Nd) : Prop := nLen x mid ∧ ndF x = 0 ∧ x.2.2.2.2.2.1 = 2
instance (x : Nd) : Decidable (ldOk x) := by unfold ldOk; infer_instance
theorem nd_next {x : Nd} (h : ndF x = 0) : alw (nmOkN x) x.2.2.2.2.2.2.2.2.1.length 0 = true := by
  have hl := nd_log h
  have hr := nd_rest h
  unfold ndF at h
  cases h1 : decide (1 ≤ x.2.1 ∧ x.2.1 ≤ 5) <;> rw [h1] at h
  · cases h
  cases h2 : idOk x.2.1 x.1 <;> rw [h2] at h
  · cases h
  cases h3 : decide (0 ≤ x.2.2.1 ∧ x.2.2.1 ≤ 100000) <;> rw [h3] at h
  · cases h
  cases h4 : decide (-1 ≤ x.2.2.2.1 ∧ x.2.2.2.1 ≤ IntKind.wrap .i64 (x.2.1 - 1)) <;> rw [h4] at h
  · cases h
  cases h5 : decide (0 ≤ x.2.2.2.2.2.1 ∧ x.2.2.2.2.2.1 ≤ 2) <;> rw [h5] at h
  · cases h
  rw [hl] at h
  cases h6 : decide ((lastE x.2.2.2.2.1).1 > x.2.2.1) <;> rw [h6] at h
  · rw [dt hr.2.1, hr.2.2] at h
    cases h9 : alw (nmOkN x) x.2.2.2.2.2.2.2.2.1.length 0
    · rw [h9] at h; cases h
    · rfl
  · cases h
theorem nx_in {x : Nd} (h : ldOk x) {to : Int} (h0 : 0 ≤ to) (h1 : to < x.2.1) : to < (x.2.2.2.2.2.2.2.2.1.length : Int) ∧ 0 ≤ nxI x to ∧ nxI x to ≤ (x.2.2.2.2.1.length : Int) := by
  have hl := lead_len h.2.1 h.2.2
  have := alw_iff.1 (nd_next h.2.1) to.toNat (Nat.zero_le _) (by omega)
  unfold nmOkN at this
  simp only [Bool.and_eq_true, decide_eq_true_eq] at this
  unfold nxI
  omega
theorem drop_take4 {α : Type} (l : List α) (i j : Nat) (hi : i ≤ l.length) (hj : j = (if l.length < i + 4 then l.length else i + 4)) : (l.take j).drop i = (l.drop i).take 4 := by
  rw [List.drop_take]
  subst hj
  split
  · rw [List.take_of_length_le (by simp), List.take_of_length_le (by simp; omega)]
  · congr 1; omega
def m80 (y : Nd × Int) : Option Ml := if ldOk y.1 ∧ 0 ≤ y.2 ∧ y.2 < y.1.2.1 then some (apM y.1 y.2) else none
theorem sat80 : Sat prog cxT 80 (c80 m80) := s80 m111 m93 sat111 sat93 m80 fun y t h => by
  obtain ⟨x, to⟩ := y
  unfold m80 at h
  split at h
  · rename_i hc
    cases h
    obtain ⟨hL, h0, h1⟩ := hc
    have hL : ldOk x := hL
    have h0 : 0 ≤ to := h0
    have h1 : to < x.2.1 := h1
    obtain ⟨h2, h3, h4⟩ := nx_in hL h0 h1
    have h10 : x.2.2.2.2.1.length ≤ 40 := log40 (nd_log hL.2.1)
    refine ⟨0, ?_⟩
    show g80 m111 m93 0 x to = some (apM x to)
    unfold g80
    have e0 : x.2.2.2.2.2.2.2.2.1.getD to.toNat 0 - 1 = nxI x to := rfl
    have eq4 : ∀ q : Int, q = (if (x.2.2.2.2.1.length : Int) < nxI x to + 4 then (x.2.2.2.2.1.length : Int) else nxI x to + 4) → nxI x to ≤ q ∧ q ≤ (x.2.2.2.2.1.length : Int) ∧ List.drop (nxI x to).toNat (List.take q.toNat x.2.2.2.2.1) = (x.2.2.2.2.1.drop (nxI x to).toNat).take 4 := fun q hq => by
      refine ⟨by split at hq <;> omega, by split at hq <;> omega, ?_⟩
      refine drop_take4 _ _ _ (by omega) ?_
      split at hq
      · rw [if_pos (by omega)]; omega
      · rw [if_neg (by omega)]; omega
    rw [dt h0, dt h2, wi (show -9223372036854775808 ≤ x.2.2.2.2.2.2.2.2.1.getD to.toNat 0 - 1 by omega) (by omega), e0]
    rw [wi (show -9223372036854775808 ≤ nxI x to - 1 by omega) (by omega), wi (show -9223372036854775808 ≤ nxI x to + 4 by omega) (by omega)]
    simp only [Bool.and_self, cond_true, m111, tst_some]
    have hm : ∀ l : List En, l.length ≤ 40 → m93 l = some l := fun l hl => if_pos (Nat.le_trans hl (by decide))
    obtain ⟨k1, k2, k3⟩ := eq4 _ rfl
    rw [dt h3, dt k1, dt k2, k3, hm _ (by simp; omega)]
    unfold apM
    by_cases hp : nxI x to > 0
    · rw [dt hp, cond_true, dt (show 0 ≤ nxI x to - 1 by omega), dt (show nxI x to - 1 < (x.2.2.2.2.1.length : Int) by omega), if_pos hp]
      rfl
    · rw [df hp, cond_false, if_neg (show ¬ 0 < nxI x to by omega)]
      rfl
  · cases h
def m108 (y : Nd × Int × Int) : Option Ml := some (y.2.2, y.1.1, y.2.1, y.1.2.2.1, 0, 0, 0, false, [])
theorem sat108 : Sat prog cxT 108 (c108 m108) := s108 m108 fun x t h => by cases h; exact ⟨0, rfl⟩
def m113 (y : List En × Int) : Option (List En) := if 0 ≤ y.2 ∧ y.2 ≤ (y.1.length : Int) then some (y.1.drop y.2.toNat) else none
theorem sat113 : Sat prog cxT 113 (c113 m113) := s113 m113 fun y t h => by
  obtain ⟨a, i⟩ := y
  unfold m113 at h
  split at h
  · rename_i hc
    cases h
    obtain ⟨h0, h1⟩ := hc
    simp only at h0 h1
    refine ⟨0, ?_⟩
    show g113 0 a i = _
    unfold g113
    rw [dt h0, dt h1, dt (Int.le_refl _), Int.toNat_natCast, List.take_length]
    rfl
  · cases h
def m114 (y : List En × Int × List En) : Option (List En) := if 0 ≤ y.2.1 ∧ y.2.1 ≤ (y.1.length : Int) ∧ y.1.length + y.2.2.length ≤ 1000000000 then some (y.1.take y.2.1.toNat ++ y.2.2) else none
theorem sat114 : Sat prog cxT 114 (c114 m114) := s114 m134 sat134 m114 fun y t h => by
  obtain ⟨a, i, b⟩ := y
  unfold m114 at h
  split at h
  · rename_i hc
    cases h
    obtain ⟨h0, h1, h2⟩ := hc
    simp only at h0 h1 h2
    refine ⟨0, ?_⟩
    show g114 m134 0 a i b = _
    unfold g114
    rw [dt h0, dt h1, dt (Int.le_refl _)]
    simp only [Bool.and_self, cond_true]
    rw [show m134 (List.drop (0 : Int).toNat (List.take i.toNat a) :: [b]) = some (List.drop (0 : Int).toNat (List.take i.toNat a) :: [b]).flatten from if_pos ⟨by simp, by simp, by simp [sumL]; omega⟩, tst_some]
    simp
  · cases h
theorem sat82 : Sat prog cxT 82 (c82 m80) := s82 m108 m112 m113 m99 m114 sat108 sat112 sat113 sat99 sat114 m80 fun y t h => by
  obtain ⟨x, to⟩ := y
  unfold m80 at h
  split at h
  · rename_i hc
    cases h
    obtain ⟨hL, h0, h1⟩ := hc
    have hL : ldOk x := hL
    have h0 : 0 ≤ to := h0
    have h1 : to < x.2.1 := h1
    obtain ⟨h2, h3, h4⟩ := nx_in hL h0 h1
    have h10 : x.2.2.2.2.1.length ≤ 40 := log40 (nd_log hL.2.1)
    refine ⟨0, ?_⟩
    show g82 m108 m112 m113 m99 m114 0 x to = some (apM x to)
    unfold g82
    have e0 : x.2.2.2.2.2.2.2.2.1.getD to.toNat 0 - 1 = nxI x to := rfl
    rw [dt h0, dt h2, wi (show -9223372036854775808 ≤ x.2.2.2.2.2.2.2.2.1.getD to.toNat 0 - 1 by omega) (by omega), e0]
    simp only [m108, tst_some, Bool.and_self, cond_true]
    rw [show m112 (x, nxI x to) = some _ from if_pos (Nat.le_trans h10 (by decide)), show m113 (x.2.2.2.2.1, nxI x to) = some _ from if_pos ⟨h3, h4⟩]
    simp only [tst_some, m99]
    have hd : ((x.2.2.2.2.1.drop (nxI x to).toNat).length : Int) = (x.2.2.2.2.1.length : Int) - nxI x to := by simp; omega
    rw [show m114 (x.2.2.2.2.1.drop (nxI x to).toNat, (if ((x.2.2.2.2.1.drop (nxI x to).toNat).length : Int) < 4 then ((x.2.2.2.2.1.drop (nxI x to).toNat).length : Int) else 4), []) = some ((x.2.2.2.2.1.drop (nxI x to).toNat).take 4) from (if_pos ⟨by simp only; split <;> omega, by simp only; split <;> omega, by simp; omega⟩).trans (by
      simp only [List.append_nil]
      split
      · rw [List.take_of_length_le (by omega), List.take_of_length_le (by omega)]
      · rfl)]
    simp only [tst_some]
    unfold apM
    by_cases hp : 0 < nxI x to
    · rw [if_pos (show 1 ≤ nxI x to ∧ nxI x to ≤ (x.2.2.2.2.1.length : Int) by omega), if_pos hp]
    · rw [if_neg (show ¬ (1 ≤ nxI x to ∧ nxI x to ≤ (x.2.2.2.2.1.length : Int)) by omega), if_neg hp]
  · cases h
def spL (f : Int → Ml) (me : Int) : Nat → Int → List Ml
  | 0, _ => []
  | n + 1, i => bif i != me then f i :: spL f me n (i + 1) else spL f me n (i + 1)
theorem spL_len (f : Int → Ml) (me : Int) : ∀ (n : Nat) (i : Int), (spL f me n i).length ≤ n
  | 0, _ => Nat.le_refl _
  | n + 1, i => by
    unfold spL
    have := spL_len f me n (i + 1)
    cases i != me <;> simp only [cond_true, cond_false, List.length_cons] <;> omega
theorem spL_mem (f : Int → Ml) (me : Int) : ∀ (n : Nat) (i : Int) (m : Ml), m ∈ spL f me n i → ∃ j, m = f j
  | 0, _, _, h => by cases h
  | n + 1, i, m, h => by
    unfold spL at h
    cases hb : i != me <;> rw [hb] at h
    · exact spL_mem f me n (i + 1) m h
    · rcases List.mem_cons.1 h with h | h
      · exact ⟨i, h⟩
      · exact spL_mem f me n (i + 1) m h
theorem el72 (m82 : Nd × Int → Option Ml) (f : Int → Ml) (L : Nat) (x y : Nd) (hp : x.2.1 ≤ 5) (hf : ∀ i, 0 ≤ i → i < x.2.1 → m82 (y, i) = some (f i)) (k : List Ml → Option (List Ml)) : ∀ (n : Nat) (acc : List Ml) (i : Int), 0 ≤ i → acc.length ≤ i.toNat → i ≤ x.2.1 → (x.2.1 - i).toNat < n →
    l72_0 m82 L x y n acc i k = k (acc ++ spL f x.1 (x.2.1 - i).toNat i)
  | 0, acc, i, _, _, _, h => by omega
  | n + 1, acc, i, h0, ha, h1, h => by
    unfold l72_0
    by_cases hi : i < x.2.1
    · rw [dt hi, cond_true, wi (show -9223372036854775808 ≤ i + 1 by omega) (by omega), show (x.2.1 - i).toNat = (x.2.1 - (i + 1)).toNat + 1 by omega]
      unfold spL
      cases i != x.1
      · exact el72 m82 f L x y hp hf k n acc (i + 1) (by omega) (by omega) (by omega) (by omega)
      · rw [hf i h0 hi]
        simp only [cond_true, tst_some]
        rw [dt (show acc.length + List.length [(f i)] ≤ 1000000000 by simp only [List.length_singleton]; omega), cond_true]
        refine (el72 m82 f L x y hp hf k n (acc ++ [f i]) (i + 1) (by omega) (by simp; omega) (by omega) (by omega)).trans ?_
        rw [List.append_assoc]
        rfl
    · rw [df hi, cond_false, show (x.2.1 - i).toNat = 0 by omega]
      simp [spL]
def m72 (y : Nd × Nd) : Option (List Ml) := if y.1 = y.2 ∧ ldOk y.1 then some (spL (apM y.1) y.1.1 y.1.2.1.toNat 0) else none
theorem sat72 : Sat prog cxT 72 (c72 m72) := s72 m80 sat82 m72 fun z t h => by
  obtain ⟨x, y⟩ := z
  unfold m72 at h
  split at h
  · rename_i hc
    cases h
    obtain ⟨hxy, hL⟩ := hc
    simp only at hxy
    subst hxy
    have hL : ldOk x := hL
    have hp : 1 ≤ x.2.1 ∧ x.2.1 ≤ 5 := nd_peers hL.2.1
    refine ⟨x.2.1.toNat + 1, ?_⟩
    show g72 m80 _ x x = _
    unfold g72
    have e := el72 m80 (apM x) (x.2.1.toNat + 1) x x hp.2 (fun i h0 h1 => if_pos ⟨hL, h0, h1⟩) (fun w => some w) (x.2.1.toNat + 1) [] 0 (by omega) (by simp) (by omega) (by omega)
    rw [e]
    simp
  · cases h
def spR (x : Nd) : Nr := bif ndF x != 0 then badR (ndF x) else bif x.2.2.2.2.2.1 != 2 then badR 10 else mkNr 0 x (spL (apM x) x.1 x.2.1.toNat 0)
def m27 (x : Nd) : Option Nr := if nLen x mid then some (spR x) else none
theorem sat28 : Sat prog cxT 28 (c28 m27) := s28 m81 m13 m72 sat81 sat69 sat72 m27 fun x t h => by
  obtain ⟨a, b, c, d, lg, e, f, vt, nx, mt⟩ := x
  unfold m27 at h
  split at h
  · rename_i hm
    cases h
    refine ⟨0, ?_⟩
    show g28 m81 m13 m72 0 a b c d lg e f vt nx mt = _
    unfold g28 spR
    rw [show m81 (a, b, c, d, lg, e, f, vt, nx, mt) = some _ from if_pos hm]
    simp only [tst_some]
    by_cases hn : ndF (a, b, c, d, lg, e, f, vt, nx, mt) = 0
    case neg =>
      have hb : (ndF (a, b, c, d, lg, e, f, vt, nx, mt) != 0) = true := by rw [bned, df hn]; rfl
      simp only [hb, cond_true]
      rfl
    rw [hn]
    by_cases hr : e = 2
    case neg =>
      have hb : (e != 2) = true := by rw [bned, df hr]; rfl
      simp only [hb, cond_true, bneF, cond_false]
      rfl
    subst hr
    simp only [bneF, cond_false]
    rw [show m13 (a, b, c, d, lg, 2, f, vt, nx, mt) = some (a, b, c, d, lg, 2, f, vt, nx, mt) from if_pos hm]
    simp only [tst_some]
    rw [show m72 ((a, b, c, d, lg, 2, f, vt, nx, mt), (a, b, c, d, lg, 2, f, vt, nx, mt)) = some _ from if_pos ⟨rfl, hm, hn, rfl⟩]
    rfl
  · cases h
theorem el27 (L : Nat) (a0 a1 a2 a3 : Int) (a4 : List En) (a5 a6 : Int) (a7 a8 a9 : List Int) (x0 x1 x2 x3 : Int) (x4 : List En) (x5 x6 : Int) (x7 x8 x9 : List Int) (u0 u1 u2 u3 u4 : Int) (u5 : List En) (u6 u7 : Int) (u8 u9 u10 : List Int) (u11 : List Ml) (y0 y1 y2 y3 y4 : Int) (y5 : List En) (y6 y7 : Int) (y8 y9 y10 : List Int)
    (hp : x1 ≤ 5) (hf : ∀ i, 0 ≤ i → i < x1 → m80 ((x0, x1, x2, x3, x4, x5, x6, x7, x8, x9), i) = some (apM (x0, x1, x2, x3, x4, x5, x6, x7, x8, x9) i)) (k : Int → Int → Int → Int → Int → List En → Int → Int → List Int → List Int → List Int → List Ml → Int → Int → Int → Int → Int → List En → Int → Int → List Int → List Int → List Int → List Ml → Option Nr) : ∀ (n : Nat) (acc : List Ml) (i : Int), 0 ≤ i → acc.length ≤ i.toNat → i ≤ x1 → (x1 - i).toNat < n →
    l27_0 m42 m64 m13 m80 L a0 a1 a2 a3 a4 a5 a6 a7 a8 a9 n x0 x1 x2 x3 x4 x5 x6 x7 x8 x9 u0 u1 u2 u3 u4 u5 u6 u7 u8 u9 u10 u11 y0 y1 y2 y3 y4 y5 y6 y7 y8 y9 y10 acc i k =
      k u0 u1 u2 u3 u4 u5 u6 u7 u8 u9 u10 u11 y0 y1 y2 y3 y4 y5 y6 y7 y8 y9 y10 (acc ++ spL (apM (x0, x1, x2, x3, x4, x5, x6, x7, x8, x9)) x0 (x1 - i).toNat i)
  | 0, acc, i, _, _, _, h => by omega
  | n + 1, acc, i, h0, ha, h1, h => by
    unfold l27_0
    by_cases hi : i < x1
    · rw [dt hi, cond_true, wi (show -9223372036854775808 ≤ i + 1 by omega) (by omega), show (x1 - i).toNat = (x1 - (i + 1)).toNat + 1 by omega]
      unfold spL
      cases i != x0
      · exact el27 L a0 a1 a2 a3 a4 a5 a6 a7 a8 a9 x0 x1 x2 x3 x4 x5 x6 x7 x8 x9 u0 u1 u2 u3 u4 u5 u6 u7 u8 u9 u10 u11 y0 y1 y2 y3 y4 y5 y6 y7 y8 y9 y10 hp hf k n acc (i + 1) (by omega) (by omega) (by omega) (by omega)
      · rw [hf i h0 hi]
        simp only [cond_true, tst_some]
        rw [dt (show acc.length + List.length [(apM (x0, x1, x2, x3, x4, x5, x6, x7, x8, x9) i)] ≤ 1000000000 by simp only [List.length_singleton]; omega), cond_true]
        refine (el27 L a0 a1 a2 a3 a4 a5 a6 a7 a8 a9 x0 x1 x2 x3 x4 x5 x6 x7 x8 x9 u0 u1 u2 u3 u4 u5 u6 u7 u8 u9 u10 u11 y0 y1 y2 y3 y4 y5 y6 y7 y8 y9 y10 hp hf k n (acc ++ [apM (x0, x1, x2, x3, x4, x5, x6, x7, x8, x9) i]) (i + 1) (by omega) (by simp; omega) (by omega) (by omega)).trans ?_
        rw [List.append_assoc]
        rfl
    · rw [df hi, cond_false, show (x1 - i).toNat = 0 by omega]
      simp [spL]
theorem sat27 : Sat prog cxT 27 (c27 m27) := s27 m42 m64 m13 m80 sat42 sat64 sat65 sat80 m27 fun x t h => by
  obtain ⟨a, b, c, d, lg, e, f, vt, nx, mt⟩ := x
  unfold m27 at h
  split at h
  · rename_i hm
    cases h
    refine ⟨b.toNat + 1, ?_⟩
    show g27 m42 m64 m13 m80 (b.toNat + 1) a b c d lg e f vt nx mt = _
    unfold g27 spR
    rw [show m42 (a, b, c, d, lg, e, f, vt, nx, mt) = some (ndF (a, b, c, d, lg, e, f, vt, nx, mt)) from if_pos hm]
    simp only [tst_some, m64]
    by_cases hn : ndF (a, b, c, d, lg, e, f, vt, nx, mt) = 0
    case neg => rw [bned, df hn]; rfl
    rw [hn]
    by_cases hr : e = 2
    case neg => rw [bned e, df hr]; rfl
    subst hr
    simp only [bneF, cond_false]
    rw [show m13 (a, b, c, d, lg, 2, f, vt, nx, mt) = some (a, b, c, d, lg, 2, f, vt, nx, mt) from if_pos hm]
    simp only [tst_some]
    have hp := nd_peers hn
    simp only at hp
    have hL : ldOk (a, b, c, d, lg, 2, f, vt, nx, mt) := ⟨hm, hn, rfl⟩
    rw [el27 _ a b c d lg 2 f vt nx mt a b c d lg 2 f vt nx mt _ _ _ _ _ _ _ _ _ _ _ _ _ _ _ _ _ _ _ _ _ _ _ hp.2 (fun i h0 h1 => if_pos ⟨hL, h0, h1⟩) _ (b.toNat + 1) [] 0 (by omega) (by simp) (by omega) (by omega)]
    simp only [Int.sub_zero, List.nil_append]
    rfl
  · cases h
theorem ap_w (x : Nd) (to : Int) : (enM (apM x to)).length ≤ 4 := by simp only [apM, enM, List.length_take]; omega
theorem spL_w (x : Nd) : ∀ (l : List Ml), (∀ m ∈ l, ∃ j, m = apM x j) → sumW wM l ≤ 44 * (l.length : Int)
  | [], _ => by simp [sumW]
  | m :: r, h => by
    obtain ⟨j, hj⟩ := h m (List.mem_cons_self ..)
    have h1 := spL_w x r (fun y hy => h y (List.mem_cons_of_mem _ hy))
    have h2 := ap_w x j
    rw [← hj] at h2
    have h3 : sumW wM (m :: r) = wM m + sumW wM r := rfl
    have h4 : wM m = 8 + 9 * ((enM m).length : Int) := rfl
    rw [h3, h4, List.length_cons]
    omega
theorem spR_ok {x : Nd} (h : nLen x 1048576) : nrOk (spR x) := by
  unfold spR
  by_cases hn : ndF x = 0
  case neg => rw [bned, df hn]; exact bare_ok ..
  rw [hn]
  cases x.2.2.2.2.2.1 != 2
  case true => exact bare_ok ..
  have hp := nd_peers hn
  have hl := spL_len (apM x) x.1 x.2.1.toNat 0
  have hmem := spL_mem (apM x) x.1 x.2.1.toNat 0
  have hw := spL_w x _ hmem
  have hk := k4_le h
  refine ⟨nLen_up h (by decide), ?_, ?_, ?_⟩
  · show (spL (apM x) x.1 x.2.1.toNat 0).length ≤ 1000000000
    omega
  · intro m hm
    obtain ⟨j, rfl⟩ := hmem m hm
    exact Nat.le_trans (ap_w x j) (by decide)
  · show k4 x 1 + sumW wM (spL (apM x) x.1 x.2.1.toNat 0) ≤ 1000000000
    omega
theorem law6 (mS mI : Nd → Option Nr) (R : Nd → Nr) (hS : ∀ x, nLen x 1048576 → mS x = some (R x)) (hI : ∀ x, nLen x 1048576 → mI x = some (R x)) (hR : ∀ x, nLen x 1048576 → nrOk (R x)) (x : Nd) (t : Bool) (h : mW x = some t) :
    g6 m11 m13 mS mI m23 m15 m24 m25 m26 0 x.1 x.2.1 x.2.2.1 x.2.2.2.1 x.2.2.2.2.1 x.2.2.2.2.2.1 x.2.2.2.2.2.2.1 x.2.2.2.2.2.2.2.1 x.2.2.2.2.2.2.2.2.1 x.2.2.2.2.2.2.2.2.2 = some t := by
  unfold mW at h
  split at h
  · rename_i ht
    cases h
    unfold g6
    rw [show m11 (_, 1048576) = some (szv 1048576 (wN x)) from m6_eq ht, tst_some]
    by_cases hs : szv 1048576 (wN x) < 0
    · rw [dt hs, cond_true]
    · rw [df hs, cond_false]
      have hsm := (small_nd (by omega) hs).1
      have hl := nLen_up (b := mid) hsm (by decide)
      rw [show m13 _ = some x from m8_eq hl]
      simp only [tst_some]
      rw [show mS _ = some (R x) from hS x hsm, show mI _ = some (R x) from hI x hsm]
      have hr := hR x hsm
      generalize R x = r at hr
      obtain ⟨e23, e25, e26, hk⟩ := nr_law r hr
      simp only [tst_some]
      rw [show m23 _ = some true from e23, show m15 _ = some true from m10_eq hl, show m24 (x, 1) = some (k4 x 1, mkN x 1) from if_pos ⟨nLen_up hsm (by decide), by simp only; omega, by simp only; omega⟩, show m25 _ = some _ from e25]
      simp only [tst_some]
      have hx := k4_pos (n := x) (v := 1) (by omega)
      rw [df (show ¬ k4 x 1 < 0 by omega)]
      simp only [mkNr, mkN, ndR, sdR] at e26 hk ⊢
      rw [e26]
      simp only [tst_some]
      rw [df (by omega), bneF rfl]
      rfl
  · cases h
theorem sat6 : Sat prog cxT 6 (c6 mW) := s6 m11 m13 m27 m27 m23 m15 m24 m25 m26 sat11 sat13 sat27 sat28 sat23 sat15 sat24 sat25 sat26 mW fun x t h => by
  obtain ⟨a, b, c, d, lg, e, f, vt, nx, mt⟩ := x
  exact ⟨0, law6 m27 m27 spR (fun x h => if_pos (nLen_up h (by decide))) (fun x h => if_pos (nLen_up h (by decide))) (fun x h => spR_ok h) (a, b, c, d, lg, e, f, vt, nx, mt) t h⟩
end Go.Proofs.Tryz

namespace Go.Proofs.Tryz
open Go Go.VM Go.RowKit
theorem cells2 : prog.cellsOf 2 = 1 := by kernel_rfl
theorem cells22 : prog.cellsOf 22 = 1 := by kernel_rfl
theorem cells23 : prog.cellsOf 23 = 1 := by kernel_rfl
theorem cells51 : prog.cellsOf 51 = 6 := by kernel_rfl
theorem cells53 : prog.cellsOf 53 = 9 := by kernel_rfl
theorem cells25 : prog.cellsOf 25 = 10 := by kernel_rfl
def i64In (x : Int) : Prop := (Lit.int .i64 x).wf = true
def opM_good (f : Cm) : Prop := i64In f.1 ∧ i64In f.2.1 ∧ i64In f.2.2.1 ∧ i64In f.2.2.2.1 ∧ i64In f.2.2.2.2.1 ∧ i64In f.2.2.2.2.2
def encM (f : Cm) : List (L cxT.ty) := [lv (.int .i64 f.1), lv (.int .i64 f.2.1), lv (.int .i64 f.2.2.1), lv (.int .i64 f.2.2.2.1), lv (.int .i64 f.2.2.2.2.1), lv (.int .i64 f.2.2.2.2.2)]
set_option maxRecDepth 100000 in
theorem opM : Opens prog cxT 51 encM opM_good :=
  opens_struct underlying51 cells51 (opensF_cons (opens_int underlying2) rfl cells2 (opensF_cons (opens_int underlying2) rfl cells2 (opensF_cons (opens_int underlying2) rfl cells2 (opensF_cons (opens_int underlying2) rfl cells2 (opensF_cons (opens_int underlying2) rfl cells2 (opensF_one (l := fun x : Int => lv (.int .i64 x)) (opens_int underlying2) rfl cells2))))))
def opE_good (x : En) : Prop := i64In x.1 ∧ i64In x.2.1 ∧ i64In x.2.2.1 ∧ opM_good x.2.2.2
def encE (x : En) : List (L cxT.ty) := [lv (.int .i64 x.1), lv (.int .i64 x.2.1), lv (.int .i64 x.2.2.1), lv (.int .i64 x.2.2.2.1), lv (.int .i64 x.2.2.2.2.1), lv (.int .i64 x.2.2.2.2.2.1), lv (.int .i64 x.2.2.2.2.2.2.1), lv (.int .i64 x.2.2.2.2.2.2.2.1), lv (.int .i64 x.2.2.2.2.2.2.2.2)]
def i1 (x : Int) : List (L cxT.ty) := [lv (.int .i64 x)]
theorem opI1 : Opens prog cxT 2 i1 i64In := opens_int underlying2
set_option maxRecDepth 100000 in
theorem opE : Opens prog cxT 53 encE opE_good :=
  opens_structG (T := En) (k := 1 + (1 + (1 + 6))) (enc := fun x => i1 x.1 ++ (i1 x.2.1 ++ (i1 x.2.2.1 ++ encM x.2.2.2))) (good := opE_good) underlying53 cells53
    (opensG_cons (enc1 := i1) (good := i64In) opI1 rfl cells2 (opensG_cons (enc1 := i1) (good := i64In) opI1 rfl cells2 (opensG_cons (enc1 := i1) (good := i64In) opI1 rfl cells2 (opensG_one (enc := encM) (good := opM_good) opM rfl cells51))))
def opEs_good (x : List En) : Prop := x.length ≤ maxLen ∧ ∀ y ∈ x, opE_good y
def row53 (xs : List En) : L cxT.ty := some (.inr (ro 53 xs))
set_option maxRecDepth 100000 in
theorem opEs : Opens prog cxT 22 (fun x : List En => [row53 x]) opEs_good :=
  opens_slice (cx := cxT) (e := 53) (good := opE_good) underlying22 cells53 (by decide) cxT_ok opE
def opIs_good (x : List Int) : Prop := x.length ≤ maxLen ∧ ∀ y ∈ x, i64In y
def row2 (xs : List Int) : L cxT.ty := some (.inr (ro 2 xs))
set_option maxRecDepth 100000 in
theorem opIs : Opens prog cxT 23 (fun x : List Int => [row2 x]) opIs_good :=
  opens_slice (cx := cxT) (e := 2) (good := i64In) underlying23 cells2 (by decide) cxT_ok (opens_int (cx := cxT) underlying2)
def encN (x : Nd) : List (L cxT.ty) := [lv (.int .i64 x.1), lv (.int .i64 x.2.1), lv (.int .i64 x.2.2.1), lv (.int .i64 x.2.2.2.1), row53 x.2.2.2.2.1, lv (.int .i64 x.2.2.2.2.2.1), lv (.int .i64 x.2.2.2.2.2.2.1), row2 x.2.2.2.2.2.2.2.1, row2 x.2.2.2.2.2.2.2.2.1, row2 x.2.2.2.2.2.2.2.2.2]
def opN_good (x : Nd) : Prop := i64In x.1 ∧ i64In x.2.1 ∧ i64In x.2.2.1 ∧ i64In x.2.2.2.1 ∧ opEs_good x.2.2.2.2.1 ∧ i64In x.2.2.2.2.2.1 ∧ i64In x.2.2.2.2.2.2.1 ∧ opIs_good x.2.2.2.2.2.2.2.1 ∧ opIs_good x.2.2.2.2.2.2.2.2.1 ∧ opIs_good x.2.2.2.2.2.2.2.2.2
set_option maxRecDepth 100000 in
theorem opN : Opens prog cxT 25 encN opN_good :=
  opens_struct underlying25 cells25 (opensF_cons (opens_int underlying2) rfl cells2 (opensF_cons (opens_int underlying2) rfl cells2 (opensF_cons (opens_int underlying2) rfl cells2 (opensF_cons (opens_int underlying2) rfl cells2 (opensF_cons (l := row53) opEs rfl cells22
    (opensF_cons (opens_int underlying2) rfl cells2 (opensF_cons (opens_int underlying2) rfl cells2 (opensF_cons (l := row2) opIs rfl cells23 (opensF_cons (l := row2) opIs rfl cells23 (opensF_one (l := row2) opIs rfl cells23))))))))))
theorem top_of {α : Type} {x : List α} {p : α → Prop} (h : x.length ≤ maxLen ∧ ∀ y ∈ x, p y) : x.length ≤ top := Nat.le_trans h.1 (by decide)
theorem nd_top {x : Nd} (h : opN_good x) : nLen x top := ⟨top_of h.2.2.2.2.1, top_of h.2.2.2.2.2.2.2.1, top_of h.2.2.2.2.2.2.2.2.1, top_of h.2.2.2.2.2.2.2.2.2⟩
end Go.Proofs.Tryz
