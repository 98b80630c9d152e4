/- A part of the proof of FnLooks: L4Pk, L4Pm, L4Pn, L4Po. -/
import Derived.Test.YtmdmeakelebfcaaL4Pf
import Derived.Test.YtmdmeakelebfcaaL4Fa
import Derived.WalkMore
set_option maxHeartbeats 0
set_option linter.unusedVariables false
set_option linter.unusedSimpArgs false
namespace Go.Proofs.Try
open Go Go.VM Go.RowKit

/-! markByteS, heldByteS -/
def mkI (k : Int) (n : Nat) : List Int := (List.range n).map fun (i : Nat) => k + (i : Int)
theorem mkI_len (k : Int) (n : Nat) : (mkI k n).length = n := by simp [mkI]
theorem mkI_get (k : Int) (n i : Nat) (h : i < n) : (mkI k n).getD i 0 = k + (i : Int) := by
  simp [mkI, List.getD, h]
def m59 (x : List Int × Int) : Option (Int × List Int) := if 0 ≤ x.2 ∧ x.2 ≤ 1000000000000 ∧ x.1.length ≤ 1000000000000 then some (x.2 + x.1.length, mkI x.2 x.1.length) else none
theorem p59 (L : Nat) (a b : List Int) (c k0 : Int) (h0 : 0 ≤ k0) (h1 : k0 ≤ 1000000000000) (hb : b.length ≤ 1000000000000) (k : List Int → Int → Option (Int × List Int)) : ∀ (n i : Nat) (o : List Int), o.length = b.length → i ≤ b.length → b.length < n + i → o.take i = (mkI k0 b.length).take i →
    l59_0 L a c n o (k0 + i) i k = k (mkI k0 b.length) (k0 + b.length)
  | 0, i, o, _, h3, h4, _ => by omega
  | n + 1, i, o, h2, h3, h4, h5 => by
    unfold l59_0
    by_cases hi : i < b.length
    · simp (disch := omega) only [dt, df, wi, cond_true, Bool.and_self, Int.toNat_natCast]
      have := p59 L a b c k0 h0 h1 hb k n (i + 1) (o.set i (k0 + i)) (by rw [List.length_set]; exact h2) (by omega) (by omega) (by
        rw [List.take_add_one, List.take_add_one, List.take_set_of_le (Nat.le_refl _), h5]
        congr 1
        rw [List.getElem?_set_self (by omega)]
        have := mkI_get k0 b.length i hi
        have hl : i < (mkI k0 b.length).length := by rw [mkI_len]; exact hi
        simp only [List.getD, List.getElem?_eq_getElem hl, Option.getD_some] at this
        rw [List.getElem?_eq_getElem hl, this])
      simp only [Int.natCast_add, Int.cast_ofNat_Int] at this
      rw [show k0 + (i : Int) + 1 = k0 + ((i : Int) + 1) by omega]
      exact this
    · simp (disch := omega) only [df, cond_false]
      have hil : i = b.length := by omega
      have : o = mkI k0 b.length := by
        rw [hil] at h5
        rw [← h2, List.take_length, h2] at h5
        rw [h5]
        exact List.take_of_length_le (by rw [mkI_len]; exact Nat.le_refl _)
      rw [this, hil]
theorem sat59 : SatW prog cxT 59 (c59 m59).nres (c59 m59).n (c59 m59).F := s59 m59 fun x t h => by
  obtain ⟨a, k⟩ := x
  unfold m59 at h
  split at h
  · rename_i hc
    obtain ⟨h1, h2, h3⟩ := hc
    simp only at h1 h2 h3 h
    cases h
    refine ⟨a.length + 1, ?_⟩
    unfold g59
    have := p59 (a.length + 1) a a k k h1 h2 h3 (fun o k => some (k, o)) (a.length + 1) 0 a rfl (by omega) (by omega) rfl
    simpa using this
  · cases h

def m60 (x : List Int × Int) : Option Int := if 0 ≤ x.2 ∧ x.2 ≤ 1000000000000 ∧ x.1.length ≤ 1000000000000 ∧ x.1 = mkI x.2 x.1.length then some (x.2 + x.1.length) else none
theorem p60 (L : Nat) (a : List Int) (c k0 : Int) (h0 : 0 ≤ k0) (h1 : k0 ≤ 1000000000000) (hb : a.length ≤ 1000000000000) (ha : ∀ i, i < a.length → a.getD i 0 = k0 + i) (k : Int → Option Int) : ∀ (n i : Nat), i ≤ a.length → a.length < n + i →
    l60_0 L a c n (k0 + i) i k = k (k0 + a.length)
  | 0, i, h3, h4 => by omega
  | n + 1, i, h3, h4 => by
    unfold l60_0
    by_cases hi : i < a.length
    · simp (disch := omega) only [dt, df, wi, cond_true, Bool.and_self, Int.toNat_natCast]
      rw [bneF (ha i hi)]
      have := p60 L a c k0 h0 h1 hb ha k n (i + 1) (by omega) (by omega)
      simp only [Int.natCast_add, Int.cast_ofNat_Int] at this
      rw [show k0 + (i : Int) + 1 = k0 + ((i : Int) + 1) by omega]
      exact this
    · simp (disch := omega) only [df, cond_false]
      rw [show i = a.length by omega]
theorem sat60 : Sat prog cxT 60 (c60 m60) := s60 m60 fun x t h => by
  obtain ⟨a, k⟩ := x
  unfold m60 at h
  split at h
  · rename_i hc
    obtain ⟨h1, h2, h3, h4⟩ := hc
    simp only at h1 h2 h3 h4 h
    cases h
    refine ⟨a.length + 1, ?_⟩
    unfold g60
    have := p60 (a.length + 1) a k k h1 h2 h3 (fun i hi => by
      have e := mkI_get k a.length i hi
      rw [← h4] at e
      exact e) (fun k => some k) (a.length + 1) 0 (by omega) (by omega)
    simpa using this
  · cases h

/-! results of bytes -/
def m30 (x : (Int × List Int) × Int) : Option (Int × Int × List Int) := if 0 ≤ x.2 ∧ x.2 ≤ 1000000000000 ∧ x.1.2.length ≤ 1000000000000 then some (x.2 + x.1.2.length, x.1.1, mkI x.2 x.1.2.length) else none
theorem sat30 : SatW prog cxT 30 (c30 m30).nres (c30 m30).n (c30 m30).F := s30 m59 sat59 m30 fun x t h => by
  obtain ⟨⟨c, a⟩, k⟩ := x
  unfold m30 at h
  split at h
  · rename_i hc
    cases h
    refine ⟨0, ?_⟩
    have e : m59 (a, k) = some (k + a.length, mkI k a.length) := if_pos hc
    unfold g30
    simp only [e, tst_some]
  · cases h
def m31 (x : (Int × List Int) × Int) : Option Int := m60 (x.1.2, x.2)
theorem sat31 : Sat prog cxT 31 (c31 m31) := s31 m60 sat60 m31 fun x t h => by
  obtain ⟨⟨c, a⟩, k⟩ := x
  have h : m60 (a, k) = some t := h
  refine ⟨0, ?_⟩
  unfold g31
  simp only [h, tst_some]
  have : ¬ t < 0 := by
    unfold m60 at h
    split at h
    · rename_i hc
      cases h
      have := hc.1
      simp only at this ⊢
      omega
    · cases h
  rw [df this]
  rfl
def m28 (x : (Int × List Int) × Int × List Int) : Option Bool := if x.1.2.length ≤ 1000000000000 ∧ x.2.2.length ≤ 1000000000000 then some (decide (x.1 = x.2)) else none
theorem sat28 : Sat prog cxT 28 (c28 m28) := s28 m34 sat34 m28 fun x t h => by
  obtain ⟨⟨c, a⟩, d, b⟩ := x
  unfold m28 at h
  split at h
  · rename_i hc
    cases h
    refine ⟨0, ?_⟩
    unfold g28
    have e : m34 (a, b) = some (decide (a = b)) := if_pos hc
    simp only [e, tst_some]
    by_cases h1 : c = d
    · rw [bneF h1]
      by_cases h2 : a = b <;> simp [h1, h2]
    · rw [bneT h1]
      simp [h1]
  · cases h


def m71 (x : Int × Int) : Option Int := if 0 ≤ x.2 ∧ x.2 ≤ 30 then some ((offI x.1 + x.2 * skipI x.1) % 31) else none
theorem sat71 : Sat prog cxT 71 (c71 m71) := s71 mOffI mSkipI sat75 sat76 m71 fun x t h => by
  obtain ⟨a, k⟩ := x
  unfold m71 at h
  split at h
  · rename_i hc
    simp only at hc
    cases h
    refine ⟨0, ?_⟩
    unfold g71
    have h1 := off_in a
    obtain ⟨j, rfl⟩ := Int.eq_ofNat_of_zero_le hc.1
    have h2 := mul_in (k := j) (by omega) (skip_in a)
    simp only [mOffI, mSkipI, tst_some]
    rw [wi (x := (j : Int) * skipI a) (by omega) (by omega), wi (by omega) (by omega), Int.tmod_eq_emod_of_nonneg (by omega)]
  · cases h
theorem m71_at (a : Int) {k : Nat} (hk : k < 31) : m71 (a, (k : Int)) = some (pl a k) := if_pos ⟨by simp only; omega, by simp only; omega⟩
theorem mark_heldI (a : List Int) (k : Int) (h0 : 0 ≤ k) (h1 : k ≤ 1000000000000) (h2 : a.length ≤ 1000000000000) : m60 (mkI k a.length, k) = some (k + a.length) := by
  unfold m60
  rw [if_pos ⟨h0, h1, by show (mkI k a.length).length ≤ _; rw [mkI_len]; exact h2, by show mkI k a.length = mkI k (mkI k a.length).length; rw [mkI_len]⟩]
  simp only [mkI_len]
end Go.Proofs.Try

set_option maxHeartbeats 0
set_option linter.unusedVariables false
set_option linter.unusedSimpArgs false
namespace Go.Proofs.Try
open Go Go.VM Go.RowKit

/-! spec.l4Free -/
def ffI (v : List Int) (a : Int) : Int := match ff v (upto (pls a) 31) with
  | none => -1
  | some p => (p : Int)
def m68 (x : List Int × Int) : Option Int := if x.1.length = 31 then some (ffI x.1 x.2) else none
theorem upto_drop (a : Int) {k : Nat} (hk : k < 31) : (upto (pls a) 31).drop k = pls a k :: (upto (pls a) 31).drop (k + 1) := by
  have hl : k < (upto (pls a) 31).length := by rw [upto_length]; exact hk
  rw [List.drop_eq_getElem_cons hl]
  simp [upto]
theorem p68 (L : Nat) (v : List Int) (a : Int) (hv : v.length = 31) : ∀ (n k : Nat), k ≤ 31 → 31 < n + k →
    l68_0 m71 L v a n k (some (-1)) = some (match ff v ((upto (pls a) 31).drop k) with | none => -1 | some p => (p : Int))
  | 0, k, h1, h2 => by omega
  | n + 1, k, h1, h2 => by
    unfold l68_0
    by_cases hk : k < 31
    · have hm : m71 (a, (k : Int)) = some (pl a k) := m71_at a hk
      have hp := (pls a k).2
      have hpv : (pls a k).1 = pl a k := rfl
      rw [dt (by omega), cond_true, hm, tst_some, upto_drop a hk, ff]
      rw [hpv] at hp ⊢
      rw [dt hp.1, dt (by omega : pl a k < (Nat.cast v.length : Int)), Bool.and_self, cond_true]
      by_cases h0 : v.getD (pl a k).toNat 0 = 0
      · rw [if_pos h0, beq_iff_eq.2 h0, cond_true]
        congr 1
        show pl a k = (((pl a k).toNat : Nat) : Int)
        omega
      · rw [if_neg h0, beq_eq_false_iff_ne.2 h0, cond_false, wi (by omega) (by omega)]
        exact p68 L v a hv n (k + 1) (by omega) (by omega)
    · obtain rfl : k = 31 := by omega
      rw [df (by omega), cond_false, List.drop_eq_nil_of_le (by rw [upto_length]; omega)]
      rfl
theorem sat68 : Sat prog cxT 68 (c68 m68) := s68 m71 sat71 m68 fun x t h => by
  obtain ⟨v, a⟩ := x
  unfold m68 at h
  split at h
  · rename_i hv
    cases h
    exact ⟨32, p68 32 v a hv 32 0 (by omega) (by omega)⟩
  · cases h

/-! spec.l4Weights -/
def wsum : List (Int × Int) → Int
  | [] => 0
  | s :: r => s.2 + wsum r
theorem wsum_in : ∀ {xs : List (Int × Int)}, (∀ s ∈ xs, okS s) → 0 ≤ wsum xs ∧ wsum xs ≤ 9 * xs.length
  | [], _ => by simp [wsum]
  | s :: r, h => by
    have h1 := wsum_in (xs := r) fun y hy => h y (List.mem_cons_of_mem _ hy)
    have h2 := (h s (List.mem_cons_self ..)).2
    simp only [wsum, List.length_cons]
    omega
theorem wsum_nil : ∀ {xs : List (Int × Int)}, (∀ s ∈ xs, okS s) → (wsum xs = 0 ↔ expand xs = [])
  | [], _ => by simp [wsum, expand]
  | s :: r, h => by
    have h0 := wsum_nil (xs := r) fun y hy => h y (List.mem_cons_of_mem _ hy)
    have h1 := wsum_in (xs := r) fun y hy => h y (List.mem_cons_of_mem _ hy)
    have h2 := (h s (List.mem_cons_self ..)).2
    have e : expand (s :: r) = List.replicate s.2.toNat s.1 ++ expand r := by simp [expand]
    rw [e, List.append_eq_nil_iff, ← h0, List.replicate_eq_nil_iff]
    simp only [wsum]
    omega
def okL (xs : List (Int × Int)) : Prop := xs.length ≤ 8 ∧ ∀ s ∈ xs, okS s
theorem p67 (L : Nat) (xs : List (Int × Int)) (hx : okL xs) (k : Int → Option Int) : ∀ (n i : Nat) (z : Int), 0 ≤ z → z ≤ 9 * i → i ≤ xs.length → xs.length < n + i →
    l67_0 L xs n z i k = k (z + wsum (xs.drop i))
  | 0, i, z, _, _, h1, h2 => by omega
  | n + 1, i, z, hz0, hz, h1, h2 => by
    have hx8 := hx.1
    unfold l67_0
    by_cases hi : i < xs.length
    · have hd := drop_cons ((0, 0) : Int × Int) hi
      have hs : okS (xs.getD i (0, 0)) := hx.2 _ (by
        have : xs.getD i (0, 0) = xs[i] := by simp [List.getD, List.getElem?_eq_getElem hi]
        rw [this]; exact List.getElem_mem hi)
      have hs2 := hs.2
      rw [Int.toNat_natCast, dt (by omega), cond_true, dt (by omega), Bool.and_self, cond_true, wi (by omega) (by omega), wi (by omega) (by omega)]
      refine (p67 L xs hx k n (i + 1) _ (by omega) (by omega) (by omega) (by omega)).trans ?_
      rw [hd, wsum]
      congr 1
      omega
    · rw [df (by omega), cond_false, List.drop_eq_nil_of_le (by omega), wsum, Int.add_zero]
instance (s : Int × Int) : Decidable (okS s) := by unfold okS; infer_instance
instance (xs : List (Int × Int)) : Decidable (okL xs) := by unfold okL; infer_instance
def m67 (xs : List (Int × Int)) : Option Int := if okL xs then some (wsum xs) else none
theorem sat67 : Sat prog cxT 67 (c67 m67) := s67 m67 fun x t h => by
  unfold m67 at h
  split at h
  · rename_i hx
    cases h
    refine ⟨9, ?_⟩
    have := hx.1
    refine (p67 9 x hx _ 9 0 0 (by omega) (by omega) (by omega) (by omega)).trans ?_
    rw [List.drop_zero, Int.zero_add]
  · cases h

/-! spec.l4Fill -/
def rk (ns v : List Int) (k : List Int → Option (List Int)) : Option (List Int) := if (rnd ns v).2 then k (rnd ns v).1 else some (rnd ns v).1
theorem rnd_len : ∀ (ns v : List Int), (rnd ns v).1.length = v.length
  | [], v => rfl
  | a :: r, v => by
    unfold rnd
    split
    · rfl
    · rw [rnd_len r, List.length_set]
theorem rnd_app : ∀ (A B v : List Int), rnd (A ++ B) v = if (rnd A v).2 then rnd B (rnd A v).1 else rnd A v
  | [], B, v => rfl
  | a :: r, B, v => by
    rw [List.cons_append, rnd, rnd]
    split
    · rfl
    · exact rnd_app r B _
theorem rk_app (A B v : List Int) (k : List Int → Option (List Int)) : rk (A ++ B) v k = rk A v fun v' => rk B v' k := by
  unfold rk
  rw [rnd_app]
  by_cases h : (rnd A v).2 = true
  · rw [if_pos h, if_pos h]
  · rw [if_neg h, if_neg h, if_neg h]
theorem rk_congr {ns v : List Int} {k k' : List Int → Option (List Int)} (h : ∀ u : List Int, u.length = v.length → k u = k' u) : rk ns v k = rk ns v k' := by
  unfold rk
  rw [h _ (rnd_len ns v)]
theorem rk_cons {a : Int} {r v : List Int} {k : List Int → Option (List Int)} : rk (a :: r) v k = match ff v (upto (pls a) 31) with | none => some v | some p => rk r (v.set p a) k := by
  unfold rk
  rw [rnd]
  cases ff v (upto (pls a) 31) <;> rfl
theorem ff_lt {xs : List Int} {p : Nat} : ∀ {ps : List Pl}, ff xs ps = some p → p < 31
  | [], h => by cases h
  | q :: r, h => by
    rw [ff] at h
    split at h
    · cases h
      have := q.2
      omega
    · exact ff_lt h
theorem p46_4 (L : Nat) (xs : List (Int × Int)) (hx : okL xs) (z1 : List Int) (z2 : Int) (z3 : List Int) (i : Nat) (s : Int × Int) (hi : xs[i]? = some s) (k : List Int → Option (List Int)) : ∀ (n c : Nat) (v : List Int), v.length = 31 → (c : Int) ≤ s.2 → s.2 < n + c →
    l46_4 m67 m68 L xs z1 z2 z3 i n v c k = rk (List.replicate (s.2 - c).toNat s.1) v k
  | 0, c, v, _, h1, h2 => by omega
  | n + 1, c, v, hv, h1, h2 => by
    have hil := (List.getElem?_eq_some_iff.1 hi).1
    have hx8 := hx.1
    have hs : okS s := hx.2 s (List.mem_of_getElem? hi)
    have hs2 := hs.2
    have hg : xs.getD i (0, 0) = s := by simp [List.getD, hi]
    unfold l46_4
    rw [Int.toNat_natCast, hg, dt (by omega), dt (by omega : (i : Int) < (Nat.cast xs.length : Int)), Bool.and_self, cond_true]
    by_cases hc : (c : Int) < s.2
    · have hm : m68 (v, s.1) = some (ffI v s.1) := if_pos hv
      have hr : List.replicate (s.2 - (c : Int)).toNat s.1 = s.1 :: List.replicate (s.2 - ((c + 1 : Nat) : Int)).toNat s.1 := by
        rw [← List.replicate_succ]
        congr 1
        omega
      rw [dt hc, cond_true, cond_true, hm, tst_some, hr, rk_cons]
      unfold ffI
      split
      · rfl
      · rename_i p hp
        have hp31 := ff_lt hp
        simp only [Int.toNat_natCast]
        rw [df (by omega), cond_false, cond_true, dt (by omega), dt (by omega), Bool.and_self, cond_true, wi (by omega) (by omega)]
        exact p46_4 L xs hx z1 z2 z3 i s hi k n (c + 1) (v.set p s.1) (by rw [List.length_set]; exact hv) (by omega) (by omega)
    · rw [df hc, cond_false, show (s.2 - (c : Int)).toNat = 0 by omega]
      rfl
theorem p46_2 (L : Nat) (hL : 10 ≤ L) (xs : List (Int × Int)) (hx : okL xs) (z1 : List Int) (z2 : Int) (k : List Int → Option (List Int)) : ∀ (n i : Nat) (v : List Int), v.length = 31 → i ≤ xs.length → xs.length < n + i →
    l46_2 m67 m68 L xs z1 z2 n v i k = rk (expand (xs.drop i)) v k
  | 0, i, v, _, h1, h2 => by omega
  | n + 1, i, v, hv, h1, h2 => by
    have hx8 := hx.1
    unfold l46_2
    by_cases hi : i < xs.length
    · have hs := List.getElem?_eq_getElem hi
      have hos := hx.2 _ (List.getElem_mem hi)
      have hos2 := hos.2
      rw [dt (by omega), cond_true, wi (by omega) (by omega)]
      refine (p46_4 L xs hx z1 z2 v i xs[i] hs _ L 0 v hv (by omega) (by omega)).trans ?_
      have e : expand (xs.drop i) = List.replicate xs[i].2.toNat xs[i].1 ++ expand (xs.drop (i + 1)) := by
        rw [List.drop_eq_getElem_cons hi]; simp only [expand, List.flatMap_cons]
      rw [e, rk_app, show (xs[i].2 - ((0 : Nat) : Int)).toNat = xs[i].2.toNat by omega]
      exact rk_congr fun u hu => p46_2 L hL xs hx z1 z2 k n (i + 1) u (by rw [hu]; exact hv) (by omega) (by omega)
    · rw [df (by omega), cond_false, List.drop_eq_nil_of_le (by omega)]
      rfl
def sp (ns : List Int) : Nat → List Int → List Int
  | 0, v => v
  | n + 1, v => if (rnd ns v).2 then sp ns n (rnd ns v).1 else (rnd ns v).1
theorem p46_0 (L : Nat) (hL : 10 ≤ L) (xs : List (Int × Int)) (hx : okL xs) : ∀ (n i : Nat) (v : List Int), v.length = 31 → i ≤ 31 → 31 < n + i →
    l46_0 m67 m68 L xs n v i (fun u => some u) = some (sp (expand xs) (31 - i) v)
  | 0, i, v, _, h1, h2 => by omega
  | n + 1, i, v, hv, h1, h2 => by
    have hx8 := hx.1
    unfold l46_0
    by_cases hi : i < 31
    · rw [dt (by omega), cond_true, wi (by omega) (by omega)]
      refine (p46_2 L hL xs hx v i _ L 0 v hv (by omega) (by omega)).trans ?_
      rw [List.drop_zero]
      refine (rk_congr (k' := fun u => some (sp (expand xs) (31 - (i + 1)) u)) fun u hu => p46_0 L hL xs hx n (i + 1) u (by rw [hu]; exact hv) (by omega) (by omega)).trans ?_
      rw [show 31 - i = (31 - (i + 1)) + 1 by omega, sp]
      unfold rk
      split <;> rfl
    · obtain rfl : i = 31 := by omega
      rw [df (by omega), cond_false]
      rfl

theorem rnd_free : ∀ (ns v : List Int), v.length = 31 → (∀ a ∈ ns, a ≠ 0) → (rnd ns v).2 = true → free (rnd ns v).1 + ns.length = free v
  | [], v, _, _, _ => rfl
  | a :: r, v, hv, ha, h => by
    rw [rnd] at h ⊢
    split at h
    · cases h
    · rename_i p hp
      have h1 := rnd_free r (v.set p a) (by rw [List.length_set]; exact hv) (fun b hb => ha b (List.mem_cons_of_mem _ hb)) h
      have h2 := free_set (xs := v) (p := p) (a := a) (by rw [hv]; exact ff_lt hp) (ff_spec hp) (ha a (List.mem_cons_self ..))
      rw [List.length_cons]
      omega
theorem fill_sp {ns : List Int} (hne : ns ≠ []) (ha : ∀ a ∈ ns, a ≠ 0) : ∀ (n : Nat) (v : List Int), v.length = 31 → free v ≤ n → fillF ns (n + 1) v = sp ns n v
  | 0, v, hv, hf => by
    have hpos := List.length_pos_iff.2 hne
    rw [fillF, if_neg hne, sp]
    have h2 : (rnd ns v).2 = false := by
      cases h : (rnd ns v).2 with
      | false => rfl
      | true => have := rnd_free ns v hv ha h; omega
    rw [h2]
    have : ∃ a r, ns = a :: r := by
      cases ns with
      | nil => exact absurd rfl hne
      | cons a r => exact ⟨a, r, rfl⟩
    obtain ⟨a, r, rfl⟩ := this
    rw [rnd]
    cases h : ff v (upto (pls a) 31) with
    | none => rfl
    | some p =>
      have := free_set (xs := v) (p := p) (a := a) (by rw [hv]; exact ff_lt h) (ff_spec h) (ha a (List.mem_cons_self ..))
      omega
  | n + 1, v, hv, hf => by
    have hpos := List.length_pos_iff.2 hne
    rw [fillF, if_neg hne, sp]
    cases h : (rnd ns v).2 with
    | false => rfl
    | true =>
      have := rnd_free ns v hv ha h
      rw [if_pos rfl, if_pos rfl]
      exact fill_sp hne ha n _ (by rw [rnd_len]; exact hv) (by omega)
def fillT (xs : List (Int × Int)) : List Int := fillF (expand xs) 32 zeros
def m46 (xs : List (Int × Int)) : Option (List Int) := if okL xs then some (fillT xs) else none
theorem sat46 : Sat prog cxT 46 (c46 m46) := s46 m67 m68 sat67 sat68 m46 fun x t h => by
  unfold m46 at h
  split at h
  · rename_i hx
    cases h
    refine ⟨32, ?_⟩
    unfold g46 fillT
    have e : m67 x = some (wsum x) := if_pos hx
    rw [e, tst_some]
    by_cases hw : wsum x = 0
    · rw [beq_iff_eq.2 hw, cond_true, (wsum_nil hx.2).1 hw]
      rfl
    · have hne : expand x ≠ [] := fun he => hw ((wsum_nil hx.2).2 he)
      rw [beq_eq_false_iff_ne.2 hw, cond_false, fill_sp hne (expand_ne hx.2) 31 zeros rfl (by decide)]
      exact p46_0 32 (by decide) x hx 32 0 zeros rfl (by omega) (by omega)
  · cases h
theorem sfl_ok : ∀ {a : List Sh} {p : Int}, sfl p a = 0 → ∀ s ∈ a, okS s
  | [], _, _, _, hs => by simp at hs
  | x :: r, p, h, s, hs => by
    unfold sfl at h
    split at h
    · rename_i hn
      split at h
      · rename_i hw
        split at h
        · cases h
        · rcases List.mem_cons.1 hs with rfl | hs
          · exact ⟨hn, hw⟩
          · exact sfl_ok h s hs
      · cases h
    · cases h
theorem sf_ok {a : List Sh} (h : sf a = 0) : okL a := by
  refine ⟨sf_len h, ?_⟩
  unfold sf at h
  rw [if_neg (by have := sf_len h; omega)] at h
  exact sfl_ok h
def fillR (xs : List Sh) : Int × List Int := if sf xs = 0 then (0, fillT xs) else (sf xs, [])
def mFill (xs : List Sh) : Option (Int × List Int) := some (fillR xs)
theorem sat15 : Sat prog cxT 15 (c15 mFill) := s15 mSf m46 sat24 sat46 mFill fun x t h => by
  cases h
  refine ⟨0, ?_⟩
  unfold g15 fillR
  rw [show mSf x = some (sf x) from rfl, tst_some]
  by_cases h : sf x = 0
  · have e : m46 x = some (fillT x) := if_pos (sf_ok h)
    rw [bneF h, cond_false, e, tst_some, if_pos h]
  · rw [bneT h, cond_true, if_neg h]
theorem fillF_len : ∀ (ns : List Int) (n : Nat) (v : List Int), (fillF ns n v).length = v.length
  | ns, 0, v => rfl
  | ns, n + 1, v => by
    rw [fillF]
    split
    · rfl
    · split
      · rw [fillF_len, rnd_len]
      · exact rnd_len _ _
end Go.Proofs.Try

set_option maxHeartbeats 0
set_option linter.unusedVariables false
set_option linter.unusedSimpArgs false
namespace Go.Proofs.Try
open Go Go.VM Go.RowKit Go.Shelf

theorem args_to {w w' : World} {A0 : Nat → Prop} {l : List (A cxT.ty)} {us : List Value} (hw : ∀ b, A0 b → w'.heap[b]? = w.heap[b]?) (h : ArgAs cxT w A0 l us) : ArgAs cxT w' A0 l us := by
  have hL : ∀ (a : L cxT.ty) (u : Value), ArgL cxT w A0 a u → ArgL cxT w' A0 a u := fun a u h => by
    unfold ArgL at h ⊢
    split at h
    · exact h
    · exact h
    · exact ⟨h.1, h.2.choose, RepL_mono cxT hw (fun _ hb => hb) _ _ _ h.2.choose_spec⟩
  refine ⟨h.1, fun j a u h1 h2 => ?_⟩
  have := h.2 j a u h1 h2
  cases a with
  | inl a => exact hL a u this
  | inr a =>
    obtain ⟨vs, hu, hl, hv⟩ := this
    exact ⟨vs, hu, hl, fun j a u h1 h2 => hL a u (hv j a u h1 h2)⟩

attribute [local go_sem] Oper.semAt_some
set_option maxRecDepth 100000 in
set_option maxHeartbeats 4000000 in
theorem fill_out (u0 : Value) (c : Int) (hc : c ≠ 0) (w : World)
    (h26 : Calls prog 26 #[u0] (w.alloc (.cells #[.int .i64 0, .slice none 0 0] 28)) fun e w' => e = .returned (.int .i64 c) ∧ Below (w.heap.size + 1) (w.alloc (.cells #[.int .i64 0, .slice none 0 0] 28)) w') :
    Calls prog 14 #[u0] w fun e W' => e = .returned (.agg #[.int .i64 c, .slice none 0 0]) ∧ Below w.heap.size w W' := by
  have hc' : ¬ (c = 0) := hc
  have h26' := h26.mono (R' := fun e w1 => e = .returned (.int .i64 c) ∧ Below (w.heap.size + 1) (w.alloc (.cells #[.int .i64 0, .slice none 0 0] 28)) w1 ∧ w1.cell? ⟨w.heap.size, 0, none⟩ = some (.int .i64 0) ∧ w1.cell? ⟨w.heap.size, 1, none⟩ = some (.slice none 0 0) ∧ w1.frozen? ⟨w.heap.size, 0, none⟩ = false ∧ w1.frozen? ⟨w.heap.size, 1, none⟩ = false ∧
      w1.heap[w.heap.size]? = some (.cells #[.int .i64 0, .slice none 0 0] 28 (0, 0))) (fun e w1 h => by
    have hb3 : w1.heap[w.heap.size]? = some (.cells #[.int .i64 0, .slice none 0 0] 28 (0, 0)) := (h.2.block _ (by omega)).trans (World.alloc_heap_new w _)
    exact ⟨h.1, h.2, by simp [World.cell?, hb3], by simp [World.cell?, hb3], by simp [World.frozen?, hb3], by simp [World.frozen?, hb3], hb3⟩)
  clear h26
  go_enter func14, ntmps14
  go_wp2
  go_step3
  go_wp2_with (go_at_call 26; refine h26'.mono ?_; clear h26'; rintro e w1 ⟨rfl, hb1, q0, q1, f0, f1, hbw⟩)
  rw [Exit.noGoto_ret]
  have e1 : Below w.heap.size w w1 := ((Below.refl _ w).alloc (Nat.le_refl _) _).trans (hb1.mono (by omega))
  generalize hW2 : ((w1.setCell { block := w.heap.size, off := 0 } (Value.int IntKind.i64 c)).setCell { block := w.heap.size, off := 1 } (Value.slice none 0 0)) = W2
  have kr : W2.heap[w.heap.size]? = some (.cells #[.int .i64 c, .slice none 0 0] 28 (0, 0)) := by
    rw [← hW2]
    have := heap_setCell_same w1 w.heap.size 0 #[.int .i64 0, .slice none 0 0] 28 (.int .i64 c) hbw
    rw [heap_setCell_same _ w.heap.size 1 _ 28 _ this]
    rfl
  have z0 : W2.cell? ⟨w.heap.size, 0, none⟩ = some (.int .i64 c) := by simp [World.cell?, kr]
  have z1 : W2.cell? ⟨w.heap.size, 1, none⟩ = some (.slice none 0 0) := by simp [World.cell?, kr]
  refine bodyPost_ret (v := .agg #[.int .i64 c, .slice none 0 0]) ?_ rfl ⟨rfl, ?_⟩
  · simp [results, show f14.results = #[.cell 2 28] from rfl, go_sem, z0, z1]
  · rw [← hW2]
    exact (e1.setCell (p := ⟨w.heap.size, 0, none⟩) (Nat.le_refl _) _).setCell (p := ⟨w.heap.size, 1, none⟩) (Nat.le_refl _) _

theorem flat2 : ∀ xs : List Int, flatVals cxT 2 xs = xs.map (Value.int .i64)
  | [] => rfl
  | x :: r => by
    show Value.int .i64 x :: flatVals cxT 2 r = _
    rw [flat2 r]
    rfl
theorem shs_of {w : World} {A0 : Nat → Prop} {n : Nat} {s : SlD cxT.ty} {x : List (Int × Int)} {u : Value} (hs : s = { own := 0, nm := 0, e := 31, o := false, xs := x }) (hA : ∀ b, A0 b → b < w.heap.size) (h : RepL cxT w A0 n (some (.inr s)) u) :
    ∃ p cap, u = .slice p x.length cap ∧ ShsP w p x := by
  subst hs
  cases n with
  | zero => exact h.elim
  | succ n =>
    obtain ⟨a, cap, rfl, _, h⟩ := h
    refine ⟨a, cap, rfl, ?_⟩
    rcases h with h | ⟨b, off, ha, hS, h⟩
    · exact .inl h
    · refine .inr ⟨b, off, ha, hA b hS, fun i y hy => ?_⟩
      obtain ⟨c0, h1, h2⟩ := h i y hy 0 (lv (.int .i64 y.1)) rfl
      obtain ⟨c1, h3, h4⟩ := h i y hy 1 (lv (.int .i64 y.2)) rfl
      have e0 : c0 = .int .i64 y.1 := by
        cases n <;> simpa [RepL, lv] using h2
      have e1 : c1 = .int .i64 y.2 := by
        cases n <;> simpa [RepL, lv] using h4
      exact ⟨by rw [← e0]; exact h1, by rw [← e1]; exact h3⟩
theorem sat14 : Sat prog cxT 14 (c14 mFill) := by
  intro w A0 l us r hA hargs hF
  obtain ⟨x, t, rfl, hx, rfl⟩ := fnT_inv hF
  have hus : ∃ u0, us = [u0] := by
    match us, hargs with
    | [u], h => exact ⟨u, rfl⟩
    | [], h => exact absurd (show 0 = 1 from h.1) (by decide)
    | _ :: _ :: r, h => exact absurd (show r.length + 2 = 1 from h.1) (by omega)
  obtain ⟨u0, rfl⟩ := hus
  cases hx
  have h0 : ∃ n, RepL cxT w A0 n (some (.inr { own := 0, nm := 0, e := 31, o := false, xs := x })) u0 := (hargs.2 0 _ u0 rfl rfl).2
  obtain ⟨n, h0⟩ := h0
  obtain ⟨p, cap, rfl, hxs⟩ := shs_of rfl hA h0
  have hA1 : ∀ b, A0 b → b < (w.alloc (.cells #[.int .i64 0, .slice none 0 0] 28)).heap.size := fun b hb => by have := hA b hb; simp; omega
  have h26 : Calls prog 26 #[.slice p x.length cap] (w.alloc (.cells #[.int .i64 0, .slice none 0 0] 28)) fun e w' => e = .returned (.int .i64 (sf x)) ∧ Below (w.heap.size + 1) (w.alloc (.cells #[.int .i64 0, .slice none 0 0] 28)) w' := by
    have := sat26 (w.alloc (.cells #[.int .i64 0, .slice none 0 0] 28)) A0 (a26.enc x) [.slice p x.length cap] (n26 (sf x)) hA1 (args_to (fun b hb => Below.heap_alloc _ _ _ (hA b hb)) hargs) rfl
    refine this.mono ?_
    rintro e w' ⟨u, he, hb, hr⟩
    rw [World.size_alloc] at hb
    exact ⟨by rw [he, res_one hr], hb⟩
  show Calls prog 14 #[.slice p x.length cap] w fun e w' => ∃ u, e = .returned u ∧ Below w.heap.size w w' ∧ ResV cxT w' A0 (fun b => w.heap.size ≤ b) (n14 (fillR x)) u
  by_cases hs : sf x = 0
  · have hok := sf_ok hs
    rw [hs] at h26
    refine (fill_in p cap x hok.1 hok.2 w hxs h26).mono ?_
    rintro e W' ⟨t, ys, rfl, ht, hr, hys, hb⟩
    refine ⟨_, rfl, hb, ?_⟩
    have e : fillR x = (0, ys) := by unfold fillR fillT; rw [if_pos hs, hys]
    rw [e]
    refine ⟨[t], by simp, fun b hb => by
      obtain rfl : b = t := by simpa using hb
      exact ⟨ht, lt_of_at hr.1⟩, [.int .i64 0, .slice (some ⟨t, 0, none⟩) 31 31], [[], [t]], rfl, by simp, rfl, rfl, fun j a u f e1 e2 e3 => ?_⟩
    match j with
    | 0 =>
      simp only [List.getElem?_cons_zero, Option.some.injEq] at e1 e2 e3
      subst e1; subst e2; subst e3
      exact ⟨rfl, rfl⟩
    | 1 =>
      simp only [List.getElem?_cons_succ, List.getElem?_cons_zero, Option.some.injEq] at e1 e2 e3
      subst e1; subst e2; subst e3
      unfold ResL
      simp only [ls, if_true]
      refine ⟨trivial, 1, own_flat cxT_ok rfl ?_⟩
      show W'.ownsRow 0 2 1 (.slice (some ⟨t, 0, none⟩) 31 31) ys.length (flatVals cxT 2 ys)
      rw [flat2, hr.2]
      exact ⟨by rw [List.length_map, hr.2], .inr ⟨t, 31, _, rfl, Nat.zero_le _, hr.1, by decide, by decide, by simp [hr.2], by rw [List.take_of_length_le (by simp [hr.2])]⟩⟩
    | j + 2 => simp at e1
  · refine (fill_out _ (sf x) hs w h26).mono ?_
    rintro e W' ⟨rfl, hb⟩
    refine ⟨_, rfl, hb, ?_⟩
    have e : fillR x = (sf x, []) := if_neg hs
    rw [e]
    refine ⟨[], List.nodup_nil, by simp, [.int .i64 (sf x), .slice none 0 0], [[], []], rfl, by simp, rfl, rfl, fun j a u f e1 e2 e3 => ?_⟩
    match j with
    | 0 =>
      simp only [List.getElem?_cons_zero, Option.some.injEq] at e1 e2 e3
      subst e1; subst e2; subst e3
      exact ⟨rfl, rfl⟩
    | 1 =>
      simp only [List.getElem?_cons_succ, List.getElem?_cons_zero, Option.some.injEq] at e1 e2 e3
      subst e1; subst e2; subst e3
      unfold ResL
      simp only [ls, if_true]
      exact ⟨trivial, 1, [], [], World.ownsRow_nil _ _ _ _, rfl, rfl, rfl, fun j l c f _ h => by simp at h⟩
    | j + 2 => simp at e1
end Go.Proofs.Try

set_option maxHeartbeats 0
set_option linter.unusedVariables false
set_option linter.unusedSimpArgs false
namespace Go.Proofs.Try
open Go Go.VM Go.RowKit

/-! FnExactFillTable -/
theorem fillR_len (x : List Sh) : (fillR x).2.length ≤ 31 := by
  unfold fillR
  split
  · show (fillF (expand x) 32 zeros).length ≤ 31
    rw [fillF_len]
    decide
  · simp
def m6 (x : List Sh) : Option Bool := if x.length ≤ 9223372036854775807 then some true else none
theorem sat6 : Sat prog cxT 6 (c6 m6) := s6 m23 m25 mFill mFill m28 m27 m29 m30 m31 sat23 sat25 sat15 sat14 sat28 sat27 sat29 sat30 sat31 m6 fun l t h => by
  unfold m6 at h
  split at h
  · rename_i hl
    cases h
    refine ⟨0, ?_⟩
    unfold g6
    have e23 : m23 (l, 1048576) = some (if l.length > 1048576 then -1 else 1048576 - (l.length : Int)) := if_pos ⟨rfl, hl⟩
    rw [e23, tst_some]
    by_cases h2 : l.length > 1048576
    · rw [if_pos h2]; rfl
    · have e25 : m25 l = some l := if_pos (by omega)
      have hw := fillR_len l
      have e16 : mFill l = some (fillR l) := rfl
      rw [if_neg h2, df (by omega)]
      generalize fillR l = p at e16 hw
      obtain ⟨c, a⟩ := p
      simp only at hw
      have e40 : m28 ((c, a), c, a) = some true := (if_pos ⟨by show a.length ≤ 1000000000000; omega, by show a.length ≤ 1000000000000; omega⟩).trans (by simp)
      have e29 : m29 (l, 1) = some ((1 : Int) + 2 * (l.length : Int), mkS 1 l.length) := if_pos ⟨by show (0 : Int) ≤ 1; decide, by show (1 : Int) ≤ 1000000000000; decide, by show l.length ≤ 1000000000000; omega⟩
      have e41 : m30 ((c, a), 1) = some ((1 : Int) + (a.length : Int), c, mkI 1 a.length) := if_pos ⟨by show (0 : Int) ≤ 1; decide, by show (1 : Int) ≤ 1000000000000; decide, by show a.length ≤ 1000000000000; omega⟩
      have e42 : m31 ((c, mkI 1 a.length), 1) = some ((1 : Int) + (a.length : Int)) := mark_heldI a 1 (by decide) (by decide) (by omega)
      simp (disch := omega) only [cond_false, e25, e16, e40, e29, e41, e42, m27_self (show l.length ≤ 1000000000000 by omega), tst_some, cond_true, Bool.not_true, df, bneF]
  · cases h
end Go.Proofs.Try
