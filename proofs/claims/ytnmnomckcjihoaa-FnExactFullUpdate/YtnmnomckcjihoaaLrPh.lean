/- A part of the proof of FnExactFullUpdate: LrPh, LrPm, LrPn. -/
import Derived.Test.YtnmnomckcjihoaaLrPe
import Derived.Test.YtnmnomckcjihoaaVmPl
set_option linter.unusedVariables false
set_option maxHeartbeats 0
set_option linter.unusedVariables false
set_option linter.unusedSimpArgs false
namespace Go.Proofs.Try
open Go Go.VM Go.RowKit

/-! ### Configurations copied -/
def okS (c : Cg) : Prop := c.2.1.length ≤ 1000 ∧ c.2.2.length ≤ 1000 ∧ ∀ v ∈ c.2.2, v.2.2.2.length ≤ 1000
instance (c : Cg) : Decidable (okS c) := by unfold okS; infer_instance
theorem p28 (L : Nat) (a : Int) (bs : List Bk) (vs : List Vp) (hv : vs.length ≤ 1000) (hn : ∀ v ∈ vs, v.2.2.2.length ≤ 1000) (x : Int) (y : List Bk) (z : List Vp) (k : Int → List Bk → List Vp → Int → List Bk → List Vp → Option Cg) :
    ∀ (n i : Nat) (acc : List Vp), i ≤ vs.length → vs.length < n + i → acc.length = i → l28_0 L a bs vs n x y z a bs acc i k = k x y z a bs (acc ++ vs.drop i)
  | 0, i, acc, h1, h2, h3 => by omega
  | n + 1, i, acc, h1, h2, h3 => by
    unfold l28_0
    simp only [List.length_cons, List.length_nil]
    by_cases hi : i < vs.length
    · have hm := hn _ (getD_mem dVp hi)
      rw [dt (show (i : Int) < (vs.length : Int) by omega), dt (show (0 : Int) ≤ (i : Int) by omega), Bool.and_self, cond_true, cond_true, Int.toNat_natCast, show (((0 : Int), ((0 : Int), ((0 : Int), ([] : List Int)))) : Vp) = dVp from rfl]
      rw [dt (show (vs.getD i dVp).2.2.2.length ≤ 1000000000 by omega), cond_true]
      rw [dt (show acc.length + (0 + 1) ≤ 1000000000 by omega), cond_true, wi (by omega) (by omega), show ((i : Int) + 1) = ((i + 1 : Nat) : Int) by omega]
      rw [p28 L a bs vs hv hn x y z k n (i + 1) _ (by omega) (by omega) (by simp [h3])]
      congr 1
      rw [List.append_assoc, List.drop_eq_getElem_cons hi, ← getD_at dVp hi]
      rfl
    · rw [df (show ¬ (i : Int) < (vs.length : Int) by omega), cond_false, List.drop_eq_nil_of_le (by omega), List.append_nil]
def mCp (c : Cg) : Option Cg := if okS c then some c else none
theorem sat28 : Sat prog cxT 28 (c28 mCp) := s28 mCp fun x t h => by
  obtain ⟨a, bs, vs⟩ := x
  unfold mCp at h
  split at h
  · rename_i hc
    obtain ⟨h1, h2, h3⟩ := hc
    cases h
    simp only at h1 h2 h3
    refine ⟨vs.length + 1, ?_⟩
    show g28 _ a bs vs = _
    unfold g28
    rw [dt (show bs.length ≤ 1000000000 by omega), cond_true]
    exact (p28 _ a bs vs h2 h3 0 [] [] _ (vs.length + 1) 0 [] (by omega) (by omega) rfl).trans rfl
  · cases h
theorem p25 (L : Nat) (a : Int) (bs : List Bk) (vs : List Vp) (hv : vs.length ≤ 1000) (hn : ∀ v ∈ vs, v.2.2.2.length ≤ 1000) (x : Int) (y : List Bk) (z : List Vp) (k : Int → List Bk → List Vp → Int → List Bk → List Vp → Option Cg) :
    ∀ (n i : Nat) (acc : List Vp), i ≤ vs.length → vs.length < n + i → acc.length = i → l25_0 L a bs vs n a bs vs x y z a bs acc i k = k x y z a bs (acc ++ vs.drop i)
  | 0, i, acc, h1, h2, h3 => by omega
  | n + 1, i, acc, h1, h2, h3 => by
    unfold l25_0
    simp only [List.length_cons, List.length_nil]
    by_cases hi : i < vs.length
    · have hm := hn _ (getD_mem dVp hi)
      rw [dt (show (i : Int) < (vs.length : Int) by omega), dt (show (0 : Int) ≤ (i : Int) by omega), Bool.and_self, cond_true, cond_true, Int.toNat_natCast, show (((0 : Int), ((0 : Int), ((0 : Int), ([] : List Int)))) : Vp) = dVp from rfl]
      rw [dt (show 0 + (vs.getD i dVp).2.2.2.length ≤ 1000000000 by omega), cond_true]
      rw [dt (show acc.length + (0 + 1) ≤ 1000000000 by omega), cond_true, wi (by omega) (by omega), show ((i : Int) + 1) = ((i + 1 : Nat) : Int) by omega]
      rw [p25 L a bs vs hv hn x y z k n (i + 1) _ (by omega) (by omega) (by simp [h3])]
      congr 1
      rw [List.append_assoc, List.drop_eq_getElem_cons hi, ← getD_at dVp hi]
      rfl
    · rw [df (show ¬ (i : Int) < (vs.length : Int) by omega), cond_false, List.drop_eq_nil_of_le (by omega), List.append_nil]
theorem sat25 : Sat prog cxT 25 (c25 mCp) := s25 mCp fun x t h => by
  obtain ⟨a, bs, vs⟩ := x
  unfold mCp at h
  split at h
  · rename_i hc
    obtain ⟨h1, h2, h3⟩ := hc
    cases h
    simp only at h1 h2 h3
    refine ⟨vs.length + 1, ?_⟩
    show g25 _ a bs vs = _
    unfold g25
    rw [dt (show ([] : List Bk).length + bs.length ≤ 1000000000 by simp only [List.length_nil]; omega), cond_true]
    exact (p25 _ a bs vs h2 h3 0 [] [] _ (vs.length + 1) 0 [] (by omega) (by omega) rfl).trans rfl
  · cases h

end Go.Proofs.Try

set_option maxHeartbeats 0
set_option linter.unusedVariables false
set_option linter.unusedSimpArgs false
namespace Go.Proofs.Try
open Go Go.VM Go.RowKit

/-! marks of configurations: what they write is of no matter -/
def m51 (x : List Int × Int) : Option (Int × List Int) := g51 (x.1.length + 1) x.1 x.2
theorem sat51 : SatW prog cxT 51 (c51 m51).nres (c51 m51).n (c51 m51).F := s51 m51 fun x t h => ⟨_, h⟩
theorem p51 (L : Nat) (a : List Int) (c : Int) (N : Nat) (hN : N ≤ 1000000000000) (K : List Int → Int → Option (Int × List Int)) : ∀ (n i : Nat) (o : List Int) (q : Int), o.length = N → i ≤ N → N < n + i → 0 ≤ q → q + (N - i : Nat) ≤ 1000000000000000 →
    ∃ o', o'.length = N ∧ l51_0 L a c n o q i K = K o' (q + (N - i : Nat))
  | 0, i, o, q, _, h2, h3, _, _ => by omega
  | n + 1, i, o, q, h1, h2, h3, h4, h5 => by
    unfold l51_0
    by_cases hi : i < N
    · obtain ⟨o', k1, k2⟩ := p51 L a c N hN K n (i + 1) (o.set i q) (q + 1) (by rw [List.length_set]; exact h1) (by omega) (by omega) (by omega) (by omega)
      refine ⟨o', k1, ?_⟩
      rw [dt (show (i : Int) < (o.length : Int) by omega), dt (show (0 : Int) ≤ (i : Int) by omega), Bool.and_self, cond_true, cond_true, Int.toNat_natCast, wi (x := (i : Int) + 1) (by omega) (by omega), wi (x := q + 1) (by omega) (by omega)]
      refine k2.trans ?_
      congr 1
      omega
    · refine ⟨o, h1, ?_⟩
      rw [df (show ¬ (i : Int) < (o.length : Int) by omega), cond_false, show N - i = 0 by omega]
      simp
theorem m109_some {l : List Int} {q : Int} (hl : l.length ≤ 1000000000000) (h0 : 0 ≤ q) (h1 : q ≤ 100000000000000) : ∃ l', l'.length = l.length ∧ m51 (l, q) = some (q + (l.length : Int), l') := by
  obtain ⟨o', k1, k2⟩ := p51 (l.length + 1) l q l.length hl (fun o k => some (k, o)) (l.length + 1) 0 l q rfl (by omega) (by omega) h0 (by omega)
  exact ⟨o', k1, k2⟩
def m32 (x : List Bk × Int) : Option (Int × List Bk) := g32 (x.1.length + 1) x.1 x.2
theorem sat32 : SatW prog cxT 32 (c32 m32).nres (c32 m32).n (c32 m32).F := s32 m32 fun x t h => ⟨_, h⟩
theorem p32 (L : Nat) (a : List Bk) (c : Int) (N : Nat) (hN : N ≤ 1000000000) (K : List Bk → Int → Option (Int × List Bk)) : ∀ (n i : Nat) (o : List Bk) (q : Int), o.length = N → i ≤ N → N < n + i → 0 ≤ q → q + 5 * (N - i : Nat) ≤ 1000000000000000 →
    ∃ o', o'.length = N ∧ l32_0 L a c n o q i K = K o' (q + 5 * (N - i : Nat))
  | 0, i, o, q, _, h2, h3, _, _ => by omega
  | n + 1, i, o, q, h1, h2, h3, h4, h5 => by
    unfold l32_0
    by_cases hi : i < N
    · simp only [bnd_eq, List.length_set]
      rw [dt (show (i : Int) < (o.length : Int) by omega), dt (show (0 : Int) ≤ (i : Int) by omega), Bool.and_self]
      simp only [cond_true]
      rw [wi (x := (i : Int) + 1) (by omega) (by omega), wi (x := q + 1) (by omega) (by omega), wi (x := q + 1 + 1) (by omega) (by omega), wi (x := q + 1 + 1 + 1) (by omega) (by omega), wi (x := q + 1 + 1 + 1 + 1) (by omega) (by omega), wi (x := q + 1 + 1 + 1 + 1 + 1) (by omega) (by omega)]
      refine (p32 L a c N hN K n (i + 1) _ (q + 1 + 1 + 1 + 1 + 1) (by simp only [List.length_set]; exact h1) (by omega) (by omega) (by omega) (by omega)).imp fun o' k => ⟨k.1, k.2.trans ?_⟩
      congr 1
      omega
    · refine ⟨o, h1, ?_⟩
      rw [df (show ¬ (i : Int) < (o.length : Int) by omega), cond_false, show N - i = 0 by omega]
      simp
theorem m71_some {l : List Bk} {q : Int} (hl : l.length ≤ 1000000000) (h0 : 0 ≤ q) (h1 : q ≤ 100000000000000) : ∃ l', m32 (l, q) = some (q + 5 * (l.length : Int), l') := by
  obtain ⟨o', k1, k2⟩ := p32 (l.length + 1) l q l.length hl (fun o k => some (k, o)) (l.length + 1) 0 l q rfl (by omega) (by omega) h0 (by omega)
  exact ⟨o', k2⟩
def m33 (x : List Vp × Int) : Option (Int × List Vp) := g33 m51 (x.1.length + 1) x.1 x.2
theorem sat33 : SatW prog cxT 33 (c33 m33).nres (c33 m33).n (c33 m33).F := s33 m51 sat51 m33 fun x t h => ⟨_, h⟩
theorem p33 (L : Nat) (a : List Vp) (c : Int) (N : Nat) (hN : N ≤ 1048576) (K : List Vp → Int → Option (Int × List Vp)) : ∀ (n i : Nat) (o : List Vp) (q : Int), o.length = N → (∀ v ∈ o, v.2.2.2.length ≤ 1048576) → i ≤ N → N < n + i → 0 ≤ q → q ≤ 10000000 + 2000000 * (i : Int) →
    ∃ o' q', 0 ≤ q' ∧ l33_0 m51 L a c n o q i K = K o' q'
  | 0, i, o, q, _, _, h2, h3, _, _ => by omega
  | n + 1, i, o, q, h1, hv, h2, h3, h4, h5 => by
    unfold l33_0
    by_cases hi : i < N
    · have hio : i < o.length := by omega
      simp only [bnd_eq, List.length_set]
      rw [dt (show (i : Int) < (o.length : Int) by omega), dt (show (0 : Int) ≤ (i : Int) by omega), Bool.and_self]
      simp only [cond_true]
      rw [wi (x := (i : Int) + 1) (by omega) (by omega), wi (x := q + 1) (by omega) (by omega), wi (x := q + 1 + 1) (by omega) (by omega), wi (x := q + 1 + 1 + 1) (by omega) (by omega)]
      simp only [Int.toNat_natCast, List.set_set]
      have eg : ∀ x : Vp, (o.set i x).getD i (0, 0, 0, []) = x := fun x => by simp [List.getD, List.getElem?_set_self hio]
      simp only [eg]
      have hnl : (o.getD i dVp).2.2.2.length ≤ 1048576 := hv _ (getD_mem dVp hio)
      have hnl' : (o.getD i (0, 0, 0, [])).2.2.2.length ≤ 1048576 := hnl
      obtain ⟨l', e1, e2⟩ := m109_some (l := (o.getD i (0, 0, 0, [])).2.2.2) (q := q + 1 + 1 + 1) (by omega) (by omega) (by omega)
      rw [e2, tst_some]
      refine p33 L a c N hN K n (i + 1) _ _ (by rw [List.length_set]; exact h1) (fun v hvm => ?_) (by omega) (by omega) (by simp only; omega) (by simp only; omega)
      rcases List.mem_or_eq_of_mem_set hvm with hvm | rfl
      · exact hv v hvm
      · show l'.length ≤ 1048576
        rw [e1]; exact hnl'
    · refine ⟨o, q, h4, ?_⟩
      rw [df (show ¬ (i : Int) < (o.length : Int) by omega), cond_false]
theorem m72_some {l : List Vp} {q : Int} (hl : l.length ≤ 1048576) (hv : ∀ v ∈ l, v.2.2.2.length ≤ 1048576) (h0 : 0 ≤ q) (h1 : q ≤ 10000000) : ∃ l' q', 0 ≤ q' ∧ m33 (l, q) = some (q', l') := by
  obtain ⟨o', q', k1, k2⟩ := p33 (l.length + 1) l q l.length hl (fun o k => some (k, o)) (l.length + 1) 0 l q rfl hv (by omega) (by omega) h0 (by omega)
  exact ⟨o', q', k1, k2⟩
def m16 (x : Cg × Int) : Option (Int × Cg) := g16 m32 m33 0 x.1.1 x.1.2.1 x.1.2.2 x.2
theorem sat16 : SatW prog cxT 16 (c16 m16).nres (c16 m16).n (c16 m16).F := s16 m32 m33 sat32 sat33 m16 fun x t h => ⟨0, h⟩
theorem m32_some {c : Cg} (h1 : c.2.1.length ≤ 1048576) (h2 : c.2.2.length ≤ 1048576) (h3 : ∀ v ∈ c.2.2, v.2.2.2.length ≤ 1048576) : ∃ r : Int × Cg, 0 ≤ r.1 ∧ m16 (c, 1) = some r := by
  obtain ⟨l', e1⟩ := m71_some (l := c.2.1) (q := 1) (by omega) (by omega) (by omega)
  obtain ⟨l2, q', e2, e3⟩ := m72_some (l := c.2.2) (q := 1 + 5 * (c.2.1.length : Int)) h2 h3 (by omega) (by omega)
  refine ⟨(q', c.1, l', l2), e2, ?_⟩
  show g16 m32 m33 0 c.1 c.2.1 c.2.2 1 = _
  unfold g16
  rw [e1, tst_some, e3, tst_some]

/-! FnExactSharesFor -/

end Go.Proofs.Try

set_option maxHeartbeats 0
set_option linter.unusedVariables false
set_option linter.unusedSimpArgs false
namespace Go.Proofs.Try
open Go Go.VM Go.RowKit

/-! ### What marks write, and that it is held -/
def mkI (v : Int) : Int := v
def mkB (v : Int) : Bk := (v, v + 1, v + 2, v + 3, Int.tmod (v + 4) 3 == 0)
def wP (x : Vp) : Int := 3 + (x.2.2.2.length : Int)
def mkP (x : Vp) (v : Int) : Vp := (v, v + 1, v + 2, mkR mkI 1 x.2.2.2.length (v + 3))
theorem wP_pos (x : Vp) : 0 ≤ wP x := by unfold wP; omega
theorem wP_mk (x : Vp) (v : Int) : wP (mkP x v) = wP x := by unfold wP mkP; simp only [mkR_len]
theorem mkP_mk (x : Vp) (v : Int) : mkP (mkP x v) v = mkP x v := by unfold mkP; simp only [mkR_len]
theorem ex68 {l : List Int} {q : Int} (hl : l.length ≤ 1000000000) (h0 : 0 ≤ q) (h1 : q ≤ 100000000000) : m51 (l, q) = some (q + 1 * (l.length : Int), mkR mkI 1 l.length q) := by
  have := markRun (R := Int × List Int) mkI 1 1000000000000000 l.length (by omega) (fun n o v i K => l51_0 (l.length + 1) l q n o v i K)
    (fun n o v i K k1 k2 k3 k4 => by
      show l51_0 _ _ _ (n + 1) o v i K = _
      conv => lhs; unfold l51_0
      rw [dt (show (i : Int) < (o.length : Int) by omega), dt (show (0 : Int) ≤ (i : Int) by omega), Bool.and_self, cond_true, cond_true, Int.toNat_natCast, wi (x := v + 1) (by omega) (by omega), wi (x := (i : Int) + 1) (by omega) (by omega)]
      rfl)
    (fun n o v i K k1 k2 => by
      show l51_0 _ _ _ (n + 1) o v i K = _
      conv => lhs; unfold l51_0
      rw [df (show ¬ (i : Int) < (o.length : Int) by omega), cond_false]) (fun o k => some (k, o)) (l.length + 1) 0 l q rfl (by omega) (by omega) h0 (by simp only [Nat.sub_zero]; omega)
  simp only [List.take_zero, List.nil_append, Nat.sub_zero] at this
  exact this
theorem ex27 {l : List Bk} {q : Int} (hl : l.length ≤ 1000000000) (h0 : 0 ≤ q) (h1 : q ≤ 100000000000) : m32 (l, q) = some (q + 5 * (l.length : Int), mkR mkB 5 l.length q) := by
  have := markRun (R := Int × List Bk) mkB 5 1000000000000000 l.length (by omega) (fun n o v i K => l32_0 (l.length + 1) l q n o v i K)
    (fun n o v i K k1 k2 k3 k4 => by
      show l32_0 _ _ _ (n + 1) o v i K = _
      conv => lhs; unfold l32_0
      simp only [bnd_eq, List.length_set]
      rw [dt (show (i : Int) < (o.length : Int) by omega), dt (show (0 : Int) ≤ (i : Int) by omega), Bool.and_self]
      simp only [cond_true]
      rw [wi (x := (i : Int) + 1) (by omega) (by omega), wi (x := v + 1) (by omega) (by omega), wi (x := v + 1 + 1) (by omega) (by omega), wi (x := v + 1 + 1 + 1) (by omega) (by omega), wi (x := v + 1 + 1 + 1 + 1) (by omega) (by omega), wi (x := v + 1 + 1 + 1 + 1 + 1) (by omega) (by omega)]
      simp only [Int.toNat_natCast, List.set_set]
      have eg : ∀ x : Bk, (o.set i x).getD i (0, 0, 0, 0, false) = x := fun x => by simp [List.getD, List.getElem?_set_self k2]
      simp only [eg]
      rw [show v + 1 + 1 = v + 2 by omega, show v + 2 + 1 = v + 3 by omega, show v + 3 + 1 = v + 4 by omega, show v + 4 + 1 = v + 5 by omega]
      rfl)
    (fun n o v i K k1 k2 => by
      show l32_0 _ _ _ (n + 1) o v i K = _
      conv => lhs; unfold l32_0
      rw [df (show ¬ (i : Int) < (o.length : Int) by omega), cond_false]) (fun o k => some (k, o)) (l.length + 1) 0 l q rfl (by omega) (by omega) h0 (by simp only [Nat.sub_zero]; omega)
  simp only [List.take_zero, List.nil_append, Nat.sub_zero] at this
  exact this
theorem ex28 {l : List Vp} {q : Int} (hl : l.length ≤ 1000000) (hv : ∀ v ∈ l, v.2.2.2.length ≤ 1048576) (h0 : 0 ≤ q) (h1 : q + sumW wP l ≤ 10000000000) : m33 (l, q) = some (q + sumW wP l, mkV mkP wP l q) := by
  have := markRunV (R := Int × List Vp) dVp mkP wP 10000000000 wP_pos (fun x => x.2.2.2.length ≤ 1048576) l.length (fun n o v i K => l33_0 m51 (l.length + 1) l q n o v i K)
    (fun n o v i K k1 k2 k3 k4 k5 => by
      show l33_0 _ _ _ _ (n + 1) o v i K = _
      conv => lhs; unfold l33_0
      simp only [bnd_eq, List.length_set]
      rw [dt (show (i : Int) < (o.length : Int) by omega), dt (show (0 : Int) ≤ (i : Int) by omega), Bool.and_self]
      simp only [cond_true]
      rw [wi (x := (i : Int) + 1) (by omega) (by omega), wi (x := v + 1) (by omega) (by omega), wi (x := v + 1 + 1) (by omega) (by omega), wi (x := v + 1 + 1 + 1) (by omega) (by omega)]
      simp only [Int.toNat_natCast, List.set_set]
      have eg : ∀ x : Vp, (o.set i x).getD i (0, 0, 0, []) = x := fun x => by simp [List.getD, List.getElem?_set_self k2]
      simp only [eg]
      have k5' : (o.getD i (0, 0, 0, [])).2.2.2.length ≤ 1048576 := k5
      rw [ex68 (l := (o.getD i (0, 0, 0, [])).2.2.2) (q := v + 1 + 1 + 1) (by omega) (by omega) (by omega), tst_some]
      rw [show v + 1 + 1 = v + 2 by omega, show v + 2 + 1 = v + 3 by omega]
      show l33_0 _ _ _ _ n _ (v + 3 + 1 * ((o.getD i dVp).2.2.2.length : Int)) _ K = l33_0 _ _ _ _ n _ (v + wP (o.getD i dVp)) _ K
      rw [show v + 3 + 1 * ((o.getD i dVp).2.2.2.length : Int) = v + wP (o.getD i dVp) by unfold wP; omega]
      rfl)
    (fun n o v i K k1 k2 => by
      show l33_0 _ _ _ _ (n + 1) o v i K = _
      conv => lhs; unfold l33_0
      rw [df (show ¬ (i : Int) < (o.length : Int) by omega), cond_false]) (fun o k => some (k, o)) l [] q (l.length + 1) rfl (by omega) h0 h1 hv
  exact this
def m84 (x : List Int × Int) : Option Int := g84 (x.1.length + 1) x.1 x.2
theorem sat84 : Sat prog cxT 84 (c84 m84) := s84 m84 fun x t h => ⟨_, h⟩
theorem hx97 {n : Nat} {q : Int} (hl : n ≤ 1000000000) (h0 : 0 ≤ q) (h1 : q ≤ 100000000000) : m84 (mkR mkI 1 n q, q) = some (q + (n : Int)) := by
  have hlen := mkR_len mkI 1 n q
  have := heldRun (R := Int) 0 mkI 1 1000000000000000 (by omega) n q (fun n' v i K => l84_0 (n + 1) (mkR mkI 1 n q) q n' v i K) h0
    (fun n' v i K k1 k2 k3 k4 => by
      show l84_0 _ _ _ (n' + 1) v i K = _
      conv => lhs; unfold l84_0
      rw [hlen, dt (show (i : Int) < (n : Int) by omega), dt (show (0 : Int) ≤ (i : Int) by omega), Bool.and_self, cond_true, cond_true, Int.toNat_natCast, k4, bneF (show mkI v = v from rfl), cond_false, wi (x := v + 1) (by omega) (by omega), wi (x := (i : Int) + 1) (by omega) (by omega)]
      rfl)
    (fun n' v i K k1 => by
      show l84_0 _ _ _ (n' + 1) v i K = _
      conv => lhs; unfold l84_0
      rw [hlen, df (show ¬ (i : Int) < (n : Int) by omega), cond_false]) (by omega) (fun k => some k) (n + 1) 0 (by omega) (by omega)
  simp only [Int.natCast_zero, Int.mul_zero, Int.add_zero, Int.one_mul] at this
  unfold m84 g84
  simp only [hlen]
  exact this
def m78 (x : List Bk × Int) : Option Int := g78 (x.1.length + 1) x.1 x.2
theorem sat78 : Sat prog cxT 78 (c78 m78) := s78 m78 fun x t h => ⟨_, h⟩
theorem beqR (b : Bool) : (!(b == b)) = false := by cases b <;> rfl
theorem hx69 {n : Nat} {q : Int} (hl : n ≤ 1000000000) (h0 : 0 ≤ q) (h1 : q ≤ 100000000000) : m78 (mkR mkB 5 n q, q) = some (q + 5 * (n : Int)) := by
  have hlen := mkR_len mkB 5 n q
  have := heldRun (R := Int) dBk mkB 5 1000000000000000 (by omega) n q (fun n' v i K => l78_0 (n + 1) (mkR mkB 5 n q) q n' v i K) h0
    (fun n' v i K k1 k2 k3 k4 => by
      show l78_0 _ _ _ (n' + 1) v i K = _
      conv => lhs; unfold l78_0
      rw [show (((0 : Int), ((0 : Int), ((0 : Int), ((0 : Int), Bool.false)))) : Bk) = dBk from rfl]
      rw [hlen, dt (show (i : Int) < (n : Int) by omega), dt (show (0 : Int) ≤ (i : Int) by omega), Bool.and_self]
      simp only [cond_true, Int.toNat_natCast, k4]
      rw [wi (x := (i : Int) + 1) (by omega) (by omega), wi (x := v + 1) (by omega) (by omega), wi (x := v + 1 + 1) (by omega) (by omega), wi (x := v + 1 + 1 + 1) (by omega) (by omega), wi (x := v + 1 + 1 + 1 + 1) (by omega) (by omega), wi (x := v + 1 + 1 + 1 + 1 + 1) (by omega) (by omega)]
      rw [show v + 1 + 1 = v + 2 by omega, show v + 2 + 1 = v + 3 by omega, show v + 3 + 1 = v + 4 by omega, show v + 4 + 1 = v + 5 by omega]
      unfold mkB
      simp only [bne_self_eq_false, cond_false, beqR]
      rfl)
    (fun n' v i K k1 => by
      show l78_0 _ _ _ (n' + 1) v i K = _
      conv => lhs; unfold l78_0
      rw [hlen, df (show ¬ (i : Int) < (n : Int) by omega), cond_false]) (by omega) (fun k => some k) (n + 1) 0 (by omega) (by omega)
  simp only [Int.natCast_zero, Int.mul_zero, Int.add_zero] at this
  unfold m78 g78
  simp only [hlen]
  exact this
def m79 (x : List Vp × Int) : Option Int := g79 m84 (x.1.length + 1) x.1 x.2
theorem sat79 : Sat prog cxT 79 (c79 m79) := s79 m84 sat84 m79 fun x t h => ⟨_, h⟩
theorem hx70 {l : List Vp} {q : Int} (hl : l.length ≤ 1000000) (hv : ∀ v ∈ l, v.2.2.2.length ≤ 1048576) (h0 : 0 ≤ q) (h1 : q + sumW wP l ≤ 10000000000) : m79 (mkV mkP wP l q, q) = some (q + sumW wP l) := by
  have hlen := mkV_len mkP wP l q
  have hsum := mkV_sum wP_mk l q
  have := heldRunV (R := Int) dVp mkP wP 10000000000 wP_pos wP_mk (fun x => x.2.2.2.length ≤ 1048576) (mkV mkP wP l q) (fun n v i K => l79_0 m84 (l.length + 1) (mkV mkP wP l q) q n v i K)
    (fun n v i K k1 k2 k3 k4 k5 => by
      rw [hlen] at k1
      show l79_0 _ _ _ _ (n + 1) v i K = _
      conv => lhs; unfold l79_0
      rw [show (((0 : Int), ((0 : Int), ((0 : Int), ([] : List Int)))) : Vp) = dVp from rfl]
      rw [hlen, dt (show (i : Int) < (l.length : Int) by omega), dt (show (0 : Int) ≤ (i : Int) by omega), Bool.and_self]
      simp only [cond_true, Int.toNat_natCast]
      generalize (mkV mkP wP l q).getD i dVp = x at k4 k5 ⊢
      have e1 : x.1 = v := congrArg (·.1) k5
      have e2 : x.2.1 = v + 1 := congrArg (·.2.1) k5
      have e3 : x.2.2.1 = v + 2 := congrArg (·.2.2.1) k5
      have e4 : x.2.2.2 = mkR mkI 1 x.2.2.2.length (v + 3) := congrArg (·.2.2.2) k5
      have e5 : m84 (x.2.2.2, v + 3) = some (v + 3 + (x.2.2.2.length : Int)) := by
        have := hx97 (n := x.2.2.2.length) (q := v + 3) (by omega) (by omega) (by omega)
        rw [← e4] at this
        exact this
      rw [wi (x := (i : Int) + 1) (by omega) (by omega), wi (x := v + 1) (by omega) (by omega), wi (x := v + 1 + 1) (by omega) (by omega), wi (x := v + 1 + 1 + 1) (by omega) (by omega)]
      rw [show v + 1 + 1 = v + 2 by omega, show v + 2 + 1 = v + 3 by omega, e5, tst_some, e1, e2, e3, df (show ¬ v + 3 + (x.2.2.2.length : Int) < 0 by omega)]
      simp only [bne_self_eq_false, cond_false]
      rw [show v + 3 + (x.2.2.2.length : Int) = v + wP x by unfold wP; omega]
      rfl)
    (fun n v i K k1 => by
      rw [hlen] at k1
      show l79_0 _ _ _ _ (n + 1) v i K = _
      conv => lhs; unfold l79_0
      rw [hlen, df (show ¬ (i : Int) < (l.length : Int) by omega), cond_false]) (fun k => some k) (mkV mkP wP l q) [] q (l.length + 1) rfl (by rw [hlen]; omega) h0 (by rw [hsum]; exact h1)
    (fun x hx => by
      obtain ⟨y, hy, v, rfl⟩ := mkV_mem hx
      show (mkR mkI 1 y.2.2.2.length (v + 3)).length ≤ 1048576
      rw [mkR_len]; exact hv y hy) (mkV_mk wP_mk mkP_mk l q).symm
  rw [hsum] at this
  unfold m79 g79
  simp only [hlen]
  exact this
def m53 (x : Cg × Int) : Option Int := g53 m78 m79 0 x.1.1 x.1.2.1 x.1.2.2 x.2
theorem sat53 : Sat prog cxT 53 (c53 m53) := s53 m78 m79 sat78 sat79 m53 fun x t h => ⟨0, h⟩
end Go.Proofs.Try
