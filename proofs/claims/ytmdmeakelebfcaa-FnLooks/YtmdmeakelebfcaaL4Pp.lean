/- A part of the proof of FnLooks: L4Pp, L4Pr, L4Ps. -/
import Derived.Test.YtmdmeakelebfcaaL4Pk
import Derived.Test.YtmdmeakelebfcaaL4Fa
set_option maxHeartbeats 0
set_option linter.unusedVariables false
set_option linter.unusedSimpArgs false
namespace Go.Proofs.Try
open Go Go.VM Go.RowKit

/-! Draws -/
abbrev Src := List Int × Int
def okZ (s : Src) (b : Int) : Prop := okB s.1 = true ∧ s.1.length ≤ 1048576 ∧ 0 ≤ s.2 ∧ s.2 ≤ b
instance (s : Src) (b : Int) : Decidable (okZ s b) := by unfold okZ; infer_instance
theorem okZ.up {s : Src} {b c : Int} (h : okZ s b) (hc : b ≤ c) : okZ s c := ⟨h.1, h.2.1, h.2.2.1, Int.le_trans h.2.2.2 hc⟩
theorem okZ.add {s : Src} {b : Int} (h : okZ s b) {k : Int} (hk : 0 ≤ k) : okZ (s.1, s.2 + k) (b + k) := by
  obtain ⟨h1, h2, h3, h4⟩ := h
  exact ⟨h1, h2, by simp only; omega, by simp only; omega⟩

def m44 (c : List Int) : Option (List Int × Int) := some (c, 0)
theorem sat44 : SatN prog cxT 44 (c44 m44).F := s44 m44 fun x t h => by
  cases h
  exact ⟨0, rfl⟩

def m52 (x : Src × Int) : Option (Int × List Int × Int) := if okZ x.1 1000000000 then g52 0 x.1.1 x.1.2 x.2 else none
theorem sat52 : SatP prog cxT 52 (c52 m52).nres (c52 m52).F := s52 m52 fun x t h => by
  unfold m52 at h
  split at h
  · exact ⟨0, h⟩
  · cases h
theorem tmod_range (a : Int) {n : Int} (ha : 0 ≤ a) (hn : 1 ≤ n) : 0 ≤ a.tmod n ∧ a.tmod n < n := by
  rw [Int.tmod_eq_emod_of_nonneg ha]
  exact ⟨Int.emod_nonneg a (by omega), Int.emod_lt_of_pos a (by omega)⟩
theorem nx {s : Src} {b : Int} (h : okZ s b) (hb : b ≤ 1000000000) (n : Int) : ∃ v, m52 (s, n) = some (v, s.1, s.2 + 1) ∧ (n < 1 → v = 0) ∧ (1 ≤ n → 0 ≤ v ∧ v < n) := by
  have hs := h.up hb
  obtain ⟨h1, h2, h3, h4⟩ := hs
  obtain ⟨c, at'⟩ := s
  simp only at h1 h2 h3 h4
  have e0 : m52 ((c, at'), n) = g52 0 c at' n := if_pos ⟨h1, h2, h3, h4⟩
  rw [e0]
  unfold g52
  have w1 : IntKind.wrap .i64 (at' + 1) = at' + 1 := wi (by omega) (by omega)
  have w2 : IntKind.wrap .i64 (at' + 1 - 1) = at' := by rw [Int.add_sub_cancel]; exact wi (by omega) (by omega)
  by_cases hn : n < 1
  · rw [dt hn, cond_true, w1]
    exact ⟨0, rfl, fun _ => rfl, fun h => by omega⟩
  · rw [df hn, cond_false]
    have hn0 : (n == 0) = false := by simp; omega
    by_cases hl : c.length = 0
    · have e1 : ((Nat.cast c.length : Int) == 0) = true := by simp [hl]
      simp only [e1, hn0, cond_true, cond_false, w1, w2]
      refine ⟨_, rfl, fun h => by omega, fun h => tmod_range _ ?_ h⟩
      rw [wi (by omega) (by omega)]
      omega
    · have e1 : ((Nat.cast c.length : Int) == 0) = false := by simp; intro h; simp [h] at hl
      have hk : (1 : Int) ≤ (c.length : Int) := by omega
      have r1 := tmod_range at' h3 hk
      have r2 := tmod_range (at' + 1) (by omega) hk
      have hq : 0 ≤ at'.tdiv (c.length : Int) ∧ at'.tdiv (c.length : Int) ≤ at' := by
        rw [Int.tdiv_eq_ediv_of_nonneg h3]
        exact ⟨Int.ediv_nonneg h3 (by omega), Int.ediv_le_self _ h3⟩
      have wq : IntKind.wrap .i64 (at'.tdiv (c.length : Int)) = at'.tdiv (c.length : Int) := wi (by omega) (by omega)
      have g1 := okB_get h1 (i := (at'.tmod (c.length : Int)).toNat) (by omega)
      have g2 := okB_get h1 (i := ((at' + 1).tmod (c.length : Int)).toNat) (by omega)
      have w3 : IntKind.wrap .i64 (at' + 1) = at' + 1 := w1
      simp only [e1, hn0, cond_false, w1, w2, dt r1.1, dt r1.2, dt r2.1, dt r2.2, Bool.and_self, cond_true, wq]
      generalize c.getD (at'.tmod (c.length : Int)).toNat 0 = x at g1 ⊢
      generalize c.getD ((at' + 1).tmod (c.length : Int)).toNat 0 = y at g2 ⊢
      generalize at'.tdiv (c.length : Int) = q at hq ⊢
      by_cases hb2 : n > 200
      · rw [dt hb2, cond_true]
        refine ⟨_, rfl, fun h => by omega, fun h => tmod_range _ ?_ h⟩
        simp (disch := omega) only [wi]
        omega
      · rw [df hb2, cond_false]
        refine ⟨_, rfl, fun h => by omega, fun h => tmod_range _ ?_ h⟩
        simp (disch := omega) only [wi]
        omega

def m65 (x : Src × List Int) : Option (Int × List Int × Int) := if okZ x.1 1000000000 ∧ 1 ≤ x.2.length ∧ x.2.length ≤ 1000 then g65 m52 0 x.1.1 x.1.2 x.2 else none
theorem sat65 : SatP prog cxT 65 (c65 m65).nres (c65 m65).F := s65 m52 sat52 m65 fun x t h => by
  unfold m65 at h
  split at h
  · exact ⟨0, h⟩
  · cases h
theorem pick {s : Src} {b : Int} (h : okZ s b) (hb : b ≤ 1000000000) (l : List Int) (h1 : 1 ≤ l.length) (h2 : l.length ≤ 1000) : ∃ v ∈ l, m65 (s, l) = some (v, s.1, s.2 + 1) := by
  obtain ⟨v, e, _, hv⟩ := nx h hb (l.length : Int)
  have hv := hv (by omega)
  have e0 : m65 (s, l) = g65 m52 0 s.1 s.2 l := if_pos ⟨h.up hb, h1, h2⟩
  refine ⟨l.getD v.toNat 0, ?_, ?_⟩
  · have : v.toNat < l.length := by omega
    simp only [List.getD, List.getElem?_eq_getElem this, Option.getD_some]
    exact List.getElem_mem this
  · rw [e0]
    unfold g65
    rw [e, tst_some, dt hv.1, dt hv.2]
    rfl


theorem okZ.at {s : Src} {b : Int} (h : okZ s b) {at2 : Int} (h1 : s.2 ≤ at2) {c : Int} (h2 : at2 ≤ c) : okZ (s.1, at2) c := ⟨h.1, h.2.1, by have := h.2.2.1; simp only; omega, h2⟩
def m64 (s : Src) : Option (List Sh × List Int × Int) := if okZ s 900000000 then g64 m65 m52 9 s.1 s.2 else none
theorem sat64 : SatP prog cxT 64 (c64 m64).nres (c64 m64).F := s64 m65 m52 sat65 sat52 m64 fun x t h => by
  unfold m64 at h
  split at h
  · exact ⟨9, h⟩
  · cases h
theorem shares_loop (c : List Int) (a0 : Int) (k : List Int → Int → List Sh → Option (List Sh × List Int × Int)) : ∀ (f : Nat) (at' : Int) (o : List Sh) (nm n : Int), okZ (c, at') (900000100 - 2 * n) → 0 ≤ n → n ≤ 8 → n < f → (o.length : Int) ≤ 8 - n →
    ∃ at2 o2, l64_0 m65 m52 9 c a0 f c at' o nm n k = k c at2 o2 ∧ (o2.length : Int) ≤ 8 ∧ at' ≤ at2 ∧ at2 ≤ at' + 2 * n
  | 0, at', o, nm, n, hs, h0, h8, hf, hl => by omega
  | f + 1, at', o, nm, n, hs, h0, h8, hf, hl => by
    by_cases hz : n > 0
    · obtain ⟨v1, e1, _, r1⟩ := nx hs (by omega) 60
      have s1 := hs.add (k := 1) (by omega)
      obtain ⟨v2, m2, e2⟩ := pick s1 (by omega) [1, 1, 1, 2, 3, 0, 9] (by simp) (by simp)
      have s2 := s1.add (k := 1) (by omega)
      simp only at e1 e2 s1 s2
      obtain ⟨at2, o2, q1, q2, q3, q4⟩ := shares_loop c a0 k f (at' + 1 + 1) (o ++ [(IntKind.wrap .i64 (IntKind.wrap .i64 (nm + 1) + v1), v2)]) (IntKind.wrap .i64 (IntKind.wrap .i64 (nm + 1) + v1)) (n - 1) (s2.up (by omega)) (by omega) (by omega) (by omega) (by simp; omega)
      refine ⟨at2, o2, ?_, q2, by omega, by omega⟩
      rw [l64_0, dt hz, cond_true, e1, tst_some]
      simp only
      rw [e2, tst_some]
      simp only [wi (show (-9223372036854775808 : Int) ≤ n - 1 by omega) (by omega)]
      rw [dt (by simp; omega), cond_true]
      exact q1
    · refine ⟨at', o, ?_, by omega, by omega, by omega⟩
      rw [l64_0, df hz, cond_false]
theorem shares64 {s : Src} {b : Int} (h : okZ s b) (hb : b ≤ 800000000) : ∃ at2 o, m64 s = some (o, s.1, at2) ∧ o.length ≤ 8 ∧ s.2 ≤ at2 ∧ at2 ≤ b + 100 := by
  have e0 : m64 s = g64 m65 m52 9 s.1 s.2 := if_pos (h.up (by omega))
  obtain ⟨v, mv, ev⟩ := pick h (by omega) [1, 2, 3, 4, 5, 8, 0] (by simp) (by simp)
  have s1 := h.add (k := 1) (by omega)
  have hv : 0 ≤ v ∧ v ≤ 8 := by
    simp only [List.mem_cons, List.not_mem_nil, or_false] at mv
    omega
  have h4 := h.2.2.2
  obtain ⟨at2, o2, q1, q2, q3, q4⟩ := shares_loop s.1 s.2 (fun w0 w1 w3 => some (w3, w0, w1)) 9 (s.2 + 1) [] 0 v (s1.up (by omega)) hv.1 hv.2 (by omega) (by simp; omega)
  refine ⟨at2, o2, ?_, by omega, by omega, by omega⟩
  rw [e0]
  unfold g64
  rw [ev, tst_some]
  exact q1
def m43 (s : Src) : Option (List Sh × List Int × Int) := if okZ s 700000000 then g43 m64 m52 m65 0 s.1 s.2 else none
theorem sat43 : SatP prog cxT 43 (c43 m43).nres (c43 m43).F := s43 m64 m52 m65 sat64 sat52 sat65 m43 fun x t h => by
  unfold m43 at h
  split at h
  · exact ⟨0, h⟩
  · cases h
theorem bent43 {s : Src} {b : Int} (h : okZ s b) (hb : b ≤ 700000000) : ∃ at2 o, m43 s = some (o, s.1, at2) ∧ o.length ≤ 9 := by
  have e0 : m43 s = g43 m64 m52 m65 0 s.1 s.2 := if_pos (h.up hb)
  obtain ⟨at2, o, e1, k1, k2, k3⟩ := shares64 h (by omega)
  have s1 : okZ (s.1, at2) 750000000 := h.at k2 (by omega)
  rw [e0]
  unfold g43
  rw [e1, tst_some]
  simp only
  by_cases h0 : o.length = 0
  · rw [show ((Nat.cast o.length : Int) == 0) = true by simp [h0], cond_true]
    exact ⟨_, _, rfl, by omega⟩
  rw [show ((Nat.cast o.length : Int) == 0) = false by simp; intro h; simp [h] at h0, cond_false]
  obtain ⟨i, e2, _, ri⟩ := nx s1 (by omega) (o.length : Int)
  have ri := ri (by omega)
  have s2 := s1.add (k := 1) (by omega)
  simp only at e2 s2
  obtain ⟨n, e3, _, _⟩ := nx s2 (by omega) 16
  have s3 := s2.add (k := 1) (by omega)
  simp only at e3 s3
  rw [e2, tst_some]
  simp only
  rw [e3, tst_some]
  simp only
  by_cases h0 : n = 0
  · obtain ⟨v, _, ev⟩ := pick s3 (by omega) [0, 1000, 999, 1] (by simp) (by simp)
    simp only at ev
    rw [show (n == 0) = true by simp [h0], cond_true, ev, tst_some, dt ri.1, dt ri.2]
    exact ⟨_, _, rfl, by rw [List.length_set]; omega⟩
  rw [show (n == 0) = false by simp [h0], cond_false]
  by_cases h1 : n = 1
  · obtain ⟨v, _, ev⟩ := pick s3 (by omega) [-1, 10, 9] (by simp) (by simp)
    simp only at ev
    rw [show (n == 1) = true by simp [h1], cond_true, ev, tst_some, dt ri.1, dt ri.2]
    exact ⟨_, _, rfl, by rw [List.length_set]; omega⟩
  rw [show (n == 1) = false by simp [h1], cond_false]
  by_cases h2 : n = 2
  · rw [show (n == 2) = true by simp [h2], cond_true]
    exact ⟨_, _, rfl, by simp⟩
  · rw [show (n == 2) = false by simp [h2], cond_false]
    exact ⟨_, _, rfl, by omega⟩
def okC (c : List Int) : Prop := okB c = true ∧ c.length ≤ 1048576
instance (c : List Int) : Decidable (okC c) := by unfold okC; infer_instance
theorem okC.src {c : List Int} (h : okC c) : okZ (c, 0) 0 := ⟨h.1, h.2, Int.le_refl _, Int.le_refl _⟩
def m13 (c : List Int) : Option (List Sh) := if okC c then g13 m44 m43 0 c else none
theorem sat13 : Sat prog cxT 13 (c13 m13) := s13 m44 m43 sat44 sat43 m13 fun x t h => by
  unfold m13 at h
  split at h
  · exact ⟨0, h⟩
  · cases h
theorem draw13 {c : List Int} (h : okC c) : ∃ l, m13 c = some l ∧ l.length ≤ 9 := by
  have e0 : m13 c = g13 m44 m43 0 c := if_pos h
  obtain ⟨at2, o, e1, k1⟩ := bent43 h.src (by omega)
  refine ⟨o, ?_, k1⟩
  rw [e0]
  unfold g13
  rw [show m44 c = some (c, 0) from rfl, tst_some]
  simp only
  rw [e1, tst_some]
def m12 (c : List Int) : Option Bool := some (decide ((c.length : Int) > 1048576))
theorem sat12 : Sat prog cxT 12 (c12 m12) := s12 m12 fun x t h => by
  cases h
  exact ⟨0, rfl⟩
end Go.Proofs.Try

set_option maxHeartbeats 0
set_option linter.unusedVariables false
set_option linter.unusedSimpArgs false
namespace Go.Proofs.Try
open Go Go.VM Go.RowKit

/-! Each name asks for each place -/
theorem inverse : ∀ s : Fin 31, s.1 ≠ 0 → ∃ t : Fin 31, (s.1 * t.1) % 31 = 1 := by decide
theorem covers (a : Int) {p : Nat} (hp : p < 31) : ∃ k, k < 31 ∧ pl a k = p := by
  have h1 := off_in a
  have h2 := skip_in a
  obtain ⟨s, hs⟩ := Int.eq_ofNat_of_zero_le (show 0 ≤ skipI a by omega)
  obtain ⟨o, ho⟩ := Int.eq_ofNat_of_zero_le h1.1
  obtain ⟨t, ht⟩ := inverse ⟨s, by omega⟩ (by show s ≠ 0; omega)
  have ht : (s * t.1) % 31 = 1 := ht
  have ht' : ((s : Int) * (t.1 : Int)) % 31 = 1 := by exact_mod_cast congrArg (Nat.cast (R := Int)) ht
  -- k = (p - o) * t mod 31
  refine ⟨((((p : Int) - o) * t.1) % 31).toNat, by omega, ?_⟩
  have hk : (((((p : Int) - o) * t.1) % 31).toNat : Int) = (((p : Int) - o) * t.1) % 31 := by omega
  unfold pl
  rw [hk, hs, ho]
  rw [Int.add_emod, Int.mul_emod, Int.emod_emod, ← Int.mul_emod, Int.mul_assoc, Int.mul_comm (t.1 : Int) (s : Int), Int.mul_emod, ht', Int.mul_one, Int.emod_emod, ← Int.add_emod]
  omega
theorem mem_upto {a : Int} {p : Nat} (hp : p < 31) : ∃ q ∈ upto (pls a) 31, q.1.toNat = p := by
  obtain ⟨k, hk, he⟩ := covers a hp
  refine ⟨pls a k, ?_, ?_⟩
  · unfold upto
    exact List.mem_map.2 ⟨k, List.mem_range.2 hk, rfl⟩
  · show (pl a k).toNat = p
    omega
theorem ff_all {v : List Int} : ∀ {ps : List Pl}, ff v ps = none → ∀ p ∈ ps, v.getD p.1.toNat 0 ≠ 0
  | [], _, p, hp => by simp at hp
  | q :: r, h, p, hp => by
    rw [ff] at h
    split at h
    · cases h
    · rcases List.mem_cons.1 hp with rfl | hp
      · assumption
      · exact ff_all h p hp
theorem free_none : ∀ {v : List Int}, (∀ i, i < v.length → v.getD i 0 ≠ 0) → free v = 0
  | [], _ => rfl
  | x :: r, h => by
    rw [free_cons, free_none (v := r) (fun i hi => by simpa using h (i + 1) (by simpa using hi)), if_neg (by simpa using h 0 (by simp))]
theorem ff_full {v : List Int} {a : Int} (hv : v.length = 31) (h : ff v (upto (pls a) 31) = none) : free v = 0 := free_none fun i hi => by
  obtain ⟨q, hq, he⟩ := mem_upto (a := a) (p := i) (by omega)
  rw [← he]
  exact ff_all h q hq

/-! Who has how many -/
theorem cnt_set : ∀ {v : List Int} {p : Nat} {a b : Int}, p < v.length → v.getD p 0 = 0 → b ≠ 0 → cnt (v.set p a) b = cnt v b + (if a = b then 1 else 0)
  | [], p, a, b, h, _, _ => by simp at h
  | x :: r, 0, a, b, _, h0, hb => by
    have h0 : x = 0 := by simpa using h0
    rw [List.set_cons_zero, cnt_cons, cnt_cons, if_neg (show ¬ x = b by omega)]
    omega
  | x :: r, p + 1, a, b, h, h0, hb => by
    have := cnt_set (v := r) (p := p) (a := a) (b := b) (by simpa using h) (by simpa using h0) hb
    rw [List.set_cons_succ, cnt_cons, cnt_cons, this]
    omega
theorem rnd_fair : ∀ (ns v : List Int), v.length = 31 → (∀ a ∈ ns, a ≠ 0) → ∃ j, j ≤ ns.length ∧ free (rnd ns v).1 + j = free v ∧ (∀ b, b ≠ 0 → cnt (rnd ns v).1 b = cnt v b + cnt (ns.take j) b) ∧
    ((rnd ns v).2 = true → j = ns.length) ∧ ((rnd ns v).2 = false → free (rnd ns v).1 = 0)
  | [], v, _, _ => ⟨0, Nat.le_refl _, rfl, fun b _ => rfl, fun _ => rfl, fun h => by cases h⟩
  | a :: r, v, hv, ha => by
    rw [rnd]
    cases hp : ff v (upto (pls a) 31) with
    | none => exact ⟨0, Nat.zero_le _, rfl, fun b _ => rfl, (fun h => by cases h), fun _ => ff_full hv hp⟩
    | some p =>
      have hpl : p < v.length := by rw [hv]; exact ff_lt hp
      have ha0 := ha a (List.mem_cons_self ..)
      obtain ⟨j, h1, h2, h3, h4, h5⟩ := rnd_fair r (v.set p a) (by rw [List.length_set]; exact hv) fun b hb => ha b (List.mem_cons_of_mem _ hb)
      have h6 := free_set (a := a) hpl (ff_spec hp) ha0
      refine ⟨j + 1, by simpa using h1, by simp only; omega, fun b hb => ?_, fun h => by have := h4 h; simp; omega, h5⟩
      simp only
      rw [h3 b hb, cnt_set hpl (ff_spec hp) hb, List.take_succ_cons, cnt_cons]
      omega
theorem fill_fair {ns : List Int} (hne : ns ≠ []) (ha : ∀ a ∈ ns, a ≠ 0) : ∀ (n : Nat) (v : List Int), v.length = 31 → free v < n →
    ∃ r j, j ≤ ns.length ∧ free v = r * ns.length + j ∧ free (fillF ns n v) = 0 ∧ ∀ b, b ≠ 0 → cnt (fillF ns n v) b = cnt v b + r * cnt ns b + cnt (ns.take j) b
  | 0, v, _, h => by omega
  | n + 1, v, hv, hf => by
    have hpos := List.length_pos_iff.2 hne
    obtain ⟨j, h1, h2, h3, h4, h5⟩ := rnd_fair ns v hv ha
    rw [fillF, if_neg hne]
    cases hr : (rnd ns v).2 with
    | false =>
      rw [if_neg (by simp)]
      exact ⟨0, j, h1, by have := h5 hr; omega, h5 hr, fun b hb => by rw [h3 b hb]; omega⟩
    | true =>
      rw [if_pos rfl]
      have hj := h4 hr
      obtain ⟨r, k, k1, k2, k3, k4⟩ := fill_fair hne ha n _ (by rw [rnd_len]; exact hv) (show free (rnd ns v).1 < n by omega)
      refine ⟨r + 1, k, k1, by rw [Nat.succ_mul]; omega, k3, fun b hb => ?_⟩
      rw [k4 b hb, h3 b hb, hj, List.take_length, Nat.succ_mul]
      omega
end Go.Proofs.Try

set_option maxHeartbeats 0
set_option linter.unusedVariables false
set_option linter.unusedSimpArgs false
namespace Go.Proofs.Try
open Go Go.VM Go.RowKit

def nms (xs : List Sh) : List Int := xs.map Prod.fst
theorem sfl_asc : ∀ {a : List Sh} {p : Int}, sfl p a = 0 → (∀ s ∈ a, p < s.1) ∧ (nms a).Nodup
  | [], _, _ => ⟨by simp, List.nodup_nil⟩
  | x :: r, p, h => by
    unfold sfl at h
    split at h
    · split at h
      · split at h
        · cases h
        · rename_i hx
          obtain ⟨h1, h2⟩ := sfl_asc h
          refine ⟨fun s hs => ?_, ?_⟩
          · rcases List.mem_cons.1 hs with rfl | hs
            · omega
            · have := h1 s hs; omega
          · unfold nms at h2 ⊢
            rw [List.map_cons, List.nodup_cons]
            refine ⟨fun hm => ?_, h2⟩
            obtain ⟨s, hs, he⟩ := List.mem_map.1 hm
            have := h1 s hs
            omega
      · cases h
    · cases h
theorem sf_nodup {a : List Sh} (h : sf a = 0) : (nms a).Nodup := by
  have h8 := sf_len h
  unfold sf at h
  rw [if_neg (by omega)] at h
  exact (sfl_asc h).2
theorem cnt_app (a b : List Int) (x : Int) : cnt (a ++ b) x = cnt a x + cnt b x := List.count_append
theorem cnt_rep (n : Nat) (a x : Int) : cnt (List.replicate n a) x = if a = x then n else 0 := by
  unfold cnt
  rw [List.count_replicate]
  by_cases h : a = x <;> simp [h]
theorem expand_cons (s : Sh) (r : List Sh) : expand (s :: r) = List.replicate s.2.toNat s.1 ++ expand r := by simp [expand]
theorem expand_mem {xs : List Sh} {a : Int} (h : a ∈ expand xs) : a ∈ nms xs := by
  obtain ⟨s, hs, hm⟩ := List.mem_flatMap.1 h
  rw [(List.mem_replicate.1 hm).2]
  exact List.mem_map.2 ⟨s, hs, rfl⟩
theorem cnt_none {l : List Int} {x : Int} (h : x ∉ l) : cnt l x = 0 := List.count_eq_zero.2 h
theorem cnt_expand : ∀ {xs : List Sh}, (nms xs).Nodup → ∀ s ∈ xs, cnt (expand xs) s.1 = s.2.toNat
  | [], _, s, hs => by simp at hs
  | x :: r, h, s, hs => by
    unfold nms at h
    rw [List.map_cons, List.nodup_cons] at h
    rw [expand_cons, cnt_app, cnt_rep]
    rcases List.mem_cons.1 hs with rfl | hs
    · rw [if_pos rfl, cnt_none (fun hm => h.1 (expand_mem hm))]
      omega
    · rw [if_neg (fun e => h.1 (List.mem_map.2 ⟨s, hs, e.symm⟩)), cnt_expand h.2 s hs]
      omega
theorem expand_len : ∀ {xs : List Sh}, (∀ s ∈ xs, okS s) → ((expand xs).length : Int) = wsum xs
  | [], _ => by simp [expand, wsum]
  | s :: r, h => by
    have h1 := expand_len (xs := r) fun y hy => h y (List.mem_cons_of_mem _ hy)
    have h2 := (h s (List.mem_cons_self ..)).2
    rw [expand_cons, List.length_append, List.length_replicate, wsum]
    omega
def sumC (t : List Int) : List Sh → Nat
  | [] => 0
  | s :: r => cnt t s.1 + sumC t r
theorem sumC_cons (x : Int) (l : List Int) : ∀ xs : List Sh, sumC (x :: l) xs = sumC l xs + cnt (nms xs) x
  | [] => rfl
  | s :: r => by
    have := sumC_cons x l r
    unfold nms at this ⊢
    rw [List.map_cons, cnt_cons, sumC, sumC, this, cnt_cons]
    by_cases h : x = s.1
    · rw [if_pos h, if_pos h.symm]; omega
    · rw [if_neg h, if_neg (fun e => h e.symm)]; omega
theorem sumC_nil : ∀ xs : List Sh, sumC [] xs = 0
  | [] => rfl
  | s :: r => by rw [sumC, sumC_nil r]; rfl
theorem cnt_one : ∀ {l : List Int} {x : Int}, l.Nodup → x ∈ l → cnt l x = 1
  | [], _, _, h => by simp at h
  | y :: r, x, hn, h => by
    rw [List.nodup_cons] at hn
    rw [cnt_cons]
    by_cases e : y = x
    · subst e
      rw [if_pos rfl, cnt_none hn.1]
    · rw [if_neg e, cnt_one hn.2 ((List.mem_cons.1 h).resolve_left (fun e' => e e'.symm))]
theorem sumC_all {xs : List Sh} (hn : (nms xs).Nodup) : ∀ (l : List Int), (∀ a ∈ l, a ∈ nms xs) → sumC l xs = l.length
  | [], _ => sumC_nil xs
  | x :: l, h => by
    have h1 : cnt (nms xs) x = 1 := by
      exact cnt_one hn (h x (List.mem_cons_self ..))
    rw [sumC_cons, sumC_all hn l (fun a ha => h a (List.mem_cons_of_mem _ ha)), h1, List.length_cons]
theorem sumC_lin {t a b : List Int} {r : Nat} : ∀ {xs : List Sh}, (∀ s ∈ xs, cnt t s.1 = r * cnt a s.1 + cnt b s.1) → sumC t xs = r * sumC a xs + sumC b xs
  | [], _ => by simp [sumC]
  | s :: q, h => by
    have h1 := sumC_lin (xs := q) fun y hy => h y (List.mem_cons_of_mem _ hy)
    rw [sumC, sumC, sumC, h1, h s (List.mem_cons_self ..), Nat.mul_add]
    omega
theorem free_cnt : ∀ v : List Int, free v = cnt v 0
  | [] => rfl
  | x :: r => by rw [free_cons, cnt_cons, free_cnt r]

/-- What the table of shares keeps to. -/
theorem table_fair {xs : List Sh} (h : sf xs = 0) (hne : expand xs ≠ []) : free (fillT xs) = 0 ∧ sumC (fillT xs) xs = 31 ∧
    ∀ s ∈ xs, (31 / (expand xs).length) * s.2.toNat ≤ cnt (fillT xs) s.1 ∧ cnt (fillT xs) s.1 ≤ (31 / (expand xs).length + 1) * s.2.toNat := by
  have hok := (sf_ok h).2
  have hnd := sf_nodup h
  have hpos := List.length_pos_iff.2 hne
  obtain ⟨r, j, h1, h2, h3, h4⟩ := fill_fair hne (expand_ne hok) 32 zeros rfl (by decide)
  have h2 : 31 = r * (expand xs).length + j := h2
  have hc : ∀ s ∈ xs, cnt (fillT xs) s.1 = r * cnt (expand xs) s.1 + cnt ((expand xs).take j) s.1 := fun s hs => by
    have hs1 := (hok s hs).1
    have h0 : s.1 ≠ 0 := by unfold isN at hs1; omega
    have := h4 s.1 h0
    have hz : cnt zeros s.1 = 0 := by
      unfold zeros
      rw [cnt_rep, if_neg (fun e => h0 e.symm)]
    rw [hz] at this
    unfold fillT
    omega
  refine ⟨h3, ?_, fun s hs => ?_⟩
  · rw [sumC_lin hc, sumC_all hnd _ (fun a ha => expand_mem ha), sumC_all hnd _ (fun a ha => expand_mem (List.mem_of_mem_take ha)), List.length_take]
    omega
  · have hw := cnt_expand hnd s hs
    have hle : cnt ((expand xs).take j) s.1 ≤ s.2.toNat := by
      rw [← hw]
      exact (List.take_sublist j _).count_le s.1
    rw [hc s hs, hw]
    by_cases hj : j < (expand xs).length
    · have hq : 31 / (expand xs).length = r := by
        rw [h2, Nat.mul_comm, Nat.mul_add_div hpos, Nat.div_eq_of_lt hj, Nat.add_zero]
      rw [hq, Nat.succ_mul]
      omega
    · have hj : j = (expand xs).length := by omega
      have hq : 31 / (expand xs).length = r + 1 := by
        rw [h2, hj, Nat.mul_comm, Nat.mul_add_div hpos, Nat.div_self hpos]
      have hd : cnt ((expand xs).take j) s.1 = s.2.toNat := by rw [hj, List.take_length, hw]
      have e1 : (r + 1) * s.2.toNat = r * s.2.toNat + s.2.toNat := Nat.succ_mul _ _
      have e2 : (r + 1 + 1) * s.2.toNat = (r + 1) * s.2.toNat + s.2.toNat := Nat.succ_mul _ _
      rw [hq, hd]
      omega

/-! FnTables -/
theorem mn_le : ∀ (l : List Int) (m : Int), mn m l ≤ m
  | [], m => Int.le_refl _
  | x :: r, m => by
    rw [mn]
    by_cases h : x < m
    · rw [if_pos h]; have := mn_le r x; omega
    · rw [if_neg h]; exact mn_le r m
theorem mx_ge : ∀ (l : List Int) (m : Int), m ≤ mx m l
  | [], m => Int.le_refl _
  | x :: r, m => by
    rw [mx]
    by_cases h : x > m
    · rw [if_pos h]; have := mx_ge r x; omega
    · rw [if_neg h]; exact mx_ge r m
theorem spr_at {t : List Int} {xs : List Sh} (ht : t.length = 31) (h : sf xs = 0) : ∃ lo hi, spr t xs = (0, lo, hi, (cnt t 0 : Int)) ∧ lo ≤ hi := by
  unfold spr
  rw [if_pos ht, if_pos h]
  split
  · exact ⟨0, 0, rfl, Int.le_refl _⟩
  · rename_i c r _
    exact ⟨_, _, rfl, Int.le_trans (mn_le r c) (mx_ge r c)⟩
theorem p3_0 (L : Nat) (a0 : List Int) (xs : List Sh) (hx : okL xs) (c : Int) (t : List Int) (k : List Sh → Int → List Int → Int → Option Bool) : ∀ (n i : Nat) (z : Int), 0 ≤ z → z ≤ 9 * i → i ≤ xs.length → xs.length < n + i →
    l3_0 m12 m13 mFill mFill mSpr mCnt L a0 n xs c t z i k = k xs c t (z + wsum (xs.drop i))
  | 0, i, z, _, _, h1, h2 => by omega
  | n + 1, i, z, hz0, hz, h1, h2 => by
    have hx8 := hx.1
    unfold l3_0
    by_cases hi : i < xs.length
    · have hd := drop_cons ((0, 0) : Int × Int) hi
      have hs : okS (xs.getD i (0, 0)) := hx.2 _ (by
        have : xs.getD i (0, 0) = xs[i] := by simp [List.getD, List.getElem?_eq_getElem hi]
        rw [this]; exact List.getElem_mem hi)
      have hs2 := hs.2
      rw [Int.toNat_natCast, dt (by omega), cond_true, dt (by omega), Bool.and_self, cond_true, wi (by omega) (by omega), wi (by omega) (by omega)]
      refine (p3_0 L a0 xs hx c t k n (i + 1) _ (by omega) (by omega) (by omega) (by omega)).trans ?_
      rw [hd, wsum]
      congr 1
      omega
    · rw [df (by omega), cond_false, List.drop_eq_nil_of_le (by omega), wsum, Int.add_zero]
theorem p3_2 (L : Nat) (a0 : List Int) (xs : List Sh) (hx : okL xs) (c : Int) (t : List Int) (ht : t.length = 31) (y0 y1 y2 y3 : Int) (q : Nat) (hq : q ≤ 31)
    (hf : ∀ s ∈ xs, q * s.2.toNat ≤ cnt t s.1 ∧ cnt t s.1 ≤ (q + 1) * s.2.toNat) (k : Int → Int → Int → Int → Int → Option Bool) : ∀ (n i : Nat) (z : Int), 0 ≤ z → z ≤ 31 * i → i ≤ xs.length → xs.length < n + i →
    l3_2 m12 m13 mFill mFill mSpr mCnt L a0 n xs c t y0 y1 y2 y3 q z i k = k y0 y1 y2 y3 (z + (sumC t (xs.drop i) : Nat))
  | 0, i, z, _, _, h1, h2 => by omega
  | n + 1, i, z, hz0, hz, h1, h2 => by
    have hx8 := hx.1
    unfold l3_2
    by_cases hi : i < xs.length
    · have hd := drop_cons ((0, 0) : Int × Int) hi
      have hm : xs.getD i (0, 0) ∈ xs := by
        have : xs.getD i (0, 0) = xs[i] := by simp [List.getD, List.getElem?_eq_getElem hi]
        rw [this]; exact List.getElem_mem hi
      have hs2 := (hx.2 _ hm).2
      have hfs := hf _ hm
      rw [Int.toNat_natCast, hd, sumC]
      generalize xs.getD i (0, 0) = s at hs2 hfs ⊢
      have hcl : cnt t s.1 ≤ 31 := by have := cnt_le t s.1; omega
      obtain ⟨w, hw⟩ := Int.eq_ofNat_of_zero_le hs2.1
      have hw9 : w ≤ 9 := by omega
      rw [hw, Int.toNat_natCast] at hfs
      have e1 : IntKind.wrap .i64 ((q : Int) * s.2) = ((q * w : Nat) : Int) := by
        rw [hw, ← Int.natCast_mul]
        have : q * w ≤ 31 * 9 := Nat.mul_le_mul hq hw9
        exact wi (by omega) (by omega)
      have e2 : IntKind.wrap .i64 (IntKind.wrap .i64 ((q : Int) + 1) * s.2) = (((q + 1) * w : Nat) : Int) := by
        rw [wi (show (-9223372036854775808 : Int) ≤ (q : Int) + 1 by omega) (by omega), hw, show (q : Int) + 1 = ((q + 1 : Nat) : Int) from rfl, ← Int.natCast_mul]
        have : (q + 1) * w ≤ 32 * 9 := Nat.mul_le_mul (by omega) hw9
        exact wi (by omega) (by omega)
      have em : mCnt (t, s.1) = some (cnt t s.1 : Int) := if_pos (by simp only; omega)
      have hlo : ¬ ((cnt t s.1 : Int) < ((q * w : Nat) : Int)) := by omega
      have hhi : ¬ ((cnt t s.1 : Int) > (((q + 1) * w : Nat) : Int)) := by omega
      rw [dt (show (i : Int) < (Nat.cast xs.length : Int) by omega), dt (show (0 : Int) ≤ (i : Int) by omega), Bool.and_self, cond_true, cond_true, em, tst_some, cond_true, e1, df hlo, cond_false, cond_true, e2, df hhi, cond_false, wi (by omega) (by omega), wi (by omega) (by omega)]
      refine (p3_2 L a0 xs hx c t ht y0 y1 y2 y3 q hq hf k n (i + 1) _ (by omega) (by omega) (by omega) (by omega)).trans ?_
      congr 1
      omega
    · rw [df (by omega), cond_false, List.drop_eq_nil_of_le (by omega), sumC]
      simp

def m3 (c : List Int) : Option Bool := if okB c = true then some true else none
theorem fillT_len (l : List Sh) : (fillT l).length = 31 := by unfold fillT; rw [fillF_len]; rfl
theorem sat3 : Sat prog cxT 3 (c3 m3) := s3 m12 m13 mFill mFill mSpr mCnt sat12 sat13 sat14 sat15 sat16 sat17 m3 fun x t h => by
  unfold m3 at h
  split at h
  · rename_i hb
    cases h
    refine ⟨33, ?_⟩
    unfold g3
    rw [show m12 x = some (decide ((x.length : Int) > 1048576)) from rfl, tst_some]
    by_cases hl : x.length > 1048576
    · rw [dt (by omega)]; rfl
    · rw [df (by omega), cond_false]
      obtain ⟨l, e13, h9⟩ := draw13 (c := x) ⟨hb, by omega⟩
      rw [e13, tst_some, show mFill l = some (fillR l) from rfl, tst_some]
      by_cases hs : sf l = 0
      · have er : fillR l = (0, fillT l) := if_pos hs
        have hok := sf_ok hs
        have ht := fillT_len l
        rw [er]
        simp only
        rw [show ((0 : Int) != 0) = false from rfl, cond_false]
        refine (p3_0 33 x l hok 0 (fillT l) _ 33 0 0 (by omega) (by omega) (by omega) (by omega)).trans ?_
        rw [List.drop_zero, Int.zero_add]
        obtain ⟨lo, hi, espr, hlh⟩ := spr_at ht hs
        rw [show mSpr (fillT l, l) = some (spr (fillT l) l) from rfl, tst_some, espr]
        simp only
        rw [show ((Nat.cast (fillT l).length : Int) != 31) = false by rw [ht]; rfl, cond_false, show ((0 : Int) != 0) = false from rfl, cond_false]
        by_cases hw : wsum l = 0
        · have he := (wsum_nil hok.2).1 hw
          have hz : cnt (fillT l) 0 = 31 := by
            unfold fillT
            rw [he]
            rfl
          rw [hw, hz]
          rfl
        · have hne : expand l ≠ [] := fun he => hw ((wsum_nil hok.2).2 he)
          obtain ⟨f1, f2, f3⟩ := table_fair hs hne
          have hz : cnt (fillT l) 0 = 0 := by rw [← free_cnt]; exact f1
          have hwl := expand_len hok.2
          have hpos := List.length_pos_iff.2 hne
          have hw9 := wsum_in hok.2
          have hok8 := hok.1
          have e0 : (wsum l == 0) = false := by simpa using hw
          have eq : IntKind.wrap .i64 (Int.tdiv 31 (wsum l)) = ((31 / (expand l).length : Nat) : Int) := by
            rw [Int.tdiv_eq_ediv_of_nonneg (by decide), ← hwl]
            have h31 : 31 / (expand l).length ≤ 31 := Nat.div_le_self _ _
            rw [show ((31 : Int) / ((expand l).length : Int)) = ((31 / (expand l).length : Nat) : Int) from rfl]
            obtain ⟨q, hq⟩ : ∃ q, 31 / (expand l).length = q := ⟨_, rfl⟩
            rw [hq] at h31 ⊢
            exact wi (by omega) (by omega)
          rw [hz, e0, eq]
          simp only [show (decide (((0 : Nat) : Int) > 0)) = false from rfl, beq_self_eq_true, Bool.not_true, cond_false]
          refine (p3_2 33 x l hok 0 (fillT l) ht 0 lo hi _ (31 / (expand l).length) (Nat.div_le_self _ _) f3 _ 33 0 0 (by omega) (by omega) (by omega) (by omega)).trans ?_
          rw [List.drop_zero, f2]
          rw [show ((0 : Int) + ((31 : Nat) : Int) == 31) = true from rfl, cond_true, dt hlh]
      · have er : fillR l = (sf l, []) := if_neg hs
        rw [er]
        simp only
        rw [bneT hs, cond_true, tst_some]
        simp
  · cases h
end Go.Proofs.Try
