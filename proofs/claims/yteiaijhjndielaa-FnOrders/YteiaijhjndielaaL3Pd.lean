/- A part of the proof of FnOrders: L3Pd. -/
import Derived.Test.YteiaijhjndielaaL3Fp
import Derived.Test.YteiaijhjndielaaL3Fb
import Derived.Test.YteiaijhjndielaaL3Pz
set_option maxHeartbeats 0
set_option linter.unusedVariables false
set_option linter.unusedSimpArgs false
namespace Go.Proofs.Try
open Go Go.VM Go.RowKit

/-! Draws -/
abbrev Src := List Int × Int
def okS (s : Src) (b : Int) : Prop := okB s.1 = true ∧ s.1.length ≤ 1048576 ∧ 0 ≤ s.2 ∧ s.2 ≤ b
instance (s : Src) (b : Int) : Decidable (okS s b) := by unfold okS; infer_instance
theorem okS.up {s : Src} {b c : Int} (h : okS s b) (hc : b ≤ c) : okS s c := ⟨h.1, h.2.1, h.2.2.1, Int.le_trans h.2.2.2 hc⟩
theorem okS.add {s : Src} {b : Int} (h : okS s b) {k : Int} (hk : 0 ≤ k) : okS (s.1, s.2 + k) (b + k) := by
  obtain ⟨h1, h2, h3, h4⟩ := h
  exact ⟨h1, h2, by simp only; omega, by simp only; omega⟩

def m42 (c : List Int) : Option (List Int × Int) := some (c, 0)
theorem sat42 : SatN prog cxT 42 (c42 m42).F := s42 m42 fun x t h => by
  cases h
  exact ⟨0, rfl⟩

def m61 (x : Src × Int) : Option (Int × List Int × Int) := if okS x.1 1000000000 then g61 0 x.1.1 x.1.2 x.2 else none
theorem sat61 : SatP prog cxT 61 (c61 m61).nres (c61 m61).F := s61 m61 fun x t h => by
  unfold m61 at h
  split at h
  · exact ⟨0, h⟩
  · cases h
theorem tmod_range (a : Int) {n : Int} (ha : 0 ≤ a) (hn : 1 ≤ n) : 0 ≤ a.tmod n ∧ a.tmod n < n := by
  rw [Int.tmod_eq_emod_of_nonneg ha]
  exact ⟨Int.emod_nonneg a (by omega), Int.emod_lt_of_pos a (by omega)⟩
theorem nx {s : Src} {b : Int} (h : okS s b) (hb : b ≤ 1000000000) (n : Int) : ∃ v, m61 (s, n) = some (v, s.1, s.2 + 1) ∧ (n < 1 → v = 0) ∧ (1 ≤ n → 0 ≤ v ∧ v < n) := by
  have hs := h.up hb
  obtain ⟨h1, h2, h3, h4⟩ := hs
  obtain ⟨c, at'⟩ := s
  simp only at h1 h2 h3 h4
  have e0 : m61 ((c, at'), n) = g61 0 c at' n := if_pos ⟨h1, h2, h3, h4⟩
  rw [e0]
  unfold g61
  have w1 : IntKind.wrap .i64 (at' + 1) = at' + 1 := wi (by omega) (by omega)
  have w2 : IntKind.wrap .i64 (at' + 1 - 1) = at' := by rw [Int.add_sub_cancel]; exact wi (by omega) (by omega)
  by_cases hn : n < 1
  · rw [dt hn, cond_true, w1]
    exact ⟨0, rfl, fun _ => rfl, fun h => by omega⟩
  · rw [df hn, cond_false]
    have hn0 : (n == 0) = false := by simp; omega
    by_cases hl : c.length = 0
    · have e1 : ((Nat.cast c.length : Int) == 0) = true := by simp [hl]
      simp only [e1, hn0, cond_true, cond_false, w1, w2]
      refine ⟨_, rfl, fun h => by omega, fun h => tmod_range _ ?_ h⟩
      rw [wi (by omega) (by omega)]
      omega
    · have e1 : ((Nat.cast c.length : Int) == 0) = false := by simp; intro h; simp [h] at hl
      have hk : (1 : Int) ≤ (c.length : Int) := by omega
      have r1 := tmod_range at' h3 hk
      have r2 := tmod_range (at' + 1) (by omega) hk
      have hq : 0 ≤ at'.tdiv (c.length : Int) ∧ at'.tdiv (c.length : Int) ≤ at' := by
        rw [Int.tdiv_eq_ediv_of_nonneg h3]
        exact ⟨Int.ediv_nonneg h3 (by omega), Int.ediv_le_self _ h3⟩
      have wq : IntKind.wrap .i64 (at'.tdiv (c.length : Int)) = at'.tdiv (c.length : Int) := wi (by omega) (by omega)
      have g1 := okB_get h1 (i := (at'.tmod (c.length : Int)).toNat) (by omega)
      have g2 := okB_get h1 (i := ((at' + 1).tmod (c.length : Int)).toNat) (by omega)
      have w3 : IntKind.wrap .i64 (at' + 1) = at' + 1 := w1
      simp only [e1, hn0, cond_false, w1, w2, dt r1.1, dt r1.2, dt r2.1, dt r2.2, Bool.and_self, cond_true, wq]
      generalize c.getD (at'.tmod (c.length : Int)).toNat 0 = x at g1 ⊢
      generalize c.getD ((at' + 1).tmod (c.length : Int)).toNat 0 = y at g2 ⊢
      generalize at'.tdiv (c.length : Int) = q at hq ⊢
      by_cases hb2 : n > 200
      · rw [dt hb2, cond_true]
        refine ⟨_, rfl, fun h => by omega, fun h => tmod_range _ ?_ h⟩
        simp (disch := omega) only [wi]
        omega
      · rw [df hb2, cond_false]
        refine ⟨_, rfl, fun h => by omega, fun h => tmod_range _ ?_ h⟩
        simp (disch := omega) only [wi]
        omega

def m60 (x : Src × List Int) : Option (Int × List Int × Int) := if okS x.1 1000000000 ∧ 1 ≤ x.2.length ∧ x.2.length ≤ 1000 then g60 m61 0 x.1.1 x.1.2 x.2 else none
theorem sat60 : SatP prog cxT 60 (c60 m60).nres (c60 m60).F := s60 m61 sat61 m60 fun x t h => by
  unfold m60 at h
  split at h
  · exact ⟨0, h⟩
  · cases h
theorem pick {s : Src} {b : Int} (h : okS s b) (hb : b ≤ 1000000000) (l : List Int) (h1 : 1 ≤ l.length) (h2 : l.length ≤ 1000) : ∃ v ∈ l, m60 (s, l) = some (v, s.1, s.2 + 1) := by
  obtain ⟨v, e, _, hv⟩ := nx h hb (l.length : Int)
  have hv := hv (by omega)
  have e0 : m60 (s, l) = g60 m61 0 s.1 s.2 l := if_pos ⟨h.up hb, h1, h2⟩
  refine ⟨l.getD v.toNat 0, ?_, ?_⟩
  · have : v.toNat < l.length := by omega
    simp only [List.getD, List.getElem?_eq_getElem this, Option.getD_some]
    exact List.getElem_mem this
  · rw [e0]
    unfold g60
    rw [e, tst_some, dt hv.1, dt hv.2]
    rfl

def m71 (x : Src × Int) : Option (List Int × List Int × Int) := if okS x.1 900000000 ∧ x.2 ≤ 1000 then g71 m61 m60 1001 x.1.1 x.1.2 x.2 else none
theorem sat71 : SatP prog cxT 71 (c71 m71).nres (c71 m71).F := s71 m61 m60 sat61 sat60 m71 fun x t h => by
  unfold m71 at h
  split at h
  · exact ⟨_, h⟩
  · cases h
theorem some_loop (c : List Int) (a0 n0 : Int) (k : List Int → Int → List Int → Option (List Int × List Int × Int)) : ∀ (f : Nat) (at' n : Int) (o : List Int), okS (c, at') (900000000 + 3 * (1000 - n)) → n ≤ 1000 → (n < f ∧ 0 < f) → okB o = true → (o.length : Int) ≤ 1000 - n →
    ∃ at2 o2, l71_0 m61 m60 1001 c a0 n0 f c at' n o k = k c at2 o2 ∧ okB o2 = true ∧ (0 ≤ n → (o2.length : Int) = o.length + n) ∧ (n < 0 → o2 = o) ∧ at' ≤ at2 ∧ at2 ≤ at' + 3 * max n 0
  | 0, at', n, o, hs, hn, hf, ho, hl => by omega
  | f + 1, at', n, o, hs, hn, hf, ho, hl => by
    by_cases hz : n > 0
    · obtain ⟨v1, e1, _, r1⟩ := nx hs (by omega) 256
      have s1 := hs.add (k := 1) (by omega)
      obtain ⟨v2, e2, _, r2⟩ := nx s1 (by omega) 256
      have s2 := s1.add (k := 1) (by omega)
      obtain ⟨v3, m3, e3⟩ := pick s2 (by omega) [v1, v2, 0, 255] (by simp) (by simp)
      have s3 := s2.add (k := 1) (by omega)
      simp only at e1 e2 e3 s1 s2 s3
      have hv : 0 ≤ v3 ∧ v3 ≤ 255 := by
        have := r1 (by omega)
        have := r2 (by omega)
        simp only [List.mem_cons, List.not_mem_nil, or_false] at m3
        omega
      obtain ⟨at2, o2, q1, q2, q3, q4, q5, q6⟩ := some_loop c a0 n0 k f (at' + 1 + 1 + 1) (n - 1) (o ++ [v3]) (s3.up (by omega)) (by omega) (by omega) (by
        unfold okB at ho ⊢
        rw [List.all_append, ho]
        simp [hv]) (by simp; omega)
      refine ⟨at2, o2, ?_, q2, fun h => by have := q3 (by omega); simp at this; omega, fun h => by omega, by omega, by omega⟩
      rw [l71_0, dt hz, cond_true, e1, tst_some, e2, tst_some, e3, tst_some]
      simp only [wb hv.1 hv.2, wi (show (-9223372036854775808 : Int) ≤ n - 1 by omega) (by omega)]
      rw [dt (by simp; omega), cond_true]
      exact q1
    · refine ⟨at', o, ?_, ho, fun h => by omega, fun _ => rfl, by omega, by omega⟩
      rw [l71_0, df hz, cond_false]
theorem some71 {s : Src} {b : Int} (h : okS s b) (hb : b ≤ 900000000) (n : Int) (hn : n ≤ 1000) : ∃ at2 o, m71 (s, n) = some (o, s.1, at2) ∧ okB o = true ∧ (0 ≤ n → (o.length : Int) = n) ∧ (n < 0 → o = []) ∧ s.2 ≤ at2 ∧ at2 ≤ s.2 + 3000 := by
  have e0 : m71 (s, n) = g71 m61 m60 1001 s.1 s.2 n := if_pos ⟨h.up hb, hn⟩
  obtain ⟨at2, o2, q1, q2, q3, q4, q5, q6⟩ := some_loop s.1 s.2 n (fun w0 w1 w5 => some (w5, w0, w1)) 1001 s.2 n [] (h.up (by omega)) hn (by omega) rfl (by simp; omega)
  refine ⟨at2, o2, ?_, q2, fun h => by have := q3 h; simpa using this, q4, q5, by omega⟩
  rw [e0]
  exact q1

def m70 (s : Src) : Option (Int × List Int × Int) := if okS s 800000000 then g70 m61 m60 0 s.1 s.2 else none
theorem sat70 : SatP prog cxT 70 (c70 m70).nres (c70 m70).F := s70 m61 m60 sat61 sat60 m70 fun x t h => by
  unfold m70 at h
  split at h
  · exact ⟨0, h⟩
  · cases h
theorem addr {s : Src} {b : Int} (h : okS s b) (hb : b ≤ 800000000) : ∃ v, m70 s = some (v, s.1, s.2 + 1 + 1 + 1) := by
  have e0 : m70 s = g70 m61 m60 0 s.1 s.2 := if_pos (h.up hb)
  obtain ⟨v1, e1, _, r1⟩ := nx h (by omega) 6
  have s1 := h.add (k := 1) (by omega)
  obtain ⟨v2, e2, _, r2⟩ := nx s1 (by omega) 6
  have s2 := s1.add (k := 1) (by omega)
  simp only at e1 e2 s1 s2
  obtain ⟨v3, m3, e3⟩ := pick s2 (by omega) [IntKind.wrap .i64 (167772160 + v1), IntKind.wrap .i64 (167772160 + v2), 5, 0, 4294967295] (by simp) (by simp)
  simp only at e3
  refine ⟨v3, ?_⟩
  rw [e0]
  unfold g70
  rw [e1, tst_some, e2, tst_some, e3, tst_some]
def m64 (s : Src) : Option (Int × Int × Int × Int × Int × List Int × List Int × Int) := if okS s 700000000 then g64 m70 m60 m61 m71 0 s.1 s.2 else none
theorem sat64 : SatP prog cxT 64 (c64 m64).nres (c64 m64).F := s64 m70 m60 m61 m71 sat70 sat60 sat61 sat71 m64 fun x t h => by
  unfold m64 at h
  split at h
  · exact ⟨0, h⟩
  · cases h
theorem pkt {s : Src} {b : Int} (h : okS s b) (hb : b ≤ 700000000) : ∃ a b c d e l at2, m64 s = some (a, b, c, d, e, l, s.1, at2) ∧ okB l = true ∧ l.length ≤ 9 ∧ s.2 ≤ at2 ∧ at2 ≤ s.2 + 4000 := by
  have e0 : m64 s = g64 m70 m60 m61 m71 0 s.1 s.2 := if_pos (h.up hb)
  obtain ⟨a, e1⟩ := addr h (by omega)
  have s1 := h.add (k := 3) (by omega)
  have q1 : s.2 + 1 + 1 + 1 = s.2 + 3 := by omega
  rw [q1] at e1
  obtain ⟨b', e2⟩ := addr s1 (by omega)
  have s2 := s1.add (k := 3) (by omega)
  have q2 : s.2 + 3 + 1 + 1 + 1 = s.2 + 3 + 3 := by omega
  simp only at e1 e2 s1 s2
  rw [q2] at e2
  obtain ⟨c, _, e3⟩ := pick s2 (by omega) [6, 17] (by simp) (by simp)
  have s3 := s2.add (k := 1) (by omega)
  obtain ⟨d, e4, _, r4⟩ := nx s3 (by omega) 30
  have s4 := s3.add (k := 1) (by omega)
  obtain ⟨f, e5, _, r5⟩ := nx s4 (by omega) 65536
  have s5 := s4.add (k := 1) (by omega)
  obtain ⟨g, _, e6⟩ := pick s5 (by omega) [80, 443, f] (by simp) (by simp)
  have s6 := s5.add (k := 1) (by omega)
  obtain ⟨n, e7, _, r7⟩ := nx s6 (by omega) 9
  have s7 := s6.add (k := 1) (by omega)
  have r7 := r7 (by omega)
  obtain ⟨at2, l, e8, k1, k2, _, k3, k4⟩ := some71 s7 (by omega) n (by omega)
  simp only at e3 e4 e5 e6 e7 e8 s3 s4 s5 s6 s7 k3 k4
  refine ⟨a, b', c, IntKind.wrap .i64 (1000 + d), g, l, at2, ?_, k1, by have := k2 r7.1; omega, by omega, by omega⟩
  rw [e0]
  unfold g64
  rw [e1, tst_some, e2, tst_some, e3, tst_some, e4, tst_some, e5, tst_some, e6, tst_some, e7, tst_some, e8, tst_some]

def m41 (s : Src) : Option (Int × Int × Int × Int × Int × List Int × List Int × Int) := if okS s 600000000 then g41 m64 m61 m60 0 s.1 s.2 else none
theorem sat41 : SatP prog cxT 41 (c41 m41).nres (c41 m41).F := s41 m64 m61 m60 sat64 sat61 sat60 m41 fun x t h => by
  unfold m41 at h
  split at h
  · exact ⟨0, h⟩
  · cases h
theorem bent {s : Src} {b : Int} (h : okS s b) (hb : b ≤ 600000000) : ∃ a b c d e l at2, m41 s = some (a, b, c, d, e, l, s.1, at2) ∧ okB l = true ∧ l.length ≤ 300 := by
  have e0 : m41 s = g41 m64 m61 m60 0 s.1 s.2 := if_pos (h.up hb)
  obtain ⟨a, b', c, d, e, l, at2, e1, k1, k2, k3, k4⟩ := pkt h (by omega)
  have s1 : okS (s.1, at2) 650000000 := ⟨h.1, h.2.1, by have := h.2.2.1; simp only; omega, by have := h.2.2.2; simp only; omega⟩
  obtain ⟨n, e2, _, _⟩ := nx s1 (by omega) 18
  have s2 := s1.add (k := 1) (by omega)
  simp only at e2 s2
  rw [e0]
  unfold g41
  rw [e1, tst_some, e2, tst_some]
  simp only
  by_cases h0 : n = 0
  · obtain ⟨v, _, ev⟩ := pick s2 (by omega) [-1, 4294967296] (by simp) (by simp)
    simp only at ev
    rw [show (n == 0) = true by simp [h0], cond_true, ev, tst_some]
    exact ⟨_, _, _, _, _, _, _, rfl, k1, by omega⟩
  rw [show (n == 0) = false by simp [h0], cond_false]
  by_cases h1 : n = 1
  · obtain ⟨v, _, ev⟩ := pick s2 (by omega) [-1, 4294967296] (by simp) (by simp)
    simp only at ev
    rw [show (n == 1) = true by simp [h1], cond_true, ev, tst_some]
    exact ⟨_, _, _, _, _, _, _, rfl, k1, by omega⟩
  rw [show (n == 1) = false by simp [h1], cond_false]
  by_cases h2 : n = 2
  · obtain ⟨v, _, ev⟩ := pick s2 (by omega) [0, 1, 47, -1] (by simp) (by simp)
    simp only at ev
    rw [show (n == 2) = true by simp [h2], cond_true, ev, tst_some]
    exact ⟨_, _, _, _, _, _, _, rfl, k1, by omega⟩
  rw [show (n == 2) = false by simp [h2], cond_false]
  by_cases h3 : n = 3
  · obtain ⟨v, _, ev⟩ := pick s2 (by omega) [-1, 65536, 65535] (by simp) (by simp)
    simp only at ev
    rw [show (n == 3) = true by simp [h3], cond_true, ev, tst_some]
    exact ⟨_, _, _, _, _, _, _, rfl, k1, by omega⟩
  rw [show (n == 3) = false by simp [h3], cond_false]
  by_cases h4 : n = 4
  · obtain ⟨v, ev, _, rv⟩ := nx s2 (by omega) 2
    have rv := rv (by omega)
    simp only at ev
    have w : IntKind.wrap .i64 (200 + v) = 200 + v := wi (by omega) (by omega)
    rw [show (n == 4) = true by simp [h4], cond_true, ev, tst_some]
    simp only [w]
    rw [dt (show (0 : Int) ≤ 200 + v by omega), dt (Int.le_refl (200 + v)), dt (show 200 + v ≤ (1000000000 : Int) by omega)]
    refine ⟨_, _, _, _, _, _, _, rfl, ?_, by simp; omega⟩
    unfold okB
    simp
  · rw [show (n == 4) = false by simp [h4], cond_false]
    exact ⟨_, _, _, _, _, _, _, rfl, k1, by omega⟩

def okC (c : List Int) : Prop := okB c = true ∧ c.length ≤ 1048576
instance (c : List Int) : Decidable (okC c) := by unfold okC; infer_instance
theorem okC.src {c : List Int} (h : okC c) : okS (c, 0) 0 := ⟨h.1, h.2, Int.le_refl _, Int.le_refl _⟩
def m18 (c : List Int) : Option (Int × Int × Int × Int × Int × List Int) := if okC c then g18 m42 m41 0 c else none
theorem sat18 : Sat prog cxT 18 (c18 m18) := s18 m42 m41 sat42 sat41 m18 fun x t h => by
  unfold m18 at h
  split at h
  · exact ⟨0, h⟩
  · cases h
theorem drawFlow {c : List Int} (h : okC c) : ∃ a b d e f l, m18 c = some (a, b, d, e, f, l) ∧ okB l = true ∧ l.length ≤ 300 := by
  have e0 : m18 c = g18 m42 m41 0 c := if_pos h
  obtain ⟨a, b, d, e, f, l, at2, e1, k1, k2⟩ := bent h.src (by omega)
  refine ⟨a, b, d, e, f, l, ?_, k1, k2⟩
  rw [e0]
  unfold g18
  rw [show m42 c = some (c, 0) from rfl, tst_some]
  simp only
  rw [e1, tst_some]
def m11 (c : List Int) : Option Bool := some (decide ((c.length : Int) > 1048576))
theorem sat11 : Sat prog cxT 11 (c11 m11) := s11 m11 fun x t h => by
  cases h
  exact ⟨0, rfl⟩
end Go.Proofs.Try
