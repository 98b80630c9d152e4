/- A part of the proof of FnOrders: L3Pt. -/
import Derived.Test.YteiaijhjndielaaL3Ps
import Derived.Test.YteiaijhjndielaaL3Pd
set_option maxHeartbeats 0
set_option linter.unusedVariables false
set_option linter.unusedSimpArgs false
namespace Go.Proofs.Try
open Go Go.VM Go.RowKit

/-! FnOrders -/
def m36 (c : List Int) : Option Int := if okC c then g36 m42 m61 m60 0 c else none
theorem sat36 : Sat prog cxT 36 (c36 m36) := s36 m42 m61 m60 sat42 sat61 sat60 m36 fun x t h => by
  unfold m36 at h
  split at h
  · exact ⟨0, h⟩
  · cases h
theorem drawName {c : List Int} (h : okC c) : ∃ a, m36 c = some a := by
  have e0 : m36 c = g36 m42 m61 m60 0 c := if_pos h
  rw [e0]
  have s0 := h.src
  obtain ⟨v, e1, _, _⟩ := nx s0 (by omega) 40
  have s1 := s0.add (k := 1) (by omega)
  obtain ⟨u, e2, _, _⟩ := nx s1 (by omega) 999
  have s2 := s1.add (k := 1) (by omega)
  obtain ⟨z, _, e3⟩ := pick s2 (by omega) [IntKind.wrap .i64 (1 + v), IntKind.wrap .i64 (1 + u), 999, 0, 1000, -1] (by simp) (by simp)
  simp only at e1 e2 e3
  refine ⟨z, ?_⟩
  unfold g36
  rw [show m42 c = some (c, 0) from rfl, tst_some]
  simp only
  rw [e1, tst_some]
  simp only
  rw [e2, tst_some]
  simp only
  rw [e3, tst_some]
def m12 (c : List Int) : Option Int := m36 c
theorem sat12 : Sat prog cxT 12 (c12 m12) := s12 m36 sat36 m12 fun x t h => by
  refine ⟨0, ?_⟩
  unfold g12
  rw [show m36 x = some t from h, tst_some]
def m15 (x : List Int × Int) : Option Bool := if x.1.length ≤ 1000000 then some (decide (x.2 ∈ x.1)) else none
theorem loop15 (L : Nat) (a : List Int) (v : Int) (ha : a.length ≤ 1000000) : ∀ (n i : Nat), i ≤ a.length → a.length < n + i → l15_0 L a v n (i : Int) (some false) = some (decide (v ∈ a.drop i))
  | 0, i, h1, h2 => by omega
  | n + 1, i, h1, h2 => by
    rw [l15_0]
    by_cases hi : i < a.length
    · rw [dt (show (i : Int) < (a.length : Int) by omega), dt (show (0 : Int) ≤ (i : Int) by omega)]
      simp only [Bool.and_self, cond_true, Int.toNat_natCast]
      rw [drop_cons 0 hi]
      have w : IntKind.wrap .i64 ((i : Int) + 1) = ((i + 1 : Nat) : Int) := by rw [wi (by omega) (by omega)]; omega
      rw [w, loop15 L a v ha n (i + 1) (by omega) (by omega)]
      by_cases hx : a.getD i 0 = v
      · have : (a.getD i 0 == v) = true := by simpa using hx
        rw [this, cond_true, dt (by rw [hx]; exact List.mem_cons_self ..)]
      · have : (a.getD i 0 == v) = false := by simpa using hx
        rw [this, cond_false]
        congr 1
        refine decide_eq_decide.2 ?_
        rw [List.mem_cons]
        exact ⟨.inr, fun h => h.resolve_left (fun e => hx e.symm)⟩
    · rw [df (by omega), cond_false, List.drop_eq_nil_of_le (by omega)]
      rfl
theorem sat15 : Sat prog cxT 15 (c15 m15) := s15 m15 fun x t h => by
  obtain ⟨a, v⟩ := x
  unfold m15 at h
  split at h
  · rename_i hc
    cases h
    refine ⟨a.length + 1, ?_⟩
    unfold g15
    have := loop15 (a.length + 1) a v hc (a.length + 1) 0 (by omega) (by omega)
    simpa using this
  · cases h

/-- Each number from 1 to 30 has one that undoes it. -/
theorem undo : ∀ s : Fin 31, s.val ≠ 0 → ∃ t : Fin 31, s.val * t.val % 31 = 1 := by decide +kernel
theorem each (a : Int) (x : Nat) (hx : x < 31) : (x : Int) ∈ upto (pl a) 31 := by
  have h1 := off_in a
  have h2 := skip_in a
  obtain ⟨o, ho⟩ := Int.eq_ofNat_of_zero_le h1.1
  obtain ⟨s, hs⟩ := Int.eq_ofNat_of_zero_le (show 0 ≤ skipI a by omega)
  obtain ⟨t, ht⟩ := undo ⟨s, by omega⟩ (by simp only; omega)
  simp only at ht
  obtain ⟨t, htl⟩ := t
  simp only at ht
  have hst : s * t = 31 * (s * t / 31) + 1 := by omega
  generalize hq : s * t / 31 = q at hst
  -- the round at which the place comes
  refine List.mem_map.2 ⟨((x + 31 - o) * t) % 31, List.mem_range.2 (Nat.mod_lt _ (by decide)), ?_⟩
  unfold pl
  rw [ho, hs]
  have e : (o + ((x + 31 - o) * t) % 31 * s) % 31 = x := by
    have h3 : ((x + 31 - o) * t) % 31 * s % 31 = (x + 31 - o) * (s * t) % 31 := by
      rw [Nat.mul_mod, Nat.mod_mod, ← Nat.mul_mod, Nat.mul_assoc, Nat.mul_comm t s]
    have h4 : (x + 31 - o) * (s * t) % 31 = (x + 31 - o) % 31 := by
      rw [Nat.mul_mod, ht, Nat.mul_one, Nat.mod_mod]
    rw [Nat.add_mod, h3, h4, ← Nat.add_mod]
    have : o + (x + 31 - o) = x + 31 := by omega
    rw [this, Nat.add_mod_right, Nat.mod_eq_of_lt hx]
  have e2 : ((o : Int) + ((((x + 31 - o) * t) % 31 : Nat) : Int) * (s : Int)) % 31 = ((((o + ((x + 31 - o) * t) % 31 * s) % 31 : Nat)) : Int) := by
    push_cast
    rfl
  rw [e2, e]
theorem loop3 (L : Nat) (c : List Int) (x y : Int) (l : List Int) (hl : l.length ≤ 1000000) (hm : ∀ i : Nat, i < 31 → (i : Int) ∈ l) (k : Int → Int → List Int → Option Bool) : ∀ (n i : Nat), i ≤ 31 → 31 < n + i →
    l3_0 m11 m12 mPerm mPerm m15 mOff mSkip L c n x y l (i : Int) k = k x y l
  | 0, i, h1, h2 => by omega
  | n + 1, i, h1, h2 => by
    rw [l3_0]
    by_cases hi : i < 31
    · have e : m15 (l, (i : Int)) = some true := (if_pos hl).trans (by rw [dt (hm i hi)])
      have w : IntKind.wrap .i64 ((i : Int) + 1) = ((i + 1 : Nat) : Int) := by rw [wi (by omega) (by omega)]; omega
      rw [dt (by omega), cond_true, e, tst_some, w]
      simp only [Bool.not_true, cond_false]
      exact loop3 L c x y l hl hm k n (i + 1) (by omega) (by omega)
    · rw [df (by omega), cond_false]
theorem get_upto (f : Nat → Int) {k i : Nat} (h : i < k) : (upto f k).getD i 0 = f i := by
  simp [upto, List.getD, h]
def m3 (c : List Int) : Option Bool := if okB c = true then some true else none
theorem sat3 : Sat prog cxT 3 (c3 m3) := s3 m11 m12 mPerm mPerm m15 mOff mSkip sat11 sat12 sat13 sat14 sat15 sat16 sat17 m3 fun x t h => by
  unfold m3 at h
  split at h
  · rename_i hc
    cases h
    refine ⟨32, ?_⟩
    unfold g3
    rw [show m11 x = some (decide ((x.length : Int) > 1048576)) from rfl, tst_some]
    by_cases hb : (x.length : Int) > 1048576
    · rw [dt hb]; rfl
    · rw [df hb, cond_false]
      obtain ⟨a, e12⟩ := drawName (c := x) ⟨hc, by omega⟩
      rw [show m12 x = some a from e12, tst_some]
      have ep : mPerm a = some (permI a) := rfl
      rw [ep, tst_some]
      by_cases hn : isN a
      · have e1 : permI a = (0, upto (pl a) 31) := if_pos hn
        rw [e1]
        simp only
        rw [bneF rfl, cond_false]
        have hL := upto_length (pl a) 31
        refine (loop3 32 x a _ (upto (pl a) 31) (by omega) (fun i hi => each a i hi) _ 32 0 (by omega) (by omega)).trans ?_
        have eo : mOff a = some (0, offI a) := by show some (if isN a then _ else _) = _; rw [if_pos hn]
        have es : mSkip a = some (0, skipI a) := by show some (if isN a then _ else _) = _; rw [if_pos hn]
        have g0 : (upto (pl a) 31).getD 0 0 = offI a := by
          rw [get_upto (pl a) (by omega)]
          have := off_in a
          show (offI a + ((0 : Nat) : Int) * skipI a) % 31 = _
          simp
          omega
        have g1 : (upto (pl a) 31).getD 1 0 = (offI a + skipI a) % 31 := by
          rw [get_upto (pl a) (by omega)]
          show (offI a + ((1 : Nat) : Int) * skipI a) % 31 = _
          simp
        have h1 := off_in a
        have h2 := skip_in a
        rw [eo, es]
        simp only [hL, tst_some, g0, g1]
        rw [wi (by omega) (by omega), Int.tmod_eq_emod_of_nonneg (by omega)]
        simp
      · have e1 : permI a = (3, []) := if_neg hn
        rw [e1]
        simp only
        rw [bneT (by decide), cond_true, tst_some]
        rfl
  · cases h
end Go.Proofs.Try
