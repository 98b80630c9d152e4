/- A part of the proof of FnFrames: L1Pg. -/
import Derived.Test.YtggncacoajjjhaaL1Pf
import Derived.Test.YtggncacoajjjhaaL1Fq
set_option maxHeartbeats 0
set_option linter.unusedVariables false
set_option linter.unusedSimpArgs false
namespace Go.Proofs.Try
open Go Go.VM Go.RowKit

/-! Frames, read -/
def hd2 (a : List Int) : Int := num (a.take 2) 0
/-- What stands in the frame that 'a' begins with. -/
def first (a : List Int) : Option (List Int) :=
  if 4 ≤ a.length ∧ num (a.take 2) 0 ≤ 250 ∧ 4 + num (a.take 2) 0 ≤ a.length ∧ sumW ((a.drop 4).take (num (a.take 2) 0).toNat) = num ((a.drop 2).take 2) 0 then some ((a.drop 4).take (num (a.take 2) 0).toNat) else none
def m53 (a : List Int) : Option (List Int × Bool) := if okB a = true ∧ a.length ≤ 1000000 then g53 m16 m18 0 a else none
theorem sat53 : Sat prog cxT 53 (c53 m53) := s53 m16 m18 sat16 sat18 m53 fun x t h => by
  unfold m53 at h
  split at h
  · exact ⟨0, h⟩
  · cases h
theorem okB_drop {a : List Int} (h : okB a = true) (n : Nat) : okB (a.drop n) = true := okB_sub h fun x hx => List.mem_of_mem_drop hx
theorem okB_take {a : List Int} (h : okB a = true) (n : Nat) : okB (a.take n) = true := okB_sub h fun x hx => List.mem_of_mem_take hx
theorem iv2 : iv 2 = true := rfl
theorem m16_at {a : List Int} (h : okB a = true) (hl : a.length ≤ 1000000) (p : Int) : m16 (a, p, 2) = some (takeN a p 2) := if_pos ⟨h, by show a.length ≤ 1000000000000; omega, rfl⟩
theorem num2_in {a : List Int} (h : okB a = true) (hl : a.length = 2) : 0 ≤ num a 0 ∧ num a 0 ≤ 65535 := by
  have := num_bound a 0 0 h (by omega) (by decide)
  rw [hl] at this
  have h2 : (256 : Int) ^ (0 + 2) = 65536 := by decide
  rw [h2] at this
  omega
theorem m53_first {a : List Int} (h : okB a = true) (hl : a.length ≤ 1000000) : (∃ i, first a = some i ∧ m53 a = some (i, true)) ∨ (first a = none ∧ ∃ i, m53 a = some (i, false)) := by
  have e0 : m53 a = g53 m16 m18 0 a := if_pos ⟨h, hl⟩
  rw [e0]
  unfold g53
  rw [m16_at h hl, tst_some, m16_at h hl, tst_some]
  by_cases h4 : 4 ≤ a.length
  · have t1 : takeN a 0 2 = (0, num (a.take 2) 0) := takeN_in ⟨by omega, by omega, by omega, by omega⟩
    have t2 : takeN a 2 2 = (0, num ((a.drop 2).take 2) 0) := takeN_in ⟨by omega, by omega, by omega, by omega⟩
    have b1 := num2_in (okB_take h 2) (by simp; omega)
    rw [t1, t2]
    simp only
    rw [bneF rfl, cond_false, cond_false]
    by_cases h5 : num (a.take 2) 0 ≤ 250
    · rw [df (by omega), cond_false]
      have w : IntKind.wrap .i64 (4 + num (a.take 2) 0) = 4 + num (a.take 2) 0 := wi (by omega) (by omega)
      rw [w]
      by_cases h6 : 4 + num (a.take 2) 0 ≤ a.length
      · rw [df (by omega), cond_false, dt (by omega), dt (by omega), dt (by omega)]
        have e1 : List.drop (Int.toNat 4) (List.take (4 + num (a.take 2) 0).toNat a) = (a.drop 4).take (num (a.take 2) 0).toNat := by
          rw [show (4 + num (a.take 2) 0).toNat = 4 + (num (a.take 2) 0).toNat by omega]
          show List.drop 4 _ = _
          rw [List.drop_take]
          congr 1
          omega
        rw [e1]
        have e18 : m18 ((a.drop 4).take (num (a.take 2) 0).toNat) = some (sumW ((a.drop 4).take (num (a.take 2) 0).toNat)) := if_pos ⟨okB_take (okB_drop h 4) _, by simp; omega⟩
        rw [Bool.and_self, Bool.and_self, cond_true, e18, tst_some]
        by_cases h7 : sumW ((a.drop 4).take (num (a.take 2) 0).toNat) = num ((a.drop 2).take 2) 0
        · refine .inl ⟨_, if_pos ⟨h4, h5, h6, h7⟩, ?_⟩
          rw [h7]
          simp
        · refine .inr ⟨if_neg (fun hh => h7 hh.2.2.2), (a.drop 4).take (num (a.take 2) 0).toNat, ?_⟩
          rw [show (sumW ((a.drop 4).take (num (a.take 2) 0).toNat) == num ((a.drop 2).take 2) 0) = false by simpa using h7]
      · rw [dt (by omega), cond_true]
        exact .inr ⟨if_neg (fun hh => h6 hh.2.2.1), _, rfl⟩
    · rw [dt (by omega), cond_true]
      exact .inr ⟨if_neg (fun hh => h5 hh.2.1), _, rfl⟩
  · have t2 : takeN a 2 2 = (3, 0) := takeN_out (fun hh => by omega)
    refine .inr ⟨if_neg (fun hh => h4 hh.1), [], ?_⟩
    rw [t2]
    simp only
    by_cases hx : (takeN a 0 2).1 = 0
    · rw [bneF hx, cond_false, bneT (by decide), cond_true]
    · rw [bneT hx, cond_true]
theorem first_len {a i : List Int} (h : first a = some i) : 4 + i.length ≤ a.length := by
  unfold first at h
  split at h
  · rename_i hc
    simp only [Option.some.injEq] at h
    subst h
    simp
    omega
  · cases h
def tf : Nat → List Int → List (List Int) × Nat
  | 0, _ => ([], 0)
  | n + 1, a => match first a with
    | some i => (i :: (tf n (a.drop (4 + i.length))).1, 4 + i.length + (tf n (a.drop (4 + i.length))).2)
    | none => ([], 0)
theorem tf_more : ∀ (n m : Nat) (a : List Int), a.length < n → a.length < m → tf n a = tf m a
  | 0, _, a, h, _ => by omega
  | _, 0, a, _, h => by omega
  | n + 1, m + 1, a, h1, h2 => by
    unfold tf
    cases hf : first a with
    | none => rfl
    | some i =>
      have := first_len hf
      simp only
      rw [tf_more n m (a.drop (4 + i.length)) (by simp; omega) (by simp; omega)]
theorem m51_one (i : List Int) (h : i.length ≤ 1000000) : m51 [i] = some i := (if_pos ⟨by simp, by simpa using (by omega : i.length ≤ 1000000000)⟩).trans (by simp)
theorem loop25 (L : Nat) (a : List Int) (h : okB a = true) (hl : a.length ≤ 1000) (x y : Int) (z : List (List Int)) (k : Option (Int × Int × List (List Int))) : ∀ (n used : Nat) (o : List (List Int)), used ≤ a.length → a.length - used < n → o.length ≤ used →
    l25_0 m53 m51 L a n x y z o (used : Int) k = some (0, ((used + (tf n (a.drop used)).2 : Nat) : Int), o ++ (tf n (a.drop used)).1)
  | 0, used, o, h1, h2, h3 => by omega
  | n + 1, used, o, h1, h2, h3 => by
    rw [l25_0, dt (show (0 : Int) ≤ (used : Int) by omega), dt (show (used : Int) ≤ (a.length : Int) by omega), dt (Int.le_refl _), Bool.and_self, Bool.and_self, cond_true]
    have ed : List.drop (Int.toNat (used : Int)) (List.take (Int.toNat (Nat.cast a.length : Int)) a) = a.drop used := by simp
    rw [ed]
    unfold tf
    rcases m53_first (okB_drop h used) (by simp; omega) with ⟨i, f1, f2⟩ | ⟨f1, i, f2⟩
    · rw [f2, tst_some, f1]
      have hi := first_len f1
      simp only [List.length_drop] at hi
      simp only [Bool.not_true, cond_false]
      rw [m51_one i (by omega), tst_some, dt (by simp; omega), cond_true]
      have w : IntKind.wrap .i64 ((used : Int) + IntKind.wrap .i64 (4 + (Nat.cast i.length : Int))) = ((used + (4 + i.length) : Nat) : Int) := by
        rw [wi (x := 4 + (Nat.cast i.length : Int)) (by omega) (by omega), wi (by omega) (by omega)]; omega
      rw [w, loop25 L a h hl x y z k n (used + (4 + i.length)) (o ++ [i]) (by omega) (by omega) (by simp; omega)]
      rw [List.drop_drop]
      simp only [List.append_assoc, List.singleton_append]
      congr 3
      omega
    · rw [f2, tst_some, f1]
      simp
def m25 (a : List Int) : Option (Int × Int × List (List Int)) := if okB a = true ∧ a.length ≤ 600 then some (0, ((tf (a.length + 1) a).2 : Int), (tf (a.length + 1) a).1) else none
theorem sat25 : Sat prog cxT 25 (c25 m25) := s25 m53 m51 sat53 sat51 m25 fun x t h => by
  unfold m25 at h
  split at h
  · rename_i hc
    cases h
    refine ⟨x.length + 1, ?_⟩
    unfold g25
    rw [df (by omega), cond_false]
    have := loop25 (x.length + 1) x hc.1 (by omega) 0 0 [] none (x.length + 1) 0 [] (by omega) (by omega) (by simp)
    simpa using this
  · cases h

/-! Frames, one behind the other -/
theorem num2 (n : Int) (h0 : 0 ≤ n) (h1 : n ≤ 65535) : num (numB n 2) 0 = n := num_numB (n := n) (z := 2) ⟨by decide, by decide, h0, by
  have : (256 : Int) ^ (Int.toNat 2) - 1 = 65535 := by decide
  rw [this]; exact h1⟩
theorem frm_take2 (d r : List Int) : (frm d ++ r).take 2 = numB d.length 2 := by
  unfold frm
  have := numB_len (d.length : Int) 2
  rw [List.append_assoc, List.append_assoc, List.take_append_of_le_length (by omega), List.take_of_length_le (by omega)]
theorem frm_drop2 (d r : List Int) : ((frm d ++ r).drop 2).take 2 = numB (sumW d) 2 := by
  unfold frm
  have h1 := numB_len (d.length : Int) 2
  have h2 := numB_len (sumW d) 2
  rw [List.append_assoc, List.append_assoc, List.drop_append_of_le_length (by omega), List.drop_eq_nil_of_le (by omega), List.nil_append, List.take_append_of_le_length (by omega), List.take_of_length_le (by omega)]
theorem frm_drop4 (d r : List Int) : (frm d ++ r).drop 4 = d ++ r := by
  unfold frm
  have h1 := numB_len (d.length : Int) 2
  have h2 := numB_len (sumW d) 2
  rw [List.append_assoc, List.drop_append_of_le_length (by simp; omega), List.drop_eq_nil_of_le (by simp; omega), List.nil_append]
theorem frm_ok {d : List Int} (h : okB d = true) : okB (frm d) = true := okB_app (okB_app (numB_ok _ _) (numB_ok _ _)) h
theorem first_all {d r : List Int} (h : okB d = true) (hl : d.length ≤ 250) : first (frm d ++ r) = some d := by
  have hs := sumW_in h
  have hn := num2 (d.length : Int) (by omega) (by omega)
  have hd : ((frm d ++ r).drop 4).take (num ((frm d ++ r).take 2) 0).toNat = d := by
    rw [frm_take2, hn, frm_drop4]
    simp
  unfold first
  rw [hd, frm_drop2, frm_take2, hn, num2 _ hs.1 hs.2]
  rw [if_pos ⟨by simp [frm_len]; omega, by omega, by simp [frm_len]; omega, rfl⟩]
theorem first_cut {d r : List Int} (h : okB d = true) (hl : d.length ≤ 250) {c : Nat} (hc : c < 4 + d.length) : first ((frm d ++ r).take c) = none := by
  unfold first
  refine if_neg fun hh => ?_
  obtain ⟨h1, h2, h3, h4⟩ := hh
  simp only [List.length_take] at h1 h3
  have e : ((frm d ++ r).take c).take 2 = (frm d ++ r).take 2 := by
    rw [List.take_take]
    congr 1
    omega
  rw [e, frm_take2, num2 (d.length : Int) (by omega) (by omega)] at h3
  omega
def cat (ds : List (List Int)) : List Int := ds.flatMap frm
theorem tf_cut : ∀ (ds : List (List Int)) (c n : Nat), (∀ d ∈ ds, okB d = true ∧ d.length ≤ 250) → (cat ds).length < n → ∃ k, (tf n ((cat ds).take c)).1 = ds.take k ∧ (tf n ((cat ds).take c)).2 ≤ c ∧ ((cat ds).length ≤ c → (tf n ((cat ds).take c)).1 = ds ∧ (tf n ((cat ds).take c)).2 = (cat ds).length)
  | ds, c, 0, _, hn => by omega
  | [], c, n + 1, _, _ => by
    have e : first ((cat []).take c) = none := by
      unfold first
      refine if_neg fun hh => ?_
      have := hh.1
      simp [cat] at this
    refine ⟨0, ?_, ?_, fun _ => ?_⟩ <;> (unfold tf; rw [e]) <;> simp [cat]
  | d :: ds, c, n + 1, hd, hn => by
    have hd0 := hd d (List.mem_cons_self ..)
    have ec : cat (d :: ds) = frm d ++ cat ds := by simp [cat]
    have hlen := frm_len d
    rw [ec] at hn ⊢
    rw [List.length_append] at hn
    by_cases h : 4 + d.length ≤ c
    · have et : (frm d ++ cat ds).take c = frm d ++ (cat ds).take (c - (4 + d.length)) := by
        rw [List.take_append, List.take_of_length_le (by omega), hlen]
      obtain ⟨k, k1, k2, k3⟩ := tf_cut ds (c - (4 + d.length)) n (fun x hx => hd x (List.mem_cons_of_mem _ hx)) (by omega)
      have ef : tf (n + 1) ((frm d ++ cat ds).take c) = (d :: (tf n ((cat ds).take (c - (4 + d.length)))).1, 4 + d.length + (tf n ((cat ds).take (c - (4 + d.length)))).2) := by
        rw [et]
        unfold tf
        rw [first_all hd0.1 hd0.2]
        simp only
        rw [show (frm d ++ List.take (c - (4 + d.length)) (cat ds)).drop (4 + d.length) = List.take (c - (4 + d.length)) (cat ds) by
          rw [← hlen, List.drop_left]]
        cases n <;> rfl
      rw [ef]
      refine ⟨k + 1, by rw [k1]; rfl, by simp only; omega, fun hc => ?_⟩
      rw [List.length_append] at hc
      obtain ⟨q1, q2⟩ := k3 (by omega)
      rw [q1, q2, List.length_append]
      exact ⟨rfl, by simp only; omega⟩
    · have ef : tf (n + 1) ((frm d ++ cat ds).take c) = ([], 0) := by
        unfold tf
        rw [first_cut hd0.1 hd0.2 (by omega)]
      rw [ef]
      refine ⟨0, rfl, by simp, fun hc => ?_⟩
      rw [List.length_append] at hc
      omega
end Go.Proofs.Try
