/- A part of the proof of FnLooks: L4Pt, L4Pu, L4Pv, L4Pw. -/
import Derived.Test.YtmdmeakelebfcaaL4Pp
import Derived.Test.YtmdmeakelebfcaaL4Fa
import Derived.Deep.RegionWith
set_option maxHeartbeats 0
set_option linter.unusedVariables false
set_option linter.unusedSimpArgs false
namespace Go.Proofs.Try
open Go Go.VM Go.RowKit

/-! FnLooks -/
theorem sfl_mono : ∀ {a : List Sh} {p q : Int}, q ≤ p → sfl p a = 0 → sfl q a = 0
  | [], _, _, _, _ => rfl
  | x :: r, p, q, hq, h => by
    rw [sfl_cons] at h ⊢
    split at h
    · rename_i h1
      split at h
      · rename_i h2
        split at h
        · cases h
        · rw [if_pos h1, if_pos h2, if_neg (by omega)]
          exact h
      · cases h
    · cases h
theorem sfl_oth (y : Int) : ∀ {a : List Sh} {p : Int}, sfl p a = 0 → sfl p (oth y a) = 0
  | [], _, _ => rfl
  | x :: r, p, h => by
    have h0 := h
    rw [sfl_cons] at h
    split at h
    · rename_i h1
      split at h
      · rename_i h2
        split at h
        · cases h
        · rename_i h3
          have ih := sfl_oth y h
          rw [oth_cons]
          split
          · exact sfl_mono (by omega) ih
          · rw [sfl_cons, if_pos h1, if_pos h2, if_neg h3]
            exact ih
      · cases h
    · cases h
theorem oth_le (y : Int) : ∀ a : List Sh, (oth y a).length + cnt (nms a) y = a.length
  | [] => rfl
  | x :: r => by
    have := oth_le y r
    have e : nms (x :: r) = x.1 :: nms r := rfl
    rw [oth_cons, e, cnt_cons, List.length_cons]
    by_cases h : x.1 = y
    · rw [if_pos h, if_pos h]; omega
    · rw [if_neg h, if_neg h, List.length_cons]; omega
theorem sf_oth {a : List Sh} (y : Int) (h : sf a = 0) : sf (oth y a) = 0 := by
  have h8 := sf_len h
  have hl := oth_le y a
  unfold sf at h ⊢
  rw [if_neg (by omega)] at h
  rw [if_neg (by omega)]
  exact sfl_oth y h
theorem nd_cnt {l : List Int} (h : l.Nodup) (x : Int) : cnt l x ≤ 1 := by
  by_cases hm : x ∈ l
  · rw [cnt_one h hm]; omega
  · rw [cnt_none hm]; omega
theorem oth_mem {y : Int} : ∀ {a : List Sh} {s : Sh}, s ∈ oth y a → s.1 ≠ y
  | [], s, h => by simp [oth] at h
  | x :: r, s, h => by
    rw [oth_cons] at h
    split at h
    · exact oth_mem h
    · rename_i hx
      rcases List.mem_cons.1 h with rfl | h
      · exact hx
      · exact oth_mem h
theorem mem_set' : ∀ {l : List Int} {p : Nat} {a x : Int}, x ∈ l.set p a → x ∈ l ∨ x = a
  | [], p, a, x, h => by simp at h
  | b :: r, 0, a, x, h => by
    rw [List.set_cons_zero] at h
    rcases List.mem_cons.1 h with h | h
    · exact .inr h
    · exact .inl (List.mem_cons_of_mem _ h)
  | b :: r, p + 1, a, x, h => by
    rw [List.set_cons_succ] at h
    rcases List.mem_cons.1 h with h | h
    · exact .inl (h ▸ List.mem_cons_self ..)
    · rcases mem_set' h with h | h
      · exact .inl (List.mem_cons_of_mem _ h)
      · exact .inr h
theorem rnd_mem : ∀ (ns v : List Int) {x : Int}, x ∈ (rnd ns v).1 → x ∈ v ∨ x ∈ ns
  | [], v, x, h => .inl h
  | a :: r, v, x, h => by
    rw [rnd] at h
    split at h
    · exact .inl h
    · rcases rnd_mem r _ h with h | h
      · rcases mem_set' h with h | h
        · exact .inl h
        · exact .inr (h ▸ List.mem_cons_self ..)
      · exact .inr (List.mem_cons_of_mem _ h)
theorem fill_mem : ∀ (ns : List Int) (n : Nat) (v : List Int) {x : Int}, x ∈ fillF ns n v → x ∈ v ∨ x ∈ ns
  | ns, 0, v, x, h => .inl h
  | ns, n + 1, v, x, h => by
    rw [fillF] at h
    split at h
    · exact .inl h
    · split at h
      · rcases fill_mem ns n _ h with h | h
        · exact rnd_mem ns v h
        · exact .inr h
      · exact rnd_mem ns v h
theorem fillT_mem {xs : List Sh} {x : Int} (h : x ∈ fillT xs) (h0 : x ≠ 0) : x ∈ expand xs := by
  rcases fill_mem _ _ _ h with h | h
  · exact absurd (List.eq_of_mem_replicate h) h0
  · exact h
theorem mvd_cnt : ∀ (a b : List Int) (y : Int), a.length = b.length → y ∉ b → cnt a y ≤ mvd a b
  | [], _, y, _, _ => Nat.zero_le _
  | _ :: _, [], y, h, _ => by simp at h
  | x :: a, z :: b, y, h, hy => by
    have := mvd_cnt a b y (by simpa using h) (fun hm => hy (List.mem_cons_of_mem _ hm))
    rw [cnt_cons, mvd]
    by_cases hx : x = y
    · rw [if_pos hx, if_neg (fun e => hy (by rw [← hx, e]; exact List.mem_cons_self ..))]
      omega
    · rw [if_neg hx]
      split <;> omega
def hasW (xs : List Sh) (v : Int) : Bool := xs.any fun s => (s.1 == v) && decide (s.2 > 0)
theorem hasW_of {xs : List Sh} {v : Int} (h : v ∈ expand xs) : hasW xs v = true := by
  obtain ⟨s, hs, hm⟩ := List.mem_flatMap.1 h
  obtain ⟨h1, h2⟩ := List.mem_replicate.1 hm
  refine List.any_eq_true.2 ⟨s, hs, ?_⟩
  have : 0 < s.2 := by omega
  simp [h2, this]
section
variable (m18 : List Int → Option (List Sh × Int))
theorem p4_2 (L : Nat) (a0 : List Int) (o1 : List Sh) (o2 : Int) (o3 : List Sh) (o4 : Int) (o5 : List Int) (o6 : Int) (xs : List Sh) (hx : xs.length ≤ 8) (c1 : Int) (w1 : List Sh) (c2 : Int) (t : List Int) (rc rv : Int)
    (k : List Sh → Int → List Sh → Int → List Int → Int → Int → Bool → Option Bool) : ∀ (n i : Nat) (ok : Bool), i ≤ xs.length → xs.length < n + i →
    l4_2 m12 m18 mWo mWo mFill mMoved mCnt mLook L a0 o1 o2 o3 o4 o5 o6 n xs c1 w1 c2 t rc rv ok i k = k xs c1 w1 c2 t rc rv (ok || hasW (xs.drop i) rv)
  | 0, i, ok, h1, h2 => by omega
  | n + 1, i, ok, h1, h2 => by
    unfold l4_2
    by_cases hi : i < xs.length
    · have hd := drop_cons ((0, 0) : Int × Int) hi
      have ih := fun b => p4_2 L a0 o1 o2 o3 o4 o5 o6 xs hx c1 w1 c2 t rc rv k n (i + 1) b (by omega) (by omega)
      rw [Int.toNat_natCast, hd]
      generalize xs.getD i (0, 0) = s
      have eh : hasW (s :: xs.drop (i + 1)) rv = (((s.1 == rv) && decide (s.2 > 0)) || hasW (xs.drop (i + 1)) rv) := rfl
      rw [dt (show (i : Int) < (Nat.cast xs.length : Int) by omega), dt (show (0 : Int) ≤ (i : Int) by omega), Bool.and_self, cond_true, cond_true, cond_true, wi (by omega) (by omega), eh]
      cases ok with
      | true => rw [cond_true, Bool.true_or]; exact (ih true).trans (by rw [Bool.true_or])
      | false =>
        rw [cond_false, Bool.false_or]
        cases (s.1 == rv) with
        | true => rw [cond_true, Bool.true_and]; exact ih _
        | false => rw [cond_false, Bool.false_and, Bool.false_or]; exact (ih false).trans (by rw [Bool.false_or])
    · rw [df (by omega), cond_false, List.drop_eq_nil_of_le (by omega)]
      simp [hasW]
theorem look_at {xs : List Sh} {h : Int} (h0 : 0 ≤ h) : (∃ v, look (fillT xs) h = (0, v) ∧ hasW xs v = true) ∨ look (fillT xs) h = (4, 0) := by
  have ht := fillT_len xs
  unfold look
  rw [if_pos ht, if_neg (by omega)]
  by_cases hz : (fillT xs).getD (h % 31).toNat 0 = 0
  · rw [if_pos hz]; exact .inr rfl
  · rw [if_neg hz]
    have hl : (h % 31).toNat < (fillT xs).length := by rw [ht]; omega
    refine .inl ⟨_, rfl, hasW_of (fillT_mem ?_ hz)⟩
    simp only [List.getD, List.getElem?_eq_getElem hl, Option.getD_some]
    exact List.getElem_mem hl
theorem p4_0 (L : Nat) (hL : 9 ≤ L) (a0 : List Int) (xs : List Sh) (hx : xs.length ≤ 8) (c1 : Int) (w1 : List Sh) (c2 : Int) (k : List Sh → Int → List Sh → Option Bool) : ∀ (n i : Nat), i ≤ 40 → 40 < n + i →
    l4_0 m12 m18 mWo mWo mFill mMoved mCnt mLook L a0 n xs c1 w1 c2 (fillT xs) i k = k xs c1 w1
  | 0, i, h1, h2 => by omega
  | n + 1, i, h1, h2 => by
    unfold l4_0
    by_cases hi : i < 40
    · have ih := p4_0 L hL a0 xs hx c1 w1 c2 k n (i + 1) (by omega) (by omega)
      rw [dt (by omega), cond_true, wi (by omega) (by omega), show mLook (fillT xs, (i : Int) * 7919) = some (look (fillT xs) ((i : Int) * 7919)) from rfl, tst_some]
      refine (p4_2 m18 L a0 _ _ _ _ _ _ xs hx c1 w1 c2 (fillT xs) _ _ _ L 0 false (by omega) (by omega)).trans ?_
      rw [Bool.false_or, List.drop_zero, wi (show (-9223372036854775808 : Int) ≤ (i : Int) + 1 by omega) (by omega)]
      rcases look_at (xs := xs) (h := (i : Int) * 7919) (by omega) with ⟨v, hv, hw⟩ | hv
      · rw [hv, hw]
        exact ih
      · rw [hv]
        exact ih
    · obtain rfl : i = 40 := by omega
      rw [df (by omega), cond_false]
end
end Go.Proofs.Try

set_option maxHeartbeats 0
set_option linter.unusedVariables false
set_option linter.unusedSimpArgs false
namespace Go.Proofs.Try
open Go Go.VM Go.RowKit

theorem sat4_of (m18 : List Int → Option (List Sh × Int)) (h18 : Sat prog cxT 18 (c18 m18)) (hm : ∀ c, okC c → ∃ l y, m18 c = some (l, y) ∧ l.length ≤ 9) : Sat prog cxT 4 (c4 m3) :=
  s4 m12 m18 mWo mWo mFill mMoved mCnt mLook sat12 h18 sat19 sat20 sat14 sat21 sat17 sat22 m3 fun x t h => by
  unfold m3 at h
  split at h
  · rename_i hb
    cases h
    refine ⟨41, ?_⟩
    unfold g4
    rw [show m12 x = some (decide ((x.length : Int) > 1048576)) from rfl, tst_some]
    by_cases hl : x.length > 1048576
    · rw [dt (by omega)]; rfl
    · rw [df (by omega), cond_false]
      obtain ⟨l, y, e18, h9⟩ := hm x ⟨hb, by omega⟩
      rw [e18, tst_some]
      simp only
      rw [show mWo (l, y) = some (wo l y) from rfl, tst_some, tst_some]
      by_cases hs : sf l = 0
      · by_cases h3 : (oth y l).length = l.length
        · have e : wo l y = (4, []) := by unfold wo; rw [if_pos hs, if_pos h3]
          rw [e]
          rfl
        · have e : wo l y = (0, oth y l) := by unfold wo; rw [if_pos hs, if_neg h3]
          have hol := oth_le y l
          have hnd := nd_cnt (sf_nodup hs) y
          have hy0 : y ≠ 0 := by
            have hmem : y ∈ nms l := by
              cases Classical.em (y ∈ nms l) with
              | inl h => exact h
              | inr h => rw [cnt_none h] at hol; omega
            obtain ⟨s, hs1, hs2⟩ := List.mem_map.1 hmem
            have := ((sf_ok hs).2 s hs1).1
            unfold isN at this
            omega
          have hso := sf_oth y hs
          have hnb : y ∉ fillT (oth y l) := fun hmb => by
            obtain ⟨s, hs1, hs2⟩ := List.mem_map.1 (expand_mem (fillT_mem hmb hy0))
            exact oth_mem hs1 hs2
          have e1 : fillR l = (0, fillT l) := if_pos hs
          have e2 : fillR (oth y l) = (0, fillT (oth y l)) := if_pos hso
          have l1 := fillT_len l
          have l2 := fillT_len (oth y l)
          have e3 : moved (fillT l) (fillT (oth y l)) = (0, (mvd (fillT l) (fillT (oth y l)) : Int)) := if_pos ⟨l1, l2⟩
          have e4 : mCnt (fillT (oth y l), y) = some (0 : Int) := (if_pos (by simp only; omega)).trans (by rw [cnt_none hnb]; rfl)
          have e5 : mCnt (fillT l, y) = some (cnt (fillT l) y : Int) := if_pos (by simp only; omega)
          have hmv := mvd_cnt (fillT l) (fillT (oth y l)) y (by omega) hnb
          have h8 := sf_len hs
          rw [e]
          simp only
          rw [show ((0 : Int) != 0) = false from rfl, cond_false, show mFill l = some (fillR l) from rfl, tst_some, show mFill (oth y l) = some (fillR (oth y l)) from rfl, tst_some, e1, e2]
          simp only
          rw [show mMoved (fillT l, fillT (oth y l)) = some (moved (fillT l) (fillT (oth y l))) from rfl, tst_some, e3]
          simp only
          rw [show ((0 : Int) != 0) = false from rfl, cond_false, cond_false, e4, tst_some, show ((0 : Int) != 0) = false from rfl, cond_false, cond_false, e5, tst_some, df (by omega), cond_false]
          refine (p4_0 m18 41 (by decide) x l h8 0 (oth y l) 0 _ 41 0 (by omega) (by omega)).trans ?_
          rw [wi (by omega) (by omega)]
          congr 1
          rw [beq_iff_eq]
          omega
      · have e : wo l y = (sf l, []) := by unfold wo; rw [if_neg hs]
        rw [e]
        simp only
        rw [bneT hs, cond_true]
        simp
  · cases h
end Go.Proofs.Try

set_option linter.unusedVariables false
set_option linter.unusedSimpArgs false
namespace Go.Proofs.Try
open Go Go.VM Go.RowKit Go.Shelf

/-! spec.DrawWithoutShare, by hand -/
section
attribute [local go_sem] Oper.semAt_some
set_option maxRecDepth 100000 in
set_option maxHeartbeats 4000000 in
theorem dr18 (u0 : Value) (w : World) (S : Int → Nat → Nat → Nat → Nat → World → Prop) (v51 : Bool) (v52 nm : Int) (hv : 0 ≤ v52) (G : Ending → World → Prop)
  (hdr : ∀ k g a n cap W, S k g a n cap W → S k g a n cap W.drew)
  (h44 : Calls prog 44 #[u0] w fun e w1 => ∃ g, e = .returned (.pointer (some ⟨g, 0, none⟩)) ∧ S 0 g 0 0 0 w1)
  (h43 : ∀ g w1, S 0 g 0 0 0 w1 → Calls prog 43 #[.pointer (some ⟨g, 0, none⟩)] w1 fun e w2 => ∃ a n cap, e = .returned (.slice (some ⟨a, 0, none⟩) (n + 1) cap) ∧ S 1 g a (n + 1) cap w2)
  (h51 : ∀ g a n cap w1, S 1 g a n cap w1 → Calls prog 51 #[.pointer (some ⟨g, 0, none⟩), .int .i64 3] w1 fun e w2 => e = .returned (.bool v51) ∧ S 2 g a n cap w2)
  (h52 : ∀ g a n cap w1, S 2 g a (n + 1) cap w1 → Calls prog 52 #[.pointer (some ⟨g, 0, none⟩), .int .i64 ((n : Int) + 1)] w1 fun e w2 => e = .returned (.int .i64 v52) ∧ S 3 g a (n + 1) cap w2 ∧ v52 < (n : Int) + 1)
  (hc : ∀ g a n cap w1, S 3 g a n cap w1 → w1.cell? ⟨a, v52.toNat * 2, none⟩ = some (.int .i64 nm))
  (hG : v51 = false → ∀ g a n cap w1, S 3 g a (n + 1) cap w1 → G (.returned (.tuple #[.slice (some ⟨a, 0, none⟩) (n + 1) cap, .int .i64 nm])) w1)
  (hG2 : v51 = true → ∀ g a n cap w1, S 2 g a (n + 1) cap w1 → G (.returned (.tuple #[.slice (some ⟨a, 0, none⟩) (n + 1) cap, .int .i64 5])) w1) :
   Calls prog 18 #[u0] w G := by
  go_enter func18, ntmps18
  go_wp2_with (first
    | (go_at_call 44; refine h44.mono ?_; clear h44; rintro e w1 ⟨g, rfl, hS0⟩)
    | (go_at_call 43; refine (h43 _ _ hS0).mono ?_; clear h43; rintro e w2 ⟨a, n, cap, rfl, hS1⟩; have hn : (0 : Int) < (n : Int) + 1 := by omega)
    | (go_at_call 51; refine (h51 _ _ _ _ _ hS1).mono ?_; clear h51; rintro e w3 ⟨rfl, hS2⟩))
  · go_region_with (go_at_call 52; refine (h52 _ _ _ _ _ (by repeat (first | exact hS2 | apply hdr))).mono ?_; rintro e w4 ⟨rfl, hS3, hlt⟩; have hcell := hc _ _ _ _ _ hS3)
    go_wp2
    go_ret2
    exact hG (by cases v51 <;> simp_all) _ _ _ _ _ hS3
  · exact hG2 (by cases v51 <;> simp_all) _ _ _ _ _ hS2
set_option maxRecDepth 100000 in
set_option maxHeartbeats 4000000 in
theorem dr18e (u0 : Value) (w : World) (S : Int → Nat → World → Prop) (G : Ending → World → Prop)
  (h44 : Calls prog 44 #[u0] w fun e w1 => ∃ g, e = .returned (.pointer (some ⟨g, 0, none⟩)) ∧ S 0 g w1)
  (h43 : ∀ g w1, S 0 g w1 → Calls prog 43 #[.pointer (some ⟨g, 0, none⟩)] w1 fun e w2 => ∃ p cap, e = .returned (.slice p 0 cap) ∧ G (.returned (.tuple #[.slice p 0 cap, .int .i64 5])) w2) :
   Calls prog 18 #[u0] w G := by
  go_enter func18, ntmps18
  go_wp2_with (first
    | (go_at_call 44; refine h44.mono ?_; clear h44; rintro e w1 ⟨g, rfl, hS0⟩)
    | (go_at_call 43; refine (h43 _ _ hS0).mono ?_; clear h43; rintro e w2 ⟨p, cap, rfl, hS1⟩))
  exact hS1
end

theorem bent43b {s : Src} {b : Int} (h : okZ s b) (hb : b ≤ 700000000) : ∃ at2 o, m43 s = some (o, s.1, at2) ∧ o.length ≤ 9 ∧ okZ (s.1, at2) 800000000 := by
  have e0 : m43 s = g43 m64 m52 m65 0 s.1 s.2 := if_pos (h.up hb)
  obtain ⟨at2, o, e1, k1, k2, k3⟩ := shares64 h (by omega)
  have s1 : okZ (s.1, at2) 750000000 := h.at k2 (by omega)
  rw [e0]
  unfold g43
  rw [e1, tst_some]
  simp only
  by_cases h0 : o.length = 0
  · rw [show ((Nat.cast o.length : Int) == 0) = true by simp [h0], cond_true]
    exact ⟨_, _, rfl, by omega, s1.up (by omega)⟩
  rw [show ((Nat.cast o.length : Int) == 0) = false by simp; intro h; simp [h] at h0, cond_false]
  obtain ⟨i, e2, _, ri⟩ := nx s1 (by omega) (o.length : Int)
  have ri := ri (by omega)
  have s2 := s1.add (k := 1) (by omega)
  simp only at e2 s2
  obtain ⟨n, e3, _, _⟩ := nx s2 (by omega) 16
  have s3 := s2.add (k := 1) (by omega)
  simp only at e3 s3
  rw [e2, tst_some]
  simp only
  rw [e3, tst_some]
  simp only
  by_cases h0 : n = 0
  · obtain ⟨v, _, ev⟩ := pick s3 (by omega) [0, 1000, 999, 1] (by simp) (by simp)
    simp only at ev
    rw [show (n == 0) = true by simp [h0], cond_true, ev, tst_some, dt ri.1, dt ri.2]
    exact ⟨_, _, rfl, by rw [List.length_set]; omega, (s3.add (k := 1) (by omega)).up (by omega)⟩
  rw [show (n == 0) = false by simp [h0], cond_false]
  by_cases h1 : n = 1
  · obtain ⟨v, _, ev⟩ := pick s3 (by omega) [-1, 10, 9] (by simp) (by simp)
    simp only at ev
    rw [show (n == 1) = true by simp [h1], cond_true, ev, tst_some, dt ri.1, dt ri.2]
    exact ⟨_, _, rfl, by rw [List.length_set]; omega, (s3.add (k := 1) (by omega)).up (by omega)⟩
  rw [show (n == 1) = false by simp [h1], cond_false]
  by_cases h2 : n = 2
  · rw [show (n == 2) = true by simp [h2], cond_true]
    exact ⟨_, _, rfl, by simp, s3.up (by omega)⟩
  · rw [show (n == 2) = false by simp [h2], cond_false]
    exact ⟨_, _, rfl, by omega, s3.up (by omega)⟩

def m51 (x : Src × Int) : Option (Bool × List Int × Int) := if okZ x.1 1000000000 then g51 m52 0 x.1.1 x.1.2 x.2 else none
theorem sat51 : SatP prog cxT 51 (c51 m51).nres (c51 m51).F := s51 m52 sat52 m51 fun x t h => by
  unfold m51 at h
  split at h
  · exact ⟨0, h⟩
  · cases h
theorem chance {s : Src} {b : Int} (h : okZ s b) (hb : b ≤ 1000000000) (n : Int) : ∃ v, m51 (s, n) = some (v, s.1, s.2 + 1) := by
  obtain ⟨v, e, _⟩ := nx h hb n
  have e0 : m51 (s, n) = g51 m52 0 s.1 s.2 n := if_pos (h.up hb)
  refine ⟨v == 0, ?_⟩
  rw [e0]
  unfold g51
  rw [e, tst_some]

/-- The source's box. -/
def Bx (W : World) (g : Nat) (c : List Int) (a : Int) : Prop := ∃ cur t, W.heap[g]? = some (.cells cur t (0, 0)) ∧ ArgA cxT W (fun b => b < W.heap.size ∧ b ≠ g) (.inr [ls (ro 5 c), lv (.int .i64 a)]) (.agg cur)
theorem argA_mono {W W' : World} {S S' : Nat → Prop} {c : List Int} {a : Int} {cur : Array Value} (hw : ∀ b, S b → W'.heap[b]? = W.heap[b]?) (hS : ∀ b, S b → S' b) (h : ArgA cxT W S (.inr [ls (ro 5 c), lv (.int .i64 a)]) (.agg cur)) :
    ArgA cxT W' S' (.inr [ls (ro 5 c), lv (.int .i64 a)]) (.agg cur) := by
  obtain ⟨us, hu, hl, h⟩ := h
  refine ⟨us, hu, hl, fun j x u e1 e2 => ?_⟩
  have := h j x u e1 e2
  match j with
  | 0 =>
    simp only [List.getElem?_cons_zero, Option.some.injEq] at e1
    subst e1
    obtain ⟨h1, n, h2⟩ := this
    exact ⟨h1, n, RepL_mono cxT hw hS _ _ _ h2⟩
  | 1 =>
    simp only [List.getElem?_cons_succ, List.getElem?_cons_zero, Option.some.injEq] at e1
    subst e1
    exact this
  | j + 2 => simp at e1
theorem Bx.drew {W : World} {g : Nat} {c : List Int} {a : Int} (h : Bx W g c a) : Bx W.drew g c a := by
  obtain ⟨cur, t, h1, h2⟩ := h
  exact ⟨cur, t, h1, argA_mono (W := W) (W' := W.drew) (S := fun b => b < W.heap.size ∧ b ≠ g) (S' := fun b => b < W.drew.heap.size ∧ b ≠ g) (fun _ _ => rfl) (fun _ h => h) h2⟩
theorem box_back {W : World} {A0 N : Nat → Prop} {X : A cxT.ty} {c : List Int} {a : Int} {x : Value} {cur : Array Value} (h : ResV cxT W A0 N (.inr (.inl [X, .inr [ls (ro 5 c), lv (.int .i64 a)]])) (.tuple ([x] ++ [Value.agg cur]).toArray)) :
    ∃ f0 S, ResA cxT W S X x f0 ∧ f0.Nodup ∧ (∀ b ∈ f0, N b ∧ b < W.heap.size) ∧ ArgA cxT W (fun b => A0 b ∨ (N b ∧ b < W.heap.size)) (.inr [ls (ro 5 c), lv (.int .i64 a)]) (.agg cur) := by
  obtain ⟨fp, hnd, hN, us, fps, hu, hfp, hl, hf, h⟩ := h
  have hu : [x, Value.agg cur] = us := by simpa using hu
  subst hu
  match fps, hf with
  | [f0, f1], _ =>
    have h0 := h 0 X x f0 rfl rfl rfl
    have h1 := h 1 _ (Value.agg cur) f1 rfl rfl rfl
    have hsub : ∀ b ∈ f0, b ∈ fp := fun b hb => by rw [hfp]; simp [hb]
    refine ⟨f0, _, h0, ?_, fun b hb => hN b (hsub b hb), ?_⟩
    · rw [hfp] at hnd
      simp only [List.flatten_cons] at hnd
      exact (List.nodup_append.1 hnd).1
    · obtain ⟨us2, fps2, hu2, _, hl2, hf2, h2⟩ := h1
      refine ⟨us2, hu2, hl2, fun j y u e1 e2 => ?_⟩
      have hj : j < fps2.length := by
        rw [hf2]
        exact (List.getElem?_eq_some_iff.1 e1).1
      have h3 := h2 j y u fps2[j] e1 e2 (List.getElem?_eq_getElem hj)
      match j with
      | 0 =>
        simp only [List.getElem?_cons_zero, Option.some.injEq] at e1
        subst e1
        obtain ⟨k1, _, n, k2⟩ := h3
        exact ⟨k1, n, RepL_mono cxT (fun _ _ => rfl) (fun b hb => hb.imp id fun h => ⟨h.1, h.2.1⟩) _ _ _ k2⟩
      | 1 =>
        simp only [List.getElem?_cons_succ, List.getElem?_cons_zero, Option.some.injEq] at e1
        subst e1
        exact h3.1
      | j + 2 => simp at e1

/-- A call that draws from the source. -/
theorem drawP {f : FuncId} {X : A cxT.ty} {F : List (A cxT.ty) → Option (Bool × List (A cxT.ty))} (hf : SatP prog cxT f 1 F) {W : World} {g : Nat} {c : List Int} {a a2 : Int} (hB : Bx W g c a) (l : List (A cxT.ty)) (us : List Value)
    (hl : ArgAs cxT W (fun b => b < W.heap.size ∧ b ≠ g) l us) (hF : F (.inr [ls (ro 5 c), lv (.int .i64 a)] :: l) = some (true, [X, .inr [ls (ro 5 c), lv (.int .i64 a2)]])) :
    Calls prog f (.pointer (some ⟨g, 0, none⟩) :: us).toArray W fun e W' => ∃ x f0 S, e = .returned x ∧ ResA cxT W' S X x f0 ∧ f0.Nodup ∧ (∀ b ∈ f0, W.heap.size ≤ b ∧ b < W'.heap.size) ∧ Bx W' g c a2 ∧ Kept (fun b => W.heap.size ≤ b ∨ b = g) W W' := by
  obtain ⟨cur, t, hg, hA⟩ := hB
  refine (hf W (fun b => b < W.heap.size ∧ b ≠ g) g cur t [ls (ro 5 c), lv (.int .i64 a)] l us _ (fun b hb => hb) hg hA rfl hl hF).mono ?_
  rintro e W' ⟨rs, cur', rfl, hr, ⟨t', hg'⟩, hk, hR⟩
  match rs, hr with
  | [x], _ =>
    obtain ⟨f0, S, h0, h1, h2, h3⟩ := box_back hR
    have hgl := lt_of_at hg
    have hsz := hk.size
    exact ⟨x, f0, S, rfl, h0, h1, h2, ⟨cur', t', hg', argA_mono (fun _ _ => rfl) (fun b hb => by
      rcases hb with ⟨hb1, hb2⟩ | ⟨hb1, hb2⟩
      · exact ⟨by omega, hb2⟩
      · exact ⟨hb2, by omega⟩) h3⟩, hk⟩
theorem arg1p {W : World} {S : Nat → Prop} (n : Int) : ArgAs cxT W S [.inl (lv (.int .i64 n))] [.int .i64 n] := ⟨rfl, fun j a u h1 h2 => by
  cases j with
  | zero =>
    simp only [List.getElem?_cons_zero, Option.some.injEq] at h1 h2
    subst h1; subst h2
    exact rfl
  | succ j => simp at h1⟩
def oL (o : List Sh) : L cxT.ty := some (.inr { own := 2, nm := 0, e := 31, o := true, xs := o })
/-- The list that was drawn lies in blocks of its own. -/
def Lst (n0 : Nat) (W : World) (g : Nat) (o : List Sh) (u : Value) : Prop := ∃ f m, OwnL cxT W m (oL o) u f ∧ f.Nodup ∧ ∀ b ∈ f, n0 ≤ b ∧ b < W.heap.size ∧ b ≠ g
theorem Lst.keep {n0 : Nat} {W W' : World} {g : Nat} {o : List Sh} {u : Value} (h : Lst n0 W g o u) (hk : Kept (fun b => W.heap.size ≤ b ∨ b = g) W W') : Lst n0 W' g o u := by
  obtain ⟨f, m, h1, h2, h3⟩ := h
  have hs := hk.size
  refine ⟨f, m, OwnL_mono cxT m _ _ f (fun b hb => hk.block b ?_) h1, h2, fun b hb => ?_⟩
  · have := h3 b hb
    omega
  · have := h3 b hb
    exact ⟨this.1, by omega, this.2.2⟩
theorem flat_at : ∀ (o : List Sh) (i : Nat) (s : Sh), o[i]? = some s → (o.flatMap (cxT.enc 31 true))[i * 2]? = some (lv (.int .i64 s.1))
  | [], i, s, h => by simp at h
  | x :: r, 0, s, h => by
    obtain rfl : x = s := by simpa using h
    rfl
  | x :: r, i + 1, s, h => by
    have := flat_at r i s (by simpa using h)
    rw [show (i + 1) * 2 = i * 2 + 2 by omega]
    show ([lv (.int .i64 x.1), lv (.int .i64 x.2)] ++ List.flatMap (cxT.enc 31 true) r)[i * 2 + 2]? = _
    exact this
theorem Lst.cell {n0 : Nat} {W : World} {g : Nat} {o : List Sh} {u : Value} (h : Lst n0 W g o u) {i : Nat} {s : Sh} (hi : o[i]? = some s) : ∃ b cap, u = .slice (some ⟨b, 0, none⟩) o.length cap ∧ W.cell? ⟨b, i * 2, none⟩ = some (.int .i64 s.1) := by
  obtain ⟨f, m, h1, h2, h3⟩ := h
  cases m with
  | zero => exact h1.elim
  | succ m =>
    obtain ⟨us, fpl, hrow, hf, hl, hfl, hall⟩ := h1
    have hfa := flat_at o i s hi
    have hlt := (List.getElem?_eq_some_iff.1 hfa).1
    have hu2 := List.getElem?_eq_getElem (show i * 2 < us.length by rw [hl]; exact hlt)
    have hf2 := List.getElem?_eq_getElem (show i * 2 < fpl.length by rw [hfl, hl]; exact hlt)
    have hv := hall (i * 2) _ _ _ hfa hu2 hf2
    have hv : us[i * 2]'(by rw [hl]; exact hlt) = .int .i64 s.1 := by
      cases m <;> simpa [OwnL, lv] using (show _ ∧ _ from hv).1
    have hol := (List.getElem?_eq_some_iff.1 hi).1
    obtain ⟨hlen, hc⟩ := hrow
    have hlen : us.length = o.length * cxT.size 31 := hlen
    rcases hc with ⟨_, hz⟩ | ⟨b, cap, cur, rfl, _, hh, _, _, _, htake⟩
    · have hz : o.length = 0 := hz
      omega
    · refine ⟨b, cap, rfl, ?_⟩
      have hc2 : cur.toList[i * 2]? = some (.int .i64 s.1) := by
        have htake : List.take (o.length * cxT.size 31) cur.toList = us := htake
        have : us[i * 2]? = some (.int .i64 s.1) := by rw [hu2, hv]
        rw [← htake, List.getElem?_take] at this
        split at this
        · exact this
        · cases this
      rw [Array.getElem?_toList] at hc2
      simp [World.cell?, hh, hc2]
end Go.Proofs.Try

set_option linter.unusedVariables false
set_option linter.unusedSimpArgs false
namespace Go.Proofs.Try
open Go Go.VM Go.RowKit Go.Shelf

def m18 (c : List Int) : Option (List Sh × Int) := if okC c then
    match m43 (c, 0) with
    | none => none
    | some (o, c1, a1) => if o.length = 0 then some (o, 5) else
      match m51 ((c1, a1), 3) with
      | none => none
      | some (b, c2, a2) => if b = true then some (o, 5) else
        match m52 ((c2, a2), (o.length : Int)) with
        | none => none
        | some (v, _, _) => some (o, (o.getD v.toNat (0, 0)).1)
  else none
theorem draw18 {c : List Int} (h : okC c) : ∃ o a1, m43 (c, 0) = some (o, c, a1) ∧ o.length ≤ 9 ∧ ((o.length = 0 ∧ m18 c = some (o, 5)) ∨ (o.length ≠ 0 ∧ ∃ b v, m51 ((c, a1), 3) = some (b, c, a1 + 1) ∧
    m52 ((c, a1 + 1), (o.length : Int)) = some (v, c, a1 + 1 + 1) ∧ 0 ≤ v ∧ v < o.length ∧ (b = true → m18 c = some (o, 5)) ∧ (b = false → m18 c = some (o, (o.getD v.toNat (0, 0)).1)))) := by
  obtain ⟨a1, o, e1, h9, hz⟩ := bent43b h.src (by omega)
  simp only at e1 hz
  have hz2 := hz.add (k := 1) (by omega)
  obtain ⟨b, e2⟩ := chance hz (by omega) 3
  obtain ⟨v, e3, _, hv⟩ := nx hz2 (by omega) (o.length : Int)
  simp only at e2 e3 hz2
  refine ⟨o, a1, e1, h9, ?_⟩
  by_cases h0 : o.length = 0
  · refine .inl ⟨h0, ?_⟩
    unfold m18
    rw [if_pos h, e1]
    simp only
    rw [if_pos h0]
  · have hv := hv (by omega)
    refine .inr ⟨h0, b, v, e2, e3, hv.1, hv.2, fun hb => ?_, fun hb => ?_⟩
    · unfold m18
      rw [if_pos h, e1]
      simp only
      rw [if_neg h0, e2]
      simp only
      rw [if_pos hb]
    · unfold m18
      rw [if_pos h, e1]
      simp only
      rw [if_neg h0, e2]
      simp only
      rw [if_neg (by rw [hb]; decide), e3]
theorem m18_len (c : List Int) (h : okC c) : ∃ l y, m18 c = some (l, y) ∧ l.length ≤ 9 := by
  obtain ⟨o, a1, _, h9, ⟨_, e⟩ | ⟨_, b, v, _, _, _, _, e1, e2⟩⟩ := draw18 h
  · exact ⟨_, _, e, h9⟩
  · cases b with
    | true => exact ⟨_, _, e1 rfl, h9⟩
    | false => exact ⟨_, _, e2 rfl, h9⟩
theorem kept_below {n0 g : Nat} {W W' : World} (hk : Kept (fun b => W.heap.size ≤ b ∨ b = g) W W') (h1 : n0 ≤ W.heap.size) (h2 : n0 ≤ g) : Below n0 W W' := ⟨hk.os, hk.tape, hk.output, hk.size, fun k hk' => hk.block k (by omega)⟩
theorem res18 {w W : World} {A0 : Nat → Prop} {g : Nat} {o : List Sh} {u : Value} (y : Int) (h : Lst w.heap.size W g o u) : ResV cxT W A0 (fun b => w.heap.size ≤ b) (n18 (o, y)) (.tuple #[u, .int .i64 y]) := by
  obtain ⟨f, m, h1, h2, h3⟩ := h
  refine ⟨f, h2, fun b hb => ⟨(h3 b hb).1, (h3 b hb).2.1⟩, [u, .int .i64 y], [f, []], rfl, by simp, rfl, rfl, fun j a u' f' e1 e2 e3 => ?_⟩
  match j with
  | 0 =>
    simp only [List.getElem?_cons_zero, Option.some.injEq] at e1 e2 e3
    subst e1; subst e2; subst e3
    exact ⟨rfl, m, h1⟩
  | 1 =>
    simp only [List.getElem?_cons_succ, List.getElem?_cons_zero, Option.some.injEq] at e1 e2 e3
    subst e1; subst e2; subst e3
    exact ⟨rfl, rfl⟩
  | j + 2 => simp at e1
theorem lst_of {n0 : Nat} {W W' : World} {g : Nat} {o : List Sh} {x : Value} {f0 : List Nat} {S : Nat → Prop} (h : ResA cxT W' S (.inl (oL o)) x f0) (hnd : f0.Nodup) (hb : ∀ b ∈ f0, W.heap.size ≤ b ∧ b < W'.heap.size) (h0 : n0 ≤ W.heap.size) (hg : g < W.heap.size) : Lst n0 W' g o x := by
  obtain ⟨_, n, hO⟩ : _ ∧ ∃ n, OwnL cxT W' n (oL o) x f0 := h
  exact ⟨f0, n, hO, hnd, fun b hb' => by have := hb b hb'; omega⟩
theorem lst_slice {n0 : Nat} {W : World} {g : Nat} {o : List Sh} {u : Value} (h : Lst n0 W g o u) : ∃ p cap, u = .slice p o.length cap := by
  obtain ⟨f, m, h1, _⟩ := h
  cases m with
  | zero => exact h1.elim
  | succ m =>
    obtain ⟨us, fpl, hrow, _⟩ := h1
    rcases hrow.2 with ⟨rfl, hz⟩ | ⟨b, cap, cur, rfl, _⟩
    · have hz : o.length = 0 := hz
      rw [hz]; exact ⟨_, _, rfl⟩
    · exact ⟨_, _, rfl⟩
theorem Lst.drew {n0 : Nat} {W : World} {g : Nat} {o : List Sh} {u : Value} (h : Lst n0 W g o u) : Lst n0 W.drew g o u := by
  obtain ⟨f, m, h1, h2, h3⟩ := h
  exact ⟨f, m, OwnL_mono cxT (w := W) (w' := W.drew) m _ _ f (fun b hb => rfl) h1, h2, h3⟩
def atf (a1 k : Int) : Int := if k = 0 then 0 else if k = 1 then a1 else if k = 2 then a1 + 1 else a1 + 1 + 1
theorem sat18 : Sat prog cxT 18 (c18 m18) := by
  intro w A0 l us r hA hargs hF
  obtain ⟨x, t, rfl, hx, rfl⟩ := fnT_inv hF
  have hus : ∃ u0, us = [u0] := by
    match us, hargs with
    | [u], h => exact ⟨u, rfl⟩
    | [], h => exact absurd (show 0 = 1 from h.1) (by decide)
    | _ :: _ :: r, h => exact absurd (show r.length + 2 = 1 from h.1) (by omega)
  obtain ⟨u0, rfl⟩ := hus
  have hok : okC x := by
    unfold m18 at hx
    split at hx
    · assumption
    · cases hx
  obtain ⟨o, a1, e1, h9, hcase⟩ := draw18 hok
  have h44 := sat44 w A0 (a44.enc x) [u0] [ls (ro 5 x), lv (.int .i64 0)] hA hargs rfl
  have h44' : Calls prog 44 #[u0] w fun e w1 => ∃ g, e = .returned (.pointer (some ⟨g, 0, none⟩)) ∧ Bx w1 g x 0 ∧ w.heap.size ≤ g ∧ g < w1.heap.size ∧ Below w.heap.size w w1 := by
    refine h44.mono ?_
    rintro e w1 ⟨g, cur, t, rfl, hg, hh, hb, hArg⟩
    have hs := hb.size
    exact ⟨g, rfl, ⟨cur, t, hh, argA_mono (fun _ _ => rfl) (fun b hb' => by
      rcases hb' with h | h
      · have := hA b h
        exact ⟨by omega, by omega⟩
      · exact ⟨h.2.1, h.2.2⟩) hArg⟩, hg, lt_of_at hh, hb⟩
  have h43' : ∀ g w1, Bx w1 g x 0 → w.heap.size ≤ g → g < w1.heap.size → Below w.heap.size w w1 → Calls prog 43 #[.pointer (some ⟨g, 0, none⟩)] w1 fun e w2 => ∃ u, e = .returned u ∧ Bx w2 g x a1 ∧ g < w2.heap.size ∧ Below w.heap.size w w2 ∧ Lst w.heap.size w2 g o u := by
    intro g w1 hB hg hgl hb
    refine (drawP (X := .inl (oL o)) (a2 := a1) sat43 hB [] [] ⟨rfl, by simp⟩ (by
      show some ((m43 (x, 0)).isSome, n43 ((m43 (x, 0)).getD dd43)) = _
      rw [e1]; rfl)).mono ?_
    rintro e w2 ⟨u, f0, S, rfl, hR, hnd, hf, hB2, hk⟩
    have hs := hk.size
    have hs1 := hb.size
    exact ⟨u, rfl, hB2, by omega, hb.trans (kept_below hk hs1 hg), lst_of hR hnd hf hs1 hgl⟩
  show Calls prog 18 #[u0] w fun e w' => ∃ u, e = .returned u ∧ Below w.heap.size w w' ∧ ResV cxT w' A0 (fun b => w.heap.size ≤ b) (n18 t) u
  rcases hcase with ⟨h0, e18⟩ | ⟨h0, b, v, e51, e52, hv0, hv1, hb1, hb2⟩
  · rw [hx] at e18
    cases e18
    refine dr18e u0 w (fun _ g w1 => Bx w1 g x 0 ∧ w.heap.size ≤ g ∧ g < w1.heap.size ∧ Below w.heap.size w w1) _ h44' ?_
    rintro g w1 ⟨q1, q2, q3, q4⟩
    refine (h43' g w1 q1 q2 q3 q4).mono ?_
    rintro e w2 ⟨u, rfl, _, _, hb, hL⟩
    obtain ⟨p, cap, rfl⟩ := lst_slice hL
    rw [h0]
    rw [h0] at hL
    exact ⟨p, cap, rfl, _, rfl, hb, res18 5 hL⟩
  · obtain ⟨s, hs⟩ : ∃ s, o[v.toNat]? = some s := ⟨_, List.getElem?_eq_getElem (by omega)⟩
    have hgd : o.getD v.toNat (0, 0) = s := by simp [List.getD, hs]
    obtain ⟨n, hn⟩ : ∃ n, o.length = n + 1 := ⟨o.length - 1, by omega⟩
    refine dr18 u0 w (fun k g a n cap W => Bx W g x (atf a1 k) ∧ w.heap.size ≤ g ∧ g < W.heap.size ∧ Below w.heap.size w W ∧ (k ≠ 0 → Lst w.heap.size W g o (.slice (some ⟨a, 0, none⟩) n cap) ∧ n = o.length)) b v s.1 hv0 _ ?hdr ?h44 ?h43 ?h51 ?h52 ?hc ?hG ?hG2
    case hdr =>
      rintro k g a n cap W ⟨q1, q2, q3, q4, q5⟩
      exact ⟨q1.drew, q2, q3, q4.drew, fun hk => ⟨(q5 hk).1.drew, (q5 hk).2⟩⟩
    case h44 =>
      refine h44'.mono ?_
      rintro e w1 ⟨g, rfl, q1, q2, q3, q4⟩
      exact ⟨g, rfl, q1, q2, q3, q4, fun h => absurd rfl h⟩
    case h43 =>
      rintro g w1 ⟨q1, q2, q3, q4, _⟩
      refine (h43' g w1 q1 q2 q3 q4).mono ?_
      rintro e w2 ⟨u, rfl, k1, k2, k3, k4⟩
      obtain ⟨b', cap, rfl, _⟩ := k4.cell hs
      rw [hn] at k4 ⊢
      exact ⟨b', n, cap, rfl, k1, q2, k2, k3, fun _ => ⟨k4, rfl⟩⟩
    case h51 =>
      rintro g a n cap w1 ⟨q1, q2, q3, q4, q5⟩
      refine (drawP (X := .inl (lv (.bool b))) (a2 := a1 + 1) sat51 q1 [.inl (lv (.int .i64 3))] [.int .i64 3] (arg1p 3) (by
        show some ((m51 ((x, a1), 3)).isSome, n51 ((m51 ((x, a1), 3)).getD dd51)) = _
        rw [e51]; rfl)).mono ?_
      rintro e w2 ⟨u, f0, S, rfl, hR, hnd, hf, hB2, hk⟩
      obtain ⟨rfl, _⟩ : u = .bool b ∧ f0 = [] := hR
      have hs2 := hk.size
      have hs1 := q4.size
      exact ⟨rfl, hB2, q2, by omega, q4.trans (kept_below hk hs1 q2), fun _ => ⟨(q5 (by decide)).1.keep hk, (q5 (by decide)).2⟩⟩
    case h52 =>
      rintro g a n cap w1 ⟨q1, q2, q3, q4, q5⟩
      obtain ⟨q5, q6⟩ := q5 (by decide)
      have q6' : (n : Int) + 1 = (o.length : Int) := by omega
      rw [q6']
      refine (drawP (X := .inl (lv (.int .i64 v))) (a2 := a1 + 1 + 1) sat52 q1 [.inl (lv (.int .i64 (o.length : Int)))] [.int .i64 (o.length : Int)] (arg1p _) (by
        show some ((m52 ((x, a1 + 1), (o.length : Int))).isSome, n52 ((m52 ((x, a1 + 1), (o.length : Int))).getD dd52)) = _
        rw [e52]; rfl)).mono ?_
      rintro e w2 ⟨u, f0, S, rfl, hR, hnd, hf, hB2, hk⟩
      obtain ⟨rfl, _⟩ : u = .int .i64 v ∧ f0 = [] := hR
      have hs2 := hk.size
      have hs1 := q4.size
      exact ⟨rfl, ⟨hB2, q2, by omega, q4.trans (kept_below hk hs1 q2), fun _ => ⟨q5.keep hk, q6⟩⟩, hv1⟩
    case hc =>
      rintro g a n cap w1 ⟨_, _, _, _, q5⟩
      obtain ⟨b', cap', hu, hcl⟩ := (q5 (by decide)).1.cell hs
      cases hu
      exact hcl
    case hG =>
      rintro hb g a n cap w1 ⟨_, _, _, q4, q5⟩
      have e18 := hb2 hb
      rw [hx, hgd] at e18
      cases e18
      exact ⟨_, rfl, q4, res18 s.1 (q5 (by decide)).1⟩
    case hG2 =>
      rintro hb g a n cap w1 ⟨_, _, _, q4, q5⟩
      have e18 := hb1 hb
      rw [hx] at e18
      cases e18
      exact ⟨_, rfl, q4, res18 5 (q5 (by decide)).1⟩
theorem sat4 : Sat prog cxT 4 (c4 m3) := sat4_of m18 sat18 m18_len
end Go.Proofs.Try
