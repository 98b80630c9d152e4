/- A part of the proof of FnExactUnwrapGre: L2Top, L2Pb. -/
import Derived.Test.YtaegcoihgnobiaaVmOpen
import Derived.Test.YtaegcoihgnobiaaL2Fa
namespace Go.Proofs.Try
open Go Go.VM Go.RowKit

theorem cells2 : prog.cellsOf 2 = 1 := by kernel_rfl
theorem cells5 : prog.cellsOf 5 = 1 := by kernel_rfl
theorem cells22 : prog.cellsOf 22 = 1 := by kernel_rfl
theorem cells34 : prog.cellsOf 34 = 6 := by kernel_rfl
def i64In (x : Int) : Prop := (Lit.int .i64 x).wf = true
def rowIn (x : List Int) : Prop := x.length ≤ maxLen ∧ ∀ y ∈ x, (Lit.int .u8 y).wf = true
def row5 (xs : List Int) : L cxT.ty := some (.inr (ro 5 xs))
theorem opR : Opens prog cxT 22 (fun x : List Int => [row5 x]) rowIn :=
  opens_slice (cx := cxT) (e := 5) (good := fun y : Int => (Lit.int .u8 y).wf = true) underlying22 cells5 (by decide) cxT_ok (opens_int (cx := cxT) underlying5)
def encP (p : Pk) : List (L cxT.ty) := [lv (.int .i64 p.1), lv (.int .i64 p.2.1), lv (.int .i64 p.2.2.1), lv (.int .i64 p.2.2.2.1), lv (.int .i64 p.2.2.2.2.1), row5 p.2.2.2.2.2]
def opP_good (p : Pk) : Prop := i64In p.1 ∧ i64In p.2.1 ∧ i64In p.2.2.1 ∧ i64In p.2.2.2.1 ∧ i64In p.2.2.2.2.1 ∧ rowIn p.2.2.2.2.2
theorem opP : Opens prog cxT 34 encP opP_good :=
  opens_struct underlying34 cells34 (opensF_cons (opens_int underlying2) rfl cells2 (opensF_cons (opens_int underlying2) rfl cells2 (opensF_cons (opens_int underlying2) rfl cells2 (opensF_cons (opens_int underlying2) rfl cells2 (opensF_cons (opens_int underlying2) rfl cells2 (opensF_one (l := row5) opR rfl cells22))))))
end Go.Proofs.Try

set_option maxHeartbeats 0
set_option linter.unusedVariables false
set_option linter.unusedSimpArgs false
namespace Go.Proofs.Try
open Go Go.VM Go.RowKit

theorem vals5 (a : List Int) : (flatVals cxT 5 a).map VM.byteOf = a := by
  have h : ∀ a : List Int, ((a.flatMap (fun x : Int => ([lv (.int .u8 x)] : List (L cxT.ty)))).filterMap leafVal).map VM.byteOf = a := by
    intro a
    induction a with
    | nil => rfl
    | cons x r ih =>
      simp only [List.flatMap_cons, List.singleton_append, List.filterMap_cons, lv, leafVal, List.map_cons] at ih ⊢
      rw [ih]
      rfl
  exact h a
theorem str_eq (a b : List Int) (ha : okB a = true) (hb : okB b = true) : (ByteArray.toList (strV (flatVals cxT 5 a)) == ByteArray.toList (strV (flatVals cxT 5 b))) = decide (a = b) := by
  unfold strV
  rw [vals5, vals5, toList_data, toList_data, push_fold, push_fold]
  by_cases h : a = b
  · rw [h]; simp
  · rw [df h]
    have : ¬ (ByteArray.empty.data.toList ++ a.map (fun n => UInt8.ofNat n.toNat) = ByteArray.empty.data.toList ++ b.map (fun n => UInt8.ofNat n.toNat)) := fun he => h (bytes_inj a b ha hb (List.append_cancel_left he))
    simpa using this

def m70 (x : List Int × List Int) : Option Bool := if okB x.1 = true ∧ okB x.2 = true then some (decide (x.1 = x.2)) else none
theorem sat70 : Sat prog cxT 70 (c70 m70) := s70 m70 fun x t h => by
  obtain ⟨a, b⟩ := x
  unfold m70 at h
  split at h
  · rename_i hc
    cases h
    refine ⟨0, ?_⟩
    show g70 0 a b = _
    unfold g70
    rw [str_eq a b hc.1 hc.2]
  · cases h
def mSame (x : Pk × Pk) : Option Bool := if okB x.1.2.2.2.2.2 = true ∧ okB x.2.2.2.2.2.2 = true then some (decide (x.1 = x.2)) else none
theorem beqT {a b : Int} (h : a = b) : (a == b) = true := by simpa using h
theorem beqF {a b : Int} (h : ¬ a = b) : (a == b) = false := by simpa using h
theorem sat40 : Sat prog cxT 40 (c40 mSame) := s40 m70 sat70 mSame fun x t h => by
  obtain ⟨⟨a, b, c, d, e, l⟩, a', b', c', d', e', l'⟩ := x
  unfold mSame at h
  split at h
  · rename_i hc
    cases h
    refine ⟨0, ?_⟩
    show g40 m70 0 a b c d e l a' b' c' d' e' l' = _
    have e1 : m70 (l, l') = some (decide (l = l')) := if_pos hc
    unfold g40
    simp only [e1, Option.isSome_some, Option.getD_some, cond_true]
    by_cases h1 : a = a'
    · by_cases h2 : b = b'
      · by_cases h3 : c = c'
        · by_cases h4 : d = d'
          · by_cases h5 : e = e'
            · rw [beqT h1, beqT h2, beqT h3, beqT h4, beqT h5]
              by_cases h6 : l = l' <;> simp [h1, h2, h3, h4, h5, h6]
            · rw [beqT h1, beqT h2, beqT h3, beqT h4, beqF h5]; simp [h5]
          · rw [beqT h1, beqT h2, beqT h3, beqF h4]; simp [h4]
        · rw [beqT h1, beqT h2, beqF h3]; simp [h3]
      · rw [beqT h1, beqF h2]; simp [h2]
    · rw [beqF h1]; simp [h1]
  · cases h
theorem sat39 : Sat prog cxT 39 (c39 mSame) := s39 mSame fun x t h => by
  obtain ⟨⟨a, b, c, d, e, l⟩, a', b', c', d', e', l'⟩ := x
  unfold mSame at h
  split at h
  · rename_i hc
    cases h
    refine ⟨0, ?_⟩
    show g39 0 a b c d e l a' b' c' d' e' l' = _
    have e1 := str_eq l l' hc.1 hc.2
    unfold g39
    rw [e1]
    by_cases h1 : a = a'
    · by_cases h2 : b = b'
      · by_cases h3 : c = c'
        · by_cases h4 : d = d'
          · by_cases h5 : e = e'
            · rw [beqT h1, beqT h2, beqT h3, beqT h4, beqT h5]
              by_cases h6 : l = l' <;> simp [h1, h2, h3, h4, h5, h6]
            · rw [beqT h1, beqT h2, beqT h3, beqT h4, beqF h5]; simp [h5]
          · rw [beqT h1, beqT h2, beqT h3, beqF h4]; simp [h4]
        · rw [beqT h1, beqT h2, beqF h3]; simp [h3]
      · rw [beqT h1, beqF h2]; simp [h2]
    · rw [beqF h1]; simp [h1]
  · cases h

/-! FnExactSamePacket -/
def m9 (x : Pk × Pk) : Option Bool := if (okB x.1.2.2.2.2.2 = true ∧ x.1.2.2.2.2.2.length ≤ 9223372036854775807) ∧ okB x.2.2.2.2.2.2 = true ∧ x.2.2.2.2.2.2.length ≤ 9223372036854775807 then some true else none
theorem sat9 : Sat prog cxT 9 (c9 m9) := s9 m17 m19 mSame mSame m21 sat17 sat19 sat39 sat40 sat21 m9 fun x t h => by
  obtain ⟨⟨a, b, c, d, e, l⟩, a', b', c', d', e', l'⟩ := x
  unfold m9 at h
  split at h
  · rename_i hc
    cases h
    refine ⟨0, ?_⟩
    show g9 m17 m19 mSame mSame m21 0 a b c d e l a' b' c' d' e' l' = some true
    have e17 : m17 ((a, b, c, d, e, l), 1048576) = some (if (1048576 : Int) - (l.length : Int) < 0 then (-1 : Int) else (1048576 : Int) - (l.length : Int)) := if_pos ⟨hc.1.2, by show (0 : Int) ≤ 1048576; decide, by show (1048576 : Int) ≤ 1000000000000; decide⟩
    unfold g9
    simp only [e17, Option.isSome_some, Option.getD_some, cond_true]
    by_cases hk : (1048576 : Int) - (l.length : Int) < 0
    · rw [if_pos hk]; rfl
    · rw [if_neg hk, df hk]
      have e17' : m17 ((a', b', c', d', e', l'), (1048576 : Int) - (l.length : Int)) = some (if (1048576 : Int) - (l.length : Int) - (l'.length : Int) < 0 then (-1 : Int) else (1048576 : Int) - (l.length : Int) - (l'.length : Int)) := if_pos ⟨hc.2.2, by show (0 : Int) ≤ 1048576 - (l.length : Int); omega, by show (1048576 : Int) - (l.length : Int) ≤ 1000000000000; omega⟩
      simp only [e17', Option.isSome_some, Option.getD_some, cond_true, cond_false]
      by_cases hk' : (1048576 : Int) - (l.length : Int) - (l'.length : Int) < 0
      · rw [if_pos hk']; rfl
      · rw [if_neg hk', df hk']
        have e19 : m19 (a, b, c, d, e, l) = some (a, b, c, d, e, l) := if_pos (by show l.length ≤ 1000000000; omega)
        have e19' : m19 (a', b', c', d', e', l') = some (a', b', c', d', e', l') := if_pos (by show l'.length ≤ 1000000000; omega)
        have eS : mSame ((a, b, c, d, e, l), a', b', c', d', e', l') = some (decide ((a, b, c, d, e, l) = (a', b', c', d', e', l'))) := if_pos ⟨hc.1.1, hc.2.1⟩
        have e21 : m21 ((a, b, c, d, e, l), a, b, c, d, e, l) = some true := (if_pos ⟨by show l.length ≤ 1000000000000; omega, by show l.length ≤ 1000000000000; omega⟩).trans (by simp)
        have e21' : m21 ((a', b', c', d', e', l'), a', b', c', d', e', l') = some true := (if_pos ⟨by show l'.length ≤ 1000000000000; omega, by show l'.length ≤ 1000000000000; omega⟩).trans (by simp)
        simp only [e19, e19', eS, e21, e21', Option.isSome_some, Option.getD_some, cond_true, cond_false, Bool.not_true]
        generalize (decide ((a, b, c, d, e, l) = (a', b', c', d', e', l'))) = z
        cases z <;> rfl
  · cases h
theorem okB_in {x : List Int} (h : rowIn x) : okB x = true := by
  unfold okB
  rw [List.all_eq_true]
  intro y hy
  have := h.2 y hy
  simp [Lit.wf, IntKind.min, IntKind.max, IntKind.signed, IntKind.bits] at this
  simp; omega
end Go.Proofs.Try
