/- A part of the proof of FnOrders: L3Pr. -/
import Derived.Test.YteiaijhjndielaaL3Pq
import Derived.Test.YteiaijhjndielaaL3Fr
set_option maxHeartbeats 0
set_option linter.unusedVariables false
set_option linter.unusedSimpArgs false
namespace Go.Proofs.Try
open Go Go.VM Go.RowKit

/-! impl.Permutation, walked by hand -/
set_option maxRecDepth 100000 in
theorem perm_out (n : Nat) (hn : 5 ≤ n) (a : Int) (ha : ¬ isN a) (w : World) :
    CallsIn Fence.wide n prog 13 #[.int .i64 a] w fun e W' => e = .returned (.agg #[.int .i64 3, .slice none 0 0]) ∧ Below w.heap.size w W' := by
  have h1 : 1 ≤ n := by omega
  refine callsIn_of_wp func13 rfl trivial ?_ rfl
  simp only [ntmps13, List.size_toArray, List.length_cons, List.length_nil, Nat.reduceAdd, Nat.reduceSub, Array.replicate_succ, Array.replicate_zero, List.push_toArray, List.append_toArray, List.nil_append, List.cons_append]
  gi_wp2
  refine ⟨trivial, (callsIn_wide.2 (name_calls a _)).mono ?_⟩
  rintro e w1 ⟨rfl, hb1⟩
  rw [df ha]
  have hs1 := hb1.size
  rw [World.size_alloc] at hs1
  have q1 : w1.heap[w.heap.size]? = some (.cells #[.int .i64 0, .slice none 0 0] 27 (0, 0)) := (hb1.block w.heap.size (by simp)).trans (World.alloc_heap_new w _)
  have c0 : w1.cell? ⟨w.heap.size, 0, none⟩ = some (.int .i64 0) := by simp [World.cell?, q1]
  have c1 : w1.cell? ⟨w.heap.size, 1, none⟩ = some (.slice none 0 0) := by simp [World.cell?, q1]
  have f0 : w1.frozen? ⟨w.heap.size, 0, none⟩ = false := by simp [World.frozen?, q1]
  have f1 : w1.frozen? ⟨w.heap.size, 1, none⟩ = false := by simp [World.frozen?, q1]
  gi_wp2
  generalize hW2 : ((w1.setCell { block := w.heap.size, off := 0 } (Value.int IntKind.i64 3)).setCell { block := w.heap.size, off := 1 } (Value.slice none 0 0)) = W2
  have k0 : ∀ k, k ≠ w.heap.size → W2.heap[k]? = w1.heap[k]? := fun k hk => by
    rw [← hW2, heap_setCell_other _ _ _ _ hk, heap_setCell_other _ _ _ _ hk]
  have kr : W2.heap[w.heap.size]? = some (.cells #[.int .i64 3, .slice none 0 0] 27 (0, 0)) := by
    rw [← hW2]
    have := heap_setCell_same w1 w.heap.size 0 #[.int .i64 0, .slice none 0 0] 27 (.int .i64 3) q1
    rw [heap_setCell_same _ w.heap.size 1 _ 27 _ this]
    rfl
  have z0 : W2.cell? ⟨w.heap.size, 0, none⟩ = some (.int .i64 3) := by simp [World.cell?, kr]
  have z1 : W2.cell? ⟨w.heap.size, 1, none⟩ = some (.slice none 0 0) := by simp [World.cell?, kr]
  refine bodyPost_ret (v := .agg #[.int .i64 3, .slice none 0 0]) ?_ rfl ⟨rfl, ?_⟩
  · simp [results, show f13.results = #[.cell 2 27] from rfl, go_sem, z0, z1]
  · have e1 : Below w.heap.size w w1 := ((Below.refl _ w).alloc (Nat.le_refl _) _).trans (hb1.mono (by simp))
    rw [← hW2]
    exact (e1.setCell (p := ⟨w.heap.size, 0, none⟩) (Nat.le_refl _) _).setCell (p := ⟨w.heap.size, 1, none⟩) (Nat.le_refl _) _

theorem flat2 : ∀ xs : List Int, flatVals cxT 2 xs = xs.map (Value.int .i64)
  | [] => rfl
  | x :: r => by
    show Value.int .i64 x :: flatVals cxT 2 r = _
    rw [flat2 r]
    rfl
def permI (a : Int) : Int × List Int := if isN a then (0, upto (pl a) 31) else (3, [])
def mPerm (a : Int) : Option (Int × List Int) := some (permI a)
theorem sat13 : Sat prog cxT 13 (c13 mPerm) := by
  intro w A0 l us r hA hargs hF
  obtain ⟨x, t, rfl, hx, rfl⟩ := fnT_inv hF
  have hus : us = [.int .i64 x] := by
    match us, hargs with
    | [u], h =>
      have : u = .int .i64 x := h.2 0 _ u rfl rfl
      rw [this]
    | [], h => exact absurd (show 0 = 1 from h.1) (by decide)
    | _ :: _ :: r, h => exact absurd (show r.length + 2 = 1 from h.1) (by omega)
  subst hus
  cases hx
  by_cases hn : isN x
  · refine (callsIn_wide.1 (perm_in 5 (by omega) x hn w)).mono fun e w' ⟨v, he, hrow, hb⟩ => ⟨_, he, hb, ?_⟩
    show ResV cxT w' A0 _ (n13 (permI x)) _
    unfold permI
    rw [if_pos hn]
    have hfl : flatVals cxT 2 (upto (pl x) 31) = (upto (pl x) 31).map (Value.int .i64) := flat2 _
    have hob : ∀ b ∈ v.ownBlock.toList, w.heap.size ≤ b ∧ b < w'.heap.size := fun b hb => by
      rcases hrow.2 with ⟨rfl, _⟩ | ⟨g, cap, cur, rfl, hg, hh, _⟩
      · simp [Value.ownBlock] at hb
      · obtain rfl : b = g := by simpa [Value.ownBlock] using hb
        exact ⟨hg, (Array.getElem?_eq_some_iff.1 hh).1⟩
    refine ⟨v.ownBlock.toList, by cases v.ownBlock <;> simp, hob, [.int .i64 0, v], [[], v.ownBlock.toList], rfl, by simp, rfl, rfl, fun j a u f e1 e2 e3 => ?_⟩
    match j with
    | 0 =>
      simp only [List.getElem?_cons_zero, Option.some.injEq] at e1 e2 e3
      subst e1; subst e2; subst e3
      exact ⟨rfl, rfl⟩
    | 1 =>
      simp only [List.getElem?_cons_succ, List.getElem?_cons_zero, Option.some.injEq] at e1 e2 e3
      subst e1; subst e2; subst e3
      unfold ResL
      simp only [ls, if_true]
      refine ⟨trivial, 1, own_flat cxT_ok rfl ?_⟩
      show w'.ownsRow 0 2 1 v (upto (pl x) 31).length (flatVals cxT 2 (upto (pl x) 31))
      rw [hfl, upto_length]
      exact own_base hrow
    | j + 2 => simp at e1
  · refine (callsIn_wide.1 (perm_out 5 (by omega) x hn w)).mono fun e w' ⟨he, hb⟩ => ⟨_, he, hb, ?_⟩
    show ResV cxT w' A0 _ (n13 (permI x)) _
    unfold permI
    rw [if_neg hn]
    refine ⟨[], List.nodup_nil, by simp, [.int .i64 3, .slice none 0 0], [[], []], rfl, by simp, rfl, rfl, fun j a u f e1 e2 e3 => ?_⟩
    match j with
    | 0 =>
      simp only [List.getElem?_cons_zero, Option.some.injEq] at e1 e2 e3
      subst e1; subst e2; subst e3
      exact ⟨rfl, rfl⟩
    | 1 =>
      simp only [List.getElem?_cons_succ, List.getElem?_cons_zero, Option.some.injEq] at e1 e2 e3
      subst e1; subst e2; subst e3
      unfold ResL
      simp only [ls, if_true]
      exact ⟨trivial, 1, [], [], World.ownsRow_nil _ _ _ _, rfl, rfl, rfl, fun j l c f _ h => by simp at h⟩
    | j + 2 => simp at e1
end Go.Proofs.Try
