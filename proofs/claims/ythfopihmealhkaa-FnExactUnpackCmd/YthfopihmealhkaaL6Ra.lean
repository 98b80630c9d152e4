/- A part of the proof of FnExactUnpackCmd: L6Ra. -/
import Derived.Test.YthfopihmealhkaaL6Base
import Derived.WalkKit
import Derived.OwnWalkIn
import Derived.Below
import Derived.WalkMore
import Derived.Deep.RegionWith
import Derived.RangeFuncRecord
set_option linter.unusedVariables false
set_option linter.unusedSimpArgs false
namespace Go.Proofs.Try
open Go Go.VM Go.RowKit
/-! (*reader).cmd, by hand: its region draws its order -/
section
attribute [local go_sem] Oper.semAt_some
def z6 : Obj := .cells #[.int .i64 0, .int .i64 0, .int .i64 0, .int .i64 0, .int .i64 0, .int .i64 0] 46
theorem zfacts {W : World} {b : Nat} (h : W.heap[b]? = some z6) : (W.cell? ⟨b, 0, none⟩ = some (.int .i64 0) ∧ W.cell? ⟨b, 1, none⟩ = some (.int .i64 0) ∧ W.cell? ⟨b, 2, none⟩ = some (.int .i64 0) ∧ W.cell? ⟨b, 3, none⟩ = some (.int .i64 0) ∧ W.cell? ⟨b, 4, none⟩ = some (.int .i64 0) ∧ W.cell? ⟨b, 5, none⟩ = some (.int .i64 0)) ∧
    W.frozen? ⟨b, 0, none⟩ = false ∧ W.frozen? ⟨b, 1, none⟩ = false ∧ W.frozen? ⟨b, 2, none⟩ = false ∧ W.frozen? ⟨b, 3, none⟩ = false ∧ W.frozen? ⟨b, 4, none⟩ = false ∧ W.frozen? ⟨b, 5, none⟩ = false := by
  unfold z6 at h
  refine ⟨⟨?_, ?_, ?_, ?_, ?_, ?_⟩, ?_, ?_, ?_, ?_, ?_, ?_⟩ <;> simp [World.cell?, World.frozen?, h]
theorem cells6 {W : World} {b : Nat} {t : TypeId} {v0 v1 v2 v3 v4 v5 : Value} (h : W.heap[b]? = some (.cells #[v0, v1, v2, v3, v4, v5] t (0, 0))) : W.cell? ⟨b, 0, none⟩ = some v0 ∧ W.cell? ⟨b, 1, none⟩ = some v1 ∧ W.cell? ⟨b, 2, none⟩ = some v2 ∧ W.cell? ⟨b, 3, none⟩ = some v3 ∧ W.cell? ⟨b, 4, none⟩ = some v4 ∧ W.cell? ⟨b, 5, none⟩ = some v5 := by
  refine ⟨?_, ?_, ?_, ?_, ?_, ?_⟩ <;> simp [World.cell?, h]
theorem set6 (W : World) (b : Nat) (v0 v1 v2 v3 v4 v5 : Value) (h : W.heap[b]? = some z6) :
    (((((((W.setCell ⟨b, 0, none⟩ v0).setCell ⟨b, 1, none⟩ v1).setCell ⟨b, 2, none⟩ v2).setCell ⟨b, 3, none⟩ v3).setCell ⟨b, 4, none⟩ v4).setCell ⟨b, 5, none⟩ v5)).heap[b]? = some (.cells #[v0, v1, v2, v3, v4, v5] 46 (0, 0)) := by
  have h1 := heap_setCell_same W b 0 _ 46 v0 h
  have h2 := heap_setCell_same _ b 1 _ 46 v1 h1
  have h3 := heap_setCell_same _ b 2 _ 46 v2 h2
  have h4 := heap_setCell_same _ b 3 _ 46 v3 h3
  have h5 := heap_setCell_same _ b 4 _ 46 v4 h4
  exact heap_setCell_same _ b 5 _ 46 v5 h5
theorem set6_rest (W : World) (b : Nat) (v0 v1 v2 v3 v4 v5 : Value) (k : Nat) (hk : k ≠ b) :
    (((((((W.setCell ⟨b, 0, none⟩ v0).setCell ⟨b, 1, none⟩ v1).setCell ⟨b, 2, none⟩ v2).setCell ⟨b, 3, none⟩ v3).setCell ⟨b, 4, none⟩ v4).setCell ⟨b, 5, none⟩ v5)).heap[k]? = W.heap[k]? := by
  rw [heap_setCell_other _ _ _ _ hk, heap_setCell_other _ _ _ _ hk, heap_setCell_other _ _ _ _ hk, heap_setCell_other _ _ _ _ hk, heap_setCell_other _ _ _ _ hk, heap_setCell_other _ _ _ _ hk]
theorem set6_below (W : World) (b : Nat) (v0 v1 v2 v3 v4 v5 : Value) :
    Below b W (((((((W.setCell ⟨b, 0, none⟩ v0).setCell ⟨b, 1, none⟩ v1).setCell ⟨b, 2, none⟩ v2).setCell ⟨b, 3, none⟩ v3).setCell ⟨b, 4, none⟩ v4).setCell ⟨b, 5, none⟩ v5)) :=
  ((((((Below.refl b W).setCell (p := ⟨b, 0, none⟩) (Nat.le_refl _) _).setCell (p := ⟨b, 1, none⟩) (Nat.le_refl _) _).setCell (p := ⟨b, 2, none⟩) (Nat.le_refl _) _).setCell (p := ⟨b, 3, none⟩) (Nat.le_refl _) _).setCell (p := ⟨b, 4, none⟩) (Nat.le_refl _) _).setCell (p := ⟨b, 5, none⟩) (Nat.le_refl _) _
set_option maxRecDepth 100000 in
set_option maxHeartbeats 16000000 in
theorem dr64 (g : Nat) (w : World) (nv : List Int → Int → Int) (nr : List Int → Int → List Int) (S : List Int → World → Prop) (r : List Int) (hdr : ∀ i W, S i W → S i W.drew)
    (hbox : ∀ i W, S i W → W.heap[w.heap.size]? = some z6)
    (hS : S r (w.alloc (.cells #[.int .i64 0, .int .i64 0, .int .i64 0, .int .i64 0, .int .i64 0, .int .i64 0] 46)))
    (h113 : ∀ r W n, (n = 1 ∨ n = 2 ∨ n = 4) → S r W → Calls prog 113 #[.pointer (some ⟨g, 0, none⟩), .int .i64 n] W fun e W' => e = .returned (.int .i64 (nv r n)) ∧ S (nr r n) W')
    (h114 : ∀ r W, S r W → Calls prog 114 #[.pointer (some ⟨g, 0, none⟩)] W fun e W' => e = .returned (.int .i64 (nv r 2)) ∧ S (nr r 2) W')
    (G : Ending → World → Prop)
    (hG : ∀ W W', S (nr (nr (nr (nr (nr (nr r 1) 4) 2) 4) 2) 1) W → Below w.heap.size W W' → (∀ k, k ≠ w.heap.size → W'.heap[k]? = W.heap[k]?) → G (.returned (.agg #[.int .i64 (nv r 1), .int .i64 (IntKind.wrap .i64 (nv (nr r 1) 4 - 1)), .int .i64 (nv (nr (nr r 1) 4) 2), .int .i64 (nv (nr (nr (nr r 1) 4) 2) 4), .int .i64 (nv (nr (nr (nr (nr r 1) 4) 2) 4) 2), .int .i64 (nv (nr (nr (nr (nr (nr r 1) 4) 2) 4) 2) 1)])) W') :
    Calls prog 64 #[.pointer (some ⟨g, 0, none⟩)] w G := by
  go_enter func64, ntmps64
  go_wp2
  go_region_with (first
    | (go_at_call 114; first | (refine (h114 _ _ hS).mono ?_; clear hS; rintro e W' ⟨rfl, hS⟩; obtain ⟨⟨c0, c1, c2, c3, c4, c5⟩, k0, k1, k2, k3, k4, k5⟩ := zfacts (hbox _ _ hS)) | (refine (h114 _ _ (hdr _ _ hS)).mono ?_; clear hS; rintro e W' ⟨rfl, hS⟩; obtain ⟨⟨c0, c1, c2, c3, c4, c5⟩, k0, k1, k2, k3, k4, k5⟩ := zfacts (hbox _ _ hS)))
    | (go_at_call 113; first | (refine (h113 _ _ _ (by simp) hS).mono ?_; clear hS; rintro e W' ⟨rfl, hS⟩; obtain ⟨⟨c0, c1, c2, c3, c4, c5⟩, k0, k1, k2, k3, k4, k5⟩ := zfacts (hbox _ _ hS)) | (refine (h113 _ _ _ (by simp) (hdr _ _ hS)).mono ?_; clear hS; rintro e W' ⟨rfl, hS⟩; obtain ⟨⟨c0, c1, c2, c3, c4, c5⟩, k0, k1, k2, k3, k4, k5⟩ := zfacts (hbox _ _ hS))))
  have hq := hbox _ _ hS
  have hk := set6 W' w.heap.size (.int .i64 (nv r 1)) (.int .i64 (IntKind.wrap .i64 (nv (nr r 1) 4 - 1))) (.int .i64 (nv (nr (nr r 1) 4) 2)) (.int .i64 (nv (nr (nr (nr r 1) 4) 2) 4)) (.int .i64 (nv (nr (nr (nr (nr r 1) 4) 2) 4) 2)) (.int .i64 (nv (nr (nr (nr (nr (nr r 1) 4) 2) 4) 2) 1)) hq
  have hG' := hG W' _ hS (set6_below W' w.heap.size (.int .i64 (nv r 1)) (.int .i64 (IntKind.wrap .i64 (nv (nr r 1) 4 - 1))) (.int .i64 (nv (nr (nr r 1) 4) 2)) (.int .i64 (nv (nr (nr (nr r 1) 4) 2) 4)) (.int .i64 (nv (nr (nr (nr (nr r 1) 4) 2) 4) 2)) (.int .i64 (nv (nr (nr (nr (nr (nr r 1) 4) 2) 4) 2) 1)))
    (set6_rest W' w.heap.size (.int .i64 (nv r 1)) (.int .i64 (IntKind.wrap .i64 (nv (nr r 1) 4 - 1))) (.int .i64 (nv (nr (nr r 1) 4) 2)) (.int .i64 (nv (nr (nr (nr r 1) 4) 2) 4)) (.int .i64 (nv (nr (nr (nr (nr r 1) 4) 2) 4) 2)) (.int .i64 (nv (nr (nr (nr (nr (nr r 1) 4) 2) 4) 2) 1)))
  generalize ((((((W'.setCell ⟨w.heap.size, 0, none⟩ (.int .i64 (nv r 1))).setCell ⟨w.heap.size, 1, none⟩ (.int .i64 (IntKind.wrap .i64 (nv (nr r 1) 4 - 1)))).setCell ⟨w.heap.size, 2, none⟩ (.int .i64 (nv (nr (nr r 1) 4) 2))).setCell ⟨w.heap.size, 3, none⟩ (.int .i64 (nv (nr (nr (nr r 1) 4) 2) 4))).setCell ⟨w.heap.size, 4, none⟩ (.int .i64 (nv (nr (nr (nr (nr r 1) 4) 2) 4) 2))).setCell ⟨w.heap.size, 5, none⟩ (.int .i64 (nv (nr (nr (nr (nr (nr r 1) 4) 2) 4) 2) 1))) = Wf at hk hG' ⊢
  clear c0 c1 c2 c3 c4 c5 k0 k1 k2 k3 k4 k5
  obtain ⟨q0, q1, q2, q3, q4, q5⟩ := cells6 hk
  go_wp2
  refine bodyPost_ret (v := .agg #[.int .i64 (nv r 1), .int .i64 (IntKind.wrap .i64 (nv (nr r 1) 4 - 1)), .int .i64 (nv (nr (nr r 1) 4) 2), .int .i64 (nv (nr (nr (nr r 1) 4) 2) 4), .int .i64 (nv (nr (nr (nr (nr r 1) 4) 2) 4) 2), .int .i64 (nv (nr (nr (nr (nr (nr r 1) 4) 2) 4) 2) 1)]) ?_ rfl hG'
  simp [results, show f64.results = #[.cell 2 46] from rfl, go_sem, q0, q1, q2, q3, q4, q5]
end
end Go.Proofs.Try
