/- A part of the proof of FnExactUnwrapGre: L2Qf, L2Qh, L2Qg. -/
import Derived.WalkKit
import Derived.OwnWalkIn
import Derived.TacticsInMore
import Derived.LoopNIn
import Derived.LoopIn
import Derived.DefersIn
import Derived.RecoverIn
import Derived.Test.YtaegcoihgnobiaaVmL
import Derived.Test.YtaegcoihgnobiaaL2Base
import Derived.Test.YtaegcoihgnobiaaL2Ft
set_option linter.unusedVariables false
set_option linter.unusedSimpArgs false
namespace Go.Proofs.Try
open Go Go.VM Go.RowKit
attribute [local go_sem] Oper.semAt_some

theorem new_block (w : World) (o : Obj) : (w.alloc o).heap[w.heap.size]? = some o := by
  show (w.heap.push o)[w.heap.size]? = some o
  simp

/-! thrownCode -/
set_option maxRecDepth 100000 in
set_option maxHeartbeats 4000000 in
theorem thrown_in (code : Int) (w : World) (n : Nat) : CallsIn Fence.wide n prog 47 #[.iface 85 (.agg #[.int .i64 code])] w fun e w' => Below w.heap.size w w' ∧ e = .returned (.int .i64 code) := by
  refine callsIn_of_wp func47 rfl trivial ?_ rfl
  simp only [ntmps47, List.size_toArray, List.length_cons, List.length_nil, Nat.reduceAdd, Nat.reduceSub, Array.replicate_succ, Array.replicate_zero, List.push_toArray, List.append_toArray, List.nil_append, List.cons_append]
  have hta : ∀ w : World, (Instr.typeAssert (Value.iface 85 (Value.agg #[Value.int IntKind.i64 code])) 20 85 true).run prog w = .ok (.tuple #[.agg #[.int .i64 code], .bool true]) w := fun w => by kernel_rfl
  gi_wp2
  exact ⟨rfl, .int .i64 code, by kernel_rfl, (Below.refl _ _).alloc (Nat.le_refl _) _, rfl⟩

theorem set4 (w : World) (B : Nat) (a b c d a' b' c' d' : Value) (t : TypeId) (h : w.heap[B]? = some (.cells #[a, b, c, d] t (0, 0))) :
    Below B w ((((w.setCell ⟨B, 0, none⟩ a').setCell ⟨B, 1, none⟩ b').setCell ⟨B, 2, none⟩ c').setCell ⟨B, 3, none⟩ d') ∧
      ((((w.setCell ⟨B, 0, none⟩ a').setCell ⟨B, 1, none⟩ b').setCell ⟨B, 2, none⟩ c').setCell ⟨B, 3, none⟩ d').heap[B]? = some (.cells #[a', b', c', d'] t (0, 0)) := by
  refine ⟨((((Below.refl B w).setCell (p := ⟨B, 0, none⟩) (Nat.le_refl _) _).setCell (p := ⟨B, 1, none⟩) (Nat.le_refl _) _).setCell (p := ⟨B, 2, none⟩) (Nat.le_refl _) _).setCell (p := ⟨B, 3, none⟩) (Nat.le_refl _) _, ?_⟩
  have h1 := heap_setCell_same w B 0 _ t a' h
  have h2 := heap_setCell_same _ B 1 _ t b' h1
  have h3 := heap_setCell_same _ B 2 _ t c' h2
  exact heap_setCell_same _ B 3 _ t d' h3

/-! the closures that recover -/
set_option maxRecDepth 100000 in
set_option maxHeartbeats 4000000 in
theorem catch46_idle (p : Addr) (w : World) (n : Nat) :
    CallsDIn Fence.wide n prog 46 #[.pointer (some p)] .returning w fun e u' w' => e = .returned (.tuple #[]) ∧ u' = .returning ∧ w' = w := by
  refine callsDIn_of_wpSIn func46 rfl trivial fun c₀ cs hu => ?_
  apply wpSIn_seq
  apply wpSIn_region
  simp [wpOpsSIn, go_sem, recoverD, hu, ntmps46, Exit.thenS]
  apply wpSIn_seq
  apply wpSIn_region
  simp [wpOpsSIn, go_sem, recoverD, hu, ntmps46, Exit.thenS]
  refine wpSIn_cond (t := false) (by simp [Act.eval, Array.replicate]) ?_
  simp only [Bool.false_eq_true, if_false]
  refine wpSIn_of_wpIn rfl (wpIn_skip ?_)
  cases c₀
  simp_all [bodyPostS, results, results46]

set_option maxRecDepth 100000 in
set_option maxHeartbeats 4000000 in
theorem catch46_panic (B : Nat) (code : Int) (older : List PanicEntry) (w : World) (n : Nat) (hB : w.heap[B]? = some (.cells #[.int .i64 0, .int .i64 0, .int .i64 0, .slice none 0 0] 26 (0, 0))) :
    CallsDIn Fence.wide (n + 1) prog 46 #[.pointer (some ⟨B, 0, none⟩)] (.panicking ({ v := .iface 85 (.agg #[.int .i64 code]), recovered := false } :: older)) w fun e u' w' => e = .returned (.tuple #[]) ∧ u' = .panicking ({ v := .iface 85 (.agg #[.int .i64 code]), recovered := true } :: older) ∧ Below B w w' ∧ w'.heap[B]? = some (.cells #[.int .i64 code, .int .i64 0, .int .i64 0, .slice none 0 0] 26 (0, 0)) := by
  refine callsDIn_of_wpSIn func46 rfl trivial fun c₀ cs hu => ?_
  apply wpSIn_seq
  apply wpSIn_region
  simp [wpOpsSIn, go_sem, recoverD, hu, ntmps46, Exit.thenS]
  apply wpSIn_seq
  apply wpSIn_region
  simp [wpOpsSIn, go_sem, recoverD, hu, ntmps46, Exit.thenS]
  refine wpSIn_cond (t := true) (by simp [Act.eval, Array.replicate]) ?_
  simp only [if_true]
  refine wpSIn_of_wpIn rfl ?_
  gi_wp2
  refine ⟨trivial, (thrown_in code w n).mono ?_⟩
  rintro e w1 ⟨hb1, rfl⟩
  have hlt : B < w.heap.size := (Array.getElem?_eq_some_iff.1 hB).1
  have q1 : w1.heap[B]? = some (.cells #[.int .i64 0, .int .i64 0, .int .i64 0, .slice none 0 0] 26 (0, 0)) := (hb1.block B hlt).trans hB
  have c0 : w1.cell? ⟨B, 0, none⟩ = some (.int .i64 0) := by simp [World.cell?, q1]
  have c1 : w1.cell? ⟨B, 1, none⟩ = some (.int .i64 0) := by simp [World.cell?, q1]
  have c2 : w1.cell? ⟨B, 2, none⟩ = some (.int .i64 0) := by simp [World.cell?, q1]
  have c3 : w1.cell? ⟨B, 3, none⟩ = some (.slice none 0 0) := by simp [World.cell?, q1]
  have f0 : w1.frozen? ⟨B, 0, none⟩ = false := by simp [World.frozen?, q1]
  have f1 : w1.frozen? ⟨B, 1, none⟩ = false := by simp [World.frozen?, q1]
  have f2 : w1.frozen? ⟨B, 2, none⟩ = false := by simp [World.frozen?, q1]
  have f3 : w1.frozen? ⟨B, 3, none⟩ = false := by simp [World.frozen?, q1]
  gi_wp2
  obtain ⟨hk, hn⟩ := set4 w1 B (.int .i64 0) (.int .i64 0) (.int .i64 0) (.slice none 0 0) (.int .i64 code) (.int .i64 0) (.int .i64 0) (.slice none 0 0) 26 q1
  exact ⟨rfl, _, rfl, .tuple #[], by simp [results, results46], rfl, rfl, (hb1.mono (by omega)).trans hk, hn⟩

/-! the face of readGre -/
def box26 : Obj := .cells #[.int .i64 0, .int .i64 0, .int .i64 0, .slice none 0 0] 26
set_option maxRecDepth 100000 in
set_option maxHeartbeats 8000000 in
theorem face12_throws (u0 : Value) (code : Int) (w : World) (n : Nat)
    (h48 : CallsIn Fence.wide (n + 1) prog 48 #[u0] (w.alloc box26) fun e w2 => Below (w.alloc box26).heap.size (w.alloc box26) w2 ∧ e = .panicked [{ v := .iface 85 (.agg #[.int .i64 code]), recovered := false }]) :
    CallsIn Fence.wide (n + 2) prog 12 #[u0] w fun e w' => Below w.heap.size w w' ∧ e = .returned (.agg #[.int .i64 code, .int .i64 0, .int .i64 0, .slice none 0 0]) := by
  have hmf : ∀ (fn : Fn) (first cap : Array Value) (w : World), (Instr.makeFunc fn first cap).run prog w = .ok (.func fn first cap) w := fun _ _ _ _ => rfl
  refine callsIn_of_wp_defers func12 rfl trivial ?_
  simp only [ntmps12, List.size_toArray, List.length_cons, List.length_nil, Nat.reduceAdd, Nat.reduceSub, Array.replicate_succ, Array.replicate_zero, List.push_toArray, List.append_toArray, List.nil_append, List.cons_append]
  gi_wp2
  refine ⟨trivial, h48.mono ?_⟩
  rintro e w2 ⟨hb2, rfl⟩
  have q2 : w2.heap[w.heap.size]? = some box26 := (hb2.block w.heap.size (by simp)).trans (new_block w _)
  refine leavesIn_cons (f := 46) (args := #[.pointer (some ⟨w.heap.size, 0, none⟩)]) (by simp) (fun _ => by omega) (by simp [go_sem]) (fun _ _ => trivial) ?_
  refine (catch46_panic w.heap.size code [] w2 n q2).mono ?_
  rintro e u' w3 ⟨rfl, rfl, hb3, q3⟩
  have c0 : w3.cell? ⟨w.heap.size, 0, none⟩ = some (.int .i64 code) := by simp [World.cell?, q3]
  have c1 : w3.cell? ⟨w.heap.size, 1, none⟩ = some (.int .i64 0) := by simp [World.cell?, q3]
  have c2 : w3.cell? ⟨w.heap.size, 2, none⟩ = some (.int .i64 0) := by simp [World.cell?, q3]
  have c3 : w3.cell? ⟨w.heap.size, 3, none⟩ = some (.slice none 0 0) := by simp [World.cell?, q3]
  have hbb : Below w.heap.size w w3 := (((Below.refl _ w).alloc (Nat.le_refl _) _).trans (hb2.mono (by simp))).trans hb3
  simp [LeavesIn, settle, results, results12, go_sem, c0, c1, c2, c3, hbb]

theorem set4_rest (w : World) (B : Nat) (a' b' c' d' : Value) (k : Nat) (hk : k ≠ B) :
    ((((w.setCell ⟨B, 0, none⟩ a').setCell ⟨B, 1, none⟩ b').setCell ⟨B, 2, none⟩ c').setCell ⟨B, 3, none⟩ d').heap[k]? = w.heap[k]? := by
  rw [heap_setCell_other _ _ _ _ hk, heap_setCell_other _ _ _ _ hk, heap_setCell_other _ _ _ _ hk, heap_setCell_other _ _ _ _ hk]
theorem heap_size_of {w w' : World} {B : Nat} {o o' : Obj} (hB : w.heap[B]? = some o) (hB' : w'.heap[B]? = some o') (h : ∀ k, k ≠ B → w'.heap[k]? = w.heap[k]?) : w'.heap.size = w.heap.size := by
  have key : ∀ k : Nat, k < w'.heap.size ↔ k < w.heap.size := fun k => by
    by_cases hk : k = B
    · subst hk
      exact ⟨fun _ => (Array.getElem?_eq_some_iff.1 hB).1, fun _ => (Array.getElem?_eq_some_iff.1 hB').1⟩
    · have := h k hk
      constructor
      · intro h1
        rw [Array.getElem?_eq_getElem h1] at this
        exact (Array.getElem?_eq_some_iff.1 this.symm).1
      · intro h1
        rw [Array.getElem?_eq_getElem h1] at this
        exact (Array.getElem?_eq_some_iff.1 this).1
  have h1 := key w.heap.size
  have h2 := key w'.heap.size
  omega
set_option maxRecDepth 100000 in
set_option maxHeartbeats 8000000 in
theorem face12_back (u0 : Value) (w : World) (n : Nat) (Pq : Int → Int → Int → Option Addr → Nat → Nat → World → Prop)
    (h48 : CallsIn Fence.wide (n + 1) prog 48 #[u0] (w.alloc box26) fun e w2 => Below (w.alloc box26).heap.size (w.alloc box26) w2 ∧ ∃ a b c d l m, e = .returned (.agg #[.int .i64 a, .int .i64 b, .int .i64 c, .slice d l m]) ∧ Pq a b c d l m w2) :
    CallsIn Fence.wide (n + 2) prog 12 #[u0] w fun e w' => ∃ a b c d l m w2, e = .returned (.agg #[.int .i64 a, .int .i64 b, .int .i64 c, .slice d l m]) ∧ Pq a b c d l m w2 ∧ Below (w.alloc box26).heap.size (w.alloc box26) w2 ∧ Below w.heap.size w w' ∧ w'.heap.size = w2.heap.size ∧ ∀ k, k ≠ w.heap.size → w'.heap[k]? = w2.heap[k]? := by
  have hmf : ∀ (fn : Fn) (first cap : Array Value) (w : World), (Instr.makeFunc fn first cap).run prog w = .ok (.func fn first cap) w := fun _ _ _ _ => rfl
  refine callsIn_of_wp_defers func12 rfl trivial ?_
  simp only [ntmps12, List.size_toArray, List.length_cons, List.length_nil, Nat.reduceAdd, Nat.reduceSub, Array.replicate_succ, Array.replicate_zero, List.push_toArray, List.append_toArray, List.nil_append, List.cons_append]
  gi_wp2
  refine ⟨trivial, h48.mono ?_⟩
  rintro e w2 ⟨hb2, a, b, c, d, l, m, rfl, hP⟩
  have q2 : w2.heap[w.heap.size]? = some box26 := (hb2.block w.heap.size (by simp)).trans (new_block w _)
  have c0 : w2.cell? ⟨w.heap.size, 0, none⟩ = some (.int .i64 0) := by simp [World.cell?, q2, box26]
  have c1 : w2.cell? ⟨w.heap.size, 1, none⟩ = some (.int .i64 0) := by simp [World.cell?, q2, box26]
  have c2 : w2.cell? ⟨w.heap.size, 2, none⟩ = some (.int .i64 0) := by simp [World.cell?, q2, box26]
  have c3 : w2.cell? ⟨w.heap.size, 3, none⟩ = some (.slice none 0 0) := by simp [World.cell?, q2, box26]
  have f0 : w2.frozen? ⟨w.heap.size, 0, none⟩ = false := by simp [World.frozen?, q2, box26]
  have f1 : w2.frozen? ⟨w.heap.size, 1, none⟩ = false := by simp [World.frozen?, q2, box26]
  have f2 : w2.frozen? ⟨w.heap.size, 2, none⟩ = false := by simp [World.frozen?, q2, box26]
  have f3 : w2.frozen? ⟨w.heap.size, 3, none⟩ = false := by simp [World.frozen?, q2, box26]
  gi_wp2
  obtain ⟨hb3, q3⟩ := set4 w2 w.heap.size (.int .i64 0) (.int .i64 0) (.int .i64 0) (.slice none 0 0) (.int .i64 a) (.int .i64 b) (.int .i64 c) (.slice d l m) 26 q2
  have hr := set4_rest w2 w.heap.size (.int .i64 a) (.int .i64 b) (.int .i64 c) (.slice d l m)
  generalize ((((w2.setCell { block := w.heap.size, off := 0 } (Value.int IntKind.i64 a)).setCell { block := w.heap.size, off := 1 } (Value.int IntKind.i64 b)).setCell { block := w.heap.size, off := 2 } (Value.int IntKind.i64 c)).setCell { block := w.heap.size, off := 3 } (Value.slice d l m)) = w3 at hb3 q3 hr ⊢
  refine leavesIn_cons (f := 46) (args := #[.pointer (some ⟨w.heap.size, 0, none⟩)]) (by simp) (fun _ => by omega) (by simp [go_sem]) (fun _ _ => trivial) ?_
  refine (catch46_idle ⟨w.heap.size, 0, none⟩ w3 _).mono ?_
  rintro e u' w4 ⟨rfl, rfl, rfl⟩
  have c0 : w4.cell? ⟨w.heap.size, 0, none⟩ = some (.int .i64 a) := by simp [World.cell?, q3]
  have c1 : w4.cell? ⟨w.heap.size, 1, none⟩ = some (.int .i64 b) := by simp [World.cell?, q3]
  have c2 : w4.cell? ⟨w.heap.size, 2, none⟩ = some (.int .i64 c) := by simp [World.cell?, q3]
  have c3 : w4.cell? ⟨w.heap.size, 3, none⟩ = some (.slice d l m) := by simp [World.cell?, q3]
  have hbb : Below w.heap.size w w4 := (((Below.refl _ w).alloc (Nat.le_refl _) _).trans (hb2.mono (by simp))).trans hb3
  have hz := heap_size_of q2 q3 hr
  simp [LeavesIn, settle, results, results12, go_sem, c0, c1, c2, c3]
  exact ⟨a, b, c, d, l, m, ⟨rfl, rfl, rfl, rfl, rfl, rfl⟩, w2, hP, by simpa using hb2, hbb, hz, hr⟩
end Go.Proofs.Try

set_option linter.unusedVariables false
set_option linter.unusedSimpArgs false
namespace Go.Proofs.Try
open Go Go.VM Go.RowKit
attribute [local go_sem] Oper.semAt_some

theorem set7 (w : World) (B : Nat) (a b c d e f g a' b' c' d' e' f' g' : Value) (t : TypeId) (h : w.heap[B]? = some (.cells #[a, b, c, d, e, f, g] t (0, 0))) :
    Below B w (((((((w.setCell ⟨B, 0, none⟩ a').setCell ⟨B, 1, none⟩ b').setCell ⟨B, 2, none⟩ c').setCell ⟨B, 3, none⟩ d').setCell ⟨B, 4, none⟩ e').setCell ⟨B, 5, none⟩ f').setCell ⟨B, 6, none⟩ g') ∧ (((((((w.setCell ⟨B, 0, none⟩ a').setCell ⟨B, 1, none⟩ b').setCell ⟨B, 2, none⟩ c').setCell ⟨B, 3, none⟩ d').setCell ⟨B, 4, none⟩ e').setCell ⟨B, 5, none⟩ f').setCell ⟨B, 6, none⟩ g').heap[B]? = some (.cells #[a', b', c', d', e', f', g'] t (0, 0)) := by
  refine ⟨((((((((Below.refl B w).setCell (p := ⟨B, 0, none⟩) (Nat.le_refl _) _).setCell (p := ⟨B, 1, none⟩) (Nat.le_refl _) _).setCell (p := ⟨B, 2, none⟩) (Nat.le_refl _) _).setCell (p := ⟨B, 3, none⟩) (Nat.le_refl _) _).setCell (p := ⟨B, 4, none⟩) (Nat.le_refl _) _).setCell (p := ⟨B, 5, none⟩) (Nat.le_refl _) _).setCell (p := ⟨B, 6, none⟩) (Nat.le_refl _) _), ?_⟩
  have h1 : (w.setCell ⟨B, 0, none⟩ a').heap[B]? = some (.cells #[a', b, c, d, e, f, g] t (0, 0)) := heap_setCell_same w B 0 _ t a' h
  have h2 : ((w.setCell ⟨B, 0, none⟩ a').setCell ⟨B, 1, none⟩ b').heap[B]? = some (.cells #[a', b', c, d, e, f, g] t (0, 0)) := heap_setCell_same (w.setCell ⟨B, 0, none⟩ a') B 1 _ t b' h1
  have h3 : (((w.setCell ⟨B, 0, none⟩ a').setCell ⟨B, 1, none⟩ b').setCell ⟨B, 2, none⟩ c').heap[B]? = some (.cells #[a', b', c', d, e, f, g] t (0, 0)) := heap_setCell_same ((w.setCell ⟨B, 0, none⟩ a').setCell ⟨B, 1, none⟩ b') B 2 _ t c' h2
  have h4 : ((((w.setCell ⟨B, 0, none⟩ a').setCell ⟨B, 1, none⟩ b').setCell ⟨B, 2, none⟩ c').setCell ⟨B, 3, none⟩ d').heap[B]? = some (.cells #[a', b', c', d', e, f, g] t (0, 0)) := heap_setCell_same (((w.setCell ⟨B, 0, none⟩ a').setCell ⟨B, 1, none⟩ b').setCell ⟨B, 2, none⟩ c') B 3 _ t d' h3
  have h5 : (((((w.setCell ⟨B, 0, none⟩ a').setCell ⟨B, 1, none⟩ b').setCell ⟨B, 2, none⟩ c').setCell ⟨B, 3, none⟩ d').setCell ⟨B, 4, none⟩ e').heap[B]? = some (.cells #[a', b', c', d', e', f, g] t (0, 0)) := heap_setCell_same ((((w.setCell ⟨B, 0, none⟩ a').setCell ⟨B, 1, none⟩ b').setCell ⟨B, 2, none⟩ c').setCell ⟨B, 3, none⟩ d') B 4 _ t e' h4
  have h6 : ((((((w.setCell ⟨B, 0, none⟩ a').setCell ⟨B, 1, none⟩ b').setCell ⟨B, 2, none⟩ c').setCell ⟨B, 3, none⟩ d').setCell ⟨B, 4, none⟩ e').setCell ⟨B, 5, none⟩ f').heap[B]? = some (.cells #[a', b', c', d', e', f', g] t (0, 0)) := heap_setCell_same (((((w.setCell ⟨B, 0, none⟩ a').setCell ⟨B, 1, none⟩ b').setCell ⟨B, 2, none⟩ c').setCell ⟨B, 3, none⟩ d').setCell ⟨B, 4, none⟩ e') B 5 _ t f' h5
  exact heap_setCell_same ((((((w.setCell ⟨B, 0, none⟩ a').setCell ⟨B, 1, none⟩ b').setCell ⟨B, 2, none⟩ c').setCell ⟨B, 3, none⟩ d').setCell ⟨B, 4, none⟩ e').setCell ⟨B, 5, none⟩ f') B 6 _ t g' h6
theorem set7_rest (w : World) (B : Nat) (a' b' c' d' e' f' g' : Value) (k : Nat) (hk : k ≠ B) :
    (((((((w.setCell ⟨B, 0, none⟩ a').setCell ⟨B, 1, none⟩ b').setCell ⟨B, 2, none⟩ c').setCell ⟨B, 3, none⟩ d').setCell ⟨B, 4, none⟩ e').setCell ⟨B, 5, none⟩ f').setCell ⟨B, 6, none⟩ g').heap[k]? = w.heap[k]? := by
  exact ((heap_setCell_other _ _ _ _ hk).trans ((heap_setCell_other _ _ _ _ hk).trans ((heap_setCell_other _ _ _ _ hk).trans ((heap_setCell_other _ _ _ _ hk).trans ((heap_setCell_other _ _ _ _ hk).trans ((heap_setCell_other _ _ _ _ hk).trans (heap_setCell_other _ _ _ _ hk)))))))

/-! the closures that recover -/
set_option maxRecDepth 100000 in
set_option maxHeartbeats 4000000 in
theorem catch67_idle (p : Addr) (w : World) (n : Nat) :
    CallsDIn Fence.wide n prog 67 #[.pointer (some p)] .returning w fun e u' w' => e = .returned (.tuple #[]) ∧ u' = .returning ∧ w' = w := by
  refine callsDIn_of_wpSIn func67 rfl trivial fun c₀ cs hu => ?_
  apply wpSIn_seq
  apply wpSIn_region
  simp [wpOpsSIn, go_sem, recoverD, hu, ntmps67, Exit.thenS]
  apply wpSIn_seq
  apply wpSIn_region
  simp [wpOpsSIn, go_sem, recoverD, hu, ntmps67, Exit.thenS]
  refine wpSIn_cond (t := false) (by simp [Act.eval, Array.replicate]) ?_
  simp only [Bool.false_eq_true, if_false]
  refine wpSIn_of_wpIn rfl (wpIn_skip ?_)
  cases c₀
  simp_all [bodyPostS, results, results67]

set_option maxRecDepth 100000 in
set_option maxHeartbeats 4000000 in
theorem catch67_panic (B : Nat) (code : Int) (older : List PanicEntry) (w : World) (n : Nat) (hB : w.heap[B]? = some (.cells #[.int .i64 0, .int .i64 0, .int .i64 0, .int .i64 0, .int .i64 0, .int .i64 0, .slice none 0 0] 46 (0, 0))) :
    CallsDIn Fence.wide (n + 1) prog 67 #[.pointer (some ⟨B, 0, none⟩)] (.panicking ({ v := .iface 85 (.agg #[.int .i64 code]), recovered := false } :: older)) w fun e u' w' => e = .returned (.tuple #[]) ∧ u' = .panicking ({ v := .iface 85 (.agg #[.int .i64 code]), recovered := true } :: older) ∧ Below B w w' ∧ w'.heap[B]? = some (.cells #[.int .i64 code, .int .i64 0, .int .i64 0, .int .i64 0, .int .i64 0, .int .i64 0, .slice none 0 0] 46 (0, 0)) := by
  refine callsDIn_of_wpSIn func67 rfl trivial fun c₀ cs hu => ?_
  apply wpSIn_seq
  apply wpSIn_region
  simp [wpOpsSIn, go_sem, recoverD, hu, ntmps67, Exit.thenS]
  apply wpSIn_seq
  apply wpSIn_region
  simp [wpOpsSIn, go_sem, recoverD, hu, ntmps67, Exit.thenS]
  refine wpSIn_cond (t := true) (by simp [Act.eval, Array.replicate]) ?_
  simp only [if_true]
  refine wpSIn_of_wpIn rfl ?_
  gi_wp2
  refine ⟨trivial, (thrown_in code w n).mono ?_⟩
  rintro e w1 ⟨hb1, rfl⟩
  have hlt : B < w.heap.size := (Array.getElem?_eq_some_iff.1 hB).1
  have q1 : w1.heap[B]? = some (.cells #[.int .i64 0, .int .i64 0, .int .i64 0, .int .i64 0, .int .i64 0, .int .i64 0, .slice none 0 0] 46 (0, 0)) := (hb1.block B hlt).trans hB
  have c0 : w1.cell? ⟨B, 0, none⟩ = some (.int .i64 0) := by simp [World.cell?, q1]
  have c1 : w1.cell? ⟨B, 1, none⟩ = some (.int .i64 0) := by simp [World.cell?, q1]
  have c2 : w1.cell? ⟨B, 2, none⟩ = some (.int .i64 0) := by simp [World.cell?, q1]
  have c3 : w1.cell? ⟨B, 3, none⟩ = some (.int .i64 0) := by simp [World.cell?, q1]
  have c4 : w1.cell? ⟨B, 4, none⟩ = some (.int .i64 0) := by simp [World.cell?, q1]
  have c5 : w1.cell? ⟨B, 5, none⟩ = some (.int .i64 0) := by simp [World.cell?, q1]
  have c6 : w1.cell? ⟨B, 6, none⟩ = some (.slice none 0 0) := by simp [World.cell?, q1]
  have f0 : w1.frozen? ⟨B, 0, none⟩ = false := by simp [World.frozen?, q1]
  have f1 : w1.frozen? ⟨B, 1, none⟩ = false := by simp [World.frozen?, q1]
  have f2 : w1.frozen? ⟨B, 2, none⟩ = false := by simp [World.frozen?, q1]
  have f3 : w1.frozen? ⟨B, 3, none⟩ = false := by simp [World.frozen?, q1]
  have f4 : w1.frozen? ⟨B, 4, none⟩ = false := by simp [World.frozen?, q1]
  have f5 : w1.frozen? ⟨B, 5, none⟩ = false := by simp [World.frozen?, q1]
  have f6 : w1.frozen? ⟨B, 6, none⟩ = false := by simp [World.frozen?, q1]
  gi_wp2
  obtain ⟨hk, hn⟩ := set7 w1 B (.int .i64 0) (.int .i64 0) (.int .i64 0) (.int .i64 0) (.int .i64 0) (.int .i64 0) (.slice none 0 0) (.int .i64 code) (.int .i64 0) (.int .i64 0) (.int .i64 0) (.int .i64 0) (.int .i64 0) (.slice none 0 0) 46 q1
  exact ⟨rfl, _, rfl, .tuple #[], by simp [results, results67], rfl, rfl, (hb1.mono (by omega)).trans hk, hn⟩

/-! the face of readGre -/
def box46 : Obj := .cells #[.int .i64 0, .int .i64 0, .int .i64 0, .int .i64 0, .int .i64 0, .int .i64 0, .slice none 0 0] 46
set_option maxRecDepth 100000 in
set_option maxHeartbeats 8000000 in
theorem face30_throws (u0 : Value) (code : Int) (w : World) (n : Nat)
    (h68 : CallsIn Fence.wide (n + 1) prog 68 #[u0] (w.alloc box46) fun e w2 => Below (w.alloc box46).heap.size (w.alloc box46) w2 ∧ e = .panicked [{ v := .iface 85 (.agg #[.int .i64 code]), recovered := false }]) :
    CallsIn Fence.wide (n + 2) prog 30 #[u0] w fun e w' => Below w.heap.size w w' ∧ e = .returned (.agg #[.int .i64 code, .int .i64 0, .int .i64 0, .int .i64 0, .int .i64 0, .int .i64 0, .slice none 0 0]) := by
  have hmf : ∀ (fn : Fn) (first cap : Array Value) (w : World), (Instr.makeFunc fn first cap).run prog w = .ok (.func fn first cap) w := fun _ _ _ _ => rfl
  refine callsIn_of_wp_defers func30 rfl trivial ?_
  simp only [ntmps30, List.size_toArray, List.length_cons, List.length_nil, Nat.reduceAdd, Nat.reduceSub, Array.replicate_succ, Array.replicate_zero, List.push_toArray, List.append_toArray, List.nil_append, List.cons_append]
  gi_wp2
  refine ⟨trivial, h68.mono ?_⟩
  rintro e w2 ⟨hb2, rfl⟩
  have q2 : w2.heap[w.heap.size]? = some box46 := (hb2.block w.heap.size (by simp)).trans (new_block w _)
  refine leavesIn_cons (f := 67) (args := #[.pointer (some ⟨w.heap.size, 0, none⟩)]) (by simp) (fun _ => by omega) (by simp [go_sem]) (fun _ _ => trivial) ?_
  refine (catch67_panic w.heap.size code [] w2 n q2).mono ?_
  rintro e u' w3 ⟨rfl, rfl, hb3, q3⟩
  have c0 : w3.cell? ⟨w.heap.size, 0, none⟩ = some (.int .i64 code) := by simp [World.cell?, q3]
  have c1 : w3.cell? ⟨w.heap.size, 1, none⟩ = some (.int .i64 0) := by simp [World.cell?, q3]
  have c2 : w3.cell? ⟨w.heap.size, 2, none⟩ = some (.int .i64 0) := by simp [World.cell?, q3]
  have c3 : w3.cell? ⟨w.heap.size, 3, none⟩ = some (.int .i64 0) := by simp [World.cell?, q3]
  have c4 : w3.cell? ⟨w.heap.size, 4, none⟩ = some (.int .i64 0) := by simp [World.cell?, q3]
  have c5 : w3.cell? ⟨w.heap.size, 5, none⟩ = some (.int .i64 0) := by simp [World.cell?, q3]
  have c6 : w3.cell? ⟨w.heap.size, 6, none⟩ = some (.slice none 0 0) := by simp [World.cell?, q3]
  have hbb : Below w.heap.size w w3 := (((Below.refl _ w).alloc (Nat.le_refl _) _).trans (hb2.mono (by simp))).trans hb3
  simp [LeavesIn, settle, results, results30, go_sem, c0, c1, c2, c3, c4, c5, c6, hbb]

set_option maxRecDepth 100000 in
set_option maxHeartbeats 8000000 in
theorem face30_back (u0 : Value) (w : World) (n : Nat) (Pq : Int → Int → Int → Int → Int → Option Addr → Nat → Nat → World → Prop)
    (h68 : CallsIn Fence.wide (n + 1) prog 68 #[u0] (w.alloc box46) fun e w2 => Below (w.alloc box46).heap.size (w.alloc box46) w2 ∧ ∃ b c d e' f g l m, e = .returned (.agg #[.int .i64 b, .int .i64 c, .int .i64 d, .int .i64 e', .int .i64 f, .slice g l m]) ∧ Pq b c d e' f g l m w2) :
    CallsIn Fence.wide (n + 2) prog 30 #[u0] w fun e w' => ∃ b c d e' f g l m w2, e = .returned (.agg #[.int .i64 0, .int .i64 b, .int .i64 c, .int .i64 d, .int .i64 e', .int .i64 f, .slice g l m]) ∧ Pq b c d e' f g l m w2 ∧ Below (w.alloc box46).heap.size (w.alloc box46) w2 ∧ Below w.heap.size w w' ∧ w'.heap.size = w2.heap.size ∧ ∀ k, k ≠ w.heap.size → w'.heap[k]? = w2.heap[k]? := by
  have hmf : ∀ (fn : Fn) (first cap : Array Value) (w : World), (Instr.makeFunc fn first cap).run prog w = .ok (.func fn first cap) w := fun _ _ _ _ => rfl
  refine callsIn_of_wp_defers func30 rfl trivial ?_
  simp only [ntmps30, List.size_toArray, List.length_cons, List.length_nil, Nat.reduceAdd, Nat.reduceSub, Array.replicate_succ, Array.replicate_zero, List.push_toArray, List.append_toArray, List.nil_append, List.cons_append]
  gi_wp2
  refine ⟨trivial, h68.mono ?_⟩
  rintro e w2 ⟨hb2, b, c, d, e', f, g, l, m, rfl, hP⟩
  have q2 : w2.heap[w.heap.size]? = some box46 := (hb2.block w.heap.size (by simp)).trans (new_block w _)
  have c0 : w2.cell? ⟨w.heap.size, 0, none⟩ = some (.int .i64 0) := by simp [World.cell?, q2, box46]
  have f0 : w2.frozen? ⟨w.heap.size, 0, none⟩ = false := by simp [World.frozen?, q2, box46]
  have c1 : w2.cell? ⟨w.heap.size, 1, none⟩ = some (.int .i64 0) := by simp [World.cell?, q2, box46]
  have f1 : w2.frozen? ⟨w.heap.size, 1, none⟩ = false := by simp [World.frozen?, q2, box46]
  have c2 : w2.cell? ⟨w.heap.size, 2, none⟩ = some (.int .i64 0) := by simp [World.cell?, q2, box46]
  have f2 : w2.frozen? ⟨w.heap.size, 2, none⟩ = false := by simp [World.frozen?, q2, box46]
  have c3 : w2.cell? ⟨w.heap.size, 3, none⟩ = some (.int .i64 0) := by simp [World.cell?, q2, box46]
  have f3 : w2.frozen? ⟨w.heap.size, 3, none⟩ = false := by simp [World.frozen?, q2, box46]
  have c4 : w2.cell? ⟨w.heap.size, 4, none⟩ = some (.int .i64 0) := by simp [World.cell?, q2, box46]
  have f4 : w2.frozen? ⟨w.heap.size, 4, none⟩ = false := by simp [World.frozen?, q2, box46]
  have c5 : w2.cell? ⟨w.heap.size, 5, none⟩ = some (.int .i64 0) := by simp [World.cell?, q2, box46]
  have f5 : w2.frozen? ⟨w.heap.size, 5, none⟩ = false := by simp [World.frozen?, q2, box46]
  have c6 : w2.cell? ⟨w.heap.size, 6, none⟩ = some (.slice none 0 0) := by simp [World.cell?, q2, box46]
  have f6 : w2.frozen? ⟨w.heap.size, 6, none⟩ = false := by simp [World.frozen?, q2, box46]
  gi_wp2
  obtain ⟨hb3, q3⟩ := set7 w2 w.heap.size (.int .i64 0) (.int .i64 0) (.int .i64 0) (.int .i64 0) (.int .i64 0) (.int .i64 0) (.slice none 0 0) (.int .i64 0) (.int .i64 b) (.int .i64 c) (.int .i64 d) (.int .i64 e') (.int .i64 f) (.slice g l m) 46 q2
  have hr := set7_rest w2 w.heap.size (.int .i64 0) (.int .i64 b) (.int .i64 c) (.int .i64 d) (.int .i64 e') (.int .i64 f) (.slice g l m)
  generalize (((((((w2.setCell { block := w.heap.size, off := 0 } (Value.int IntKind.i64 0)).setCell { block := w.heap.size, off := 1 } (Value.int IntKind.i64 b)).setCell { block := w.heap.size, off := 2 } (Value.int IntKind.i64 c)).setCell { block := w.heap.size, off := 3 } (Value.int IntKind.i64 d)).setCell { block := w.heap.size, off := 4 } (Value.int IntKind.i64 e')).setCell { block := w.heap.size, off := 5 } (Value.int IntKind.i64 f)).setCell { block := w.heap.size, off := 6 } (Value.slice g l m)) = w3 at hb3 q3 hr ⊢
  refine leavesIn_cons (f := 67) (args := #[.pointer (some ⟨w.heap.size, 0, none⟩)]) (by simp) (fun _ => by omega) (by simp [go_sem]) (fun _ _ => trivial) ?_
  refine (catch67_idle ⟨w.heap.size, 0, none⟩ w3 _).mono ?_
  rintro e u' w4 ⟨rfl, rfl, rfl⟩
  have c0 : w4.cell? ⟨w.heap.size, 0, none⟩ = some (.int .i64 0) := by simp [World.cell?, q3]
  have c1 : w4.cell? ⟨w.heap.size, 1, none⟩ = some (.int .i64 b) := by simp [World.cell?, q3]
  have c2 : w4.cell? ⟨w.heap.size, 2, none⟩ = some (.int .i64 c) := by simp [World.cell?, q3]
  have c3 : w4.cell? ⟨w.heap.size, 3, none⟩ = some (.int .i64 d) := by simp [World.cell?, q3]
  have c4 : w4.cell? ⟨w.heap.size, 4, none⟩ = some (.int .i64 e') := by simp [World.cell?, q3]
  have c5 : w4.cell? ⟨w.heap.size, 5, none⟩ = some (.int .i64 f) := by simp [World.cell?, q3]
  have c6 : w4.cell? ⟨w.heap.size, 6, none⟩ = some (.slice g l m) := by simp [World.cell?, q3]
  have hbb : Below w.heap.size w w4 := (((Below.refl _ w).alloc (Nat.le_refl _) _).trans (hb2.mono (by simp))).trans hb3
  have hz := heap_size_of q2 q3 hr
  simp [LeavesIn, settle, results, results30, go_sem, c0, c1, c2, c3, c4, c5, c6]
  exact ⟨b, c, d, e', f, g, l, m, ⟨rfl, rfl, rfl, rfl, rfl, rfl, rfl, rfl⟩, w2, hP, by simpa using hb2, hbb, hz, hr⟩
end Go.Proofs.Try

set_option linter.unusedVariables false
set_option linter.unusedSimpArgs false
namespace Go.Proofs.Try
open Go Go.VM Go.RowKit

/-! from the walks back to contracts -/
theorem res_out {w : World} {A0 N : Nat → Prop} {vs : List Value} {s : SlD cxT.ty} {u : Value} (hs : s.own = 2) (h : ResV cxT w A0 N (.inl (.inr (vs.map lv ++ [ls s]))) u) :
    ∃ v fp n, u = .agg (vs ++ [v]).toArray ∧ fp.Nodup ∧ (∀ b ∈ fp, N b ∧ b < w.heap.size) ∧ s.o = true ∧ OwnL cxT w n (some (.inr s)) v fp := by
  obtain ⟨fp, hnd, hN, us, fps, hu, hfp, hl, hf, h⟩ := h
  have hll : (vs.map lv ++ [(ls s : L cxT.ty)]).length = vs.length + 1 := by simp
  rw [hll] at hl hf
  have hv : ∀ j, j < vs.length → us[j]? = vs[j]? ∧ fps[j]? = some [] := fun j hj => by
    have e1 : (vs.map lv ++ [(ls s : L cxT.ty)])[j]? = some (lv vs[j]) := by
      rw [List.getElem?_append_left (by simpa using hj), List.getElem?_map, List.getElem?_eq_getElem hj]; rfl
    have := h j _ us[j] fps[j] e1 (List.getElem?_eq_getElem (by omega)) (List.getElem?_eq_getElem (by omega))
    obtain ⟨h1, h2⟩ := (this : us[j] = vs[j] ∧ fps[j] = [])
    rw [List.getElem?_eq_getElem (by omega), List.getElem?_eq_getElem (by omega : j < fps.length), h1, h2, List.getElem?_eq_getElem hj]
    exact ⟨rfl, rfl⟩
  have eu : us = vs ++ [us[vs.length]'(by omega)] := by
    apply List.ext_getElem?
    intro j
    by_cases hj : j < vs.length
    · rw [(hv j hj).1, List.getElem?_append_left hj]
    · by_cases hj2 : j = vs.length
      · subst hj2
        rw [List.getElem?_append_right (Nat.le_refl _), Nat.sub_self, List.getElem?_eq_getElem (by omega)]
        rfl
      · rw [List.getElem?_eq_none (by omega), List.getElem?_eq_none (by simp; omega)]
  have ef : fps = List.replicate vs.length [] ++ [fps[vs.length]'(by omega)] := by
    apply List.ext_getElem?
    intro j
    by_cases hj : j < vs.length
    · rw [(hv j hj).2, List.getElem?_append_left (by simpa using hj)]
      simp [hj]
    · by_cases hj2 : j = vs.length
      · subst hj2
        rw [List.getElem?_append_right (by simp), List.length_replicate, Nat.sub_self, List.getElem?_eq_getElem (by omega)]
        rfl
      · rw [List.getElem?_eq_none (by omega), List.getElem?_eq_none (by simp; omega)]
  have hfl : fp = fps[vs.length]'(by omega) := by
    rw [hfp]
    conv => lhs; rw [ef]
    simp
  have e1 : (vs.map lv ++ [(ls s : L cxT.ty)])[vs.length]? = some (ls s) := by
    rw [List.getElem?_append_right (by simp)]; simp
  have hlast := h vs.length _ _ _ e1 (List.getElem?_eq_getElem (by omega)) (List.getElem?_eq_getElem (by omega))
  unfold ResL at hlast
  simp only [ls, hs, if_true] at hlast
  obtain ⟨ho, n, hown⟩ := hlast
  exact ⟨_, fp, n, by rw [hu, ← eu], hnd, hN, ho, by rw [hfl]; exact hown⟩

theorem res_in {w : World} {A0 N : Nat → Prop} {vs : List Value} {s : SlD cxT.ty} {v : Value} {fp : List Nat} {n : Nat} (hs : s.own = 2) (ho : s.o = true) (hnd : fp.Nodup) (hN : ∀ b ∈ fp, N b ∧ b < w.heap.size) (hown : OwnL cxT w n (some (.inr s)) v fp) :
    ResV cxT w A0 N (.inl (.inr (vs.map lv ++ [ls s]))) (.agg (vs ++ [v]).toArray) := by
  refine ⟨fp, hnd, hN, vs ++ [v], List.replicate vs.length [] ++ [fp], rfl, by simp, by simp, by simp, fun j a u f e1 e2 e3 => ?_⟩
  by_cases hj : j < vs.length
  · rw [List.getElem?_append_left (by simpa using hj), List.getElem?_map, List.getElem?_eq_getElem hj] at e1
    rw [List.getElem?_append_left hj, List.getElem?_eq_getElem hj] at e2
    rw [List.getElem?_append_left (by simpa using hj)] at e3
    simp [hj] at e3
    cases e1
    cases e2
    exact ⟨rfl, e3⟩
  · have hj2 : j = vs.length := by
      have := (List.getElem?_eq_some_iff.1 e2).1
      simp at this
      omega
    subst hj2
    rw [List.getElem?_append_right (by simp)] at e1 e2 e3
    simp at e1 e2 e3
    subst e1; subst e2; subst e3
    unfold ResL
    simp only [ls, hs, if_true]
    exact ⟨ho, n, hown⟩
theorem own_nil (w : World) {e : Nat} : OwnL cxT w 1 (some (.inr { own := 2, nm := 0, e := e, o := true, xs := [] })) (.slice none 0 0) [] :=
  ⟨[], [], World.ownsRow_nil _ _ _ _, rfl, rfl, rfl, fun j l c f _ h => by simp at h⟩
theorem own_slice {w : World} {n : Nat} {s : SlD cxT.ty} {v : Value} {fp : List Nat} (h : OwnL cxT w n (some (.inr s)) v fp) : ∃ a l m, v = .slice a l m := by
  cases n with
  | zero => simp [OwnL] at h
  | succ n =>
    obtain ⟨us, fpl, hrow, _⟩ := h
    rcases hrow.2 with ⟨rfl, _⟩ | ⟨g, cap, cur, rfl, _⟩
    · exact ⟨_, _, _, rfl⟩
    · exact ⟨_, _, _, rfl⟩
theorem args_to {w w' : World} {A0 : Nat → Prop} {l : List (A cxT.ty)} {us : List Value} (hw : ∀ b, A0 b → w'.heap[b]? = w.heap[b]?) (h : ArgAs cxT w A0 l us) : ArgAs cxT w' A0 l us := by
  have hL : ∀ (a : L cxT.ty) (u : Value), ArgL cxT w A0 a u → ArgL cxT w' A0 a u := fun a u h => by
    unfold ArgL at h ⊢
    split at h
    · exact h
    · exact h
    · exact ⟨h.1, h.2.choose, RepL_mono cxT hw (fun _ hb => hb) _ _ _ h.2.choose_spec⟩
  refine ⟨h.1, fun j a u h1 h2 => ?_⟩
  have := h.2 j a u h1 h2
  cases a with
  | inl a => exact hL a u this
  | inr a =>
    obtain ⟨vs, hu, hl, hv⟩ := this
    exact ⟨vs, hu, hl, fun j a u h1 h2 => hL a u (hv j a u h1 h2)⟩

theorem sat12 : Sat prog cxT 12 (c12 mUw) := by
  intro w A0 l us r hA hargs hF
  obtain ⟨x, t, rfl, hx, rfl⟩ := fnT_inv hF
  obtain ⟨u0, rfl⟩ : ∃ u0, us = [u0] := by
    match us, hargs with
    | [u], h => exact ⟨u, rfl⟩
    | [], h => exact absurd (show 0 = 1 from h.1) (by decide)
    | _ :: _ :: r, h => exact absurd (show r.length + 2 = 1 from h.1) (by omega)
  have hsz : (w.alloc box26).heap.size = w.heap.size + 1 := by simp
  have hA1 : ∀ b, A0 b → b < (w.alloc box26).heap.size := fun b hb => by have := hA b hb; omega
  have hargs1 : ArgAs cxT (w.alloc box26) A0 (a48.enc x) [u0] := args_to (fun b hb => Below.heap_alloc _ _ _ (hA b hb)) hargs
  unfold mUw at hx
  split at hx
  · rename_i hc
    cases hx
    by_cases hu : uwOk x
    · have hm : mRdG x = some (false, 0, 0, nb x 12 4, nb x 16 4, x.drop 24) := by unfold mRdG; rw [if_pos hc, if_pos hu]
      have hF1 : (c48 mRdG).F (a48.enc x) = some (true, n48 (false, 0, 0, nb x 12 4, nb x 16 4, x.drop 24)) := by
        show some ((mRdG x).isSome, n48 ((mRdG x).getD dd48)) = _
        rw [hm]; rfl
      have h48 := sat48 (w.alloc box26) A0 (a48.enc x) [u0] false _ _ hA1 hargs1 hF1
      have h := face12_back u0 w 0 (fun a b c d l m w2 => ∃ fp n, a = 0 ∧ b = nb x 12 4 ∧ c = nb x 16 4 ∧ fp.Nodup ∧ (∀ y ∈ fp, (w.alloc box26).heap.size ≤ y ∧ y < w2.heap.size) ∧ OwnL cxT w2 n (some (.inr { own := 2, nm := 0, e := 5, o := true, xs := x.drop 24 })) (.slice d l m) fp)
        ((callsIn_wide.2 h48).mono fun e w2 ⟨hb, h⟩ => ⟨hb, by
          obtain ⟨u, rfl, hv⟩ := h
          obtain ⟨v, fp, n, rfl, h1, h2, h3, h4⟩ := res_out (vs := [.int .i64 0, .int .i64 (nb x 12 4), .int .i64 (nb x 16 4)]) rfl hv
          obtain ⟨d, l, m, rfl⟩ := own_slice h4
          exact ⟨0, nb x 12 4, nb x 16 4, d, l, m, rfl, fp, n, rfl, rfl, rfl, h1, h2, h4⟩⟩)
      refine (callsIn_wide.1 h).mono ?_
      rintro e w' ⟨a, b, c, d, l, m, w2, rfl, ⟨fp, n, rfl, rfl, rfl, h1, h2, h4⟩, hb2, hb, hz, hr⟩
      refine ⟨_, rfl, hb, ?_⟩
      have e : n12 (uw x) = .inl (.inr (List.map lv [.int .i64 0, .int .i64 (nb x 12 4), .int .i64 (nb x 16 4)] ++ [ls { own := 2, nm := 0, e := 5, o := true, xs := x.drop 24 }])) := by
        unfold uw; rw [if_pos hu]; rfl
      rw [e]
      refine res_in rfl rfl h1 (fun y hy => ?_) (OwnL_mono cxT n _ _ fp (fun y hy => hr y ?_) h4)
      · have := h2 y hy
        omega
      · have := h2 y hy
        omega
    · have hm : mRdG x = some (true, 5, zGre) := by unfold mRdG; rw [if_pos hc, if_neg hu]
      have hF1 : (c48 mRdG).F (a48.enc x) = some (true, n48 (true, 5, zGre)) := by
        show some ((mRdG x).isSome, n48 ((mRdG x).getD dd48)) = _
        rw [hm]; rfl
      have h48 := sat48 (w.alloc box26) A0 (a48.enc x) [u0] true _ _ hA1 hargs1 hF1
      have h := face12_throws u0 5 w 0 ((callsIn_wide.2 h48).mono fun e w2 ⟨hb, h⟩ => ⟨hb, h⟩)
      refine (callsIn_wide.1 h).mono ?_
      rintro e w' ⟨hb, rfl⟩
      refine ⟨_, rfl, hb, ?_⟩
      have e : n12 (uw x) = .inl (.inr (List.map lv [.int .i64 5, .int .i64 0, .int .i64 0] ++ [ls { own := 2, nm := 0, e := 5, o := true, xs := [] }])) := by
        unfold uw; rw [if_neg hu]; rfl
      rw [e]
      exact res_in rfl rfl List.nodup_nil (by simp) (own_nil w')
  · cases hx

theorem sat30 : Sat prog cxT 30 (c30 mPrs) := by
  intro w A0 l us r hA hargs hF
  obtain ⟨x, t, rfl, hx, rfl⟩ := fnT_inv hF
  obtain ⟨u0, rfl⟩ : ∃ u0, us = [u0] := by
    match us, hargs with
    | [u], h => exact ⟨u, rfl⟩
    | [], h => exact absurd (show 0 = 1 from h.1) (by decide)
    | _ :: _ :: r, h => exact absurd (show r.length + 2 = 1 from h.1) (by omega)
  have hsz : (w.alloc box46).heap.size = w.heap.size + 1 := by simp
  have hA1 : ∀ b, A0 b → b < (w.alloc box46).heap.size := fun b hb => by have := hA b hb; omega
  have hargs1 : ArgAs cxT (w.alloc box46) A0 (a68.enc x) [u0] := args_to (fun b hb => Below.heap_alloc _ _ _ (hA b hb)) hargs
  unfold mPrs at hx
  split at hx
  · rename_i hc
    cases hx
    by_cases hu : (prs x).1 = 0
    · have hp : prs x = (0, (prs x).2) := Prod.ext hu rfl
      generalize hq : (prs x).2 = q at hp
      obtain ⟨q1, q2, q3, q4, q5, qr⟩ := q
      have hm : mRdP x = some (false, 0, q1, q2, q3, q4, q5, qr) := by unfold mRdP thr; rw [if_pos hc, hp]; rfl
      have hF1 : (c68 mRdP).F (a68.enc x) = some (true, n68 (false, 0, q1, q2, q3, q4, q5, qr)) := by
        show some ((mRdP x).isSome, n68 ((mRdP x).getD dd68)) = _
        rw [hm]; rfl
      have h68 := sat68 (w.alloc box46) A0 (a68.enc x) [u0] false _ _ hA1 hargs1 hF1
      have h := face30_back u0 w 0 (fun b c d e' f g l m w2 => ∃ fp n, b = q1 ∧ c = q2 ∧ d = q3 ∧ e' = q4 ∧ f = q5 ∧ fp.Nodup ∧ (∀ y ∈ fp, (w.alloc box46).heap.size ≤ y ∧ y < w2.heap.size) ∧ OwnL cxT w2 n (some (.inr { own := 2, nm := 0, e := 5, o := true, xs := qr })) (.slice g l m) fp)
        ((callsIn_wide.2 h68).mono fun e w2 ⟨hb, h⟩ => ⟨hb, by
          obtain ⟨u, rfl, hv⟩ := h
          obtain ⟨v, fp, n, rfl, h1, h2, h3, h4⟩ := res_out (vs := [.int .i64 q1, .int .i64 q2, .int .i64 q3, .int .i64 q4, .int .i64 q5]) rfl hv
          obtain ⟨d, l, m, rfl⟩ := own_slice h4
          exact ⟨q1, q2, q3, q4, q5, d, l, m, rfl, fp, n, rfl, rfl, rfl, rfl, rfl, h1, h2, h4⟩⟩)
      refine (callsIn_wide.1 h).mono ?_
      rintro e w' ⟨b, c, d, e', f, g, l, m, w2, rfl, ⟨fp, n, rfl, rfl, rfl, rfl, rfl, h1, h2, h4⟩, hb2, hb, hz, hr⟩
      refine ⟨_, rfl, hb, ?_⟩
      have e : n30 (prs x) = .inl (.inr (List.map lv [.int .i64 0, .int .i64 b, .int .i64 c, .int .i64 d, .int .i64 e', .int .i64 f] ++ [ls { own := 2, nm := 0, e := 5, o := true, xs := qr }])) := by
        rw [hp]; rfl
      rw [e]
      refine res_in rfl rfl h1 (fun y hy => ?_) (OwnL_mono cxT n _ _ fp (fun y hy => hr y ?_) h4)
      · have := h2 y hy
        omega
      · have := h2 y hy
        omega
    · have hm : mRdP x = some (true, (prs x).1, zPk) := by unfold mRdP thr; rw [if_pos hc, if_neg hu]
      have hz : (prs x).2 = zPk := by
        unfold prs at hu ⊢
        split
        · split
          · split
            · rename_i h1 h2 h3
              rw [if_pos h1, if_pos h2, if_pos h3] at hu
              exact absurd rfl hu
            · rfl
          · rfl
        · rfl
      have hF1 : (c68 mRdP).F (a68.enc x) = some (true, n68 (true, (prs x).1, zPk)) := by
        show some ((mRdP x).isSome, n68 ((mRdP x).getD dd68)) = _
        rw [hm]; rfl
      have h68 := sat68 (w.alloc box46) A0 (a68.enc x) [u0] true _ _ hA1 hargs1 hF1
      have h := face30_throws u0 (prs x).1 w 0 ((callsIn_wide.2 h68).mono fun e w2 ⟨hb, h⟩ => ⟨hb, h⟩)
      refine (callsIn_wide.1 h).mono ?_
      rintro e w' ⟨hb, rfl⟩
      refine ⟨_, rfl, hb, ?_⟩
      have e : n30 (prs x) = .inl (.inr (List.map lv [.int .i64 (prs x).1, .int .i64 0, .int .i64 0, .int .i64 0, .int .i64 0, .int .i64 0] ++ [ls { own := 2, nm := 0, e := 5, o := true, xs := [] }])) := by
        unfold n30; rw [hz]; rfl
      rw [e]
      exact res_in rfl rfl List.nodup_nil (by simp) (own_nil w')
  · cases hx
end Go.Proofs.Try
