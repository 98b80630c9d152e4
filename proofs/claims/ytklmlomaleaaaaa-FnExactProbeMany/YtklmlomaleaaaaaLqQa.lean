/- A part of the proof of FnExactProbeMany: LqQa, LqQb, LqQc. -/
import Derived.Test.YtklmlomaleaaaaaLqPa
import Derived.Test.YtklmlomaleaaaaaVmGr
import Derived.Test.YtklmlomaleaaaaaVmCb
import Derived.WalkKit
import Derived.OwnWalk
import Derived.Below
import Derived.WalkMore
import Derived.Deep.Cut
import Derived.Deep.DeepCutAuto
import Derived.Deep.RegionWith
set_option linter.unusedVariables false
set_option linter.unusedSimpArgs false
namespace Go.Proofs.Try
open Go Go.VM Go.RowKit

def hlV (h : Hl) : Value := .agg #[.int .i64 h.1, .bool h.2.1, .int .i64 h.2.2]
def hlC (h : Hl) : Array Value := #[.int .i64 h.1, .bool h.2.1, .int .i64 h.2.2]
def hrC (h : Hr) : Array Value := #[.int .i64 h.1, .bool h.2.1, .int .i64 h.2.2.1, .bool h.2.2.2.1, .int .i64 h.2.2.2.2]
theorem set5 (W : World) (b : Nat) (v0 v1 v2 v3 v4 u0 u1 u2 u3 u4 : Value) (h : W.heap[b]? = some (.cells #[u0, u1, u2, u3, u4] 29 (0, 0))) :
    (((((W.setCell ⟨b, 0, none⟩ v0).setCell ⟨b, 1, none⟩ v1).setCell ⟨b, 2, none⟩ v2).setCell ⟨b, 3, none⟩ v3).setCell ⟨b, 4, none⟩ v4).heap[b]? = some (.cells #[v0, v1, v2, v3, v4] 29 (0, 0)) ∧
    (∀ B w0, B ≤ b → Below B w0 W → Below B w0 (((((W.setCell ⟨b, 0, none⟩ v0).setCell ⟨b, 1, none⟩ v1).setCell ⟨b, 2, none⟩ v2).setCell ⟨b, 3, none⟩ v3).setCell ⟨b, 4, none⟩ v4)) := by
  have h1 := heap_setCell_same W b 0 _ 29 v0 h
  have h2 := heap_setCell_same _ b 1 _ 29 v1 h1
  have h3 := heap_setCell_same _ b 2 _ 29 v2 h2
  have h4 := heap_setCell_same _ b 3 _ 29 v3 h3
  exact ⟨heap_setCell_same _ b 4 _ 29 v4 h4, fun B w0 hB h => ((((h.setCell (p := ⟨b, 0, none⟩) hB _).setCell (p := ⟨b, 1, none⟩) hB _).setCell (p := ⟨b, 2, none⟩) hB _).setCell (p := ⟨b, 3, none⟩) hB _).setCell (p := ⟨b, 4, none⟩) hB _⟩
theorem set3 (W : World) (b : Nat) (v0 v1 v2 u0 u1 u2 : Value) (h : W.heap[b]? = some (.cells #[u0, u1, u2] 25 (0, 0))) :
    (((W.setCell ⟨b, 0, none⟩ v0).setCell ⟨b, 1, none⟩ v1).setCell ⟨b, 2, none⟩ v2).heap[b]? = some (.cells #[v0, v1, v2] 25 (0, 0)) ∧
    (∀ B w0, B ≤ b → Below B w0 W → Below B w0 (((W.setCell ⟨b, 0, none⟩ v0).setCell ⟨b, 1, none⟩ v1).setCell ⟨b, 2, none⟩ v2)) := by
  have h1 := heap_setCell_same W b 0 _ 25 v0 h
  have h2 := heap_setCell_same _ b 1 _ 25 v1 h1
  exact ⟨heap_setCell_same _ b 2 _ 25 v2 h2, fun B w0 hB h => ((h.setCell (p := ⟨b, 0, none⟩) hB _).setCell (p := ⟨b, 1, none⟩) hB _).setCell (p := ⟨b, 2, none⟩) hB _⟩
theorem cl10 (h : Hl) (w : World) : Calls prog 10 #[hlV h] w fun e w' => e = .returned (.int .i64 (hF h)) ∧ Below w.heap.size w w' :=
  call_one sat10 (l := [.inr ([.int .i64 h.1, .bool h.2.1, .int .i64 h.2.2].map lv)]) (us := [hlV h]) (fun _ => args_agg _) (by
    show ((a10.dec (a10.enc h)).map fun x => ((mHF x).isSome, n10 ((mHF x).getD dd10))) = _
    rfl) w
theorem cl46 (h : Hl) (b : Bool) (h0 : hF h = 0) (w : World) : Calls prog 46 #[hlV h, .bool b] w fun e w' => e = .returned (.tuple #[hlV (stp h b), .bool (pS (h, b)).2.2.2]) ∧ Below w.heap.size w w' := by
  refine (sat46 w (fun _ => False) (a46.enc (h, b)) [hlV h, .bool b] (n46 (pS (h, b))) (fun _ h => h.elim) ⟨rfl, fun j x u e1 e2 => ?_⟩ ?_).mono ?_
  · match j with
    | 0 => cases e1; cases e2; exact arg_agg (cx := cxT) [.int .i64 h.1, .bool h.2.1, .int .i64 h.2.2]
    | 1 => cases e1; cases e2; exact rfl
    | j + 2 => simp at e2
  · show ((a46.dec (a46.enc (h, b))).map fun x => ((m46 x).isSome, n46 ((m46 x).getD dd46))) = _
    rw [show a46.dec (a46.enc (h, b)) = some (h, b) from rfl]
    simp only [Option.map_some, show m46 (h, b) = some (pS (h, b)) from if_pos h0, Option.isSome_some, Option.getD_some]
  · rintro e W' ⟨u, rfl, hb, fp, _, _, us, fps, rfl, _, hl, hf, hr⟩
    refine ⟨?_, hb⟩
    match us, hl, fps, hf with
    | [x, y], _, [f, g], _ =>
      have hx := hr 0 _ _ _ rfl rfl rfl
      have hy := hr 1 _ _ _ rfl rfl rfl
      obtain ⟨rfl, _⟩ : y = .bool _ ∧ g = [] := hy
      obtain ⟨us2, fps2, rfl, _, hl2, hf2, h2⟩ := hx
      match us2, hl2, fps2, hf2 with
      | [a, b', c], _, [f0, f1, f2], _ =>
        obtain ⟨rfl, _⟩ : a = .int .i64 _ ∧ f0 = [] := h2 0 _ _ _ rfl rfl rfl
        obtain ⟨rfl, _⟩ : b' = .bool _ ∧ f1 = [] := h2 1 _ _ _ rfl rfl rfl
        obtain ⟨rfl, _⟩ : c = .int .i64 _ ∧ f2 = [] := h2 2 _ _ _ rfl rfl rfl
        rfl
section
attribute [local go_sem] Oper.semAt_some
set_option maxRecDepth 100000 in
set_option maxHeartbeats 8000000 in
theorem many16k (nm run : Int) (up : Bool) (q : Option Addr) (n cap : Nat) (w : World) (hk0 : hF (nm, up, run) ≠ 0) :
    Calls prog 16 #[.agg #[.int .i64 nm, .bool up, .int .i64 run], .slice q n cap] w fun e W => e = .returned (.agg #[.int .i64 (hF (nm, up, run)), .bool false, .int .i64 0, .bool false, .int .i64 0]) ∧ Below w.heap.size w W := by
  generalize hW0 : (w.alloc (.cells #[.int .i64 nm, .bool up, .int .i64 run] 25)).alloc (.cells #[.int .i64 0, .bool false, .int .i64 0, .bool false, .int .i64 0] 29) = W0
  have hB0 : Below w.heap.size w W0 := by subst hW0; exact (((Below.refl w.heap.size w).alloc (Nat.le_refl _) _).alloc (by simp) _)
  have b00 : W0.heap[w.heap.size]? = some (.cells #[.int .i64 nm, .bool up, .int .i64 run] 25 (0, 0)) := by subst hW0; exact heap_alloc2_old w _ _
  have b01 : W0.heap[w.heap.size + 1]? = some (.cells #[.int .i64 0, .bool false, .int .i64 0, .bool false, .int .i64 0] 29 (0, 0)) := by subst hW0; exact heap_alloc2_new w _ _
  have k00 : W0.cell? ⟨w.heap.size, 0, none⟩ = some (.int .i64 nm) := (cell_of_row _ _ _ _ 25 (0, 0) b00).trans rfl
  have k01 : W0.cell? ⟨w.heap.size, 1, none⟩ = some (.bool up) := (cell_of_row _ _ _ _ 25 (0, 0) b00).trans rfl
  have k02 : W0.cell? ⟨w.heap.size, 2, none⟩ = some (.int .i64 run) := (cell_of_row _ _ _ _ 25 (0, 0) b00).trans rfl
  have hs0 : W0.heap.size = w.heap.size + 2 := by subst hW0; simp
  have h10 := cl10 (nm, up, run) W0
  generalize hF (nm, up, run) = k at hk0 h10 ⊢
  go_enter func16, ntmps16
  go_wp2_with (go_at_call 10; (first | rw [hW0] | skip); refine h10.mono ?_; clear h10; rintro e w1 ⟨rfl, hB1⟩; have r1 : w1.heap[w.heap.size + 1]? = some (.cells #[.int .i64 0, .bool false, .int .i64 0, .bool false, .int .i64 0] 29 (0, 0)) := (hB1.block _ (by omega)).trans b01; have f0 : w1.frozen? ⟨w.heap.size + 1, 0, none⟩ = false := frozen_of_row _ _ _ _ 29 r1; have f1 : w1.frozen? ⟨w.heap.size + 1, 1, none⟩ = false := frozen_of_row _ _ _ _ 29 r1; have f2 : w1.frozen? ⟨w.heap.size + 1, 2, none⟩ = false := frozen_of_row _ _ _ _ 29 r1; have f3 : w1.frozen? ⟨w.heap.size + 1, 3, none⟩ = false := frozen_of_row _ _ _ _ 29 r1; have f4 : w1.frozen? ⟨w.heap.size + 1, 4, none⟩ = false := frozen_of_row _ _ _ _ 29 r1; have r10 : w1.cell? ⟨w.heap.size + 1, 0, none⟩ = some (.int .i64 0) := (cell_of_row _ _ _ _ 29 (0, 0) r1).trans rfl; have r11 : w1.cell? ⟨w.heap.size + 1, 1, none⟩ = some (.bool false) := (cell_of_row _ _ _ _ 29 (0, 0) r1).trans rfl; have r12 : w1.cell? ⟨w.heap.size + 1, 2, none⟩ = some (.int .i64 0) := (cell_of_row _ _ _ _ 29 (0, 0) r1).trans rfl; have r13 : w1.cell? ⟨w.heap.size + 1, 3, none⟩ = some (.bool false) := (cell_of_row _ _ _ _ 29 (0, 0) r1).trans rfl; have r14 : w1.cell? ⟨w.heap.size + 1, 4, none⟩ = some (.int .i64 0) := (cell_of_row _ _ _ _ 29 (0, 0) r1).trans rfl)
  obtain ⟨y1, y2⟩ := set5 w1 (w.heap.size + 1) (.int .i64 k) (.bool false) (.int .i64 0) (.bool false) (.int .i64 0) _ _ _ _ _ r1
  have y3 := y2 w.heap.size w (by omega) (hB0.trans (hB1.mono hB0.size))
  generalize (((((w1.setCell ⟨w.heap.size + 1, 0, none⟩ (.int .i64 k)).setCell ⟨w.heap.size + 1, 1, none⟩ (.bool false)).setCell ⟨w.heap.size + 1, 2, none⟩ (.int .i64 0)).setCell ⟨w.heap.size + 1, 3, none⟩ (.bool false)).setCell ⟨w.heap.size + 1, 4, none⟩ (.int .i64 0)) = Wf at y1 y3 ⊢
  have z0 : Wf.cell? ⟨w.heap.size + 1, 0, none⟩ = some (.int .i64 k) := (cell_of_row _ _ _ _ 29 (0, 0) y1).trans rfl
  have z1 : Wf.cell? ⟨w.heap.size + 1, 1, none⟩ = some (.bool false) := (cell_of_row _ _ _ _ 29 (0, 0) y1).trans rfl
  have z2 : Wf.cell? ⟨w.heap.size + 1, 2, none⟩ = some (.int .i64 0) := (cell_of_row _ _ _ _ 29 (0, 0) y1).trans rfl
  have z3 : Wf.cell? ⟨w.heap.size + 1, 3, none⟩ = some (.bool false) := (cell_of_row _ _ _ _ 29 (0, 0) y1).trans rfl
  have z4 : Wf.cell? ⟨w.heap.size + 1, 4, none⟩ = some (.int .i64 0) := (cell_of_row _ _ _ _ 29 (0, 0) y1).trans rfl
  refine bodyPost_ret (v := .agg #[.int .i64 k, .bool false, .int .i64 0, .bool false, .int .i64 0]) ?_ rfl ⟨rfl, y3⟩
  simp [results, show f16.results = #[.cell 4 29] from rfl, go_sem, z0, z1, z2, z3, z4]
end
end Go.Proofs.Try

set_option linter.unusedVariables false
set_option linter.unusedSimpArgs false
namespace Go.Proofs.Try
open Go Go.VM Go.RowKit

section
attribute [local go_sem] Oper.semAt_some
set_option maxRecDepth 100000 in
set_option maxHeartbeats 8000000 in
theorem many16b (nm run : Int) (up : Bool) (q : Option Addr) (n cap : Nat) (hn : 100 < n) (w : World) (hk0 : hF (nm, up, run) = 0) :
    Calls prog 16 #[.agg #[.int .i64 nm, .bool up, .int .i64 run], .slice q n cap] w fun e W => e = .returned (.agg #[.int .i64 2, .bool false, .int .i64 0, .bool false, .int .i64 0]) ∧ Below w.heap.size w W := by
  generalize hW0 : (w.alloc (.cells #[.int .i64 nm, .bool up, .int .i64 run] 25)).alloc (.cells #[.int .i64 0, .bool false, .int .i64 0, .bool false, .int .i64 0] 29) = W0
  have hB0 : Below w.heap.size w W0 := by subst hW0; exact (((Below.refl w.heap.size w).alloc (Nat.le_refl _) _).alloc (by simp) _)
  have b00 : W0.heap[w.heap.size]? = some (.cells #[.int .i64 nm, .bool up, .int .i64 run] 25 (0, 0)) := by subst hW0; exact heap_alloc2_old w _ _
  have b01 : W0.heap[w.heap.size + 1]? = some (.cells #[.int .i64 0, .bool false, .int .i64 0, .bool false, .int .i64 0] 29 (0, 0)) := by subst hW0; exact heap_alloc2_new w _ _
  have k00 : W0.cell? ⟨w.heap.size, 0, none⟩ = some (.int .i64 nm) := (cell_of_row _ _ _ _ 25 (0, 0) b00).trans rfl
  have k01 : W0.cell? ⟨w.heap.size, 1, none⟩ = some (.bool up) := (cell_of_row _ _ _ _ 25 (0, 0) b00).trans rfl
  have k02 : W0.cell? ⟨w.heap.size, 2, none⟩ = some (.int .i64 run) := (cell_of_row _ _ _ _ 25 (0, 0) b00).trans rfl
  have hs0 : W0.heap.size = w.heap.size + 2 := by subst hW0; simp
  have h10 := cl10 (nm, up, run) W0
  rw [hk0] at h10
  have hgt : decide ((n : Int) > 100) = true := decide_eq_true (by omega)
  have hgt2 : (100 : Int) < (n : Int) := by omega
  go_enter func16, ntmps16
  go_wp2_with (go_at_call 10; (first | rw [hW0] | skip); refine h10.mono ?_; clear h10; rintro e w1 ⟨rfl, hB1⟩; have r1 : w1.heap[w.heap.size + 1]? = some (.cells #[.int .i64 0, .bool false, .int .i64 0, .bool false, .int .i64 0] 29 (0, 0)) := (hB1.block _ (by omega)).trans b01; have f0 : w1.frozen? ⟨w.heap.size + 1, 0, none⟩ = false := frozen_of_row _ _ _ _ 29 r1; have f1 : w1.frozen? ⟨w.heap.size + 1, 1, none⟩ = false := frozen_of_row _ _ _ _ 29 r1; have f2 : w1.frozen? ⟨w.heap.size + 1, 2, none⟩ = false := frozen_of_row _ _ _ _ 29 r1; have f3 : w1.frozen? ⟨w.heap.size + 1, 3, none⟩ = false := frozen_of_row _ _ _ _ 29 r1; have f4 : w1.frozen? ⟨w.heap.size + 1, 4, none⟩ = false := frozen_of_row _ _ _ _ 29 r1; have r10 : w1.cell? ⟨w.heap.size + 1, 0, none⟩ = some (.int .i64 0) := (cell_of_row _ _ _ _ 29 (0, 0) r1).trans rfl; have r11 : w1.cell? ⟨w.heap.size + 1, 1, none⟩ = some (.bool false) := (cell_of_row _ _ _ _ 29 (0, 0) r1).trans rfl; have r12 : w1.cell? ⟨w.heap.size + 1, 2, none⟩ = some (.int .i64 0) := (cell_of_row _ _ _ _ 29 (0, 0) r1).trans rfl; have r13 : w1.cell? ⟨w.heap.size + 1, 3, none⟩ = some (.bool false) := (cell_of_row _ _ _ _ 29 (0, 0) r1).trans rfl; have r14 : w1.cell? ⟨w.heap.size + 1, 4, none⟩ = some (.int .i64 0) := (cell_of_row _ _ _ _ 29 (0, 0) r1).trans rfl)
  obtain ⟨y1, y2⟩ := set5 w1 (w.heap.size + 1) (.int .i64 2) (.bool false) (.int .i64 0) (.bool false) (.int .i64 0) _ _ _ _ _ r1
  have y3 := y2 w.heap.size w (by omega) (hB0.trans (hB1.mono hB0.size))
  generalize (((((w1.setCell ⟨w.heap.size + 1, 0, none⟩ (.int .i64 2)).setCell ⟨w.heap.size + 1, 1, none⟩ (.bool false)).setCell ⟨w.heap.size + 1, 2, none⟩ (.int .i64 0)).setCell ⟨w.heap.size + 1, 3, none⟩ (.bool false)).setCell ⟨w.heap.size + 1, 4, none⟩ (.int .i64 0)) = Wf at y1 y3 ⊢
  have z0 : Wf.cell? ⟨w.heap.size + 1, 0, none⟩ = some (.int .i64 2) := (cell_of_row _ _ _ _ 29 (0, 0) y1).trans rfl
  have z1 : Wf.cell? ⟨w.heap.size + 1, 1, none⟩ = some (.bool false) := (cell_of_row _ _ _ _ 29 (0, 0) y1).trans rfl
  have z2 : Wf.cell? ⟨w.heap.size + 1, 2, none⟩ = some (.int .i64 0) := (cell_of_row _ _ _ _ 29 (0, 0) y1).trans rfl
  have z3 : Wf.cell? ⟨w.heap.size + 1, 3, none⟩ = some (.bool false) := (cell_of_row _ _ _ _ 29 (0, 0) y1).trans rfl
  have z4 : Wf.cell? ⟨w.heap.size + 1, 4, none⟩ = some (.int .i64 0) := (cell_of_row _ _ _ _ 29 (0, 0) y1).trans rfl
  refine bodyPost_ret (v := .agg #[.int .i64 2, .bool false, .int .i64 0, .bool false, .int .i64 0]) ?_ rfl ⟨rfl, y3⟩
  simp [results, show f16.results = #[.cell 4 29] from rfl, go_sem, z0, z1, z2, z3, z4]
theorem pL_step (h : Hl) (l : List Bool) (j : Nat) (hj : j < l.length) : stp (pL h (l.take j)) (l.getD j false) = pL h (l.take (j + 1)) := by
  unfold pL
  rw [List.take_add_one, List.foldl_append]
  simp [List.getD, List.getElem?_eq_getElem hj]
set_option maxRecDepth 100000 in
set_option maxHeartbeats 8000000 in
theorem many16 (nm run : Int) (up : Bool) (q : Option Addr) (bs : List Bool) (cap : Nat) (hn : bs.length ≤ 100) (w : World) (hk0 : hF (nm, up, run) = 0)
    (hq : bs.length ≠ 0 → ∃ b off, q = some ⟨b, off, none⟩ ∧ b < w.heap.size ∧ ∀ j, j < bs.length → w.cell? ⟨b, off + j, none⟩ = some (.bool (bs.getD j false))) :
    Calls prog 16 #[.agg #[.int .i64 nm, .bool up, .int .i64 run], .slice q bs.length cap] w fun e W => e = .returned (.agg (hrC (0, !((pL (nm, up, run) bs).2.1 == up), pL (nm, up, run) bs))) ∧ Below w.heap.size w W := by
  generalize hW0 : (w.alloc (.cells #[.int .i64 nm, .bool up, .int .i64 run] 25)).alloc (.cells #[.int .i64 0, .bool false, .int .i64 0, .bool false, .int .i64 0] 29) = W0
  have hB0 : Below w.heap.size w W0 := by subst hW0; exact (((Below.refl w.heap.size w).alloc (Nat.le_refl _) _).alloc (by simp) _)
  have b00 : W0.heap[w.heap.size]? = some (.cells #[.int .i64 nm, .bool up, .int .i64 run] 25 (0, 0)) := by subst hW0; exact heap_alloc2_old w _ _
  have b01 : W0.heap[w.heap.size + 1]? = some (.cells #[.int .i64 0, .bool false, .int .i64 0, .bool false, .int .i64 0] 29 (0, 0)) := by subst hW0; exact heap_alloc2_new w _ _
  have k00 : W0.cell? ⟨w.heap.size, 0, none⟩ = some (.int .i64 nm) := (cell_of_row _ _ _ _ 25 (0, 0) b00).trans rfl
  have k01 : W0.cell? ⟨w.heap.size, 1, none⟩ = some (.bool up) := (cell_of_row _ _ _ _ 25 (0, 0) b00).trans rfl
  have k02 : W0.cell? ⟨w.heap.size, 2, none⟩ = some (.int .i64 run) := (cell_of_row _ _ _ _ 25 (0, 0) b00).trans rfl
  have hs0 : W0.heap.size = w.heap.size + 2 := by subst hW0; simp
  have h10 := cl10 (nm, up, run) W0
  rw [hk0] at h10
  have hgt : decide ((bs.length : Int) > 100) = false := decide_eq_false (by omega)
  have hgt2 : ¬ (100 : Int) < (bs.length : Int) := by omega
  go_enter func16, ntmps16
  go_upto_region 2 with (go_at_call 10; (first | rw [hW0] | skip); refine h10.mono ?_; clear h10; rintro e w1 ⟨rfl, hB1⟩)
  have r0 : w1.heap[w.heap.size]? = some (.cells #[.int .i64 nm, .bool up, .int .i64 run] 25 (0, 0)) := (hB1.block _ (by omega)).trans b00
  have r1 : w1.heap[w.heap.size + 1]? = some (.cells #[.int .i64 0, .bool false, .int .i64 0, .bool false, .int .i64 0] 29 (0, 0)) := (hB1.block _ (by omega)).trans b01
  have hBw := hB0.trans (hB1.mono hB0.size)
  have hsz1 : w.heap.size + 2 ≤ w1.heap.size := by have := hB1.size; omega
  clear k00 k01 k02
  have k00 : w1.cell? ⟨w.heap.size, 0, none⟩ = some (.int .i64 nm) := (cell_of_row _ _ _ _ 25 (0, 0) r0).trans rfl
  have k01 : w1.cell? ⟨w.heap.size, 1, none⟩ = some (.bool up) := (cell_of_row _ _ _ _ 25 (0, 0) r0).trans rfl
  have k02 : w1.cell? ⟨w.heap.size, 2, none⟩ = some (.int .i64 run) := (cell_of_row _ _ _ _ 25 (0, 0) r0).trans rfl
  go_wp2
  have o1 := heap_alloc_new w1 (.cells #[.int .i64 nm, .bool up, .int .i64 run] 25)
  have o3 : Below w1.heap.size w1 (w1.alloc (.cells #[.int .i64 nm, .bool up, .int .i64 run] 25)) := (Below.refl w1.heap.size w1).alloc (Nat.le_refl _) _
  go_loopw [7] (fun i wr => ∃ j : Nat, j ≤ bs.length ∧ i = .int .i64 j ∧ wr.heap[w1.heap.size]? = some (.cells (hlC (pL (nm, up, run) (bs.take j))) 25 (0, 0)) ∧ Below w1.heap.size w1 wr) (fun i _ => bs.length - (intOf i).toNat)
  case atStart => exact ⟨0, Nat.zero_le _, rfl, o1, o3⟩
  case round =>
    obtain ⟨j, hj, rfl, hO, hBr⟩ := hrel
    have hOl : w1.heap.size < wr.heap.size := (Array.getElem?_eq_some_iff.1 hO).1
    by_cases hlt : j < bs.length
    · obtain ⟨sb, so, rfl, hsb, had⟩ := hq (by omega)
      have k0 := (hBr.cell (p := ⟨sb, so + j, none⟩) (by show sb < _; omega)).trans ((hBw.cell hsb).trans (had j hlt))
      have h00 := pL_ok (bs.take j) hk0
      have hst := pL_step (nm, up, run) bs j hlt
      generalize bs.getD j false = b at k0 hst
      generalize pL (nm, up, run) (bs.take j) = h at hO h00 hst
      have h46 := cl46 h b h00
      generalize (pS (h, b)).2.2.2 = t at h46
      rw [hst] at h46
      generalize hh' : pL (nm, up, run) (bs.take (j + 1)) = h' at h46
      obtain ⟨x0, x1, x2⟩ := h
      obtain ⟨y0, y1, y2⟩ := h'
      replace h46 : ∀ w, Calls prog 46 #[.agg #[.int .i64 x0, .bool x1, .int .i64 x2], .bool b] w fun e w' => e = .returned (.tuple #[.agg #[.int .i64 y0, .bool y1, .int .i64 y2], .bool t]) ∧ Below w.heap.size w w' := h46
      have c0 : wr.cell? ⟨w1.heap.size, 0, none⟩ = some (.int .i64 x0) := (cell_of_row _ _ _ _ 25 (0, 0) hO).trans rfl
      have c1 : wr.cell? ⟨w1.heap.size, 1, none⟩ = some (.bool x1) := (cell_of_row _ _ _ _ 25 (0, 0) hO).trans rfl
      have c2 : wr.cell? ⟨w1.heap.size, 2, none⟩ = some (.int .i64 x2) := (cell_of_row _ _ _ _ 25 (0, 0) hO).trans rfl
      have ea : (⟨sb, so, none⟩ : Addr).add j = ⟨sb, so + j, none⟩ := Addr.add_lit ..
      go_wp2
      go_region_with (go_at_call 46; (first | (refine (h46 wr).mono ?_; rintro e w3 ⟨rfl, hB3⟩; have hB4 : Below w1.heap.size w1 w3 := hBr.trans (hB3.mono hBr.size)) | (refine (h46 wr.drew).mono ?_; rintro e w3 ⟨rfl, hB3⟩; have hB4 : Below w1.heap.size w1 w3 := hBr.drew.trans (hB3.mono hBr.drew.size))); have r3 : w3.heap[w1.heap.size]? = some (.cells #[.int .i64 x0, .bool x1, .int .i64 x2] 25 (0, 0)) := (hB3.block _ hOl).trans hO; have d0 : w3.cell? ⟨w1.heap.size, 0, none⟩ = some (.int .i64 x0) := (cell_of_row _ _ _ _ 25 (0, 0) r3).trans rfl; have d1 : w3.cell? ⟨w1.heap.size, 1, none⟩ = some (.bool x1) := (cell_of_row _ _ _ _ 25 (0, 0) r3).trans rfl; have d2 : w3.cell? ⟨w1.heap.size, 2, none⟩ = some (.int .i64 x2) := (cell_of_row _ _ _ _ 25 (0, 0) r3).trans rfl; have f0 : w3.frozen? ⟨w1.heap.size, 0, none⟩ = false := frozen_of_row _ _ _ _ 25 r3; have f1 : w3.frozen? ⟨w1.heap.size, 1, none⟩ = false := frozen_of_row _ _ _ _ 25 r3; have f2 : w3.frozen? ⟨w1.heap.size, 2, none⟩ = false := frozen_of_row _ _ _ _ 25 r3)
      all_goals (
        obtain ⟨y5, y6⟩ := set3 w3 w1.heap.size (.int .i64 y0) (.bool y1) (.int .i64 y2) _ _ _ r3
        have y7 := y6 w1.heap.size w1 (Nat.le_refl _) hB4
        have hw : IntKind.wrap .i64 ((j : Int) + 1) = ((j + 1 : Nat) : Int) := by rw [wi (by omega) (by omega)]; omega
        go_wp2
        refine ⟨⟨j + 1, by omega, by simp [hw], hh' ▸ y5, y7⟩, ?_⟩
        simp only [intOf]
        omega)
    · obtain rfl : j = bs.length := by omega
      rw [List.take_length] at hO
      generalize hh : pL (nm, up, run) bs = h at hO
      obtain ⟨x0, x1, x2⟩ := h
      have c0 : wr.cell? ⟨w1.heap.size, 0, none⟩ = some (.int .i64 x0) := (cell_of_row _ _ _ _ 25 (0, 0) hO).trans rfl
      have c1 : wr.cell? ⟨w1.heap.size, 1, none⟩ = some (.bool x1) := (cell_of_row _ _ _ _ 25 (0, 0) hO).trans rfl
      have c2 : wr.cell? ⟨w1.heap.size, 2, none⟩ = some (.int .i64 x2) := (cell_of_row _ _ _ _ 25 (0, 0) hO).trans rfl
      clear k00 k01 k02
      have k01 : wr.cell? ⟨w.heap.size, 1, none⟩ = some (.bool up) := (hBr.cell (p := ⟨w.heap.size, 1, none⟩) (by show w.heap.size < _; omega)).trans ((cell_of_row _ _ _ _ 25 (0, 0) r0).trans rfl)
      have r3 : wr.heap[w.heap.size + 1]? = some (.cells #[.int .i64 0, .bool false, .int .i64 0, .bool false, .int .i64 0] 29 (0, 0)) := (hBr.block _ (by omega)).trans r1
      have f0 : wr.frozen? ⟨w.heap.size + 1, 0, none⟩ = false := frozen_of_row _ _ _ _ 29 r3
      have f1 : wr.frozen? ⟨w.heap.size + 1, 1, none⟩ = false := frozen_of_row _ _ _ _ 29 r3
      have f2 : wr.frozen? ⟨w.heap.size + 1, 2, none⟩ = false := frozen_of_row _ _ _ _ 29 r3
      have f3 : wr.frozen? ⟨w.heap.size + 1, 3, none⟩ = false := frozen_of_row _ _ _ _ 29 r3
      have f4 : wr.frozen? ⟨w.heap.size + 1, 4, none⟩ = false := frozen_of_row _ _ _ _ 29 r3
      have r10 : wr.cell? ⟨w.heap.size + 1, 0, none⟩ = some (.int .i64 0) := (cell_of_row _ _ _ _ 29 (0, 0) r3).trans rfl
      have r11 : wr.cell? ⟨w.heap.size + 1, 1, none⟩ = some (.bool false) := (cell_of_row _ _ _ _ 29 (0, 0) r3).trans rfl
      have r12 : wr.cell? ⟨w.heap.size + 1, 2, none⟩ = some (.int .i64 0) := (cell_of_row _ _ _ _ 29 (0, 0) r3).trans rfl
      have r13 : wr.cell? ⟨w.heap.size + 1, 3, none⟩ = some (.bool false) := (cell_of_row _ _ _ _ 29 (0, 0) r3).trans rfl
      have r14 : wr.cell? ⟨w.heap.size + 1, 4, none⟩ = some (.int .i64 0) := (cell_of_row _ _ _ _ 29 (0, 0) r3).trans rfl
      go_wp2
      obtain ⟨y5, y6⟩ := set5 wr (w.heap.size + 1) (.int .i64 0) (.bool (!(x1 == up))) (.int .i64 x0) (.bool x1) (.int .i64 x2) _ _ _ _ _ r3
      have y7 := y6 w.heap.size w (by omega) (hBw.trans (hBr.mono hBw.size))
      generalize (((((wr.setCell ⟨w.heap.size + 1, 0, none⟩ (.int .i64 0)).setCell ⟨w.heap.size + 1, 1, none⟩ (.bool (!(x1 == up)))).setCell ⟨w.heap.size + 1, 2, none⟩ (.int .i64 x0)).setCell ⟨w.heap.size + 1, 3, none⟩ (.bool x1)).setCell ⟨w.heap.size + 1, 4, none⟩ (.int .i64 x2)) = Wf at y5 y7 ⊢
      have z0 : Wf.cell? ⟨w.heap.size + 1, 0, none⟩ = some (.int .i64 0) := (cell_of_row _ _ _ _ 29 (0, 0) y5).trans rfl
      have z1 : Wf.cell? ⟨w.heap.size + 1, 1, none⟩ = some (.bool (!(x1 == up))) := (cell_of_row _ _ _ _ 29 (0, 0) y5).trans rfl
      have z2 : Wf.cell? ⟨w.heap.size + 1, 2, none⟩ = some (.int .i64 x0) := (cell_of_row _ _ _ _ 29 (0, 0) y5).trans rfl
      have z3 : Wf.cell? ⟨w.heap.size + 1, 3, none⟩ = some (.bool x1) := (cell_of_row _ _ _ _ 29 (0, 0) y5).trans rfl
      have z4 : Wf.cell? ⟨w.heap.size + 1, 4, none⟩ = some (.int .i64 x2) := (cell_of_row _ _ _ _ 29 (0, 0) y5).trans rfl
      rw [hh]
      refine bodyPost_ret (v := .agg #[.int .i64 0, .bool (!(x1 == up)), .int .i64 x0, .bool x1, .int .i64 x2]) ?_ rfl ⟨rfl, y7⟩
      simp [results, show f16.results = #[.cell 4 29] from rfl, go_sem, z0, z1, z2, z3, z4]
end
end Go.Proofs.Try

set_option maxHeartbeats 0
set_option linter.unusedVariables false
set_option linter.unusedSimpArgs false
namespace Go.Proofs.Try
open Go Go.VM Go.RowKit

theorem two_arg {w : World} {A0 : Nat → Prop} {a b : A cxT.ty} {us : List Value} (h : ArgAs cxT w A0 [a, b] us) : ∃ x y, us = [x, y] ∧ ArgA cxT w A0 a x ∧ ArgA cxT w A0 b y := by
  obtain ⟨hl, h⟩ := h
  match us, hl with
  | [x, y], _ => exact ⟨x, y, rfl, h 0 _ _ rfl rfl, h 1 _ _ rfl rfl⟩
theorem res_hr {W : World} {A0 N : Nat → Prop} (h : Hr) : ResV cxT W A0 N (n16 h) (.agg (hrC h)) := by
  refine ⟨[], List.nodup_nil, by simp, [_, _, _, _, _], [[], [], [], [], []], rfl, by simp, rfl, rfl, fun j a u f e1 e2 e3 => ?_⟩
  match j with
  | 0 => cases e1; cases e2; cases e3; exact ⟨rfl, rfl⟩
  | 1 => cases e1; cases e2; cases e3; exact ⟨rfl, rfl⟩
  | 2 => cases e1; cases e2; cases e3; exact ⟨rfl, rfl⟩
  | 3 => cases e1; cases e2; cases e3; exact ⟨rfl, rfl⟩
  | 4 => cases e1; cases e2; cases e3; exact ⟨rfl, rfl⟩
  | j + 5 => simp at e2
theorem bools_at {w : World} {A0 : Nat → Prop} (hA : ∀ b, A0 b → b < w.heap.size) {l : List Bool} {u : Value} (h : ArgA cxT w A0 (.inl (ls (ro 4 l))) u) :
    ∃ q cap, u = .slice q l.length cap ∧ (l.length ≠ 0 → ∃ b off, q = some ⟨b, off, none⟩ ∧ b < w.heap.size ∧ ∀ j, j < l.length → w.cell? ⟨b, off + j, none⟩ = some (.bool (l.getD j false))) := by
  obtain ⟨_, n, hr⟩ := (show (ro 4 l : SlD cxT.ty).own = 0 ∧ ∃ n, RepL cxT w A0 n (some (.inr (ro 4 l))) u from h)
  obtain ⟨q, c, rfl, hcap, hq⟩ := rep_row hr
  refine ⟨q, c, rfl, fun h => ?_⟩
  rcases hq with hq | ⟨b, off, rfl, hS, hel⟩
  · exact absurd (show l.length = 0 by rw [show l = [] from hq]; rfl) h
  · refine ⟨b, off, rfl, hA b hS, fun j hj => ?_⟩
    have hy : (l : List Bool)[j]? = some l[j] := List.getElem?_eq_getElem hj
    have hg : (l : List Bool).getD j false = l[j] := getD_at false hj
    obtain ⟨u, m, k1, k2⟩ := hel j _ hy 0 _ (show (cxT.enc 4 false l[j])[0]? = some (lv (.bool l[j])) from rfl)
    have h5 : u = .bool l[j] := by cases m <;> simpa [RepL, lv] using k2
    rw [hg, ← h5]
    exact (show w.cell? ⟨b, off + (j * 1 + 0), none⟩ = some u from k1) ▸ (by simp)
theorem sat16 : Sat prog cxT 16 (c16 mK) := by
  intro w A0 l us r hA hargs hF'
  obtain ⟨x, t, rfl, hx, rfl⟩ := fnT_inv hF'
  obtain ⟨⟨nm, up, run⟩, bs⟩ := x
  obtain ⟨u1, u2, rfl, h1, h2⟩ := two_arg (show ArgAs cxT w A0 [.inr ([.int .i64 nm, .bool up, .int .i64 run].map lv), .inl (ls (ro 4 bs))] us from hargs)
  obtain rfl := agg_arg h1
  obtain ⟨q, cap, rfl, hq⟩ := bools_at hA h2
  unfold mK at hx
  split at hx
  · cases hx
    show Calls prog 16 #[.agg #[.int .i64 nm, .bool up, .int .i64 run], .slice q bs.length cap] w fun e w' => ∃ u, e = .returned u ∧ Below w.heap.size w w' ∧ ResV cxT w' A0 (fun b => w.heap.size ≤ b) (n16 (pK ((nm, up, run), bs))) u
    unfold pK
    by_cases h0 : hF (nm, up, run) = 0
    · rw [if_pos h0]
      by_cases h3 : bs.length > 100
      · rw [if_pos h3]
        refine (many16b nm run up q bs.length cap h3 w h0).mono ?_
        rintro e W ⟨rfl, hB⟩
        exact ⟨_, rfl, hB, res_hr (2, false, 0, false, 0)⟩
      · rw [if_neg h3]
        refine (many16 nm run up q bs cap (by omega) w h0 hq).mono ?_
        rintro e W ⟨rfl, hB⟩
        exact ⟨_, rfl, hB, res_hr _⟩
    · rw [if_neg h0]
      refine (many16k nm run up q bs.length cap w h0).mono ?_
      rintro e W ⟨rfl, hB⟩
      rw [hF_three h0]
      exact ⟨_, rfl, hB, res_hr (3, false, 0, false, 0)⟩
  · cases hx
/-! The law FnExactProbeMany -/
def m5 (x : Hl × List Bool) : Option Bool := if x.2.length ≤ top then some true else none
theorem sat5 : Sat prog cxT 5 (c5 m5) := s5 _ m17 mK mK _ m19 sat11 sat17 sat16 sat18 sat15 sat19 m5 fun x t h => by
  obtain ⟨⟨a, b, c⟩, l⟩ := x
  unfold m5 at h
  split at h
  · cases h
    refine ⟨0, ?_⟩
    show g5 _ m17 mK mK _ m19 0 a b c l = some true
    unfold g5
    by_cases h : l.length > 1048576
    · rw [dt (show (l.length : Int) > 1048576 by omega), cond_true]
    · rw [df (show ¬ (l.length : Int) > 1048576 by omega), cond_false]
      simp only [tst_some]
      rw [show m17 l = some l from if_pos (by unfold mid; omega)]
      simp only [tst_some]
      rw [show mK ((a, b, c), l) = some (pK ((a, b, c), l)) from if_pos (by show l.length ≤ big; unfold big; omega)]
      simp only [tst_some]
      rw [show m19 (l, l) = some (decide (l = l)) from if_pos (by show l.length ≤ big; unfold big; omega)]
      simp [tst_some]
  · cases h
end Go.Proofs.Try
