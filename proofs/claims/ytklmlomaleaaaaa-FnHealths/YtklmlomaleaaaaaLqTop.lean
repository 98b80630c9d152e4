/- A part of the proof of FnHealths: LqTop, LqTopC. -/
import Derived.Test.YtklmlomaleaaaaaVmOpen
import Derived.Test.YtklmlomaleaaaaaVmJ
import Derived.Test.YtklmlomaleaaaaaLqPp
set_option maxHeartbeats 0
set_option linter.unusedVariables false
set_option linter.unusedSimpArgs false
namespace Go.Proofs.Try
open Go Go.VM Go.RowKit

end Go.Proofs.Try

namespace Go.Proofs.Try
open Go Go.VM Go.RowKit

theorem take_get {z : List Int} {n i : Nat} {y : Int} (h : (z.take n)[i]? = some y) : z.getD i 0 = y := by
  rw [List.getElem?_take] at h
  split at h
  · simp only [List.getD]; rw [h]; rfl
  · simp at h

def row5' (xs : List Int) : L cxT.ty := some (.inr (ro 5 xs))
theorem row_u8 {w : World} {a : Option Addr} {len cap : Nat} {zs : List Int} (h : (a = none ∧ len = 0 ∧ cap = 0 ∧ zs = []) ∨
    ∃ x, a = some x ∧ len ≤ cap ∧ cap ≤ maxLen ∧ zs.length = cap ∧ (∀ i, i < zs.length → w.cell? (x.add i) = some (.int .u8 (zs.getD i 0))) ∧ ∀ n ∈ zs, (Lit.int .u8 n).wf = true) :
    (∃ n, RepL cxT w (Lent w) n (row5' (zs.take len)) (.slice a len cap)) ∧ okB (zs.take len) = true := by
  rcases h with ⟨rfl, rfl, rfl, rfl⟩ | ⟨x, rfl, hl, hm, hz, hcell, hwz⟩
  · exact ⟨lent_nil (cx := cxT) (e := 5), rfl⟩
  · obtain ⟨xs, hxs⟩ : ∃ xs, xs = zs.take len := ⟨_, rfl⟩
    have hlen : xs.length = len := by rw [hxs, List.length_take]; omega
    have henc : ∀ i y, xs[i]? = some y → zs.getD i 0 = y := fun i y hy => take_get (hxs ▸ hy)
    refine ⟨?_, okB_of hwz _⟩
    rw [← hxs]
    exact lent_row (cx := cxT) (e := 5) (k := .u8) xs rfl hlen hl (by omega) (fun i y hy => by rw [henc i y hy]; rfl) hcell
theorem len_row {w : World} {a : Option Addr} {len cap : Nat} {zs : List Int} (h : (a = none ∧ len = 0 ∧ cap = 0 ∧ zs = []) ∨
    ∃ x, a = some x ∧ len ≤ cap ∧ cap ≤ maxLen ∧ zs.length = cap ∧ (∀ i, i < zs.length → w.cell? (x.add i) = some (.int .u8 (zs.getD i 0))) ∧ ∀ n ∈ zs, (Lit.int .u8 n).wf = true) : (zs.take len).length ≤ top := by
  have ht : maxLen ≤ top := by decide
  rcases h with ⟨rfl, rfl, rfl, rfl⟩ | ⟨x, rfl, hl, hm, hz, _⟩
  · simp
  · rw [List.length_take]; omega
end Go.Proofs.Try
