/- A part of the proof of FnExactSpreadOf: VmTop. -/
import Derived.Test.YtmdmeakelebfcaaVmPu
import Derived.Below
namespace Go.VM
open Go Go.RowKit

/-- Whatever lies in the world may be lent. -/
def Lent (w : World) (b : Nat) : Prop := b < w.heap.size

theorem cell_spot {w : World} {x : Addr} {v : Value} (h : w.cell? x = some v) : x.spot = none ∧ x.block < w.heap.size := by
  unfold World.cell? at h
  split at h
  · rename_i c e f hb
    split at h
    · simp at h
    · rename_i hs
      exact ⟨by simpa using hs, (Array.getElem?_eq_some_iff.1 hb).1⟩
  · simp at h

/-- A row of numbers that came in, as it is lent. -/
theorem lent_row {cx : Cx} {e : Nat} {k : IntKind} {w : World} {x : Addr} {len cap : Nat} {zs : List Int} (xs : List (cx.ty e)) (hsz : cx.size e = 1) (hlen : xs.length = len) (hle : len ≤ cap) (hz : len ≤ zs.length)
    (henc : ∀ i y, xs[i]? = some y → cx.enc e false y = [lv (.int k (zs.getD i 0))]) (hcell : ∀ i, i < zs.length → w.cell? (x.add i) = some (.int k (zs.getD i 0))) :
    ∃ n, RepL cx w (Lent w) n (some (.inr (ro e xs))) (.slice (some x) len cap) := by
  refine ⟨1, some x, cap, by rw [← hlen]; rfl, by show xs.length ≤ cap; omega, ?_⟩
  by_cases h0 : xs = []
  · exact .inl h0
  · have hpos : 0 < xs.length := List.length_pos_iff.2 h0
    have h1 := cell_spot (hcell 0 (by omega))
    obtain ⟨b, off, spot⟩ := x
    simp only [Addr.add] at h1
    obtain ⟨rfl, hb⟩ := h1
    refine .inr ⟨b, off, rfl, hb, fun i y hy j l hl => ?_⟩
    have hy : xs[i]? = some y := hy
    have hi : i < xs.length := (List.getElem?_eq_some_iff.1 hy).1
    have hl : (cx.enc e false y)[j]? = some l := hl
    rw [henc i y hy] at hl
    cases j with
    | zero =>
      simp only [List.getElem?_cons_zero, Option.some.injEq] at hl
      subst hl
      refine ⟨_, ?_, rfl⟩
      have := hcell i (by omega)
      show w.cell? ⟨b, off + (i * cx.size e + 0), none⟩ = _
      rw [hsz, Nat.mul_one, Nat.add_zero]
      simpa [Addr.add_lit] using this
    | succ j => simp at hl

theorem lent_nil {cx : Cx} {e : Nat} {w : World} : ∃ n, RepL cx w (Lent w) n (some (.inr (ro e ([] : List (cx.ty e))))) (.slice none 0 0) :=
  ⟨1, none, 0, rfl, Nat.le_refl _, .inl rfl⟩

theorem args_nil {cx : Cx} {w : World} {A0 : Nat → Prop} : ArgAs cx w A0 [] [] := ⟨rfl, fun j a u h => by simp at h⟩
theorem args_cons {cx : Cx} {w : World} {A0 : Nat → Prop} {a : A cx.ty} {l : List (A cx.ty)} {u : Value} {us : List Value} (h : ArgA cx w A0 a u) (hs : ArgAs cx w A0 l us) : ArgAs cx w A0 (a :: l) (u :: us) :=
  ⟨by simp [hs.1], fun j b v h1 h2 => by
    cases j with
    | zero =>
      simp only [List.getElem?_cons_zero, Option.some.injEq] at h1 h2
      subst h1; subst h2
      exact h
    | succ j => exact hs.2 j b v (by simpa using h1) (by simpa using h2)⟩

/-- A law that the contract says to be true. -/
theorem calls_true {P : Program} {cx : Cx} {f : FuncId} {X : Type} {a : Args cx.ty X} {d : Bool} {m : X → Option Bool} {enc : Bool → V cx.ty} (henc : enc true = .inl (.inl (lv (.bool true)))) (hs : Sat P cx f (fnT a enc d m)) {w : World}
    {l : List (A cx.ty)} {us : List Value} {x : X} (hdec : a.dec l = some x) (hm : m x = some true) (hargs : ArgAs cx w (Lent w) l us) :
    Calls P f us.toArray w fun e w' => e = .returned (.bool true) ∧ Below w.heap.size w w' := by
  refine (hs w (Lent w) l us (enc true) (fun b h => h) hargs ?_).mono fun e w' ⟨u, he, hb, hres⟩ => ⟨?_, hb⟩
  · unfold fnT
    rw [hdec]
    simp [hm]
  · obtain ⟨fp, _, _, hr⟩ := hres
    rw [henc] at hr
    have hr : u = .bool true ∧ fp = [] := hr
    rw [he, hr.1]

theorem okB_of {zs : List Int} (h : ∀ n ∈ zs, (Lit.int .u8 n).wf = true) (k : Nat) : okB (zs.take k) = true := by
  unfold okB
  rw [List.all_eq_true]
  intro x hx
  have := h x (List.mem_of_mem_take hx)
  simp [Lit.wf, IntKind.min, IntKind.max, IntKind.signed, IntKind.bits] at this
  simp; omega
def iv (x : Int) : Bool := decide (-9223372036854775808 ≤ x) && decide (x ≤ 9223372036854775807)
theorem iv_of {n : Int} (h : (Lit.int .i64 n).wf = true) : iv n = true := by
  simp [Lit.wf, IntKind.min, IntKind.max, IntKind.signed, IntKind.bits] at h
  simp [iv]; omega
end Go.VM
