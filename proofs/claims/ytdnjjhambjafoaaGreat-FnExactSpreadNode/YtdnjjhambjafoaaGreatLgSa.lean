/- A part of the proof of FnExactSpreadNode: LgSa, LgSb, LgSc. -/
import Derived.Test.YtdnjjhambjafoaaGreatLgPc
import Derived.Test.YtdnjjhambjafoaaGreatVmGr
import Derived.WalkKit
import Derived.OwnWalkIn
import Derived.Below
import Derived.WalkMore
set_option linter.unusedVariables false
set_option linter.unusedSimpArgs false
namespace Go.Proofs.Tryz
open Go Go.VM Go.RowKit
theorem info29 : (prog.info? 57).map (fun i => (i.zero.isSome, (i.zero.getD .nilFunc).cells.size, i.size, i.bytes)) = some (true, 9, 9, 72) := by kernel_rfl
theorem info29' : ∃ i z, prog.info? 57 = some i ∧ i.zero = some z ∧ z.cells.size = 9 ∧ i.size = 9 ∧ i.bytes = 72 := by
  have h := info29
  obtain ⟨i, hi, h⟩ := Option.map_eq_some_iff.1 h
  simp only [Prod.mk.injEq] at h
  obtain ⟨h1, h2, h3, h4⟩ := h
  obtain ⟨z, hz⟩ := Option.isSome_iff_exists.1 h1
  rw [hz] at h2
  exact ⟨i, z, hi, hz, h2, h3, h4⟩
section
attribute [local go_sem] Oper.semAt_some
set_option maxRecDepth 100000 in
set_option maxHeartbeats 4000000 in
theorem grow97 (n : Nat) (hn : n ≤ 1000000000) (w : World) :
    Calls prog 155 #[.slice none 0 0, .int .i64 n] w fun e W => ∃ v, e = .returned v ∧ W.ownsRow w.heap.size 57 9 v 0 [] ∧ Below w.heap.size w W := by
  obtain ⟨i, z, hi, hz, hz1, hz2, hz3⟩ := info29'
  have hw : IntKind.wrap .i64 ((n : Int) - 0) = n := by rw [Int.sub_zero]; exact wi (by omega) (by omega)
  have hneg : ¬ ((n : Int) < 0) := by omega
  by_cases h0 : n = 0
  · subst h0
    go_enter func155, ntmps155
    go_wp2
    go_ret
    exact ⟨_, rfl, World.ownsRow_nil _ _ _ _, Below.refl _ _⟩
  · have hp : (0 : Int) < (n : Int) := by omega
    go_enter func155, ntmps155
    go_wp2_with (at_builtin; refine wpList_append_make_nil _ rfl _ _ 104 3 .i64 rfl 57 i z 9 72 underlying104 underlying3 hi hz hz2 hz3 hz1 rfl n rfl (by omega) (by unfold maxLen; omega) (by omega) ?_; intro cap w' hcap hown hbel)
    go_ret
    exact ⟨_, rfl, hown, hbel⟩
end
end Go.Proofs.Tryz

namespace Go.Proofs.Tryz
open Go Go.VM Go.RowKit
def PcAt (w : World) (p : Value × Nat × List Value) : Prop :=
  p.2.2.length = p.2.1 * 9 ∧ (∀ x ∈ p.2.2, x.oneCell' = true) ∧ ∃ q c, p.1 = .slice q p.2.1 c ∧
    ((q = none ∧ p.2.1 = 0) ∨ ∃ ad, q = some ad ∧ (p.2.1 ≠ 0 → ad.block < w.heap.size) ∧ ∀ j x, p.2.2[j]? = some x → w.cell? (ad.add j) = some x)
def sumP (ps : List (Value × Nat × List Value)) : Nat := (ps.map fun p => p.2.1).sum
def celP (ps : List (Value × Nat × List Value)) : List Value := ps.flatMap fun p => p.2.2
theorem sumP_take {ps : List (Value × Nat × List Value)} {k : Nat} {p} (h : ps[k]? = some p) : sumP (ps.take (k + 1)) = sumP (ps.take k) + p.2.1 := by
  unfold sumP
  rw [List.take_add_one, h]; simp
theorem celP_take {ps : List (Value × Nat × List Value)} {k : Nat} {p} (h : ps[k]? = some p) : celP (ps.take (k + 1)) = celP (ps.take k) ++ p.2.2 := by
  unfold celP
  rw [List.take_add_one, h]; simp
theorem sumP_le {ps : List (Value × Nat × List Value)} (k : Nat) : sumP (ps.take k) ≤ sumP ps := by
  unfold sumP
  conv => rhs; rw [← List.take_append_drop k ps]
  rw [List.map_append, List.sum_append]; omega
section
attribute [local go_sem] Oper.semAt_some
set_option maxRecDepth 100000 in
set_option maxHeartbeats 4000000 in
theorem concat82 (bo off cap : Nat) (ps : List (Value × Nat × List Value)) (hlen : ps.length ≤ 1000) (w : World) (B : Nat) (hBw : w.heap.size = B) (hp : ∀ p ∈ ps, PcAt w p) (htot : sumP ps ≤ 1000000000) (hbo : bo < B)
    (hcell : ∀ i p, ps[i]? = some p → w.cell? ⟨bo, off + i, none⟩ = some p.1) :
    Calls prog 134 #[.slice (some ⟨bo, off, none⟩) ps.length cap] w fun e W => ∃ v, e = .returned v ∧ W.ownsRow B 57 9 v (sumP ps) (celP ps) ∧ Below B w W := by
  obtain ⟨i0, z, hi, hz, hz1, hz2, hz3⟩ := info29'
  go_enter func134, ntmps134
  go_wp2
  go_loopw [3, 11] (fun s i wr => ∃ k : Nat, k ≤ ps.length ∧ i = .int .i64 k ∧ s = .int .i64 (sumP (ps.take k) : Nat) ∧ wr = w) (fun _ i _ => ps.length - (intOf i).toNat)
  case atStart => exact ⟨0, Nat.zero_le _, rfl, rfl, rfl⟩
  case round =>
    obtain ⟨k, hk, rfl, rfl, rfl⟩ := hrel
    by_cases hlt : k < ps.length
    · have hs := List.getElem?_eq_getElem hlt
      obtain ⟨q, hq⟩ : ∃ q, ps[k] = q := ⟨_, rfl⟩
      rw [hq] at hs
      have hc := hcell k q hs
      have hpq := hp q (List.mem_of_getElem? hs)
      obtain ⟨u, m, cs⟩ := q
      obtain ⟨hl, h1, a, c, hu, hr⟩ := hpq
      simp only at hl h1 hu hr hc
      subst hu
      have hst := sumP_take hs
      simp only at hst
      have hle := sumP_le (ps := ps) (k + 1)
      have hw1 : IntKind.wrap .i64 ((sumP (ps.take k) : Nat) + (m : Int)) = (sumP (ps.take k) : Nat) + (m : Int) := wi (by omega) (by omega)
      have hnn : ¬ (((sumP (ps.take k) : Nat) : Int) + (m : Int) < 0) := by omega
      go_wp2
      go_roundw
      case rel => exact ⟨k + 1, by omega, by simp, by rw [hst]; simp, trivial⟩
      case measure => simp [intOf]; omega
    · obtain rfl : k = ps.length := by omega
      rw [List.take_length]
      go_wp2_with (go_at_call 155; refine (grow97 (sumP ps) htot _).mono ?_; rintro e w1 ⟨v0, rfl, hrow0, hB0⟩; rw [hBw] at hrow0 hB0)
      go_loopw [6, 27] (fun v i wi => ∃ k : Nat, k ≤ ps.length ∧ i = .int .i64 k ∧ wi.ownsRow B 57 9 v (sumP (ps.take k)) (celP (ps.take k)) ∧ Below B wr wi) (fun _ i _ => ps.length - (intOf i).toNat)
      case atStart => exact ⟨0, Nat.zero_le _, rfl, by simpa [sumP, celP] using hrow0, hB0⟩
      case round =>
        obtain ⟨k, hk, rfl, hrow, hB⟩ := hrel
        by_cases hlt : k < ps.length
        · have hs := List.getElem?_eq_getElem hlt
          obtain ⟨q, hq⟩ : ∃ q, ps[k] = q := ⟨_, rfl⟩
          rw [hq] at hs
          have hc := hcell k q hs
          have hpq := hp q (List.mem_of_getElem? hs)
          obtain ⟨u, m, cs⟩ := q
          obtain ⟨hl, h1, a, c, hu, hr⟩ := hpq
          simp only at hl h1 hu hr hc
          subst hu
          have hst := sumP_take hs
          have hct := celP_take hs
          simp only at hst hct
          have hle := sumP_le (ps := ps) (k + 1)
          have hBs := hB.size; rw [hBw] at hBs
          have hd := (hB.cell (p := ⟨bo, off + k, none⟩) hbo).trans hc
          rcases hr with ⟨rfl, rfl⟩ | ⟨ad, rfl, hb, hcs⟩
          · go_wp2_with (at_builtin; refine wpList_append_nothing _ rfl _ _ 104 rfl B 57 i0 9 underlying104 hi _ _ _ rfl hrow c rfl ?_)
            go_roundw
            case rel => exact ⟨k + 1, by omega, by simp, by rw [hst, hct]; simpa [List.length_eq_zero_iff.1 hl] using hrow, hB⟩
            case measure => simp [intOf]; omega
          · have hlt2 : ∀ (j : Nat) (x : Value), cs[j]? = some x → (ad.add j).block < B := fun j x hj => by
              have hm : m ≠ 0 := by rintro rfl; simp at hl; rw [hl] at hj; simp at hj
              have e1 : (ad.add j).block = ad.block := by unfold Addr.add; split <;> rfl
              rw [e1, ← hBw]; exact hb hm
            have hcs' := fun (j : Nat) (x : Value) (hj : cs[j]? = some x) => (hB.cell (p := ad.add j) (hlt2 j x hj)).trans (hcs j x hj)
            go_wp2_with (at_builtin; refine wpList_append_own _ rfl _ _ 104 rfl B 57 i0 z 9 72 underlying104 hi hz hz2 hz3 hz1 (by decide) _ _ _ rfl hrow ad m c cs rfl hl hcs' h1 (by unfold maxLen; omega) (by omega) hBs ?_; intro v' w4 hown' hgrow _)
            go_roundw
            case rel =>
              refine ⟨k + 1, by omega, by simp, by rw [hst, hct]; exact hown', hB.trans ?_⟩
              exact below_grown hBs hrow hgrow
            case measure => simp [intOf]; omega
        · obtain rfl : k = ps.length := by omega
          rw [List.take_length] at hrow
          go_wp2
          go_ret
          exact ⟨_, rfl, hrow, hB⟩
end
end Go.Proofs.Tryz

set_option maxHeartbeats 0
namespace Go.Proofs.Tryz
open Go Go.VM Go.RowKit
def sumL (x : List (List En)) : Nat := (x.map List.length).sum
def m134 (x : List (List En)) : Option (List En) := if x ≠ [] ∧ x.length ≤ 1000 ∧ sumL x ≤ 1000000000 then some x.flatten else none
theorem flat29 : cxT.flat 57 = true := rfl
theorem size29 : cxT.size 57 = 9 := rfl
theorem sat134 : Sat prog cxT 134 (c134 m134) := by
  intro w A0 l us r hA hargs hF
  obtain ⟨x, t, rfl, hx, rfl⟩ := fnT_inv hF
  obtain ⟨u, rfl, hu⟩ := one_arg (show ArgAs cxT w A0 [.inl (ls (ro 104 x))] us from hargs)
  unfold m134 at hx
  split at hx
  · rename_i hc
    obtain ⟨hne, hlen, htot⟩ := hc
    cases hx
    obtain ⟨_, n, hu⟩ := (show (ro 104 x : SlD cxT.ty).own = 0 ∧ ∃ n, RepL cxT w A0 n (some (.inr (ro 104 x))) u from hu)
    obtain ⟨q, c, rfl, hcap, hrow⟩ := rep_row hu
    rcases hrow with h | ⟨bo, off, rfl, hS, hel⟩
    · exact absurd h hne
    have each : ∀ (i : Nat) (y : List En), x[i]? = some y → ∃ p : Value × Nat × List Value, w.cell? ⟨bo, off + i, none⟩ = some p.1 ∧ p.2.1 = y.length ∧ p.2.2 = flatVals cxT 57 y ∧ PcAt w p := by
      intro i y hy
      obtain ⟨v, m, h1, h2⟩ := hel i y hy 0 (ls (ro 57 y)) rfl
      have h1 : w.cell? ⟨bo, off + (i * 1 + 0), none⟩ = some v := h1
      rw [Nat.mul_one, Nat.add_zero] at h1
      obtain ⟨q', c', rfl, hc', h3⟩ := rep_flat cxT_ok flat29 (by decide) h2
      refine ⟨(.slice q' y.length c', y.length, flatVals cxT 57 y), h1, rfl, rfl, ?_, flatVals_one cxT_ok flat29 y, q', c', rfl, ?_⟩
      · have := flatVals_len cxT_ok flat29 y
        rw [size29] at this
        exact this
      · rcases h3 with rfl | ⟨b', off', rfl, hS', h4⟩
        · cases q' with
          | none => exact .inl ⟨rfl, rfl⟩
          | some ad => exact .inr ⟨ad, rfl, fun h => absurd rfl h, fun j x hj => by
              have : flatVals cxT 57 ([] : List (cxT.ty 57)) = [] := rfl
              simp only at hj
              rw [this] at hj; simp at hj⟩
        · exact .inr ⟨⟨b', off', none⟩, rfl, fun _ => hA b' hS', fun j v hj => by rw [Addr.add_lit]; exact h4 j v hj⟩
    have all : ∀ k, k ≤ x.length → ∃ ps : List (Value × Nat × List Value), ps.length = k ∧ (∀ p ∈ ps, PcAt w p) ∧ sumP ps = sumL (x.take k) ∧ celP ps = flatVals cxT 57 (x.take k).flatten ∧ ∀ i p, ps[i]? = some p → w.cell? ⟨bo, off + i, none⟩ = some p.1 := by
      intro k
      induction k with
      | zero => exact fun _ => ⟨[], rfl, by simp, by simp [sumP, sumL], rfl, by simp⟩
      | succ k ih =>
        intro hk
        obtain ⟨ps, h1, h2, h3, h4, h5⟩ := ih (by omega)
        obtain ⟨y, hy⟩ : ∃ y, x[k]? = some y := ⟨_, List.getElem?_eq_getElem (by omega)⟩
        obtain ⟨p, k1, k2, k3, k4⟩ := each k y hy
        refine ⟨ps ++ [p], by simp [h1], fun z hz => ?_, ?_, ?_, fun i z hz => ?_⟩
        · rcases List.mem_append.1 hz with hz | hz
          · exact h2 z hz
          · simp only [List.mem_singleton] at hz
            subst hz; exact k4
        · unfold sumP sumL at h3 ⊢
          rw [List.take_add_one, hy]
          simp [h3, k2]
        · unfold celP at h4 ⊢
          rw [List.take_add_one, hy]
          simp only [Option.toList_some, List.flatten_append, List.flatten_cons, List.flatten_nil, List.append_nil, List.flatMap_append, List.flatMap_cons, List.flatMap_nil]
          rw [h4, k3]
          exact (flatVals_append 57 _ _).symm
        · by_cases hi : i < ps.length
          · rw [List.getElem?_append_left hi] at hz
            exact h5 i z hz
          · rw [List.getElem?_append_right (by omega)] at hz
            have hik : i = k := by
              have := (List.getElem?_eq_some_iff.1 hz).1
              simp at this
              omega
            have e0 : i - ps.length = 0 := by omega
            rw [e0] at hz
            simp only [List.getElem?_cons_zero, Option.some.injEq] at hz
            subst hz; subst hik
            exact k1
    obtain ⟨ps, h1, h2, h3, h4, h5⟩ := all x.length (Nat.le_refl _)
    rw [List.take_length] at h3 h4
    have := concat82 bo off c ps (by omega) w _ rfl h2 (by omega) (hA bo hS) h5
    rw [h1] at this
    refine this.mono ?_
    rintro e W ⟨v, rfl, hown, hB⟩
    have hln : sumL x = x.flatten.length := by simp [sumL, List.length_flatten]
    refine ⟨v, rfl, hB, ?_⟩
    refine res_row (xs := x.flatten) cxT_ok flat29 (fun b hb => ?_) ?_
    · have := hown.lt b hb
      exact this
    · rw [h3, hln, h4] at hown
      exact ownsRow_zero hown
  · cases hx
end Go.Proofs.Tryz
