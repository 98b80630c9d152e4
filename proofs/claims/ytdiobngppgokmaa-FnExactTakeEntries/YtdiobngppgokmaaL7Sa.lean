/- A part of the proof of FnExactTakeEntries: L7Sa, L7Sb, L7Sc, L7Pf, L7Pg, L7TopC. -/
import Derived.Test.YtdiobngppgokmaaL7Pc
import Derived.Test.YtdiobngppgokmaaVmCb
import Derived.WalkKit
import Derived.OwnWalkIn
import Derived.Below
import Derived.WalkMore
set_option linter.unusedVariables false
set_option linter.unusedSimpArgs false
namespace Go.Proofs.Try
open Go Go.VM Go.RowKit

/-! ### slices.Grow of nil -/
theorem info29 : (prog.info? 29).map (fun i => (i.zero.isSome, (i.zero.getD .nilFunc).cells.size, i.size, i.bytes)) = some (true, 9, 9, 72) := by kernel_rfl
theorem info29' : ∃ i z, prog.info? 29 = some i ∧ i.zero = some z ∧ z.cells.size = 9 ∧ i.size = 9 ∧ i.bytes = 72 := by
  have h := info29
  obtain ⟨i, hi, h⟩ := Option.map_eq_some_iff.1 h
  simp only [Prod.mk.injEq] at h
  obtain ⟨h1, h2, h3, h4⟩ := h
  obtain ⟨z, hz⟩ := Option.isSome_iff_exists.1 h1
  rw [hz] at h2
  exact ⟨i, z, hi, hz, h2, h3, h4⟩
section
attribute [local go_sem] Oper.semAt_some
set_option maxRecDepth 100000 in
set_option maxHeartbeats 4000000 in
theorem grow97 (n : Nat) (hn : n ≤ 1000000000) (w : World) :
    Calls prog 97 #[.slice none 0 0, .int .i64 n] w fun e W => ∃ v, e = .returned v ∧ W.ownsRow w.heap.size 29 9 v 0 [] ∧ Below w.heap.size w W := by
  obtain ⟨i, z, hi, hz, hz1, hz2, hz3⟩ := info29'
  have hw : IntKind.wrap .i64 ((n : Int) - 0) = n := by rw [Int.sub_zero]; exact wi (by omega) (by omega)
  have hneg : ¬ ((n : Int) < 0) := by omega
  by_cases h0 : n = 0
  · subst h0
    go_enter func97, ntmps97
    go_wp2
    go_ret
    exact ⟨_, rfl, World.ownsRow_nil _ _ _ _, Below.refl _ _⟩
  · have hp : (0 : Int) < (n : Int) := by omega
    go_enter func97, ntmps97
    go_wp2_with (at_builtin; refine wpList_append_make_nil _ rfl _ _ 56 3 .i64 rfl 29 i z 9 72 underlying56 underlying3 hi hz hz2 hz3 hz1 rfl n rfl (by omega) (by unfold maxLen; omega) (by omega) ?_; intro cap w' hcap hown hbel)
    go_ret
    exact ⟨_, rfl, hown, hbel⟩
end
end Go.Proofs.Try

set_option linter.unusedVariables false
set_option linter.unusedSimpArgs false
namespace Go.Proofs.Try
open Go Go.VM Go.RowKit

/-! ### slices.Concat -/
/-- A piece: a slice of m elements of nine cells. -/
def PcAt (w : World) (p : Value × Nat × List Value) : Prop :=
  p.2.2.length = p.2.1 * 9 ∧ (∀ x ∈ p.2.2, x.oneCell' = true) ∧ ∃ q c, p.1 = .slice q p.2.1 c ∧
    ((q = none ∧ p.2.1 = 0) ∨ ∃ ad, q = some ad ∧ (p.2.1 ≠ 0 → ad.block < w.heap.size) ∧ ∀ j x, p.2.2[j]? = some x → w.cell? (ad.add j) = some x)
def sumP (ps : List (Value × Nat × List Value)) : Nat := (ps.map fun p => p.2.1).sum
def celP (ps : List (Value × Nat × List Value)) : List Value := ps.flatMap fun p => p.2.2
theorem sumP_take {ps : List (Value × Nat × List Value)} {k : Nat} {p} (h : ps[k]? = some p) : sumP (ps.take (k + 1)) = sumP (ps.take k) + p.2.1 := by
  unfold sumP
  rw [List.take_add_one, h]; simp
theorem celP_take {ps : List (Value × Nat × List Value)} {k : Nat} {p} (h : ps[k]? = some p) : celP (ps.take (k + 1)) = celP (ps.take k) ++ p.2.2 := by
  unfold celP
  rw [List.take_add_one, h]; simp
theorem sumP_le {ps : List (Value × Nat × List Value)} (k : Nat) : sumP (ps.take k) ≤ sumP ps := by
  unfold sumP
  conv => rhs; rw [← List.take_append_drop k ps]
  rw [List.map_append, List.sum_append]; omega
section
attribute [local go_sem] Oper.semAt_some
set_option maxRecDepth 100000 in
set_option maxHeartbeats 4000000 in
theorem concat82 (bo off cap : Nat) (ps : List (Value × Nat × List Value)) (hlen : ps.length ≤ 1000) (w : World) (B : Nat) (hBw : w.heap.size = B) (hp : ∀ p ∈ ps, PcAt w p) (htot : sumP ps ≤ 1000000000) (hbo : bo < B)
    (hcell : ∀ i p, ps[i]? = some p → w.cell? ⟨bo, off + i, none⟩ = some p.1) :
    Calls prog 82 #[.slice (some ⟨bo, off, none⟩) ps.length cap] w fun e W => ∃ v, e = .returned v ∧ W.ownsRow B 29 9 v (sumP ps) (celP ps) ∧ Below B w W := by
  obtain ⟨i0, z, hi, hz, hz1, hz2, hz3⟩ := info29'
  go_enter func82, ntmps82
  go_wp2
  go_loopw [3, 11] (fun s i wr => ∃ k : Nat, k ≤ ps.length ∧ i = .int .i64 k ∧ s = .int .i64 (sumP (ps.take k) : Nat) ∧ wr = w) (fun _ i _ => ps.length - (intOf i).toNat)
  case atStart => exact ⟨0, Nat.zero_le _, rfl, rfl, rfl⟩
  case round =>
    obtain ⟨k, hk, rfl, rfl, rfl⟩ := hrel
    by_cases hlt : k < ps.length
    · have hs := List.getElem?_eq_getElem hlt
      obtain ⟨q, hq⟩ : ∃ q, ps[k] = q := ⟨_, rfl⟩
      rw [hq] at hs
      have hc := hcell k q hs
      have hpq := hp q (List.mem_of_getElem? hs)
      obtain ⟨u, m, cs⟩ := q
      obtain ⟨hl, h1, a, c, hu, hr⟩ := hpq
      simp only at hl h1 hu hr hc
      subst hu
      have hst := sumP_take hs
      simp only at hst
      have hle := sumP_le (ps := ps) (k + 1)
      have hw1 : IntKind.wrap .i64 ((sumP (ps.take k) : Nat) + (m : Int)) = (sumP (ps.take k) : Nat) + (m : Int) := wi (by omega) (by omega)
      have hnn : ¬ (((sumP (ps.take k) : Nat) : Int) + (m : Int) < 0) := by omega
      go_wp2
      go_roundw
      case rel => exact ⟨k + 1, by omega, by simp, by rw [hst]; simp, trivial⟩
      case measure => simp [intOf]; omega
    · obtain rfl : k = ps.length := by omega
      rw [List.take_length]
      go_wp2_with (go_at_call 97; refine (grow97 (sumP ps) htot _).mono ?_; rintro e w1 ⟨v0, rfl, hrow0, hB0⟩; rw [hBw] at hrow0 hB0)
      go_loopw [6, 27] (fun v i wi => ∃ k : Nat, k ≤ ps.length ∧ i = .int .i64 k ∧ wi.ownsRow B 29 9 v (sumP (ps.take k)) (celP (ps.take k)) ∧ Below B wr wi) (fun _ i _ => ps.length - (intOf i).toNat)
      case atStart => exact ⟨0, Nat.zero_le _, rfl, by simpa [sumP, celP] using hrow0, hB0⟩
      case round =>
        obtain ⟨k, hk, rfl, hrow, hB⟩ := hrel
        by_cases hlt : k < ps.length
        · have hs := List.getElem?_eq_getElem hlt
          obtain ⟨q, hq⟩ : ∃ q, ps[k] = q := ⟨_, rfl⟩
          rw [hq] at hs
          have hc := hcell k q hs
          have hpq := hp q (List.mem_of_getElem? hs)
          obtain ⟨u, m, cs⟩ := q
          obtain ⟨hl, h1, a, c, hu, hr⟩ := hpq
          simp only at hl h1 hu hr hc
          subst hu
          have hst := sumP_take hs
          have hct := celP_take hs
          simp only at hst hct
          have hle := sumP_le (ps := ps) (k + 1)
          have hBs := hB.size; rw [hBw] at hBs
          have hd := (hB.cell (p := ⟨bo, off + k, none⟩) hbo).trans hc
          rcases hr with ⟨rfl, rfl⟩ | ⟨ad, rfl, hb, hcs⟩
          · go_wp2_with (at_builtin; refine wpList_append_nothing _ rfl _ _ 56 rfl B 29 i0 9 underlying56 hi _ _ _ rfl hrow c rfl ?_)
            go_roundw
            case rel => exact ⟨k + 1, by omega, by simp, by rw [hst, hct]; simpa [List.length_eq_zero_iff.1 hl] using hrow, hB⟩
            case measure => simp [intOf]; omega
          · have hlt2 : ∀ (j : Nat) (x : Value), cs[j]? = some x → (ad.add j).block < B := fun j x hj => by
              have hm : m ≠ 0 := by rintro rfl; simp at hl; rw [hl] at hj; simp at hj
              have e1 : (ad.add j).block = ad.block := by unfold Addr.add; split <;> rfl
              rw [e1, ← hBw]; exact hb hm
            have hcs' := fun (j : Nat) (x : Value) (hj : cs[j]? = some x) => (hB.cell (p := ad.add j) (hlt2 j x hj)).trans (hcs j x hj)
            go_wp2_with (at_builtin; refine wpList_append_own _ rfl _ _ 56 rfl B 29 i0 z 9 72 underlying56 hi hz hz2 hz3 hz1 (by decide) _ _ _ rfl hrow ad m c cs rfl hl hcs' h1 (by unfold maxLen; omega) (by omega) hBs ?_; intro v' w4 hown' hgrow _)
            go_roundw
            case rel =>
              refine ⟨k + 1, by omega, by simp, by rw [hst, hct]; exact hown', hB.trans ?_⟩
              exact below_grown hBs hrow hgrow
            case measure => simp [intOf]; omega
        · obtain rfl : k = ps.length := by omega
          rw [List.take_length] at hrow
          go_wp2
          go_ret
          exact ⟨_, rfl, hrow, hB⟩
end
end Go.Proofs.Try

set_option linter.unusedVariables false
set_option linter.unusedSimpArgs false
set_option maxHeartbeats 0
namespace Go.Proofs.Try
open Go Go.VM Go.RowKit

def sumL (x : List (List En)) : Nat := (x.map List.length).sum
def m82 (x : List (List En)) : Option (List En) := if x ≠ [] ∧ x.length ≤ 1000 ∧ sumL x ≤ 1000000000 then some x.flatten else none
theorem flat29 : cxT.flat 29 = true := rfl
theorem size29 : cxT.size 29 = 9 := rfl
theorem sat82 : Sat prog cxT 82 (c82 m82) := by
  intro w A0 l us r hA hargs hF
  obtain ⟨x, t, rfl, hx, rfl⟩ := fnT_inv hF
  obtain ⟨u, rfl, hu⟩ := one_arg (show ArgAs cxT w A0 [.inl (ls (ro 56 x))] us from hargs)
  unfold m82 at hx
  split at hx
  · rename_i hc
    obtain ⟨hne, hlen, htot⟩ := hc
    cases hx
    obtain ⟨_, n, hu⟩ := (show (ro 56 x : SlD cxT.ty).own = 0 ∧ ∃ n, RepL cxT w A0 n (some (.inr (ro 56 x))) u from hu)
    obtain ⟨q, c, rfl, hcap, hrow⟩ := rep_row hu
    rcases hrow with h | ⟨bo, off, rfl, hS, hel⟩
    · exact absurd h hne
    have each : ∀ (i : Nat) (y : List En), x[i]? = some y → ∃ p : Value × Nat × List Value, w.cell? ⟨bo, off + i, none⟩ = some p.1 ∧ p.2.1 = y.length ∧ p.2.2 = flatVals cxT 29 y ∧ PcAt w p := by
      intro i y hy
      obtain ⟨v, m, h1, h2⟩ := hel i y hy 0 (ls (ro 29 y)) rfl
      have h1 : w.cell? ⟨bo, off + (i * 1 + 0), none⟩ = some v := h1
      rw [Nat.mul_one, Nat.add_zero] at h1
      obtain ⟨q', c', rfl, hc', h3⟩ := rep_flat cxT_ok flat29 (by decide) h2
      refine ⟨(.slice q' y.length c', y.length, flatVals cxT 29 y), h1, rfl, rfl, ?_, flatVals_one cxT_ok flat29 y, q', c', rfl, ?_⟩
      · have := flatVals_len cxT_ok flat29 y
        rw [size29] at this
        exact this
      · rcases h3 with rfl | ⟨b', off', rfl, hS', h4⟩
        · cases q' with
          | none => exact .inl ⟨rfl, rfl⟩
          | some ad => exact .inr ⟨ad, rfl, fun h => absurd rfl h, fun j x hj => by
              have : flatVals cxT 29 ([] : List (cxT.ty 29)) = [] := rfl
              simp only at hj
              rw [this] at hj; simp at hj⟩
        · exact .inr ⟨⟨b', off', none⟩, rfl, fun _ => hA b' hS', fun j v hj => by rw [Addr.add_lit]; exact h4 j v hj⟩
    have all : ∀ k, k ≤ x.length → ∃ ps : List (Value × Nat × List Value), ps.length = k ∧ (∀ p ∈ ps, PcAt w p) ∧ sumP ps = sumL (x.take k) ∧ celP ps = flatVals cxT 29 (x.take k).flatten ∧ ∀ i p, ps[i]? = some p → w.cell? ⟨bo, off + i, none⟩ = some p.1 := by
      intro k
      induction k with
      | zero => exact fun _ => ⟨[], rfl, by simp, by simp [sumP, sumL], rfl, by simp⟩
      | succ k ih =>
        intro hk
        obtain ⟨ps, h1, h2, h3, h4, h5⟩ := ih (by omega)
        obtain ⟨y, hy⟩ : ∃ y, x[k]? = some y := ⟨_, List.getElem?_eq_getElem (by omega)⟩
        obtain ⟨p, k1, k2, k3, k4⟩ := each k y hy
        refine ⟨ps ++ [p], by simp [h1], fun z hz => ?_, ?_, ?_, fun i z hz => ?_⟩
        · rcases List.mem_append.1 hz with hz | hz
          · exact h2 z hz
          · simp only [List.mem_singleton] at hz
            subst hz; exact k4
        · unfold sumP sumL at h3 ⊢
          rw [List.take_add_one, hy]
          simp [h3, k2]
        · unfold celP at h4 ⊢
          rw [List.take_add_one, hy]
          simp only [Option.toList_some, List.flatten_append, List.flatten_cons, List.flatten_nil, List.append_nil, List.flatMap_append, List.flatMap_cons, List.flatMap_nil]
          rw [h4, k3]
          exact (flatVals_append 29 _ _).symm
        · by_cases hi : i < ps.length
          · rw [List.getElem?_append_left hi] at hz
            exact h5 i z hz
          · rw [List.getElem?_append_right (by omega)] at hz
            have hik : i = k := by
              have := (List.getElem?_eq_some_iff.1 hz).1
              simp at this
              omega
            have e0 : i - ps.length = 0 := by omega
            rw [e0] at hz
            simp only [List.getElem?_cons_zero, Option.some.injEq] at hz
            subst hz; subst hik
            exact k1
    obtain ⟨ps, h1, h2, h3, h4, h5⟩ := all x.length (Nat.le_refl _)
    rw [List.take_length] at h3 h4
    have := concat82 bo off c ps (by omega) w _ rfl h2 (by omega) (hA bo hS) h5
    rw [h1] at this
    refine this.mono ?_
    rintro e W ⟨v, rfl, hown, hB⟩
    have hln : sumL x = x.flatten.length := by simp [sumL, List.length_flatten]
    refine ⟨v, rfl, hB, ?_⟩
    refine res_row (xs := x.flatten) cxT_ok flat29 (fun b hb => ?_) ?_
    · have := hown.lt b hb
      exact this
    · rw [h3, hln, h4] at hown
      exact ownsRow_zero hown
  · cases hx
end Go.Proofs.Try

set_option maxHeartbeats 0
set_option linter.unusedVariables false
set_option linter.unusedSimpArgs false
namespace Go.Proofs.Try
open Go Go.VM Go.RowKit

/-! ### TakeEntries -/
def m62 (x : List En × Int) : Option (List En) := if 0 ≤ x.2 ∧ x.2 ≤ (x.1.length : Int) then some (x.1.drop x.2.toNat) else none
theorem sat62 : Sat prog cxT 62 (c62 m62) := s62 m62 fun x t h => by
  obtain ⟨a, i⟩ := x
  unfold m62 at h
  split at h
  · rename_i hc
    cases h
    refine ⟨0, ?_⟩
    show g62 0 a i = _
    unfold g62
    rw [dt hc.1, dt hc.2, dt (Int.le_refl _)]
    simp
  · cases h
def m64 (x : List En × Int × List En) : Option (List En) := if 0 ≤ x.2.1 ∧ x.2.1 ≤ (x.1.length : Int) ∧ x.1.length ≤ 1000000 ∧ x.2.2.length ≤ 1000000 then some (x.1.take x.2.1.toNat ++ x.2.2) else none
theorem sat64 : Sat prog cxT 64 (c64 m64) := s64 m82 sat82 m64 fun x t h => by
  obtain ⟨a, i, b⟩ := x
  unfold m64 at h
  split at h
  · rename_i hc
    cases h
    simp only at hc
    refine ⟨0, ?_⟩
    show g64 m82 0 a i b = _
    unfold g64
    rw [dt (Int.le_refl _), dt hc.1, dt hc.2.1]
    simp only [Bool.and_self, cond_true]
    have e : List.drop (Int.toNat 0) (List.take i.toNat a) = List.take i.toNat a := rfl
    rw [e, show m82 [List.take i.toNat a, b] = some (List.take i.toNat a ++ b) from (if_pos ⟨by simp, by simp, by simp [sumL]; omega⟩).trans (by simp), tst_some]
  · cases h
theorem sat61 : Sat prog cxT 61 (c61 m16) := s61 m16 fun x t h => by
  unfold m16 at h
  split at h
  · rename_i hc
    cases h
    refine ⟨0, ?_⟩
    unfold g61
    have hc' : x.length ≤ 1000000000 := hc
    rw [dt (by simp; omega), cond_true]
    rfl
  · cases h
/-- What more comes to behind an index. -/
def tkE (a : List En) (i : Nat) (b : List En) : List En := if cmL sameT (a.drop i) b = b.length then a else a.take (i + cmL sameT (a.drop i) b) ++ b.drop (cmL sameT (a.drop i) b)
theorem tkE_step {a b : List En} {i k : Nat} (hk : k ≤ cmL sameT (a.drop i) b) : cmL sameT (a.drop i) b = k + cmL sameT (a.drop (i + k)) (b.drop k) := by
  induction k generalizing i b with
  | zero => simp
  | succ k ih =>
    have hl := cmL_le sameT (a.drop i) b
    rw [List.length_drop] at hl
    cases b with
    | nil => simp at hl; omega
    | cons y b =>
      have hi : i < a.length := by omega
      have hd := drop_cons dEn hi
      rw [hd] at hk ⊢
      simp only [cmL] at hk ⊢
      split at hk
      · rename_i hs
        rw [if_pos hs, ih (i := i + 1) (b := b) (by omega)]
        simp only [List.drop_succ_cons]
        rw [show i + 1 + k = i + (k + 1) by omega]
        omega
      · omega
theorem st47 (L : Nat) (a b : List En) (i : Nat) (ha : a.length ≤ 1000000) (hb : b.length ≤ 1000000) (hi : i ≤ a.length) (n k : Nat) (hk : k ≤ cmL sameT (a.drop i) b) (hn : b.length < n + k) :
    l47_0 m16 L a i b n k (some a) = some (tkE a i b) := by
  induction n generalizing k with
  | zero => have := (cmL_le sameT (a.drop i) b).2; omega
  | succ n ih =>
    unfold l47_0
    have hle := cmL_le sameT (a.drop i) b
    rw [List.length_drop] at hle
    have hs := tkE_step hk
    have e5 : m16 (List.drop (Int.toNat 0) (List.take (Int.toNat ((i : Int) + (k : Int))) a)) = some (List.take (i + k) a) := by
      rw [show ((i : Int) + (k : Int)).toNat = i + k by omega]
      exact if_pos (by show (List.take (i + k) a).length ≤ 1000000000; rw [List.length_take]; omega)
    have e6 : List.drop (Int.toNat (k : Int)) (List.take (Int.toNat (b.length : Int)) b) = b.drop k := by simp
    by_cases hkb : k < b.length
    · rw [dt (by omega), cond_true, wi (x := (i : Int) + k) (by omega) (by omega)]
      have hout : (List.take (i + k) a).length + (b.drop k).length ≤ 1000000000 := by rw [List.length_take, List.length_drop]; omega
      by_cases hka : i + k < a.length
      · rw [df (show ¬ (i : Int) + k ≥ (a.length : Int) by omega), cond_false]
        simp (disch := omega) only [dt, Bool.and_self, cond_true]
        rw [show ((i : Int) + (k : Int)).toNat = i + k by omega, Int.toNat_natCast]
        have hc := cmL_drop dEn sameT (a := a.drop i) (b := b) (i := k) (by rw [List.length_drop]; omega) hkb
        rw [List.drop_drop, List.drop_drop] at hc
        have hg : (a.drop i).getD k dEn = a.getD (i + k) dEn := by simp [List.getD, List.getElem?_drop]
        rw [hg] at hc
        change (bif (a.getD (i + k) dEn).1 != (b.getD k dEn).1 then _ else _) = _
        by_cases hsm : (a.getD (i + k) dEn).1 = (b.getD k dEn).1
        · rw [bneF hsm, cond_false, wi (x := (k : Int) + 1) (by omega) (by omega), show (k : Int) + 1 = ((k + 1 : Nat) : Int) by omega]
          have hst : sameT (a.getD (i + k) dEn) (b.getD k dEn) = true := by unfold sameT; rw [hsm]; simp
          rw [if_pos hst] at hc
          exact ih (k + 1) (by omega) (by omega)
        · rw [bneT hsm, cond_true]
          have hst : ¬ sameT (a.getD (i + k) dEn) (b.getD k dEn) = true := by unfold sameT; simpa using hsm
          rw [if_neg hst] at hc
          have hcm : cmL sameT (a.drop i) b = k := by omega
          have e5' := e5
          rw [show ((i : Int) + (k : Int)).toNat = i + k by omega] at e5'
          have e6' : List.drop k (List.take (Int.toNat (b.length : Int)) b) = b.drop k := e6
          rw [e5', tst_some, e6', dt hout, cond_true]
          unfold tkE
          rw [hcm, if_neg (by omega)]
      · have hik : i + k = a.length := by omega
        have hcm : cmL sameT (a.drop i) b = k := by
          rw [hs, cmL_end sameT (.inl (List.drop_eq_nil_of_le (by omega))), Nat.add_zero]
        rw [dt (show (i : Int) + k ≥ (a.length : Int) by omega), cond_true]
        simp (disch := omega) only [dt, Bool.and_self, cond_true]
        rw [e5, tst_some, e6, dt hout, cond_true]
        unfold tkE
        rw [hcm, if_neg (by omega)]
    · have hcm : cmL sameT (a.drop i) b = b.length := by omega
      rw [df (by omega), cond_false]
      unfold tkE
      rw [if_pos hcm]
def m47 (x : List En × Int × List En) : Option (List En) := if x.1.length ≤ 1000000 ∧ x.2.2.length ≤ 1000000 ∧ 0 ≤ x.2.1 ∧ x.2.1 ≤ (x.1.length : Int) then some (tkE x.1 x.2.1.toNat x.2.2) else none
theorem sat47 : Sat prog cxT 47 (c47 m47) := s47 m16 sat61 m47 fun x t h => by
  obtain ⟨a, i, b⟩ := x
  unfold m47 at h
  split at h
  · rename_i hc
    cases h
    obtain ⟨h1, h2, h3, h4⟩ := hc
    simp only at h1 h2 h3 h4
    obtain ⟨i, rfl⟩ := Int.eq_ofNat_of_zero_le h3
    refine ⟨b.length + 1, ?_⟩
    show g47 m16 (b.length + 1) a i b = _
    unfold g47
    rw [m16_eq (by omega), tst_some]
    exact st47 _ a b i h1 h2 (by omega) _ 0 (by omega) (by omega)
  · cases h
/-- The answer of putBehind. -/
def pbE (a : List En) (i : Nat) (b : List En) : Int × List En := if (tkE a i b).length ≤ 40 then (0, tkE a i b) else (2, [])
theorem tkE_len {a b : List En} {i : Nat} (hi : i ≤ a.length) : (tkE a i b).length = if cmL sameT (a.drop i) b = b.length then a.length else i + b.length := by
  unfold tkE
  have := cmL_le sameT (a.drop i) b
  rw [List.length_drop] at this
  split
  · rfl
  · rw [List.length_append, List.length_take, List.length_drop]; omega
def m48 (x : List En × Int × List En) : Option (Int × List En) := if x.1.length ≤ 40 ∧ x.2.2.length ≤ 40 ∧ 0 ≤ x.2.1 ∧ x.2.1 ≤ (x.1.length : Int) then some (pbE x.1 x.2.1.toNat x.2.2) else none
theorem sat48 : Sat prog cxT 48 (c48 m48) := s48 m62 m51b m44 m64 sat62 sat51b sat44 sat64 m48 fun x t h => by
  obtain ⟨a, i, b⟩ := x
  unfold m48 at h
  split at h
  · rename_i hc
    cases h
    obtain ⟨h1, h2, h3, h4⟩ := hc
    simp only at h1 h2 h3 h4
    obtain ⟨i, rfl⟩ := Int.eq_ofNat_of_zero_le h3
    refine ⟨0, ?_⟩
    show g48 m62 m51b m44 m64 0 a i b = _
    unfold g48
    have hle := cmL_le sameT (a.drop i) b
    rw [List.length_drop] at hle
    have e1 : m62 (a, (i : Int)) = some (a.drop i) := if_pos ⟨by simp only; omega, h4⟩
    have e2 : m51b (a.drop i, (b, PUnit.unit)) = some ((cmL sameT (a.drop i) b : Nat) : Int) := if_pos ⟨by show (a.drop i).length ≤ 1000000000; rw [List.length_drop]; omega, by show b.length ≤ 1000000000; omega⟩
    have e3 : m44 b = some (b.length : Int) := rfl
    have e3a : m44 a = some (a.length : Int) := rfl
    rw [e1, tst_some, e2, tst_some, e3, tst_some, lenB]
    simp only [Int.toNat_natCast]
    unfold pbE
    rw [tkE_len (by omega)]
    by_cases he : cmL sameT (a.drop i) b = b.length
    · rw [dt he, cond_true, e3a, tst_some, if_pos he, if_pos h1]
      have e4 : m64 (a, ((a.length : Int), [])) = some a := (if_pos ⟨by simp only; omega, by simp only; omega, by simp only; omega, by simp⟩).trans (by simp)
      rw [e4, tst_some]
      unfold tkE
      rw [if_pos he]
    · rw [df he, cond_false, tst_some, wi (x := (i : Int) + (b.length : Int)) (by omega) (by omega), if_neg he]
      by_cases hm : i + b.length ≤ 40
      · rw [df (show ¬ (i : Int) + (b.length : Int) > 40 by omega), cond_false, if_pos hm]
        have e4 : m62 (b, ((cmL sameT (a.drop i) b : Nat) : Int)) = some (b.drop (cmL sameT (a.drop i) b)) := if_pos ⟨by simp only; omega, by simp only; omega⟩
        rw [e4, tst_some, wi (x := (i : Int) + ((cmL sameT (a.drop i) b : Nat) : Int)) (by omega) (by omega)]
        have e5 : m64 (a, ((i : Int) + ((cmL sameT (a.drop i) b : Nat) : Int), b.drop (cmL sameT (a.drop i) b))) = some (a.take (i + cmL sameT (a.drop i) b) ++ b.drop (cmL sameT (a.drop i) b)) :=
          (if_pos ⟨by simp only; omega, by simp only; omega, by simp only; omega, by show (b.drop _).length ≤ 1000000; rw [List.length_drop]; omega⟩).trans (by simp only; rw [show ((i : Int) + ((cmL sameT (a.drop i) b : Nat) : Int)).toNat = i + cmL sameT (a.drop i) b by omega])
        rw [e5, tst_some]
        unfold tkE
        rw [if_neg he]
      · rw [dt (show (i : Int) + (b.length : Int) > 40 by omega), cond_true, if_neg hm]
  · cases h
def takE (a : List En) (i t : Int) (b : List En) : Int × List En := if logF a = 0 then if logF b = 0 then if fits a i t then if 0 < b.length ∧ (b.getD 0 dEn).1 < t then (1, []) else pbE a i.toNat b else (9, []) else (logF b, []) else (logF a, [])
def m24 (x : List En × Int × Int × List En) : Option (Int × List En) := if x.1.length ≤ mid ∧ x.2.2.2.length ≤ mid then some (takE x.1 x.2.1 x.2.2.1 x.2.2.2) else none
theorem log_len {a : List En} (h : logF a = 0) : a.length ≤ 40 := by
  unfold logF at h
  split at h
  · exact absurd h (by decide)
  · omega
theorem fits_in {a : List En} {i t : Int} (h : fits a i t = true) : 0 ≤ i ∧ i ≤ (a.length : Int) := by
  unfold fits at h
  by_cases h0 : i = 0
  · subst h0; omega
  · rw [beqF h0, cond_false] at h
    simp at h
    omega
end Go.Proofs.Try

set_option maxHeartbeats 0
set_option linter.unusedVariables false
set_option linter.unusedSimpArgs false
namespace Go.Proofs.Try
open Go Go.VM Go.RowKit

theorem pb_split {a b : List En} {i : Nat} : (bif decide (((tkE a i b).length : Int) > 40) then some ((2 : Int), []) else some ((0 : Int), tkE a i b)) = some (pbE a i b) := by
  unfold pbE
  by_cases h : (tkE a i b).length ≤ 40
  · rw [df (by omega), cond_false, if_pos h]
  · rw [dt (by omega), cond_true, if_neg h]
theorem sat24 : Sat prog cxT 24 (c24 m24) := s24 mLog m46 m47 sat15 sat46 sat47 m24 fun x t h => by
  obtain ⟨a, i, t', b⟩ := x
  unfold m24 at h
  split at h
  · rename_i hm
    cases h
    refine ⟨0, ?_⟩
    show g24 mLog m46 m47 0 a i t' b = _
    unfold g24 takE
    rw [show mLog a = some (logF a) from rfl, tst_some, show mLog b = some (logF b) from rfl, show m46 (a, i, t') = some (fits a i t') from if_pos hm.1]
    by_cases h0 : logF a = 0
    · rw [bneF h0, cond_false, tst_some, if_pos h0]
      by_cases h1 : logF b = 0
      · rw [bneF h1, cond_false, tst_some, if_pos h1]
        by_cases h2 : fits a i t' = true
        · obtain ⟨hi0, hi1⟩ := fits_in h2
          have la := log_len h0
          have lb := log_len h1
          rw [h2, if_pos rfl, Bool.not_true, cond_false]
          have e : m47 (a, i, b) = some (tkE a i.toNat b) := if_pos ⟨by simp only; omega, by simp only; omega, hi0, hi1⟩
          rw [e, tst_some]
          simp only
          by_cases h3 : 0 < b.length
          · rw [dt (show (b.length : Int) > 0 by omega), cond_true]
            simp (disch := omega) only [dt, Bool.and_self, cond_true]
            change (bif decide ((b.getD 0 dEn).1 < t') then _ else _) = _
            by_cases h4 : (b.getD 0 dEn).1 < t'
            · rw [dt h4, cond_true, if_pos ⟨h3, h4⟩]
            · rw [df h4, cond_false, if_neg (fun h => h4 h.2)]
              exact pb_split
          · rw [df (show ¬ (b.length : Int) > 0 by omega), cond_false, if_neg (fun h => h3 h.1)]
            exact pb_split
        · rw [if_neg h2]
          rw [show fits a i t' = false by simpa using h2]
          rfl
      · rw [bneT h1, cond_true, if_neg h1]
    · rw [bneT h0, cond_true, if_neg h0]
  · cases h
theorem sat25 : Sat prog cxT 25 (c25 m24) := s25 mLog m22 m48 sat17 sat23 sat48 m24 fun x t h => by
  obtain ⟨a, i, t', b⟩ := x
  unfold m24 at h
  split at h
  · rename_i hm
    cases h
    refine ⟨0, ?_⟩
    show g25 mLog m22 m48 0 a i t' b = _
    unfold g25 takE
    rw [show mLog a = some (logF a) from rfl, tst_some, show mLog b = some (logF b) from rfl, show m22 (a, i, t') = some (decide (logF a = 0) && fits a i t') from if_pos hm.1]
    by_cases h0 : logF a = 0
    · rw [bneF h0, cond_false, tst_some, if_pos h0]
      by_cases h1 : logF b = 0
      · rw [bneF h1, cond_false, tst_some, if_pos h1, dt h0, Bool.true_and]
        by_cases h2 : fits a i t' = true
        · obtain ⟨hi0, hi1⟩ := fits_in h2
          have la := log_len h0
          have lb := log_len h1
          rw [h2, if_pos rfl, Bool.not_true, cond_false]
          have e : m48 (a, i, b) = some (pbE a i.toNat b) := if_pos ⟨la, lb, hi0, hi1⟩
          rw [e, tst_some]
          simp only
          by_cases h3 : 0 < b.length
          · rw [dt (show (b.length : Int) > 0 by omega), cond_true]
            simp (disch := omega) only [dt, Bool.and_self, cond_true]
            change (bif decide ((b.getD 0 dEn).1 < t') then _ else _) = _
            by_cases h4 : (b.getD 0 dEn).1 < t'
            · rw [dt h4, cond_true, if_pos ⟨h3, h4⟩]
            · rw [df h4, cond_false, if_neg (fun h => h4 h.2)]
          · rw [df (show ¬ (b.length : Int) > 0 by omega), cond_false, if_neg (fun h => h3 h.1)]
        · rw [if_neg h2]
          rw [show fits a i t' = false by simpa using h2]
          rfl
      · rw [bneT h1, cond_true, if_neg h1]
    · rw [bneT h0, cond_true, if_neg h0]
  · cases h
theorem takE_len (a b : List En) (i t : Int) : (takE a i t b).2.length ≤ 40 := by
  unfold takE pbE
  repeat' split
  all_goals first | assumption | simp
def m7 (x : List En × Int × Int × List En) : Option Bool := if x.1.length ≤ top ∧ x.2.2.2.length ≤ top then some true else none
theorem sat7 : Sat prog cxT 7 (c7 m7) := s7 m14 m16 m24 m24 m26 m18 m27 m28 m29 sat14 sat16 sat24 sat25 sat26 sat18 sat27 sat28 sat29 m7 fun x t h => by
  obtain ⟨a, i, t', b⟩ := x
  unfold m7 at h
  split at h
  · rename_i ht
    cases h
    refine ⟨0, ?_⟩
    show g7 m14 m16 m24 m24 m26 m18 m27 m28 m29 0 a i t' b = some true
    unfold g7
    rw [m14_eq ht.1 (by omega) (by omega), tst_some]
    by_cases hs : szv 1048576 (a.length : Int) < 0
    · rw [dt hs, cond_true]
    · rw [df hs, cond_false]
      obtain ⟨hl, hv⟩ := small (by omega) hs
      rw [hv, m14_eq ht.2 (by omega) (by omega), tst_some]
      by_cases hs2 : szv (1048576 - (a.length : Int)) (b.length : Int) < 0
      · rw [dt hs2, cond_true]
      · rw [df hs2, cond_false]
        obtain ⟨hl2, _⟩ := small (by omega) hs2
        have hS : m24 (a, i, t', b) = some (takE a i t' b) := if_pos ⟨mid_of hl, mid_of hl2⟩
        have hsl := takE_len a b i t'
        generalize takE a i t' b = z at hS hsl
        obtain ⟨z1, z2⟩ := z
        have hsl : z2.length ≤ 40 := hsl
        have e26 : m26 ((z1, z2), z1, z2) = some true := (if_pos (by simp only; omega)).trans (by rw [dt rfl])
        have e27 : m27 (a, 1) = some (1 + 9 * (a.length : Int), mkR mkE 9 a.length 1) := if_pos ⟨by simp only; omega, by simp only; omega, by simp only; omega⟩
        have e27b : m27 (b, 1 + 9 * (a.length : Int)) = some (1 + 9 * (a.length : Int) + 9 * (b.length : Int), mkR mkE 9 b.length (1 + 9 * (a.length : Int))) := if_pos ⟨by simp only; omega, by simp only; omega, by simp only; omega⟩
        have e28 : m28 ((z1, z2), 1) = some (1 + 9 * (z2.length : Int), z1, mkR mkE 9 z2.length 1) := if_pos ⟨by simp only; omega, by simp only; omega, by simp only; omega⟩
        have e29 : m29 ((z1, mkR mkE 9 z2.length 1), 1) = some (1 + 9 * (z2.length : Int)) := (if_pos (hd_mk (by omega) (by omega) (by omega))).trans (by simp only [mkR_len])
        simp only [m16_eq hl, m16_eq hl2, tst_some, hS, e26, m18_eq hl, m18_eq hl2, e27, e27b, e28, e29, Bool.not_true, cond_false]
        rw [df (show ¬ 1 + 9 * (a.length : Int) + 9 * (b.length : Int) < 0 by omega), df (show ¬ 1 + 9 * (z2.length : Int) < 0 by omega), bneF rfl]
        simp only [cond_false]
  · cases h
end Go.Proofs.Try

