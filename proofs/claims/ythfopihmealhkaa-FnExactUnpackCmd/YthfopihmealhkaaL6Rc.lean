/- A part of the proof of FnExactUnpackCmd: L6Rc, L6Rd. -/
import Derived.Test.YthfopihmealhkaaL6Qc
import Derived.Test.YthfopihmealhkaaL6Fe
import Derived.Test.YthfopihmealhkaaL6Ra
import Derived.Test.YthfopihmealhkaaVmCb
set_option maxHeartbeats 0
set_option linter.unusedVariables false
set_option linter.unusedSimpArgs false
namespace Go.Proofs.Try
open Go Go.VM Go.RowKit

/-! ### What a reader takes -/
def nvL (r : List Int) (n : Int) : Int := if n ≤ r.length then num (r.take n.toNat) 0 else 0
def nrL (r : List Int) (n : Int) : List Int := if n ≤ r.length then r.drop n.toNat else r
def okR (r : List Int) : Prop := okB r = true ∧ r.length ≤ 1000000000000
instance (r : List Int) : Decidable (okR r) := by unfold okR; infer_instance
theorem okR_nr {r : List Int} (h : okR r) (n : Int) : okR (nrL r n) := by
  unfold nrL
  split
  · exact ⟨okB_sub h.1 fun x hx => List.mem_of_mem_drop hx, by rw [List.length_drop]; have := h.2; omega⟩
  · exact h
def m113 (x : List Int × Int) : Option (Int × List Int) := if okR x.1 ∧ 1 ≤ x.2 ∧ x.2 ≤ 6 then some (nvL x.1 x.2, nrL x.1 x.2) else none
theorem sat113 : SatP prog cxT 113 (c113 m113).nres (c113 m113).F := s113 m163 sat163 m113 fun x t h => by
  obtain ⟨r, n⟩ := x
  unfold m113 at h
  split at h
  · rename_i hc
    obtain ⟨⟨h1, h2⟩, h3, h4⟩ := hc
    cases h
    simp only at h1 h2 h3 h4
    refine ⟨0, ?_⟩
    show g113 m163 0 r n = some (nvL r n, nrL r n)
    unfold g113
    rw [show m163 (r, (0 : Int), n) = some (takeN r 0 n) from if_pos ⟨h1, h2, by simp [iv]; omega⟩, tst_some]
    by_cases hl : n ≤ r.length
    · rw [takeN_in (by omega)]
      simp (disch := omega) only [dt, bneF, cond_false, cond_true, Bool.and_self, decide_true]
      unfold nvL nrL
      rw [if_pos hl, if_pos hl]
      simp
    · rw [takeN_out (by omega)]
      unfold nvL nrL
      rw [if_neg hl, if_neg hl]
      rfl
  · cases h
def m114 (r : List Int) : Option (Int × List Int) := if okR r then some (nvL r 2, nrL r 2) else none
theorem sat114 : SatP prog cxT 114 (c114 m114).nres (c114 m114).F := s114 m113 sat113 m114 fun r t h => by
  unfold m114 at h
  split at h
  · rename_i hc
    cases h
    refine ⟨0, ?_⟩
    unfold g114
    rw [show m113 (r, 2) = some (nvL r 2, nrL r 2) from if_pos ⟨hc, by simp only; omega, by simp only; omega⟩, tst_some]
  · cases h
/-- The command that stands in bytes. -/
def rdM (r : List Int) : Cm := (nvL r 1, IntKind.wrap .i64 (nvL (nrL r 1) 4 - 1), nvL (nrL (nrL r 1) 4) 2, nvL (nrL (nrL (nrL r 1) 4) 2) 4, nvL (nrL (nrL (nrL (nrL r 1) 4) 2) 4) 2, nvL (nrL (nrL (nrL (nrL (nrL r 1) 4) 2) 4) 2) 1)
def rdR (r : List Int) : List Int := nrL (nrL (nrL (nrL (nrL (nrL r 1) 4) 2) 4) 2) 1
def m64 (r : List Int) : Option (Int × Int × Int × Int × Int × Int × List Int) := if okR r then some ((rdM r).1, (rdM r).2.1, (rdM r).2.2.1, (rdM r).2.2.2.1, (rdM r).2.2.2.2.1, (rdM r).2.2.2.2.2, rdR r) else none
end Go.Proofs.Try

set_option maxHeartbeats 0
set_option linter.unusedVariables false
set_option linter.unusedSimpArgs false
namespace Go.Proofs.Try
open Go Go.VM Go.RowKit

def rw5 (r : List Int) : L cxT.ty := ls (ro 5 r)
theorem lt_at {W : World} {b : Nat} {o : Obj} (h : W.heap[b]? = some o) : b < W.heap.size := (Array.getElem?_eq_some_iff.1 h).1
theorem row_mono {W W' : World} {S S' : Nat → Prop} {r : List Int} {cur : Array Value} (hw : ∀ b, S b → W'.heap[b]? = W.heap[b]?) (hS : ∀ b, S b → S' b) (h : ArgA cxT W S (.inr [rw5 r]) (.agg cur)) : ArgA cxT W' S' (.inr [rw5 r]) (.agg cur) := by
  obtain ⟨us, hu, hl, h⟩ := h
  refine ⟨us, hu, hl, fun j x u e1 e2 => ?_⟩
  have := h j x u e1 e2
  match j with
  | 0 =>
    simp only [List.getElem?_cons_zero, Option.some.injEq] at e1
    subst e1
    obtain ⟨h1, n, h2⟩ := this
    exact ⟨h1, n, RepL_mono cxT hw hS _ _ _ h2⟩
  | j + 1 => simp at e1
theorem row_back {W : World} {A0 N : Nat → Prop} {v x : Value} {r : List Int} {cur : Array Value} (h : ResV cxT W A0 N (.inr (.inl [.inl (lv v), .inr [rw5 r]])) (.tuple ([x] ++ [Value.agg cur]).toArray)) :
    x = v ∧ ArgA cxT W (fun b => A0 b ∨ (N b ∧ b < W.heap.size)) (.inr [rw5 r]) (.agg cur) := by
  obtain ⟨fp, hnd, hN, us, fps, hu, hfp, hl, hf, h⟩ := h
  have hu : [x, Value.agg cur] = us := by simpa using hu
  subst hu
  match fps, hf with
  | [f0, f1], _ =>
    have h0 := h 0 (.inl (lv v)) x f0 rfl rfl rfl
    have h1 := h 1 _ (Value.agg cur) f1 rfl rfl rfl
    refine ⟨h0.1, ?_⟩
    obtain ⟨us2, fps2, hu2, _, hl2, hf2, h2⟩ := h1
    refine ⟨us2, hu2, hl2, fun j y u e1 e2 => ?_⟩
    have hj : j < fps2.length := by
      rw [hf2]
      exact (List.getElem?_eq_some_iff.1 e1).1
    have h3 := h2 j y u fps2[j] e1 e2 (List.getElem?_eq_getElem hj)
    match j with
    | 0 =>
      simp only [List.getElem?_cons_zero, Option.some.injEq] at e1
      subst e1
      obtain ⟨k1, _, n, k2⟩ := h3
      exact ⟨k1, n, RepL_mono cxT (fun _ _ => rfl) (fun b hb => hb.imp id fun h => ⟨h.1, h.2.1⟩) _ _ _ k2⟩
    | j + 1 => simp at e1
/-- The reader's box while its numbers are taken. -/
def RS6 (A0 : Nat → Prop) (w : World) (g : Nat) (r : List Int) (W : World) : Prop :=
  okR r ∧ W.heap[w.heap.size]? = some z6 ∧ (∃ cur t, W.heap[g]? = some (.cells cur t (0, 0)) ∧ ArgA cxT W (fun b => A0 b ∨ (w.heap.size < b ∧ b < W.heap.size)) (.inr [rw5 r]) (.agg cur)) ∧ Kept (fun k => w.heap.size ≤ k ∨ k = g) w W
theorem rs_step {A0 : Nat → Prop} {w W : World} {g : Nat} {r r' : List Int} {f : FuncId} {F : List (A cxT.ty) → Option (Bool × List (A cxT.ty))} {v : Value} (hf : SatP prog cxT f 1 F) (hA : ∀ b, A0 b → b < w.heap.size ∧ b ≠ g) (hg : g < w.heap.size) (hS : RS6 A0 w g r W) (l : List (A cxT.ty)) (us : List Value)
    (hl : ∀ S, ArgAs cxT W S l us) (hF : F (.inr [rw5 r] :: l) = some (true, [.inl (lv v), .inr [rw5 r']])) (hr' : okR r') :
    Calls prog f (.pointer (some ⟨g, 0, none⟩) :: us).toArray W fun e W' => e = .returned v ∧ RS6 A0 w g r' W' := by
  obtain ⟨h1, h2, ⟨cur, t, h3, h4⟩, h5⟩ := hS
  have hsz := h5.size
  refine (hf W _ g cur t [rw5 r] l us _ (fun b hb => ?_) h3 h4 rfl (hl _) hF).mono ?_
  · rcases hb with hb | ⟨hb1, hb2⟩
    · have := hA b hb; exact ⟨by omega, this.2⟩
    · exact ⟨hb2, by omega⟩
  · rintro e W' ⟨rs, cur', rfl, hr, ⟨t', hg'⟩, hk, hR⟩
    have hlt := lt_at h2
    have hsz2 := hk.size
    match rs, hr with
    | [x], _ =>
      obtain ⟨rfl, ha⟩ := row_back hR
      refine ⟨rfl, hr', ?_, ⟨cur', t', hg', row_mono (fun _ _ => rfl) (fun b hb => ?_) ha⟩, ?_⟩
      · exact (hk.block w.heap.size (by omega)).trans h2
      · rcases hb with (hb | ⟨hb1, hb2⟩) | ⟨hb1, hb2⟩
        · exact .inl hb
        · exact .inr ⟨hb1, by omega⟩
        · exact .inr ⟨by omega, hb2⟩
      · exact ⟨hk.os.trans h5.os, hk.tape.trans h5.tape, hk.output.trans h5.output, Nat.le_trans h5.size hk.size, fun k hn => (hk.block k (by omega)).trans (h5.block k hn)⟩
theorem sat64 : SatP prog cxT 64 (c64 m64).nres (c64 m64).F := by
  intro w A0 g cur t lc l us cs hA hg hC hok hargs hF
  obtain ⟨r, tt, he, hx, rfl⟩ := fnW_inv hF
  have he : (Sum.inr lc : A cxT.ty) :: l = [.inr [rw5 r]] := he
  obtain ⟨rfl, rfl⟩ : lc = [rw5 r] ∧ l = [] := by
    have h1 := (List.cons.inj he).1
    exact ⟨Sum.inr.inj h1, (List.cons.inj he).2⟩
  obtain rfl : us = [] := List.length_eq_zero_iff.1 hargs.1
  unfold m64 at hx
  split at hx
  · rename_i hr
    cases hx
    have hgl := lt_at hg
    have b0 : Below w.heap.size w (w.alloc z6) := (Below.refl _ w).alloc (Nat.le_refl _) _
    refine dr64 g w nvL nrL (RS6 A0 w g) r (fun i W h => ?_) (fun i W h => h.2.1) ?_ (fun q W n hn hS => ?_) (fun q W hS => ?_) _ (fun W W' hS hb hrest => ?_)
    · obtain ⟨h1, h2, ⟨cur, t, h3, h4⟩, h5⟩ := h
      exact ⟨h1, h2, ⟨cur, t, h3, row_mono (W := W) (W' := W.drew) (fun _ _ => rfl) (fun _ h => h) h4⟩, h5.drew⟩
    · refine ⟨hr, World.alloc_heap_new w _, ⟨cur, t, (Below.heap_alloc _ _ _ hgl).trans hg, row_mono (fun b hb => Below.heap_alloc _ _ _ (hA b hb).1) (fun b hb => .inl hb) hC⟩, kept_of b0 fun b hb => .inl hb⟩
    · have hq := hS.1
      refine rs_step sat113 hA hgl hS [.inl (lv (.int .i64 n))] [.int .i64 n] (fun S => args_lv [.int .i64 n]) ?_ (okR_nr hq n)
      show some ((m113 (q, n)).isSome, n113 ((m113 (q, n)).getD dd113)) = _
      rw [show m113 (q, n) = some (nvL q n, nrL q n) from if_pos ⟨hq, by simp only; omega, by simp only; omega⟩]
      rfl
    · have hq := hS.1
      refine rs_step sat114 hA hgl hS [] [] (fun S => ⟨rfl, fun j a u h1 h2 => by simp at h1⟩) ?_ (okR_nr hq 2)
      show some ((m114 q).isSome, n114 ((m114 q).getD dd114)) = _
      rw [show m114 q = some (nvL q 2, nrL q 2) from if_pos hq]
      rfl
    · obtain ⟨h1, h2, ⟨cur, t, h3, h4⟩, h5⟩ := hS
      have hsz := hb.size
      have hne : ∀ b, (A0 b ∨ (w.heap.size < b ∧ b < W.heap.size)) → W'.heap[b]? = W.heap[b]? := fun b hb => hrest b (by rcases hb with hb | hb; have := hA b hb; omega; omega)
      have h6 := row_mono (S' := fun b => A0 b ∨ (w.heap.size ≤ b ∧ b < W'.heap.size ∧ b ∉ ([] : List Nat))) hne (fun b hb => hb.imp id fun h => ⟨by omega, by omega, by simp⟩) h4
      refine ⟨[.agg (cV (rdM r)).toArray], cur, rfl, rfl, ⟨t, (hrest g (by omega)).trans h3⟩, ?_, ?_⟩
      · exact ⟨hb.os.trans h5.os, hb.tape.trans h5.tape, hb.output.trans h5.output, Nat.le_trans h5.size hb.size, fun k hn => (hrest k (by omega)).trans (h5.block k hn)⟩
      · refine ⟨[], List.nodup_nil, by simp, [.agg (cV (rdM r)).toArray, .agg cur], [[], []], rfl, rfl, rfl, rfl, fun j a u f e1 e2 e3 => ?_⟩
        match j with
        | 0 =>
          simp only [List.getElem?_cons_zero, Option.some.injEq] at e2 e3
          subst e2; subst e3
          have e1 : (.inr ((cV (rdM r)).map lv) : A cxT.ty) = a := Option.some.inj e1
          subst e1
          exact ⟨cV (rdM r), List.replicate 6 [], rfl, rfl, by simp, rfl, fun j a u f k1 k2 k3 => by
            rw [List.getElem?_map, k2] at k1
            simp only [Option.map_some, Option.some.injEq] at k1
            subst k1
            rw [List.getElem?_replicate] at k3
            split at k3
            · cases k3; exact ⟨rfl, rfl⟩
            · cases k3⟩
        | 1 =>
          simp only [List.getElem?_cons_succ, List.getElem?_cons_zero, Option.some.injEq] at e2 e3
          subst e2; subst e3
          have e1 : (.inr [rw5 (rdR r)] : A cxT.ty) = a := Option.some.inj e1
          subst e1
          obtain ⟨us2, hu2, hl2, h7⟩ := h6
          refine ⟨us2, [[]], hu2, rfl, hl2, rfl, fun j a u f k1 k2 k3 => ?_⟩
          match j with
          | 0 =>
            have := h7 0 a u k1 k2
            simp only [List.getElem?_cons_zero, Option.some.injEq] at k1 k3
            subst k1; subst k3
            obtain ⟨m1, n, m2⟩ := this
            exact ⟨m1, rfl, n, m2⟩
          | j + 1 => simp at k1
        | j + 2 => simp at e2
  · cases hx
end Go.Proofs.Try
