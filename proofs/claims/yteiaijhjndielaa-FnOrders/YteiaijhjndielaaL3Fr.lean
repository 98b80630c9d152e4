/- A part of the proof of FnOrders: L3Fr. -/
import Derived.Test.YteiaijhjndielaaL3Con
set_option maxHeartbeats 0
set_option linter.unusedVariables false
set_option linter.unusedSimpArgs false
namespace Go.Proofs.Try
open Go Go.VM Go.RowKit
/-! loop.example/g00222/laws.FnExactPermutation -/
def ev8 (m14 : Int → Option (Int × (List Int))) (m13 : Int → Option (Int × (List Int))) (m31 : ((Int × (List Int)) × (Int × (List Int))) → Option Bool) (m32 : ((Int × (List Int)) × Int) → Option (Int × Int × (List Int))) (m33 : ((Int × (List Int)) × Int) → Option Int) : Env cxT := { Kc := kcOf [(14, c14 m14), (13, c13 m13), (31, c31 m31), (33, c33 m33)], Kw := kwOf [(32, c32 m32)], lv := fun i => [], xv := fun i => none }
theorem i8 (m14 : Int → Option (Int × (List Int))) (m13 : Int → Option (Int × (List Int))) (m31 : ((Int × (List Int)) × (Int × (List Int))) → Option Bool) (m32 : ((Int × (List Int)) × Int) → Option (Int × Int × (List Int))) (m33 : ((Int × (List Int)) × Int) → Option Int) (L : Nat) (a0 : Int) : evF prog (ev8 m14 m13 m31 m32 m33) (loopN L) f8 (a8.enc a0) =
  tst (m14 a0) ((0 : Int), []) fun (q1 : (Int × (List Int))) => tst (m13 a0) ((0 : Int), []) fun (q2 : (Int × (List Int))) => tst (m31 ((q2.1, q2.2), (q1.1, q1.2))) false fun (q3 : Bool) => bif (!q3) then some (n8 Bool.false)
        else tst (m32 ((q2.1, q2.2), (1 : Int))) ((0 : Int), (0 : Int), []) fun (q4 : (Int × Int × (List Int))) => tst (m33 ((q2.1, q4.2.2), (1 : Int))) (0 : Int) fun (q5 : Int) => bif (decide (q5 < (0 : Int))) then some (n8 Bool.false)
            else bif (q5 != q4.1) then some (n8 Bool.false)
            else tst (m13 a0) ((0 : Int), []) fun (q6 : (Int × (List Int))) => tst (m31 ((q2.1, q2.2), (q1.1, q1.2))) false fun (q7 : Bool) => bif (!q3) then some (n8 Bool.false)
                else tst (m33 ((q2.1, q4.2.2), (1 : Int))) (0 : Int) fun (q8 : Int) => bif (decide (q5 < (0 : Int))) then some (n8 Bool.false)
                  else bif (q5 != q4.1) then some (n8 Bool.false)
                  else some (n8 Bool.true) := by kernel_rfl
def g8 (m14 : Int → Option (Int × (List Int))) (m13 : Int → Option (Int × (List Int))) (m31 : ((Int × (List Int)) × (Int × (List Int))) → Option Bool) (m32 : ((Int × (List Int)) × Int) → Option (Int × Int × (List Int))) (m33 : ((Int × (List Int)) × Int) → Option Int) (L : Nat) (a0 : Int) : Option Bool :=
  tst (m14 a0) ((0 : Int), []) fun (q1 : (Int × (List Int))) => tst (m13 a0) ((0 : Int), []) fun (q2 : (Int × (List Int))) => tst (m31 ((q2.1, q2.2), (q1.1, q1.2))) false fun (q3 : Bool) => bif (!q3) then some Bool.false
        else tst (m32 ((q2.1, q2.2), (1 : Int))) ((0 : Int), (0 : Int), []) fun (q4 : (Int × Int × (List Int))) => tst (m33 ((q2.1, q4.2.2), (1 : Int))) (0 : Int) fun (q5 : Int) => bif (decide (q5 < (0 : Int))) then some Bool.false
            else bif (q5 != q4.1) then some Bool.false
            else tst (m13 a0) ((0 : Int), []) fun (q6 : (Int × (List Int))) => tst (m31 ((q2.1, q2.2), (q1.1, q1.2))) false fun (q7 : Bool) => bif (!q3) then some Bool.false
                else tst (m33 ((q2.1, q4.2.2), (1 : Int))) (0 : Int) fun (q8 : Int) => bif (decide (q5 < (0 : Int))) then some Bool.false
                  else bif (q5 != q4.1) then some Bool.false
                  else some Bool.true
theorem e8 (m14 : Int → Option (Int × (List Int))) (m13 : Int → Option (Int × (List Int))) (m31 : ((Int × (List Int)) × (Int × (List Int))) → Option Bool) (m32 : ((Int × (List Int)) × Int) → Option (Int × Int × (List Int))) (m33 : ((Int × (List Int)) × Int) → Option Int) (L : Nat) (a0 : Int) : evF prog (ev8 m14 m13 m31 m32 m33) (loopN L) f8 (a8.enc a0) = (g8 m14 m13 m31 m32 m33 L a0).map n8 := by
  rw [i8]; simp only [g8, map_bif, map_tst, Option.map_some, Option.map_none]
theorem s8 (m14 : Int → Option (Int × (List Int))) (m13 : Int → Option (Int × (List Int))) (m31 : ((Int × (List Int)) × (Int × (List Int))) → Option Bool) (m32 : ((Int × (List Int)) × Int) → Option (Int × Int × (List Int))) (m33 : ((Int × (List Int)) × Int) → Option Int) (h14 : Sat prog cxT 14 (c14 m14)) (h13 : Sat prog cxT 13 (c13 m13)) (h31 : Sat prog cxT 31 (c31 m31)) (h32 : SatW prog cxT 32 (c32 m32).nres (c32 m32).n (c32 m32).F) (h33 : Sat prog cxT 33 (c33 m33)) (m : Int → Option Bool) (hm : ∀ (x : Int) t, m x = some t → ∃ L, g8 m14 m13 m31 m32 m33 L x = some t) : Sat prog cxT 8 (c8 m) :=
  sat_t cxT_ok cxT_pok (by rfl) (fn := f8) rfl a8 n8 dd8 m (ev8 m14 m13 m31 m32 m33) (kok_cons h14 (kok_cons h13 (kok_cons h31 (kok_cons h33 kok_nil)))) (kwok_cons h32 kwok_nil) (fun L x => g8 m14 m13 m31 m32 m33 L x) (fun L x => e8 m14 m13 m31 m32 m33 L x) hm hs8
/-! loop.example/g00222/spec.Permutation -/
def ev14 (m39 : Int → Option Bool) (m40 : (Int × Int) → Option Int) : Env cxT := { Kc := kcOf [(39, c39 m39), (40, c40 m40)], Kw := kwOf [], lv := fun i => if i = 0 then [(0, []), (2, [none, some 2]), (3, [none, some 2]), (4, [])] else [], xv := fun i => if i = 0 then some [(2, [none, some 2]), (3, [none, some 2])] else none }
def S14_0 (a0 : Int) (v0_2_0 : Int) (v0_2_1 : (List Int)) (v0_3_0 : Int) (v0_3_1 : (List Int)) (v0_4 : Int) : St cxT.ty := { slots := [(.inl (.inl (lv (.int .i64 a0)))), junk, (.inr (.inr { kind := 0, nm := 128, cells := [(lv (.int .i64 v0_2_0)), (ls { own := 1, nm := 130, e := 2, o := true, xs := v0_2_1 })], s := { own := 0, nm := 0, e := 0, o := false, xs := ([] : List (PUnit)) }, i := 0, off := 0 })), (.inr (.inr { kind := 0, nm := 192, cells := [(lv (.int .i64 v0_3_0)), (ls { own := 1, nm := 194, e := 2, o := true, xs := v0_3_1 })], s := { own := 0, nm := 0, e := 0, o := false, xs := ([] : List (PUnit)) }, i := 0, off := 0 })), (.inl (.inl (lv (.int .i64 v0_4))))] ++ List.replicate 18 junk, D := [], F := [], ctr := 1 }
def X14_0 (a0 : Int) (w0_2_0 : Int) (w0_2_1 : (List Int)) (w0_3_0 : Int) (w0_3_1 : (List Int)) : St cxT.ty := { slots := [junk, junk, (.inr (.inr { kind := 0, nm := 128, cells := [(lv (.int .i64 w0_2_0)), (ls { own := 1, nm := 130, e := 2, o := true, xs := w0_2_1 })], s := { own := 0, nm := 0, e := 0, o := false, xs := ([] : List (PUnit)) }, i := 0, off := 0 })), (.inr (.inr { kind := 0, nm := 192, cells := [(lv (.int .i64 w0_3_0)), (ls { own := 1, nm := 194, e := 2, o := true, xs := w0_3_1 })], s := { own := 0, nm := 0, e := 0, o := false, xs := ([] : List (PUnit)) }, i := 0, off := 0 }))] ++ List.replicate 19 junk, D := [], F := [], ctr := 1 }
theorem i14 (m39 : Int → Option Bool) (m40 : (Int × Int) → Option Int) (L : Nat) (a0 : Int) : evF prog (ev14 m39 m40) (loopN L) f14 (a14.enc a0) =
  tst (m39 a0) false fun (q1 : Bool) => bif (!q1) then some (n14 ((3 : Int), ([] : List (Int))))
    else headF prog (ev14 m39 m40) L f14 0 [1, 1, 1, 0, 1, 0, 0] (outK (outV prog f14) (topK prog (ev14 m39 m40) L f14 [1, 1, 1, 0, 1] (outV prog f14)).n (topK prog (ev14 m39 m40) L f14 [1, 1, 1, 0, 1] (outV prog f14)).x) L (S14_0 a0 (0 : Int) ([] : List (Int)) (0 : Int) ([] : List (Int)) (0 : Int)) := by kernel_rfl
theorem r14_0 (m39 : Int → Option Bool) (m40 : (Int × Int) → Option Int) (L : Nat) (a0 : Int) (k : St cxT.ty → Option (V cxT.ty)) (xk : Nat → St cxT.ty → Option (V cxT.ty)) (g : St cxT.ty → Option (V cxT.ty)) (v0_2_0 : Int) (v0_2_1 : (List Int)) (v0_3_0 : Int) (v0_3_1 : (List Int)) (v0_4 : Int) : roundF prog (ev14 m39 m40) L f14 0 [1, 1, 1, 0, 1, 0, 0] (outK (outV prog f14) k xk) g (S14_0 a0 v0_2_0 v0_2_1 v0_3_0 v0_3_1 v0_4) =
  bif (decide (v0_4 < (31 : Int))) then tst (m40 (a0, v0_4)) (0 : Int) fun (q2 : Int) => bif (decide (((List.length v0_3_1) + (List.length (List.cons q2 ([] : List (Int))))) ≤ (1000000000 : Nat))) then g (S14_0 a0 v0_2_0 v0_2_1 v0_3_0 (v0_3_1 ++ (List.cons q2 ([] : List (Int)))) (Go.IntKind.wrap Go.IntKind.i64 (v0_4 + (1 : Int))))
      else none
  else k (X14_0 a0 v0_2_0 v0_2_1 v0_3_0 v0_3_1) := by kernel_rfl
theorem t14_0 (m39 : Int → Option Bool) (m40 : (Int × Int) → Option Int) (L : Nat) (a0 : Int) (w0_2_0 : Int) (w0_2_1 : (List Int)) (w0_3_0 : Int) (w0_3_1 : (List Int)) : (topK prog (ev14 m39 m40) L f14 [1, 1, 1, 0, 1] (outV prog f14)).n (X14_0 a0 w0_2_0 w0_2_1 w0_3_0 w0_3_1) =
  some (n14 (w0_3_0, w0_3_1)) := by kernel_rfl
def l14_0 (m39 : Int → Option Bool) (m40 : (Int × Int) → Option Int) (L : Nat) (a0 : Int) : Nat → Int → (List Int) → Int → (List Int) → Int → (Int → (List Int) → Int → (List Int) → Option (Int × (List Int))) → Option (Int × (List Int))
  | 0, _, _, _, _, _, _ => none
  | n + 1, v0_2_0, v0_2_1, v0_3_0, v0_3_1, v0_4, k =>
    bif (decide (v0_4 < (31 : Int))) then tst (m40 (a0, v0_4)) (0 : Int) fun (q3 : Int) => bif (decide (((List.length v0_3_1) + (List.length (List.cons q3 ([] : List (Int))))) ≤ (1000000000 : Nat))) then l14_0 m39 m40 L a0 n v0_2_0 v0_2_1 v0_3_0 (v0_3_1 ++ (List.cons q3 ([] : List (Int)))) (Go.IntKind.wrap Go.IntKind.i64 (v0_4 + (1 : Int))) k
        else none
    else k v0_2_0 v0_2_1 v0_3_0 v0_3_1
theorem h14_0 (m39 : Int → Option Bool) (m40 : (Int × Int) → Option Int) (L : Nat) (a0 : Int) (k : St cxT.ty → Option (V cxT.ty)) (xk : Nat → St cxT.ty → Option (V cxT.ty)) (k' : Int → (List Int) → Int → (List Int) → Option (Int × (List Int))) (hk : ∀ (w0_2_0 : Int) (w0_2_1 : (List Int)) (w0_3_0 : Int) (w0_3_1 : (List Int)), k (X14_0 a0 w0_2_0 w0_2_1 w0_3_0 w0_3_1) = (k' w0_2_0 w0_2_1 w0_3_0 w0_3_1).map n14) : ∀ (n : Nat) (v0_2_0 : Int) (v0_2_1 : (List Int)) (v0_3_0 : Int) (v0_3_1 : (List Int)) (v0_4 : Int), headF prog (ev14 m39 m40) L f14 0 [1, 1, 1, 0, 1, 0, 0] (outK (outV prog f14) k xk) n (S14_0 a0 v0_2_0 v0_2_1 v0_3_0 v0_3_1 v0_4) = (l14_0 m39 m40 L a0 n v0_2_0 v0_2_1 v0_3_0 v0_3_1 v0_4 k').map n14
  | 0, _, _, _, _, _ => rfl
  | n + 1, v0_2_0, v0_2_1, v0_3_0, v0_3_1, v0_4 => by
    rw [headF_round, r14_0]
    have ih := h14_0 m39 m40 L a0 k xk k' hk n
    simp only [l14_0, map_bif, map_tst, Option.map_some, Option.map_none, ih, hk]
def g14 (m39 : Int → Option Bool) (m40 : (Int × Int) → Option Int) (L : Nat) (a0 : Int) : Option (Int × (List Int)) :=
  tst (m39 a0) false fun (q1 : Bool) => bif (!q1) then some ((3 : Int), ([] : List (Int)))
    else l14_0 m39 m40 L a0 L (0 : Int) ([] : List (Int)) (0 : Int) ([] : List (Int)) (0 : Int) (fun (w0_2_0 : Int) (w0_2_1 : (List Int)) (w0_3_0 : Int) (w0_3_1 : (List Int)) => some (w0_3_0, w0_3_1))
theorem e14 (m39 : Int → Option Bool) (m40 : (Int × Int) → Option Int) (L : Nat) (a0 : Int) : evF prog (ev14 m39 m40) (loopN L) f14 (a14.enc a0) = (g14 m39 m40 L a0).map n14 := by
  let K'0 : Int → (List Int) → Int → (List Int) → Option (Int × (List Int)) := (fun (w0_2_0 : Int) (w0_2_1 : (List Int)) (w0_3_0 : Int) (w0_3_1 : (List Int)) => some (w0_3_0, w0_3_1))
  have hin0 : ∀ (v0_2_0 : Int) (v0_2_1 : (List Int)) (v0_3_0 : Int) (v0_3_1 : (List Int)) (v0_4 : Int), headF prog (ev14 m39 m40) L f14 0 [1, 1, 1, 0, 1, 0, 0] (outK (outV prog f14) (topK prog (ev14 m39 m40) L f14 [1, 1, 1, 0, 1] (outV prog f14)).n (topK prog (ev14 m39 m40) L f14 [1, 1, 1, 0, 1] (outV prog f14)).x) L (S14_0 a0 v0_2_0 v0_2_1 v0_3_0 v0_3_1 v0_4) = (l14_0 m39 m40 L a0 L v0_2_0 v0_2_1 v0_3_0 v0_3_1 v0_4 K'0).map n14 := fun v0_2_0 v0_2_1 v0_3_0 v0_3_1 v0_4 => h14_0 m39 m40 L a0 _ _ K'0 (fun w0_2_0 w0_2_1 w0_3_0 w0_3_1 => by rw [t14_0]; simp only [K'0, map_bif, map_tst, Option.map_some, Option.map_none]) L v0_2_0 v0_2_1 v0_3_0 v0_3_1 v0_4
  rw [i14]; simp only [g14, map_bif, map_tst, Option.map_some, Option.map_none, hin0, K'0]
theorem s14 (m39 : Int → Option Bool) (m40 : (Int × Int) → Option Int) (h39 : Sat prog cxT 39 (c39 m39)) (h40 : Sat prog cxT 40 (c40 m40)) (m : Int → Option (Int × (List Int))) (hm : ∀ (x : Int) t, m x = some t → ∃ L, g14 m39 m40 L x = some t) : Sat prog cxT 14 (c14 m) :=
  sat_t cxT_ok cxT_pok (by rfl) (fn := f14) rfl a14 n14 dd14 m (ev14 m39 m40) (kok_cons h39 (kok_cons h40 kok_nil)) kwok_nil (fun L x => g14 m39 m40 L x) (fun L x => e14 m39 m40 L x) hm hs14
/-! loop.example/g00222/laws.eqIntsResult -/
def ev31 (m55 : ((List Int) × (List Int)) → Option Bool) : Env cxT := { Kc := kcOf [(55, c55 m55)], Kw := kwOf [], lv := fun i => [], xv := fun i => none }
theorem i31 (m55 : ((List Int) × (List Int)) → Option Bool) (L : Nat) (a0_0 : Int) (a0_1 : (List Int)) (a1_0 : Int) (a1_1 : (List Int)) : evF prog (ev31 m55) (loopN L) f31 (a31.enc ((a0_0, a0_1), (a1_0, a1_1))) =
  bif (a0_0 != a1_0) then some (n31 Bool.false)
  else tst (m55 (a0_1, a1_1)) false fun (q1 : Bool) => bif (!q1) then some (n31 Bool.false)
    else some (n31 Bool.true) := by kernel_rfl
def g31 (m55 : ((List Int) × (List Int)) → Option Bool) (L : Nat) (a0_0 : Int) (a0_1 : (List Int)) (a1_0 : Int) (a1_1 : (List Int)) : Option Bool :=
  bif (a0_0 != a1_0) then some Bool.false
  else tst (m55 (a0_1, a1_1)) false fun (q1 : Bool) => bif (!q1) then some Bool.false
    else some Bool.true
theorem e31 (m55 : ((List Int) × (List Int)) → Option Bool) (L : Nat) (a0_0 : Int) (a0_1 : (List Int)) (a1_0 : Int) (a1_1 : (List Int)) : evF prog (ev31 m55) (loopN L) f31 (a31.enc ((a0_0, a0_1), (a1_0, a1_1))) = (g31 m55 L a0_0 a0_1 a1_0 a1_1).map n31 := by
  rw [i31]; simp only [g31, map_bif, map_tst, Option.map_some, Option.map_none]
theorem s31 (m55 : ((List Int) × (List Int)) → Option Bool) (h55 : Sat prog cxT 55 (c55 m55)) (m : ((Int × (List Int)) × (Int × (List Int))) → Option Bool) (hm : ∀ (x : ((Int × (List Int)) × (Int × (List Int)))) t, m x = some t → ∃ L, g31 m55 L x.1.1 x.1.2 x.2.1 x.2.2 = some t) : Sat prog cxT 31 (c31 m) :=
  sat_t cxT_ok cxT_pok (by rfl) (fn := f31) rfl a31 n31 dd31 m (ev31 m55) (kok_cons h55 kok_nil) kwok_nil (fun L x => g31 m55 L x.1.1 x.1.2 x.2.1 x.2.2) (fun L x => e31 m55 L x.1.1 x.1.2 x.2.1 x.2.2) hm hs31
/-! loop.example/g00222/laws.markIntsResult -/
def ev32 (m56 : ((List Int) × Int) → Option (Int × (List Int))) : Env cxT := { Kc := kcOf [], Kw := kwOf [(56, c56 m56)], lv := fun i => [], xv := fun i => none }
theorem i32 (m56 : ((List Int) × Int) → Option (Int × (List Int))) (L : Nat) (a0_0 : Int) (a0_1 : (List Int)) (a1 : Int) : evFW prog (ev32 m56) (loopN L) f32 1 (a32.enc ((a0_0, a0_1), a1)) =
  tst (m56 (a0_1, a1)) ((0 : Int), []) fun (q1 : (Int × (List Int))) => some (n32 (q1.1, a0_0, q1.2)) := by kernel_rfl
def g32 (m56 : ((List Int) × Int) → Option (Int × (List Int))) (L : Nat) (a0_0 : Int) (a0_1 : (List Int)) (a1 : Int) : Option (Int × Int × (List Int)) :=
  tst (m56 (a0_1, a1)) ((0 : Int), []) fun (q1 : (Int × (List Int))) => some (q1.1, a0_0, q1.2)
theorem e32 (m56 : ((List Int) × Int) → Option (Int × (List Int))) (L : Nat) (a0_0 : Int) (a0_1 : (List Int)) (a1 : Int) : evFW prog (ev32 m56) (loopN L) f32 1 (a32.enc ((a0_0, a0_1), a1)) = (g32 m56 L a0_0 a0_1 a1).map n32 := by
  rw [i32]; simp only [g32, map_bif, map_tst, Option.map_some, Option.map_none]
theorem s32 (m56 : ((List Int) × Int) → Option (Int × (List Int))) (h56 : SatW prog cxT 56 (c56 m56).nres (c56 m56).n (c56 m56).F) (m : ((Int × (List Int)) × Int) → Option (Int × Int × (List Int))) (hm : ∀ (x : ((Int × (List Int)) × Int)) t, m x = some t → ∃ L, g32 m56 L x.1.1 x.1.2 x.2 = some t) : SatW prog cxT 32 (c32 m).nres (c32 m).n (c32 m).F :=
  sat_w cxT_ok cxT_pok (by rfl) (fn := f32) rfl rfl a32 n32 dd32 m (ev32 m56) kok_nil (kwok_cons h56 kwok_nil) (fun L x => g32 m56 L x.1.1 x.1.2 x.2) (fun L x => e32 m56 L x.1.1 x.1.2 x.2) hm hs32
/-! loop.example/g00222/laws.heldIntsResult -/
def ev33 (m57 : ((List Int) × Int) → Option Int) : Env cxT := { Kc := kcOf [(57, c57 m57)], Kw := kwOf [], lv := fun i => [], xv := fun i => none }
theorem i33 (m57 : ((List Int) × Int) → Option Int) (L : Nat) (a0_0 : Int) (a0_1 : (List Int)) (a1 : Int) : evF prog (ev33 m57) (loopN L) f33 (a33.enc ((a0_0, a0_1), a1)) =
  tst (m57 (a0_1, a1)) (0 : Int) fun (q1 : Int) => bif (decide (q1 < (0 : Int))) then some (n33 (-(1 : Int)))
    else some (n33 q1) := by kernel_rfl
def g33 (m57 : ((List Int) × Int) → Option Int) (L : Nat) (a0_0 : Int) (a0_1 : (List Int)) (a1 : Int) : Option Int :=
  tst (m57 (a0_1, a1)) (0 : Int) fun (q1 : Int) => bif (decide (q1 < (0 : Int))) then some (-(1 : Int))
    else some q1
theorem e33 (m57 : ((List Int) × Int) → Option Int) (L : Nat) (a0_0 : Int) (a0_1 : (List Int)) (a1 : Int) : evF prog (ev33 m57) (loopN L) f33 (a33.enc ((a0_0, a0_1), a1)) = (g33 m57 L a0_0 a0_1 a1).map n33 := by
  rw [i33]; simp only [g33, map_bif, map_tst, Option.map_some, Option.map_none]
theorem s33 (m57 : ((List Int) × Int) → Option Int) (h57 : Sat prog cxT 57 (c57 m57)) (m : ((Int × (List Int)) × Int) → Option Int) (hm : ∀ (x : ((Int × (List Int)) × Int)) t, m x = some t → ∃ L, g33 m57 L x.1.1 x.1.2 x.2 = some t) : Sat prog cxT 33 (c33 m) :=
  sat_t cxT_ok cxT_pok (by rfl) (fn := f33) rfl a33 n33 dd33 m (ev33 m57) (kok_cons h57 kok_nil) kwok_nil (fun L x => g33 m57 L x.1.1 x.1.2 x.2) (fun L x => e33 m57 L x.1.1 x.1.2 x.2) hm hs33
/-! loop.example/g00222/spec.l3Place -/
def ev40 (m58 : Int → Option Int) (m59 : Int → Option Int) : Env cxT := { Kc := kcOf [(58, c58 m58), (59, c59 m59)], Kw := kwOf [], lv := fun i => [], xv := fun i => none }
theorem i40 (m58 : Int → Option Int) (m59 : Int → Option Int) (L : Nat) (a0 : Int) (a1 : Int) : evF prog (ev40 m58 m59) (loopN L) f40 (a40.enc (a0, a1)) =
  tst (m58 a0) (0 : Int) fun (q1 : Int) => tst (m59 a0) (0 : Int) fun (q2 : Int) => some (n40 (Int.tmod (Go.IntKind.wrap Go.IntKind.i64 (q1 + (Go.IntKind.wrap Go.IntKind.i64 (a1 * q2)))) (31 : Int))) := by kernel_rfl
def g40 (m58 : Int → Option Int) (m59 : Int → Option Int) (L : Nat) (a0 : Int) (a1 : Int) : Option Int :=
  tst (m58 a0) (0 : Int) fun (q1 : Int) => tst (m59 a0) (0 : Int) fun (q2 : Int) => some (Int.tmod (Go.IntKind.wrap Go.IntKind.i64 (q1 + (Go.IntKind.wrap Go.IntKind.i64 (a1 * q2)))) (31 : Int))
theorem e40 (m58 : Int → Option Int) (m59 : Int → Option Int) (L : Nat) (a0 : Int) (a1 : Int) : evF prog (ev40 m58 m59) (loopN L) f40 (a40.enc (a0, a1)) = (g40 m58 m59 L a0 a1).map n40 := by
  rw [i40]; simp only [g40, map_bif, map_tst, Option.map_some, Option.map_none]
theorem s40 (m58 : Int → Option Int) (m59 : Int → Option Int) (h58 : Sat prog cxT 58 (c58 m58)) (h59 : Sat prog cxT 59 (c59 m59)) (m : (Int × Int) → Option Int) (hm : ∀ (x : (Int × Int)) t, m x = some t → ∃ L, g40 m58 m59 L x.1 x.2 = some t) : Sat prog cxT 40 (c40 m) :=
  sat_t cxT_ok cxT_pok (by rfl) (fn := f40) rfl a40 n40 dd40 m (ev40 m58 m59) (kok_cons h58 (kok_cons h59 kok_nil)) kwok_nil (fun L x => g40 m58 m59 L x.1 x.2) (fun L x => e40 m58 m59 L x.1 x.2) hm hs40
/-! loop.example/g00222/laws.eqInt64S -/
def ev55 : Env cxT := { Kc := kcOf [], Kw := kwOf [], lv := fun i => if i = 0 then [(0, [some 2]), (1, [some 2]), (5, [])] else [], xv := fun i => if i = 0 then some [] else none }
def S55_0 (a0 : (List Int)) (a1 : (List Int)) (v0_5 : Int) : St cxT.ty := { slots := [(.inl (.inl (ls { own := 0, nm := 0, e := 2, o := false, xs := a0 }))), (.inl (.inl (ls { own := 0, nm := 0, e := 2, o := false, xs := a1 }))), junk, junk, junk, (.inl (.inl (lv (.int .i64 v0_5))))] ++ List.replicate 20 junk, D := [], F := [], ctr := 1 }
def X55_0 (a0 : (List Int)) (a1 : (List Int)) : St cxT.ty := { slots := [] ++ List.replicate 26 junk, D := [], F := [], ctr := 1 }
theorem i55 (L : Nat) (a0 : (List Int)) (a1 : (List Int)) : evF prog ev55 (loopN L) f55 (a55.enc (a0, a1)) =
  bif ((Nat.cast (List.length a0) : Int) != (Nat.cast (List.length a1) : Int)) then some (n55 Bool.false)
  else headF prog ev55 L f55 0 [1, 1, 0, 1, 0, 0] (outK (outV prog f55) (topK prog ev55 L f55 [1, 1, 0, 1] (outV prog f55)).n (topK prog ev55 L f55 [1, 1, 0, 1] (outV prog f55)).x) L (S55_0 a0 a1 (0 : Int)) := by kernel_rfl
theorem r55_0 (L : Nat) (a0 : (List Int)) (a1 : (List Int)) (k : St cxT.ty → Option (V cxT.ty)) (xk : Nat → St cxT.ty → Option (V cxT.ty)) (g : St cxT.ty → Option (V cxT.ty)) (v0_5 : Int) : roundF prog ev55 L f55 0 [1, 1, 0, 1, 0, 0] (outK (outV prog f55) k xk) g (S55_0 a0 a1 v0_5) =
  bif (decide (v0_5 < (Nat.cast (List.length a0) : Int))) then bif ((decide ((0 : Int) ≤ v0_5)) && (decide (v0_5 < (Nat.cast (List.length a0) : Int)))) then bif ((decide ((0 : Int) ≤ v0_5)) && (decide (v0_5 < (Nat.cast (List.length a1) : Int)))) then bif ((List.getD a0 (Int.toNat v0_5) (0 : Int)) != (List.getD a1 (Int.toNat v0_5) (0 : Int))) then some (n55 Bool.false)
        else g (S55_0 a0 a1 (Go.IntKind.wrap Go.IntKind.i64 (v0_5 + (1 : Int))))
      else none
    else none
  else k (X55_0 a0 a1) := by kernel_rfl
theorem t55_0 (L : Nat) (a0 : (List Int)) (a1 : (List Int)) : (topK prog ev55 L f55 [1, 1, 0, 1] (outV prog f55)).n (X55_0 a0 a1) =
  some (n55 Bool.true) := by kernel_rfl
def l55_0 (L : Nat) (a0 : (List Int)) (a1 : (List Int)) : Nat → Int → (Option Bool) → Option Bool
  | 0, _, _ => none
  | n + 1, v0_5, k =>
    bif (decide (v0_5 < (Nat.cast (List.length a0) : Int))) then bif ((decide ((0 : Int) ≤ v0_5)) && (decide (v0_5 < (Nat.cast (List.length a0) : Int)))) then bif ((decide ((0 : Int) ≤ v0_5)) && (decide (v0_5 < (Nat.cast (List.length a1) : Int)))) then bif ((List.getD a0 (Int.toNat v0_5) (0 : Int)) != (List.getD a1 (Int.toNat v0_5) (0 : Int))) then some Bool.false
          else l55_0 L a0 a1 n (Go.IntKind.wrap Go.IntKind.i64 (v0_5 + (1 : Int))) k
        else none
      else none
    else k
theorem h55_0 (L : Nat) (a0 : (List Int)) (a1 : (List Int)) (k : St cxT.ty → Option (V cxT.ty)) (xk : Nat → St cxT.ty → Option (V cxT.ty)) (k' : Option Bool) (hk : k (X55_0 a0 a1) = (k').map n55) : ∀ (n : Nat) (v0_5 : Int), headF prog ev55 L f55 0 [1, 1, 0, 1, 0, 0] (outK (outV prog f55) k xk) n (S55_0 a0 a1 v0_5) = (l55_0 L a0 a1 n v0_5 k').map n55
  | 0, _ => rfl
  | n + 1, v0_5 => by
    rw [headF_round, r55_0]
    have ih := h55_0 L a0 a1 k xk k' hk n
    simp only [l55_0, map_bif, map_tst, Option.map_some, Option.map_none, ih, hk]
def g55 (L : Nat) (a0 : (List Int)) (a1 : (List Int)) : Option Bool :=
  bif ((Nat.cast (List.length a0) : Int) != (Nat.cast (List.length a1) : Int)) then some Bool.false
  else l55_0 L a0 a1 L (0 : Int) (some Bool.true)
theorem e55 (L : Nat) (a0 : (List Int)) (a1 : (List Int)) : evF prog ev55 (loopN L) f55 (a55.enc (a0, a1)) = (g55 L a0 a1).map n55 := by
  let K'0 : Option Bool := (some Bool.true)
  have hin0 : ∀ (v0_5 : Int), headF prog ev55 L f55 0 [1, 1, 0, 1, 0, 0] (outK (outV prog f55) (topK prog ev55 L f55 [1, 1, 0, 1] (outV prog f55)).n (topK prog ev55 L f55 [1, 1, 0, 1] (outV prog f55)).x) L (S55_0 a0 a1 v0_5) = (l55_0 L a0 a1 L v0_5 K'0).map n55 := fun v0_5 => h55_0 L a0 a1 _ _ K'0 (by rw [t55_0]; simp only [K'0, map_bif, map_tst, Option.map_some, Option.map_none]) L v0_5
  rw [i55]; simp only [g55, map_bif, map_tst, Option.map_some, Option.map_none, hin0, K'0]
theorem s55 (m : ((List Int) × (List Int)) → Option Bool) (hm : ∀ (x : ((List Int) × (List Int))) t, m x = some t → ∃ L, g55 L x.1 x.2 = some t) : Sat prog cxT 55 (c55 m) :=
  sat_t cxT_ok cxT_pok (by rfl) (fn := f55) rfl a55 n55 dd55 m ev55 kok_nil kwok_nil (fun L x => g55 L x.1 x.2) (fun L x => e55 L x.1 x.2) hm hs55
/-! loop.example/g00222/laws.markInt64S -/
def ev56 : Env cxT := { Kc := kcOf [], Kw := kwOf [], lv := fun i => if i = 0 then [(0, [some 2]), (1, []), (5, [])] else [], xv := fun i => if i = 0 then some [(0, [some 2]), (1, [])] else none }
def S56_0 (a0 : (List Int)) (a1 : Int) (v0_0 : (List Int)) (v0_1 : Int) (v0_5 : Int) : St cxT.ty := { slots := [(.inl (.inl (ls { own := 1, nm := 0, e := 2, o := true, xs := v0_0 }))), (.inl (.inl (lv (.int .i64 v0_1)))), junk, junk, junk, (.inl (.inl (lv (.int .i64 v0_5))))] ++ List.replicate 13 junk, D := [], F := [], ctr := 1, lo := 1 }
def X56_0 (a0 : (List Int)) (a1 : Int) (w0_0 : (List Int)) (w0_1 : Int) : St cxT.ty := { slots := [(.inl (.inl (ls { own := 1, nm := 0, e := 2, o := true, xs := w0_0 }))), (.inl (.inl (lv (.int .i64 w0_1))))] ++ List.replicate 17 junk, D := [], F := [], ctr := 1, lo := 1 }
theorem i56 (L : Nat) (a0 : (List Int)) (a1 : Int) : evFW prog ev56 (loopN L) f56 1 (a56.enc (a0, a1)) =
  headF prog ev56 L f56 0 [1, 0, 1, 0, 0] (outK (outW prog f56 1) (topK prog ev56 L f56 [1, 0, 1] (outW prog f56 1)).n (topK prog ev56 L f56 [1, 0, 1] (outW prog f56 1)).x) L (S56_0 a0 a1 a0 a1 (0 : Int)) := by kernel_rfl
theorem r56_0 (L : Nat) (a0 : (List Int)) (a1 : Int) (k : St cxT.ty → Option (List (A cxT.ty))) (xk : Nat → St cxT.ty → Option (List (A cxT.ty))) (g : St cxT.ty → Option (List (A cxT.ty))) (v0_0 : (List Int)) (v0_1 : Int) (v0_5 : Int) : roundF prog ev56 L f56 0 [1, 0, 1, 0, 0] (outK (outW prog f56 1) k xk) g (S56_0 a0 a1 v0_0 v0_1 v0_5) =
  bif (decide (v0_5 < (Nat.cast (List.length v0_0) : Int))) then bif ((decide ((0 : Int) ≤ v0_5)) && (decide (v0_5 < (Nat.cast (List.length v0_0) : Int)))) then g (S56_0 a0 a1 (List.set v0_0 (Int.toNat v0_5) v0_1) (Go.IntKind.wrap Go.IntKind.i64 (v0_1 + (1 : Int))) (Go.IntKind.wrap Go.IntKind.i64 (v0_5 + (1 : Int))))
    else none
  else k (X56_0 a0 a1 v0_0 v0_1) := by kernel_rfl
theorem t56_0 (L : Nat) (a0 : (List Int)) (a1 : Int) (w0_0 : (List Int)) (w0_1 : Int) : (topK prog ev56 L f56 [1, 0, 1] (outW prog f56 1)).n (X56_0 a0 a1 w0_0 w0_1) =
  some (n56 (w0_1, w0_0)) := by kernel_rfl
def l56_0 (L : Nat) (a0 : (List Int)) (a1 : Int) : Nat → (List Int) → Int → Int → ((List Int) → Int → Option (Int × (List Int))) → Option (Int × (List Int))
  | 0, _, _, _, _ => none
  | n + 1, v0_0, v0_1, v0_5, k =>
    bif (decide (v0_5 < (Nat.cast (List.length v0_0) : Int))) then bif ((decide ((0 : Int) ≤ v0_5)) && (decide (v0_5 < (Nat.cast (List.length v0_0) : Int)))) then l56_0 L a0 a1 n (List.set v0_0 (Int.toNat v0_5) v0_1) (Go.IntKind.wrap Go.IntKind.i64 (v0_1 + (1 : Int))) (Go.IntKind.wrap Go.IntKind.i64 (v0_5 + (1 : Int))) k
      else none
    else k v0_0 v0_1
theorem h56_0 (L : Nat) (a0 : (List Int)) (a1 : Int) (k : St cxT.ty → Option (List (A cxT.ty))) (xk : Nat → St cxT.ty → Option (List (A cxT.ty))) (k' : (List Int) → Int → Option (Int × (List Int))) (hk : ∀ (w0_0 : (List Int)) (w0_1 : Int), k (X56_0 a0 a1 w0_0 w0_1) = (k' w0_0 w0_1).map n56) : ∀ (n : Nat) (v0_0 : (List Int)) (v0_1 : Int) (v0_5 : Int), headF prog ev56 L f56 0 [1, 0, 1, 0, 0] (outK (outW prog f56 1) k xk) n (S56_0 a0 a1 v0_0 v0_1 v0_5) = (l56_0 L a0 a1 n v0_0 v0_1 v0_5 k').map n56
  | 0, _, _, _ => rfl
  | n + 1, v0_0, v0_1, v0_5 => by
    rw [headF_round, r56_0]
    have ih := h56_0 L a0 a1 k xk k' hk n
    simp only [l56_0, map_bif, map_tst, Option.map_some, Option.map_none, ih, hk]
def g56 (L : Nat) (a0 : (List Int)) (a1 : Int) : Option (Int × (List Int)) :=
  l56_0 L a0 a1 L a0 a1 (0 : Int) (fun (w0_0 : (List Int)) (w0_1 : Int) => some (w0_1, w0_0))
theorem e56 (L : Nat) (a0 : (List Int)) (a1 : Int) : evFW prog ev56 (loopN L) f56 1 (a56.enc (a0, a1)) = (g56 L a0 a1).map n56 := by
  let K'0 : (List Int) → Int → Option (Int × (List Int)) := (fun (w0_0 : (List Int)) (w0_1 : Int) => some (w0_1, w0_0))
  have hin0 : ∀ (v0_0 : (List Int)) (v0_1 : Int) (v0_5 : Int), headF prog ev56 L f56 0 [1, 0, 1, 0, 0] (outK (outW prog f56 1) (topK prog ev56 L f56 [1, 0, 1] (outW prog f56 1)).n (topK prog ev56 L f56 [1, 0, 1] (outW prog f56 1)).x) L (S56_0 a0 a1 v0_0 v0_1 v0_5) = (l56_0 L a0 a1 L v0_0 v0_1 v0_5 K'0).map n56 := fun v0_0 v0_1 v0_5 => h56_0 L a0 a1 _ _ K'0 (fun w0_0 w0_1 => by rw [t56_0]; simp only [K'0, map_bif, map_tst, Option.map_some, Option.map_none]) L v0_0 v0_1 v0_5
  rw [i56]; simp only [g56, map_bif, map_tst, Option.map_some, Option.map_none, hin0, K'0]
theorem s56 (m : ((List Int) × Int) → Option (Int × (List Int))) (hm : ∀ (x : ((List Int) × Int)) t, m x = some t → ∃ L, g56 L x.1 x.2 = some t) : SatW prog cxT 56 (c56 m).nres (c56 m).n (c56 m).F :=
  sat_w cxT_ok cxT_pok (by rfl) (fn := f56) rfl rfl a56 n56 dd56 m ev56 kok_nil kwok_nil (fun L x => g56 L x.1 x.2) (fun L x => e56 L x.1 x.2) hm hs56
/-! loop.example/g00222/laws.heldInt64S -/
def ev57 : Env cxT := { Kc := kcOf [], Kw := kwOf [], lv := fun i => if i = 0 then [(0, [some 2]), (1, []), (5, [])] else [], xv := fun i => if i = 0 then some [(1, [])] else none }
def S57_0 (a0 : (List Int)) (a1 : Int) (v0_1 : Int) (v0_5 : Int) : St cxT.ty := { slots := [(.inl (.inl (ls { own := 0, nm := 0, e := 2, o := false, xs := a0 }))), (.inl (.inl (lv (.int .i64 v0_1)))), junk, junk, junk, (.inl (.inl (lv (.int .i64 v0_5))))] ++ List.replicate 15 junk, D := [], F := [], ctr := 1 }
def X57_0 (a0 : (List Int)) (a1 : Int) (w0_1 : Int) : St cxT.ty := { slots := [junk, (.inl (.inl (lv (.int .i64 w0_1))))] ++ List.replicate 19 junk, D := [], F := [], ctr := 1 }
theorem i57 (L : Nat) (a0 : (List Int)) (a1 : Int) : evF prog ev57 (loopN L) f57 (a57.enc (a0, a1)) =
  headF prog ev57 L f57 0 [1, 0, 1, 0, 0] (outK (outV prog f57) (topK prog ev57 L f57 [1, 0, 1] (outV prog f57)).n (topK prog ev57 L f57 [1, 0, 1] (outV prog f57)).x) L (S57_0 a0 a1 a1 (0 : Int)) := by kernel_rfl
theorem r57_0 (L : Nat) (a0 : (List Int)) (a1 : Int) (k : St cxT.ty → Option (V cxT.ty)) (xk : Nat → St cxT.ty → Option (V cxT.ty)) (g : St cxT.ty → Option (V cxT.ty)) (v0_1 : Int) (v0_5 : Int) : roundF prog ev57 L f57 0 [1, 0, 1, 0, 0] (outK (outV prog f57) k xk) g (S57_0 a0 a1 v0_1 v0_5) =
  bif (decide (v0_5 < (Nat.cast (List.length a0) : Int))) then bif ((decide ((0 : Int) ≤ v0_5)) && (decide (v0_5 < (Nat.cast (List.length a0) : Int)))) then bif ((List.getD a0 (Int.toNat v0_5) (0 : Int)) != v0_1) then some (n57 (-(1 : Int)))
      else g (S57_0 a0 a1 (Go.IntKind.wrap Go.IntKind.i64 (v0_1 + (1 : Int))) (Go.IntKind.wrap Go.IntKind.i64 (v0_5 + (1 : Int))))
    else none
  else k (X57_0 a0 a1 v0_1) := by kernel_rfl
theorem t57_0 (L : Nat) (a0 : (List Int)) (a1 : Int) (w0_1 : Int) : (topK prog ev57 L f57 [1, 0, 1] (outV prog f57)).n (X57_0 a0 a1 w0_1) =
  some (n57 w0_1) := by kernel_rfl
def l57_0 (L : Nat) (a0 : (List Int)) (a1 : Int) : Nat → Int → Int → (Int → Option Int) → Option Int
  | 0, _, _, _ => none
  | n + 1, v0_1, v0_5, k =>
    bif (decide (v0_5 < (Nat.cast (List.length a0) : Int))) then bif ((decide ((0 : Int) ≤ v0_5)) && (decide (v0_5 < (Nat.cast (List.length a0) : Int)))) then bif ((List.getD a0 (Int.toNat v0_5) (0 : Int)) != v0_1) then some (-(1 : Int))
        else l57_0 L a0 a1 n (Go.IntKind.wrap Go.IntKind.i64 (v0_1 + (1 : Int))) (Go.IntKind.wrap Go.IntKind.i64 (v0_5 + (1 : Int))) k
      else none
    else k v0_1
theorem h57_0 (L : Nat) (a0 : (List Int)) (a1 : Int) (k : St cxT.ty → Option (V cxT.ty)) (xk : Nat → St cxT.ty → Option (V cxT.ty)) (k' : Int → Option Int) (hk : ∀ (w0_1 : Int), k (X57_0 a0 a1 w0_1) = (k' w0_1).map n57) : ∀ (n : Nat) (v0_1 : Int) (v0_5 : Int), headF prog ev57 L f57 0 [1, 0, 1, 0, 0] (outK (outV prog f57) k xk) n (S57_0 a0 a1 v0_1 v0_5) = (l57_0 L a0 a1 n v0_1 v0_5 k').map n57
  | 0, _, _ => rfl
  | n + 1, v0_1, v0_5 => by
    rw [headF_round, r57_0]
    have ih := h57_0 L a0 a1 k xk k' hk n
    simp only [l57_0, map_bif, map_tst, Option.map_some, Option.map_none, ih, hk]
def g57 (L : Nat) (a0 : (List Int)) (a1 : Int) : Option Int :=
  l57_0 L a0 a1 L a1 (0 : Int) (fun (w0_1 : Int) => some w0_1)
theorem e57 (L : Nat) (a0 : (List Int)) (a1 : Int) : evF prog ev57 (loopN L) f57 (a57.enc (a0, a1)) = (g57 L a0 a1).map n57 := by
  let K'0 : Int → Option Int := (fun (w0_1 : Int) => some w0_1)
  have hin0 : ∀ (v0_1 : Int) (v0_5 : Int), headF prog ev57 L f57 0 [1, 0, 1, 0, 0] (outK (outV prog f57) (topK prog ev57 L f57 [1, 0, 1] (outV prog f57)).n (topK prog ev57 L f57 [1, 0, 1] (outV prog f57)).x) L (S57_0 a0 a1 v0_1 v0_5) = (l57_0 L a0 a1 L v0_1 v0_5 K'0).map n57 := fun v0_1 v0_5 => h57_0 L a0 a1 _ _ K'0 (fun w0_1 => by rw [t57_0]; simp only [K'0, map_bif, map_tst, Option.map_some, Option.map_none]) L v0_1 v0_5
  rw [i57]; simp only [g57, map_bif, map_tst, Option.map_some, Option.map_none, hin0, K'0]
theorem s57 (m : ((List Int) × Int) → Option Int) (hm : ∀ (x : ((List Int) × Int)) t, m x = some t → ∃ L, g57 L x.1 x.2 = some t) : Sat prog cxT 57 (c57 m) :=
  sat_t cxT_ok cxT_pok (by rfl) (fn := f57) rfl a57 n57 dd57 m ev57 kok_nil kwok_nil (fun L x => g57 L x.1 x.2) (fun L x => e57 L x.1 x.2) hm hs57
/-! loop.example/g00222/laws.lwHas -/
def ev15 : Env cxT := { Kc := kcOf [], Kw := kwOf [], lv := fun i => if i = 0 then [(0, [some 2]), (1, []), (5, [])] else [], xv := fun i => if i = 0 then some [] else none }
def S15_0 (a0 : (List Int)) (a1 : Int) (v0_5 : Int) : St cxT.ty := { slots := [(.inl (.inl (ls { own := 0, nm := 0, e := 2, o := false, xs := a0 }))), (.inl (.inl (lv (.int .i64 a1)))), junk, junk, junk, (.inl (.inl (lv (.int .i64 v0_5))))] ++ List.replicate 12 junk, D := [], F := [], ctr := 1 }
def X15_0 (a0 : (List Int)) (a1 : Int) : St cxT.ty := { slots := [] ++ List.replicate 18 junk, D := [], F := [], ctr := 1 }
theorem i15 (L : Nat) (a0 : (List Int)) (a1 : Int) : evF prog ev15 (loopN L) f15 (a15.enc (a0, a1)) =
  headF prog ev15 L f15 0 [1, 0, 1, 0, 0] (outK (outV prog f15) (topK prog ev15 L f15 [1, 0, 1] (outV prog f15)).n (topK prog ev15 L f15 [1, 0, 1] (outV prog f15)).x) L (S15_0 a0 a1 (0 : Int)) := by kernel_rfl
theorem r15_0 (L : Nat) (a0 : (List Int)) (a1 : Int) (k : St cxT.ty → Option (V cxT.ty)) (xk : Nat → St cxT.ty → Option (V cxT.ty)) (g : St cxT.ty → Option (V cxT.ty)) (v0_5 : Int) : roundF prog ev15 L f15 0 [1, 0, 1, 0, 0] (outK (outV prog f15) k xk) g (S15_0 a0 a1 v0_5) =
  bif (decide (v0_5 < (Nat.cast (List.length a0) : Int))) then bif ((decide ((0 : Int) ≤ v0_5)) && (decide (v0_5 < (Nat.cast (List.length a0) : Int)))) then bif ((List.getD a0 (Int.toNat v0_5) (0 : Int)) == a1) then some (n15 Bool.true)
      else g (S15_0 a0 a1 (Go.IntKind.wrap Go.IntKind.i64 (v0_5 + (1 : Int))))
    else none
  else k (X15_0 a0 a1) := by kernel_rfl
theorem t15_0 (L : Nat) (a0 : (List Int)) (a1 : Int) : (topK prog ev15 L f15 [1, 0, 1] (outV prog f15)).n (X15_0 a0 a1) =
  some (n15 Bool.false) := by kernel_rfl
def l15_0 (L : Nat) (a0 : (List Int)) (a1 : Int) : Nat → Int → (Option Bool) → Option Bool
  | 0, _, _ => none
  | n + 1, v0_5, k =>
    bif (decide (v0_5 < (Nat.cast (List.length a0) : Int))) then bif ((decide ((0 : Int) ≤ v0_5)) && (decide (v0_5 < (Nat.cast (List.length a0) : Int)))) then bif ((List.getD a0 (Int.toNat v0_5) (0 : Int)) == a1) then some Bool.true
        else l15_0 L a0 a1 n (Go.IntKind.wrap Go.IntKind.i64 (v0_5 + (1 : Int))) k
      else none
    else k
theorem h15_0 (L : Nat) (a0 : (List Int)) (a1 : Int) (k : St cxT.ty → Option (V cxT.ty)) (xk : Nat → St cxT.ty → Option (V cxT.ty)) (k' : Option Bool) (hk : k (X15_0 a0 a1) = (k').map n15) : ∀ (n : Nat) (v0_5 : Int), headF prog ev15 L f15 0 [1, 0, 1, 0, 0] (outK (outV prog f15) k xk) n (S15_0 a0 a1 v0_5) = (l15_0 L a0 a1 n v0_5 k').map n15
  | 0, _ => rfl
  | n + 1, v0_5 => by
    rw [headF_round, r15_0]
    have ih := h15_0 L a0 a1 k xk k' hk n
    simp only [l15_0, map_bif, map_tst, Option.map_some, Option.map_none, ih, hk]
def g15 (L : Nat) (a0 : (List Int)) (a1 : Int) : Option Bool :=
  l15_0 L a0 a1 L (0 : Int) (some Bool.false)
theorem e15 (L : Nat) (a0 : (List Int)) (a1 : Int) : evF prog ev15 (loopN L) f15 (a15.enc (a0, a1)) = (g15 L a0 a1).map n15 := by
  let K'0 : Option Bool := (some Bool.false)
  have hin0 : ∀ (v0_5 : Int), headF prog ev15 L f15 0 [1, 0, 1, 0, 0] (outK (outV prog f15) (topK prog ev15 L f15 [1, 0, 1] (outV prog f15)).n (topK prog ev15 L f15 [1, 0, 1] (outV prog f15)).x) L (S15_0 a0 a1 v0_5) = (l15_0 L a0 a1 L v0_5 K'0).map n15 := fun v0_5 => h15_0 L a0 a1 _ _ K'0 (by rw [t15_0]; simp only [K'0, map_bif, map_tst, Option.map_some, Option.map_none]) L v0_5
  rw [i15]; simp only [g15, map_bif, map_tst, Option.map_some, Option.map_none, hin0, K'0]
theorem s15 (m : ((List Int) × Int) → Option Bool) (hm : ∀ (x : ((List Int) × Int)) t, m x = some t → ∃ L, g15 L x.1 x.2 = some t) : Sat prog cxT 15 (c15 m) :=
  sat_t cxT_ok cxT_pok (by rfl) (fn := f15) rfl a15 n15 dd15 m ev15 kok_nil kwok_nil (fun L x => g15 L x.1 x.2) (fun L x => e15 L x.1 x.2) hm hs15
/-! loop.example/g00222/laws.FnOrders -/
def ev3 (m11 : (List Int) → Option Bool) (m12 : (List Int) → Option Int) (m13 : Int → Option (Int × (List Int))) (m14 : Int → Option (Int × (List Int))) (m15 : ((List Int) × Int) → Option Bool) (m16 : Int → Option (Int × Int)) (m17 : Int → Option (Int × Int)) : Env cxT := { Kc := kcOf [(11, c11 m11), (12, c12 m12), (13, c13 m13), (14, c14 m14), (15, c15 m15), (16, c16 m16), (17, c17 m17)], Kw := kwOf [], lv := fun i => if i = 0 then [(3, []), (4, [none, some 2]), (5, [])] else [], xv := fun i => if i = 0 then some [(3, []), (4, [none, some 2])] else none }
def S3_0 (a0 : (List Int)) (v0_3 : Int) (v0_4_0 : Int) (v0_4_1 : (List Int)) (v0_5 : Int) : St cxT.ty := { slots := [junk, junk, junk, (.inl (.inl (lv (.int .i64 v0_3)))), (.inr (.inr { kind := 0, nm := 256, cells := [(lv (.int .i64 v0_4_0)), (ls { own := 1, nm := 258, e := 2, o := true, xs := v0_4_1 })], s := { own := 0, nm := 0, e := 0, o := false, xs := ([] : List (PUnit)) }, i := 0, off := 0 })), (.inl (.inl (lv (.int .i64 v0_5))))] ++ List.replicate 54 junk, D := [], F := [], ctr := 1 }
def X3_0 (a0 : (List Int)) (w0_3 : Int) (w0_4_0 : Int) (w0_4_1 : (List Int)) : St cxT.ty := { slots := [junk, junk, junk, (.inl (.inl (lv (.int .i64 w0_3)))), (.inr (.inr { kind := 0, nm := 256, cells := [(lv (.int .i64 w0_4_0)), (ls { own := 1, nm := 258, e := 2, o := true, xs := w0_4_1 })], s := { own := 0, nm := 0, e := 0, o := false, xs := ([] : List (PUnit)) }, i := 0, off := 0 }))] ++ List.replicate 55 junk, D := [], F := [], ctr := 1 }
theorem i3 (m11 : (List Int) → Option Bool) (m12 : (List Int) → Option Int) (m13 : Int → Option (Int × (List Int))) (m14 : Int → Option (Int × (List Int))) (m15 : ((List Int) × Int) → Option Bool) (m16 : Int → Option (Int × Int)) (m17 : Int → Option (Int × Int)) (L : Nat) (a0 : (List Int)) : evF prog (ev3 m11 m12 m13 m14 m15 m16 m17) (loopN L) f3 (a3.enc a0) =
  tst (m11 a0) false fun (q1 : Bool) => bif q1 then some (n3 Bool.true)
    else tst (m12 a0) (0 : Int) fun (q2 : Int) => tst (m13 q2) ((0 : Int), []) fun (q3 : (Int × (List Int))) => bif (q3.1 != (0 : Int)) then tst (m14 q2) ((0 : Int), []) fun (q5 : (Int × (List Int))) => some (n3 (q5.1 == q3.1))
        else headF prog (ev3 m11 m12 m13 m14 m15 m16 m17) L f3 0 [1, 1, 1, 1, 1, 0, 1, 0, 0] (outK (outV prog f3) (topK prog (ev3 m11 m12 m13 m14 m15 m16 m17) L f3 [1, 1, 1, 1, 1, 0, 1] (outV prog f3)).n (topK prog (ev3 m11 m12 m13 m14 m15 m16 m17) L f3 [1, 1, 1, 1, 1, 0, 1] (outV prog f3)).x) L (S3_0 a0 q2 q3.1 q3.2 (0 : Int)) := by kernel_rfl
theorem r3_0 (m11 : (List Int) → Option Bool) (m12 : (List Int) → Option Int) (m13 : Int → Option (Int × (List Int))) (m14 : Int → Option (Int × (List Int))) (m15 : ((List Int) × Int) → Option Bool) (m16 : Int → Option (Int × Int)) (m17 : Int → Option (Int × Int)) (L : Nat) (a0 : (List Int)) (k : St cxT.ty → Option (V cxT.ty)) (xk : Nat → St cxT.ty → Option (V cxT.ty)) (g : St cxT.ty → Option (V cxT.ty)) (v0_3 : Int) (v0_4_0 : Int) (v0_4_1 : (List Int)) (v0_5 : Int) : roundF prog (ev3 m11 m12 m13 m14 m15 m16 m17) L f3 0 [1, 1, 1, 1, 1, 0, 1, 0, 0] (outK (outV prog f3) k xk) g (S3_0 a0 v0_3 v0_4_0 v0_4_1 v0_5) =
  bif (decide (v0_5 < (31 : Int))) then tst (m15 (v0_4_1, v0_5)) false fun (q2 : Bool) => bif (!q2) then some (n3 Bool.false)
      else g (S3_0 a0 v0_3 v0_4_0 v0_4_1 (Go.IntKind.wrap Go.IntKind.i64 (v0_5 + (1 : Int))))
  else k (X3_0 a0 v0_3 v0_4_0 v0_4_1) := by kernel_rfl
theorem t3_0 (m11 : (List Int) → Option Bool) (m12 : (List Int) → Option Int) (m13 : Int → Option (Int × (List Int))) (m14 : Int → Option (Int × (List Int))) (m15 : ((List Int) × Int) → Option Bool) (m16 : Int → Option (Int × Int)) (m17 : Int → Option (Int × Int)) (L : Nat) (a0 : (List Int)) (w0_3 : Int) (w0_4_0 : Int) (w0_4_1 : (List Int)) : (topK prog (ev3 m11 m12 m13 m14 m15 m16 m17) L f3 [1, 1, 1, 1, 1, 0, 1] (outV prog f3)).n (X3_0 a0 w0_3 w0_4_0 w0_4_1) =
  bif ((Nat.cast (List.length w0_4_1) : Int) == (31 : Int)) then bif ((decide ((0 : Int) ≤ (0 : Int))) && (decide ((0 : Int) < (Nat.cast (List.length w0_4_1) : Int)))) then tst (m16 w0_3) ((0 : Int), (0 : Int)) fun (q3 : (Int × Int)) => bif ((List.getD w0_4_1 (0 : Nat) (0 : Int)) == q3.2) then bif ((decide ((0 : Int) ≤ (0 : Int))) && (decide ((0 : Int) < (Nat.cast (List.length w0_4_1) : Int)))) then tst (m17 w0_3) ((0 : Int), (0 : Int)) fun (q6 : (Int × Int)) => bif ((decide ((0 : Int) ≤ (1 : Int))) && (decide ((1 : Int) < (Nat.cast (List.length w0_4_1) : Int)))) then some (n3 ((Int.tmod (Go.IntKind.wrap Go.IntKind.i64 ((List.getD w0_4_1 (0 : Nat) (0 : Int)) + q6.2)) (31 : Int)) == (List.getD w0_4_1 (1 : Nat) (0 : Int))))
              else none
          else none
        else some (n3 Bool.false)
    else none
  else some (n3 Bool.false) := by kernel_rfl
def l3_0 (m11 : (List Int) → Option Bool) (m12 : (List Int) → Option Int) (m13 : Int → Option (Int × (List Int))) (m14 : Int → Option (Int × (List Int))) (m15 : ((List Int) × Int) → Option Bool) (m16 : Int → Option (Int × Int)) (m17 : Int → Option (Int × Int)) (L : Nat) (a0 : (List Int)) : Nat → Int → Int → (List Int) → Int → (Int → Int → (List Int) → Option Bool) → Option Bool
  | 0, _, _, _, _, _ => none
  | n + 1, v0_3, v0_4_0, v0_4_1, v0_5, k =>
    bif (decide (v0_5 < (31 : Int))) then tst (m15 (v0_4_1, v0_5)) false fun (q3 : Bool) => bif (!q3) then some Bool.false
        else l3_0 m11 m12 m13 m14 m15 m16 m17 L a0 n v0_3 v0_4_0 v0_4_1 (Go.IntKind.wrap Go.IntKind.i64 (v0_5 + (1 : Int))) k
    else k v0_3 v0_4_0 v0_4_1
theorem h3_0 (m11 : (List Int) → Option Bool) (m12 : (List Int) → Option Int) (m13 : Int → Option (Int × (List Int))) (m14 : Int → Option (Int × (List Int))) (m15 : ((List Int) × Int) → Option Bool) (m16 : Int → Option (Int × Int)) (m17 : Int → Option (Int × Int)) (L : Nat) (a0 : (List Int)) (k : St cxT.ty → Option (V cxT.ty)) (xk : Nat → St cxT.ty → Option (V cxT.ty)) (k' : Int → Int → (List Int) → Option Bool) (hk : ∀ (w0_3 : Int) (w0_4_0 : Int) (w0_4_1 : (List Int)), k (X3_0 a0 w0_3 w0_4_0 w0_4_1) = (k' w0_3 w0_4_0 w0_4_1).map n3) : ∀ (n : Nat) (v0_3 : Int) (v0_4_0 : Int) (v0_4_1 : (List Int)) (v0_5 : Int), headF prog (ev3 m11 m12 m13 m14 m15 m16 m17) L f3 0 [1, 1, 1, 1, 1, 0, 1, 0, 0] (outK (outV prog f3) k xk) n (S3_0 a0 v0_3 v0_4_0 v0_4_1 v0_5) = (l3_0 m11 m12 m13 m14 m15 m16 m17 L a0 n v0_3 v0_4_0 v0_4_1 v0_5 k').map n3
  | 0, _, _, _, _ => rfl
  | n + 1, v0_3, v0_4_0, v0_4_1, v0_5 => by
    rw [headF_round, r3_0]
    have ih := h3_0 m11 m12 m13 m14 m15 m16 m17 L a0 k xk k' hk n
    simp only [l3_0, map_bif, map_tst, Option.map_some, Option.map_none, ih, hk]
def g3 (m11 : (List Int) → Option Bool) (m12 : (List Int) → Option Int) (m13 : Int → Option (Int × (List Int))) (m14 : Int → Option (Int × (List Int))) (m15 : ((List Int) × Int) → Option Bool) (m16 : Int → Option (Int × Int)) (m17 : Int → Option (Int × Int)) (L : Nat) (a0 : (List Int)) : Option Bool :=
  tst (m11 a0) false fun (q1 : Bool) => bif q1 then some Bool.true
    else tst (m12 a0) (0 : Int) fun (q2 : Int) => tst (m13 q2) ((0 : Int), []) fun (q3 : (Int × (List Int))) => bif (q3.1 != (0 : Int)) then tst (m14 q2) ((0 : Int), []) fun (q5 : (Int × (List Int))) => some (q5.1 == q3.1)
        else l3_0 m11 m12 m13 m14 m15 m16 m17 L a0 L q2 q3.1 q3.2 (0 : Int) (fun (w0_3 : Int) (w0_4_0 : Int) (w0_4_1 : (List Int)) => bif ((Nat.cast (List.length w0_4_1) : Int) == (31 : Int)) then bif ((decide ((0 : Int) ≤ (0 : Int))) && (decide ((0 : Int) < (Nat.cast (List.length w0_4_1) : Int)))) then tst (m16 w0_3) ((0 : Int), (0 : Int)) fun (q7 : (Int × Int)) => bif ((List.getD w0_4_1 (0 : Nat) (0 : Int)) == q7.2) then bif ((decide ((0 : Int) ≤ (0 : Int))) && (decide ((0 : Int) < (Nat.cast (List.length w0_4_1) : Int)))) then tst (m17 w0_3) ((0 : Int), (0 : Int)) fun (q10 : (Int × Int)) => bif ((decide ((0 : Int) ≤ (1 : Int))) && (decide ((1 : Int) < (Nat.cast (List.length w0_4_1) : Int)))) then some ((Int.tmod (Go.IntKind.wrap Go.IntKind.i64 ((List.getD w0_4_1 (0 : Nat) (0 : Int)) + q10.2)) (31 : Int)) == (List.getD w0_4_1 (1 : Nat) (0 : Int)))
                      else none
                  else none
                else some Bool.false
            else none
          else some Bool.false)
theorem e3 (m11 : (List Int) → Option Bool) (m12 : (List Int) → Option Int) (m13 : Int → Option (Int × (List Int))) (m14 : Int → Option (Int × (List Int))) (m15 : ((List Int) × Int) → Option Bool) (m16 : Int → Option (Int × Int)) (m17 : Int → Option (Int × Int)) (L : Nat) (a0 : (List Int)) : evF prog (ev3 m11 m12 m13 m14 m15 m16 m17) (loopN L) f3 (a3.enc a0) = (g3 m11 m12 m13 m14 m15 m16 m17 L a0).map n3 := by
  let K'0 : Int → Int → (List Int) → Option Bool := (fun (w0_3 : Int) (w0_4_0 : Int) (w0_4_1 : (List Int)) => bif ((Nat.cast (List.length w0_4_1) : Int) == (31 : Int)) then bif ((decide ((0 : Int) ≤ (0 : Int))) && (decide ((0 : Int) < (Nat.cast (List.length w0_4_1) : Int)))) then tst (m16 w0_3) ((0 : Int), (0 : Int)) fun (q5 : (Int × Int)) => bif ((List.getD w0_4_1 (0 : Nat) (0 : Int)) == q5.2) then bif ((decide ((0 : Int) ≤ (0 : Int))) && (decide ((0 : Int) < (Nat.cast (List.length w0_4_1) : Int)))) then tst (m17 w0_3) ((0 : Int), (0 : Int)) fun (q8 : (Int × Int)) => bif ((decide ((0 : Int) ≤ (1 : Int))) && (decide ((1 : Int) < (Nat.cast (List.length w0_4_1) : Int)))) then some ((Int.tmod (Go.IntKind.wrap Go.IntKind.i64 ((List.getD w0_4_1 (0 : Nat) (0 : Int)) + q8.2)) (31 : Int)) == (List.getD w0_4_1 (1 : Nat) (0 : Int)))
                  else none
              else none
            else some Bool.false
        else none
      else some Bool.false)
  have hin0 : ∀ (v0_3 : Int) (v0_4_0 : Int) (v0_4_1 : (List Int)) (v0_5 : Int), headF prog (ev3 m11 m12 m13 m14 m15 m16 m17) L f3 0 [1, 1, 1, 1, 1, 0, 1, 0, 0] (outK (outV prog f3) (topK prog (ev3 m11 m12 m13 m14 m15 m16 m17) L f3 [1, 1, 1, 1, 1, 0, 1] (outV prog f3)).n (topK prog (ev3 m11 m12 m13 m14 m15 m16 m17) L f3 [1, 1, 1, 1, 1, 0, 1] (outV prog f3)).x) L (S3_0 a0 v0_3 v0_4_0 v0_4_1 v0_5) = (l3_0 m11 m12 m13 m14 m15 m16 m17 L a0 L v0_3 v0_4_0 v0_4_1 v0_5 K'0).map n3 := fun v0_3 v0_4_0 v0_4_1 v0_5 => h3_0 m11 m12 m13 m14 m15 m16 m17 L a0 _ _ K'0 (fun w0_3 w0_4_0 w0_4_1 => by rw [t3_0]; simp only [K'0, map_bif, map_tst, Option.map_some, Option.map_none]) L v0_3 v0_4_0 v0_4_1 v0_5
  rw [i3]; simp only [g3, map_bif, map_tst, Option.map_some, Option.map_none, hin0, K'0]
theorem s3 (m11 : (List Int) → Option Bool) (m12 : (List Int) → Option Int) (m13 : Int → Option (Int × (List Int))) (m14 : Int → Option (Int × (List Int))) (m15 : ((List Int) × Int) → Option Bool) (m16 : Int → Option (Int × Int)) (m17 : Int → Option (Int × Int)) (h11 : Sat prog cxT 11 (c11 m11)) (h12 : Sat prog cxT 12 (c12 m12)) (h13 : Sat prog cxT 13 (c13 m13)) (h14 : Sat prog cxT 14 (c14 m14)) (h15 : Sat prog cxT 15 (c15 m15)) (h16 : Sat prog cxT 16 (c16 m16)) (h17 : Sat prog cxT 17 (c17 m17)) (m : (List Int) → Option Bool) (hm : ∀ (x : (List Int)) t, m x = some t → ∃ L, g3 m11 m12 m13 m14 m15 m16 m17 L x = some t) : Sat prog cxT 3 (c3 m) :=
  sat_t cxT_ok cxT_pok (by rfl) (fn := f3) rfl a3 n3 dd3 m (ev3 m11 m12 m13 m14 m15 m16 m17) (kok_cons h11 (kok_cons h12 (kok_cons h13 (kok_cons h14 (kok_cons h15 (kok_cons h16 (kok_cons h17 kok_nil))))))) kwok_nil (fun L x => g3 m11 m12 m13 m14 m15 m16 m17 L x) (fun L x => e3 m11 m12 m13 m14 m15 m16 m17 L x) hm hs3
/-! loop.example/g00222/spec.l3DrawName -/
def ev36 (m42 : (List Int) → Option ((List Int) × Int)) (m61 : (((List Int) × Int) × Int) → Option (Int × (List Int) × Int)) (m60 : (((List Int) × Int) × (List Int)) → Option (Int × (List Int) × Int)) : Env cxT := { Kc := kcOf [], Kw := kwOf [(42, c42 m42), (61, c61 m61), (60, c60 m60)], lv := fun i => [], xv := fun i => none }
theorem i36 (m42 : (List Int) → Option ((List Int) × Int)) (m61 : (((List Int) × Int) × Int) → Option (Int × (List Int) × Int)) (m60 : (((List Int) × Int) × (List Int)) → Option (Int × (List Int) × Int)) (L : Nat) (a0 : (List Int)) : evF prog (ev36 m42 m61 m60) (loopN L) f36 (a36.enc a0) =
  tst (m42 a0) ([], (0 : Int)) fun (q1 : ((List Int) × Int)) => tst (m61 ((q1.1, q1.2), (40 : Int))) ((0 : Int), [], (0 : Int)) fun (q2 : (Int × (List Int) × Int)) => tst (m61 ((q2.2.1, q2.2.2), (999 : Int))) ((0 : Int), [], (0 : Int)) fun (q3 : (Int × (List Int) × Int)) => tst (m60 ((q3.2.1, q3.2.2), (List.cons (Go.IntKind.wrap Go.IntKind.i64 ((1 : Int) + q2.1)) (List.cons (Go.IntKind.wrap Go.IntKind.i64 ((1 : Int) + q3.1)) (List.cons (999 : Int) (List.cons (0 : Int) (List.cons (1000 : Int) (List.cons (-(1 : Int)) ([] : List (Int)))))))))) ((0 : Int), [], (0 : Int)) fun (q4 : (Int × (List Int) × Int)) => some (n36 q4.1) := by kernel_rfl
def g36 (m42 : (List Int) → Option ((List Int) × Int)) (m61 : (((List Int) × Int) × Int) → Option (Int × (List Int) × Int)) (m60 : (((List Int) × Int) × (List Int)) → Option (Int × (List Int) × Int)) (L : Nat) (a0 : (List Int)) : Option Int :=
  tst (m42 a0) ([], (0 : Int)) fun (q1 : ((List Int) × Int)) => tst (m61 ((q1.1, q1.2), (40 : Int))) ((0 : Int), [], (0 : Int)) fun (q2 : (Int × (List Int) × Int)) => tst (m61 ((q2.2.1, q2.2.2), (999 : Int))) ((0 : Int), [], (0 : Int)) fun (q3 : (Int × (List Int) × Int)) => tst (m60 ((q3.2.1, q3.2.2), (List.cons (Go.IntKind.wrap Go.IntKind.i64 ((1 : Int) + q2.1)) (List.cons (Go.IntKind.wrap Go.IntKind.i64 ((1 : Int) + q3.1)) (List.cons (999 : Int) (List.cons (0 : Int) (List.cons (1000 : Int) (List.cons (-(1 : Int)) ([] : List (Int)))))))))) ((0 : Int), [], (0 : Int)) fun (q4 : (Int × (List Int) × Int)) => some q4.1
theorem e36 (m42 : (List Int) → Option ((List Int) × Int)) (m61 : (((List Int) × Int) × Int) → Option (Int × (List Int) × Int)) (m60 : (((List Int) × Int) × (List Int)) → Option (Int × (List Int) × Int)) (L : Nat) (a0 : (List Int)) : evF prog (ev36 m42 m61 m60) (loopN L) f36 (a36.enc a0) = (g36 m42 m61 m60 L a0).map n36 := by
  rw [i36]; simp only [g36, map_bif, map_tst, Option.map_some, Option.map_none]
theorem s36 (m42 : (List Int) → Option ((List Int) × Int)) (m61 : (((List Int) × Int) × Int) → Option (Int × (List Int) × Int)) (m60 : (((List Int) × Int) × (List Int)) → Option (Int × (List Int) × Int)) (h42 : SatN prog cxT 42 (c42 m42).F) (h61 : SatP prog cxT 61 (c61 m61).nres (c61 m61).F) (h60 : SatP prog cxT 60 (c60 m60).nres (c60 m60).F) (m : (List Int) → Option Int) (hm : ∀ (x : (List Int)) t, m x = some t → ∃ L, g36 m42 m61 m60 L x = some t) : Sat prog cxT 36 (c36 m) :=
  sat_t cxT_ok cxT_pok (by rfl) (fn := f36) rfl a36 n36 dd36 m (ev36 m42 m61 m60) kok_nil (kwok_cons h42 (kwok_cons h61 (kwok_cons h60 kwok_nil))) (fun L x => g36 m42 m61 m60 L x) (fun L x => e36 m42 m61 m60 L x) hm hs36
/-! loop.example/g00222/spec.DrawPermutation -/
def ev12 (m36 : (List Int) → Option Int) : Env cxT := { Kc := kcOf [(36, c36 m36)], Kw := kwOf [], lv := fun i => [], xv := fun i => none }
theorem i12 (m36 : (List Int) → Option Int) (L : Nat) (a0 : (List Int)) : evF prog (ev12 m36) (loopN L) f12 (a12.enc a0) =
  tst (m36 a0) (0 : Int) fun (q1 : Int) => some (n12 q1) := by kernel_rfl
def g12 (m36 : (List Int) → Option Int) (L : Nat) (a0 : (List Int)) : Option Int :=
  tst (m36 a0) (0 : Int) fun (q1 : Int) => some q1
theorem e12 (m36 : (List Int) → Option Int) (L : Nat) (a0 : (List Int)) : evF prog (ev12 m36) (loopN L) f12 (a12.enc a0) = (g12 m36 L a0).map n12 := by
  rw [i12]; simp only [g12, map_bif, map_tst, Option.map_some, Option.map_none]
theorem s12 (m36 : (List Int) → Option Int) (h36 : Sat prog cxT 36 (c36 m36)) (m : (List Int) → Option Int) (hm : ∀ (x : (List Int)) t, m x = some t → ∃ L, g12 m36 L x = some t) : Sat prog cxT 12 (c12 m) :=
  sat_t cxT_ok cxT_pok (by rfl) (fn := f12) rfl a12 n12 dd12 m (ev12 m36) (kok_cons h36 kok_nil) kwok_nil (fun L x => g12 m36 L x) (fun L x => e12 m36 L x) hm hs12
end Go.Proofs.Try
