/- A part of the proof of FnExactTakeFrames: L1Fq, L1Pg, L1Ph. -/
import Derived.Test.YtggncacoajjjhaaL1Base
import Derived.Test.YtggncacoajjjhaaL1Fp
set_option maxHeartbeats 0
set_option linter.unusedVariables false
set_option linter.unusedSimpArgs false
namespace Go.Proofs.Try
open Go Go.VM Go.RowKit
/-! loop.example/g00222/impl.firstFrame -/
def ev53 (m16 : ((List Int) × Int × Int) → Option (Int × Int)) (m18 : (List Int) → Option Int) : Env cxT := { Kc := kcOf [(16, c16 m16), (18, c18 m18)], Kw := kwOf [], lv := fun i => [], xv := fun i => none }
theorem i53 (m16 : ((List Int) × Int × Int) → Option (Int × Int)) (m18 : (List Int) → Option Int) (L : Nat) (a0 : (List Int)) : evFR prog (ev53 m16 m18) (loopN L) f53 (a53.enc a0) =
  tst (m16 (a0, ((0 : Int), (2 : Int)))) ((0 : Int), (0 : Int)) fun (q1 : (Int × Int)) => tst (m16 (a0, ((2 : Int), (2 : Int)))) ((0 : Int), (0 : Int)) fun (q2 : (Int × Int)) => bif (q1.1 != (0 : Int)) then some (n53 (([] : List (Int)), Bool.false))
      else bif (q2.1 != (0 : Int)) then some (n53 (([] : List (Int)), Bool.false))
      else bif (decide (q1.2 > (250 : Int))) then some (n53 (([] : List (Int)), Bool.false))
      else bif (decide ((Go.IntKind.wrap Go.IntKind.i64 ((4 : Int) + q1.2)) > (Nat.cast (List.length a0) : Int))) then some (n53 (([] : List (Int)), Bool.false))
      else bif (((decide ((0 : Int) ≤ (4 : Int))) && (decide ((4 : Int) ≤ (Go.IntKind.wrap Go.IntKind.i64 ((4 : Int) + q1.2))))) && (decide ((Go.IntKind.wrap Go.IntKind.i64 ((4 : Int) + q1.2)) ≤ (Nat.cast (List.length a0) : Int)))) then tst (m18 (List.drop (Int.toNat (4 : Int)) (List.take (Int.toNat (Go.IntKind.wrap Go.IntKind.i64 ((4 : Int) + q1.2))) a0))) (0 : Int) fun (q4 : Int) => some (n53 ((List.drop (Int.toNat (4 : Int)) (List.take (Int.toNat (Go.IntKind.wrap Go.IntKind.i64 ((4 : Int) + q1.2))) a0)), (q4 == q2.2)))
      else none := by kernel_rfl
def g53 (m16 : ((List Int) × Int × Int) → Option (Int × Int)) (m18 : (List Int) → Option Int) (L : Nat) (a0 : (List Int)) : Option ((List Int) × Bool) :=
  tst (m16 (a0, ((0 : Int), (2 : Int)))) ((0 : Int), (0 : Int)) fun (q1 : (Int × Int)) => tst (m16 (a0, ((2 : Int), (2 : Int)))) ((0 : Int), (0 : Int)) fun (q2 : (Int × Int)) => bif (q1.1 != (0 : Int)) then some (([] : List (Int)), Bool.false)
      else bif (q2.1 != (0 : Int)) then some (([] : List (Int)), Bool.false)
      else bif (decide (q1.2 > (250 : Int))) then some (([] : List (Int)), Bool.false)
      else bif (decide ((Go.IntKind.wrap Go.IntKind.i64 ((4 : Int) + q1.2)) > (Nat.cast (List.length a0) : Int))) then some (([] : List (Int)), Bool.false)
      else bif (((decide ((0 : Int) ≤ (4 : Int))) && (decide ((4 : Int) ≤ (Go.IntKind.wrap Go.IntKind.i64 ((4 : Int) + q1.2))))) && (decide ((Go.IntKind.wrap Go.IntKind.i64 ((4 : Int) + q1.2)) ≤ (Nat.cast (List.length a0) : Int)))) then tst (m18 (List.drop (Int.toNat (4 : Int)) (List.take (Int.toNat (Go.IntKind.wrap Go.IntKind.i64 ((4 : Int) + q1.2))) a0))) (0 : Int) fun (q4 : Int) => some ((List.drop (Int.toNat (4 : Int)) (List.take (Int.toNat (Go.IntKind.wrap Go.IntKind.i64 ((4 : Int) + q1.2))) a0)), (q4 == q2.2))
      else none
theorem e53 (m16 : ((List Int) × Int × Int) → Option (Int × Int)) (m18 : (List Int) → Option Int) (L : Nat) (a0 : (List Int)) : evFR prog (ev53 m16 m18) (loopN L) f53 (a53.enc a0) = (g53 m16 m18 L a0).map n53 := by
  rw [i53]; simp only [g53, map_bif, map_tst, Option.map_some, Option.map_none]
theorem s53 (m16 : ((List Int) × Int × Int) → Option (Int × Int)) (m18 : (List Int) → Option Int) (h16 : Sat prog cxT 16 (c16 m16)) (h18 : Sat prog cxT 18 (c18 m18)) (m : (List Int) → Option ((List Int) × Bool)) (hm : ∀ (x : (List Int)) t, m x = some t → ∃ L, g53 m16 m18 L x = some t) : Sat prog cxT 53 (c53 m) :=
  sat_r cxT_ok cxT_pok (by rfl) (fn := f53) rfl a53 n53 dd53 m (ev53 m16 m18) (kok_cons h16 (kok_cons h18 kok_nil)) kwok_nil (fun L x => g53 m16 m18 L x) (fun L x => e53 m16 m18 L x) hm hs53
/-! loop.example/g00222/impl.TakeFrames -/
def ev25 (m53 : (List Int) → Option ((List Int) × Bool)) (m51 : (List (List Int)) → Option (List Int)) : Env cxT := { Kc := kcOf [(53, c53 m53), (51, c51 m51)], Kw := kwOf [], lv := fun i => if i = 0 then [(0, [some 5]), (2, [none, none, some 22]), (3, [some 22]), (4, [])] else [], xv := fun i => if i = 0 then some [(2, [none, none, some 22])] else none }
def S25_0 (a0 : (List Int)) (v0_2_0 : Int) (v0_2_1 : Int) (v0_2_2 : (List (List Int))) (v0_3 : (List (List Int))) (v0_4 : Int) : St cxT.ty := { slots := [(.inl (.inl (ls { own := 0, nm := 0, e := 5, o := false, xs := a0 }))), junk, (.inr (.inr { kind := 0, nm := 128, cells := [(lv (.int .i64 v0_2_0)), (lv (.int .i64 v0_2_1)), (ls { own := 1, nm := 131, e := 22, o := true, xs := v0_2_2 })], s := { own := 0, nm := 0, e := 0, o := false, xs := ([] : List (PUnit)) }, i := 0, off := 0 })), (.inl (.inl (ls { own := 1, nm := 192, e := 22, o := true, xs := v0_3 }))), (.inl (.inl (lv (.int .i64 v0_4))))] ++ List.replicate 29 junk, D := [], F := [], ctr := 1 }
theorem i25 (m53 : (List Int) → Option ((List Int) × Bool)) (m51 : (List (List Int)) → Option (List Int)) (L : Nat) (a0 : (List Int)) : evF prog (ev25 m53 m51) (loopN L) f25 (a25.enc a0) =
  bif (decide ((Nat.cast (List.length a0) : Int) > (600 : Int))) then some (n25 ((2 : Int), (0 : Int), ([] : List (List Int))))
  else headF prog (ev25 m53 m51) L f25 0 [1, 1, 1, 1, 0, 0] (outK (outV prog f25) (topK prog (ev25 m53 m51) L f25 [1, 1, 1, 1] (outV prog f25)).n (topK prog (ev25 m53 m51) L f25 [1, 1, 1, 1] (outV prog f25)).x) L (S25_0 a0 (0 : Int) (0 : Int) ([] : List (List Int)) ([] : List (List Int)) (0 : Int)) := by kernel_rfl
theorem r25_0 (m53 : (List Int) → Option ((List Int) × Bool)) (m51 : (List (List Int)) → Option (List Int)) (L : Nat) (a0 : (List Int)) (k : St cxT.ty → Option (V cxT.ty)) (xk : Nat → St cxT.ty → Option (V cxT.ty)) (g : St cxT.ty → Option (V cxT.ty)) (v0_2_0 : Int) (v0_2_1 : Int) (v0_2_2 : (List (List Int))) (v0_3 : (List (List Int))) (v0_4 : Int) : roundF prog (ev25 m53 m51) L f25 0 [1, 1, 1, 1, 0, 0] (outK (outV prog f25) k xk) g (S25_0 a0 v0_2_0 v0_2_1 v0_2_2 v0_3 v0_4) =
  bif (((decide ((0 : Int) ≤ v0_4)) && (decide (v0_4 ≤ (Nat.cast (List.length a0) : Int)))) && (decide ((Nat.cast (List.length a0) : Int) ≤ (Nat.cast (List.length a0) : Int)))) then tst (m53 (List.drop (Int.toNat v0_4) (List.take (Int.toNat (Nat.cast (List.length a0) : Int)) a0))) ([], false) fun (q2 : ((List Int) × Bool)) => bif (!q2.2) then some (n25 ((0 : Int), v0_4, v0_3))
      else tst (m51 (List.cons q2.1 ([] : List (List Int)))) [] fun (q3 : (List Int)) => bif (decide (((List.length v0_3) + (List.length (List.cons q3 ([] : List (List Int))))) ≤ (1000000000 : Nat))) then g (S25_0 a0 v0_2_0 v0_2_1 v0_2_2 (v0_3 ++ (List.cons q3 ([] : List (List Int)))) (Go.IntKind.wrap Go.IntKind.i64 (v0_4 + (Go.IntKind.wrap Go.IntKind.i64 ((4 : Int) + (Nat.cast (List.length q2.1) : Int))))))
        else none
  else none := by kernel_rfl
def l25_0 (m53 : (List Int) → Option ((List Int) × Bool)) (m51 : (List (List Int)) → Option (List Int)) (L : Nat) (a0 : (List Int)) : Nat → Int → Int → (List (List Int)) → (List (List Int)) → Int → (Option (Int × Int × (List (List Int)))) → Option (Int × Int × (List (List Int)))
  | 0, _, _, _, _, _, _ => none
  | n + 1, v0_2_0, v0_2_1, v0_2_2, v0_3, v0_4, k =>
    bif (((decide ((0 : Int) ≤ v0_4)) && (decide (v0_4 ≤ (Nat.cast (List.length a0) : Int)))) && (decide ((Nat.cast (List.length a0) : Int) ≤ (Nat.cast (List.length a0) : Int)))) then tst (m53 (List.drop (Int.toNat v0_4) (List.take (Int.toNat (Nat.cast (List.length a0) : Int)) a0))) ([], false) fun (q3 : ((List Int) × Bool)) => bif (!q3.2) then some ((0 : Int), v0_4, v0_3)
        else tst (m51 (List.cons q3.1 ([] : List (List Int)))) [] fun (q4 : (List Int)) => bif (decide (((List.length v0_3) + (List.length (List.cons q4 ([] : List (List Int))))) ≤ (1000000000 : Nat))) then l25_0 m53 m51 L a0 n v0_2_0 v0_2_1 v0_2_2 (v0_3 ++ (List.cons q4 ([] : List (List Int)))) (Go.IntKind.wrap Go.IntKind.i64 (v0_4 + (Go.IntKind.wrap Go.IntKind.i64 ((4 : Int) + (Nat.cast (List.length q3.1) : Int))))) k
          else none
    else none
theorem h25_0 (m53 : (List Int) → Option ((List Int) × Bool)) (m51 : (List (List Int)) → Option (List Int)) (L : Nat) (a0 : (List Int)) (k : St cxT.ty → Option (V cxT.ty)) (xk : Nat → St cxT.ty → Option (V cxT.ty)) (k' : Option (Int × Int × (List (List Int)))) : ∀ (n : Nat) (v0_2_0 : Int) (v0_2_1 : Int) (v0_2_2 : (List (List Int))) (v0_3 : (List (List Int))) (v0_4 : Int), headF prog (ev25 m53 m51) L f25 0 [1, 1, 1, 1, 0, 0] (outK (outV prog f25) k xk) n (S25_0 a0 v0_2_0 v0_2_1 v0_2_2 v0_3 v0_4) = (l25_0 m53 m51 L a0 n v0_2_0 v0_2_1 v0_2_2 v0_3 v0_4 k').map n25
  | 0, _, _, _, _, _ => rfl
  | n + 1, v0_2_0, v0_2_1, v0_2_2, v0_3, v0_4 => by
    rw [headF_round, r25_0]
    have ih := h25_0 m53 m51 L a0 k xk k' n
    simp only [l25_0, map_bif, map_tst, Option.map_some, Option.map_none, ih]
def g25 (m53 : (List Int) → Option ((List Int) × Bool)) (m51 : (List (List Int)) → Option (List Int)) (L : Nat) (a0 : (List Int)) : Option (Int × Int × (List (List Int))) :=
  bif (decide ((Nat.cast (List.length a0) : Int) > (600 : Int))) then some ((2 : Int), (0 : Int), ([] : List (List Int)))
  else l25_0 m53 m51 L a0 L (0 : Int) (0 : Int) ([] : List (List Int)) ([] : List (List Int)) (0 : Int) (none)
theorem e25 (m53 : (List Int) → Option ((List Int) × Bool)) (m51 : (List (List Int)) → Option (List Int)) (L : Nat) (a0 : (List Int)) : evF prog (ev25 m53 m51) (loopN L) f25 (a25.enc a0) = (g25 m53 m51 L a0).map n25 := by
  let K'0 : Option (Int × Int × (List (List Int))) := (none)
  have hin0 : ∀ (v0_2_0 : Int) (v0_2_1 : Int) (v0_2_2 : (List (List Int))) (v0_3 : (List (List Int))) (v0_4 : Int), headF prog (ev25 m53 m51) L f25 0 [1, 1, 1, 1, 0, 0] (outK (outV prog f25) (topK prog (ev25 m53 m51) L f25 [1, 1, 1, 1] (outV prog f25)).n (topK prog (ev25 m53 m51) L f25 [1, 1, 1, 1] (outV prog f25)).x) L (S25_0 a0 v0_2_0 v0_2_1 v0_2_2 v0_3 v0_4) = (l25_0 m53 m51 L a0 L v0_2_0 v0_2_1 v0_2_2 v0_3 v0_4 K'0).map n25 := fun v0_2_0 v0_2_1 v0_2_2 v0_3 v0_4 => h25_0 m53 m51 L a0 _ _ K'0  L v0_2_0 v0_2_1 v0_2_2 v0_3 v0_4
  rw [i25]; simp only [g25, map_bif, map_tst, Option.map_some, Option.map_none, hin0, K'0]
theorem s25 (m53 : (List Int) → Option ((List Int) × Bool)) (m51 : (List (List Int)) → Option (List Int)) (h53 : Sat prog cxT 53 (c53 m53)) (h51 : Sat prog cxT 51 (c51 m51)) (m : (List Int) → Option (Int × Int × (List (List Int)))) (hm : ∀ (x : (List Int)) t, m x = some t → ∃ L, g25 m53 m51 L x = some t) : Sat prog cxT 25 (c25 m) :=
  sat_t cxT_ok cxT_pok (by rfl) (fn := f25) rfl a25 n25 dd25 m (ev25 m53 m51) (kok_cons h53 (kok_cons h51 kok_nil)) kwok_nil (fun L x => g25 m53 m51 L x) (fun L x => e25 m53 m51 L x) hm hs25
/-! loop.example/g00222/laws.FnFrames -/
def ev5 (m12 : (List Int) → Option Bool) (m21 : (List Int) → Option (List Int)) (m22 : (List Int) → Option (Int × (List Int))) (m23 : (List Int) → Option (Int × (List Int))) (m24 : ((List Int) × Int × Int) → Option Int) (m25 : (List Int) → Option (Int × Int × (List (List Int)))) : Env cxT := { Kc := kcOf [(12, c12 m12), (21, c21 m21), (22, c22 m22), (23, c23 m23), (24, c24 m24), (25, c25 m25)], Kw := kwOf [], lv := fun i => if i = 0 then [(0, [some 5]), (3, [some 5]), (4, [some 22]), (5, [])] else if i = 2 then [(4, [some 22]), (9, [none, none, some 22]), (10, [none, none, some 22]), (11, [])] else [], xv := fun i => if i = 0 then some [(0, [some 5]), (3, [some 5]), (4, [some 22])] else if i = 2 then some [] else none }
def S5_0 (a0 : (List Int)) (v0_3 : (List Int)) (v0_4 : (List (List Int))) (v0_5 : Int) : St cxT.ty := { slots := [(.inl (.inl (ls { own := 0, nm := 0, e := 5, o := false, xs := a0 }))), junk, junk, (.inl (.inl (ls { own := 1, nm := 192, e := 5, o := true, xs := v0_3 }))), (.inl (.inl (ls { own := 1, nm := 256, e := 22, o := true, xs := v0_4 }))), (.inl (.inl (lv (.int .u8 v0_5))))] ++ List.replicate 125 junk, D := [], F := [], ctr := 1 }
def X5_0 (a0 : (List Int)) (w0_3 : (List Int)) (w0_4 : (List (List Int))) : St cxT.ty := { slots := [(.inl (.inl (ls { own := 0, nm := 0, e := 5, o := false, xs := a0 }))), junk, junk, (.inl (.inl (ls { own := 1, nm := 192, e := 5, o := true, xs := w0_3 }))), (.inl (.inl (ls { own := 1, nm := 256, e := 22, o := true, xs := w0_4 })))] ++ List.replicate 126 junk, D := [], F := [], ctr := 1 }
def S5_2 (a0 : (List Int)) (v2_4 : (List (List Int))) (v2_9_0 : Int) (v2_9_1 : Int) (v2_9_2 : (List (List Int))) (v2_10_0 : Int) (v2_10_1 : Int) (v2_10_2 : (List (List Int))) (v2_11 : Int) : St cxT.ty := { slots := [junk, junk, junk, junk, (.inl (.inl (ls { own := 1, nm := 256, e := 22, o := true, xs := v2_4 }))), junk, junk, junk, junk, (.inr (.inr { kind := 0, nm := 576, cells := [(lv (.int .i64 v2_9_0)), (lv (.int .i64 v2_9_1)), (ls { own := 1, nm := 579, e := 22, o := true, xs := v2_9_2 })], s := { own := 0, nm := 0, e := 0, o := false, xs := ([] : List (PUnit)) }, i := 0, off := 0 })), (.inr (.inr { kind := 0, nm := 640, cells := [(lv (.int .i64 v2_10_0)), (lv (.int .i64 v2_10_1)), (ls { own := 1, nm := 643, e := 22, o := true, xs := v2_10_2 })], s := { own := 0, nm := 0, e := 0, o := false, xs := ([] : List (PUnit)) }, i := 0, off := 0 })), (.inl (.inl (lv (.int .i64 v2_11))))] ++ List.replicate 119 junk, D := [], F := [], ctr := 1 }
def X5_2 (a0 : (List Int)) : St cxT.ty := { slots := [] ++ List.replicate 131 junk, D := [], F := [], ctr := 1 }
theorem i5 (m12 : (List Int) → Option Bool) (m21 : (List Int) → Option (List Int)) (m22 : (List Int) → Option (Int × (List Int))) (m23 : (List Int) → Option (Int × (List Int))) (m24 : ((List Int) × Int × Int) → Option Int) (m25 : (List Int) → Option (Int × Int × (List (List Int)))) (L : Nat) (a0 : (List Int)) : evF prog (ev5 m12 m21 m22 m23 m24 m25) (loopN L) f5 (a5.enc a0) =
  tst (m12 a0) false fun (q1 : Bool) => bif q1 then some (n5 Bool.true)
    else headF prog (ev5 m12 m21 m22 m23 m24 m25) L f5 0 [1, 1, 1, 1, 0, 1, 0, 0] (outK (outV prog f5) (topK prog (ev5 m12 m21 m22 m23 m24 m25) L f5 [1, 1, 1, 1, 0, 1] (outV prog f5)).n (topK prog (ev5 m12 m21 m22 m23 m24 m25) L f5 [1, 1, 1, 1, 0, 1] (outV prog f5)).x) L (S5_0 a0 ([] : List (Int)) ([] : List (List Int)) (0 : Int)) := by kernel_rfl
theorem r5_0 (m12 : (List Int) → Option Bool) (m21 : (List Int) → Option (List Int)) (m22 : (List Int) → Option (Int × (List Int))) (m23 : (List Int) → Option (Int × (List Int))) (m24 : ((List Int) × Int × Int) → Option Int) (m25 : (List Int) → Option (Int × Int × (List (List Int)))) (L : Nat) (a0 : (List Int)) (k : St cxT.ty → Option (V cxT.ty)) (xk : Nat → St cxT.ty → Option (V cxT.ty)) (g : St cxT.ty → Option (V cxT.ty)) (v0_3 : (List Int)) (v0_4 : (List (List Int))) (v0_5 : Int) : roundF prog (ev5 m12 m21 m22 m23 m24 m25) L f5 0 [1, 1, 1, 1, 0, 1, 0, 0] (outK (outV prog f5) k xk) g (S5_0 a0 v0_3 v0_4 v0_5) =
  bif (decide (v0_5 < (2 : Int))) then bif (decide (((List.length (List.cons v0_5 ([] : List (Int)))) + (List.length a0)) ≤ (1000000000 : Nat))) then tst (m21 ((List.cons v0_5 ([] : List (Int))) ++ a0)) [] fun (q3 : (List Int)) => tst (m22 q3) ((0 : Int), []) fun (q4 : (Int × (List Int))) => bif (q4.1 != (0 : Int)) then tst (m23 q3) ((0 : Int), []) fun (q6 : (Int × (List Int))) => bif (q6.1 != q4.1) then some (n5 Bool.false)
              else g (S5_0 a0 v0_3 v0_4 (Go.IntKind.wrap Go.IntKind.u8 (v0_5 + (1 : Int))))
          else bif (decide (((List.length v0_3) + (List.length q4.2)) ≤ (1000000000 : Nat))) then bif (decide (((List.length v0_4) + (List.length (List.cons q3 ([] : List (List Int))))) ≤ (1000000000 : Nat))) then g (S5_0 a0 (v0_3 ++ q4.2) (v0_4 ++ (List.cons q3 ([] : List (List Int)))) (Go.IntKind.wrap Go.IntKind.u8 (v0_5 + (1 : Int))))
            else none
          else none
    else none
  else k (X5_0 a0 v0_3 v0_4) := by kernel_rfl
theorem t5_0 (m12 : (List Int) → Option Bool) (m21 : (List Int) → Option (List Int)) (m22 : (List Int) → Option (Int × (List Int))) (m23 : (List Int) → Option (Int × (List Int))) (m24 : ((List Int) × Int × Int) → Option Int) (m25 : (List Int) → Option (Int × Int × (List (List Int)))) (L : Nat) (a0 : (List Int)) (w0_3 : (List Int)) (w0_4 : (List (List Int))) : (topK prog (ev5 m12 m21 m22 m23 m24 m25) L f5 [1, 1, 1, 1, 0, 1] (outV prog f5)).n (X5_0 a0 w0_3 w0_4) =
  tst (m24 (a0, ((1 : Int), (Go.IntKind.wrap Go.IntKind.i64 ((Nat.cast (List.length w0_3) : Int) + (1 : Int)))))) (0 : Int) fun (q1 : Int) => tst (m25 w0_3) ((0 : Int), (0 : Int), []) fun (q2 : (Int × Int × (List (List Int)))) => bif (((decide ((0 : Int) ≤ (0 : Int))) && (decide ((0 : Int) ≤ q1))) && (decide (q1 ≤ (Nat.cast (List.length w0_3) : Int)))) then tst (m25 (List.drop (Int.toNat (0 : Int)) (List.take (Int.toNat q1) w0_3))) ((0 : Int), (0 : Int), []) fun (q4 : (Int × Int × (List (List Int)))) => bif (q2.1 != (0 : Int)) then some (n5 Bool.false)
          else bif (q4.1 != (0 : Int)) then some (n5 Bool.false)
          else bif ((Nat.cast (List.length q2.2.2) : Int) != (Nat.cast (List.length w0_4) : Int)) then some (n5 Bool.false)
          else bif (q2.2.1 != (Nat.cast (List.length w0_3) : Int)) then some (n5 Bool.false)
          else bif (decide (q4.2.1 > q1)) then some (n5 Bool.false)
          else bif (decide ((Nat.cast (List.length q4.2.2) : Int) > (Nat.cast (List.length w0_4) : Int))) then some (n5 Bool.false)
          else headF prog (ev5 m12 m21 m22 m23 m24 m25) L f5 2 [1, 1, 1, 1, 1, 1, 1, 1, 1, 0, 1, 0, 0] (outK (outV prog f5) (topK prog (ev5 m12 m21 m22 m23 m24 m25) L f5 [1, 1, 1, 1, 1, 1, 1, 1, 1, 0, 1] (outV prog f5)).n (topK prog (ev5 m12 m21 m22 m23 m24 m25) L f5 [1, 1, 1, 1, 1, 1, 1, 1, 1, 0, 1] (outV prog f5)).x) L (S5_2 a0 w0_4 q2.1 q2.2.1 q2.2.2 q4.1 q4.2.1 q4.2.2 (0 : Int))
      else none := by kernel_rfl
theorem r5_2 (m12 : (List Int) → Option Bool) (m21 : (List Int) → Option (List Int)) (m22 : (List Int) → Option (Int × (List Int))) (m23 : (List Int) → Option (Int × (List Int))) (m24 : ((List Int) × Int × Int) → Option Int) (m25 : (List Int) → Option (Int × Int × (List (List Int)))) (L : Nat) (a0 : (List Int)) (k : St cxT.ty → Option (V cxT.ty)) (xk : Nat → St cxT.ty → Option (V cxT.ty)) (g : St cxT.ty → Option (V cxT.ty)) (v2_4 : (List (List Int))) (v2_9_0 : Int) (v2_9_1 : Int) (v2_9_2 : (List (List Int))) (v2_10_0 : Int) (v2_10_1 : Int) (v2_10_2 : (List (List Int))) (v2_11 : Int) : roundF prog (ev5 m12 m21 m22 m23 m24 m25) L f5 2 [1, 1, 1, 1, 1, 1, 1, 1, 1, 0, 1, 0, 0] (outK (outV prog f5) k xk) g (S5_2 a0 v2_4 v2_9_0 v2_9_1 v2_9_2 v2_10_0 v2_10_1 v2_10_2 v2_11) =
  bif (decide (v2_11 < (Nat.cast (List.length v2_4) : Int))) then bif ((decide ((0 : Int) ≤ v2_11)) && (decide (v2_11 < (Nat.cast (List.length v2_9_2) : Int)))) then bif ((decide ((0 : Int) ≤ v2_11)) && (decide (v2_11 < (Nat.cast (List.length v2_4) : Int)))) then bif (!((ByteArray.toList (strV (flatVals cxT (5 : Nat) (List.getD v2_9_2 (Int.toNat v2_11) ([] : List (Int)))))) == (ByteArray.toList (strV (flatVals cxT (5 : Nat) (List.getD v2_4 (Int.toNat v2_11) ([] : List (Int)))))))) then some (n5 Bool.false)
        else bif (decide (v2_11 < (Nat.cast (List.length v2_10_2) : Int))) then bif ((decide ((0 : Int) ≤ v2_11)) && (decide (v2_11 < (Nat.cast (List.length v2_10_2) : Int)))) then bif ((decide ((0 : Int) ≤ v2_11)) && (decide (v2_11 < (Nat.cast (List.length v2_4) : Int)))) then bif (!((ByteArray.toList (strV (flatVals cxT (5 : Nat) (List.getD v2_10_2 (Int.toNat v2_11) ([] : List (Int)))))) == (ByteArray.toList (strV (flatVals cxT (5 : Nat) (List.getD v2_4 (Int.toNat v2_11) ([] : List (Int)))))))) then some (n5 Bool.false)
              else g (S5_2 a0 v2_4 v2_9_0 v2_9_1 v2_9_2 v2_10_0 v2_10_1 v2_10_2 (Go.IntKind.wrap Go.IntKind.i64 (v2_11 + (1 : Int))))
            else none
          else none
        else g (S5_2 a0 v2_4 v2_9_0 v2_9_1 v2_9_2 v2_10_0 v2_10_1 v2_10_2 (Go.IntKind.wrap Go.IntKind.i64 (v2_11 + (1 : Int))))
      else none
    else none
  else k (X5_2 a0) := by kernel_rfl
theorem t5_2 (m12 : (List Int) → Option Bool) (m21 : (List Int) → Option (List Int)) (m22 : (List Int) → Option (Int × (List Int))) (m23 : (List Int) → Option (Int × (List Int))) (m24 : ((List Int) × Int × Int) → Option Int) (m25 : (List Int) → Option (Int × Int × (List (List Int)))) (L : Nat) (a0 : (List Int)) : (topK prog (ev5 m12 m21 m22 m23 m24 m25) L f5 [1, 1, 1, 1, 1, 1, 1, 1, 1, 0, 1] (outV prog f5)).n (X5_2 a0) =
  some (n5 Bool.true) := by kernel_rfl
def l5_2 (m12 : (List Int) → Option Bool) (m21 : (List Int) → Option (List Int)) (m22 : (List Int) → Option (Int × (List Int))) (m23 : (List Int) → Option (Int × (List Int))) (m24 : ((List Int) × Int × Int) → Option Int) (m25 : (List Int) → Option (Int × Int × (List (List Int)))) (L : Nat) (a0 : (List Int)) : Nat → (List (List Int)) → Int → Int → (List (List Int)) → Int → Int → (List (List Int)) → Int → (Option Bool) → Option Bool
  | 0, _, _, _, _, _, _, _, _, _ => none
  | n + 1, v2_4, v2_9_0, v2_9_1, v2_9_2, v2_10_0, v2_10_1, v2_10_2, v2_11, k =>
    bif (decide (v2_11 < (Nat.cast (List.length v2_4) : Int))) then bif ((decide ((0 : Int) ≤ v2_11)) && (decide (v2_11 < (Nat.cast (List.length v2_9_2) : Int)))) then bif ((decide ((0 : Int) ≤ v2_11)) && (decide (v2_11 < (Nat.cast (List.length v2_4) : Int)))) then bif (!((ByteArray.toList (strV (flatVals cxT (5 : Nat) (List.getD v2_9_2 (Int.toNat v2_11) ([] : List (Int)))))) == (ByteArray.toList (strV (flatVals cxT (5 : Nat) (List.getD v2_4 (Int.toNat v2_11) ([] : List (Int)))))))) then some Bool.false
          else bif (decide (v2_11 < (Nat.cast (List.length v2_10_2) : Int))) then bif ((decide ((0 : Int) ≤ v2_11)) && (decide (v2_11 < (Nat.cast (List.length v2_10_2) : Int)))) then bif ((decide ((0 : Int) ≤ v2_11)) && (decide (v2_11 < (Nat.cast (List.length v2_4) : Int)))) then bif (!((ByteArray.toList (strV (flatVals cxT (5 : Nat) (List.getD v2_10_2 (Int.toNat v2_11) ([] : List (Int)))))) == (ByteArray.toList (strV (flatVals cxT (5 : Nat) (List.getD v2_4 (Int.toNat v2_11) ([] : List (Int)))))))) then some Bool.false
                else l5_2 m12 m21 m22 m23 m24 m25 L a0 n v2_4 v2_9_0 v2_9_1 v2_9_2 v2_10_0 v2_10_1 v2_10_2 (Go.IntKind.wrap Go.IntKind.i64 (v2_11 + (1 : Int))) k
              else none
            else none
          else l5_2 m12 m21 m22 m23 m24 m25 L a0 n v2_4 v2_9_0 v2_9_1 v2_9_2 v2_10_0 v2_10_1 v2_10_2 (Go.IntKind.wrap Go.IntKind.i64 (v2_11 + (1 : Int))) k
        else none
      else none
    else k
theorem h5_2 (m12 : (List Int) → Option Bool) (m21 : (List Int) → Option (List Int)) (m22 : (List Int) → Option (Int × (List Int))) (m23 : (List Int) → Option (Int × (List Int))) (m24 : ((List Int) × Int × Int) → Option Int) (m25 : (List Int) → Option (Int × Int × (List (List Int)))) (L : Nat) (a0 : (List Int)) (k : St cxT.ty → Option (V cxT.ty)) (xk : Nat → St cxT.ty → Option (V cxT.ty)) (k' : Option Bool) (hk : k (X5_2 a0) = (k').map n5) : ∀ (n : Nat) (v2_4 : (List (List Int))) (v2_9_0 : Int) (v2_9_1 : Int) (v2_9_2 : (List (List Int))) (v2_10_0 : Int) (v2_10_1 : Int) (v2_10_2 : (List (List Int))) (v2_11 : Int), headF prog (ev5 m12 m21 m22 m23 m24 m25) L f5 2 [1, 1, 1, 1, 1, 1, 1, 1, 1, 0, 1, 0, 0] (outK (outV prog f5) k xk) n (S5_2 a0 v2_4 v2_9_0 v2_9_1 v2_9_2 v2_10_0 v2_10_1 v2_10_2 v2_11) = (l5_2 m12 m21 m22 m23 m24 m25 L a0 n v2_4 v2_9_0 v2_9_1 v2_9_2 v2_10_0 v2_10_1 v2_10_2 v2_11 k').map n5
  | 0, _, _, _, _, _, _, _, _ => rfl
  | n + 1, v2_4, v2_9_0, v2_9_1, v2_9_2, v2_10_0, v2_10_1, v2_10_2, v2_11 => by
    rw [headF_round, r5_2]
    have ih := h5_2 m12 m21 m22 m23 m24 m25 L a0 k xk k' hk n
    simp only [l5_2, map_bif, map_tst, Option.map_some, Option.map_none, ih, hk]
def l5_0 (m12 : (List Int) → Option Bool) (m21 : (List Int) → Option (List Int)) (m22 : (List Int) → Option (Int × (List Int))) (m23 : (List Int) → Option (Int × (List Int))) (m24 : ((List Int) × Int × Int) → Option Int) (m25 : (List Int) → Option (Int × Int × (List (List Int)))) (L : Nat) (a0 : (List Int)) : Nat → (List Int) → (List (List Int)) → Int → ((List Int) → (List (List Int)) → Option Bool) → Option Bool
  | 0, _, _, _, _ => none
  | n + 1, v0_3, v0_4, v0_5, k =>
    bif (decide (v0_5 < (2 : Int))) then bif (decide (((List.length (List.cons v0_5 ([] : List (Int)))) + (List.length a0)) ≤ (1000000000 : Nat))) then tst (m21 ((List.cons v0_5 ([] : List (Int))) ++ a0)) [] fun (q4 : (List Int)) => tst (m22 q4) ((0 : Int), []) fun (q5 : (Int × (List Int))) => bif (q5.1 != (0 : Int)) then tst (m23 q4) ((0 : Int), []) fun (q7 : (Int × (List Int))) => bif (q7.1 != q5.1) then some Bool.false
                else l5_0 m12 m21 m22 m23 m24 m25 L a0 n v0_3 v0_4 (Go.IntKind.wrap Go.IntKind.u8 (v0_5 + (1 : Int))) k
            else bif (decide (((List.length v0_3) + (List.length q5.2)) ≤ (1000000000 : Nat))) then bif (decide (((List.length v0_4) + (List.length (List.cons q4 ([] : List (List Int))))) ≤ (1000000000 : Nat))) then l5_0 m12 m21 m22 m23 m24 m25 L a0 n (v0_3 ++ q5.2) (v0_4 ++ (List.cons q4 ([] : List (List Int)))) (Go.IntKind.wrap Go.IntKind.u8 (v0_5 + (1 : Int))) k
              else none
            else none
      else none
    else k v0_3 v0_4
theorem h5_0 (m12 : (List Int) → Option Bool) (m21 : (List Int) → Option (List Int)) (m22 : (List Int) → Option (Int × (List Int))) (m23 : (List Int) → Option (Int × (List Int))) (m24 : ((List Int) × Int × Int) → Option Int) (m25 : (List Int) → Option (Int × Int × (List (List Int)))) (L : Nat) (a0 : (List Int)) (k : St cxT.ty → Option (V cxT.ty)) (xk : Nat → St cxT.ty → Option (V cxT.ty)) (k' : (List Int) → (List (List Int)) → Option Bool) (hk : ∀ (w0_3 : (List Int)) (w0_4 : (List (List Int))), k (X5_0 a0 w0_3 w0_4) = (k' w0_3 w0_4).map n5) : ∀ (n : Nat) (v0_3 : (List Int)) (v0_4 : (List (List Int))) (v0_5 : Int), headF prog (ev5 m12 m21 m22 m23 m24 m25) L f5 0 [1, 1, 1, 1, 0, 1, 0, 0] (outK (outV prog f5) k xk) n (S5_0 a0 v0_3 v0_4 v0_5) = (l5_0 m12 m21 m22 m23 m24 m25 L a0 n v0_3 v0_4 v0_5 k').map n5
  | 0, _, _, _ => rfl
  | n + 1, v0_3, v0_4, v0_5 => by
    rw [headF_round, r5_0]
    have ih := h5_0 m12 m21 m22 m23 m24 m25 L a0 k xk k' hk n
    simp only [l5_0, map_bif, map_tst, Option.map_some, Option.map_none, ih, hk]
def g5 (m12 : (List Int) → Option Bool) (m21 : (List Int) → Option (List Int)) (m22 : (List Int) → Option (Int × (List Int))) (m23 : (List Int) → Option (Int × (List Int))) (m24 : ((List Int) × Int × Int) → Option Int) (m25 : (List Int) → Option (Int × Int × (List (List Int)))) (L : Nat) (a0 : (List Int)) : Option Bool :=
  tst (m12 a0) false fun (q1 : Bool) => bif q1 then some Bool.true
    else l5_0 m12 m21 m22 m23 m24 m25 L a0 L ([] : List (Int)) ([] : List (List Int)) (0 : Int) (fun (w0_3 : (List Int)) (w0_4 : (List (List Int))) => tst (m24 (a0, ((1 : Int), (Go.IntKind.wrap Go.IntKind.i64 ((Nat.cast (List.length w0_3) : Int) + (1 : Int)))))) (0 : Int) fun (q3 : Int) => tst (m25 w0_3) ((0 : Int), (0 : Int), []) fun (q4 : (Int × Int × (List (List Int)))) => bif (((decide ((0 : Int) ≤ (0 : Int))) && (decide ((0 : Int) ≤ q3))) && (decide (q3 ≤ (Nat.cast (List.length w0_3) : Int)))) then tst (m25 (List.drop (Int.toNat (0 : Int)) (List.take (Int.toNat q3) w0_3))) ((0 : Int), (0 : Int), []) fun (q6 : (Int × Int × (List (List Int)))) => bif (q4.1 != (0 : Int)) then some Bool.false
              else bif (q6.1 != (0 : Int)) then some Bool.false
              else bif ((Nat.cast (List.length q4.2.2) : Int) != (Nat.cast (List.length w0_4) : Int)) then some Bool.false
              else bif (q4.2.1 != (Nat.cast (List.length w0_3) : Int)) then some Bool.false
              else bif (decide (q6.2.1 > q3)) then some Bool.false
              else bif (decide ((Nat.cast (List.length q6.2.2) : Int) > (Nat.cast (List.length w0_4) : Int))) then some Bool.false
              else l5_2 m12 m21 m22 m23 m24 m25 L a0 L w0_4 q4.1 q4.2.1 q4.2.2 q6.1 q6.2.1 q6.2.2 (0 : Int) (some Bool.true)
          else none)
theorem e5 (m12 : (List Int) → Option Bool) (m21 : (List Int) → Option (List Int)) (m22 : (List Int) → Option (Int × (List Int))) (m23 : (List Int) → Option (Int × (List Int))) (m24 : ((List Int) × Int × Int) → Option Int) (m25 : (List Int) → Option (Int × Int × (List (List Int)))) (L : Nat) (a0 : (List Int)) : evF prog (ev5 m12 m21 m22 m23 m24 m25) (loopN L) f5 (a5.enc a0) = (g5 m12 m21 m22 m23 m24 m25 L a0).map n5 := by
  let K'2 : Option Bool := (some Bool.true)
  have hin2 : ∀ (v2_4 : (List (List Int))) (v2_9_0 : Int) (v2_9_1 : Int) (v2_9_2 : (List (List Int))) (v2_10_0 : Int) (v2_10_1 : Int) (v2_10_2 : (List (List Int))) (v2_11 : Int), headF prog (ev5 m12 m21 m22 m23 m24 m25) L f5 2 [1, 1, 1, 1, 1, 1, 1, 1, 1, 0, 1, 0, 0] (outK (outV prog f5) (topK prog (ev5 m12 m21 m22 m23 m24 m25) L f5 [1, 1, 1, 1, 1, 1, 1, 1, 1, 0, 1] (outV prog f5)).n (topK prog (ev5 m12 m21 m22 m23 m24 m25) L f5 [1, 1, 1, 1, 1, 1, 1, 1, 1, 0, 1] (outV prog f5)).x) L (S5_2 a0 v2_4 v2_9_0 v2_9_1 v2_9_2 v2_10_0 v2_10_1 v2_10_2 v2_11) = (l5_2 m12 m21 m22 m23 m24 m25 L a0 L v2_4 v2_9_0 v2_9_1 v2_9_2 v2_10_0 v2_10_1 v2_10_2 v2_11 K'2).map n5 := fun v2_4 v2_9_0 v2_9_1 v2_9_2 v2_10_0 v2_10_1 v2_10_2 v2_11 => h5_2 m12 m21 m22 m23 m24 m25 L a0 _ _ K'2 (by rw [t5_2]; simp only [K'2, map_bif, map_tst, Option.map_some, Option.map_none]) L v2_4 v2_9_0 v2_9_1 v2_9_2 v2_10_0 v2_10_1 v2_10_2 v2_11
  let K'0 : (List Int) → (List (List Int)) → Option Bool := (fun (w0_3 : (List Int)) (w0_4 : (List (List Int))) => tst (m24 (a0, ((1 : Int), (Go.IntKind.wrap Go.IntKind.i64 ((Nat.cast (List.length w0_3) : Int) + (1 : Int)))))) (0 : Int) fun (q3 : Int) => tst (m25 w0_3) ((0 : Int), (0 : Int), []) fun (q4 : (Int × Int × (List (List Int)))) => bif (((decide ((0 : Int) ≤ (0 : Int))) && (decide ((0 : Int) ≤ q3))) && (decide (q3 ≤ (Nat.cast (List.length w0_3) : Int)))) then tst (m25 (List.drop (Int.toNat (0 : Int)) (List.take (Int.toNat q3) w0_3))) ((0 : Int), (0 : Int), []) fun (q6 : (Int × Int × (List (List Int)))) => bif (q4.1 != (0 : Int)) then some Bool.false
              else bif (q6.1 != (0 : Int)) then some Bool.false
              else bif ((Nat.cast (List.length q4.2.2) : Int) != (Nat.cast (List.length w0_4) : Int)) then some Bool.false
              else bif (q4.2.1 != (Nat.cast (List.length w0_3) : Int)) then some Bool.false
              else bif (decide (q6.2.1 > q3)) then some Bool.false
              else bif (decide ((Nat.cast (List.length q6.2.2) : Int) > (Nat.cast (List.length w0_4) : Int))) then some Bool.false
              else l5_2 m12 m21 m22 m23 m24 m25 L a0 L w0_4 q4.1 q4.2.1 q4.2.2 q6.1 q6.2.1 q6.2.2 (0 : Int) (some Bool.true)
          else none)
  have hin0 : ∀ (v0_3 : (List Int)) (v0_4 : (List (List Int))) (v0_5 : Int), headF prog (ev5 m12 m21 m22 m23 m24 m25) L f5 0 [1, 1, 1, 1, 0, 1, 0, 0] (outK (outV prog f5) (topK prog (ev5 m12 m21 m22 m23 m24 m25) L f5 [1, 1, 1, 1, 0, 1] (outV prog f5)).n (topK prog (ev5 m12 m21 m22 m23 m24 m25) L f5 [1, 1, 1, 1, 0, 1] (outV prog f5)).x) L (S5_0 a0 v0_3 v0_4 v0_5) = (l5_0 m12 m21 m22 m23 m24 m25 L a0 L v0_3 v0_4 v0_5 K'0).map n5 := fun v0_3 v0_4 v0_5 => h5_0 m12 m21 m22 m23 m24 m25 L a0 _ _ K'0 (fun w0_3 w0_4 => by rw [t5_0]; simp only [K'0, map_bif, map_tst, Option.map_some, Option.map_none, hin2, K'2]) L v0_3 v0_4 v0_5
  rw [i5]; simp only [g5, map_bif, map_tst, Option.map_some, Option.map_none, hin2, K'2, hin0, K'0]
theorem s5 (m12 : (List Int) → Option Bool) (m21 : (List Int) → Option (List Int)) (m22 : (List Int) → Option (Int × (List Int))) (m23 : (List Int) → Option (Int × (List Int))) (m24 : ((List Int) × Int × Int) → Option Int) (m25 : (List Int) → Option (Int × Int × (List (List Int)))) (h12 : Sat prog cxT 12 (c12 m12)) (h21 : Sat prog cxT 21 (c21 m21)) (h22 : Sat prog cxT 22 (c22 m22)) (h23 : Sat prog cxT 23 (c23 m23)) (h24 : Sat prog cxT 24 (c24 m24)) (h25 : Sat prog cxT 25 (c25 m25)) (m : (List Int) → Option Bool) (hm : ∀ (x : (List Int)) t, m x = some t → ∃ L, g5 m12 m21 m22 m23 m24 m25 L x = some t) : Sat prog cxT 5 (c5 m) :=
  sat_t cxT_ok cxT_pok (by rfl) (fn := f5) rfl a5 n5 dd5 m (ev5 m12 m21 m22 m23 m24 m25) (kok_cons h12 (kok_cons h21 (kok_cons h22 (kok_cons h23 (kok_cons h24 (kok_cons h25 kok_nil)))))) kwok_nil (fun L x => g5 m12 m21 m22 m23 m24 m25 L x) (fun L x => e5 m12 m21 m22 m23 m24 m25 L x) hm hs5
/-! loop.example/g00222/spec.DrawPutFrame -/
def ev21 (m39 : (List Int) → Option ((List Int) × Int)) (m43 : (((List Int) × Int) × Int) → Option (Int × (List Int) × Int)) (m40 : (((List Int) × Int) × (List Int)) → Option (Int × (List Int) × Int)) (m49 : (((List Int) × Int) × Int) → Option ((List Int) × (List Int) × Int)) : Env cxT := { Kc := kcOf [], Kw := kwOf [(39, c39 m39), (43, c43 m43), (40, c40 m40), (49, c49 m49)], lv := fun i => [], xv := fun i => none }
theorem i21 (m39 : (List Int) → Option ((List Int) × Int)) (m43 : (((List Int) × Int) × Int) → Option (Int × (List Int) × Int)) (m40 : (((List Int) × Int) × (List Int)) → Option (Int × (List Int) × Int)) (m49 : (((List Int) × Int) × Int) → Option ((List Int) × (List Int) × Int)) (L : Nat) (a0 : (List Int)) : evF prog (ev21 m39 m43 m40 m49) (loopN L) f21 (a21.enc a0) =
  tst (m39 a0) ([], (0 : Int)) fun (q1 : ((List Int) × Int)) => tst (m43 ((q1.1, q1.2), (9 : Int))) ((0 : Int), [], (0 : Int)) fun (q2 : (Int × (List Int) × Int)) => tst (m43 ((q2.2.1, q2.2.2), (40 : Int))) ((0 : Int), [], (0 : Int)) fun (q3 : (Int × (List Int) × Int)) => tst (m40 ((q3.2.1, q3.2.2), (List.cons q2.1 (List.cons q3.1 (List.cons (0 : Int) (List.cons (250 : Int) (List.cons (251 : Int) ([] : List (Int))))))))) ((0 : Int), [], (0 : Int)) fun (q4 : (Int × (List Int) × Int)) => tst (m49 ((q4.2.1, q4.2.2), q4.1)) ([], [], (0 : Int)) fun (q5 : ((List Int) × (List Int) × Int)) => some (n21 q5.1) := by kernel_rfl
def g21 (m39 : (List Int) → Option ((List Int) × Int)) (m43 : (((List Int) × Int) × Int) → Option (Int × (List Int) × Int)) (m40 : (((List Int) × Int) × (List Int)) → Option (Int × (List Int) × Int)) (m49 : (((List Int) × Int) × Int) → Option ((List Int) × (List Int) × Int)) (L : Nat) (a0 : (List Int)) : Option (List Int) :=
  tst (m39 a0) ([], (0 : Int)) fun (q1 : ((List Int) × Int)) => tst (m43 ((q1.1, q1.2), (9 : Int))) ((0 : Int), [], (0 : Int)) fun (q2 : (Int × (List Int) × Int)) => tst (m43 ((q2.2.1, q2.2.2), (40 : Int))) ((0 : Int), [], (0 : Int)) fun (q3 : (Int × (List Int) × Int)) => tst (m40 ((q3.2.1, q3.2.2), (List.cons q2.1 (List.cons q3.1 (List.cons (0 : Int) (List.cons (250 : Int) (List.cons (251 : Int) ([] : List (Int))))))))) ((0 : Int), [], (0 : Int)) fun (q4 : (Int × (List Int) × Int)) => tst (m49 ((q4.2.1, q4.2.2), q4.1)) ([], [], (0 : Int)) fun (q5 : ((List Int) × (List Int) × Int)) => some q5.1
theorem e21 (m39 : (List Int) → Option ((List Int) × Int)) (m43 : (((List Int) × Int) × Int) → Option (Int × (List Int) × Int)) (m40 : (((List Int) × Int) × (List Int)) → Option (Int × (List Int) × Int)) (m49 : (((List Int) × Int) × Int) → Option ((List Int) × (List Int) × Int)) (L : Nat) (a0 : (List Int)) : evF prog (ev21 m39 m43 m40 m49) (loopN L) f21 (a21.enc a0) = (g21 m39 m43 m40 m49 L a0).map n21 := by
  rw [i21]; simp only [g21, map_bif, map_tst, Option.map_some, Option.map_none]
theorem s21 (m39 : (List Int) → Option ((List Int) × Int)) (m43 : (((List Int) × Int) × Int) → Option (Int × (List Int) × Int)) (m40 : (((List Int) × Int) × (List Int)) → Option (Int × (List Int) × Int)) (m49 : (((List Int) × Int) × Int) → Option ((List Int) × (List Int) × Int)) (h39 : SatN prog cxT 39 (c39 m39).F) (h43 : SatP prog cxT 43 (c43 m43).nres (c43 m43).F) (h40 : SatP prog cxT 40 (c40 m40).nres (c40 m40).F) (h49 : SatP prog cxT 49 (c49 m49).nres (c49 m49).F) (m : (List Int) → Option (List Int)) (hm : ∀ (x : (List Int)) t, m x = some t → ∃ L, g21 m39 m43 m40 m49 L x = some t) : Sat prog cxT 21 (c21 m) :=
  sat_t cxT_ok cxT_pok (by rfl) (fn := f21) rfl a21 n21 dd21 m (ev21 m39 m43 m40 m49) kok_nil (kwok_cons h39 (kwok_cons h43 (kwok_cons h40 (kwok_cons h49 kwok_nil)))) (fun L x => g21 m39 m43 m40 m49 L x) (fun L x => e21 m39 m43 m40 m49 L x) hm hs21
/-! loop.example/g00222/laws.lwAt -/
def ev24 : Env cxT := { Kc := kcOf [], Kw := kwOf [], lv := fun i => [], xv := fun i => none }
theorem i24 (L : Nat) (a0 : (List Int)) (a1 : Int) (a2 : Int) : evF prog ev24 (loopN L) f24 (a24.enc (a0, a1, a2)) =
  bif (decide (a2 ≤ (1 : Int))) then some (n24 (0 : Int))
  else bif ((Nat.cast (List.length a0) : Int) == (0 : Int)) then bif (a2 == (0 : Int)) then none
    else some (n24 (Int.tmod (Go.IntKind.wrap Go.IntKind.i64 (a1 * (7 : Int))) a2))
  else bif ((Nat.cast (List.length a0) : Int) == (0 : Int)) then none
  else bif ((decide ((0 : Int) ≤ (Int.tmod a1 (Nat.cast (List.length a0) : Int)))) && (decide ((Int.tmod a1 (Nat.cast (List.length a0) : Int)) < (Nat.cast (List.length a0) : Int)))) then bif ((Nat.cast (List.length a0) : Int) == (0 : Int)) then none
    else bif (decide (a2 > (200 : Int))) then bif ((Nat.cast (List.length a0) : Int) == (0 : Int)) then none
      else bif ((decide ((0 : Int) ≤ (Int.tmod (Go.IntKind.wrap Go.IntKind.i64 (a1 + (1 : Int))) (Nat.cast (List.length a0) : Int)))) && (decide ((Int.tmod (Go.IntKind.wrap Go.IntKind.i64 (a1 + (1 : Int))) (Nat.cast (List.length a0) : Int)) < (Nat.cast (List.length a0) : Int)))) then bif (a2 == (0 : Int)) then none
        else some (n24 (Int.tmod (Go.IntKind.wrap Go.IntKind.i64 ((Go.IntKind.wrap Go.IntKind.i64 ((Go.IntKind.wrap Go.IntKind.i64 ((Go.IntKind.wrap Go.IntKind.i64 (List.getD a0 (Int.toNat (Int.tmod a1 (Nat.cast (List.length a0) : Int))) (0 : Int))) + (Go.IntKind.wrap Go.IntKind.i64 ((Go.IntKind.wrap Go.IntKind.i64 (Int.tdiv a1 (Nat.cast (List.length a0) : Int))) * (3 : Int))))) * (251 : Int))) + (Go.IntKind.wrap Go.IntKind.i64 (List.getD a0 (Int.toNat (Int.tmod (Go.IntKind.wrap Go.IntKind.i64 (a1 + (1 : Int))) (Nat.cast (List.length a0) : Int))) (0 : Int))))) a2))
      else none
    else bif (a2 == (0 : Int)) then none
    else some (n24 (Int.tmod (Go.IntKind.wrap Go.IntKind.i64 ((Go.IntKind.wrap Go.IntKind.i64 (List.getD a0 (Int.toNat (Int.tmod a1 (Nat.cast (List.length a0) : Int))) (0 : Int))) + (Go.IntKind.wrap Go.IntKind.i64 ((Go.IntKind.wrap Go.IntKind.i64 (Int.tdiv a1 (Nat.cast (List.length a0) : Int))) * (3 : Int))))) a2))
  else none := by kernel_rfl
def g24 (L : Nat) (a0 : (List Int)) (a1 : Int) (a2 : Int) : Option Int :=
  bif (decide (a2 ≤ (1 : Int))) then some (0 : Int)
  else bif ((Nat.cast (List.length a0) : Int) == (0 : Int)) then bif (a2 == (0 : Int)) then none
    else some (Int.tmod (Go.IntKind.wrap Go.IntKind.i64 (a1 * (7 : Int))) a2)
  else bif ((Nat.cast (List.length a0) : Int) == (0 : Int)) then none
  else bif ((decide ((0 : Int) ≤ (Int.tmod a1 (Nat.cast (List.length a0) : Int)))) && (decide ((Int.tmod a1 (Nat.cast (List.length a0) : Int)) < (Nat.cast (List.length a0) : Int)))) then bif ((Nat.cast (List.length a0) : Int) == (0 : Int)) then none
    else bif (decide (a2 > (200 : Int))) then bif ((Nat.cast (List.length a0) : Int) == (0 : Int)) then none
      else bif ((decide ((0 : Int) ≤ (Int.tmod (Go.IntKind.wrap Go.IntKind.i64 (a1 + (1 : Int))) (Nat.cast (List.length a0) : Int)))) && (decide ((Int.tmod (Go.IntKind.wrap Go.IntKind.i64 (a1 + (1 : Int))) (Nat.cast (List.length a0) : Int)) < (Nat.cast (List.length a0) : Int)))) then bif (a2 == (0 : Int)) then none
        else some (Int.tmod (Go.IntKind.wrap Go.IntKind.i64 ((Go.IntKind.wrap Go.IntKind.i64 ((Go.IntKind.wrap Go.IntKind.i64 ((Go.IntKind.wrap Go.IntKind.i64 (List.getD a0 (Int.toNat (Int.tmod a1 (Nat.cast (List.length a0) : Int))) (0 : Int))) + (Go.IntKind.wrap Go.IntKind.i64 ((Go.IntKind.wrap Go.IntKind.i64 (Int.tdiv a1 (Nat.cast (List.length a0) : Int))) * (3 : Int))))) * (251 : Int))) + (Go.IntKind.wrap Go.IntKind.i64 (List.getD a0 (Int.toNat (Int.tmod (Go.IntKind.wrap Go.IntKind.i64 (a1 + (1 : Int))) (Nat.cast (List.length a0) : Int))) (0 : Int))))) a2)
      else none
    else bif (a2 == (0 : Int)) then none
    else some (Int.tmod (Go.IntKind.wrap Go.IntKind.i64 ((Go.IntKind.wrap Go.IntKind.i64 (List.getD a0 (Int.toNat (Int.tmod a1 (Nat.cast (List.length a0) : Int))) (0 : Int))) + (Go.IntKind.wrap Go.IntKind.i64 ((Go.IntKind.wrap Go.IntKind.i64 (Int.tdiv a1 (Nat.cast (List.length a0) : Int))) * (3 : Int))))) a2)
  else none
theorem e24 (L : Nat) (a0 : (List Int)) (a1 : Int) (a2 : Int) : evF prog ev24 (loopN L) f24 (a24.enc (a0, a1, a2)) = (g24 L a0 a1 a2).map n24 := by
  rw [i24]; simp only [g24, map_bif, map_tst, Option.map_some, Option.map_none]
theorem s24 (m : ((List Int) × Int × Int) → Option Int) (hm : ∀ (x : ((List Int) × Int × Int)) t, m x = some t → ∃ L, g24 L x.1 x.2.1 x.2.2 = some t) : Sat prog cxT 24 (c24 m) :=
  sat_t cxT_ok cxT_pok (by rfl) (fn := f24) rfl a24 n24 dd24 m ev24 kok_nil kwok_nil (fun L x => g24 L x.1 x.2.1 x.2.2) (fun L x => e24 L x.1 x.2.1 x.2.2) hm hs24
end Go.Proofs.Try

set_option maxHeartbeats 0
set_option linter.unusedVariables false
set_option linter.unusedSimpArgs false
namespace Go.Proofs.Try
open Go Go.VM Go.RowKit

/-! Frames, read -/
def hd2 (a : List Int) : Int := num (a.take 2) 0
/-- What stands in the frame that 'a' begins with. -/
def first (a : List Int) : Option (List Int) :=
  if 4 ≤ a.length ∧ num (a.take 2) 0 ≤ 250 ∧ 4 + num (a.take 2) 0 ≤ a.length ∧ sumW ((a.drop 4).take (num (a.take 2) 0).toNat) = num ((a.drop 2).take 2) 0 then some ((a.drop 4).take (num (a.take 2) 0).toNat) else none
def m53 (a : List Int) : Option (List Int × Bool) := if okB a = true ∧ a.length ≤ 1000000 then g53 m16 m18 0 a else none
theorem sat53 : Sat prog cxT 53 (c53 m53) := s53 m16 m18 sat16 sat18 m53 fun x t h => by
  unfold m53 at h
  split at h
  · exact ⟨0, h⟩
  · cases h
theorem okB_drop {a : List Int} (h : okB a = true) (n : Nat) : okB (a.drop n) = true := okB_sub h fun x hx => List.mem_of_mem_drop hx
theorem okB_take {a : List Int} (h : okB a = true) (n : Nat) : okB (a.take n) = true := okB_sub h fun x hx => List.mem_of_mem_take hx
theorem iv2 : iv 2 = true := rfl
theorem m16_at {a : List Int} (h : okB a = true) (hl : a.length ≤ 1000000) (p : Int) : m16 (a, p, 2) = some (takeN a p 2) := if_pos ⟨h, by show a.length ≤ 1000000000000; omega, rfl⟩
theorem num2_in {a : List Int} (h : okB a = true) (hl : a.length = 2) : 0 ≤ num a 0 ∧ num a 0 ≤ 65535 := by
  have := num_bound a 0 0 h (by omega) (by decide)
  rw [hl] at this
  have h2 : (256 : Int) ^ (0 + 2) = 65536 := by decide
  rw [h2] at this
  omega
theorem m53_first {a : List Int} (h : okB a = true) (hl : a.length ≤ 1000000) : (∃ i, first a = some i ∧ m53 a = some (i, true)) ∨ (first a = none ∧ ∃ i, m53 a = some (i, false)) := by
  have e0 : m53 a = g53 m16 m18 0 a := if_pos ⟨h, hl⟩
  rw [e0]
  unfold g53
  rw [m16_at h hl, tst_some, m16_at h hl, tst_some]
  by_cases h4 : 4 ≤ a.length
  · have t1 : takeN a 0 2 = (0, num (a.take 2) 0) := takeN_in ⟨by omega, by omega, by omega, by omega⟩
    have t2 : takeN a 2 2 = (0, num ((a.drop 2).take 2) 0) := takeN_in ⟨by omega, by omega, by omega, by omega⟩
    have b1 := num2_in (okB_take h 2) (by simp; omega)
    rw [t1, t2]
    simp only
    rw [bneF rfl, cond_false, cond_false]
    by_cases h5 : num (a.take 2) 0 ≤ 250
    · rw [df (by omega), cond_false]
      have w : IntKind.wrap .i64 (4 + num (a.take 2) 0) = 4 + num (a.take 2) 0 := wi (by omega) (by omega)
      rw [w]
      by_cases h6 : 4 + num (a.take 2) 0 ≤ a.length
      · rw [df (by omega), cond_false, dt (by omega), dt (by omega), dt (by omega)]
        have e1 : List.drop (Int.toNat 4) (List.take (4 + num (a.take 2) 0).toNat a) = (a.drop 4).take (num (a.take 2) 0).toNat := by
          rw [show (4 + num (a.take 2) 0).toNat = 4 + (num (a.take 2) 0).toNat by omega]
          show List.drop 4 _ = _
          rw [List.drop_take]
          congr 1
          omega
        rw [e1]
        have e18 : m18 ((a.drop 4).take (num (a.take 2) 0).toNat) = some (sumW ((a.drop 4).take (num (a.take 2) 0).toNat)) := if_pos ⟨okB_take (okB_drop h 4) _, by simp; omega⟩
        rw [Bool.and_self, Bool.and_self, cond_true, e18, tst_some]
        by_cases h7 : sumW ((a.drop 4).take (num (a.take 2) 0).toNat) = num ((a.drop 2).take 2) 0
        · refine .inl ⟨_, if_pos ⟨h4, h5, h6, h7⟩, ?_⟩
          rw [h7]
          simp
        · refine .inr ⟨if_neg (fun hh => h7 hh.2.2.2), (a.drop 4).take (num (a.take 2) 0).toNat, ?_⟩
          rw [show (sumW ((a.drop 4).take (num (a.take 2) 0).toNat) == num ((a.drop 2).take 2) 0) = false by simpa using h7]
      · rw [dt (by omega), cond_true]
        exact .inr ⟨if_neg (fun hh => h6 hh.2.2.1), _, rfl⟩
    · rw [dt (by omega), cond_true]
      exact .inr ⟨if_neg (fun hh => h5 hh.2.1), _, rfl⟩
  · have t2 : takeN a 2 2 = (3, 0) := takeN_out (fun hh => by omega)
    refine .inr ⟨if_neg (fun hh => h4 hh.1), [], ?_⟩
    rw [t2]
    simp only
    by_cases hx : (takeN a 0 2).1 = 0
    · rw [bneF hx, cond_false, bneT (by decide), cond_true]
    · rw [bneT hx, cond_true]
theorem first_len {a i : List Int} (h : first a = some i) : 4 + i.length ≤ a.length := by
  unfold first at h
  split at h
  · rename_i hc
    simp only [Option.some.injEq] at h
    subst h
    simp
    omega
  · cases h
def tf : Nat → List Int → List (List Int) × Nat
  | 0, _ => ([], 0)
  | n + 1, a => match first a with
    | some i => (i :: (tf n (a.drop (4 + i.length))).1, 4 + i.length + (tf n (a.drop (4 + i.length))).2)
    | none => ([], 0)
theorem tf_more : ∀ (n m : Nat) (a : List Int), a.length < n → a.length < m → tf n a = tf m a
  | 0, _, a, h, _ => by omega
  | _, 0, a, _, h => by omega
  | n + 1, m + 1, a, h1, h2 => by
    unfold tf
    cases hf : first a with
    | none => rfl
    | some i =>
      have := first_len hf
      simp only
      rw [tf_more n m (a.drop (4 + i.length)) (by simp; omega) (by simp; omega)]
theorem m51_one (i : List Int) (h : i.length ≤ 1000000) : m51 [i] = some i := (if_pos ⟨by simp, by simpa using (by omega : i.length ≤ 1000000000)⟩).trans (by simp)
theorem loop25 (L : Nat) (a : List Int) (h : okB a = true) (hl : a.length ≤ 1000) (x y : Int) (z : List (List Int)) (k : Option (Int × Int × List (List Int))) : ∀ (n used : Nat) (o : List (List Int)), used ≤ a.length → a.length - used < n → o.length ≤ used →
    l25_0 m53 m51 L a n x y z o (used : Int) k = some (0, ((used + (tf n (a.drop used)).2 : Nat) : Int), o ++ (tf n (a.drop used)).1)
  | 0, used, o, h1, h2, h3 => by omega
  | n + 1, used, o, h1, h2, h3 => by
    rw [l25_0, dt (show (0 : Int) ≤ (used : Int) by omega), dt (show (used : Int) ≤ (a.length : Int) by omega), dt (Int.le_refl _), Bool.and_self, Bool.and_self, cond_true]
    have ed : List.drop (Int.toNat (used : Int)) (List.take (Int.toNat (Nat.cast a.length : Int)) a) = a.drop used := by simp
    rw [ed]
    unfold tf
    rcases m53_first (okB_drop h used) (by simp; omega) with ⟨i, f1, f2⟩ | ⟨f1, i, f2⟩
    · rw [f2, tst_some, f1]
      have hi := first_len f1
      simp only [List.length_drop] at hi
      simp only [Bool.not_true, cond_false]
      rw [m51_one i (by omega), tst_some, dt (by simp; omega), cond_true]
      have w : IntKind.wrap .i64 ((used : Int) + IntKind.wrap .i64 (4 + (Nat.cast i.length : Int))) = ((used + (4 + i.length) : Nat) : Int) := by
        rw [wi (x := 4 + (Nat.cast i.length : Int)) (by omega) (by omega), wi (by omega) (by omega)]; omega
      rw [w, loop25 L a h hl x y z k n (used + (4 + i.length)) (o ++ [i]) (by omega) (by omega) (by simp; omega)]
      rw [List.drop_drop]
      simp only [List.append_assoc, List.singleton_append]
      congr 3
      omega
    · rw [f2, tst_some, f1]
      simp
def m25 (a : List Int) : Option (Int × Int × List (List Int)) := if okB a = true ∧ a.length ≤ 600 then some (0, ((tf (a.length + 1) a).2 : Int), (tf (a.length + 1) a).1) else none
theorem sat25 : Sat prog cxT 25 (c25 m25) := s25 m53 m51 sat53 sat51 m25 fun x t h => by
  unfold m25 at h
  split at h
  · rename_i hc
    cases h
    refine ⟨x.length + 1, ?_⟩
    unfold g25
    rw [df (by omega), cond_false]
    have := loop25 (x.length + 1) x hc.1 (by omega) 0 0 [] none (x.length + 1) 0 [] (by omega) (by omega) (by simp)
    simpa using this
  · cases h

/-! Frames, one behind the other -/
theorem num2 (n : Int) (h0 : 0 ≤ n) (h1 : n ≤ 65535) : num (numB n 2) 0 = n := num_numB (n := n) (z := 2) ⟨by decide, by decide, h0, by
  have : (256 : Int) ^ (Int.toNat 2) - 1 = 65535 := by decide
  rw [this]; exact h1⟩
theorem frm_take2 (d r : List Int) : (frm d ++ r).take 2 = numB d.length 2 := by
  unfold frm
  have := numB_len (d.length : Int) 2
  rw [List.append_assoc, List.append_assoc, List.take_append_of_le_length (by omega), List.take_of_length_le (by omega)]
theorem frm_drop2 (d r : List Int) : ((frm d ++ r).drop 2).take 2 = numB (sumW d) 2 := by
  unfold frm
  have h1 := numB_len (d.length : Int) 2
  have h2 := numB_len (sumW d) 2
  rw [List.append_assoc, List.append_assoc, List.drop_append_of_le_length (by omega), List.drop_eq_nil_of_le (by omega), List.nil_append, List.take_append_of_le_length (by omega), List.take_of_length_le (by omega)]
theorem frm_drop4 (d r : List Int) : (frm d ++ r).drop 4 = d ++ r := by
  unfold frm
  have h1 := numB_len (d.length : Int) 2
  have h2 := numB_len (sumW d) 2
  rw [List.append_assoc, List.drop_append_of_le_length (by simp; omega), List.drop_eq_nil_of_le (by simp; omega), List.nil_append]
theorem frm_ok {d : List Int} (h : okB d = true) : okB (frm d) = true := okB_app (okB_app (numB_ok _ _) (numB_ok _ _)) h
theorem first_all {d r : List Int} (h : okB d = true) (hl : d.length ≤ 250) : first (frm d ++ r) = some d := by
  have hs := sumW_in h
  have hn := num2 (d.length : Int) (by omega) (by omega)
  have hd : ((frm d ++ r).drop 4).take (num ((frm d ++ r).take 2) 0).toNat = d := by
    rw [frm_take2, hn, frm_drop4]
    simp
  unfold first
  rw [hd, frm_drop2, frm_take2, hn, num2 _ hs.1 hs.2]
  rw [if_pos ⟨by simp [frm_len]; omega, by omega, by simp [frm_len]; omega, rfl⟩]
theorem first_cut {d r : List Int} (h : okB d = true) (hl : d.length ≤ 250) {c : Nat} (hc : c < 4 + d.length) : first ((frm d ++ r).take c) = none := by
  unfold first
  refine if_neg fun hh => ?_
  obtain ⟨h1, h2, h3, h4⟩ := hh
  simp only [List.length_take] at h1 h3
  have e : ((frm d ++ r).take c).take 2 = (frm d ++ r).take 2 := by
    rw [List.take_take]
    congr 1
    omega
  rw [e, frm_take2, num2 (d.length : Int) (by omega) (by omega)] at h3
  omega
def cat (ds : List (List Int)) : List Int := ds.flatMap frm
theorem tf_cut : ∀ (ds : List (List Int)) (c n : Nat), (∀ d ∈ ds, okB d = true ∧ d.length ≤ 250) → (cat ds).length < n → ∃ k, (tf n ((cat ds).take c)).1 = ds.take k ∧ (tf n ((cat ds).take c)).2 ≤ c ∧ ((cat ds).length ≤ c → (tf n ((cat ds).take c)).1 = ds ∧ (tf n ((cat ds).take c)).2 = (cat ds).length)
  | ds, c, 0, _, hn => by omega
  | [], c, n + 1, _, _ => by
    have e : first ((cat []).take c) = none := by
      unfold first
      refine if_neg fun hh => ?_
      have := hh.1
      simp [cat] at this
    refine ⟨0, ?_, ?_, fun _ => ?_⟩ <;> (unfold tf; rw [e]) <;> simp [cat]
  | d :: ds, c, n + 1, hd, hn => by
    have hd0 := hd d (List.mem_cons_self ..)
    have ec : cat (d :: ds) = frm d ++ cat ds := by simp [cat]
    have hlen := frm_len d
    rw [ec] at hn ⊢
    rw [List.length_append] at hn
    by_cases h : 4 + d.length ≤ c
    · have et : (frm d ++ cat ds).take c = frm d ++ (cat ds).take (c - (4 + d.length)) := by
        rw [List.take_append, List.take_of_length_le (by omega), hlen]
      obtain ⟨k, k1, k2, k3⟩ := tf_cut ds (c - (4 + d.length)) n (fun x hx => hd x (List.mem_cons_of_mem _ hx)) (by omega)
      have ef : tf (n + 1) ((frm d ++ cat ds).take c) = (d :: (tf n ((cat ds).take (c - (4 + d.length)))).1, 4 + d.length + (tf n ((cat ds).take (c - (4 + d.length)))).2) := by
        rw [et]
        unfold tf
        rw [first_all hd0.1 hd0.2]
        simp only
        rw [show (frm d ++ List.take (c - (4 + d.length)) (cat ds)).drop (4 + d.length) = List.take (c - (4 + d.length)) (cat ds) by
          rw [← hlen, List.drop_left]]
        cases n <;> rfl
      rw [ef]
      refine ⟨k + 1, by rw [k1]; rfl, by simp only; omega, fun hc => ?_⟩
      rw [List.length_append] at hc
      obtain ⟨q1, q2⟩ := k3 (by omega)
      rw [q1, q2, List.length_append]
      exact ⟨rfl, by simp only; omega⟩
    · have ef : tf (n + 1) ((frm d ++ cat ds).take c) = ([], 0) := by
        unfold tf
        rw [first_cut hd0.1 hd0.2 (by omega)]
      rw [ef]
      refine ⟨0, rfl, by simp, fun hc => ?_⟩
      rw [List.length_append] at hc
      omega
end Go.Proofs.Try

set_option maxHeartbeats 0
set_option linter.unusedVariables false
set_option linter.unusedSimpArgs false
namespace Go.Proofs.Try
open Go Go.VM Go.RowKit

def okD (c : List Int) : Prop := okB c = true ∧ c.length ≤ 2000000
instance (c : List Int) : Decidable (okD c) := by unfold okD; infer_instance
theorem okD.src {c : List Int} (h : okD c) : okS (c, 0) 0 := ⟨h.1, h.2, Int.le_refl _, Int.le_refl _⟩
def m21 (c : List Int) : Option (List Int) := if okD c then g21 m39 m43 m40 m49 0 c else none
theorem sat21 : Sat prog cxT 21 (c21 m21) := s21 m39 m43 m40 m49 sat39 sat43 sat40 sat49 m21 fun x t h => by
  unfold m21 at h
  split at h
  · exact ⟨0, h⟩
  · cases h
theorem drawFrame {c : List Int} (h : okD c) : ∃ d, m21 c = some d ∧ okB d = true ∧ d.length ≤ 251 := by
  have e0 : m21 c = g21 m39 m43 m40 m49 0 c := if_pos h
  rw [e0]
  have s0 := h.src
  obtain ⟨v, e1, _, r1⟩ := nx s0 (by omega) 9
  have s1 := s0.add (k := 1) (by omega)
  obtain ⟨u, e2, _, r2⟩ := nx s1 (by omega) 40
  have s2 := s1.add (k := 1) (by omega)
  have r1 := r1 (by omega)
  have r2 := r2 (by omega)
  obtain ⟨z, mz, e3⟩ := pick s2 (by omega) [v, u, 0, 250, 251] (by simp) (by simp)
  have s3 := s2.add (k := 1) (by omega)
  simp only [List.mem_cons, List.not_mem_nil, or_false] at mz
  obtain ⟨at2, o, e4, k1, k2, _⟩ := some49 s3 (by omega) z (by omega)
  simp only at e1 e2 e3 e4
  refine ⟨o, ?_, k1, by have := k2 (by omega); omega⟩
  unfold g21
  rw [show m39 c = some (c, 0) from rfl, tst_some]
  simp only
  rw [e1, tst_some]
  simp only
  rw [e2, tst_some]
  simp only
  rw [e3, tst_some]
  simp only
  rw [e4, tst_some]
def m24 (x : List Int × Int × Int) : Option Int := if okD x.1 ∧ x.2.1 = 1 ∧ 1 ≤ x.2.2 ∧ x.2.2 ≤ 1000000 then g24 0 x.1 x.2.1 x.2.2 else none
theorem sat24 : Sat prog cxT 24 (c24 m24) := s24 m24 fun x t h => by
  unfold m24 at h
  split at h
  · exact ⟨0, h⟩
  · cases h
theorem atI {c : List Int} (h : okD c) {n : Int} (h1 : 1 ≤ n) (h2 : n ≤ 1000000) : ∃ v, m24 (c, 1, n) = some v ∧ 0 ≤ v ∧ v < n := by
  have e0 : m24 (c, 1, n) = g24 0 c 1 n := if_pos ⟨h, rfl, h1, h2⟩
  rw [e0]
  unfold g24
  obtain ⟨hb, hl2⟩ := h
  by_cases hn : n ≤ 1
  · rw [dt hn, cond_true]
    exact ⟨0, rfl, by omega, by omega⟩
  · rw [df hn, cond_false]
    have hn0 : (n == 0) = false := by simp; omega
    by_cases hl : c.length = 0
    · have e1 : ((Nat.cast c.length : Int) == 0) = true := by simp [hl]
      simp only [e1, hn0, cond_true, cond_false]
      refine ⟨_, rfl, tmod_range _ ?_ h1⟩
      rw [wi (by omega) (by omega)]
      omega
    · have e1 : ((Nat.cast c.length : Int) == 0) = false := by simp; intro h; simp [h] at hl
      have hk : (1 : Int) ≤ (c.length : Int) := by omega
      have w1 : IntKind.wrap .i64 (1 + 1) = 2 := rfl
      have r1 := tmod_range 1 (by omega) hk
      have r2 := tmod_range 2 (by omega) hk
      have hq : 0 ≤ (1 : Int).tdiv (c.length : Int) ∧ (1 : Int).tdiv (c.length : Int) ≤ 1 := by
        rw [Int.tdiv_eq_ediv_of_nonneg (by omega)]
        exact ⟨Int.ediv_nonneg (by omega) (by omega), Int.ediv_le_self _ (by omega)⟩
      have g1 := okB_get hb (i := ((1 : Int).tmod (c.length : Int)).toNat) (by omega)
      have g2 := okB_get hb (i := ((2 : Int).tmod (c.length : Int)).toNat) (by omega)
      have wq : IntKind.wrap .i64 ((1 : Int).tdiv (c.length : Int)) = (1 : Int).tdiv (c.length : Int) := wi (by omega) (by omega)
      simp only [e1, hn0, cond_false, w1, dt r1.1, dt r1.2, dt r2.1, dt r2.2, Bool.and_self, cond_true, wq]
      generalize c.getD ((1 : Int).tmod (c.length : Int)).toNat 0 = x at g1 ⊢
      generalize c.getD ((2 : Int).tmod (c.length : Int)).toNat 0 = y at g2 ⊢
      generalize (1 : Int).tdiv (c.length : Int) = q at hq ⊢
      by_cases hb2 : n > 200
      · rw [dt hb2, cond_true]
        refine ⟨_, rfl, tmod_range _ ?_ h1⟩
        simp (disch := omega) only [wi]
        omega
      · rw [df hb2, cond_false]
        refine ⟨_, rfl, tmod_range _ ?_ h1⟩
        simp (disch := omega) only [wi]
        omega

/-! FnFrames -/
def okL (ds : List (List Int)) (n : Nat) : Prop := (∀ d ∈ ds, okB d = true ∧ d.length ≤ 250) ∧ ds.length ≤ n
theorem cat_app (a b : List (List Int)) : cat (a ++ b) = cat a ++ cat b := by simp [cat]
theorem cat_len : ∀ (ds : List (List Int)), (∀ d ∈ ds, okB d = true ∧ d.length ≤ 250) → (cat ds).length ≤ 254 * ds.length
  | [], _ => by simp [cat]
  | d :: ds, h => by
    have := cat_len ds (fun x hx => h x (List.mem_cons_of_mem _ hx))
    have := (h d (List.mem_cons_self ..)).2
    have hl := frm_len d
    have ec : cat (d :: ds) = frm d ++ cat ds := by simp [cat]
    rw [ec, List.length_append, List.length_cons]
    omega
theorem cat_ok : ∀ (ds : List (List Int)), (∀ d ∈ ds, okB d = true ∧ d.length ≤ 250) → okB (cat ds) = true
  | [], _ => rfl
  | d :: ds, h => by
    have ec : cat (d :: ds) = frm d ++ cat ds := by simp [cat]
    rw [ec]
    exact okB_app (frm_ok (h d (List.mem_cons_self ..)).1) (cat_ok ds (fun x hx => h x (List.mem_cons_of_mem _ hx)))
theorem round5 (L : Nat) (c : List Int) (hc : okC c) (n : Nat) (ds : List (List Int)) (j : Nat) (hd : okL ds j) (hj : j < 2) (k : List Int → List (List Int) → Option Bool) :
    ∃ ds', okL ds' (j + 1) ∧ l5_0 m12 m21 mF mF m24 m25 L c (n + 1) (cat ds) ds (j : Int) k = l5_0 m12 m21 mF mF m24 m25 L c n (cat ds') ds' ((j + 1 : Nat) : Int) k := by
  have hlen := cat_len ds hd.1
  have hdl := hd.2
  have w : IntKind.wrap .u8 ((j : Int) + 1) = ((j + 1 : Nat) : Int) := by rw [wb (by omega) (by omega)]; omega
  obtain ⟨d, e21, k1, k2⟩ := drawFrame (c := [(j : Int)] ++ c) ⟨okB_app (by unfold okB; simp; omega) hc.1, by have := hc.2; simp; omega⟩
  have eF : mF d = some (putF d) := if_pos ⟨k1, by omega⟩
  have hcl := hc.2
  rw [l5_0, dt (show (j : Int) < 2 by omega), cond_true, dt (by simp; omega), cond_true, e21, tst_some, eF, tst_some]
  by_cases h : d.length > 250
  · have ep : putF d = (2, []) := if_pos h
    rw [ep]
    simp only
    rw [bneT (by decide), cond_true, tst_some, bneF rfl, cond_false, w]
    exact ⟨ds, ⟨hd.1, by omega⟩, rfl⟩
  · have ep : putF d = (0, frm d) := if_neg h
    have fl := frm_len d
    rw [ep]
    simp only
    rw [bneF rfl, cond_false, dt (by omega), cond_true, dt (by simp; omega), cond_true, w]
    refine ⟨ds ++ [d], ⟨fun x hx => ?_, by simp; omega⟩, ?_⟩
    · rcases List.mem_append.1 hx with hx | hx
      · exact hd.1 x hx
      · simp only [List.mem_singleton] at hx
        subst hx
        exact ⟨k1, by omega⟩
    · rw [cat_app]
      simp [cat]
theorem last5 (L : Nat) (c : List Int) (ds fs : List (List Int)) (a b e f : Int) (q : Nat) (hq : fs = ds.take q) (hl : ds.length ≤ 2) (k : Option Bool) : ∀ (n i : Nat), i ≤ ds.length → ds.length < n + i →
    l5_2 m12 m21 mF mF m24 m25 L c n ds a b ds e f fs (i : Int) k = k
  | 0, i, h1, h2 => by omega
  | n + 1, i, h1, h2 => by
    rw [l5_2]
    by_cases hi : i < ds.length
    · have w : IntKind.wrap .i64 ((i : Int) + 1) = ((i + 1 : Nat) : Int) := by rw [wi (by omega) (by omega)]; omega
      have ih := last5 L c ds fs a b e f q hq hl k n (i + 1) (by omega) (by omega)
      rw [dt (show (i : Int) < (ds.length : Int) by omega), dt (show (0 : Int) ≤ (i : Int) by omega)]
      simp only [Bool.and_self, cond_true, bs, Bool.not_true, cond_false, w]
      by_cases hf : i < fs.length
      · rw [dt (show (i : Int) < (fs.length : Int) by omega)]
        have e1 : fs.getD (i : Int).toNat [] = ds.getD (i : Int).toNat [] := by
          subst hq
          have : i < q := by
            simp only [List.length_take] at hf
            omega
          simp [List.getD, List.getElem?_take, this]
        have e2 : ((strV (flatVals cxT 5 (fs.getD (i : Int).toNat []))).toList == (strV (flatVals cxT 5 (ds.getD (i : Int).toNat []))).toList) = true := by
          have : ∀ X Y : List Int, X = Y → ((strV (flatVals cxT 5 X)).toList == (strV (flatVals cxT 5 Y)).toList) = true := fun X Y h => by subst h; exact bs _
          exact this _ _ e1
        have go : ∀ (B : Bool) (R : Option Bool), B = true → R = k → (bif true then (bif true && true then (bif !B then some false else R) else none) else R) = k := fun B R h1 h2 => by
          subst h1; exact h2
        exact go _ _ e2 ih
      · rw [df (show ¬ (i : Int) < (fs.length : Int) by omega)]
        exact ih
    · rw [df (by omega)]
      rfl
theorem sat5 : Sat prog cxT 5 (c5 m3) := s5 m12 m21 mF mF m24 m25 sat12 sat21 sat22 sat23 sat24 sat25 m3 fun x t h => by
  unfold m3 at h
  split at h
  · rename_i hc
    cases h
    refine ⟨3, ?_⟩
    unfold g5
    rw [show m12 x = some (decide ((x.length : Int) > 1048576)) from rfl, tst_some]
    by_cases hb : (x.length : Int) > 1048576
    · rw [dt hb]; rfl
    · rw [df hb, cond_false]
      have hx : okC x := ⟨hc, by omega⟩
      obtain ⟨d1, h1, e1⟩ := round5 3 x hx 2 [] 0 ⟨by simp, by simp⟩ (by omega) (fun (w0_3 : (List Int)) (w0_4 : (List (List Int))) => tst (m24 (x, ((1 : Int), (Go.IntKind.wrap Go.IntKind.i64 ((Nat.cast (List.length w0_3) : Int) + (1 : Int)))))) (0 : Int) fun (q3 : Int) => tst (m25 w0_3) ((0 : Int), (0 : Int), []) fun (q4 : (Int × Int × (List (List Int)))) => bif (((decide ((0 : Int) ≤ (0 : Int))) && (decide ((0 : Int) ≤ q3))) && (decide (q3 ≤ (Nat.cast (List.length w0_3) : Int)))) then tst (m25 (List.drop (Int.toNat (0 : Int)) (List.take (Int.toNat q3) w0_3))) ((0 : Int), (0 : Int), []) fun (q6 : (Int × Int × (List (List Int)))) => bif (q4.1 != (0 : Int)) then some Bool.false
              else bif (q6.1 != (0 : Int)) then some Bool.false
              else bif ((Nat.cast (List.length q4.2.2) : Int) != (Nat.cast (List.length w0_4) : Int)) then some Bool.false
              else bif (q4.2.1 != (Nat.cast (List.length w0_3) : Int)) then some Bool.false
              else bif (decide (q6.2.1 > q3)) then some Bool.false
              else bif (decide ((Nat.cast (List.length q6.2.2) : Int) > (Nat.cast (List.length w0_4) : Int))) then some Bool.false
              else l5_2 m12 m21 mF mF m24 m25 3 x 3 w0_4 q4.1 q4.2.1 q4.2.2 q6.1 q6.2.1 q6.2.2 (0 : Int) (some Bool.true)
          else none)
      refine e1.trans ?_
      obtain ⟨d2, h2, e2⟩ := round5 3 x hx 1 d1 1 h1 (by omega) _
      refine e2.trans ?_
      rw [l5_0, df (by decide), cond_false]
      have hcl := cat_len d2 h2.1
      have hdl := h2.2
      have hco := cat_ok d2 h2.1
      rw [wi (x := (Nat.cast (cat d2).length : Int) + 1) (by omega) (by omega)]
      obtain ⟨v, e24, v0, v1⟩ := atI (c := x) ⟨hc, by have := hx.2; omega⟩ (n := (Nat.cast (cat d2).length : Int) + 1) (by omega) (by omega)
      rw [e24, tst_some]
      obtain ⟨q1, p1, p2, p3⟩ := tf_cut d2 (cat d2).length ((cat d2).length + 1) h2.1 (by omega)
      obtain ⟨p4, p5⟩ := p3 (Nat.le_refl _)
      rw [List.take_length] at p4 p5
      have e25 : m25 (cat d2) = some (0, ((cat d2).length : Int), d2) := (if_pos ⟨hco, by omega⟩).trans (by rw [p4, p5])
      rw [e25, tst_some, dt (Int.le_refl (0 : Int)), dt v0, dt (show v ≤ (Nat.cast (cat d2).length : Int) by omega), Bool.and_self, Bool.and_self, cond_true]
      have et : List.drop (Int.toNat 0) (List.take v.toNat (cat d2)) = (cat d2).take v.toNat := rfl
      rw [et]
      obtain ⟨q, r1, r2, r3⟩ := tf_cut d2 v.toNat (((cat d2).take v.toNat).length + 1 + (cat d2).length) h2.1 (by omega)
      rw [tf_more _ (((cat d2).take v.toNat).length + 1) _ (by omega) (by omega)] at r1 r2
      have e25' : m25 ((cat d2).take v.toNat) = some (0, ((tf (((cat d2).take v.toNat).length + 1) ((cat d2).take v.toNat)).2 : Int), d2.take q) := (if_pos ⟨okB_take hco _, by simp; omega⟩).trans (by rw [r1])
      rw [e25', tst_some]
      simp only
      rw [bneF rfl, bneF rfl, bneF rfl, df (by omega), df (by simp; omega)]
      simp only [cond_false]
      exact last5 3 x d2 (d2.take q) _ _ _ _ q rfl (by omega) (some true) 3 0 (by omega) (by omega)
  · cases h
end Go.Proofs.Try
