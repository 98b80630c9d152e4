/- A part of the proof of FnExactTakeFrames: L1Fr, L1Pi. -/
import Derived.Test.YtggncacoajjjhaaL1Base
import Derived.Test.YtggncacoajjjhaaL1Fq
set_option maxHeartbeats 0
set_option linter.unusedVariables false
set_option linter.unusedSimpArgs false
namespace Go.Proofs.Try
open Go Go.VM Go.RowKit
/-! loop.example/g00222/spec.TakeFrames -/
def ev35 (m55 : ((List Int) × Int × Int) → Option Int) (m20 : (List Int) → Option Int) : Env cxT := { Kc := kcOf [(55, c55 m55), (20, c20 m20)], Kw := kwOf [], lv := fun i => if i = 0 then [(0, [some 5]), (2, [none, none, some 22]), (3, [none, none, some 22])] else [], xv := fun i => if i = 0 then some [(2, [none, none, some 22])] else none }
def S35_0 (a0 : (List Int)) (v0_2_0 : Int) (v0_2_1 : Int) (v0_2_2 : (List (List Int))) (v0_3_0 : Int) (v0_3_1 : Int) (v0_3_2 : (List (List Int))) : St cxT.ty := { slots := [(.inl (.inl (ls { own := 0, nm := 0, e := 5, o := false, xs := a0 }))), junk, (.inr (.inr { kind := 0, nm := 128, cells := [(lv (.int .i64 v0_2_0)), (lv (.int .i64 v0_2_1)), (ls { own := 1, nm := 131, e := 22, o := true, xs := v0_2_2 })], s := { own := 0, nm := 0, e := 0, o := false, xs := ([] : List (PUnit)) }, i := 0, off := 0 })), (.inr (.inr { kind := 0, nm := 192, cells := [(lv (.int .i64 v0_3_0)), (lv (.int .i64 v0_3_1)), (ls { own := 1, nm := 195, e := 22, o := true, xs := v0_3_2 })], s := { own := 0, nm := 0, e := 0, o := false, xs := ([] : List (PUnit)) }, i := 0, off := 0 }))] ++ List.replicate 54 junk, D := [], F := [], ctr := 1 }
theorem i35 (m55 : ((List Int) × Int × Int) → Option Int) (m20 : (List Int) → Option Int) (L : Nat) (a0 : (List Int)) : evF prog (ev35 m55 m20) (loopN L) f35 (a35.enc a0) =
  bif (decide ((Nat.cast (List.length a0) : Int) > (600 : Int))) then some (n35 ((2 : Int), (0 : Int), ([] : List (List Int))))
  else headF prog (ev35 m55 m20) L f35 0 [1, 1, 1, 0, 0] (outK (outV prog f35) (topK prog (ev35 m55 m20) L f35 [1, 1, 1] (outV prog f35)).n (topK prog (ev35 m55 m20) L f35 [1, 1, 1] (outV prog f35)).x) L (S35_0 a0 (0 : Int) (0 : Int) ([] : List (List Int)) (0 : Int) (0 : Int) ([] : List (List Int))) := by kernel_rfl
theorem r35_0 (m55 : ((List Int) × Int × Int) → Option Int) (m20 : (List Int) → Option Int) (L : Nat) (a0 : (List Int)) (k : St cxT.ty → Option (V cxT.ty)) (xk : Nat → St cxT.ty → Option (V cxT.ty)) (g : St cxT.ty → Option (V cxT.ty)) (v0_2_0 : Int) (v0_2_1 : Int) (v0_2_2 : (List (List Int))) (v0_3_0 : Int) (v0_3_1 : Int) (v0_3_2 : (List (List Int))) : roundF prog (ev35 m55 m20) L f35 0 [1, 1, 1, 0, 0] (outK (outV prog f35) k xk) g (S35_0 a0 v0_2_0 v0_2_1 v0_2_2 v0_3_0 v0_3_1 v0_3_2) =
  bif (((decide ((0 : Int) ≤ v0_3_1)) && (decide (v0_3_1 ≤ (Nat.cast (List.length a0) : Int)))) && (decide ((Nat.cast (List.length a0) : Int) ≤ (Nat.cast (List.length a0) : Int)))) then bif (decide ((Nat.cast (List.length (List.drop (Int.toNat v0_3_1) (List.take (Int.toNat (Nat.cast (List.length a0) : Int)) a0))) : Int) < (4 : Int))) then some (n35 (v0_3_0, v0_3_1, v0_3_2))
    else tst (m55 ((List.drop (Int.toNat v0_3_1) (List.take (Int.toNat (Nat.cast (List.length a0) : Int)) a0)), ((0 : Int), (2 : Int)))) (0 : Int) fun (q2 : Int) => bif (decide (q2 > (250 : Int))) then some (n35 (v0_3_0, v0_3_1, v0_3_2))
      else bif (decide ((Go.IntKind.wrap Go.IntKind.i64 ((4 : Int) + q2)) > (Nat.cast (List.length (List.drop (Int.toNat v0_3_1) (List.take (Int.toNat (Nat.cast (List.length a0) : Int)) a0))) : Int))) then some (n35 (v0_3_0, v0_3_1, v0_3_2))
      else bif (((decide ((0 : Int) ≤ (4 : Int))) && (decide ((4 : Int) ≤ (Go.IntKind.wrap Go.IntKind.i64 ((4 : Int) + q2))))) && (decide ((Go.IntKind.wrap Go.IntKind.i64 ((4 : Int) + q2)) ≤ (Nat.cast (List.length (List.drop (Int.toNat v0_3_1) (List.take (Int.toNat (Nat.cast (List.length a0) : Int)) a0))) : Int)))) then tst (m20 (List.drop (Int.toNat (4 : Int)) (List.take (Int.toNat (Go.IntKind.wrap Go.IntKind.i64 ((4 : Int) + q2))) (List.drop (Int.toNat v0_3_1) (List.take (Int.toNat (Nat.cast (List.length a0) : Int)) a0))))) (0 : Int) fun (q4 : Int) => tst (m55 ((List.drop (Int.toNat v0_3_1) (List.take (Int.toNat (Nat.cast (List.length a0) : Int)) a0)), ((2 : Int), (2 : Int)))) (0 : Int) fun (q5 : Int) => bif (q4 != q5) then some (n35 (v0_3_0, v0_3_1, v0_3_2))
            else bif (((decide ((0 : Int) ≤ (4 : Int))) && (decide ((4 : Int) ≤ (Go.IntKind.wrap Go.IntKind.i64 ((4 : Int) + q2))))) && (decide ((Go.IntKind.wrap Go.IntKind.i64 ((4 : Int) + q2)) ≤ (Nat.cast (List.length (List.drop (Int.toNat v0_3_1) (List.take (Int.toNat (Nat.cast (List.length a0) : Int)) a0))) : Int)))) then bif (decide (((List.length ([] : List (Int))) + (List.length (List.drop (Int.toNat (4 : Int)) (List.take (Int.toNat (Go.IntKind.wrap Go.IntKind.i64 ((4 : Int) + q2))) (List.drop (Int.toNat v0_3_1) (List.take (Int.toNat (Nat.cast (List.length a0) : Int)) a0)))))) ≤ (1000000000 : Nat))) then bif (decide (((List.length v0_3_2) + (List.length (List.cons (([] : List (Int)) ++ (List.drop (Int.toNat (4 : Int)) (List.take (Int.toNat (Go.IntKind.wrap Go.IntKind.i64 ((4 : Int) + q2))) (List.drop (Int.toNat v0_3_1) (List.take (Int.toNat (Nat.cast (List.length a0) : Int)) a0))))) ([] : List (List Int))))) ≤ (1000000000 : Nat))) then g (S35_0 a0 v0_2_0 v0_2_1 v0_2_2 v0_3_0 (Go.IntKind.wrap Go.IntKind.i64 ((Go.IntKind.wrap Go.IntKind.i64 (v0_3_1 + (4 : Int))) + q2)) (v0_3_2 ++ (List.cons (([] : List (Int)) ++ (List.drop (Int.toNat (4 : Int)) (List.take (Int.toNat (Go.IntKind.wrap Go.IntKind.i64 ((4 : Int) + q2))) (List.drop (Int.toNat v0_3_1) (List.take (Int.toNat (Nat.cast (List.length a0) : Int)) a0))))) ([] : List (List Int)))))
                else none
              else none
            else none
      else none
  else none := by kernel_rfl
def l35_0 (m55 : ((List Int) × Int × Int) → Option Int) (m20 : (List Int) → Option Int) (L : Nat) (a0 : (List Int)) : Nat → Int → Int → (List (List Int)) → Int → Int → (List (List Int)) → (Option (Int × Int × (List (List Int)))) → Option (Int × Int × (List (List Int)))
  | 0, _, _, _, _, _, _, _ => none
  | n + 1, v0_2_0, v0_2_1, v0_2_2, v0_3_0, v0_3_1, v0_3_2, k =>
    bif (((decide ((0 : Int) ≤ v0_3_1)) && (decide (v0_3_1 ≤ (Nat.cast (List.length a0) : Int)))) && (decide ((Nat.cast (List.length a0) : Int) ≤ (Nat.cast (List.length a0) : Int)))) then bif (decide ((Nat.cast (List.length (List.drop (Int.toNat v0_3_1) (List.take (Int.toNat (Nat.cast (List.length a0) : Int)) a0))) : Int) < (4 : Int))) then some (v0_3_0, v0_3_1, v0_3_2)
      else tst (m55 ((List.drop (Int.toNat v0_3_1) (List.take (Int.toNat (Nat.cast (List.length a0) : Int)) a0)), ((0 : Int), (2 : Int)))) (0 : Int) fun (q3 : Int) => bif (decide (q3 > (250 : Int))) then some (v0_3_0, v0_3_1, v0_3_2)
        else bif (decide ((Go.IntKind.wrap Go.IntKind.i64 ((4 : Int) + q3)) > (Nat.cast (List.length (List.drop (Int.toNat v0_3_1) (List.take (Int.toNat (Nat.cast (List.length a0) : Int)) a0))) : Int))) then some (v0_3_0, v0_3_1, v0_3_2)
        else bif (((decide ((0 : Int) ≤ (4 : Int))) && (decide ((4 : Int) ≤ (Go.IntKind.wrap Go.IntKind.i64 ((4 : Int) + q3))))) && (decide ((Go.IntKind.wrap Go.IntKind.i64 ((4 : Int) + q3)) ≤ (Nat.cast (List.length (List.drop (Int.toNat v0_3_1) (List.take (Int.toNat (Nat.cast (List.length a0) : Int)) a0))) : Int)))) then tst (m20 (List.drop (Int.toNat (4 : Int)) (List.take (Int.toNat (Go.IntKind.wrap Go.IntKind.i64 ((4 : Int) + q3))) (List.drop (Int.toNat v0_3_1) (List.take (Int.toNat (Nat.cast (List.length a0) : Int)) a0))))) (0 : Int) fun (q5 : Int) => tst (m55 ((List.drop (Int.toNat v0_3_1) (List.take (Int.toNat (Nat.cast (List.length a0) : Int)) a0)), ((2 : Int), (2 : Int)))) (0 : Int) fun (q6 : Int) => bif (q5 != q6) then some (v0_3_0, v0_3_1, v0_3_2)
              else bif (((decide ((0 : Int) ≤ (4 : Int))) && (decide ((4 : Int) ≤ (Go.IntKind.wrap Go.IntKind.i64 ((4 : Int) + q3))))) && (decide ((Go.IntKind.wrap Go.IntKind.i64 ((4 : Int) + q3)) ≤ (Nat.cast (List.length (List.drop (Int.toNat v0_3_1) (List.take (Int.toNat (Nat.cast (List.length a0) : Int)) a0))) : Int)))) then bif (decide (((List.length ([] : List (Int))) + (List.length (List.drop (Int.toNat (4 : Int)) (List.take (Int.toNat (Go.IntKind.wrap Go.IntKind.i64 ((4 : Int) + q3))) (List.drop (Int.toNat v0_3_1) (List.take (Int.toNat (Nat.cast (List.length a0) : Int)) a0)))))) ≤ (1000000000 : Nat))) then bif (decide (((List.length v0_3_2) + (List.length (List.cons (([] : List (Int)) ++ (List.drop (Int.toNat (4 : Int)) (List.take (Int.toNat (Go.IntKind.wrap Go.IntKind.i64 ((4 : Int) + q3))) (List.drop (Int.toNat v0_3_1) (List.take (Int.toNat (Nat.cast (List.length a0) : Int)) a0))))) ([] : List (List Int))))) ≤ (1000000000 : Nat))) then l35_0 m55 m20 L a0 n v0_2_0 v0_2_1 v0_2_2 v0_3_0 (Go.IntKind.wrap Go.IntKind.i64 ((Go.IntKind.wrap Go.IntKind.i64 (v0_3_1 + (4 : Int))) + q3)) (v0_3_2 ++ (List.cons (([] : List (Int)) ++ (List.drop (Int.toNat (4 : Int)) (List.take (Int.toNat (Go.IntKind.wrap Go.IntKind.i64 ((4 : Int) + q3))) (List.drop (Int.toNat v0_3_1) (List.take (Int.toNat (Nat.cast (List.length a0) : Int)) a0))))) ([] : List (List Int)))) k
                  else none
                else none
              else none
        else none
    else none
theorem h35_0 (m55 : ((List Int) × Int × Int) → Option Int) (m20 : (List Int) → Option Int) (L : Nat) (a0 : (List Int)) (k : St cxT.ty → Option (V cxT.ty)) (xk : Nat → St cxT.ty → Option (V cxT.ty)) (k' : Option (Int × Int × (List (List Int)))) : ∀ (n : Nat) (v0_2_0 : Int) (v0_2_1 : Int) (v0_2_2 : (List (List Int))) (v0_3_0 : Int) (v0_3_1 : Int) (v0_3_2 : (List (List Int))), headF prog (ev35 m55 m20) L f35 0 [1, 1, 1, 0, 0] (outK (outV prog f35) k xk) n (S35_0 a0 v0_2_0 v0_2_1 v0_2_2 v0_3_0 v0_3_1 v0_3_2) = (l35_0 m55 m20 L a0 n v0_2_0 v0_2_1 v0_2_2 v0_3_0 v0_3_1 v0_3_2 k').map n35
  | 0, _, _, _, _, _, _ => rfl
  | n + 1, v0_2_0, v0_2_1, v0_2_2, v0_3_0, v0_3_1, v0_3_2 => by
    rw [headF_round, r35_0]
    have ih := h35_0 m55 m20 L a0 k xk k' n
    simp only [l35_0, map_bif, map_tst, Option.map_some, Option.map_none, ih]
def g35 (m55 : ((List Int) × Int × Int) → Option Int) (m20 : (List Int) → Option Int) (L : Nat) (a0 : (List Int)) : Option (Int × Int × (List (List Int))) :=
  bif (decide ((Nat.cast (List.length a0) : Int) > (600 : Int))) then some ((2 : Int), (0 : Int), ([] : List (List Int)))
  else l35_0 m55 m20 L a0 L (0 : Int) (0 : Int) ([] : List (List Int)) (0 : Int) (0 : Int) ([] : List (List Int)) (none)
theorem e35 (m55 : ((List Int) × Int × Int) → Option Int) (m20 : (List Int) → Option Int) (L : Nat) (a0 : (List Int)) : evF prog (ev35 m55 m20) (loopN L) f35 (a35.enc a0) = (g35 m55 m20 L a0).map n35 := by
  let K'0 : Option (Int × Int × (List (List Int))) := (none)
  have hin0 : ∀ (v0_2_0 : Int) (v0_2_1 : Int) (v0_2_2 : (List (List Int))) (v0_3_0 : Int) (v0_3_1 : Int) (v0_3_2 : (List (List Int))), headF prog (ev35 m55 m20) L f35 0 [1, 1, 1, 0, 0] (outK (outV prog f35) (topK prog (ev35 m55 m20) L f35 [1, 1, 1] (outV prog f35)).n (topK prog (ev35 m55 m20) L f35 [1, 1, 1] (outV prog f35)).x) L (S35_0 a0 v0_2_0 v0_2_1 v0_2_2 v0_3_0 v0_3_1 v0_3_2) = (l35_0 m55 m20 L a0 L v0_2_0 v0_2_1 v0_2_2 v0_3_0 v0_3_1 v0_3_2 K'0).map n35 := fun v0_2_0 v0_2_1 v0_2_2 v0_3_0 v0_3_1 v0_3_2 => h35_0 m55 m20 L a0 _ _ K'0  L v0_2_0 v0_2_1 v0_2_2 v0_3_0 v0_3_1 v0_3_2
  rw [i35]; simp only [g35, map_bif, map_tst, Option.map_some, Option.map_none, hin0, K'0]
theorem s35 (m55 : ((List Int) × Int × Int) → Option Int) (m20 : (List Int) → Option Int) (h55 : Sat prog cxT 55 (c55 m55)) (h20 : Sat prog cxT 20 (c20 m20)) (m : (List Int) → Option (Int × Int × (List (List Int)))) (hm : ∀ (x : (List Int)) t, m x = some t → ∃ L, g35 m55 m20 L x = some t) : Sat prog cxT 35 (c35 m) :=
  sat_t cxT_ok cxT_pok (by rfl) (fn := f35) rfl a35 n35 dd35 m (ev35 m55 m20) (kok_cons h55 (kok_cons h20 kok_nil)) kwok_nil (fun L x => g35 m55 m20 L x) (fun L x => e35 m55 m20 L x) hm hs35
/-! loop.example/g00222/laws.markByteSS -/
def ev57 (m34 : ((List Int) × Int) → Option (Int × (List Int))) : Env cxT := { Kc := kcOf [], Kw := kwOf [(34, { c34 m34 with p := 5 })], lv := fun i => if i = 0 then [(0, [some 22]), (1, []), (5, [])] else [], xv := fun i => if i = 0 then some [(0, [some 22]), (1, [])] else none }
def S57_0 (a0 : (List (List Int))) (a1 : Int) (v0_0 : (List (List Int))) (v0_1 : Int) (v0_5 : Int) : St cxT.ty := { slots := [(.inl (.inl (ls { own := 1, nm := 0, e := 22, o := true, xs := v0_0 }))), (.inl (.inl (lv (.int .i64 v0_1)))), junk, junk, junk, (.inl (.inl (lv (.int .i64 v0_5))))] ++ List.replicate 13 junk, D := [], F := [], ctr := 1, lo := 1 }
def X57_0 (a0 : (List (List Int))) (a1 : Int) (w0_0 : (List (List Int))) (w0_1 : Int) : St cxT.ty := { slots := [(.inl (.inl (ls { own := 1, nm := 0, e := 22, o := true, xs := w0_0 }))), (.inl (.inl (lv (.int .i64 w0_1))))] ++ List.replicate 17 junk, D := [], F := [], ctr := 1, lo := 1 }
theorem i57 (m34 : ((List Int) × Int) → Option (Int × (List Int))) (L : Nat) (a0 : (List (List Int))) (a1 : Int) : evFW prog (ev57 m34) (loopN L) f57 1 (a57.enc (a0, a1)) =
  headF prog (ev57 m34) L f57 0 [1, 0, 1, 0, 0] (outK (outW prog f57 1) (topK prog (ev57 m34) L f57 [1, 0, 1] (outW prog f57 1)).n (topK prog (ev57 m34) L f57 [1, 0, 1] (outW prog f57 1)).x) L (S57_0 a0 a1 a0 a1 (0 : Int)) := by kernel_rfl
theorem r57_0 (m34 : ((List Int) × Int) → Option (Int × (List Int))) (L : Nat) (a0 : (List (List Int))) (a1 : Int) (k : St cxT.ty → Option (List (A cxT.ty))) (xk : Nat → St cxT.ty → Option (List (A cxT.ty))) (g : St cxT.ty → Option (List (A cxT.ty))) (v0_0 : (List (List Int))) (v0_1 : Int) (v0_5 : Int) : roundF prog (ev57 m34) L f57 0 [1, 0, 1, 0, 0] (outK (outW prog f57 1) k xk) g (S57_0 a0 a1 v0_0 v0_1 v0_5) =
  bif (decide (v0_5 < (Nat.cast (List.length v0_0) : Int))) then bif ((decide ((0 : Int) ≤ v0_5)) && (decide (v0_5 < (Nat.cast (List.length v0_0) : Int)))) then tst (m34 ((List.getD v0_0 (Int.toNat v0_5) ([] : List (Int))), v0_1)) ((0 : Int), []) fun (q3 : (Int × (List Int))) => g (S57_0 a0 a1 (List.set v0_0 (Int.toNat v0_5) q3.2) q3.1 (Go.IntKind.wrap Go.IntKind.i64 (v0_5 + (1 : Int))))
    else none
  else k (X57_0 a0 a1 v0_0 v0_1) := by kernel_rfl
theorem t57_0 (m34 : ((List Int) × Int) → Option (Int × (List Int))) (L : Nat) (a0 : (List (List Int))) (a1 : Int) (w0_0 : (List (List Int))) (w0_1 : Int) : (topK prog (ev57 m34) L f57 [1, 0, 1] (outW prog f57 1)).n (X57_0 a0 a1 w0_0 w0_1) =
  some (n57 (w0_1, w0_0)) := by kernel_rfl
def l57_0 (m34 : ((List Int) × Int) → Option (Int × (List Int))) (L : Nat) (a0 : (List (List Int))) (a1 : Int) : Nat → (List (List Int)) → Int → Int → ((List (List Int)) → Int → Option (Int × (List (List Int)))) → Option (Int × (List (List Int)))
  | 0, _, _, _, _ => none
  | n + 1, v0_0, v0_1, v0_5, k =>
    bif (decide (v0_5 < (Nat.cast (List.length v0_0) : Int))) then bif ((decide ((0 : Int) ≤ v0_5)) && (decide (v0_5 < (Nat.cast (List.length v0_0) : Int)))) then tst (m34 ((List.getD v0_0 (Int.toNat v0_5) ([] : List (Int))), v0_1)) ((0 : Int), []) fun (q4 : (Int × (List Int))) => l57_0 m34 L a0 a1 n (List.set v0_0 (Int.toNat v0_5) q4.2) q4.1 (Go.IntKind.wrap Go.IntKind.i64 (v0_5 + (1 : Int))) k
      else none
    else k v0_0 v0_1
theorem h57_0 (m34 : ((List Int) × Int) → Option (Int × (List Int))) (L : Nat) (a0 : (List (List Int))) (a1 : Int) (k : St cxT.ty → Option (List (A cxT.ty))) (xk : Nat → St cxT.ty → Option (List (A cxT.ty))) (k' : (List (List Int)) → Int → Option (Int × (List (List Int)))) (hk : ∀ (w0_0 : (List (List Int))) (w0_1 : Int), k (X57_0 a0 a1 w0_0 w0_1) = (k' w0_0 w0_1).map n57) : ∀ (n : Nat) (v0_0 : (List (List Int))) (v0_1 : Int) (v0_5 : Int), headF prog (ev57 m34) L f57 0 [1, 0, 1, 0, 0] (outK (outW prog f57 1) k xk) n (S57_0 a0 a1 v0_0 v0_1 v0_5) = (l57_0 m34 L a0 a1 n v0_0 v0_1 v0_5 k').map n57
  | 0, _, _, _ => rfl
  | n + 1, v0_0, v0_1, v0_5 => by
    rw [headF_round, r57_0]
    have ih := h57_0 m34 L a0 a1 k xk k' hk n
    simp only [l57_0, map_bif, map_tst, Option.map_some, Option.map_none, ih, hk]
def g57 (m34 : ((List Int) × Int) → Option (Int × (List Int))) (L : Nat) (a0 : (List (List Int))) (a1 : Int) : Option (Int × (List (List Int))) :=
  l57_0 m34 L a0 a1 L a0 a1 (0 : Int) (fun (w0_0 : (List (List Int))) (w0_1 : Int) => some (w0_1, w0_0))
theorem e57 (m34 : ((List Int) × Int) → Option (Int × (List Int))) (L : Nat) (a0 : (List (List Int))) (a1 : Int) : evFW prog (ev57 m34) (loopN L) f57 1 (a57.enc (a0, a1)) = (g57 m34 L a0 a1).map n57 := by
  let K'0 : (List (List Int)) → Int → Option (Int × (List (List Int))) := (fun (w0_0 : (List (List Int))) (w0_1 : Int) => some (w0_1, w0_0))
  have hin0 : ∀ (v0_0 : (List (List Int))) (v0_1 : Int) (v0_5 : Int), headF prog (ev57 m34) L f57 0 [1, 0, 1, 0, 0] (outK (outW prog f57 1) (topK prog (ev57 m34) L f57 [1, 0, 1] (outW prog f57 1)).n (topK prog (ev57 m34) L f57 [1, 0, 1] (outW prog f57 1)).x) L (S57_0 a0 a1 v0_0 v0_1 v0_5) = (l57_0 m34 L a0 a1 L v0_0 v0_1 v0_5 K'0).map n57 := fun v0_0 v0_1 v0_5 => h57_0 m34 L a0 a1 _ _ K'0 (fun w0_0 w0_1 => by rw [t57_0]; simp only [K'0, map_bif, map_tst, Option.map_some, Option.map_none]) L v0_0 v0_1 v0_5
  rw [i57]; simp only [g57, map_bif, map_tst, Option.map_some, Option.map_none, hin0, K'0]
theorem s57 (m34 : ((List Int) × Int) → Option (Int × (List Int))) (h34 : SatW prog cxT 34 (c34 m34).nres (c34 m34).n (c34 m34).F) (m : ((List (List Int)) × Int) → Option (Int × (List (List Int)))) (hm : ∀ (x : ((List (List Int)) × Int)) t, m x = some t → ∃ L, g57 m34 L x.1 x.2 = some t) : SatW prog cxT 57 (c57 m).nres (c57 m).n (c57 m).F :=
  sat_w cxT_ok cxT_pok (by rfl) (fn := f57) rfl rfl a57 n57 dd57 m (ev57 m34) kok_nil (kwok_cons h34 kwok_nil) (fun L x => g57 m34 L x.1 x.2) (fun L x => e57 m34 L x.1 x.2) hm hs57
/-! loop.example/g00222/laws.heldByteSS -/
def ev58 (m54 : ((List Int) × Int) → Option Int) : Env cxT := { Kc := kcOf [(54, c54 m54)], Kw := kwOf [], lv := fun i => if i = 0 then [(0, [some 22]), (1, []), (5, [])] else [], xv := fun i => if i = 0 then some [(1, [])] else none }
def S58_0 (a0 : (List (List Int))) (a1 : Int) (v0_1 : Int) (v0_5 : Int) : St cxT.ty := { slots := [(.inl (.inl (ls { own := 0, nm := 0, e := 22, o := false, xs := a0 }))), (.inl (.inl (lv (.int .i64 v0_1)))), junk, junk, junk, (.inl (.inl (lv (.int .i64 v0_5))))] ++ List.replicate 15 junk, D := [], F := [], ctr := 1 }
def X58_0 (a0 : (List (List Int))) (a1 : Int) (w0_1 : Int) : St cxT.ty := { slots := [junk, (.inl (.inl (lv (.int .i64 w0_1))))] ++ List.replicate 19 junk, D := [], F := [], ctr := 1 }
theorem i58 (m54 : ((List Int) × Int) → Option Int) (L : Nat) (a0 : (List (List Int))) (a1 : Int) : evF prog (ev58 m54) (loopN L) f58 (a58.enc (a0, a1)) =
  headF prog (ev58 m54) L f58 0 [1, 0, 1, 0, 0] (outK (outV prog f58) (topK prog (ev58 m54) L f58 [1, 0, 1] (outV prog f58)).n (topK prog (ev58 m54) L f58 [1, 0, 1] (outV prog f58)).x) L (S58_0 a0 a1 a1 (0 : Int)) := by kernel_rfl
theorem r58_0 (m54 : ((List Int) × Int) → Option Int) (L : Nat) (a0 : (List (List Int))) (a1 : Int) (k : St cxT.ty → Option (V cxT.ty)) (xk : Nat → St cxT.ty → Option (V cxT.ty)) (g : St cxT.ty → Option (V cxT.ty)) (v0_1 : Int) (v0_5 : Int) : roundF prog (ev58 m54) L f58 0 [1, 0, 1, 0, 0] (outK (outV prog f58) k xk) g (S58_0 a0 a1 v0_1 v0_5) =
  bif (decide (v0_5 < (Nat.cast (List.length a0) : Int))) then bif ((decide ((0 : Int) ≤ v0_5)) && (decide (v0_5 < (Nat.cast (List.length a0) : Int)))) then tst (m54 ((List.getD a0 (Int.toNat v0_5) ([] : List (Int))), v0_1)) (0 : Int) fun (q3 : Int) => bif (decide (q3 < (0 : Int))) then some (n58 (-(1 : Int)))
        else g (S58_0 a0 a1 q3 (Go.IntKind.wrap Go.IntKind.i64 (v0_5 + (1 : Int))))
    else none
  else k (X58_0 a0 a1 v0_1) := by kernel_rfl
theorem t58_0 (m54 : ((List Int) × Int) → Option Int) (L : Nat) (a0 : (List (List Int))) (a1 : Int) (w0_1 : Int) : (topK prog (ev58 m54) L f58 [1, 0, 1] (outV prog f58)).n (X58_0 a0 a1 w0_1) =
  some (n58 w0_1) := by kernel_rfl
def l58_0 (m54 : ((List Int) × Int) → Option Int) (L : Nat) (a0 : (List (List Int))) (a1 : Int) : Nat → Int → Int → (Int → Option Int) → Option Int
  | 0, _, _, _ => none
  | n + 1, v0_1, v0_5, k =>
    bif (decide (v0_5 < (Nat.cast (List.length a0) : Int))) then bif ((decide ((0 : Int) ≤ v0_5)) && (decide (v0_5 < (Nat.cast (List.length a0) : Int)))) then tst (m54 ((List.getD a0 (Int.toNat v0_5) ([] : List (Int))), v0_1)) (0 : Int) fun (q4 : Int) => bif (decide (q4 < (0 : Int))) then some (-(1 : Int))
          else l58_0 m54 L a0 a1 n q4 (Go.IntKind.wrap Go.IntKind.i64 (v0_5 + (1 : Int))) k
      else none
    else k v0_1
theorem h58_0 (m54 : ((List Int) × Int) → Option Int) (L : Nat) (a0 : (List (List Int))) (a1 : Int) (k : St cxT.ty → Option (V cxT.ty)) (xk : Nat → St cxT.ty → Option (V cxT.ty)) (k' : Int → Option Int) (hk : ∀ (w0_1 : Int), k (X58_0 a0 a1 w0_1) = (k' w0_1).map n58) : ∀ (n : Nat) (v0_1 : Int) (v0_5 : Int), headF prog (ev58 m54) L f58 0 [1, 0, 1, 0, 0] (outK (outV prog f58) k xk) n (S58_0 a0 a1 v0_1 v0_5) = (l58_0 m54 L a0 a1 n v0_1 v0_5 k').map n58
  | 0, _, _ => rfl
  | n + 1, v0_1, v0_5 => by
    rw [headF_round, r58_0]
    have ih := h58_0 m54 L a0 a1 k xk k' hk n
    simp only [l58_0, map_bif, map_tst, Option.map_some, Option.map_none, ih, hk]
def g58 (m54 : ((List Int) × Int) → Option Int) (L : Nat) (a0 : (List (List Int))) (a1 : Int) : Option Int :=
  l58_0 m54 L a0 a1 L a1 (0 : Int) (fun (w0_1 : Int) => some w0_1)
theorem e58 (m54 : ((List Int) × Int) → Option Int) (L : Nat) (a0 : (List (List Int))) (a1 : Int) : evF prog (ev58 m54) (loopN L) f58 (a58.enc (a0, a1)) = (g58 m54 L a0 a1).map n58 := by
  let K'0 : Int → Option Int := (fun (w0_1 : Int) => some w0_1)
  have hin0 : ∀ (v0_1 : Int) (v0_5 : Int), headF prog (ev58 m54) L f58 0 [1, 0, 1, 0, 0] (outK (outV prog f58) (topK prog (ev58 m54) L f58 [1, 0, 1] (outV prog f58)).n (topK prog (ev58 m54) L f58 [1, 0, 1] (outV prog f58)).x) L (S58_0 a0 a1 v0_1 v0_5) = (l58_0 m54 L a0 a1 L v0_1 v0_5 K'0).map n58 := fun v0_1 v0_5 => h58_0 m54 L a0 a1 _ _ K'0 (fun w0_1 => by rw [t58_0]; simp only [K'0, map_bif, map_tst, Option.map_some, Option.map_none]) L v0_1 v0_5
  rw [i58]; simp only [g58, map_bif, map_tst, Option.map_some, Option.map_none, hin0, K'0]
theorem s58 (m54 : ((List Int) × Int) → Option Int) (h54 : Sat prog cxT 54 (c54 m54)) (m : ((List (List Int)) × Int) → Option Int) (hm : ∀ (x : ((List (List Int)) × Int)) t, m x = some t → ∃ L, g58 m54 L x.1 x.2 = some t) : Sat prog cxT 58 (c58 m) :=
  sat_t cxT_ok cxT_pok (by rfl) (fn := f58) rfl a58 n58 dd58 m (ev58 m54) (kok_cons h54 kok_nil) kwok_nil (fun L x => g58 m54 L x.1 x.2) (fun L x => e58 m54 L x.1 x.2) hm hs58
/-! loop.example/g00222/laws.eqByteSS -/
def ev56 (m32 : ((List Int) × (List Int)) → Option Bool) : Env cxT := { Kc := kcOf [(32, c32 m32)], Kw := kwOf [], lv := fun i => if i = 0 then [(0, [some 22]), (1, [some 22]), (5, [])] else [], xv := fun i => if i = 0 then some [] else none }
def S56_0 (a0 : (List (List Int))) (a1 : (List (List Int))) (v0_5 : Int) : St cxT.ty := { slots := [(.inl (.inl (ls { own := 0, nm := 0, e := 22, o := false, xs := a0 }))), (.inl (.inl (ls { own := 0, nm := 0, e := 22, o := false, xs := a1 }))), junk, junk, junk, (.inl (.inl (lv (.int .i64 v0_5))))] ++ List.replicate 21 junk, D := [], F := [], ctr := 1 }
def X56_0 (a0 : (List (List Int))) (a1 : (List (List Int))) : St cxT.ty := { slots := [] ++ List.replicate 27 junk, D := [], F := [], ctr := 1 }
theorem i56 (m32 : ((List Int) × (List Int)) → Option Bool) (L : Nat) (a0 : (List (List Int))) (a1 : (List (List Int))) : evF prog (ev56 m32) (loopN L) f56 (a56.enc (a0, a1)) =
  bif ((Nat.cast (List.length a0) : Int) != (Nat.cast (List.length a1) : Int)) then some (n56 Bool.false)
  else headF prog (ev56 m32) L f56 0 [1, 1, 0, 1, 0, 0] (outK (outV prog f56) (topK prog (ev56 m32) L f56 [1, 1, 0, 1] (outV prog f56)).n (topK prog (ev56 m32) L f56 [1, 1, 0, 1] (outV prog f56)).x) L (S56_0 a0 a1 (0 : Int)) := by kernel_rfl
theorem r56_0 (m32 : ((List Int) × (List Int)) → Option Bool) (L : Nat) (a0 : (List (List Int))) (a1 : (List (List Int))) (k : St cxT.ty → Option (V cxT.ty)) (xk : Nat → St cxT.ty → Option (V cxT.ty)) (g : St cxT.ty → Option (V cxT.ty)) (v0_5 : Int) : roundF prog (ev56 m32) L f56 0 [1, 1, 0, 1, 0, 0] (outK (outV prog f56) k xk) g (S56_0 a0 a1 v0_5) =
  bif (decide (v0_5 < (Nat.cast (List.length a0) : Int))) then bif ((decide ((0 : Int) ≤ v0_5)) && (decide (v0_5 < (Nat.cast (List.length a0) : Int)))) then bif ((decide ((0 : Int) ≤ v0_5)) && (decide (v0_5 < (Nat.cast (List.length a1) : Int)))) then tst (m32 ((List.getD a0 (Int.toNat v0_5) ([] : List (Int))), (List.getD a1 (Int.toNat v0_5) ([] : List (Int))))) false fun (q4 : Bool) => bif (!q4) then some (n56 Bool.false)
          else g (S56_0 a0 a1 (Go.IntKind.wrap Go.IntKind.i64 (v0_5 + (1 : Int))))
      else none
    else none
  else k (X56_0 a0 a1) := by kernel_rfl
theorem t56_0 (m32 : ((List Int) × (List Int)) → Option Bool) (L : Nat) (a0 : (List (List Int))) (a1 : (List (List Int))) : (topK prog (ev56 m32) L f56 [1, 1, 0, 1] (outV prog f56)).n (X56_0 a0 a1) =
  some (n56 Bool.true) := by kernel_rfl
def l56_0 (m32 : ((List Int) × (List Int)) → Option Bool) (L : Nat) (a0 : (List (List Int))) (a1 : (List (List Int))) : Nat → Int → (Option Bool) → Option Bool
  | 0, _, _ => none
  | n + 1, v0_5, k =>
    bif (decide (v0_5 < (Nat.cast (List.length a0) : Int))) then bif ((decide ((0 : Int) ≤ v0_5)) && (decide (v0_5 < (Nat.cast (List.length a0) : Int)))) then bif ((decide ((0 : Int) ≤ v0_5)) && (decide (v0_5 < (Nat.cast (List.length a1) : Int)))) then tst (m32 ((List.getD a0 (Int.toNat v0_5) ([] : List (Int))), (List.getD a1 (Int.toNat v0_5) ([] : List (Int))))) false fun (q5 : Bool) => bif (!q5) then some Bool.false
            else l56_0 m32 L a0 a1 n (Go.IntKind.wrap Go.IntKind.i64 (v0_5 + (1 : Int))) k
        else none
      else none
    else k
theorem h56_0 (m32 : ((List Int) × (List Int)) → Option Bool) (L : Nat) (a0 : (List (List Int))) (a1 : (List (List Int))) (k : St cxT.ty → Option (V cxT.ty)) (xk : Nat → St cxT.ty → Option (V cxT.ty)) (k' : Option Bool) (hk : k (X56_0 a0 a1) = (k').map n56) : ∀ (n : Nat) (v0_5 : Int), headF prog (ev56 m32) L f56 0 [1, 1, 0, 1, 0, 0] (outK (outV prog f56) k xk) n (S56_0 a0 a1 v0_5) = (l56_0 m32 L a0 a1 n v0_5 k').map n56
  | 0, _ => rfl
  | n + 1, v0_5 => by
    rw [headF_round, r56_0]
    have ih := h56_0 m32 L a0 a1 k xk k' hk n
    simp only [l56_0, map_bif, map_tst, Option.map_some, Option.map_none, ih, hk]
def g56 (m32 : ((List Int) × (List Int)) → Option Bool) (L : Nat) (a0 : (List (List Int))) (a1 : (List (List Int))) : Option Bool :=
  bif ((Nat.cast (List.length a0) : Int) != (Nat.cast (List.length a1) : Int)) then some Bool.false
  else l56_0 m32 L a0 a1 L (0 : Int) (some Bool.true)
theorem e56 (m32 : ((List Int) × (List Int)) → Option Bool) (L : Nat) (a0 : (List (List Int))) (a1 : (List (List Int))) : evF prog (ev56 m32) (loopN L) f56 (a56.enc (a0, a1)) = (g56 m32 L a0 a1).map n56 := by
  let K'0 : Option Bool := (some Bool.true)
  have hin0 : ∀ (v0_5 : Int), headF prog (ev56 m32) L f56 0 [1, 1, 0, 1, 0, 0] (outK (outV prog f56) (topK prog (ev56 m32) L f56 [1, 1, 0, 1] (outV prog f56)).n (topK prog (ev56 m32) L f56 [1, 1, 0, 1] (outV prog f56)).x) L (S56_0 a0 a1 v0_5) = (l56_0 m32 L a0 a1 L v0_5 K'0).map n56 := fun v0_5 => h56_0 m32 L a0 a1 _ _ K'0 (by rw [t56_0]; simp only [K'0, map_bif, map_tst, Option.map_some, Option.map_none]) L v0_5
  rw [i56]; simp only [g56, map_bif, map_tst, Option.map_some, Option.map_none, hin0, K'0]
theorem s56 (m32 : ((List Int) × (List Int)) → Option Bool) (h32 : Sat prog cxT 32 (c32 m32)) (m : ((List (List Int)) × (List (List Int))) → Option Bool) (hm : ∀ (x : ((List (List Int)) × (List (List Int)))) t, m x = some t → ∃ L, g56 m32 L x.1 x.2 = some t) : Sat prog cxT 56 (c56 m) :=
  sat_t cxT_ok cxT_pok (by rfl) (fn := f56) rfl a56 n56 dd56 m (ev56 m32) (kok_cons h32 kok_nil) kwok_nil (fun L x => g56 m32 L x.1 x.2) (fun L x => e56 m32 L x.1 x.2) hm hs56
/-! loop.example/g00222/laws.eqFramesResult -/
def ev36 (m56 : ((List (List Int)) × (List (List Int))) → Option Bool) : Env cxT := { Kc := kcOf [(56, c56 m56)], Kw := kwOf [], lv := fun i => [], xv := fun i => none }
theorem i36 (m56 : ((List (List Int)) × (List (List Int))) → Option Bool) (L : Nat) (a0_0 : Int) (a0_1 : Int) (a0_2 : (List (List Int))) (a1_0 : Int) (a1_1 : Int) (a1_2 : (List (List Int))) : evF prog (ev36 m56) (loopN L) f36 (a36.enc ((a0_0, a0_1, a0_2), (a1_0, a1_1, a1_2))) =
  bif (a0_0 != a1_0) then some (n36 Bool.false)
  else bif (a0_1 != a1_1) then some (n36 Bool.false)
  else tst (m56 (a0_2, a1_2)) false fun (q1 : Bool) => bif (!q1) then some (n36 Bool.false)
    else some (n36 Bool.true) := by kernel_rfl
def g36 (m56 : ((List (List Int)) × (List (List Int))) → Option Bool) (L : Nat) (a0_0 : Int) (a0_1 : Int) (a0_2 : (List (List Int))) (a1_0 : Int) (a1_1 : Int) (a1_2 : (List (List Int))) : Option Bool :=
  bif (a0_0 != a1_0) then some Bool.false
  else bif (a0_1 != a1_1) then some Bool.false
  else tst (m56 (a0_2, a1_2)) false fun (q1 : Bool) => bif (!q1) then some Bool.false
    else some Bool.true
theorem e36 (m56 : ((List (List Int)) × (List (List Int))) → Option Bool) (L : Nat) (a0_0 : Int) (a0_1 : Int) (a0_2 : (List (List Int))) (a1_0 : Int) (a1_1 : Int) (a1_2 : (List (List Int))) : evF prog (ev36 m56) (loopN L) f36 (a36.enc ((a0_0, a0_1, a0_2), (a1_0, a1_1, a1_2))) = (g36 m56 L a0_0 a0_1 a0_2 a1_0 a1_1 a1_2).map n36 := by
  rw [i36]; simp only [g36, map_bif, map_tst, Option.map_some, Option.map_none]
theorem s36 (m56 : ((List (List Int)) × (List (List Int))) → Option Bool) (h56 : Sat prog cxT 56 (c56 m56)) (m : ((Int × Int × (List (List Int))) × (Int × Int × (List (List Int)))) → Option Bool) (hm : ∀ (x : ((Int × Int × (List (List Int))) × (Int × Int × (List (List Int))))) t, m x = some t → ∃ L, g36 m56 L x.1.1 x.1.2.1 x.1.2.2 x.2.1 x.2.2.1 x.2.2.2 = some t) : Sat prog cxT 36 (c36 m) :=
  sat_t cxT_ok cxT_pok (by rfl) (fn := f36) rfl a36 n36 dd36 m (ev36 m56) (kok_cons h56 kok_nil) kwok_nil (fun L x => g36 m56 L x.1.1 x.1.2.1 x.1.2.2 x.2.1 x.2.2.1 x.2.2.2) (fun L x => e36 m56 L x.1.1 x.1.2.1 x.1.2.2 x.2.1 x.2.2.1 x.2.2.2) hm hs36
/-! loop.example/g00222/laws.markFramesResult -/
def ev37 (m57 : ((List (List Int)) × Int) → Option (Int × (List (List Int)))) : Env cxT := { Kc := kcOf [], Kw := kwOf [(57, c57 m57)], lv := fun i => [], xv := fun i => none }
theorem i37 (m57 : ((List (List Int)) × Int) → Option (Int × (List (List Int)))) (L : Nat) (a0_0 : Int) (a0_1 : Int) (a0_2 : (List (List Int))) (a1 : Int) : evFW prog (ev37 m57) (loopN L) f37 1 (a37.enc ((a0_0, a0_1, a0_2), a1)) =
  tst (m57 (a0_2, a1)) ((0 : Int), []) fun (q1 : (Int × (List (List Int)))) => some (n37 (q1.1, a0_0, a0_1, q1.2)) := by kernel_rfl
def g37 (m57 : ((List (List Int)) × Int) → Option (Int × (List (List Int)))) (L : Nat) (a0_0 : Int) (a0_1 : Int) (a0_2 : (List (List Int))) (a1 : Int) : Option (Int × Int × Int × (List (List Int))) :=
  tst (m57 (a0_2, a1)) ((0 : Int), []) fun (q1 : (Int × (List (List Int)))) => some (q1.1, a0_0, a0_1, q1.2)
theorem e37 (m57 : ((List (List Int)) × Int) → Option (Int × (List (List Int)))) (L : Nat) (a0_0 : Int) (a0_1 : Int) (a0_2 : (List (List Int))) (a1 : Int) : evFW prog (ev37 m57) (loopN L) f37 1 (a37.enc ((a0_0, a0_1, a0_2), a1)) = (g37 m57 L a0_0 a0_1 a0_2 a1).map n37 := by
  rw [i37]; simp only [g37, map_bif, map_tst, Option.map_some, Option.map_none]
theorem s37 (m57 : ((List (List Int)) × Int) → Option (Int × (List (List Int)))) (h57 : SatW prog cxT 57 (c57 m57).nres (c57 m57).n (c57 m57).F) (m : ((Int × Int × (List (List Int))) × Int) → Option (Int × Int × Int × (List (List Int)))) (hm : ∀ (x : ((Int × Int × (List (List Int))) × Int)) t, m x = some t → ∃ L, g37 m57 L x.1.1 x.1.2.1 x.1.2.2 x.2 = some t) : SatW prog cxT 37 (c37 m).nres (c37 m).n (c37 m).F :=
  sat_w cxT_ok cxT_pok (by rfl) (fn := f37) rfl rfl a37 n37 dd37 m (ev37 m57) kok_nil (kwok_cons h57 kwok_nil) (fun L x => g37 m57 L x.1.1 x.1.2.1 x.1.2.2 x.2) (fun L x => e37 m57 L x.1.1 x.1.2.1 x.1.2.2 x.2) hm hs37
/-! loop.example/g00222/laws.heldFramesResult -/
def ev38 (m58 : ((List (List Int)) × Int) → Option Int) : Env cxT := { Kc := kcOf [(58, c58 m58)], Kw := kwOf [], lv := fun i => [], xv := fun i => none }
theorem i38 (m58 : ((List (List Int)) × Int) → Option Int) (L : Nat) (a0_0 : Int) (a0_1 : Int) (a0_2 : (List (List Int))) (a1 : Int) : evF prog (ev38 m58) (loopN L) f38 (a38.enc ((a0_0, a0_1, a0_2), a1)) =
  tst (m58 (a0_2, a1)) (0 : Int) fun (q1 : Int) => bif (decide (q1 < (0 : Int))) then some (n38 (-(1 : Int)))
    else some (n38 q1) := by kernel_rfl
def g38 (m58 : ((List (List Int)) × Int) → Option Int) (L : Nat) (a0_0 : Int) (a0_1 : Int) (a0_2 : (List (List Int))) (a1 : Int) : Option Int :=
  tst (m58 (a0_2, a1)) (0 : Int) fun (q1 : Int) => bif (decide (q1 < (0 : Int))) then some (-(1 : Int))
    else some q1
theorem e38 (m58 : ((List (List Int)) × Int) → Option Int) (L : Nat) (a0_0 : Int) (a0_1 : Int) (a0_2 : (List (List Int))) (a1 : Int) : evF prog (ev38 m58) (loopN L) f38 (a38.enc ((a0_0, a0_1, a0_2), a1)) = (g38 m58 L a0_0 a0_1 a0_2 a1).map n38 := by
  rw [i38]; simp only [g38, map_bif, map_tst, Option.map_some, Option.map_none]
theorem s38 (m58 : ((List (List Int)) × Int) → Option Int) (h58 : Sat prog cxT 58 (c58 m58)) (m : ((Int × Int × (List (List Int))) × Int) → Option Int) (hm : ∀ (x : ((Int × Int × (List (List Int))) × Int)) t, m x = some t → ∃ L, g38 m58 L x.1.1 x.1.2.1 x.1.2.2 x.2 = some t) : Sat prog cxT 38 (c38 m) :=
  sat_t cxT_ok cxT_pok (by rfl) (fn := f38) rfl a38 n38 dd38 m (ev38 m58) (kok_cons h58 kok_nil) kwok_nil (fun L x => g38 m58 L x.1.1 x.1.2.1 x.1.2.2 x.2) (fun L x => e38 m58 L x.1.1 x.1.2.1 x.1.2.2 x.2) hm hs38
/-! loop.example/g00222/laws.FnExactTakeFrames -/
def ev11 (m30 : (List Int) → Option (List Int)) (m35 : (List Int) → Option (Int × Int × (List (List Int)))) (m25 : (List Int) → Option (Int × Int × (List (List Int)))) (m36 : ((Int × Int × (List (List Int))) × (Int × Int × (List (List Int)))) → Option Bool) (m32 : ((List Int) × (List Int)) → Option Bool) (m34 : ((List Int) × Int) → Option (Int × (List Int))) (m37 : ((Int × Int × (List (List Int))) × Int) → Option (Int × Int × Int × (List (List Int)))) (m38 : ((Int × Int × (List (List Int))) × Int) → Option Int) : Env cxT := { Kc := kcOf [(30, c30 m30), (35, c35 m35), (25, c25 m25), (36, c36 m36), (32, c32 m32), (38, c38 m38)], Kw := kwOf [(34, c34 m34), (37, c37 m37)], lv := fun i => [], xv := fun i => none }
theorem i11 (m30 : (List Int) → Option (List Int)) (m35 : (List Int) → Option (Int × Int × (List (List Int)))) (m25 : (List Int) → Option (Int × Int × (List (List Int)))) (m36 : ((Int × Int × (List (List Int))) × (Int × Int × (List (List Int)))) → Option Bool) (m32 : ((List Int) × (List Int)) → Option Bool) (m34 : ((List Int) × Int) → Option (Int × (List Int))) (m37 : ((Int × Int × (List (List Int))) × Int) → Option (Int × Int × Int × (List (List Int)))) (m38 : ((Int × Int × (List (List Int))) × Int) → Option Int) (L : Nat) (a0 : (List Int)) : evFL prog (ev11 m30 m35 m25 m36 m32 m34 m37 m38) (loopN L) f11 (a11.enc a0) =
  bif (decide ((Nat.cast (List.length a0) : Int) > (1048576 : Int))) then some (n11 Bool.true)
  else tst (m30 a0) [] fun (q1 : (List Int)) => tst (m35 q1) ((0 : Int), (0 : Int), []) fun (q2 : (Int × Int × (List (List Int)))) => tst (m30 a0) [] fun (q3 : (List Int)) => tst (m25 q1) ((0 : Int), (0 : Int), []) fun (q4 : (Int × Int × (List (List Int)))) => tst (m36 ((q4.1, (q4.2.1, q4.2.2)), (q2.1, (q2.2.1, q2.2.2)))) false fun (q5 : Bool) => bif (!q5) then some (n11 Bool.false)
            else tst (m30 a0) [] fun (q6 : (List Int)) => tst (m32 (q1, q1)) false fun (q7 : Bool) => bif (!q7) then some (n11 Bool.false)
                else tst (m34 (q1, (1 : Int))) ((0 : Int), []) fun (q8 : (Int × (List Int))) => bif (decide (q8.1 < (0 : Int))) then some (n11 Bool.false)
                  else tst (m36 ((q4.1, (q4.2.1, q4.2.2)), (q2.1, (q2.2.1, q2.2.2)))) false fun (q9 : Bool) => bif (!q5) then some (n11 Bool.false)
                    else tst (m37 ((q4.1, (q4.2.1, q4.2.2)), (1 : Int))) ((0 : Int), (0 : Int), (0 : Int), []) fun (q10 : (Int × Int × Int × (List (List Int)))) => tst (m38 ((q4.1, (q4.2.1, q10.2.2.2)), (1 : Int))) (0 : Int) fun (q11 : Int) => bif (decide (q11 < (0 : Int))) then some (n11 Bool.false)
                        else bif (q11 != q10.1) then some (n11 Bool.false)
                        else tst (m30 a0) [] fun (q12 : (List Int)) => tst (m25 q1) ((0 : Int), (0 : Int), []) fun (q13 : (Int × Int × (List (List Int)))) => tst (m36 ((q4.1, (q4.2.1, q4.2.2)), (q2.1, (q2.2.1, q2.2.2)))) false fun (q14 : Bool) => bif (!q5) then some (n11 Bool.false)
                              else tst (m38 ((q4.1, (q4.2.1, q10.2.2.2)), (1 : Int))) (0 : Int) fun (q15 : Int) => bif (decide (q11 < (0 : Int))) then some (n11 Bool.false)
                                else bif (q11 != q10.1) then some (n11 Bool.false)
                                else some (n11 Bool.true) := by kernel_rfl
def g11 (m30 : (List Int) → Option (List Int)) (m35 : (List Int) → Option (Int × Int × (List (List Int)))) (m25 : (List Int) → Option (Int × Int × (List (List Int)))) (m36 : ((Int × Int × (List (List Int))) × (Int × Int × (List (List Int)))) → Option Bool) (m32 : ((List Int) × (List Int)) → Option Bool) (m34 : ((List Int) × Int) → Option (Int × (List Int))) (m37 : ((Int × Int × (List (List Int))) × Int) → Option (Int × Int × Int × (List (List Int)))) (m38 : ((Int × Int × (List (List Int))) × Int) → Option Int) (L : Nat) (a0 : (List Int)) : Option Bool :=
  bif (decide ((Nat.cast (List.length a0) : Int) > (1048576 : Int))) then some Bool.true
  else tst (m30 a0) [] fun (q1 : (List Int)) => tst (m35 q1) ((0 : Int), (0 : Int), []) fun (q2 : (Int × Int × (List (List Int)))) => tst (m30 a0) [] fun (q3 : (List Int)) => tst (m25 q1) ((0 : Int), (0 : Int), []) fun (q4 : (Int × Int × (List (List Int)))) => tst (m36 ((q4.1, (q4.2.1, q4.2.2)), (q2.1, (q2.2.1, q2.2.2)))) false fun (q5 : Bool) => bif (!q5) then some Bool.false
            else tst (m30 a0) [] fun (q6 : (List Int)) => tst (m32 (q1, q1)) false fun (q7 : Bool) => bif (!q7) then some Bool.false
                else tst (m34 (q1, (1 : Int))) ((0 : Int), []) fun (q8 : (Int × (List Int))) => bif (decide (q8.1 < (0 : Int))) then some Bool.false
                  else tst (m36 ((q4.1, (q4.2.1, q4.2.2)), (q2.1, (q2.2.1, q2.2.2)))) false fun (q9 : Bool) => bif (!q5) then some Bool.false
                    else tst (m37 ((q4.1, (q4.2.1, q4.2.2)), (1 : Int))) ((0 : Int), (0 : Int), (0 : Int), []) fun (q10 : (Int × Int × Int × (List (List Int)))) => tst (m38 ((q4.1, (q4.2.1, q10.2.2.2)), (1 : Int))) (0 : Int) fun (q11 : Int) => bif (decide (q11 < (0 : Int))) then some Bool.false
                        else bif (q11 != q10.1) then some Bool.false
                        else tst (m30 a0) [] fun (q12 : (List Int)) => tst (m25 q1) ((0 : Int), (0 : Int), []) fun (q13 : (Int × Int × (List (List Int)))) => tst (m36 ((q4.1, (q4.2.1, q4.2.2)), (q2.1, (q2.2.1, q2.2.2)))) false fun (q14 : Bool) => bif (!q5) then some Bool.false
                              else tst (m38 ((q4.1, (q4.2.1, q10.2.2.2)), (1 : Int))) (0 : Int) fun (q15 : Int) => bif (decide (q11 < (0 : Int))) then some Bool.false
                                else bif (q11 != q10.1) then some Bool.false
                                else some Bool.true
theorem e11 (m30 : (List Int) → Option (List Int)) (m35 : (List Int) → Option (Int × Int × (List (List Int)))) (m25 : (List Int) → Option (Int × Int × (List (List Int)))) (m36 : ((Int × Int × (List (List Int))) × (Int × Int × (List (List Int)))) → Option Bool) (m32 : ((List Int) × (List Int)) → Option Bool) (m34 : ((List Int) × Int) → Option (Int × (List Int))) (m37 : ((Int × Int × (List (List Int))) × Int) → Option (Int × Int × Int × (List (List Int)))) (m38 : ((Int × Int × (List (List Int))) × Int) → Option Int) (L : Nat) (a0 : (List Int)) : evFL prog (ev11 m30 m35 m25 m36 m32 m34 m37 m38) (loopN L) f11 (a11.enc a0) = (g11 m30 m35 m25 m36 m32 m34 m37 m38 L a0).map n11 := by
  rw [i11]; simp only [g11, map_bif, map_tst, Option.map_some, Option.map_none]
theorem s11 (m30 : (List Int) → Option (List Int)) (m35 : (List Int) → Option (Int × Int × (List (List Int)))) (m25 : (List Int) → Option (Int × Int × (List (List Int)))) (m36 : ((Int × Int × (List (List Int))) × (Int × Int × (List (List Int)))) → Option Bool) (m32 : ((List Int) × (List Int)) → Option Bool) (m34 : ((List Int) × Int) → Option (Int × (List Int))) (m37 : ((Int × Int × (List (List Int))) × Int) → Option (Int × Int × Int × (List (List Int)))) (m38 : ((Int × Int × (List (List Int))) × Int) → Option Int) (h30 : Sat prog cxT 30 (c30 m30)) (h35 : Sat prog cxT 35 (c35 m35)) (h25 : Sat prog cxT 25 (c25 m25)) (h36 : Sat prog cxT 36 (c36 m36)) (h32 : Sat prog cxT 32 (c32 m32)) (h34 : SatW prog cxT 34 (c34 m34).nres (c34 m34).n (c34 m34).F) (h37 : SatW prog cxT 37 (c37 m37).nres (c37 m37).n (c37 m37).F) (h38 : Sat prog cxT 38 (c38 m38)) (m : (List Int) → Option Bool) (hm : ∀ (x : (List Int)) t, m x = some t → ∃ L, g11 m30 m35 m25 m36 m32 m34 m37 m38 L x = some t) : Sat prog cxT 11 (c11 m) :=
  sat_l cxT_ok cxT_pok (by rfl) (fn := f11) rfl a11 n11 dd11 m (ev11 m30 m35 m25 m36 m32 m34 m37 m38) (kok_cons h30 (kok_cons h35 (kok_cons h25 (kok_cons h36 (kok_cons h32 (kok_cons h38 kok_nil)))))) (kwok_cons h34 (kwok_cons h37 kwok_nil)) (fun L x => g11 m30 m35 m25 m36 m32 m34 m37 m38 L x) (fun L x => e11 m30 m35 m25 m36 m32 m34 m37 m38 L x) hm hs11
end Go.Proofs.Try

set_option maxHeartbeats 0
set_option linter.unusedVariables false
set_option linter.unusedSimpArgs false
namespace Go.Proofs.Try
open Go Go.VM Go.RowKit

/-! TakeFrames -/
def tkf (a : List Int) : Int × Int × List (List Int) := if a.length > 600 then (2, 0, []) else (0, ((tf (a.length + 1) a).2 : Int), (tf (a.length + 1) a).1)
def mTkf (a : List Int) : Option (Int × Int × List (List Int)) := if okB a = true ∧ a.length ≤ 1000000000000 then some (tkf a) else none
theorem sat25k : Sat prog cxT 25 (c25 mTkf) := s25 m53 m51 sat53 sat51 mTkf fun x t h => by
  unfold mTkf at h
  split at h
  · rename_i hc
    cases h
    refine ⟨x.length + 1, ?_⟩
    unfold g25 tkf
    by_cases hl : x.length > 600
    · rw [dt (by omega), if_pos hl]; rfl
    · rw [df (by omega), cond_false, if_neg hl]
      have := loop25 (x.length + 1) x hc.1 (by omega) 0 0 [] none (x.length + 1) 0 [] (by omega) (by omega) (by simp)
      simpa using this
  · cases h
theorem tf_none {n : Nat} {a : List Int} (h : first a = none) : tf (n + 1) a = ([], 0) := by unfold tf; rw [h]
theorem tf_some {n : Nat} {a i : List Int} (h : first a = some i) : tf (n + 1) a = (i :: (tf n (a.drop (4 + i.length))).1, 4 + i.length + (tf n (a.drop (4 + i.length))).2) := by
  show (match first a with
    | some i => (i :: (tf n (a.drop (4 + i.length))).1, 4 + i.length + (tf n (a.drop (4 + i.length))).2)
    | none => ([], 0)) = _
  rw [h]
theorem loop35 (L : Nat) (a : List Int) (h : okB a = true) (hl : a.length ≤ 600) (x y c : Int) (z : List (List Int)) (k : Option (Int × Int × List (List Int))) : ∀ (n used : Nat) (o : List (List Int)), used ≤ a.length → a.length - used < n → o.length ≤ used →
    l35_0 m55 m20 L a n x y z c (used : Int) o k = some (c, ((used + (tf n (a.drop used)).2 : Nat) : Int), o ++ (tf n (a.drop used)).1)
  | 0, used, o, h1, h2, h3 => by omega
  | n + 1, used, o, h1, h2, h3 => by
    rw [l35_0, dt (show (0 : Int) ≤ (used : Int) by omega), dt (show (used : Int) ≤ (a.length : Int) by omega), dt (Int.le_refl _), Bool.and_self, Bool.and_self, cond_true]
    have ed : List.drop (Int.toNat (used : Int)) (List.take (Int.toNat (Nat.cast a.length : Int)) a) = a.drop used := by simp
    rw [ed]
    have hb := okB_drop h used
    have hbl : (a.drop used).length ≤ 600 := by simp; omega
    have hbl2 : (a.drop used).length = a.length - used := by simp
    generalize hbd : a.drop used = b at hb hbl hbl2 ⊢
    by_cases h4 : 4 ≤ b.length
    · rw [df (by omega), cond_false]
      have e1 : m55 (b, 0, 2) = some (num (b.take 2) 0) := if_pos ⟨hb, by show b.length ≤ _; omega, by show (0 : Int) ≤ 0; decide, by show (0 : Int) ≤ 2; decide, by show (2 : Int) ≤ 6; decide, by show (0 : Int) + 2 ≤ b.length; omega⟩
      have e2 : m55 (b, 2, 2) = some (num ((b.drop 2).take 2) 0) := if_pos ⟨hb, by show b.length ≤ _; omega, by show (0 : Int) ≤ 2; decide, by show (0 : Int) ≤ 2; decide, by show (2 : Int) ≤ 6; decide, by show (2 : Int) + 2 ≤ b.length; omega⟩
      rw [e1, tst_some]
      have b1 := num2_in (okB_take hb 2) (by simp; omega)
      by_cases h5 : num (b.take 2) 0 ≤ 250
      · rw [df (by omega), cond_false]
        have w : IntKind.wrap .i64 (4 + num (b.take 2) 0) = 4 + num (b.take 2) 0 := wi (by omega) (by omega)
        rw [w]
        by_cases h6 : 4 + num (b.take 2) 0 ≤ b.length
        · rw [df (by omega), cond_false, dt (show (0 : Int) ≤ 4 by decide), dt (show (4 : Int) ≤ 4 + num (b.take 2) 0 by omega), dt h6]
          have e3 : List.drop (Int.toNat 4) (List.take (4 + num (b.take 2) 0).toNat b) = (b.drop 4).take (num (b.take 2) 0).toNat := by
            rw [show (4 + num (b.take 2) 0).toNat = 4 + (num (b.take 2) 0).toNat by omega]
            show List.drop 4 _ = _
            rw [List.drop_take]
            congr 1
            omega
          rw [e3]
          have e20 : m20 ((b.drop 4).take (num (b.take 2) 0).toNat) = some (sumW ((b.drop 4).take (num (b.take 2) 0).toNat)) := if_pos ⟨okB_take (okB_drop hb 4) _, by simp; omega⟩
          have hil : ((b.drop 4).take (num (b.take 2) 0).toNat).length = (num (b.take 2) 0).toNat := by simp; omega
          rw [Bool.and_self, Bool.and_self, cond_true, e20, tst_some, e2, tst_some]
          by_cases h7 : sumW ((b.drop 4).take (num (b.take 2) 0).toNat) = num ((b.drop 2).take 2) 0
          · have hf : first b = some ((b.drop 4).take (num (b.take 2) 0).toNat) := if_pos ⟨h4, h5, h6, h7⟩
            rw [bneF h7, cond_false]
            simp only [Bool.and_self, cond_true, List.nil_append]
            rw [dt (by simp only [List.length_nil]; omega), cond_true, dt (by simp only [List.length_cons, List.length_nil]; omega), cond_true]
            rw [tf_some hf, hil]
            have w2 : IntKind.wrap .i64 (IntKind.wrap .i64 ((used : Int) + 4) + num (b.take 2) 0) = ((used + (4 + (num (b.take 2) 0).toNat) : Nat) : Int) := by
              rw [wi (x := (used : Int) + 4) (by omega) (by omega), wi (by omega) (by omega)]; omega
            rw [w2, loop35 L a h hl x y c z k n (used + (4 + (num (b.take 2) 0).toNat)) (o ++ [(b.drop 4).take (num (b.take 2) 0).toNat]) (by omega) (by omega) (by simp; omega)]
            rw [← List.drop_drop, hbd]
            simp only [List.append_assoc, List.singleton_append]
            congr 3
            omega
          · have hf : first b = none := if_neg (fun hh => h7 hh.2.2.2)
            rw [bneT h7, cond_true, tf_none hf]
            simp
        · have hf : first b = none := if_neg (fun hh => h6 hh.2.2.1)
          rw [dt (by omega), cond_true, tf_none hf]
          simp
      · have hf : first b = none := if_neg (fun hh => h5 hh.2.1)
        rw [dt (by omega), cond_true, tf_none hf]
        simp
    · have hf : first b = none := if_neg (fun hh => h4 hh.1)
      rw [dt (by omega), cond_true, tf_none hf]
      simp
theorem sat35 : Sat prog cxT 35 (c35 mTkf) := s35 m55 m20 sat55 sat20 mTkf fun x t h => by
  unfold mTkf at h
  split at h
  · rename_i hc
    cases h
    refine ⟨x.length + 1, ?_⟩
    unfold g35 tkf
    by_cases hl : x.length > 600
    · rw [dt (by omega), if_pos hl]; rfl
    · rw [df (by omega), cond_false, if_neg hl]
      have := loop35 (x.length + 1) x hc.1 (by omega) 0 0 0 [] none (x.length + 1) 0 [] (by omega) (by omega) (by simp)
      simpa using this
  · cases h

/-! marks in rows of rows -/
def tot (rs : List (List Int)) : Nat := (rs.map List.length).sum
theorem tot_cons (r : List Int) (rs : List (List Int)) : tot (r :: rs) = r.length + tot rs := rfl
def mkR : Int → List (List Int) → List (List Int)
  | _, [] => []
  | k, r :: rs => mkB k r.length :: mkR (k + r.length) rs
theorem mkR_cons (k : Int) (r : List Int) (rs : List (List Int)) : mkR k (r :: rs) = mkB k r.length :: mkR (k + r.length) rs := rfl
theorem mkR_len : ∀ (k : Int) (rs : List (List Int)), (mkR k rs).length = rs.length
  | _, [] => rfl
  | k, r :: rs => by rw [mkR_cons, List.length_cons, mkR_len, List.length_cons]
theorem mkR_tot : ∀ (k : Int) (rs : List (List Int)), tot (mkR k rs) = tot rs
  | _, [] => rfl
  | k, r :: rs => by rw [mkR_cons, tot_cons, mkR_tot, tot_cons, mkB_len]
theorem mkR_mkR : ∀ (k : Int) (rs : List (List Int)), mkR k (mkR k rs) = mkR k rs
  | _, [] => rfl
  | k, r :: rs => by rw [mkR_cons, mkR_cons, mkB_len, mkR_mkR]
def m57 (x : List (List Int) × Int) : Option (Int × List (List Int)) := if 0 ≤ x.2 ∧ x.2 + tot x.1 ≤ 1000000000 ∧ x.1.length ≤ 1000000000 then some (x.2 + tot x.1, mkR x.2 x.1) else none
theorem p57 (L : Nat) (a : List (List Int)) (c : Int) (K : List (List Int) → Int → Option (Int × List (List Int))) : ∀ (rest dn : List (List Int)) (n : Nat) (k : Int), rest.length < n → 0 ≤ k → k + tot rest ≤ 1000000000 → dn.length + rest.length ≤ 1000000000 →
    l57_0 m34 L a c n (dn ++ rest) k (dn.length : Int) K = K (dn ++ mkR k rest) (k + tot rest)
  | rest, dn, 0, k, h, _, _, _ => by omega
  | [], dn, n + 1, k, _, _, _, _ => by
    unfold l57_0
    rw [df (by simp)]
    simp [mkR, tot]
  | r :: rest, dn, n + 1, k, h1, h2, h3, h4 => by
    rw [tot_cons] at h3
    simp only [List.length_cons] at h1 h4
    unfold l57_0
    have hl : (dn.length : Int) < ((dn ++ r :: rest).length : Int) := by simp; omega
    rw [dt hl, dt (show (0 : Int) ≤ (dn.length : Int) by omega), Bool.and_self, cond_true, cond_true, Int.toNat_natCast]
    have hg : (dn ++ r :: rest).getD dn.length [] = r := by simp [List.getD]
    have hs : ∀ x, (dn ++ r :: rest).set dn.length x = (dn ++ [x]) ++ rest := fun x => by simp
    have e34 : m34 (r, k) = some (k + r.length, mkB k r.length) := if_pos ⟨h2, by show k ≤ _; omega, by show r.length ≤ _; omega⟩
    rw [hg, e34, tst_some, hs]
    have w : IntKind.wrap .i64 ((dn.length : Int) + 1) = (((dn ++ [mkB k r.length]).length : Nat) : Int) := by rw [wi (by omega) (by omega)]; simp
    rw [w, p57 L a c K rest (dn ++ [mkB k r.length]) n (k + r.length) (by omega) (by omega) (by omega) (by simp; omega)]
    rw [mkR_cons, tot_cons]
    simp only [List.append_assoc, List.singleton_append]
    congr 1
    omega
theorem sat57 : SatW prog cxT 57 (c57 m57).nres (c57 m57).n (c57 m57).F := s57 m34 sat34 m57 fun x t h => by
  obtain ⟨a, k⟩ := x
  unfold m57 at h
  split at h
  · rename_i hc
    obtain ⟨h1, h2, h3⟩ := hc
    simp only at h1 h2 h3 h
    cases h
    refine ⟨a.length + 1, ?_⟩
    unfold g57
    exact p57 (a.length + 1) a k (fun o k => some (k, o)) a [] (a.length + 1) k (by omega) h1 h2 (by simp; omega)
  · cases h
def m58 (x : List (List Int) × Int) : Option Int := if 0 ≤ x.2 ∧ x.2 + tot x.1 ≤ 1000000000 ∧ x.1.length ≤ 1000000000 ∧ x.1 = mkR x.2 x.1 then some (x.2 + tot x.1) else none
theorem p58 (L : Nat) (c : Int) (K : Int → Option Int) : ∀ (rest dn : List (List Int)) (n : Nat) (k : Int), rest.length < n → 0 ≤ k → k + tot rest ≤ 1000000000 → dn.length + rest.length ≤ 1000000000 → rest = mkR k rest →
    l58_0 m54 L (dn ++ rest) c n k (dn.length : Int) K = K (k + tot rest)
  | rest, dn, 0, k, h, _, _, _, _ => by omega
  | [], dn, n + 1, k, _, _, _, _, _ => by
    unfold l58_0
    rw [df (by simp)]
    simp [tot]
  | r :: rest, dn, n + 1, k, h1, h2, h3, h4, h5 => by
    rw [tot_cons] at h3
    simp only [List.length_cons] at h1 h4
    rw [mkR_cons] at h5
    obtain ⟨h6, h7⟩ := List.cons.inj h5
    unfold l58_0
    have hl : (dn.length : Int) < ((dn ++ r :: rest).length : Int) := by simp; omega
    rw [dt hl, dt (show (0 : Int) ≤ (dn.length : Int) by omega), Bool.and_self, cond_true, cond_true, Int.toNat_natCast]
    have hg : (dn ++ r :: rest).getD dn.length [] = r := by simp [List.getD]
    have e54 : m54 (r, k) = some (k + r.length) := if_pos ⟨h2, by show k ≤ _; omega, by show r.length ≤ _; omega, h6⟩
    rw [hg, e54, tst_some, df (by omega), cond_false]
    have w : IntKind.wrap .i64 ((dn.length : Int) + 1) = (((dn ++ [r]).length : Nat) : Int) := by rw [wi (by omega) (by omega)]; simp
    have he : dn ++ r :: rest = (dn ++ [r]) ++ rest := by simp
    rw [w, he, p58 L c K rest (dn ++ [r]) n (k + r.length) (by omega) (by omega) (by omega) (by simp; omega) h7, tot_cons]
    congr 1
    omega
theorem sat58 : Sat prog cxT 58 (c58 m58) := s58 m54 sat54 m58 fun x t h => by
  obtain ⟨a, k⟩ := x
  unfold m58 at h
  split at h
  · rename_i hc
    obtain ⟨h1, h2, h3, h4⟩ := hc
    simp only at h1 h2 h3 h4 h
    cases h
    refine ⟨a.length + 1, ?_⟩
    unfold g58
    exact p58 (a.length + 1) k (fun k => some k) a [] (a.length + 1) k (by omega) h1 h2 (by simp; omega) h4
  · cases h
def smallR (rs : List (List Int)) : Prop := rs.length ≤ 1000000000 ∧ ∀ r ∈ rs, r.length ≤ 1000000000000
instance (rs : List (List Int)) : Decidable (smallR rs) := inferInstanceAs (Decidable (_ ∧ _))
def m56 (x : List (List Int) × List (List Int)) : Option Bool := if smallR x.1 ∧ smallR x.2 then some (decide (x.1 = x.2)) else none
theorem getR_mem {a : List (List Int)} {i : Nat} (h : i < a.length) : a.getD i [] ∈ a := by
  simp only [List.getD, List.getElem?_eq_getElem h, Option.getD_some]; exact List.getElem_mem h
theorem p56 (L : Nat) (a b : List (List Int)) (hl : a.length = b.length) (ha : smallR a) (hb : smallR b) (k : Option Bool) : ∀ (n i : Nat), i ≤ a.length → a.length < n + i →
    l56_0 m32 L a b n i k = if a.drop i = b.drop i then k else some false
  | 0, i, h2, h3 => by omega
  | n + 1, i, h2, h3 => by
    have hal := ha.1
    unfold l56_0
    by_cases hi : i < a.length
    · have e : m32 (a.getD i [], b.getD i []) = some (decide (a.getD i [] = b.getD i [])) := if_pos ⟨ha.2 _ (getR_mem hi), hb.2 _ (getR_mem (by omega))⟩
      simp (disch := omega) only [dt, df, wi, cond_true, Bool.and_self, Int.toNat_natCast, e, tst_some]
      rw [drop_cons [] hi, drop_cons [] (show i < b.length by omega)]
      have := p56 L a b hl ha hb k n (i + 1) (by omega) (by omega)
      simp only [Int.natCast_add, Int.cast_ofNat_Int] at this
      rw [this]
      by_cases hx : a.getD i [] = b.getD i []
      · rw [hx]; simp
      · rw [df hx, if_neg (fun h => hx (List.cons.inj h).1)]
        rfl
    · simp (disch := omega) only [df, cond_false]
      rw [List.drop_eq_nil_of_le (by omega), List.drop_eq_nil_of_le (by omega)]
      simp
theorem sat56 : Sat prog cxT 56 (c56 m56) := s56 m32 sat32 m56 fun x t h => by
  unfold m56 at h
  split at h
  · rename_i ha
    cases h
    have hal := ha.1.1
    refine ⟨x.1.length + 1, ?_⟩
    unfold g56
    by_cases hl : x.1.length = x.2.length
    · rw [bneF (by omega)]
      have := p56 (x.1.length + 1) x.1 x.2 hl ha.1 ha.2 (some true) (x.1.length + 1) 0 (by omega) (by omega)
      simp only [cond_false]
      refine this.trans ?_
      simp only [List.drop_zero]
      split <;> simp [*]
    · rw [bneT (by omega)]
      have : x.1 ≠ x.2 := fun h => hl (by rw [h])
      simp [this]
  · cases h
abbrev Fr := Int × Int × List (List Int)
def m36 (x : Fr × Fr) : Option Bool := if smallR x.1.2.2 ∧ smallR x.2.2.2 then some (decide (x.1 = x.2)) else none
theorem sat36 : Sat prog cxT 36 (c36 m36) := s36 m56 sat56 m36 fun x t h => by
  obtain ⟨⟨a, b, l⟩, a', b', l'⟩ := x
  unfold m36 at h
  split at h
  · rename_i hc
    cases h
    refine ⟨0, ?_⟩
    have e : m56 (l, l') = some (decide (l = l')) := if_pos hc
    show g36 m56 0 a b l a' b' l' = some (decide ((a, b, l) = (a', b', l')))
    unfold g36
    simp only [e, tst_some]
    by_cases h1 : a = a'
    · rw [bneF h1, cond_false]
      by_cases h2 : b = b'
      · rw [bneF h2, cond_false]
        by_cases h4 : l = l' <;> simp [h1, h2, h4]
      · rw [bneT h2]; simp [h2]
    · rw [bneT h1]; simp [h1]
  · cases h
def m37 (x : Fr × Int) : Option (Int × Fr) := if 0 ≤ x.2 ∧ x.2 + tot x.1.2.2 ≤ 1000000000 ∧ x.1.2.2.length ≤ 1000000000 then some (x.2 + tot x.1.2.2, x.1.1, x.1.2.1, mkR x.2 x.1.2.2) else none
theorem sat37 : SatW prog cxT 37 (c37 m37).nres (c37 m37).n (c37 m37).F := s37 m57 sat57 m37 fun x t h => by
  obtain ⟨⟨a, b, l⟩, k⟩ := x
  unfold m37 at h
  split at h
  · rename_i hc
    cases h
    refine ⟨0, ?_⟩
    have e : m57 (l, k) = some (k + tot l, mkR k l) := if_pos hc
    unfold g37
    simp only
    rw [e, tst_some]
  · cases h
def m38 (x : Fr × Int) : Option Int := m58 (x.1.2.2, x.2)
theorem sat38 : Sat prog cxT 38 (c38 m38) := s38 m58 sat58 m38 fun x t h => by
  obtain ⟨⟨a, b, l⟩, k⟩ := x
  have h : m58 (l, k) = some t := h
  refine ⟨0, ?_⟩
  show g38 m58 0 a b l k = some t
  unfold g38
  rw [h, tst_some]
  have : ¬ t < 0 := by
    unfold m58 at h
    split at h
    · rename_i hc
      cases h
      have := hc.1
      simp only at this ⊢
      omega
    · cases h
  rw [df this]
  rfl

/-! FnExactTakeFrames -/
theorem tf_tot : ∀ (n : Nat) (a : List Int), tot (tf n a).1 + 4 * (tf n a).1.length ≤ a.length
  | 0, a => by simp [tf, tot]
  | n + 1, a => by
    cases h : first a with
    | none => rw [tf_none h]; simp [tot]
    | some i =>
      rw [tf_some h]
      have h1 := first_len h
      have h2 := tf_tot n (a.drop (4 + i.length))
      simp only [List.length_drop] at h2
      simp only [tot_cons, List.length_cons]
      omega
theorem tot_mem {rs : List (List Int)} {r : List Int} (h : r ∈ rs) : r.length ≤ tot rs := by
  induction rs with
  | nil => simp at h
  | cons x xs ih =>
    rw [tot_cons]
    rcases List.mem_cons.1 h with h | h
    · rw [h]; omega
    · have := ih h; omega
theorem tkf_small (a : List Int) : tot (tkf a).2.2 ≤ 600 ∧ (tkf a).2.2.length ≤ 600 := by
  unfold tkf
  split
  · simp [tot]
  · have := tf_tot (a.length + 1) a
    simp only
    omega
theorem sat11 : Sat prog cxT 11 (c11 mOk) := s11 m30 mTkf mTkf m36 m32 m34 m37 m38 sat30 sat35 sat25k sat36 sat32 sat34 sat37 sat38 mOk fun a t h => by
  unfold mOk at h
  split at h
  · rename_i hb
    cases h
    refine ⟨0, ?_⟩
    unfold g11
    by_cases hl : (a.length : Int) > 1048576
    · rw [dt hl]; rfl
    · have e30 : m30 a = some a := if_pos (by omega)
      have eW : mTkf a = some (tkf a) := if_pos ⟨hb, by omega⟩
      have hpl := tkf_small a
      generalize tkf a = p at eW hpl
      obtain ⟨c, u, b⟩ := p
      simp only at hpl
      have hs : smallR b := ⟨by omega, fun r hr => by have := tot_mem hr; omega⟩
      have e32 : m32 (a, a) = some true := (if_pos ⟨by show a.length ≤ 1000000000000; omega, by show a.length ≤ 1000000000000; omega⟩).trans (by simp)
      have e36 : m36 ((c, u, b), c, u, b) = some true := (if_pos ⟨hs, hs⟩).trans (by simp)
      have e34 : m34 (a, 1) = some ((1 : Int) + (a.length : Int), mkB 1 a.length) := if_pos ⟨by show (0 : Int) ≤ 1; decide, by show (1 : Int) ≤ 1000000000000; decide, by show a.length ≤ 1000000000000; omega⟩
      have e37 : m37 ((c, u, b), 1) = some ((1 : Int) + (tot b : Int), c, u, mkR 1 b) := if_pos ⟨by show (0 : Int) ≤ 1; decide, by show (1 : Int) + tot b ≤ 1000000000; omega, by show b.length ≤ 1000000000; omega⟩
      have e38 : m38 ((c, u, mkR 1 b), 1) = some ((1 : Int) + (tot b : Int)) := by
        have : m58 (mkR 1 b, 1) = some ((1 : Int) + (tot (mkR 1 b) : Int)) := if_pos ⟨by show (0 : Int) ≤ 1; decide, by show (1 : Int) + tot (mkR 1 b) ≤ 1000000000; rw [mkR_tot]; omega, by show (mkR 1 b).length ≤ 1000000000; rw [mkR_len]; omega, (mkR_mkR 1 b).symm⟩
        rw [mkR_tot] at this
        exact this
      simp (disch := omega) only [df, e30, eW, e36, e32, e34, e37, e38, tst_some, cond_true, cond_false, Bool.not_true, bneF]
  · cases h
end Go.Proofs.Try
