/- A part of the proof of FnExactCmdFault: L5Fd, L5Fe, L5Fy. -/
import Derived.Test.YtfncedbejffggaaL5Base
set_option maxHeartbeats 0
set_option maxRecDepth 100000
set_option linter.unusedVariables false
set_option linter.unusedSimpArgs false
namespace Go.Proofs.Try
open Go Go.VM Go.RowKit
/-! loop.example/g00222/laws.FnExactConfigFault -/
def ev4 (m17 : ((Int × (List (Int × (Int × (Int × (Int × Bool))))) × (List (Int × (Int × (Int × (List Int)))))) × Int) → Option Int) (m19 : (Int × (List (Int × (Int × (Int × (Int × Bool))))) × (List (Int × (Int × (Int × (List Int)))))) → Option (Int × (List (Int × (Int × (Int × (Int × Bool))))) × (List (Int × (Int × (Int × (List Int))))))) (m18 : (Int × (List (Int × (Int × (Int × (Int × Bool))))) × (List (Int × (Int × (Int × (List Int)))))) → Option Int) (m20 : (Int × (List (Int × (Int × (Int × (Int × Bool))))) × (List (Int × (Int × (Int × (List Int)))))) → Option Int) (m21 : ((Int × (List (Int × (Int × (Int × (Int × Bool))))) × (List (Int × (Int × (Int × (List Int)))))) × (Int × (List (Int × (Int × (Int × (Int × Bool))))) × (List (Int × (Int × (Int × (List Int))))))) → Option Bool) : Env cxT := { Kc := kcOf [(17, c17 m17), (19, c19 m19), (18, c18 m18), (20, c20 m20), (21, c21 m21)], Kw := kwOf [], lv := fun i => [], xv := fun i => none }
theorem i4 (m17 : ((Int × (List (Int × (Int × (Int × (Int × Bool))))) × (List (Int × (Int × (Int × (List Int)))))) × Int) → Option Int) (m19 : (Int × (List (Int × (Int × (Int × (Int × Bool))))) × (List (Int × (Int × (Int × (List Int)))))) → Option (Int × (List (Int × (Int × (Int × (Int × Bool))))) × (List (Int × (Int × (Int × (List Int))))))) (m18 : (Int × (List (Int × (Int × (Int × (Int × Bool))))) × (List (Int × (Int × (Int × (List Int)))))) → Option Int) (m20 : (Int × (List (Int × (Int × (Int × (Int × Bool))))) × (List (Int × (Int × (Int × (List Int)))))) → Option Int) (m21 : ((Int × (List (Int × (Int × (Int × (Int × Bool))))) × (List (Int × (Int × (Int × (List Int)))))) × (Int × (List (Int × (Int × (Int × (Int × Bool))))) × (List (Int × (Int × (Int × (List Int))))))) → Option Bool) (L : Nat) (a0_0 : Int) (a0_1 : (List (Int × (Int × (Int × (Int × Bool)))))) (a0_2 : (List (Int × (Int × (Int × (List Int)))))) : evFL prog (ev4 m17 m19 m18 m20 m21) (loopN L) f4 (a4.enc (a0_0, a0_1, a0_2)) =
  tst (m17 (((a0_0, (a0_1, a0_2)).1, ((a0_0, (a0_1, a0_2)).2.1, (a0_0, (a0_1, a0_2)).2.2)), (1048576 : Int))) (0 : Int) fun (q1 : Int) => bif (decide (q1 < (0 : Int))) then some (n4 Bool.true)
    else tst (m19 ((a0_0, (a0_1, a0_2)).1, ((a0_0, (a0_1, a0_2)).2.1, (a0_0, (a0_1, a0_2)).2.2))) ((0 : Int), [], []) fun (q2 : (Int × (List (Int × (Int × (Int × (Int × Bool))))) × (List (Int × (Int × (Int × (List Int))))))) => tst (m18 (q2.1, (q2.2.1, q2.2.2))) (0 : Int) fun (q3 : Int) => tst (m19 ((a0_0, (a0_1, a0_2)).1, ((a0_0, (a0_1, a0_2)).2.1, (a0_0, (a0_1, a0_2)).2.2))) ((0 : Int), [], []) fun (q4 : (Int × (List (Int × (Int × (Int × (Int × Bool))))) × (List (Int × (Int × (Int × (List Int))))))) => tst (m20 (q2.1, (q2.2.1, q2.2.2))) (0 : Int) fun (q5 : Int) => bif (q5 != q3) then some (n4 Bool.false)
            else tst (m19 ((a0_0, (a0_1, a0_2)).1, ((a0_0, (a0_1, a0_2)).2.1, (a0_0, (a0_1, a0_2)).2.2))) ((0 : Int), [], []) fun (q6 : (Int × (List (Int × (Int × (Int × (Int × Bool))))) × (List (Int × (Int × (Int × (List Int))))))) => tst (m21 ((q2.1, (q2.2.1, q2.2.2)), (q2.1, (q2.2.1, q2.2.2)))) false fun (q7 : Bool) => bif (!q7) then some (n4 Bool.false)
                else some (n4 Bool.true) := by kernel_rfl
def g4 (m17 : ((Int × (List (Int × (Int × (Int × (Int × Bool))))) × (List (Int × (Int × (Int × (List Int)))))) × Int) → Option Int) (m19 : (Int × (List (Int × (Int × (Int × (Int × Bool))))) × (List (Int × (Int × (Int × (List Int)))))) → Option (Int × (List (Int × (Int × (Int × (Int × Bool))))) × (List (Int × (Int × (Int × (List Int))))))) (m18 : (Int × (List (Int × (Int × (Int × (Int × Bool))))) × (List (Int × (Int × (Int × (List Int)))))) → Option Int) (m20 : (Int × (List (Int × (Int × (Int × (Int × Bool))))) × (List (Int × (Int × (Int × (List Int)))))) → Option Int) (m21 : ((Int × (List (Int × (Int × (Int × (Int × Bool))))) × (List (Int × (Int × (Int × (List Int)))))) × (Int × (List (Int × (Int × (Int × (Int × Bool))))) × (List (Int × (Int × (Int × (List Int))))))) → Option Bool) (L : Nat) (a0_0 : Int) (a0_1 : (List (Int × (Int × (Int × (Int × Bool)))))) (a0_2 : (List (Int × (Int × (Int × (List Int)))))) : Option Bool :=
  tst (m17 (((a0_0, (a0_1, a0_2)).1, ((a0_0, (a0_1, a0_2)).2.1, (a0_0, (a0_1, a0_2)).2.2)), (1048576 : Int))) (0 : Int) fun (q1 : Int) => bif (decide (q1 < (0 : Int))) then some Bool.true
    else tst (m19 ((a0_0, (a0_1, a0_2)).1, ((a0_0, (a0_1, a0_2)).2.1, (a0_0, (a0_1, a0_2)).2.2))) ((0 : Int), [], []) fun (q2 : (Int × (List (Int × (Int × (Int × (Int × Bool))))) × (List (Int × (Int × (Int × (List Int))))))) => tst (m18 (q2.1, (q2.2.1, q2.2.2))) (0 : Int) fun (q3 : Int) => tst (m19 ((a0_0, (a0_1, a0_2)).1, ((a0_0, (a0_1, a0_2)).2.1, (a0_0, (a0_1, a0_2)).2.2))) ((0 : Int), [], []) fun (q4 : (Int × (List (Int × (Int × (Int × (Int × Bool))))) × (List (Int × (Int × (Int × (List Int))))))) => tst (m20 (q2.1, (q2.2.1, q2.2.2))) (0 : Int) fun (q5 : Int) => bif (q5 != q3) then some Bool.false
            else tst (m19 ((a0_0, (a0_1, a0_2)).1, ((a0_0, (a0_1, a0_2)).2.1, (a0_0, (a0_1, a0_2)).2.2))) ((0 : Int), [], []) fun (q6 : (Int × (List (Int × (Int × (Int × (Int × Bool))))) × (List (Int × (Int × (Int × (List Int))))))) => tst (m21 ((q2.1, (q2.2.1, q2.2.2)), (q2.1, (q2.2.1, q2.2.2)))) false fun (q7 : Bool) => bif (!q7) then some Bool.false
                else some Bool.true
theorem e4 (m17 : ((Int × (List (Int × (Int × (Int × (Int × Bool))))) × (List (Int × (Int × (Int × (List Int)))))) × Int) → Option Int) (m19 : (Int × (List (Int × (Int × (Int × (Int × Bool))))) × (List (Int × (Int × (Int × (List Int)))))) → Option (Int × (List (Int × (Int × (Int × (Int × Bool))))) × (List (Int × (Int × (Int × (List Int))))))) (m18 : (Int × (List (Int × (Int × (Int × (Int × Bool))))) × (List (Int × (Int × (Int × (List Int)))))) → Option Int) (m20 : (Int × (List (Int × (Int × (Int × (Int × Bool))))) × (List (Int × (Int × (Int × (List Int)))))) → Option Int) (m21 : ((Int × (List (Int × (Int × (Int × (Int × Bool))))) × (List (Int × (Int × (Int × (List Int)))))) × (Int × (List (Int × (Int × (Int × (Int × Bool))))) × (List (Int × (Int × (Int × (List Int))))))) → Option Bool) (L : Nat) (a0_0 : Int) (a0_1 : (List (Int × (Int × (Int × (Int × Bool)))))) (a0_2 : (List (Int × (Int × (Int × (List Int)))))) : evFL prog (ev4 m17 m19 m18 m20 m21) (loopN L) f4 (a4.enc (a0_0, a0_1, a0_2)) = (g4 m17 m19 m18 m20 m21 L a0_0 a0_1 a0_2).map n4 := by
  rw [i4]; simp only [g4, map_bif, map_tst, map_bnd, Option.map_some, Option.map_none]
/-! loop.example/g00222/laws.FnExactBackendAt -/
def ev6 (m17 : ((Int × (List (Int × (Int × (Int × (Int × Bool))))) × (List (Int × (Int × (Int × (List Int)))))) × Int) → Option Int) (m19 : (Int × (List (Int × (Int × (Int × (Int × Bool))))) × (List (Int × (Int × (Int × (List Int)))))) → Option (Int × (List (Int × (Int × (Int × (Int × Bool))))) × (List (Int × (Int × (Int × (List Int))))))) (m25 : ((Int × (List (Int × (Int × (Int × (Int × Bool))))) × (List (Int × (Int × (Int × (List Int)))))) × Int) → Option (Int × Int × Int × Int × Int × Bool)) (m14 : ((Int × (List (Int × (Int × (Int × (Int × Bool))))) × (List (Int × (Int × (Int × (List Int)))))) × Int) → Option (Int × Int × Int × Int × Int × Bool)) (m26 : ((Int × Int × Int × Int × Int × Bool) × (Int × Int × Int × Int × Int × Bool)) → Option Bool) (m21 : ((Int × (List (Int × (Int × (Int × (Int × Bool))))) × (List (Int × (Int × (Int × (List Int)))))) × (Int × (List (Int × (Int × (Int × (Int × Bool))))) × (List (Int × (Int × (Int × (List Int))))))) → Option Bool) : Env cxT := { Kc := kcOf [(17, c17 m17), (19, c19 m19), (25, c25 m25), (14, c14 m14), (26, c26 m26), (21, c21 m21)], Kw := kwOf [], lv := fun i => [], xv := fun i => none }
theorem i6 (m17 : ((Int × (List (Int × (Int × (Int × (Int × Bool))))) × (List (Int × (Int × (Int × (List Int)))))) × Int) → Option Int) (m19 : (Int × (List (Int × (Int × (Int × (Int × Bool))))) × (List (Int × (Int × (Int × (List Int)))))) → Option (Int × (List (Int × (Int × (Int × (Int × Bool))))) × (List (Int × (Int × (Int × (List Int))))))) (m25 : ((Int × (List (Int × (Int × (Int × (Int × Bool))))) × (List (Int × (Int × (Int × (List Int)))))) × Int) → Option (Int × Int × Int × Int × Int × Bool)) (m14 : ((Int × (List (Int × (Int × (Int × (Int × Bool))))) × (List (Int × (Int × (Int × (List Int)))))) × Int) → Option (Int × Int × Int × Int × Int × Bool)) (m26 : ((Int × Int × Int × Int × Int × Bool) × (Int × Int × Int × Int × Int × Bool)) → Option Bool) (m21 : ((Int × (List (Int × (Int × (Int × (Int × Bool))))) × (List (Int × (Int × (Int × (List Int)))))) × (Int × (List (Int × (Int × (Int × (Int × Bool))))) × (List (Int × (Int × (Int × (List Int))))))) → Option Bool) (L : Nat) (a0_0 : Int) (a0_1 : (List (Int × (Int × (Int × (Int × Bool)))))) (a0_2 : (List (Int × (Int × (Int × (List Int)))))) (a1 : Int) : evFL prog (ev6 m17 m19 m25 m14 m26 m21) (loopN L) f6 (a6.enc ((a0_0, a0_1, a0_2), a1)) =
  tst (m17 (((a0_0, (a0_1, a0_2)).1, ((a0_0, (a0_1, a0_2)).2.1, (a0_0, (a0_1, a0_2)).2.2)), (1048576 : Int))) (0 : Int) fun (q1 : Int) => bif (decide (q1 < (0 : Int))) then some (n6 Bool.true)
    else tst (m19 ((a0_0, (a0_1, a0_2)).1, ((a0_0, (a0_1, a0_2)).2.1, (a0_0, (a0_1, a0_2)).2.2))) ((0 : Int), [], []) fun (q2 : (Int × (List (Int × (Int × (Int × (Int × Bool))))) × (List (Int × (Int × (Int × (List Int))))))) => tst (m25 ((q2.1, (q2.2.1, q2.2.2)), a1)) ((0 : Int), (0 : Int), (0 : Int), (0 : Int), (0 : Int), false) fun (q3 : (Int × Int × Int × Int × Int × Bool)) => tst (m19 ((a0_0, (a0_1, a0_2)).1, ((a0_0, (a0_1, a0_2)).2.1, (a0_0, (a0_1, a0_2)).2.2))) ((0 : Int), [], []) fun (q4 : (Int × (List (Int × (Int × (Int × (Int × Bool))))) × (List (Int × (Int × (Int × (List Int))))))) => tst (m14 ((q2.1, (q2.2.1, q2.2.2)), a1)) ((0 : Int), (0 : Int), (0 : Int), (0 : Int), (0 : Int), false) fun (q5 : (Int × Int × Int × Int × Int × Bool)) => tst (m26 ((q5.1, (q5.2.1, (q5.2.2.1, (q5.2.2.2.1, (q5.2.2.2.2.1, q5.2.2.2.2.2))))), (q3.1, (q3.2.1, (q3.2.2.1, (q3.2.2.2.1, (q3.2.2.2.2.1, q3.2.2.2.2.2))))))) false fun (q6 : Bool) => bif (!q6) then some (n6 Bool.false)
              else tst (m19 ((a0_0, (a0_1, a0_2)).1, ((a0_0, (a0_1, a0_2)).2.1, (a0_0, (a0_1, a0_2)).2.2))) ((0 : Int), [], []) fun (q7 : (Int × (List (Int × (Int × (Int × (Int × Bool))))) × (List (Int × (Int × (Int × (List Int))))))) => tst (m21 ((q2.1, (q2.2.1, q2.2.2)), (q2.1, (q2.2.1, q2.2.2)))) false fun (q8 : Bool) => bif (!q8) then some (n6 Bool.false)
                  else some (n6 Bool.true) := by kernel_rfl
def g6 (m17 : ((Int × (List (Int × (Int × (Int × (Int × Bool))))) × (List (Int × (Int × (Int × (List Int)))))) × Int) → Option Int) (m19 : (Int × (List (Int × (Int × (Int × (Int × Bool))))) × (List (Int × (Int × (Int × (List Int)))))) → Option (Int × (List (Int × (Int × (Int × (Int × Bool))))) × (List (Int × (Int × (Int × (List Int))))))) (m25 : ((Int × (List (Int × (Int × (Int × (Int × Bool))))) × (List (Int × (Int × (Int × (List Int)))))) × Int) → Option (Int × Int × Int × Int × Int × Bool)) (m14 : ((Int × (List (Int × (Int × (Int × (Int × Bool))))) × (List (Int × (Int × (Int × (List Int)))))) × Int) → Option (Int × Int × Int × Int × Int × Bool)) (m26 : ((Int × Int × Int × Int × Int × Bool) × (Int × Int × Int × Int × Int × Bool)) → Option Bool) (m21 : ((Int × (List (Int × (Int × (Int × (Int × Bool))))) × (List (Int × (Int × (Int × (List Int)))))) × (Int × (List (Int × (Int × (Int × (Int × Bool))))) × (List (Int × (Int × (Int × (List Int))))))) → Option Bool) (L : Nat) (a0_0 : Int) (a0_1 : (List (Int × (Int × (Int × (Int × Bool)))))) (a0_2 : (List (Int × (Int × (Int × (List Int)))))) (a1 : Int) : Option Bool :=
  tst (m17 (((a0_0, (a0_1, a0_2)).1, ((a0_0, (a0_1, a0_2)).2.1, (a0_0, (a0_1, a0_2)).2.2)), (1048576 : Int))) (0 : Int) fun (q1 : Int) => bif (decide (q1 < (0 : Int))) then some Bool.true
    else tst (m19 ((a0_0, (a0_1, a0_2)).1, ((a0_0, (a0_1, a0_2)).2.1, (a0_0, (a0_1, a0_2)).2.2))) ((0 : Int), [], []) fun (q2 : (Int × (List (Int × (Int × (Int × (Int × Bool))))) × (List (Int × (Int × (Int × (List Int))))))) => tst (m25 ((q2.1, (q2.2.1, q2.2.2)), a1)) ((0 : Int), (0 : Int), (0 : Int), (0 : Int), (0 : Int), false) fun (q3 : (Int × Int × Int × Int × Int × Bool)) => tst (m19 ((a0_0, (a0_1, a0_2)).1, ((a0_0, (a0_1, a0_2)).2.1, (a0_0, (a0_1, a0_2)).2.2))) ((0 : Int), [], []) fun (q4 : (Int × (List (Int × (Int × (Int × (Int × Bool))))) × (List (Int × (Int × (Int × (List Int))))))) => tst (m14 ((q2.1, (q2.2.1, q2.2.2)), a1)) ((0 : Int), (0 : Int), (0 : Int), (0 : Int), (0 : Int), false) fun (q5 : (Int × Int × Int × Int × Int × Bool)) => tst (m26 ((q5.1, (q5.2.1, (q5.2.2.1, (q5.2.2.2.1, (q5.2.2.2.2.1, q5.2.2.2.2.2))))), (q3.1, (q3.2.1, (q3.2.2.1, (q3.2.2.2.1, (q3.2.2.2.2.1, q3.2.2.2.2.2))))))) false fun (q6 : Bool) => bif (!q6) then some Bool.false
              else tst (m19 ((a0_0, (a0_1, a0_2)).1, ((a0_0, (a0_1, a0_2)).2.1, (a0_0, (a0_1, a0_2)).2.2))) ((0 : Int), [], []) fun (q7 : (Int × (List (Int × (Int × (Int × (Int × Bool))))) × (List (Int × (Int × (Int × (List Int))))))) => tst (m21 ((q2.1, (q2.2.1, q2.2.2)), (q2.1, (q2.2.1, q2.2.2)))) false fun (q8 : Bool) => bif (!q8) then some Bool.false
                  else some Bool.true
theorem e6 (m17 : ((Int × (List (Int × (Int × (Int × (Int × Bool))))) × (List (Int × (Int × (Int × (List Int)))))) × Int) → Option Int) (m19 : (Int × (List (Int × (Int × (Int × (Int × Bool))))) × (List (Int × (Int × (Int × (List Int)))))) → Option (Int × (List (Int × (Int × (Int × (Int × Bool))))) × (List (Int × (Int × (Int × (List Int))))))) (m25 : ((Int × (List (Int × (Int × (Int × (Int × Bool))))) × (List (Int × (Int × (Int × (List Int)))))) × Int) → Option (Int × Int × Int × Int × Int × Bool)) (m14 : ((Int × (List (Int × (Int × (Int × (Int × Bool))))) × (List (Int × (Int × (Int × (List Int)))))) × Int) → Option (Int × Int × Int × Int × Int × Bool)) (m26 : ((Int × Int × Int × Int × Int × Bool) × (Int × Int × Int × Int × Int × Bool)) → Option Bool) (m21 : ((Int × (List (Int × (Int × (Int × (Int × Bool))))) × (List (Int × (Int × (Int × (List Int)))))) × (Int × (List (Int × (Int × (Int × (Int × Bool))))) × (List (Int × (Int × (Int × (List Int))))))) → Option Bool) (L : Nat) (a0_0 : Int) (a0_1 : (List (Int × (Int × (Int × (Int × Bool)))))) (a0_2 : (List (Int × (Int × (Int × (List Int)))))) (a1 : Int) : evFL prog (ev6 m17 m19 m25 m14 m26 m21) (loopN L) f6 (a6.enc ((a0_0, a0_1, a0_2), a1)) = (g6 m17 m19 m25 m14 m26 m21 L a0_0 a0_1 a0_2 a1).map n6 := by
  rw [i6]; simp only [g6, map_bif, map_tst, map_bnd, Option.map_some, Option.map_none]
/-! loop.example/g00222/laws.FnExactVipFor -/
def g7 (m17 : ((Int × (List (Int × (Int × (Int × (Int × Bool))))) × (List (Int × (Int × (Int × (List Int)))))) × Int) → Option Int) (m19 : (Int × (List (Int × (Int × (Int × (Int × Bool))))) × (List (Int × (Int × (Int × (List Int)))))) → Option (Int × (List (Int × (Int × (Int × (Int × Bool))))) × (List (Int × (Int × (Int × (List Int))))))) (m28 : (Int × Int × Int × Int × Int) → Option (Int × Int × Int × Int × Int)) (m27 : ((Int × (List (Int × (Int × (Int × (Int × Bool))))) × (List (Int × (Int × (Int × (List Int)))))) × (Int × Int × Int × Int × Int)) → Option (Int × Int)) (m29 : ((Int × (List (Int × (Int × (Int × (Int × Bool))))) × (List (Int × (Int × (Int × (List Int)))))) × (Int × Int × Int × Int × Int)) → Option (Int × Int)) (m30 : ((Int × Int) × (Int × Int)) → Option Bool) (m21 : ((Int × (List (Int × (Int × (Int × (Int × Bool))))) × (List (Int × (Int × (Int × (List Int)))))) × (Int × (List (Int × (Int × (Int × (Int × Bool))))) × (List (Int × (Int × (Int × (List Int))))))) → Option Bool) (L : Nat) (a0_0 : Int) (a0_1 : (List (Int × (Int × (Int × (Int × Bool)))))) (a0_2 : (List (Int × (Int × (Int × (List Int)))))) (a1_0 : Int) (a1_1 : Int) (a1_2 : Int) (a1_3 : Int) (a1_4 : Int) : Option Bool :=
  tst (m17 (((a0_0, (a0_1, a0_2)).1, ((a0_0, (a0_1, a0_2)).2.1, (a0_0, (a0_1, a0_2)).2.2)), (1048576 : Int))) (0 : Int) fun (q1 : Int) => bif (decide (q1 < (0 : Int))) then some Bool.true
    else tst (m19 ((a0_0, (a0_1, a0_2)).1, ((a0_0, (a0_1, a0_2)).2.1, (a0_0, (a0_1, a0_2)).2.2))) ((0 : Int), [], []) fun (q2 : (Int × (List (Int × (Int × (Int × (Int × Bool))))) × (List (Int × (Int × (Int × (List Int))))))) => tst (m28 (a1_0, (a1_1, (a1_2, (a1_3, a1_4))))) ((0 : Int), (0 : Int), (0 : Int), (0 : Int), (0 : Int)) fun (q3 : (Int × Int × Int × Int × Int)) => tst (m27 ((q2.1, (q2.2.1, q2.2.2)), (q3.1, (q3.2.1, (q3.2.2.1, (q3.2.2.2.1, q3.2.2.2.2)))))) ((0 : Int), (0 : Int)) fun (q4 : (Int × Int)) => tst (m19 ((a0_0, (a0_1, a0_2)).1, ((a0_0, (a0_1, a0_2)).2.1, (a0_0, (a0_1, a0_2)).2.2))) ((0 : Int), [], []) fun (q5 : (Int × (List (Int × (Int × (Int × (Int × Bool))))) × (List (Int × (Int × (Int × (List Int))))))) => tst (m28 (a1_0, (a1_1, (a1_2, (a1_3, a1_4))))) ((0 : Int), (0 : Int), (0 : Int), (0 : Int), (0 : Int)) fun (q6 : (Int × Int × Int × Int × Int)) => tst (m29 ((q2.1, (q2.2.1, q2.2.2)), (q3.1, (q3.2.1, (q3.2.2.1, (q3.2.2.2.1, q3.2.2.2.2)))))) ((0 : Int), (0 : Int)) fun (q7 : (Int × Int)) => tst (m30 ((q7.1, q7.2), (q4.1, q4.2))) false fun (q8 : Bool) => bif (!q8) then some Bool.false
                  else tst (m19 ((a0_0, (a0_1, a0_2)).1, ((a0_0, (a0_1, a0_2)).2.1, (a0_0, (a0_1, a0_2)).2.2))) ((0 : Int), [], []) fun (q9 : (Int × (List (Int × (Int × (Int × (Int × Bool))))) × (List (Int × (Int × (Int × (List Int))))))) => tst (m21 ((q2.1, (q2.2.1, q2.2.2)), (q2.1, (q2.2.1, q2.2.2)))) false fun (q10 : Bool) => bif (!q10) then some Bool.false
                      else some Bool.true
/-! loop.example/g00222/impl.BackendAt -/
/-! loop.example/g00222/laws.eqBackendResult -/
/-! loop.example/g00222/laws.toFlow -/
/-! loop.example/g00222/impl.VipFor -/
/-! loop.example/g00222/laws.eqIntResult -/
/-! loop.example/g00222/laws.toVipS -/
/-! loop.example/g00222/spec.l3Flow -/
/-! loop.example/g00222/impl.flowFault -/
/-! loop.example/g00222/impl.vipPlace -/
/-! slices.EqualFunc[[]loop.example/g00222/impl.Vip,[]loop.example/g00222/impl.Vip,loop.example/g00222/impl.Vip,loop.example/g00222/impl.Vip] -/
/-! loop.example/g00222/impl.sameVip -/
/-! loop.example/g00222/impl.PacketFault -/
/-! slices.BinarySearchFunc[[]loop.example/g00222/impl.Vip,loop.example/g00222/impl.Vip,loop.example/g00222/impl.Vip] -/
/-! slices.Equal[[]int64,int64] -/
end Go.Proofs.Try

set_option maxHeartbeats 0
set_option maxRecDepth 100000
set_option linter.unusedVariables false
set_option linter.unusedSimpArgs false
namespace Go.Proofs.Try
open Go Go.VM Go.RowKit
/-! loop.example/g00222/laws.FnExactSharesFor -/
/-! loop.example/g00222/laws.FnExactSameConfigs -/
/-! loop.example/g00222/impl.SharesFor -/
/-! loop.example/g00222/laws.eqSharesResult -/
/-! loop.example/g00222/laws.markSharesResult -/
/-! loop.example/g00222/laws.heldSharesResult -/
/-! loop.example/g00222/laws.eqShareS -/
/-! loop.example/g00222/laws.markShareS -/
/-! loop.example/g00222/laws.heldShareS -/
/-! loop.example/g00222/laws.eqShare -/
/-! loop.example/g00222/spec.SameConfigs -/
/-! loop.example/g00222/impl.SameConfigs -/
/-! loop.example/g00222/spec.l5Nums -/
/-! slices.Equal[[]loop.example/g00222/impl.Backend,loop.example/g00222/impl.Backend] -/
/-! loop.example/g00222/laws.markBackendS -/
/-! loop.example/g00222/laws.markVipS -/
/-! loop.example/g00222/laws.markInt64S -/
/-! loop.example/g00222/laws.markConfig -/
end Go.Proofs.Try

set_option maxHeartbeats 0
set_option maxRecDepth 100000
set_option linter.unusedVariables false
set_option linter.unusedSimpArgs false
namespace Go.Proofs.Try
open Go Go.VM Go.RowKit
/-! loop.example/g00222/impl.isYesOrNo -/
def ev104 : Env cxT := { Kc := kcOf [], Kw := kwOf [], lv := fun i => [], xv := fun i => none }
theorem i104 (L : Nat) (a0 : Int) : evF prog ev104 (loopN L) f104 (a104.enc a0) =
  bif (a0 == (0 : Int)) then some (n104 Bool.true)
  else some (n104 (a0 == (1 : Int))) := by kernel_rfl
def g104 (L : Nat) (a0 : Int) : Option Bool :=
  bif (a0 == (0 : Int)) then some Bool.true
  else some (a0 == (1 : Int))
theorem e104 (L : Nat) (a0 : Int) : evF prog ev104 (loopN L) f104 (a104.enc a0) = (g104 L a0).map n104 := by
  rw [i104]; simp only [g104, map_bif, map_tst, map_bnd, Option.map_some, Option.map_none]
theorem s104 (m : Int → Option Bool) (hm : ∀ (x : Int) t, m x = some t → ∃ L, g104 L x = some t) : Sat prog cxT 104 (c104 m) :=
  sat_t cxT_ok cxT_pok (by rfl) (fn := f104) rfl a104 n104 dd104 m ev104 kok_nil kwok_nil (fun L x => g104 L x) (fun L x => e104 L x) hm hs104
/-! loop.example/g00222/spec.l5Needs -/
def ev57 (m41 : (Int × Int × Int) → Option Bool) : Env cxT := { Kc := kcOf [(41, c41 m41)], Kw := kwOf [], lv := fun i => [], xv := fun i => none }
theorem i57 (m41 : (Int × Int × Int) → Option Bool) (L : Nat) (a0 : Int) : evF prog (ev57 m41) (loopN L) f57 (a57.enc a0) =
  tst (m41 (a0, ((5 : Int), (8 : Int)))) false fun (q1 : Bool) => bif (a0 != (5 : Int)) then bif (a0 == (1 : Int)) then some (n57 ((a0 != (6 : Int)), Bool.true, (a0 != (4 : Int)), q1))
      else some (n57 ((a0 != (6 : Int)), q1, (a0 != (4 : Int)), q1))
    else bif (a0 == (1 : Int)) then some (n57 (Bool.false, Bool.true, (a0 != (4 : Int)), q1))
    else some (n57 (Bool.false, q1, (a0 != (4 : Int)), q1)) := by kernel_rfl
def g57 (m41 : (Int × Int × Int) → Option Bool) (L : Nat) (a0 : Int) : Option (Bool × Bool × Bool × Bool) :=
  tst (m41 (a0, ((5 : Int), (8 : Int)))) false fun (q1 : Bool) => bif (a0 != (5 : Int)) then bif (a0 == (1 : Int)) then some ((a0 != (6 : Int)), Bool.true, (a0 != (4 : Int)), q1)
      else some ((a0 != (6 : Int)), q1, (a0 != (4 : Int)), q1)
    else bif (a0 == (1 : Int)) then some (Bool.false, Bool.true, (a0 != (4 : Int)), q1)
    else some (Bool.false, q1, (a0 != (4 : Int)), q1)
theorem e57 (m41 : (Int × Int × Int) → Option Bool) (L : Nat) (a0 : Int) : evF prog (ev57 m41) (loopN L) f57 (a57.enc a0) = (g57 m41 L a0).map n57 := by
  rw [i57]; simp only [g57, map_bif, map_tst, map_bnd, Option.map_some, Option.map_none]
theorem s57 (m41 : (Int × Int × Int) → Option Bool) (h41 : Sat prog cxT 41 (c41 m41)) (m : Int → Option (Bool × Bool × Bool × Bool)) (hm : ∀ (x : Int) t, m x = some t → ∃ L, g57 m41 L x = some t) : Sat prog cxT 57 (c57 m) :=
  sat_t cxT_ok cxT_pok (by rfl) (fn := f57) rfl a57 n57 dd57 m (ev57 m41) (kok_cons h41 kok_nil) kwok_nil (fun L x => g57 m41 L x) (fun L x => e57 m41 L x) hm hs57
/-! loop.example/g00222/spec.l5Number -/
def ev61 (m41 : (Int × Int × Int) → Option Bool) (m95 : Int → Option Bool) : Env cxT := { Kc := kcOf [(41, c41 m41), (95, c95 m95)], Kw := kwOf [], lv := fun i => [], xv := fun i => none }
theorem i61 (m41 : (Int × Int × Int) → Option Bool) (m95 : Int → Option Bool) (L : Nat) (a0_0 : Int) (a0_1 : Int) (a0_2 : Int) (a0_3 : Int) (a0_4 : Int) (a0_5 : Int) : evF prog (ev61 m41 m95) (loopN L) f61 (a61.enc (a0_0, a0_1, a0_2, a0_3, a0_4, a0_5)) =
  bif (a0_0 == (1 : Int)) then tst (m41 (a0_4, ((0 : Int), (9 : Int)))) false fun (q2 : Bool) => some (n61 q2)
  else bif (a0_0 == (2 : Int)) then tst (m41 (a0_4, ((0 : Int), (9 : Int)))) false fun (q2 : Bool) => some (n61 q2)
  else bif (a0_0 == (3 : Int)) then tst (m41 (a0_4, ((1 : Int), (3 : Int)))) false fun (q2 : Bool) => some (n61 q2)
  else bif (a0_0 == (9 : Int)) then tst (m41 (a0_4, ((0 : Int), (1 : Int)))) false fun (q2 : Bool) => some (n61 q2)
  else tst (m95 a0_4) false fun (q1 : Bool) => some (n61 q1) := by kernel_rfl
def g61 (m41 : (Int × Int × Int) → Option Bool) (m95 : Int → Option Bool) (L : Nat) (a0_0 : Int) (a0_1 : Int) (a0_2 : Int) (a0_3 : Int) (a0_4 : Int) (a0_5 : Int) : Option Bool :=
  bif (a0_0 == (1 : Int)) then tst (m41 (a0_4, ((0 : Int), (9 : Int)))) false fun (q2 : Bool) => some q2
  else bif (a0_0 == (2 : Int)) then tst (m41 (a0_4, ((0 : Int), (9 : Int)))) false fun (q2 : Bool) => some q2
  else bif (a0_0 == (3 : Int)) then tst (m41 (a0_4, ((1 : Int), (3 : Int)))) false fun (q2 : Bool) => some q2
  else bif (a0_0 == (9 : Int)) then tst (m41 (a0_4, ((0 : Int), (1 : Int)))) false fun (q2 : Bool) => some q2
  else tst (m95 a0_4) false fun (q1 : Bool) => some q1
theorem e61 (m41 : (Int × Int × Int) → Option Bool) (m95 : Int → Option Bool) (L : Nat) (a0_0 : Int) (a0_1 : Int) (a0_2 : Int) (a0_3 : Int) (a0_4 : Int) (a0_5 : Int) : evF prog (ev61 m41 m95) (loopN L) f61 (a61.enc (a0_0, a0_1, a0_2, a0_3, a0_4, a0_5)) = (g61 m41 m95 L a0_0 a0_1 a0_2 a0_3 a0_4 a0_5).map n61 := by
  rw [i61]; simp only [g61, map_bif, map_tst, map_bnd, Option.map_some, Option.map_none]
theorem s61 (m41 : (Int × Int × Int) → Option Bool) (m95 : Int → Option Bool) (h41 : Sat prog cxT 41 (c41 m41)) (h95 : Sat prog cxT 95 (c95 m95)) (m : (Int × Int × Int × Int × Int × Int) → Option Bool) (hm : ∀ (x : (Int × Int × Int × Int × Int × Int)) t, m x = some t → ∃ L, g61 m41 m95 L x.1 x.2.1 x.2.2.1 x.2.2.2.1 x.2.2.2.2.1 x.2.2.2.2.2 = some t) : Sat prog cxT 61 (c61 m) :=
  sat_t cxT_ok cxT_pok (by rfl) (fn := f61) rfl a61 n61 dd61 m (ev61 m41 m95) (kok_cons h41 (kok_cons h95 kok_nil)) kwok_nil (fun L x => g61 m41 m95 L x.1 x.2.1 x.2.2.1 x.2.2.2.1 x.2.2.2.2.1 x.2.2.2.2.2) (fun L x => e61 m41 m95 L x.1 x.2.1 x.2.2.1 x.2.2.2.1 x.2.2.2.2.1 x.2.2.2.2.2) hm hs61
/-! loop.example/g00222/laws.toCmd -/
def ev23 : Env cxT := { Kc := kcOf [], Kw := kwOf [], lv := fun i => [], xv := fun i => none }
theorem i23 (L : Nat) (a0_0 : Int) (a0_1 : Int) (a0_2 : Int) (a0_3 : Int) (a0_4 : Int) (a0_5 : Int) : evF prog ev23 (loopN L) f23 (a23.enc (a0_0, a0_1, a0_2, a0_3, a0_4, a0_5)) =
  some (n23 (a0_0, a0_1, a0_2, a0_3, a0_4, a0_5)) := by kernel_rfl
def g23 (L : Nat) (a0_0 : Int) (a0_1 : Int) (a0_2 : Int) (a0_3 : Int) (a0_4 : Int) (a0_5 : Int) : Option (Int × Int × Int × Int × Int × Int) :=
  some (a0_0, a0_1, a0_2, a0_3, a0_4, a0_5)
theorem e23 (L : Nat) (a0_0 : Int) (a0_1 : Int) (a0_2 : Int) (a0_3 : Int) (a0_4 : Int) (a0_5 : Int) : evF prog ev23 (loopN L) f23 (a23.enc (a0_0, a0_1, a0_2, a0_3, a0_4, a0_5)) = (g23 L a0_0 a0_1 a0_2 a0_3 a0_4 a0_5).map n23 := by
  rw [i23]; simp only [g23, map_bif, map_tst, map_bnd, Option.map_some, Option.map_none]
theorem s23 (m : (Int × Int × Int × Int × Int × Int) → Option (Int × Int × Int × Int × Int × Int)) (hm : ∀ (x : (Int × Int × Int × Int × Int × Int)) t, m x = some t → ∃ L, g23 L x.1 x.2.1 x.2.2.1 x.2.2.2.1 x.2.2.2.2.1 x.2.2.2.2.2 = some t) : Sat prog cxT 23 (c23 m) :=
  sat_t cxT_ok cxT_pok (by rfl) (fn := f23) rfl a23 n23 dd23 m ev23 kok_nil kwok_nil (fun L x => g23 L x.1 x.2.1 x.2.2.1 x.2.2.2.1 x.2.2.2.2.1 x.2.2.2.2.2) (fun L x => e23 L x.1 x.2.1 x.2.2.1 x.2.2.2.1 x.2.2.2.2.1 x.2.2.2.2.2) hm hs23
/-! loop.example/g00222/laws.FnExactCmdFault -/
def ev5 (m23 : (Int × Int × Int × Int × Int × Int) → Option (Int × Int × Int × Int × Int × Int)) (m22 : (Int × Int × Int × Int × Int × Int) → Option Int) (m24 : (Int × Int × Int × Int × Int × Int) → Option Int) : Env cxT := { Kc := kcOf [(23, c23 m23), (22, c22 m22), (24, c24 m24)], Kw := kwOf [], lv := fun i => [], xv := fun i => none }
theorem i5 (m23 : (Int × Int × Int × Int × Int × Int) → Option (Int × Int × Int × Int × Int × Int)) (m22 : (Int × Int × Int × Int × Int × Int) → Option Int) (m24 : (Int × Int × Int × Int × Int × Int) → Option Int) (L : Nat) (a0_0 : Int) (a0_1 : Int) (a0_2 : Int) (a0_3 : Int) (a0_4 : Int) (a0_5 : Int) : evFL prog (ev5 m23 m22 m24) (loopN L) f5 (a5.enc (a0_0, a0_1, a0_2, a0_3, a0_4, a0_5)) =
  tst (m23 (a0_0, (a0_1, (a0_2, (a0_3, (a0_4, a0_5)))))) ((0 : Int), (0 : Int), (0 : Int), (0 : Int), (0 : Int), (0 : Int)) fun (q1 : (Int × Int × Int × Int × Int × Int)) => tst (m22 (q1.1, (q1.2.1, (q1.2.2.1, (q1.2.2.2.1, (q1.2.2.2.2.1, q1.2.2.2.2.2)))))) (0 : Int) fun (q2 : Int) => tst (m23 (a0_0, (a0_1, (a0_2, (a0_3, (a0_4, a0_5)))))) ((0 : Int), (0 : Int), (0 : Int), (0 : Int), (0 : Int), (0 : Int)) fun (q3 : (Int × Int × Int × Int × Int × Int)) => tst (m24 (q1.1, (q1.2.1, (q1.2.2.1, (q1.2.2.2.1, (q1.2.2.2.2.1, q1.2.2.2.2.2)))))) (0 : Int) fun (q4 : Int) => bif (q4 != q2) then some (n5 Bool.false)
          else some (n5 Bool.true) := by kernel_rfl
def g5 (m23 : (Int × Int × Int × Int × Int × Int) → Option (Int × Int × Int × Int × Int × Int)) (m22 : (Int × Int × Int × Int × Int × Int) → Option Int) (m24 : (Int × Int × Int × Int × Int × Int) → Option Int) (L : Nat) (a0_0 : Int) (a0_1 : Int) (a0_2 : Int) (a0_3 : Int) (a0_4 : Int) (a0_5 : Int) : Option Bool :=
  tst (m23 (a0_0, (a0_1, (a0_2, (a0_3, (a0_4, a0_5)))))) ((0 : Int), (0 : Int), (0 : Int), (0 : Int), (0 : Int), (0 : Int)) fun (q1 : (Int × Int × Int × Int × Int × Int)) => tst (m22 (q1.1, (q1.2.1, (q1.2.2.1, (q1.2.2.2.1, (q1.2.2.2.2.1, q1.2.2.2.2.2)))))) (0 : Int) fun (q2 : Int) => tst (m23 (a0_0, (a0_1, (a0_2, (a0_3, (a0_4, a0_5)))))) ((0 : Int), (0 : Int), (0 : Int), (0 : Int), (0 : Int), (0 : Int)) fun (q3 : (Int × Int × Int × Int × Int × Int)) => tst (m24 (q1.1, (q1.2.1, (q1.2.2.1, (q1.2.2.2.1, (q1.2.2.2.2.1, q1.2.2.2.2.2)))))) (0 : Int) fun (q4 : Int) => bif (q4 != q2) then some Bool.false
          else some Bool.true
theorem e5 (m23 : (Int × Int × Int × Int × Int × Int) → Option (Int × Int × Int × Int × Int × Int)) (m22 : (Int × Int × Int × Int × Int × Int) → Option Int) (m24 : (Int × Int × Int × Int × Int × Int) → Option Int) (L : Nat) (a0_0 : Int) (a0_1 : Int) (a0_2 : Int) (a0_3 : Int) (a0_4 : Int) (a0_5 : Int) : evFL prog (ev5 m23 m22 m24) (loopN L) f5 (a5.enc (a0_0, a0_1, a0_2, a0_3, a0_4, a0_5)) = (g5 m23 m22 m24 L a0_0 a0_1 a0_2 a0_3 a0_4 a0_5).map n5 := by
  rw [i5]; simp only [g5, map_bif, map_tst, map_bnd, Option.map_some, Option.map_none]
theorem s5 (m23 : (Int × Int × Int × Int × Int × Int) → Option (Int × Int × Int × Int × Int × Int)) (m22 : (Int × Int × Int × Int × Int × Int) → Option Int) (m24 : (Int × Int × Int × Int × Int × Int) → Option Int) (h23 : Sat prog cxT 23 (c23 m23)) (h22 : Sat prog cxT 22 (c22 m22)) (h24 : Sat prog cxT 24 (c24 m24)) (m : (Int × Int × Int × Int × Int × Int) → Option Bool) (hm : ∀ (x : (Int × Int × Int × Int × Int × Int)) t, m x = some t → ∃ L, g5 m23 m22 m24 L x.1 x.2.1 x.2.2.1 x.2.2.2.1 x.2.2.2.2.1 x.2.2.2.2.2 = some t) : Sat prog cxT 5 (c5 m) :=
  sat_l cxT_ok cxT_pok (by rfl) (fn := f5) rfl a5 n5 dd5 m (ev5 m23 m22 m24) (kok_cons h23 (kok_cons h22 (kok_cons h24 kok_nil))) kwok_nil (fun L x => g5 m23 m22 m24 L x.1 x.2.1 x.2.2.1 x.2.2.2.1 x.2.2.2.2.1 x.2.2.2.2.2) (fun L x => e5 m23 m22 m24 L x.1 x.2.1 x.2.2.1 x.2.2.2.1 x.2.2.2.2.1 x.2.2.2.2.2) hm hs5
end Go.Proofs.Try
