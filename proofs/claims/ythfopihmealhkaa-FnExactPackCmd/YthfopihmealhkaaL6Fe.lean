/- A part of the proof of FnExactPackCmd: L6Fe, L6Ff. -/
import Derived.Test.YthfopihmealhkaaL6Base
set_option maxHeartbeats 0
set_option maxRecDepth 100000
set_option linter.unusedVariables false
set_option linter.unusedSimpArgs false
namespace Go.Proofs.Try
open Go Go.VM Go.RowKit
/-! loop.example/g00222/spec.l1Take -/
/-! loop.example/g00222/spec.l5Needs -/
def ev90 (m105 : (Int × Int × Int) → Option Bool) : Env cxT := { Kc := kcOf [(105, c105 m105)], Kw := kwOf [], lv := fun i => [], xv := fun i => none }
theorem i90 (m105 : (Int × Int × Int) → Option Bool) (L : Nat) (a0 : Int) : evF prog (ev90 m105) (loopN L) f90 (a90.enc a0) =
  tst (m105 (a0, ((5 : Int), (8 : Int)))) false fun (q1 : Bool) => bif (a0 != (5 : Int)) then bif (a0 == (1 : Int)) then some (n90 ((a0 != (6 : Int)), Bool.true, (a0 != (4 : Int)), q1))
      else some (n90 ((a0 != (6 : Int)), q1, (a0 != (4 : Int)), q1))
    else bif (a0 == (1 : Int)) then some (n90 (Bool.false, Bool.true, (a0 != (4 : Int)), q1))
    else some (n90 (Bool.false, q1, (a0 != (4 : Int)), q1)) := by kernel_rfl
def g90 (m105 : (Int × Int × Int) → Option Bool) (L : Nat) (a0 : Int) : Option (Bool × Bool × Bool × Bool) :=
  tst (m105 (a0, ((5 : Int), (8 : Int)))) false fun (q1 : Bool) => bif (a0 != (5 : Int)) then bif (a0 == (1 : Int)) then some ((a0 != (6 : Int)), Bool.true, (a0 != (4 : Int)), q1)
      else some ((a0 != (6 : Int)), q1, (a0 != (4 : Int)), q1)
    else bif (a0 == (1 : Int)) then some (Bool.false, Bool.true, (a0 != (4 : Int)), q1)
    else some (Bool.false, q1, (a0 != (4 : Int)), q1)
theorem e90 (m105 : (Int × Int × Int) → Option Bool) (L : Nat) (a0 : Int) : evF prog (ev90 m105) (loopN L) f90 (a90.enc a0) = (g90 m105 L a0).map n90 := by
  rw [i90]; simp only [g90, map_bif, map_tst, map_bnd, Option.map_some, Option.map_none]
theorem s90 (m105 : (Int × Int × Int) → Option Bool) (h105 : Sat prog cxT 105 (c105 m105)) (m : Int → Option (Bool × Bool × Bool × Bool)) (hm : ∀ (x : Int) t, m x = some t → ∃ L, g90 m105 L x = some t) : Sat prog cxT 90 (c90 m) :=
  sat_t cxT_ok cxT_pok (by rfl) (fn := f90) rfl a90 n90 dd90 m (ev90 m105) (kok_cons h105 kok_nil) kwok_nil (fun L x => g90 m105 L x) (fun L x => e90 m105 L x) hm hs90
/-! loop.example/g00222/spec.l5Number -/
def ev108 (m105 : (Int × Int × Int) → Option Bool) (m150 : Int → Option Bool) : Env cxT := { Kc := kcOf [(105, c105 m105), (150, c150 m150)], Kw := kwOf [], lv := fun i => [], xv := fun i => none }
theorem i108 (m105 : (Int × Int × Int) → Option Bool) (m150 : Int → Option Bool) (L : Nat) (a0_0 : Int) (a0_1 : Int) (a0_2 : Int) (a0_3 : Int) (a0_4 : Int) (a0_5 : Int) : evF prog (ev108 m105 m150) (loopN L) f108 (a108.enc (a0_0, a0_1, a0_2, a0_3, a0_4, a0_5)) =
  bif (a0_0 == (1 : Int)) then tst (m105 (a0_4, ((0 : Int), (9 : Int)))) false fun (q2 : Bool) => some (n108 q2)
  else bif (a0_0 == (2 : Int)) then tst (m105 (a0_4, ((0 : Int), (9 : Int)))) false fun (q2 : Bool) => some (n108 q2)
  else bif (a0_0 == (3 : Int)) then tst (m105 (a0_4, ((1 : Int), (3 : Int)))) false fun (q2 : Bool) => some (n108 q2)
  else bif (a0_0 == (9 : Int)) then tst (m105 (a0_4, ((0 : Int), (1 : Int)))) false fun (q2 : Bool) => some (n108 q2)
  else tst (m150 a0_4) false fun (q1 : Bool) => some (n108 q1) := by kernel_rfl
def g108 (m105 : (Int × Int × Int) → Option Bool) (m150 : Int → Option Bool) (L : Nat) (a0_0 : Int) (a0_1 : Int) (a0_2 : Int) (a0_3 : Int) (a0_4 : Int) (a0_5 : Int) : Option Bool :=
  bif (a0_0 == (1 : Int)) then tst (m105 (a0_4, ((0 : Int), (9 : Int)))) false fun (q2 : Bool) => some q2
  else bif (a0_0 == (2 : Int)) then tst (m105 (a0_4, ((0 : Int), (9 : Int)))) false fun (q2 : Bool) => some q2
  else bif (a0_0 == (3 : Int)) then tst (m105 (a0_4, ((1 : Int), (3 : Int)))) false fun (q2 : Bool) => some q2
  else bif (a0_0 == (9 : Int)) then tst (m105 (a0_4, ((0 : Int), (1 : Int)))) false fun (q2 : Bool) => some q2
  else tst (m150 a0_4) false fun (q1 : Bool) => some q1
theorem e108 (m105 : (Int × Int × Int) → Option Bool) (m150 : Int → Option Bool) (L : Nat) (a0_0 : Int) (a0_1 : Int) (a0_2 : Int) (a0_3 : Int) (a0_4 : Int) (a0_5 : Int) : evF prog (ev108 m105 m150) (loopN L) f108 (a108.enc (a0_0, a0_1, a0_2, a0_3, a0_4, a0_5)) = (g108 m105 m150 L a0_0 a0_1 a0_2 a0_3 a0_4 a0_5).map n108 := by
  rw [i108]; simp only [g108, map_bif, map_tst, map_bnd, Option.map_some, Option.map_none]
theorem s108 (m105 : (Int × Int × Int) → Option Bool) (m150 : Int → Option Bool) (h105 : Sat prog cxT 105 (c105 m105)) (h150 : Sat prog cxT 150 (c150 m150)) (m : (Int × Int × Int × Int × Int × Int) → Option Bool) (hm : ∀ (x : (Int × Int × Int × Int × Int × Int)) t, m x = some t → ∃ L, g108 m105 m150 L x.1 x.2.1 x.2.2.1 x.2.2.2.1 x.2.2.2.2.1 x.2.2.2.2.2 = some t) : Sat prog cxT 108 (c108 m) :=
  sat_t cxT_ok cxT_pok (by rfl) (fn := f108) rfl a108 n108 dd108 m (ev108 m105 m150) (kok_cons h105 (kok_cons h150 kok_nil)) kwok_nil (fun L x => g108 m105 m150 L x.1 x.2.1 x.2.2.1 x.2.2.2.1 x.2.2.2.2.1 x.2.2.2.2.2) (fun L x => e108 m105 m150 L x.1 x.2.1 x.2.2.1 x.2.2.2.1 x.2.2.2.2.1 x.2.2.2.2.2) hm hs108
/-! loop.example/g00222/spec.l6Cmd -/
def ev57 (m110 : (Int × Int) → Option (List Int)) : Env cxT := { Kc := kcOf [(110, c110 m110)], Kw := kwOf [], lv := fun i => [], xv := fun i => none }
theorem i57 (m110 : (Int × Int) → Option (List Int)) (L : Nat) (a0_0 : Int) (a0_1 : Int) (a0_2 : Int) (a0_3 : Int) (a0_4 : Int) (a0_5 : Int) : evF prog (ev57 m110) (loopN L) f57 (a57.enc (a0_0, a0_1, a0_2, a0_3, a0_4, a0_5)) =
  tst (m110 ((Go.IntKind.wrap Go.IntKind.i64 (a0_1 + (1 : Int))), (4 : Int))) [] fun (q1 : (List Int)) => bif (decide (((List.length (List.cons (Go.IntKind.wrap Go.IntKind.u8 a0_0) ([] : List (Int)))) + (List.length q1)) ≤ (1000000000 : Nat))) then tst (m110 (a0_2, (2 : Int))) [] fun (q3 : (List Int)) => bif (decide (((List.length ((List.cons (Go.IntKind.wrap Go.IntKind.u8 a0_0) ([] : List (Int))) ++ q1)) + (List.length q3)) ≤ (1000000000 : Nat))) then tst (m110 (a0_3, (4 : Int))) [] fun (q5 : (List Int)) => bif (decide (((List.length (((List.cons (Go.IntKind.wrap Go.IntKind.u8 a0_0) ([] : List (Int))) ++ q1) ++ q3)) + (List.length q5)) ≤ (1000000000 : Nat))) then tst (m110 (a0_4, (2 : Int))) [] fun (q7 : (List Int)) => bif (decide (((List.length ((((List.cons (Go.IntKind.wrap Go.IntKind.u8 a0_0) ([] : List (Int))) ++ q1) ++ q3) ++ q5)) + (List.length q7)) ≤ (1000000000 : Nat))) then bif (decide (((List.length (((((List.cons (Go.IntKind.wrap Go.IntKind.u8 a0_0) ([] : List (Int))) ++ q1) ++ q3) ++ q5) ++ q7)) + (List.length (List.cons (Go.IntKind.wrap Go.IntKind.u8 a0_5) ([] : List (Int))))) ≤ (1000000000 : Nat))) then some (n57 ((((((List.cons (Go.IntKind.wrap Go.IntKind.u8 a0_0) ([] : List (Int))) ++ q1) ++ q3) ++ q5) ++ q7) ++ (List.cons (Go.IntKind.wrap Go.IntKind.u8 a0_5) ([] : List (Int)))))
                  else none
                else none
            else none
        else none
    else none := by kernel_rfl
def g57 (m110 : (Int × Int) → Option (List Int)) (L : Nat) (a0_0 : Int) (a0_1 : Int) (a0_2 : Int) (a0_3 : Int) (a0_4 : Int) (a0_5 : Int) : Option (List Int) :=
  tst (m110 ((Go.IntKind.wrap Go.IntKind.i64 (a0_1 + (1 : Int))), (4 : Int))) [] fun (q1 : (List Int)) => bif (decide (((List.length (List.cons (Go.IntKind.wrap Go.IntKind.u8 a0_0) ([] : List (Int)))) + (List.length q1)) ≤ (1000000000 : Nat))) then tst (m110 (a0_2, (2 : Int))) [] fun (q3 : (List Int)) => bif (decide (((List.length ((List.cons (Go.IntKind.wrap Go.IntKind.u8 a0_0) ([] : List (Int))) ++ q1)) + (List.length q3)) ≤ (1000000000 : Nat))) then tst (m110 (a0_3, (4 : Int))) [] fun (q5 : (List Int)) => bif (decide (((List.length (((List.cons (Go.IntKind.wrap Go.IntKind.u8 a0_0) ([] : List (Int))) ++ q1) ++ q3)) + (List.length q5)) ≤ (1000000000 : Nat))) then tst (m110 (a0_4, (2 : Int))) [] fun (q7 : (List Int)) => bif (decide (((List.length ((((List.cons (Go.IntKind.wrap Go.IntKind.u8 a0_0) ([] : List (Int))) ++ q1) ++ q3) ++ q5)) + (List.length q7)) ≤ (1000000000 : Nat))) then bif (decide (((List.length (((((List.cons (Go.IntKind.wrap Go.IntKind.u8 a0_0) ([] : List (Int))) ++ q1) ++ q3) ++ q5) ++ q7)) + (List.length (List.cons (Go.IntKind.wrap Go.IntKind.u8 a0_5) ([] : List (Int))))) ≤ (1000000000 : Nat))) then some ((((((List.cons (Go.IntKind.wrap Go.IntKind.u8 a0_0) ([] : List (Int))) ++ q1) ++ q3) ++ q5) ++ q7) ++ (List.cons (Go.IntKind.wrap Go.IntKind.u8 a0_5) ([] : List (Int))))
                  else none
                else none
            else none
        else none
    else none
theorem e57 (m110 : (Int × Int) → Option (List Int)) (L : Nat) (a0_0 : Int) (a0_1 : Int) (a0_2 : Int) (a0_3 : Int) (a0_4 : Int) (a0_5 : Int) : evF prog (ev57 m110) (loopN L) f57 (a57.enc (a0_0, a0_1, a0_2, a0_3, a0_4, a0_5)) = (g57 m110 L a0_0 a0_1 a0_2 a0_3 a0_4 a0_5).map n57 := by
  rw [i57]; simp only [g57, map_bif, map_tst, map_bnd, Option.map_some, Option.map_none]
theorem s57 (m110 : (Int × Int) → Option (List Int)) (h110 : Sat prog cxT 110 (c110 m110)) (m : (Int × Int × Int × Int × Int × Int) → Option (List Int)) (hm : ∀ (x : (Int × Int × Int × Int × Int × Int)) t, m x = some t → ∃ L, g57 m110 L x.1 x.2.1 x.2.2.1 x.2.2.2.1 x.2.2.2.2.1 x.2.2.2.2.2 = some t) : Sat prog cxT 57 (c57 m) :=
  sat_t cxT_ok cxT_pok (by rfl) (fn := f57) rfl a57 n57 dd57 m (ev57 m110) (kok_cons h110 kok_nil) kwok_nil (fun L x => g57 m110 L x.1 x.2.1 x.2.2.1 x.2.2.2.1 x.2.2.2.2.1 x.2.2.2.2.2) (fun L x => e57 m110 L x.1 x.2.1 x.2.2.1 x.2.2.2.1 x.2.2.2.2.1 x.2.2.2.2.2) hm hs57
/-! loop.example/g00222/spec.PackCmd -/
def ev16 (m56 : (Int × Int × Int × Int × Int × Int) → Option Int) (m57 : (Int × Int × Int × Int × Int × Int) → Option (List Int)) : Env cxT := { Kc := kcOf [(56, c56 m56), (57, c57 m57)], Kw := kwOf [], lv := fun i => [], xv := fun i => none }
theorem i16 (m56 : (Int × Int × Int × Int × Int × Int) → Option Int) (m57 : (Int × Int × Int × Int × Int × Int) → Option (List Int)) (L : Nat) (a0_0 : Int) (a0_1 : Int) (a0_2 : Int) (a0_3 : Int) (a0_4 : Int) (a0_5 : Int) : evF prog (ev16 m56 m57) (loopN L) f16 (a16.enc (a0_0, a0_1, a0_2, a0_3, a0_4, a0_5)) =
  tst (m56 (a0_0, (a0_1, (a0_2, (a0_3, (a0_4, a0_5)))))) (0 : Int) fun (q1 : Int) => bif (q1 != (0 : Int)) then some (n16 (q1, ([] : List (Int))))
    else tst (m57 (a0_0, (a0_1, (a0_2, (a0_3, (a0_4, a0_5)))))) [] fun (q2 : (List Int)) => some (n16 ((0 : Int), q2)) := by kernel_rfl
def g16 (m56 : (Int × Int × Int × Int × Int × Int) → Option Int) (m57 : (Int × Int × Int × Int × Int × Int) → Option (List Int)) (L : Nat) (a0_0 : Int) (a0_1 : Int) (a0_2 : Int) (a0_3 : Int) (a0_4 : Int) (a0_5 : Int) : Option (Int × (List Int)) :=
  tst (m56 (a0_0, (a0_1, (a0_2, (a0_3, (a0_4, a0_5)))))) (0 : Int) fun (q1 : Int) => bif (q1 != (0 : Int)) then some (q1, ([] : List (Int)))
    else tst (m57 (a0_0, (a0_1, (a0_2, (a0_3, (a0_4, a0_5)))))) [] fun (q2 : (List Int)) => some ((0 : Int), q2)
theorem e16 (m56 : (Int × Int × Int × Int × Int × Int) → Option Int) (m57 : (Int × Int × Int × Int × Int × Int) → Option (List Int)) (L : Nat) (a0_0 : Int) (a0_1 : Int) (a0_2 : Int) (a0_3 : Int) (a0_4 : Int) (a0_5 : Int) : evF prog (ev16 m56 m57) (loopN L) f16 (a16.enc (a0_0, a0_1, a0_2, a0_3, a0_4, a0_5)) = (g16 m56 m57 L a0_0 a0_1 a0_2 a0_3 a0_4 a0_5).map n16 := by
  rw [i16]; simp only [g16, map_bif, map_tst, map_bnd, Option.map_some, Option.map_none]
theorem s16 (m56 : (Int × Int × Int × Int × Int × Int) → Option Int) (m57 : (Int × Int × Int × Int × Int × Int) → Option (List Int)) (h56 : Sat prog cxT 56 (c56 m56)) (h57 : Sat prog cxT 57 (c57 m57)) (m : (Int × Int × Int × Int × Int × Int) → Option (Int × (List Int))) (hm : ∀ (x : (Int × Int × Int × Int × Int × Int)) t, m x = some t → ∃ L, g16 m56 m57 L x.1 x.2.1 x.2.2.1 x.2.2.2.1 x.2.2.2.2.1 x.2.2.2.2.2 = some t) : Sat prog cxT 16 (c16 m) :=
  sat_t cxT_ok cxT_pok (by rfl) (fn := f16) rfl a16 n16 dd16 m (ev16 m56 m57) (kok_cons h56 (kok_cons h57 kok_nil)) kwok_nil (fun L x => g16 m56 m57 L x.1 x.2.1 x.2.2.1 x.2.2.2.1 x.2.2.2.2.1 x.2.2.2.2.2) (fun L x => e16 m56 m57 L x.1 x.2.1 x.2.2.1 x.2.2.2.1 x.2.2.2.2.1 x.2.2.2.2.2) hm hs16
/-! loop.example/g00222/spec.UnpackCmd -/
/-! loop.example/g00222/spec.l6Next -/
/-! loop.example/g00222/spec.UnpackConfig -/
/-! loop.example/g00222/impl.TakeNumber -/
/-! loop.example/g00222/impl.isNumberSize -/
/-! bytes.Equal -/
/-! loop.example/g00222/impl.isWritten -/
/-! loop.example/g00222/impl.PackCmd -/
def ev18 (m58 : (Int × Int × Int × Int × Int × Int) → Option Int) (m60 : (Int × Int) → Option (List Int)) (m61 : Int → Option (List Int)) (m59 : (List (List Int)) → Option (List Int)) : Env cxT := { Kc := kcOf [(58, c58 m58), (60, c60 m60), (61, c61 m61), (59, c59 m59)], Kw := kwOf [], lv := fun i => [], xv := fun i => none }
theorem i18 (m58 : (Int × Int × Int × Int × Int × Int) → Option Int) (m60 : (Int × Int) → Option (List Int)) (m61 : Int → Option (List Int)) (m59 : (List (List Int)) → Option (List Int)) (L : Nat) (a0_0 : Int) (a0_1 : Int) (a0_2 : Int) (a0_3 : Int) (a0_4 : Int) (a0_5 : Int) : evF prog (ev18 m58 m60 m61 m59) (loopN L) f18 (a18.enc (a0_0, a0_1, a0_2, a0_3, a0_4, a0_5)) =
  tst (m58 (a0_0, (a0_1, (a0_2, (a0_3, (a0_4, a0_5)))))) (0 : Int) fun (q1 : Int) => bif (q1 != (0 : Int)) then some (n18 (q1, ([] : List (Int))))
    else tst (m60 (a0_0, (1 : Int))) [] fun (q2 : (List Int)) => tst (m60 ((Go.IntKind.wrap Go.IntKind.i64 (a0_1 + (1 : Int))), (4 : Int))) [] fun (q3 : (List Int)) => tst (m61 a0_2) [] fun (q4 : (List Int)) => tst (m60 (a0_3, (4 : Int))) [] fun (q5 : (List Int)) => tst (m60 (a0_4, (2 : Int))) [] fun (q6 : (List Int)) => tst (m60 (a0_5, (1 : Int))) [] fun (q7 : (List Int)) => tst (m59 (List.cons q2 (List.cons q3 (List.cons q4 (List.cons q5 (List.cons q6 (List.cons q7 ([] : List (List Int))))))))) [] fun (q8 : (List Int)) => some (n18 ((0 : Int), q8)) := by kernel_rfl
def g18 (m58 : (Int × Int × Int × Int × Int × Int) → Option Int) (m60 : (Int × Int) → Option (List Int)) (m61 : Int → Option (List Int)) (m59 : (List (List Int)) → Option (List Int)) (L : Nat) (a0_0 : Int) (a0_1 : Int) (a0_2 : Int) (a0_3 : Int) (a0_4 : Int) (a0_5 : Int) : Option (Int × (List Int)) :=
  tst (m58 (a0_0, (a0_1, (a0_2, (a0_3, (a0_4, a0_5)))))) (0 : Int) fun (q1 : Int) => bif (q1 != (0 : Int)) then some (q1, ([] : List (Int)))
    else tst (m60 (a0_0, (1 : Int))) [] fun (q2 : (List Int)) => tst (m60 ((Go.IntKind.wrap Go.IntKind.i64 (a0_1 + (1 : Int))), (4 : Int))) [] fun (q3 : (List Int)) => tst (m61 a0_2) [] fun (q4 : (List Int)) => tst (m60 (a0_3, (4 : Int))) [] fun (q5 : (List Int)) => tst (m60 (a0_4, (2 : Int))) [] fun (q6 : (List Int)) => tst (m60 (a0_5, (1 : Int))) [] fun (q7 : (List Int)) => tst (m59 (List.cons q2 (List.cons q3 (List.cons q4 (List.cons q5 (List.cons q6 (List.cons q7 ([] : List (List Int))))))))) [] fun (q8 : (List Int)) => some ((0 : Int), q8)
theorem e18 (m58 : (Int × Int × Int × Int × Int × Int) → Option Int) (m60 : (Int × Int) → Option (List Int)) (m61 : Int → Option (List Int)) (m59 : (List (List Int)) → Option (List Int)) (L : Nat) (a0_0 : Int) (a0_1 : Int) (a0_2 : Int) (a0_3 : Int) (a0_4 : Int) (a0_5 : Int) : evF prog (ev18 m58 m60 m61 m59) (loopN L) f18 (a18.enc (a0_0, a0_1, a0_2, a0_3, a0_4, a0_5)) = (g18 m58 m60 m61 m59 L a0_0 a0_1 a0_2 a0_3 a0_4 a0_5).map n18 := by
  rw [i18]; simp only [g18, map_bif, map_tst, map_bnd, Option.map_some, Option.map_none]
theorem s18 (m58 : (Int × Int × Int × Int × Int × Int) → Option Int) (m60 : (Int × Int) → Option (List Int)) (m61 : Int → Option (List Int)) (m59 : (List (List Int)) → Option (List Int)) (h58 : Sat prog cxT 58 (c58 m58)) (h60 : Sat prog cxT 60 (c60 m60)) (h61 : Sat prog cxT 61 (c61 m61)) (h59 : Sat prog cxT 59 (c59 m59)) (m : (Int × Int × Int × Int × Int × Int) → Option (Int × (List Int))) (hm : ∀ (x : (Int × Int × Int × Int × Int × Int)) t, m x = some t → ∃ L, g18 m58 m60 m61 m59 L x.1 x.2.1 x.2.2.1 x.2.2.2.1 x.2.2.2.2.1 x.2.2.2.2.2 = some t) : Sat prog cxT 18 (c18 m) :=
  sat_t cxT_ok cxT_pok (by rfl) (fn := f18) rfl a18 n18 dd18 m (ev18 m58 m60 m61 m59) (kok_cons h58 (kok_cons h60 (kok_cons h61 (kok_cons h59 kok_nil)))) kwok_nil (fun L x => g18 m58 m60 m61 m59 L x.1 x.2.1 x.2.2.1 x.2.2.2.1 x.2.2.2.2.1 x.2.2.2.2.2) (fun L x => e18 m58 m60 m61 m59 L x.1 x.2.1 x.2.2.1 x.2.2.2.1 x.2.2.2.2.1 x.2.2.2.2.2) hm hs18
/-! loop.example/g00222/laws.FnExactPackCmd -/
def ev4 (m17 : (Int × Int × Int × Int × Int × Int) → Option (Int × Int × Int × Int × Int × Int)) (m16 : (Int × Int × Int × Int × Int × Int) → Option (Int × (List Int))) (m18 : (Int × Int × Int × Int × Int × Int) → Option (Int × (List Int))) (m19 : ((Int × (List Int)) × (Int × (List Int))) → Option Bool) (m20 : ((Int × (List Int)) × Int) → Option (Int × Int × (List Int))) (m21 : ((Int × (List Int)) × Int) → Option Int) : Env cxT := { Kc := kcOf [(17, c17 m17), (16, c16 m16), (18, c18 m18), (19, c19 m19), (21, c21 m21)], Kw := kwOf [(20, c20 m20)], lv := fun i => [], xv := fun i => none }
theorem i4 (m17 : (Int × Int × Int × Int × Int × Int) → Option (Int × Int × Int × Int × Int × Int)) (m16 : (Int × Int × Int × Int × Int × Int) → Option (Int × (List Int))) (m18 : (Int × Int × Int × Int × Int × Int) → Option (Int × (List Int))) (m19 : ((Int × (List Int)) × (Int × (List Int))) → Option Bool) (m20 : ((Int × (List Int)) × Int) → Option (Int × Int × (List Int))) (m21 : ((Int × (List Int)) × Int) → Option Int) (L : Nat) (a0_0 : Int) (a0_1 : Int) (a0_2 : Int) (a0_3 : Int) (a0_4 : Int) (a0_5 : Int) : evFL prog (ev4 m17 m16 m18 m19 m20 m21) (loopN L) f4 (a4.enc (a0_0, a0_1, a0_2, a0_3, a0_4, a0_5)) =
  tst (m17 (a0_0, (a0_1, (a0_2, (a0_3, (a0_4, a0_5)))))) ((0 : Int), (0 : Int), (0 : Int), (0 : Int), (0 : Int), (0 : Int)) fun (q1 : (Int × Int × Int × Int × Int × Int)) => tst (m16 (q1.1, (q1.2.1, (q1.2.2.1, (q1.2.2.2.1, (q1.2.2.2.2.1, q1.2.2.2.2.2)))))) ((0 : Int), []) fun (q2 : (Int × (List Int))) => tst (m17 (a0_0, (a0_1, (a0_2, (a0_3, (a0_4, a0_5)))))) ((0 : Int), (0 : Int), (0 : Int), (0 : Int), (0 : Int), (0 : Int)) fun (q3 : (Int × Int × Int × Int × Int × Int)) => tst (m18 (q1.1, (q1.2.1, (q1.2.2.1, (q1.2.2.2.1, (q1.2.2.2.2.1, q1.2.2.2.2.2)))))) ((0 : Int), []) fun (q4 : (Int × (List Int))) => tst (m19 ((q4.1, q4.2), (q2.1, q2.2))) false fun (q5 : Bool) => bif (!q5) then some (n4 Bool.false)
            else tst (m20 ((q4.1, q4.2), (1 : Int))) ((0 : Int), (0 : Int), []) fun (q6 : (Int × Int × (List Int))) => tst (m21 ((q4.1, q6.2.2), (1 : Int))) (0 : Int) fun (q7 : Int) => bif (decide (q7 < (0 : Int))) then some (n4 Bool.false)
                else bif (q7 != q6.1) then some (n4 Bool.false)
                else tst (m17 (a0_0, (a0_1, (a0_2, (a0_3, (a0_4, a0_5)))))) ((0 : Int), (0 : Int), (0 : Int), (0 : Int), (0 : Int), (0 : Int)) fun (q8 : (Int × Int × Int × Int × Int × Int)) => tst (m18 (q1.1, (q1.2.1, (q1.2.2.1, (q1.2.2.2.1, (q1.2.2.2.2.1, q1.2.2.2.2.2)))))) ((0 : Int), []) fun (q9 : (Int × (List Int))) => tst (m19 ((q4.1, q4.2), (q2.1, q2.2))) false fun (q10 : Bool) => bif (!q5) then some (n4 Bool.false)
                      else tst (m21 ((q4.1, q6.2.2), (1 : Int))) (0 : Int) fun (q11 : Int) => bif (decide (q7 < (0 : Int))) then some (n4 Bool.false)
                        else bif (q7 != q6.1) then some (n4 Bool.false)
                        else some (n4 Bool.true) := by kernel_rfl
def g4 (m17 : (Int × Int × Int × Int × Int × Int) → Option (Int × Int × Int × Int × Int × Int)) (m16 : (Int × Int × Int × Int × Int × Int) → Option (Int × (List Int))) (m18 : (Int × Int × Int × Int × Int × Int) → Option (Int × (List Int))) (m19 : ((Int × (List Int)) × (Int × (List Int))) → Option Bool) (m20 : ((Int × (List Int)) × Int) → Option (Int × Int × (List Int))) (m21 : ((Int × (List Int)) × Int) → Option Int) (L : Nat) (a0_0 : Int) (a0_1 : Int) (a0_2 : Int) (a0_3 : Int) (a0_4 : Int) (a0_5 : Int) : Option Bool :=
  tst (m17 (a0_0, (a0_1, (a0_2, (a0_3, (a0_4, a0_5)))))) ((0 : Int), (0 : Int), (0 : Int), (0 : Int), (0 : Int), (0 : Int)) fun (q1 : (Int × Int × Int × Int × Int × Int)) => tst (m16 (q1.1, (q1.2.1, (q1.2.2.1, (q1.2.2.2.1, (q1.2.2.2.2.1, q1.2.2.2.2.2)))))) ((0 : Int), []) fun (q2 : (Int × (List Int))) => tst (m17 (a0_0, (a0_1, (a0_2, (a0_3, (a0_4, a0_5)))))) ((0 : Int), (0 : Int), (0 : Int), (0 : Int), (0 : Int), (0 : Int)) fun (q3 : (Int × Int × Int × Int × Int × Int)) => tst (m18 (q1.1, (q1.2.1, (q1.2.2.1, (q1.2.2.2.1, (q1.2.2.2.2.1, q1.2.2.2.2.2)))))) ((0 : Int), []) fun (q4 : (Int × (List Int))) => tst (m19 ((q4.1, q4.2), (q2.1, q2.2))) false fun (q5 : Bool) => bif (!q5) then some Bool.false
            else tst (m20 ((q4.1, q4.2), (1 : Int))) ((0 : Int), (0 : Int), []) fun (q6 : (Int × Int × (List Int))) => tst (m21 ((q4.1, q6.2.2), (1 : Int))) (0 : Int) fun (q7 : Int) => bif (decide (q7 < (0 : Int))) then some Bool.false
                else bif (q7 != q6.1) then some Bool.false
                else tst (m17 (a0_0, (a0_1, (a0_2, (a0_3, (a0_4, a0_5)))))) ((0 : Int), (0 : Int), (0 : Int), (0 : Int), (0 : Int), (0 : Int)) fun (q8 : (Int × Int × Int × Int × Int × Int)) => tst (m18 (q1.1, (q1.2.1, (q1.2.2.1, (q1.2.2.2.1, (q1.2.2.2.2.1, q1.2.2.2.2.2)))))) ((0 : Int), []) fun (q9 : (Int × (List Int))) => tst (m19 ((q4.1, q4.2), (q2.1, q2.2))) false fun (q10 : Bool) => bif (!q5) then some Bool.false
                      else tst (m21 ((q4.1, q6.2.2), (1 : Int))) (0 : Int) fun (q11 : Int) => bif (decide (q7 < (0 : Int))) then some Bool.false
                        else bif (q7 != q6.1) then some Bool.false
                        else some Bool.true
theorem e4 (m17 : (Int × Int × Int × Int × Int × Int) → Option (Int × Int × Int × Int × Int × Int)) (m16 : (Int × Int × Int × Int × Int × Int) → Option (Int × (List Int))) (m18 : (Int × Int × Int × Int × Int × Int) → Option (Int × (List Int))) (m19 : ((Int × (List Int)) × (Int × (List Int))) → Option Bool) (m20 : ((Int × (List Int)) × Int) → Option (Int × Int × (List Int))) (m21 : ((Int × (List Int)) × Int) → Option Int) (L : Nat) (a0_0 : Int) (a0_1 : Int) (a0_2 : Int) (a0_3 : Int) (a0_4 : Int) (a0_5 : Int) : evFL prog (ev4 m17 m16 m18 m19 m20 m21) (loopN L) f4 (a4.enc (a0_0, a0_1, a0_2, a0_3, a0_4, a0_5)) = (g4 m17 m16 m18 m19 m20 m21 L a0_0 a0_1 a0_2 a0_3 a0_4 a0_5).map n4 := by
  rw [i4]; simp only [g4, map_bif, map_tst, map_bnd, Option.map_some, Option.map_none]
theorem s4 (m17 : (Int × Int × Int × Int × Int × Int) → Option (Int × Int × Int × Int × Int × Int)) (m16 : (Int × Int × Int × Int × Int × Int) → Option (Int × (List Int))) (m18 : (Int × Int × Int × Int × Int × Int) → Option (Int × (List Int))) (m19 : ((Int × (List Int)) × (Int × (List Int))) → Option Bool) (m20 : ((Int × (List Int)) × Int) → Option (Int × Int × (List Int))) (m21 : ((Int × (List Int)) × Int) → Option Int) (h17 : Sat prog cxT 17 (c17 m17)) (h16 : Sat prog cxT 16 (c16 m16)) (h18 : Sat prog cxT 18 (c18 m18)) (h19 : Sat prog cxT 19 (c19 m19)) (h20 : SatW prog cxT 20 (c20 m20).nres (c20 m20).n (c20 m20).F) (h21 : Sat prog cxT 21 (c21 m21)) (m : (Int × Int × Int × Int × Int × Int) → Option Bool) (hm : ∀ (x : (Int × Int × Int × Int × Int × Int)) t, m x = some t → ∃ L, g4 m17 m16 m18 m19 m20 m21 L x.1 x.2.1 x.2.2.1 x.2.2.2.1 x.2.2.2.2.1 x.2.2.2.2.2 = some t) : Sat prog cxT 4 (c4 m) :=
  sat_l cxT_ok cxT_pok (by rfl) (fn := f4) rfl a4 n4 dd4 m (ev4 m17 m16 m18 m19 m20 m21) (kok_cons h17 (kok_cons h16 (kok_cons h18 (kok_cons h19 (kok_cons h21 kok_nil))))) (kwok_cons h20 kwok_nil) (fun L x => g4 m17 m16 m18 m19 m20 m21 L x.1 x.2.1 x.2.2.1 x.2.2.2.1 x.2.2.2.2.1 x.2.2.2.2.2) (fun L x => e4 m17 m16 m18 m19 m20 m21 L x.1 x.2.1 x.2.2.1 x.2.2.2.1 x.2.2.2.2.1 x.2.2.2.2.2) hm hs4
/-! loop.example/g00222/laws.FnExactUnpackCmd -/
def ev5 (m23 : (List Int) → Option (List Int)) (m22 : (List Int) → Option (Int × Int × Int × Int × Int × Int × Int)) (m24 : (List Int) → Option (Int × Int × Int × Int × Int × Int × Int)) (m25 : ((Int × Int × Int × Int × Int × Int × Int) × (Int × Int × Int × Int × Int × Int × Int)) → Option Bool) (m26 : ((List Int) × (List Int)) → Option Bool) : Env cxT := { Kc := kcOf [(23, c23 m23), (22, c22 m22), (24, c24 m24), (25, c25 m25), (26, c26 m26)], Kw := kwOf [], lv := fun i => [], xv := fun i => none }
theorem i5 (m23 : (List Int) → Option (List Int)) (m22 : (List Int) → Option (Int × Int × Int × Int × Int × Int × Int)) (m24 : (List Int) → Option (Int × Int × Int × Int × Int × Int × Int)) (m25 : ((Int × Int × Int × Int × Int × Int × Int) × (Int × Int × Int × Int × Int × Int × Int)) → Option Bool) (m26 : ((List Int) × (List Int)) → Option Bool) (L : Nat) (a0 : (List Int)) : evFL prog (ev5 m23 m22 m24 m25 m26) (loopN L) f5 (a5.enc a0) =
  bif (decide ((Nat.cast (List.length a0) : Int) > (1048576 : Int))) then some (n5 Bool.true)
  else tst (m23 a0) [] fun (q1 : (List Int)) => tst (m22 q1) ((0 : Int), (0 : Int), (0 : Int), (0 : Int), (0 : Int), (0 : Int), (0 : Int)) fun (q2 : (Int × Int × Int × Int × Int × Int × Int)) => tst (m23 a0) [] fun (q3 : (List Int)) => tst (m24 q1) ((0 : Int), (0 : Int), (0 : Int), (0 : Int), (0 : Int), (0 : Int), (0 : Int)) fun (q4 : (Int × Int × Int × Int × Int × Int × Int)) => tst (m25 ((q4.1, (q4.2.1, (q4.2.2.1, (q4.2.2.2.1, (q4.2.2.2.2.1, (q4.2.2.2.2.2.1, q4.2.2.2.2.2.2)))))), (q2.1, (q2.2.1, (q2.2.2.1, (q2.2.2.2.1, (q2.2.2.2.2.1, (q2.2.2.2.2.2.1, q2.2.2.2.2.2.2)))))))) false fun (q5 : Bool) => bif (!q5) then some (n5 Bool.false)
            else tst (m23 a0) [] fun (q6 : (List Int)) => tst (m26 (q1, q1)) false fun (q7 : Bool) => bif (!q7) then some (n5 Bool.false)
                else some (n5 Bool.true) := by kernel_rfl
def g5 (m23 : (List Int) → Option (List Int)) (m22 : (List Int) → Option (Int × Int × Int × Int × Int × Int × Int)) (m24 : (List Int) → Option (Int × Int × Int × Int × Int × Int × Int)) (m25 : ((Int × Int × Int × Int × Int × Int × Int) × (Int × Int × Int × Int × Int × Int × Int)) → Option Bool) (m26 : ((List Int) × (List Int)) → Option Bool) (L : Nat) (a0 : (List Int)) : Option Bool :=
  bif (decide ((Nat.cast (List.length a0) : Int) > (1048576 : Int))) then some Bool.true
  else tst (m23 a0) [] fun (q1 : (List Int)) => tst (m22 q1) ((0 : Int), (0 : Int), (0 : Int), (0 : Int), (0 : Int), (0 : Int), (0 : Int)) fun (q2 : (Int × Int × Int × Int × Int × Int × Int)) => tst (m23 a0) [] fun (q3 : (List Int)) => tst (m24 q1) ((0 : Int), (0 : Int), (0 : Int), (0 : Int), (0 : Int), (0 : Int), (0 : Int)) fun (q4 : (Int × Int × Int × Int × Int × Int × Int)) => tst (m25 ((q4.1, (q4.2.1, (q4.2.2.1, (q4.2.2.2.1, (q4.2.2.2.2.1, (q4.2.2.2.2.2.1, q4.2.2.2.2.2.2)))))), (q2.1, (q2.2.1, (q2.2.2.1, (q2.2.2.2.1, (q2.2.2.2.2.1, (q2.2.2.2.2.2.1, q2.2.2.2.2.2.2)))))))) false fun (q5 : Bool) => bif (!q5) then some Bool.false
            else tst (m23 a0) [] fun (q6 : (List Int)) => tst (m26 (q1, q1)) false fun (q7 : Bool) => bif (!q7) then some Bool.false
                else some Bool.true
theorem e5 (m23 : (List Int) → Option (List Int)) (m22 : (List Int) → Option (Int × Int × Int × Int × Int × Int × Int)) (m24 : (List Int) → Option (Int × Int × Int × Int × Int × Int × Int)) (m25 : ((Int × Int × Int × Int × Int × Int × Int) × (Int × Int × Int × Int × Int × Int × Int)) → Option Bool) (m26 : ((List Int) × (List Int)) → Option Bool) (L : Nat) (a0 : (List Int)) : evFL prog (ev5 m23 m22 m24 m25 m26) (loopN L) f5 (a5.enc a0) = (g5 m23 m22 m24 m25 m26 L a0).map n5 := by
  rw [i5]; simp only [g5, map_bif, map_tst, map_bnd, Option.map_some, Option.map_none]
/-! loop.example/g00222/laws.FnExactUnpackConfig -/
def g7 (m23 : (List Int) → Option (List Int)) (m33 : (List Int) → Option (Int × Int × (List (Int × (Int × (Int × (Int × Bool))))) × (List (Int × (Int × (Int × (List Int))))))) (m34 : (List Int) → Option (Int × Int × (List (Int × (Int × (Int × (Int × Bool))))) × (List (Int × (Int × (Int × (List Int))))))) (m35 : ((Int × Int × (List (Int × (Int × (Int × (Int × Bool))))) × (List (Int × (Int × (Int × (List Int)))))) × (Int × Int × (List (Int × (Int × (Int × (Int × Bool))))) × (List (Int × (Int × (Int × (List Int))))))) → Option Bool) (m26 : ((List Int) × (List Int)) → Option Bool) (m36 : ((List Int) × Int) → Option (Int × (List Int))) (m37 : ((Int × Int × (List (Int × (Int × (Int × (Int × Bool))))) × (List (Int × (Int × (Int × (List Int)))))) × Int) → Option (Int × Int × Int × (List (Int × (Int × (Int × (Int × Bool))))) × (List (Int × (Int × (Int × (List Int))))))) (m38 : ((Int × Int × (List (Int × (Int × (Int × (Int × Bool))))) × (List (Int × (Int × (Int × (List Int)))))) × Int) → Option Int) (L : Nat) (a0 : (List Int)) : Option Bool :=
  bif (decide ((Nat.cast (List.length a0) : Int) > (1048576 : Int))) then some Bool.true
  else tst (m23 a0) [] fun (q1 : (List Int)) => tst (m33 q1) ((0 : Int), (0 : Int), [], []) fun (q2 : (Int × Int × (List (Int × (Int × (Int × (Int × Bool))))) × (List (Int × (Int × (Int × (List Int))))))) => tst (m23 a0) [] fun (q3 : (List Int)) => tst (m34 q1) ((0 : Int), (0 : Int), [], []) fun (q4 : (Int × Int × (List (Int × (Int × (Int × (Int × Bool))))) × (List (Int × (Int × (Int × (List Int))))))) => tst (m35 ((q4.1, (q4.2.1, (q4.2.2.1, q4.2.2.2))), (q2.1, (q2.2.1, (q2.2.2.1, q2.2.2.2))))) false fun (q5 : Bool) => bif (!q5) then some Bool.false
            else tst (m23 a0) [] fun (q6 : (List Int)) => tst (m26 (q1, q1)) false fun (q7 : Bool) => bif (!q7) then some Bool.false
                else tst (m36 (q1, (1 : Int))) ((0 : Int), []) fun (q8 : (Int × (List Int))) => bif (decide (q8.1 < (0 : Int))) then some Bool.false
                  else tst (m35 ((q4.1, (q4.2.1, (q4.2.2.1, q4.2.2.2))), (q2.1, (q2.2.1, (q2.2.2.1, q2.2.2.2))))) false fun (q9 : Bool) => bif (!q5) then some Bool.false
                    else tst (m37 ((q4.1, (q4.2.1, (q4.2.2.1, q4.2.2.2))), (1 : Int))) ((0 : Int), (0 : Int), (0 : Int), [], []) fun (q10 : (Int × Int × Int × (List (Int × (Int × (Int × (Int × Bool))))) × (List (Int × (Int × (Int × (List Int))))))) => tst (m38 ((q4.1, (q4.2.1, (q10.2.2.2.1, q10.2.2.2.2))), (1 : Int))) (0 : Int) fun (q11 : Int) => bif (decide (q11 < (0 : Int))) then some Bool.false
                        else bif (q11 != q10.1) then some Bool.false
                        else tst (m23 a0) [] fun (q12 : (List Int)) => tst (m34 q1) ((0 : Int), (0 : Int), [], []) fun (q13 : (Int × Int × (List (Int × (Int × (Int × (Int × Bool))))) × (List (Int × (Int × (Int × (List Int))))))) => tst (m35 ((q4.1, (q4.2.1, (q4.2.2.1, q4.2.2.2))), (q2.1, (q2.2.1, (q2.2.2.1, q2.2.2.2))))) false fun (q14 : Bool) => bif (!q5) then some Bool.false
                              else tst (m38 ((q4.1, (q4.2.1, (q10.2.2.2.1, q10.2.2.2.2))), (1 : Int))) (0 : Int) fun (q15 : Int) => bif (decide (q11 < (0 : Int))) then some Bool.false
                                else bif (q11 != q10.1) then some Bool.false
                                else some Bool.true
end Go.Proofs.Try

set_option maxHeartbeats 0
set_option maxRecDepth 100000
set_option linter.unusedVariables false
set_option linter.unusedSimpArgs false
namespace Go.Proofs.Try
open Go Go.VM Go.RowKit
/-! loop.example/g00222/impl.isYesOrNo -/
def ev161 : Env cxT := { Kc := kcOf [], Kw := kwOf [], lv := fun i => [], xv := fun i => none }
theorem i161 (L : Nat) (a0 : Int) : evF prog ev161 (loopN L) f161 (a161.enc a0) =
  bif (a0 == (0 : Int)) then some (n161 Bool.true)
  else some (n161 (a0 == (1 : Int))) := by kernel_rfl
def g161 (L : Nat) (a0 : Int) : Option Bool :=
  bif (a0 == (0 : Int)) then some Bool.true
  else some (a0 == (1 : Int))
theorem e161 (L : Nat) (a0 : Int) : evF prog ev161 (loopN L) f161 (a161.enc a0) = (g161 L a0).map n161 := by
  rw [i161]; simp only [g161, map_bif, map_tst, map_bnd, Option.map_some, Option.map_none]
theorem s161 (m : Int → Option Bool) (hm : ∀ (x : Int) t, m x = some t → ∃ L, g161 L x = some t) : Sat prog cxT 161 (c161 m) :=
  sat_t cxT_ok cxT_pok (by rfl) (fn := f161) rfl a161 n161 dd161 m ev161 kok_nil kwok_nil (fun L x => g161 L x) (fun L x => e161 L x) hm hs161
end Go.Proofs.Try
