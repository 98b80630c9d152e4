/- A part of the proof of FnExactUpdateFault: LtFa. -/
import Derived.Test.YtnmnomckcjihoaaGreatLtBase
set_option linter.unusedVariables false
set_option maxHeartbeats 0
set_option maxRecDepth 100000
set_option linter.unusedVariables false
set_option linter.unusedSimpArgs false
namespace Go.Proofs.Tryz
open Go Go.VM Go.RowKit
/-! loop.example/g00222/spec.l5Version -/
def ev24 (m34 : (Int × Int × Int) → Option Bool) : Env cxT := { Kc := kcOf [(34, c34 m34)], Kw := kwOf [], lv := fun i => [], xv := fun i => none }
theorem i24 (m34 : (Int × Int × Int) → Option Bool) (L : Nat) (a0 : Int) : evF prog (ev24 m34) (loopN L) f24 (a24.enc a0) =
  tst (m34 (a0, ((0 : Int), (1000000 : Int)))) false fun (q1 : Bool) => some (n24 q1) := by kernel_rfl
def g24 (m34 : (Int × Int × Int) → Option Bool) (L : Nat) (a0 : Int) : Option Bool :=
  tst (m34 (a0, ((0 : Int), (1000000 : Int)))) false fun (q1 : Bool) => some q1
theorem e24 (m34 : (Int × Int × Int) → Option Bool) (L : Nat) (a0 : Int) : evF prog (ev24 m34) (loopN L) f24 (a24.enc a0) = (g24 m34 L a0).map n24 := by
  rw [i24]; simp only [g24, map_bif, map_tst, map_bnd, Option.map_some, Option.map_none]
theorem s24 (m34 : (Int × Int × Int) → Option Bool) (h34 : Sat prog cxT 34 (c34 m34)) (m : Int → Option Bool) (hm : ∀ (x : Int) t, m x = some t → ∃ L, g24 m34 L x = some t) : Sat prog cxT 24 (c24 m) :=
  sat_t cxT_ok cxT_pok (by rfl) (fn := f24) rfl a24 n24 dd24 m (ev24 m34) (kok_cons h34 kok_nil) kwok_nil (fun L x => g24 m34 L x) (fun L x => e24 m34 L x) hm hs24
/-! loop.example/g00222/impl.isVersion -/
def ev29 : Env cxT := { Kc := kcOf [], Kw := kwOf [], lv := fun i => [], xv := fun i => none }
theorem i29 (L : Nat) (a0 : Int) : evF prog ev29 (loopN L) f29 (a29.enc a0) =
  bif (decide (a0 ≥ (0 : Int))) then some (n29 (decide (a0 ≤ (1000000 : Int))))
  else some (n29 Bool.false) := by kernel_rfl
def g29 (L : Nat) (a0 : Int) : Option Bool :=
  bif (decide (a0 ≥ (0 : Int))) then some (decide (a0 ≤ (1000000 : Int)))
  else some Bool.false
theorem e29 (L : Nat) (a0 : Int) : evF prog ev29 (loopN L) f29 (a29.enc a0) = (g29 L a0).map n29 := by
  rw [i29]; simp only [g29, map_bif, map_tst, map_bnd, Option.map_some, Option.map_none]
theorem s29 (m : Int → Option Bool) (hm : ∀ (x : Int) t, m x = some t → ∃ L, g29 L x = some t) : Sat prog cxT 29 (c29 m) :=
  sat_t cxT_ok cxT_pok (by rfl) (fn := f29) rfl a29 n29 dd29 m ev29 kok_nil kwok_nil (fun L x => g29 L x) (fun L x => e29 L x) hm hs29
/-! loop.example/g00222/spec.l1In -/
def ev34 : Env cxT := { Kc := kcOf [], Kw := kwOf [], lv := fun i => [], xv := fun i => none }
theorem i34 (L : Nat) (a0 : Int) (a1 : Int) (a2 : Int) : evF prog ev34 (loopN L) f34 (a34.enc (a0, a1, a2)) =
  bif (decide (a0 ≥ a1)) then some (n34 (decide (a0 ≤ a2)))
  else some (n34 Bool.false) := by kernel_rfl
def g34 (L : Nat) (a0 : Int) (a1 : Int) (a2 : Int) : Option Bool :=
  bif (decide (a0 ≥ a1)) then some (decide (a0 ≤ a2))
  else some Bool.false
theorem e34 (L : Nat) (a0 : Int) (a1 : Int) (a2 : Int) : evF prog ev34 (loopN L) f34 (a34.enc (a0, a1, a2)) = (g34 L a0 a1 a2).map n34 := by
  rw [i34]; simp only [g34, map_bif, map_tst, map_bnd, Option.map_some, Option.map_none]
theorem s34 (m : (Int × Int × Int) → Option Bool) (hm : ∀ (x : (Int × Int × Int)) t, m x = some t → ∃ L, g34 L x.1 x.2.1 x.2.2 = some t) : Sat prog cxT 34 (c34 m) :=
  sat_t cxT_ok cxT_pok (by rfl) (fn := f34) rfl a34 n34 dd34 m ev34 kok_nil kwok_nil (fun L x => g34 L x.1 x.2.1 x.2.2) (fun L x => e34 L x.1 x.2.1 x.2.2) hm hs34
/-! loop.example/g00222/laws.toCmd -/
def ev37 : Env cxT := { Kc := kcOf [], Kw := kwOf [], lv := fun i => [], xv := fun i => none }
theorem i37 (L : Nat) (a0_0 : Int) (a0_1 : Int) (a0_2 : Int) (a0_3 : Int) (a0_4 : Int) (a0_5 : Int) : evF prog ev37 (loopN L) f37 (a37.enc (a0_0, a0_1, a0_2, a0_3, a0_4, a0_5)) =
  some (n37 (a0_0, a0_1, a0_2, a0_3, a0_4, a0_5)) := by kernel_rfl
def g37 (L : Nat) (a0_0 : Int) (a0_1 : Int) (a0_2 : Int) (a0_3 : Int) (a0_4 : Int) (a0_5 : Int) : Option (Int × Int × Int × Int × Int × Int) :=
  some (a0_0, a0_1, a0_2, a0_3, a0_4, a0_5)
theorem e37 (L : Nat) (a0_0 : Int) (a0_1 : Int) (a0_2 : Int) (a0_3 : Int) (a0_4 : Int) (a0_5 : Int) : evF prog ev37 (loopN L) f37 (a37.enc (a0_0, a0_1, a0_2, a0_3, a0_4, a0_5)) = (g37 L a0_0 a0_1 a0_2 a0_3 a0_4 a0_5).map n37 := by
  rw [i37]; simp only [g37, map_bif, map_tst, map_bnd, Option.map_some, Option.map_none]
theorem s37 (m : (Int × Int × Int × Int × Int × Int) → Option (Int × Int × Int × Int × Int × Int)) (hm : ∀ (x : (Int × Int × Int × Int × Int × Int)) t, m x = some t → ∃ L, g37 L x.1 x.2.1 x.2.2.1 x.2.2.2.1 x.2.2.2.2.1 x.2.2.2.2.2 = some t) : Sat prog cxT 37 (c37 m) :=
  sat_t cxT_ok cxT_pok (by rfl) (fn := f37) rfl a37 n37 dd37 m ev37 kok_nil kwok_nil (fun L x => g37 L x.1 x.2.1 x.2.2.1 x.2.2.2.1 x.2.2.2.2.1 x.2.2.2.2.2) (fun L x => e37 L x.1 x.2.1 x.2.2.1 x.2.2.2.1 x.2.2.2.2.1 x.2.2.2.2.2) hm hs37
/-! loop.example/g00222/laws.eqCmd -/
def ev41 : Env cxT := { Kc := kcOf [], Kw := kwOf [], lv := fun i => [], xv := fun i => none }
theorem i41 (L : Nat) (a0_0 : Int) (a0_1 : Int) (a0_2 : Int) (a0_3 : Int) (a0_4 : Int) (a0_5 : Int) (a1_0 : Int) (a1_1 : Int) (a1_2 : Int) (a1_3 : Int) (a1_4 : Int) (a1_5 : Int) : evF prog ev41 (loopN L) f41 (a41.enc ((a0_0, a0_1, a0_2, a0_3, a0_4, a0_5), (a1_0, a1_1, a1_2, a1_3, a1_4, a1_5))) =
  bif (a0_0 != a1_0) then some (n41 Bool.false)
  else bif (a0_1 != a1_1) then some (n41 Bool.false)
  else bif (a0_2 != a1_2) then some (n41 Bool.false)
  else bif (a0_3 != a1_3) then some (n41 Bool.false)
  else bif (a0_4 != a1_4) then some (n41 Bool.false)
  else bif (a0_5 != a1_5) then some (n41 Bool.false)
  else some (n41 Bool.true) := by kernel_rfl
def g41 (L : Nat) (a0_0 : Int) (a0_1 : Int) (a0_2 : Int) (a0_3 : Int) (a0_4 : Int) (a0_5 : Int) (a1_0 : Int) (a1_1 : Int) (a1_2 : Int) (a1_3 : Int) (a1_4 : Int) (a1_5 : Int) : Option Bool :=
  bif (a0_0 != a1_0) then some Bool.false
  else bif (a0_1 != a1_1) then some Bool.false
  else bif (a0_2 != a1_2) then some Bool.false
  else bif (a0_3 != a1_3) then some Bool.false
  else bif (a0_4 != a1_4) then some Bool.false
  else bif (a0_5 != a1_5) then some Bool.false
  else some Bool.true
theorem e41 (L : Nat) (a0_0 : Int) (a0_1 : Int) (a0_2 : Int) (a0_3 : Int) (a0_4 : Int) (a0_5 : Int) (a1_0 : Int) (a1_1 : Int) (a1_2 : Int) (a1_3 : Int) (a1_4 : Int) (a1_5 : Int) : evF prog ev41 (loopN L) f41 (a41.enc ((a0_0, a0_1, a0_2, a0_3, a0_4, a0_5), (a1_0, a1_1, a1_2, a1_3, a1_4, a1_5))) = (g41 L a0_0 a0_1 a0_2 a0_3 a0_4 a0_5 a1_0 a1_1 a1_2 a1_3 a1_4 a1_5).map n41 := by
  rw [i41]; simp only [g41, map_bif, map_tst, map_bnd, Option.map_some, Option.map_none]
theorem s41 (m : ((Int × Int × Int × Int × Int × Int) × (Int × Int × Int × Int × Int × Int)) → Option Bool) (hm : ∀ (x : ((Int × Int × Int × Int × Int × Int) × (Int × Int × Int × Int × Int × Int))) t, m x = some t → ∃ L, g41 L x.1.1 x.1.2.1 x.1.2.2.1 x.1.2.2.2.1 x.1.2.2.2.2.1 x.1.2.2.2.2.2 x.2.1 x.2.2.1 x.2.2.2.1 x.2.2.2.2.1 x.2.2.2.2.2.1 x.2.2.2.2.2.2 = some t) : Sat prog cxT 41 (c41 m) :=
  sat_t cxT_ok cxT_pok (by rfl) (fn := f41) rfl a41 n41 dd41 m ev41 kok_nil kwok_nil (fun L x => g41 L x.1.1 x.1.2.1 x.1.2.2.1 x.1.2.2.2.1 x.1.2.2.2.2.1 x.1.2.2.2.2.2 x.2.1 x.2.2.1 x.2.2.2.1 x.2.2.2.2.1 x.2.2.2.2.2.1 x.2.2.2.2.2.2) (fun L x => e41 L x.1.1 x.1.2.1 x.1.2.2.1 x.1.2.2.2.1 x.1.2.2.2.2.1 x.1.2.2.2.2.2 x.2.1 x.2.2.1 x.2.2.2.1 x.2.2.2.2.1 x.2.2.2.2.2.1 x.2.2.2.2.2.2) hm hs41
/-! loop.example/g00222/spec.l5Backend -/
def ev48 (m51 : Int → Option Bool) (m52 : Int → Option Bool) (m34 : (Int × Int × Int) → Option Bool) : Env cxT := { Kc := kcOf [(51, c51 m51), (52, c52 m52), (34, c34 m34)], Kw := kwOf [], lv := fun i => [], xv := fun i => none }
theorem i48 (m51 : Int → Option Bool) (m52 : Int → Option Bool) (m34 : (Int × Int × Int) → Option Bool) (L : Nat) (a0_0 : Int) (a0_1 : Int) (a0_2 : Int) (a0_3 : Int) (a0_4 : Bool) : evF prog (ev48 m51 m52 m34) (loopN L) f48 (a48.enc (a0_0, a0_1, a0_2, a0_3, a0_4)) =
  tst (m51 a0_0) false fun (q1 : Bool) => bif q1 then tst (m52 a0_1) false fun (q3 : Bool) => bif q3 then tst (m34 (a0_2, ((0 : Int), (9 : Int)))) false fun (q5 : Bool) => bif q5 then tst (m34 (a0_3, ((1 : Int), (3 : Int)))) false fun (q7 : Bool) => some (n48 q7)
            else some (n48 Bool.false)
        else some (n48 Bool.false)
    else some (n48 Bool.false) := by kernel_rfl
def g48 (m51 : Int → Option Bool) (m52 : Int → Option Bool) (m34 : (Int × Int × Int) → Option Bool) (L : Nat) (a0_0 : Int) (a0_1 : Int) (a0_2 : Int) (a0_3 : Int) (a0_4 : Bool) : Option Bool :=
  tst (m51 a0_0) false fun (q1 : Bool) => bif q1 then tst (m52 a0_1) false fun (q3 : Bool) => bif q3 then tst (m34 (a0_2, ((0 : Int), (9 : Int)))) false fun (q5 : Bool) => bif q5 then tst (m34 (a0_3, ((1 : Int), (3 : Int)))) false fun (q7 : Bool) => some q7
            else some Bool.false
        else some Bool.false
    else some Bool.false
theorem e48 (m51 : Int → Option Bool) (m52 : Int → Option Bool) (m34 : (Int × Int × Int) → Option Bool) (L : Nat) (a0_0 : Int) (a0_1 : Int) (a0_2 : Int) (a0_3 : Int) (a0_4 : Bool) : evF prog (ev48 m51 m52 m34) (loopN L) f48 (a48.enc (a0_0, a0_1, a0_2, a0_3, a0_4)) = (g48 m51 m52 m34 L a0_0 a0_1 a0_2 a0_3 a0_4).map n48 := by
  rw [i48]; simp only [g48, map_bif, map_tst, map_bnd, Option.map_some, Option.map_none]
theorem s48 (m51 : Int → Option Bool) (m52 : Int → Option Bool) (m34 : (Int × Int × Int) → Option Bool) (h51 : Sat prog cxT 51 (c51 m51)) (h52 : Sat prog cxT 52 (c52 m52)) (h34 : Sat prog cxT 34 (c34 m34)) (m : (Int × Int × Int × Int × Bool) → Option Bool) (hm : ∀ (x : (Int × Int × Int × Int × Bool)) t, m x = some t → ∃ L, g48 m51 m52 m34 L x.1 x.2.1 x.2.2.1 x.2.2.2.1 x.2.2.2.2 = some t) : Sat prog cxT 48 (c48 m) :=
  sat_t cxT_ok cxT_pok (by rfl) (fn := f48) rfl a48 n48 dd48 m (ev48 m51 m52 m34) (kok_cons h51 (kok_cons h52 (kok_cons h34 kok_nil))) kwok_nil (fun L x => g48 m51 m52 m34 L x.1 x.2.1 x.2.2.1 x.2.2.2.1 x.2.2.2.2) (fun L x => e48 m51 m52 m34 L x.1 x.2.1 x.2.2.1 x.2.2.2.1 x.2.2.2.2) hm hs48
/-! loop.example/g00222/spec.l5Needs -/
def ev50 (m34 : (Int × Int × Int) → Option Bool) : Env cxT := { Kc := kcOf [(34, c34 m34)], Kw := kwOf [], lv := fun i => [], xv := fun i => none }
theorem i50 (m34 : (Int × Int × Int) → Option Bool) (L : Nat) (a0 : Int) : evF prog (ev50 m34) (loopN L) f50 (a50.enc a0) =
  tst (m34 (a0, ((5 : Int), (8 : Int)))) false fun (q1 : Bool) => bif (a0 != (5 : Int)) then bif (a0 == (1 : Int)) then some (n50 ((a0 != (6 : Int)), Bool.true, (a0 != (4 : Int)), q1))
      else some (n50 ((a0 != (6 : Int)), q1, (a0 != (4 : Int)), q1))
    else bif (a0 == (1 : Int)) then some (n50 (Bool.false, Bool.true, (a0 != (4 : Int)), q1))
    else some (n50 (Bool.false, q1, (a0 != (4 : Int)), q1)) := by kernel_rfl
def g50 (m34 : (Int × Int × Int) → Option Bool) (L : Nat) (a0 : Int) : Option (Bool × Bool × Bool × Bool) :=
  tst (m34 (a0, ((5 : Int), (8 : Int)))) false fun (q1 : Bool) => bif (a0 != (5 : Int)) then bif (a0 == (1 : Int)) then some ((a0 != (6 : Int)), Bool.true, (a0 != (4 : Int)), q1)
      else some ((a0 != (6 : Int)), q1, (a0 != (4 : Int)), q1)
    else bif (a0 == (1 : Int)) then some (Bool.false, Bool.true, (a0 != (4 : Int)), q1)
    else some (Bool.false, q1, (a0 != (4 : Int)), q1)
theorem e50 (m34 : (Int × Int × Int) → Option Bool) (L : Nat) (a0 : Int) : evF prog (ev50 m34) (loopN L) f50 (a50.enc a0) = (g50 m34 L a0).map n50 := by
  rw [i50]; simp only [g50, map_bif, map_tst, map_bnd, Option.map_some, Option.map_none]
theorem s50 (m34 : (Int × Int × Int) → Option Bool) (h34 : Sat prog cxT 34 (c34 m34)) (m : Int → Option (Bool × Bool × Bool × Bool)) (hm : ∀ (x : Int) t, m x = some t → ∃ L, g50 m34 L x = some t) : Sat prog cxT 50 (c50 m) :=
  sat_t cxT_ok cxT_pok (by rfl) (fn := f50) rfl a50 n50 dd50 m (ev50 m34) (kok_cons h34 kok_nil) kwok_nil (fun L x => g50 m34 L x) (fun L x => e50 m34 L x) hm hs50
/-! loop.example/g00222/spec.l3Name -/
def ev51 (m34 : (Int × Int × Int) → Option Bool) : Env cxT := { Kc := kcOf [(34, c34 m34)], Kw := kwOf [], lv := fun i => [], xv := fun i => none }
theorem i51 (m34 : (Int × Int × Int) → Option Bool) (L : Nat) (a0 : Int) : evF prog (ev51 m34) (loopN L) f51 (a51.enc a0) =
  tst (m34 (a0, ((1 : Int), (999 : Int)))) false fun (q1 : Bool) => some (n51 q1) := by kernel_rfl
def g51 (m34 : (Int × Int × Int) → Option Bool) (L : Nat) (a0 : Int) : Option Bool :=
  tst (m34 (a0, ((1 : Int), (999 : Int)))) false fun (q1 : Bool) => some q1
theorem e51 (m34 : (Int × Int × Int) → Option Bool) (L : Nat) (a0 : Int) : evF prog (ev51 m34) (loopN L) f51 (a51.enc a0) = (g51 m34 L a0).map n51 := by
  rw [i51]; simp only [g51, map_bif, map_tst, map_bnd, Option.map_some, Option.map_none]
theorem s51 (m34 : (Int × Int × Int) → Option Bool) (h34 : Sat prog cxT 34 (c34 m34)) (m : Int → Option Bool) (hm : ∀ (x : Int) t, m x = some t → ∃ L, g51 m34 L x = some t) : Sat prog cxT 51 (c51 m) :=
  sat_t cxT_ok cxT_pok (by rfl) (fn := f51) rfl a51 n51 dd51 m (ev51 m34) (kok_cons h34 kok_nil) kwok_nil (fun L x => g51 m34 L x) (fun L x => e51 m34 L x) hm hs51
/-! loop.example/g00222/spec.l2Address -/
def ev52 (m34 : (Int × Int × Int) → Option Bool) : Env cxT := { Kc := kcOf [(34, c34 m34)], Kw := kwOf [], lv := fun i => [], xv := fun i => none }
theorem i52 (m34 : (Int × Int × Int) → Option Bool) (L : Nat) (a0 : Int) : evF prog (ev52 m34) (loopN L) f52 (a52.enc a0) =
  tst (m34 (a0, ((0 : Int), (4294967295 : Int)))) false fun (q1 : Bool) => some (n52 q1) := by kernel_rfl
def g52 (m34 : (Int × Int × Int) → Option Bool) (L : Nat) (a0 : Int) : Option Bool :=
  tst (m34 (a0, ((0 : Int), (4294967295 : Int)))) false fun (q1 : Bool) => some q1
theorem e52 (m34 : (Int × Int × Int) → Option Bool) (L : Nat) (a0 : Int) : evF prog (ev52 m34) (loopN L) f52 (a52.enc a0) = (g52 m34 L a0).map n52 := by
  rw [i52]; simp only [g52, map_bif, map_tst, map_bnd, Option.map_some, Option.map_none]
theorem s52 (m34 : (Int × Int × Int) → Option Bool) (h34 : Sat prog cxT 34 (c34 m34)) (m : Int → Option Bool) (hm : ∀ (x : Int) t, m x = some t → ∃ L, g52 m34 L x = some t) : Sat prog cxT 52 (c52 m) :=
  sat_t cxT_ok cxT_pok (by rfl) (fn := f52) rfl a52 n52 dd52 m (ev52 m34) (kok_cons h34 kok_nil) kwok_nil (fun L x => g52 m34 L x) (fun L x => e52 m34 L x) hm hs52
/-! loop.example/g00222/spec.l5Number -/
def ev53 (m34 : (Int × Int × Int) → Option Bool) (m68 : Int → Option Bool) : Env cxT := { Kc := kcOf [(34, c34 m34), (68, c68 m68)], Kw := kwOf [], lv := fun i => [], xv := fun i => none }
theorem i53 (m34 : (Int × Int × Int) → Option Bool) (m68 : Int → Option Bool) (L : Nat) (a0_0 : Int) (a0_1 : Int) (a0_2 : Int) (a0_3 : Int) (a0_4 : Int) (a0_5 : Int) : evF prog (ev53 m34 m68) (loopN L) f53 (a53.enc (a0_0, a0_1, a0_2, a0_3, a0_4, a0_5)) =
  bif (a0_0 == (1 : Int)) then tst (m34 (a0_4, ((0 : Int), (9 : Int)))) false fun (q2 : Bool) => some (n53 q2)
  else bif (a0_0 == (2 : Int)) then tst (m34 (a0_4, ((0 : Int), (9 : Int)))) false fun (q2 : Bool) => some (n53 q2)
  else bif (a0_0 == (3 : Int)) then tst (m34 (a0_4, ((1 : Int), (3 : Int)))) false fun (q2 : Bool) => some (n53 q2)
  else bif (a0_0 == (9 : Int)) then tst (m34 (a0_4, ((0 : Int), (1 : Int)))) false fun (q2 : Bool) => some (n53 q2)
  else tst (m68 a0_4) false fun (q1 : Bool) => some (n53 q1) := by kernel_rfl
def g53 (m34 : (Int × Int × Int) → Option Bool) (m68 : Int → Option Bool) (L : Nat) (a0_0 : Int) (a0_1 : Int) (a0_2 : Int) (a0_3 : Int) (a0_4 : Int) (a0_5 : Int) : Option Bool :=
  bif (a0_0 == (1 : Int)) then tst (m34 (a0_4, ((0 : Int), (9 : Int)))) false fun (q2 : Bool) => some q2
  else bif (a0_0 == (2 : Int)) then tst (m34 (a0_4, ((0 : Int), (9 : Int)))) false fun (q2 : Bool) => some q2
  else bif (a0_0 == (3 : Int)) then tst (m34 (a0_4, ((1 : Int), (3 : Int)))) false fun (q2 : Bool) => some q2
  else bif (a0_0 == (9 : Int)) then tst (m34 (a0_4, ((0 : Int), (1 : Int)))) false fun (q2 : Bool) => some q2
  else tst (m68 a0_4) false fun (q1 : Bool) => some q1
theorem e53 (m34 : (Int × Int × Int) → Option Bool) (m68 : Int → Option Bool) (L : Nat) (a0_0 : Int) (a0_1 : Int) (a0_2 : Int) (a0_3 : Int) (a0_4 : Int) (a0_5 : Int) : evF prog (ev53 m34 m68) (loopN L) f53 (a53.enc (a0_0, a0_1, a0_2, a0_3, a0_4, a0_5)) = (g53 m34 m68 L a0_0 a0_1 a0_2 a0_3 a0_4 a0_5).map n53 := by
  rw [i53]; simp only [g53, map_bif, map_tst, map_bnd, Option.map_some, Option.map_none]
theorem s53 (m34 : (Int × Int × Int) → Option Bool) (m68 : Int → Option Bool) (h34 : Sat prog cxT 34 (c34 m34)) (h68 : Sat prog cxT 68 (c68 m68)) (m : (Int × Int × Int × Int × Int × Int) → Option Bool) (hm : ∀ (x : (Int × Int × Int × Int × Int × Int)) t, m x = some t → ∃ L, g53 m34 m68 L x.1 x.2.1 x.2.2.1 x.2.2.2.1 x.2.2.2.2.1 x.2.2.2.2.2 = some t) : Sat prog cxT 53 (c53 m) :=
  sat_t cxT_ok cxT_pok (by rfl) (fn := f53) rfl a53 n53 dd53 m (ev53 m34 m68) (kok_cons h34 (kok_cons h68 kok_nil)) kwok_nil (fun L x => g53 m34 m68 L x.1 x.2.1 x.2.2.1 x.2.2.2.1 x.2.2.2.2.1 x.2.2.2.2.2) (fun L x => e53 m34 m68 L x.1 x.2.1 x.2.2.1 x.2.2.2.1 x.2.2.2.2.1 x.2.2.2.2.2) hm hs53
/-! loop.example/g00222/spec.l5Proto -/
def ev54 : Env cxT := { Kc := kcOf [], Kw := kwOf [], lv := fun i => [], xv := fun i => none }
theorem i54 (L : Nat) (a0 : Int) : evF prog ev54 (loopN L) f54 (a54.enc a0) =
  bif (a0 == (6 : Int)) then some (n54 Bool.true)
  else some (n54 (a0 == (17 : Int))) := by kernel_rfl
def g54 (L : Nat) (a0 : Int) : Option Bool :=
  bif (a0 == (6 : Int)) then some Bool.true
  else some (a0 == (17 : Int))
theorem e54 (L : Nat) (a0 : Int) : evF prog ev54 (loopN L) f54 (a54.enc a0) = (g54 L a0).map n54 := by
  rw [i54]; simp only [g54, map_bif, map_tst, map_bnd, Option.map_some, Option.map_none]
theorem s54 (m : Int → Option Bool) (hm : ∀ (x : Int) t, m x = some t → ∃ L, g54 L x = some t) : Sat prog cxT 54 (c54 m) :=
  sat_t cxT_ok cxT_pok (by rfl) (fn := f54) rfl a54 n54 dd54 m ev54 kok_nil kwok_nil (fun L x => g54 L x) (fun L x => e54 L x) hm hs54
/-! loop.example/g00222/laws.toBackendS -/
def ev55 (m71 : (Int × Int × Int × Int × Bool) → Option (Int × Int × Int × Int × Bool)) : Env cxT := { Kc := kcOf [(71, c71 m71)], Kw := kwOf [], lv := fun i => if i = 0 then [(0, [some 104]), (3, [some 83]), (4, [])] else [], xv := fun i => if i = 0 then some [(3, [some 83])] else none }
def S55_0 (a0 : (List (Int × (Int × (Int × (Int × Bool)))))) (v0_3 : (List (Int × (Int × (Int × (Int × Bool)))))) (v0_4 : Int) : St cxT.ty := { slots := [(.inl (.inl (ls { own := 0, nm := 0, e := 104, o := false, xs := a0 }))), junk, junk, (.inl (.inl (ls { own := 1, nm := 192, e := 83, o := true, xs := v0_3 }))), (.inl (.inl (lv (.int .i64 v0_4))))] ++ List.replicate 18 junk, D := [], F := [], ctr := 1 }
def X55_0 (a0 : (List (Int × (Int × (Int × (Int × Bool)))))) (w0_3 : (List (Int × (Int × (Int × (Int × Bool)))))) : St cxT.ty := { slots := [junk, junk, junk, (.inl (.inl (ls { own := 1, nm := 192, e := 83, o := true, xs := w0_3 })))] ++ List.replicate 19 junk, D := [], F := [], ctr := 1 }
theorem i55 (m71 : (Int × Int × Int × Int × Bool) → Option (Int × Int × Int × Int × Bool)) (L : Nat) (a0 : (List (Int × (Int × (Int × (Int × Bool)))))) : evF prog (ev55 m71) (loopN L) f55 (a55.enc a0) =
  bif (((decide ((0 : Int) ≤ (Nat.cast (List.length a0) : Int))) && (decide ((Nat.cast (List.length a0) : Int) ≤ (Nat.cast (List.length a0) : Int)))) && (decide ((Nat.cast (List.length a0) : Int) ≤ (1000000000 : Int)))) then headF prog (ev55 m71) L f55 0 [1, 1, 0, 1, 0, 0] (outK (outV prog f55) (topK prog (ev55 m71) L f55 [1, 1, 0, 1] (outV prog f55)).n (topK prog (ev55 m71) L f55 [1, 1, 0, 1] (outV prog f55)).x) L (S55_0 a0 (List.replicate (Int.toNat (Nat.cast (List.length a0) : Int)) ((0 : Int), ((0 : Int), ((0 : Int), ((0 : Int), Bool.false))))) (0 : Int))
  else none := by kernel_rfl
theorem r55_0 (m71 : (Int × Int × Int × Int × Bool) → Option (Int × Int × Int × Int × Bool)) (L : Nat) (a0 : (List (Int × (Int × (Int × (Int × Bool)))))) (k : St cxT.ty → Option (V cxT.ty)) (xk : Nat → St cxT.ty → Option (V cxT.ty)) (g : St cxT.ty → Option (V cxT.ty)) (v0_3 : (List (Int × (Int × (Int × (Int × Bool)))))) (v0_4 : Int) : roundF prog (ev55 m71) L f55 0 [1, 1, 0, 1, 0, 0] (outK (outV prog f55) k xk) g (S55_0 a0 v0_3 v0_4) =
  bif (decide (v0_4 < (Nat.cast (List.length a0) : Int))) then bif ((decide ((0 : Int) ≤ v0_4)) && (decide (v0_4 < (Nat.cast (List.length a0) : Int)))) then tst (m71 ((List.getD a0 (Int.toNat v0_4) ((0 : Int), ((0 : Int), ((0 : Int), ((0 : Int), Bool.false))))).1, ((List.getD a0 (Int.toNat v0_4) ((0 : Int), ((0 : Int), ((0 : Int), ((0 : Int), Bool.false))))).2.1, ((List.getD a0 (Int.toNat v0_4) ((0 : Int), ((0 : Int), ((0 : Int), ((0 : Int), Bool.false))))).2.2.1, ((List.getD a0 (Int.toNat v0_4) ((0 : Int), ((0 : Int), ((0 : Int), ((0 : Int), Bool.false))))).2.2.2.1, (List.getD a0 (Int.toNat v0_4) ((0 : Int), ((0 : Int), ((0 : Int), ((0 : Int), Bool.false))))).2.2.2.2))))) ((0 : Int), (0 : Int), (0 : Int), (0 : Int), false) fun (q3 : (Int × Int × Int × Int × Bool)) => bif ((decide ((0 : Int) ≤ v0_4)) && (decide (v0_4 < (Nat.cast (List.length v0_3) : Int)))) then g (S55_0 a0 (List.set v0_3 (Int.toNat v0_4) (q3.1, (q3.2.1, (q3.2.2.1, (q3.2.2.2.1, q3.2.2.2.2))))) (Go.IntKind.wrap Go.IntKind.i64 (v0_4 + (1 : Int))))
        else none
    else none
  else k (X55_0 a0 v0_3) := by kernel_rfl
theorem t55_0 (m71 : (Int × Int × Int × Int × Bool) → Option (Int × Int × Int × Int × Bool)) (L : Nat) (a0 : (List (Int × (Int × (Int × (Int × Bool)))))) (w0_3 : (List (Int × (Int × (Int × (Int × Bool)))))) : (topK prog (ev55 m71) L f55 [1, 1, 0, 1] (outV prog f55)).n (X55_0 a0 w0_3) =
  some (n55 w0_3) := by kernel_rfl
def l55_0 (m71 : (Int × Int × Int × Int × Bool) → Option (Int × Int × Int × Int × Bool)) (L : Nat) (a0 : (List (Int × (Int × (Int × (Int × Bool)))))) : Nat → (List (Int × (Int × (Int × (Int × Bool))))) → Int → ((List (Int × (Int × (Int × (Int × Bool))))) → Option (List (Int × (Int × (Int × (Int × Bool)))))) → Option (List (Int × (Int × (Int × (Int × Bool)))))
  | 0, _, _, _ => none
  | n + 1, v0_3, v0_4, k =>
    bif (decide (v0_4 < (Nat.cast (List.length a0) : Int))) then bif ((decide ((0 : Int) ≤ v0_4)) && (decide (v0_4 < (Nat.cast (List.length a0) : Int)))) then tst (m71 ((List.getD a0 (Int.toNat v0_4) ((0 : Int), ((0 : Int), ((0 : Int), ((0 : Int), Bool.false))))).1, ((List.getD a0 (Int.toNat v0_4) ((0 : Int), ((0 : Int), ((0 : Int), ((0 : Int), Bool.false))))).2.1, ((List.getD a0 (Int.toNat v0_4) ((0 : Int), ((0 : Int), ((0 : Int), ((0 : Int), Bool.false))))).2.2.1, ((List.getD a0 (Int.toNat v0_4) ((0 : Int), ((0 : Int), ((0 : Int), ((0 : Int), Bool.false))))).2.2.2.1, (List.getD a0 (Int.toNat v0_4) ((0 : Int), ((0 : Int), ((0 : Int), ((0 : Int), Bool.false))))).2.2.2.2))))) ((0 : Int), (0 : Int), (0 : Int), (0 : Int), false) fun (q4 : (Int × Int × Int × Int × Bool)) => bif ((decide ((0 : Int) ≤ v0_4)) && (decide (v0_4 < (Nat.cast (List.length v0_3) : Int)))) then l55_0 m71 L a0 n (List.set v0_3 (Int.toNat v0_4) (q4.1, (q4.2.1, (q4.2.2.1, (q4.2.2.2.1, q4.2.2.2.2))))) (Go.IntKind.wrap Go.IntKind.i64 (v0_4 + (1 : Int))) k
          else none
      else none
    else k v0_3
theorem h55_0 (m71 : (Int × Int × Int × Int × Bool) → Option (Int × Int × Int × Int × Bool)) (L : Nat) (a0 : (List (Int × (Int × (Int × (Int × Bool)))))) (k : St cxT.ty → Option (V cxT.ty)) (xk : Nat → St cxT.ty → Option (V cxT.ty)) (k' : (List (Int × (Int × (Int × (Int × Bool))))) → Option (List (Int × (Int × (Int × (Int × Bool)))))) (hk : ∀ (w0_3 : (List (Int × (Int × (Int × (Int × Bool)))))), k (X55_0 a0 w0_3) = (k' w0_3).map n55) : ∀ (n : Nat) (v0_3 : (List (Int × (Int × (Int × (Int × Bool)))))) (v0_4 : Int), headF prog (ev55 m71) L f55 0 [1, 1, 0, 1, 0, 0] (outK (outV prog f55) k xk) n (S55_0 a0 v0_3 v0_4) = (l55_0 m71 L a0 n v0_3 v0_4 k').map n55
  | 0, _, _ => rfl
  | n + 1, v0_3, v0_4 => by
    rw [headF_round, r55_0]
    have ih := h55_0 m71 L a0 k xk k' hk n
    simp only [l55_0, map_bif, map_tst, map_bnd, Option.map_some, Option.map_none, ih, hk]
def g55 (m71 : (Int × Int × Int × Int × Bool) → Option (Int × Int × Int × Int × Bool)) (L : Nat) (a0 : (List (Int × (Int × (Int × (Int × Bool)))))) : Option (List (Int × (Int × (Int × (Int × Bool))))) :=
  bif (((decide ((0 : Int) ≤ (Nat.cast (List.length a0) : Int))) && (decide ((Nat.cast (List.length a0) : Int) ≤ (Nat.cast (List.length a0) : Int)))) && (decide ((Nat.cast (List.length a0) : Int) ≤ (1000000000 : Int)))) then l55_0 m71 L a0 L (List.replicate (Int.toNat (Nat.cast (List.length a0) : Int)) ((0 : Int), ((0 : Int), ((0 : Int), ((0 : Int), Bool.false))))) (0 : Int) (fun (w0_3 : (List (Int × (Int × (Int × (Int × Bool)))))) => some w0_3)
  else none
theorem e55 (m71 : (Int × Int × Int × Int × Bool) → Option (Int × Int × Int × Int × Bool)) (L : Nat) (a0 : (List (Int × (Int × (Int × (Int × Bool)))))) : evF prog (ev55 m71) (loopN L) f55 (a55.enc a0) = (g55 m71 L a0).map n55 := by
  let K'0 : (List (Int × (Int × (Int × (Int × Bool))))) → Option (List (Int × (Int × (Int × (Int × Bool))))) := (fun (w0_3 : (List (Int × (Int × (Int × (Int × Bool)))))) => some w0_3)
  have hin0 : ∀ (v0_3 : (List (Int × (Int × (Int × (Int × Bool)))))) (v0_4 : Int), headF prog (ev55 m71) L f55 0 [1, 1, 0, 1, 0, 0] (outK (outV prog f55) (topK prog (ev55 m71) L f55 [1, 1, 0, 1] (outV prog f55)).n (topK prog (ev55 m71) L f55 [1, 1, 0, 1] (outV prog f55)).x) L (S55_0 a0 v0_3 v0_4) = (l55_0 m71 L a0 L v0_3 v0_4 K'0).map n55 := fun v0_3 v0_4 => h55_0 m71 L a0 _ _ K'0 (fun w0_3 => by rw [t55_0]; simp only [K'0, map_bif, map_tst, map_bnd, Option.map_some, Option.map_none]) L v0_3 v0_4
  rw [i55]; simp only [g55, map_bif, map_tst, map_bnd, Option.map_some, Option.map_none, hin0, K'0]
theorem s55 (m71 : (Int × Int × Int × Int × Bool) → Option (Int × Int × Int × Int × Bool)) (h71 : Sat prog cxT 71 (c71 m71)) (m : (List (Int × (Int × (Int × (Int × Bool))))) → Option (List (Int × (Int × (Int × (Int × Bool)))))) (hm : ∀ (x : (List (Int × (Int × (Int × (Int × Bool)))))) t, m x = some t → ∃ L, g55 m71 L x = some t) : Sat prog cxT 55 (c55 m) :=
  sat_t cxT_ok cxT_pok (by rfl) (fn := f55) rfl a55 n55 dd55 m (ev55 m71) (kok_cons h71 kok_nil) kwok_nil (fun L x => g55 m71 L x) (fun L x => e55 m71 L x) hm hs55
/-! loop.example/g00222/laws.szVip -/
def ev67 (m83 : ((List Int) × Int) → Option Int) : Env cxT := { Kc := kcOf [(83, c83 m83)], Kw := kwOf [], lv := fun i => [], xv := fun i => none }
theorem i67 (m83 : ((List Int) × Int) → Option Int) (L : Nat) (a0_0 : Int) (a0_1 : Int) (a0_2 : Int) (a0_3 : (List Int)) (a1 : Int) : evF prog (ev67 m83) (loopN L) f67 (a67.enc ((a0_0, a0_1, a0_2, a0_3), a1)) =
  tst (m83 (a0_3, a1)) (0 : Int) fun (q1 : Int) => bif (decide (q1 < (0 : Int))) then some (n67 (-(1 : Int)))
    else some (n67 q1) := by kernel_rfl
def g67 (m83 : ((List Int) × Int) → Option Int) (L : Nat) (a0_0 : Int) (a0_1 : Int) (a0_2 : Int) (a0_3 : (List Int)) (a1 : Int) : Option Int :=
  tst (m83 (a0_3, a1)) (0 : Int) fun (q1 : Int) => bif (decide (q1 < (0 : Int))) then some (-(1 : Int))
    else some q1
theorem e67 (m83 : ((List Int) × Int) → Option Int) (L : Nat) (a0_0 : Int) (a0_1 : Int) (a0_2 : Int) (a0_3 : (List Int)) (a1 : Int) : evF prog (ev67 m83) (loopN L) f67 (a67.enc ((a0_0, a0_1, a0_2, a0_3), a1)) = (g67 m83 L a0_0 a0_1 a0_2 a0_3 a1).map n67 := by
  rw [i67]; simp only [g67, map_bif, map_tst, map_bnd, Option.map_some, Option.map_none]
theorem s67 (m83 : ((List Int) × Int) → Option Int) (h83 : Sat prog cxT 83 (c83 m83)) (m : ((Int × Int × Int × (List Int)) × Int) → Option Int) (hm : ∀ (x : ((Int × Int × Int × (List Int)) × Int)) t, m x = some t → ∃ L, g67 m83 L x.1.1 x.1.2.1 x.1.2.2.1 x.1.2.2.2 x.2 = some t) : Sat prog cxT 67 (c67 m) :=
  sat_t cxT_ok cxT_pok (by rfl) (fn := f67) rfl a67 n67 dd67 m (ev67 m83) (kok_cons h83 kok_nil) kwok_nil (fun L x => g67 m83 L x.1.1 x.1.2.1 x.1.2.2.1 x.1.2.2.2 x.2) (fun L x => e67 m83 L x.1.1 x.1.2.1 x.1.2.2.1 x.1.2.2.2 x.2) hm hs67
/-! loop.example/g00222/spec.l2Port -/
def ev68 (m34 : (Int × Int × Int) → Option Bool) : Env cxT := { Kc := kcOf [(34, c34 m34)], Kw := kwOf [], lv := fun i => [], xv := fun i => none }
theorem i68 (m34 : (Int × Int × Int) → Option Bool) (L : Nat) (a0 : Int) : evF prog (ev68 m34) (loopN L) f68 (a68.enc a0) =
  tst (m34 (a0, ((0 : Int), (65535 : Int)))) false fun (q1 : Bool) => some (n68 q1) := by kernel_rfl
def g68 (m34 : (Int × Int × Int) → Option Bool) (L : Nat) (a0 : Int) : Option Bool :=
  tst (m34 (a0, ((0 : Int), (65535 : Int)))) false fun (q1 : Bool) => some q1
theorem e68 (m34 : (Int × Int × Int) → Option Bool) (L : Nat) (a0 : Int) : evF prog (ev68 m34) (loopN L) f68 (a68.enc a0) = (g68 m34 L a0).map n68 := by
  rw [i68]; simp only [g68, map_bif, map_tst, map_bnd, Option.map_some, Option.map_none]
theorem s68 (m34 : (Int × Int × Int) → Option Bool) (h34 : Sat prog cxT 34 (c34 m34)) (m : Int → Option Bool) (hm : ∀ (x : Int) t, m x = some t → ∃ L, g68 m34 L x = some t) : Sat prog cxT 68 (c68 m) :=
  sat_t cxT_ok cxT_pok (by rfl) (fn := f68) rfl a68 n68 dd68 m (ev68 m34) (kok_cons h34 kok_nil) kwok_nil (fun L x => g68 m34 L x) (fun L x => e68 m34 L x) hm hs68
/-! loop.example/g00222/spec.l5Behind -/
def ev69 : Env cxT := { Kc := kcOf [], Kw := kwOf [], lv := fun i => [], xv := fun i => none }
theorem i69 (L : Nat) (a0_0 : Int) (a0_1 : Int) (a0_2 : Int) (a0_3 : (List Int)) (a1_0 : Int) (a1_1 : Int) (a1_2 : Int) (a1_3 : (List Int)) : evF prog ev69 (loopN L) f69 (a69.enc ((a0_0, a0_1, a0_2, a0_3), (a1_0, a1_1, a1_2, a1_3))) =
  bif (a0_0 != a1_0) then some (n69 (decide (a0_0 < a1_0)))
  else bif (a0_1 != a1_1) then some (n69 (decide (a0_1 < a1_1)))
  else some (n69 (decide (a0_2 < a1_2))) := by kernel_rfl
def g69 (L : Nat) (a0_0 : Int) (a0_1 : Int) (a0_2 : Int) (a0_3 : (List Int)) (a1_0 : Int) (a1_1 : Int) (a1_2 : Int) (a1_3 : (List Int)) : Option Bool :=
  bif (a0_0 != a1_0) then some (decide (a0_0 < a1_0))
  else bif (a0_1 != a1_1) then some (decide (a0_1 < a1_1))
  else some (decide (a0_2 < a1_2))
theorem e69 (L : Nat) (a0_0 : Int) (a0_1 : Int) (a0_2 : Int) (a0_3 : (List Int)) (a1_0 : Int) (a1_1 : Int) (a1_2 : Int) (a1_3 : (List Int)) : evF prog ev69 (loopN L) f69 (a69.enc ((a0_0, a0_1, a0_2, a0_3), (a1_0, a1_1, a1_2, a1_3))) = (g69 L a0_0 a0_1 a0_2 a0_3 a1_0 a1_1 a1_2 a1_3).map n69 := by
  rw [i69]; simp only [g69, map_bif, map_tst, map_bnd, Option.map_some, Option.map_none]
theorem s69 (m : ((Int × Int × Int × (List Int)) × (Int × Int × Int × (List Int))) → Option Bool) (hm : ∀ (x : ((Int × Int × Int × (List Int)) × (Int × Int × Int × (List Int)))) t, m x = some t → ∃ L, g69 L x.1.1 x.1.2.1 x.1.2.2.1 x.1.2.2.2 x.2.1 x.2.2.1 x.2.2.2.1 x.2.2.2.2 = some t) : Sat prog cxT 69 (c69 m) :=
  sat_t cxT_ok cxT_pok (by rfl) (fn := f69) rfl a69 n69 dd69 m ev69 kok_nil kwok_nil (fun L x => g69 L x.1.1 x.1.2.1 x.1.2.2.1 x.1.2.2.2 x.2.1 x.2.2.1 x.2.2.2.1 x.2.2.2.2) (fun L x => e69 L x.1.1 x.1.2.1 x.1.2.2.1 x.1.2.2.2 x.2.1 x.2.2.1 x.2.2.2.1 x.2.2.2.2) hm hs69
/-! loop.example/g00222/laws.toBackend -/
def ev71 : Env cxT := { Kc := kcOf [], Kw := kwOf [], lv := fun i => [], xv := fun i => none }
theorem i71 (L : Nat) (a0_0 : Int) (a0_1 : Int) (a0_2 : Int) (a0_3 : Int) (a0_4 : Bool) : evF prog ev71 (loopN L) f71 (a71.enc (a0_0, a0_1, a0_2, a0_3, a0_4)) =
  some (n71 (a0_0, a0_1, a0_2, a0_3, a0_4)) := by kernel_rfl
def g71 (L : Nat) (a0_0 : Int) (a0_1 : Int) (a0_2 : Int) (a0_3 : Int) (a0_4 : Bool) : Option (Int × Int × Int × Int × Bool) :=
  some (a0_0, a0_1, a0_2, a0_3, a0_4)
theorem e71 (L : Nat) (a0_0 : Int) (a0_1 : Int) (a0_2 : Int) (a0_3 : Int) (a0_4 : Bool) : evF prog ev71 (loopN L) f71 (a71.enc (a0_0, a0_1, a0_2, a0_3, a0_4)) = (g71 L a0_0 a0_1 a0_2 a0_3 a0_4).map n71 := by
  rw [i71]; simp only [g71, map_bif, map_tst, map_bnd, Option.map_some, Option.map_none]
theorem s71 (m : (Int × Int × Int × Int × Bool) → Option (Int × Int × Int × Int × Bool)) (hm : ∀ (x : (Int × Int × Int × Int × Bool)) t, m x = some t → ∃ L, g71 L x.1 x.2.1 x.2.2.1 x.2.2.2.1 x.2.2.2.2 = some t) : Sat prog cxT 71 (c71 m) :=
  sat_t cxT_ok cxT_pok (by rfl) (fn := f71) rfl a71 n71 dd71 m ev71 kok_nil kwok_nil (fun L x => g71 L x.1 x.2.1 x.2.2.1 x.2.2.2.1 x.2.2.2.2) (fun L x => e71 L x.1 x.2.1 x.2.2.1 x.2.2.2.1 x.2.2.2.2) hm hs71
/-! loop.example/g00222/laws.toVip -/
def ev72 (m84 : (List Int) → Option (List Int)) : Env cxT := { Kc := kcOf [(84, c84 m84)], Kw := kwOf [], lv := fun i => [], xv := fun i => none }
theorem i72 (m84 : (List Int) → Option (List Int)) (L : Nat) (a0_0 : Int) (a0_1 : Int) (a0_2 : Int) (a0_3 : (List Int)) : evF prog (ev72 m84) (loopN L) f72 (a72.enc (a0_0, a0_1, a0_2, a0_3)) =
  tst (m84 a0_3) [] fun (q1 : (List Int)) => some (n72 (a0_0, a0_1, a0_2, q1)) := by kernel_rfl
def g72 (m84 : (List Int) → Option (List Int)) (L : Nat) (a0_0 : Int) (a0_1 : Int) (a0_2 : Int) (a0_3 : (List Int)) : Option (Int × Int × Int × (List Int)) :=
  tst (m84 a0_3) [] fun (q1 : (List Int)) => some (a0_0, a0_1, a0_2, q1)
theorem e72 (m84 : (List Int) → Option (List Int)) (L : Nat) (a0_0 : Int) (a0_1 : Int) (a0_2 : Int) (a0_3 : (List Int)) : evF prog (ev72 m84) (loopN L) f72 (a72.enc (a0_0, a0_1, a0_2, a0_3)) = (g72 m84 L a0_0 a0_1 a0_2 a0_3).map n72 := by
  rw [i72]; simp only [g72, map_bif, map_tst, map_bnd, Option.map_some, Option.map_none]
theorem s72 (m84 : (List Int) → Option (List Int)) (h84 : Sat prog cxT 84 (c84 m84)) (m : (Int × Int × Int × (List Int)) → Option (Int × Int × Int × (List Int))) (hm : ∀ (x : (Int × Int × Int × (List Int))) t, m x = some t → ∃ L, g72 m84 L x.1 x.2.1 x.2.2.1 x.2.2.2 = some t) : Sat prog cxT 72 (c72 m) :=
  sat_t cxT_ok cxT_pok (by rfl) (fn := f72) rfl a72 n72 dd72 m (ev72 m84) (kok_cons h84 kok_nil) kwok_nil (fun L x => g72 m84 L x.1 x.2.1 x.2.2.1 x.2.2.2) (fun L x => e72 m84 L x.1 x.2.1 x.2.2.1 x.2.2.2) hm hs72
/-! loop.example/g00222/impl.isBackend -/
def ev73 (m85 : Int → Option Bool) (m86 : Int → Option Bool) (m87 : Int → Option Bool) (m88 : Int → Option Bool) : Env cxT := { Kc := kcOf [(85, c85 m85), (86, c86 m86), (87, c87 m87), (88, c88 m88)], Kw := kwOf [], lv := fun i => [], xv := fun i => none }
theorem i73 (m85 : Int → Option Bool) (m86 : Int → Option Bool) (m87 : Int → Option Bool) (m88 : Int → Option Bool) (L : Nat) (a0_0 : Int) (a0_1 : Int) (a0_2 : Int) (a0_3 : Int) (a0_4 : Bool) : evF prog (ev73 m85 m86 m87 m88) (loopN L) f73 (a73.enc (a0_0, a0_1, a0_2, a0_3, a0_4)) =
  tst (m85 a0_0) false fun (q1 : Bool) => bif q1 then tst (m86 a0_1) false fun (q3 : Bool) => bif q3 then tst (m87 a0_2) false fun (q5 : Bool) => bif q5 then tst (m88 a0_3) false fun (q7 : Bool) => some (n73 q7)
            else some (n73 Bool.false)
        else some (n73 Bool.false)
    else some (n73 Bool.false) := by kernel_rfl
def g73 (m85 : Int → Option Bool) (m86 : Int → Option Bool) (m87 : Int → Option Bool) (m88 : Int → Option Bool) (L : Nat) (a0_0 : Int) (a0_1 : Int) (a0_2 : Int) (a0_3 : Int) (a0_4 : Bool) : Option Bool :=
  tst (m85 a0_0) false fun (q1 : Bool) => bif q1 then tst (m86 a0_1) false fun (q3 : Bool) => bif q3 then tst (m87 a0_2) false fun (q5 : Bool) => bif q5 then tst (m88 a0_3) false fun (q7 : Bool) => some q7
            else some Bool.false
        else some Bool.false
    else some Bool.false
theorem e73 (m85 : Int → Option Bool) (m86 : Int → Option Bool) (m87 : Int → Option Bool) (m88 : Int → Option Bool) (L : Nat) (a0_0 : Int) (a0_1 : Int) (a0_2 : Int) (a0_3 : Int) (a0_4 : Bool) : evF prog (ev73 m85 m86 m87 m88) (loopN L) f73 (a73.enc (a0_0, a0_1, a0_2, a0_3, a0_4)) = (g73 m85 m86 m87 m88 L a0_0 a0_1 a0_2 a0_3 a0_4).map n73 := by
  rw [i73]; simp only [g73, map_bif, map_tst, map_bnd, Option.map_some, Option.map_none]
theorem s73 (m85 : Int → Option Bool) (m86 : Int → Option Bool) (m87 : Int → Option Bool) (m88 : Int → Option Bool) (h85 : Sat prog cxT 85 (c85 m85)) (h86 : Sat prog cxT 86 (c86 m86)) (h87 : Sat prog cxT 87 (c87 m87)) (h88 : Sat prog cxT 88 (c88 m88)) (m : (Int × Int × Int × Int × Bool) → Option Bool) (hm : ∀ (x : (Int × Int × Int × Int × Bool)) t, m x = some t → ∃ L, g73 m85 m86 m87 m88 L x.1 x.2.1 x.2.2.1 x.2.2.2.1 x.2.2.2.2 = some t) : Sat prog cxT 73 (c73 m) :=
  sat_t cxT_ok cxT_pok (by rfl) (fn := f73) rfl a73 n73 dd73 m (ev73 m85 m86 m87 m88) (kok_cons h85 (kok_cons h86 (kok_cons h87 (kok_cons h88 kok_nil)))) kwok_nil (fun L x => g73 m85 m86 m87 m88 L x.1 x.2.1 x.2.2.1 x.2.2.2.1 x.2.2.2.2) (fun L x => e73 m85 m86 m87 m88 L x.1 x.2.1 x.2.2.1 x.2.2.2.1 x.2.2.2.2) hm hs73
/-! loop.example/g00222/impl.isServed -/
def ev74 (m86 : Int → Option Bool) (m89 : Int → Option Bool) (m90 : Int → Option Bool) : Env cxT := { Kc := kcOf [(86, c86 m86), (89, c89 m89), (90, c90 m90)], Kw := kwOf [], lv := fun i => [], xv := fun i => none }
theorem i74 (m86 : Int → Option Bool) (m89 : Int → Option Bool) (m90 : Int → Option Bool) (L : Nat) (a0_0 : Int) (a0_1 : Int) (a0_2 : Int) (a0_3 : (List Int)) : evF prog (ev74 m86 m89 m90) (loopN L) f74 (a74.enc (a0_0, a0_1, a0_2, a0_3)) =
  tst (m86 a0_0) false fun (q1 : Bool) => bif q1 then tst (m89 a0_1) false fun (q3 : Bool) => bif q3 then tst (m90 a0_2) false fun (q5 : Bool) => some (n74 q5)
        else some (n74 Bool.false)
    else some (n74 Bool.false) := by kernel_rfl
def g74 (m86 : Int → Option Bool) (m89 : Int → Option Bool) (m90 : Int → Option Bool) (L : Nat) (a0_0 : Int) (a0_1 : Int) (a0_2 : Int) (a0_3 : (List Int)) : Option Bool :=
  tst (m86 a0_0) false fun (q1 : Bool) => bif q1 then tst (m89 a0_1) false fun (q3 : Bool) => bif q3 then tst (m90 a0_2) false fun (q5 : Bool) => some q5
        else some Bool.false
    else some Bool.false
theorem e74 (m86 : Int → Option Bool) (m89 : Int → Option Bool) (m90 : Int → Option Bool) (L : Nat) (a0_0 : Int) (a0_1 : Int) (a0_2 : Int) (a0_3 : (List Int)) : evF prog (ev74 m86 m89 m90) (loopN L) f74 (a74.enc (a0_0, a0_1, a0_2, a0_3)) = (g74 m86 m89 m90 L a0_0 a0_1 a0_2 a0_3).map n74 := by
  rw [i74]; simp only [g74, map_bif, map_tst, map_bnd, Option.map_some, Option.map_none]
theorem s74 (m86 : Int → Option Bool) (m89 : Int → Option Bool) (m90 : Int → Option Bool) (h86 : Sat prog cxT 86 (c86 m86)) (h89 : Sat prog cxT 89 (c89 m89)) (h90 : Sat prog cxT 90 (c90 m90)) (m : (Int × Int × Int × (List Int)) → Option Bool) (hm : ∀ (x : (Int × Int × Int × (List Int))) t, m x = some t → ∃ L, g74 m86 m89 m90 L x.1 x.2.1 x.2.2.1 x.2.2.2 = some t) : Sat prog cxT 74 (c74 m) :=
  sat_t cxT_ok cxT_pok (by rfl) (fn := f74) rfl a74 n74 dd74 m (ev74 m86 m89 m90) (kok_cons h86 (kok_cons h89 (kok_cons h90 kok_nil))) kwok_nil (fun L x => g74 m86 m89 m90 L x.1 x.2.1 x.2.2.1 x.2.2.2) (fun L x => e74 m86 m89 m90 L x.1 x.2.1 x.2.2.1 x.2.2.2) hm hs74
/-! loop.example/g00222/impl.compareVips -/
def ev75 (m92 : (Int × Int) → Option Int) (m91 : (List Int) → Option Int) : Env cxT := { Kc := kcOf [(92, c92 m92), (91, c91 m91)], Kw := kwOf [], lv := fun i => [], xv := fun i => none }
theorem i75 (m92 : (Int × Int) → Option Int) (m91 : (List Int) → Option Int) (L : Nat) (a0_0 : Int) (a0_1 : Int) (a0_2 : Int) (a0_3 : (List Int)) (a1_0 : Int) (a1_1 : Int) (a1_2 : Int) (a1_3 : (List Int)) : evF prog (ev75 m92 m91) (loopN L) f75 (a75.enc ((a0_0, a0_1, a0_2, a0_3), (a1_0, a1_1, a1_2, a1_3))) =
  tst (m92 (a0_0, a1_0)) (0 : Int) fun (q1 : Int) => tst (m92 (a0_1, a1_1)) (0 : Int) fun (q2 : Int) => tst (m92 (a0_2, a1_2)) (0 : Int) fun (q3 : Int) => tst (m91 (List.cons q1 (List.cons q2 (List.cons q3 ([] : List (Int)))))) (0 : Int) fun (q4 : Int) => some (n75 q4) := by kernel_rfl
def g75 (m92 : (Int × Int) → Option Int) (m91 : (List Int) → Option Int) (L : Nat) (a0_0 : Int) (a0_1 : Int) (a0_2 : Int) (a0_3 : (List Int)) (a1_0 : Int) (a1_1 : Int) (a1_2 : Int) (a1_3 : (List Int)) : Option Int :=
  tst (m92 (a0_0, a1_0)) (0 : Int) fun (q1 : Int) => tst (m92 (a0_1, a1_1)) (0 : Int) fun (q2 : Int) => tst (m92 (a0_2, a1_2)) (0 : Int) fun (q3 : Int) => tst (m91 (List.cons q1 (List.cons q2 (List.cons q3 ([] : List (Int)))))) (0 : Int) fun (q4 : Int) => some q4
theorem e75 (m92 : (Int × Int) → Option Int) (m91 : (List Int) → Option Int) (L : Nat) (a0_0 : Int) (a0_1 : Int) (a0_2 : Int) (a0_3 : (List Int)) (a1_0 : Int) (a1_1 : Int) (a1_2 : Int) (a1_3 : (List Int)) : evF prog (ev75 m92 m91) (loopN L) f75 (a75.enc ((a0_0, a0_1, a0_2, a0_3), (a1_0, a1_1, a1_2, a1_3))) = (g75 m92 m91 L a0_0 a0_1 a0_2 a0_3 a1_0 a1_1 a1_2 a1_3).map n75 := by
  rw [i75]; simp only [g75, map_bif, map_tst, map_bnd, Option.map_some, Option.map_none]
theorem s75 (m92 : (Int × Int) → Option Int) (m91 : (List Int) → Option Int) (h92 : Sat prog cxT 92 (c92 m92)) (h91 : Sat prog cxT 91 (c91 m91)) (m : ((Int × Int × Int × (List Int)) × (Int × Int × Int × (List Int))) → Option Int) (hm : ∀ (x : ((Int × Int × Int × (List Int)) × (Int × Int × Int × (List Int)))) t, m x = some t → ∃ L, g75 m92 m91 L x.1.1 x.1.2.1 x.1.2.2.1 x.1.2.2.2 x.2.1 x.2.2.1 x.2.2.2.1 x.2.2.2.2 = some t) : Sat prog cxT 75 (c75 m) :=
  sat_t cxT_ok cxT_pok (by rfl) (fn := f75) rfl a75 n75 dd75 m (ev75 m92 m91) (kok_cons h92 (kok_cons h91 kok_nil)) kwok_nil (fun L x => g75 m92 m91 L x.1.1 x.1.2.1 x.1.2.2.1 x.1.2.2.2 x.2.1 x.2.2.1 x.2.2.2.1 x.2.2.2.2) (fun L x => e75 m92 m91 L x.1.1 x.1.2.1 x.1.2.2.1 x.1.2.2.2 x.2.1 x.2.2.1 x.2.2.2.1 x.2.2.2.2) hm hs75
/-! loop.example/g00222/impl.isName -/
def ev85 : Env cxT := { Kc := kcOf [], Kw := kwOf [], lv := fun i => [], xv := fun i => none }
theorem i85 (L : Nat) (a0 : Int) : evF prog ev85 (loopN L) f85 (a85.enc a0) =
  bif (decide (a0 ≥ (1 : Int))) then some (n85 (decide (a0 ≤ (999 : Int))))
  else some (n85 Bool.false) := by kernel_rfl
def g85 (L : Nat) (a0 : Int) : Option Bool :=
  bif (decide (a0 ≥ (1 : Int))) then some (decide (a0 ≤ (999 : Int)))
  else some Bool.false
theorem e85 (L : Nat) (a0 : Int) : evF prog ev85 (loopN L) f85 (a85.enc a0) = (g85 L a0).map n85 := by
  rw [i85]; simp only [g85, map_bif, map_tst, map_bnd, Option.map_some, Option.map_none]
theorem s85 (m : Int → Option Bool) (hm : ∀ (x : Int) t, m x = some t → ∃ L, g85 L x = some t) : Sat prog cxT 85 (c85 m) :=
  sat_t cxT_ok cxT_pok (by rfl) (fn := f85) rfl a85 n85 dd85 m ev85 kok_nil kwok_nil (fun L x => g85 L x) (fun L x => e85 L x) hm hs85
/-! loop.example/g00222/impl.isAddress -/
def ev86 : Env cxT := { Kc := kcOf [], Kw := kwOf [], lv := fun i => [], xv := fun i => none }
theorem i86 (L : Nat) (a0 : Int) : evF prog ev86 (loopN L) f86 (a86.enc a0) =
  bif (decide (a0 ≥ (0 : Int))) then some (n86 (decide (a0 ≤ (4294967295 : Int))))
  else some (n86 Bool.false) := by kernel_rfl
def g86 (L : Nat) (a0 : Int) : Option Bool :=
  bif (decide (a0 ≥ (0 : Int))) then some (decide (a0 ≤ (4294967295 : Int)))
  else some Bool.false
theorem e86 (L : Nat) (a0 : Int) : evF prog ev86 (loopN L) f86 (a86.enc a0) = (g86 L a0).map n86 := by
  rw [i86]; simp only [g86, map_bif, map_tst, map_bnd, Option.map_some, Option.map_none]
theorem s86 (m : Int → Option Bool) (hm : ∀ (x : Int) t, m x = some t → ∃ L, g86 L x = some t) : Sat prog cxT 86 (c86 m) :=
  sat_t cxT_ok cxT_pok (by rfl) (fn := f86) rfl a86 n86 dd86 m ev86 kok_nil kwok_nil (fun L x => g86 L x) (fun L x => e86 L x) hm hs86
/-! loop.example/g00222/impl.isWeight -/
def ev87 : Env cxT := { Kc := kcOf [], Kw := kwOf [], lv := fun i => [], xv := fun i => none }
theorem i87 (L : Nat) (a0 : Int) : evF prog ev87 (loopN L) f87 (a87.enc a0) =
  bif (decide (a0 ≥ (0 : Int))) then some (n87 (decide (a0 ≤ (9 : Int))))
  else some (n87 Bool.false) := by kernel_rfl
def g87 (L : Nat) (a0 : Int) : Option Bool :=
  bif (decide (a0 ≥ (0 : Int))) then some (decide (a0 ≤ (9 : Int)))
  else some Bool.false
theorem e87 (L : Nat) (a0 : Int) : evF prog ev87 (loopN L) f87 (a87.enc a0) = (g87 L a0).map n87 := by
  rw [i87]; simp only [g87, map_bif, map_tst, map_bnd, Option.map_some, Option.map_none]
theorem s87 (m : Int → Option Bool) (hm : ∀ (x : Int) t, m x = some t → ∃ L, g87 L x = some t) : Sat prog cxT 87 (c87 m) :=
  sat_t cxT_ok cxT_pok (by rfl) (fn := f87) rfl a87 n87 dd87 m ev87 kok_nil kwok_nil (fun L x => g87 L x) (fun L x => e87 L x) hm hs87
/-! loop.example/g00222/impl.isStage -/
def ev88 : Env cxT := { Kc := kcOf [], Kw := kwOf [], lv := fun i => [], xv := fun i => none }
theorem i88 (L : Nat) (a0 : Int) : evF prog ev88 (loopN L) f88 (a88.enc a0) =
  bif (decide (a0 ≥ (1 : Int))) then some (n88 (decide (a0 ≤ (3 : Int))))
  else some (n88 Bool.false) := by kernel_rfl
def g88 (L : Nat) (a0 : Int) : Option Bool :=
  bif (decide (a0 ≥ (1 : Int))) then some (decide (a0 ≤ (3 : Int)))
  else some Bool.false
theorem e88 (L : Nat) (a0 : Int) : evF prog ev88 (loopN L) f88 (a88.enc a0) = (g88 L a0).map n88 := by
  rw [i88]; simp only [g88, map_bif, map_tst, map_bnd, Option.map_some, Option.map_none]
theorem s88 (m : Int → Option Bool) (hm : ∀ (x : Int) t, m x = some t → ∃ L, g88 L x = some t) : Sat prog cxT 88 (c88 m) :=
  sat_t cxT_ok cxT_pok (by rfl) (fn := f88) rfl a88 n88 dd88 m ev88 kok_nil kwok_nil (fun L x => g88 L x) (fun L x => e88 L x) hm hs88
/-! loop.example/g00222/impl.isPort -/
def ev89 : Env cxT := { Kc := kcOf [], Kw := kwOf [], lv := fun i => [], xv := fun i => none }
theorem i89 (L : Nat) (a0 : Int) : evF prog ev89 (loopN L) f89 (a89.enc a0) =
  bif (decide (a0 ≥ (0 : Int))) then some (n89 (decide (a0 ≤ (65535 : Int))))
  else some (n89 Bool.false) := by kernel_rfl
def g89 (L : Nat) (a0 : Int) : Option Bool :=
  bif (decide (a0 ≥ (0 : Int))) then some (decide (a0 ≤ (65535 : Int)))
  else some Bool.false
theorem e89 (L : Nat) (a0 : Int) : evF prog ev89 (loopN L) f89 (a89.enc a0) = (g89 L a0).map n89 := by
  rw [i89]; simp only [g89, map_bif, map_tst, map_bnd, Option.map_some, Option.map_none]
theorem s89 (m : Int → Option Bool) (hm : ∀ (x : Int) t, m x = some t → ∃ L, g89 L x = some t) : Sat prog cxT 89 (c89 m) :=
  sat_t cxT_ok cxT_pok (by rfl) (fn := f89) rfl a89 n89 dd89 m ev89 kok_nil kwok_nil (fun L x => g89 L x) (fun L x => e89 L x) hm hs89
/-! loop.example/g00222/impl.isProto -/
def ev90 : Env cxT := { Kc := kcOf [], Kw := kwOf [], lv := fun i => [], xv := fun i => none }
theorem i90 (L : Nat) (a0 : Int) : evF prog ev90 (loopN L) f90 (a90.enc a0) =
  bif (a0 == (6 : Int)) then some (n90 Bool.true)
  else some (n90 (a0 == (17 : Int))) := by kernel_rfl
def g90 (L : Nat) (a0 : Int) : Option Bool :=
  bif (a0 == (6 : Int)) then some Bool.true
  else some (a0 == (17 : Int))
theorem e90 (L : Nat) (a0 : Int) : evF prog ev90 (loopN L) f90 (a90.enc a0) = (g90 L a0).map n90 := by
  rw [i90]; simp only [g90, map_bif, map_tst, map_bnd, Option.map_some, Option.map_none]
theorem s90 (m : Int → Option Bool) (hm : ∀ (x : Int) t, m x = some t → ∃ L, g90 L x = some t) : Sat prog cxT 90 (c90 m) :=
  sat_t cxT_ok cxT_pok (by rfl) (fn := f90) rfl a90 n90 dd90 m ev90 kok_nil kwok_nil (fun L x => g90 L x) (fun L x => e90 L x) hm hs90
/-! cmp.Or[int] -/
def ev91 : Env cxT := { Kc := kcOf [], Kw := kwOf [], lv := fun i => if i = 0 then [(3, []), (6, [some 3]), (7, []), (8, [])] else [], xv := fun i => if i = 0 then some [(3, [])] else none }
def S91_0 (a0 : (List Int)) (v0_8 : Int) : St cxT.ty := { slots := [junk, junk, junk, (.inl (.inl (lv (.int .i64 (0 : Int))))), junk, junk, (.inl (.inl (ls { own := 0, nm := 0, e := 3, o := false, xs := a0 }))), (.inl (.inl (lv (.int .i64 (Nat.cast (List.length a0) : Int))))), (.inl (.inl (lv (.int .i64 v0_8))))] ++ List.replicate 9 junk, D := [], F := [], ctr := 1 }
def X91_0 (a0 : (List Int)) : St cxT.ty := { slots := [junk, junk, junk, (.inl (.inl (lv (.int .i64 (0 : Int)))))] ++ List.replicate 14 junk, D := [], F := [], ctr := 1 }
theorem i91 (L : Nat) (a0 : (List Int)) : evF prog ev91 (loopN L) f91 (a91.enc a0) =
  headF prog ev91 L f91 0 [1, 1, 0, 1, 0, 0] (outK (outV prog f91) (topK prog ev91 L f91 [1, 1, 0, 1] (outV prog f91)).n (topK prog ev91 L f91 [1, 1, 0, 1] (outV prog f91)).x) L (S91_0 a0 (0 : Int)) := by kernel_rfl
theorem r91_0 (L : Nat) (a0 : (List Int)) (k : St cxT.ty → Option (V cxT.ty)) (xk : Nat → St cxT.ty → Option (V cxT.ty)) (g : St cxT.ty → Option (V cxT.ty)) (v0_8 : Int) : roundF prog ev91 L f91 0 [1, 1, 0, 1, 0, 0] (outK (outV prog f91) k xk) g (S91_0 a0 v0_8) =
  bif (decide (v0_8 < (Nat.cast (List.length a0) : Int))) then bif ((decide ((0 : Int) ≤ v0_8)) && (decide (v0_8 < (Nat.cast (List.length a0) : Int)))) then bif ((List.getD a0 (Int.toNat v0_8) (0 : Int)) != (0 : Int)) then some (n91 (List.getD a0 (Int.toNat v0_8) (0 : Int)))
      else g (S91_0 a0 (Go.IntKind.wrap Go.IntKind.i64 (v0_8 + (1 : Int))))
    else none
  else k (X91_0 a0) := by kernel_rfl
theorem t91_0 (L : Nat) (a0 : (List Int)) : (topK prog ev91 L f91 [1, 1, 0, 1] (outV prog f91)).n (X91_0 a0) =
  some (n91 (0 : Int)) := by kernel_rfl
def l91_0 (L : Nat) (a0 : (List Int)) : Nat → Int → (Option Int) → Option Int
  | 0, _, _ => none
  | n + 1, v0_8, k =>
    bif (decide (v0_8 < (Nat.cast (List.length a0) : Int))) then bif ((decide ((0 : Int) ≤ v0_8)) && (decide (v0_8 < (Nat.cast (List.length a0) : Int)))) then bif ((List.getD a0 (Int.toNat v0_8) (0 : Int)) != (0 : Int)) then some (List.getD a0 (Int.toNat v0_8) (0 : Int))
        else l91_0 L a0 n (Go.IntKind.wrap Go.IntKind.i64 (v0_8 + (1 : Int))) k
      else none
    else k
theorem h91_0 (L : Nat) (a0 : (List Int)) (k : St cxT.ty → Option (V cxT.ty)) (xk : Nat → St cxT.ty → Option (V cxT.ty)) (k' : Option Int) (hk : k (X91_0 a0) = (k').map n91) : ∀ (n : Nat) (v0_8 : Int), headF prog ev91 L f91 0 [1, 1, 0, 1, 0, 0] (outK (outV prog f91) k xk) n (S91_0 a0 v0_8) = (l91_0 L a0 n v0_8 k').map n91
  | 0, _ => rfl
  | n + 1, v0_8 => by
    rw [headF_round, r91_0]
    have ih := h91_0 L a0 k xk k' hk n
    simp only [l91_0, map_bif, map_tst, map_bnd, Option.map_some, Option.map_none, ih, hk]
def g91 (L : Nat) (a0 : (List Int)) : Option Int :=
  l91_0 L a0 L (0 : Int) (some (0 : Int))
theorem e91 (L : Nat) (a0 : (List Int)) : evF prog ev91 (loopN L) f91 (a91.enc a0) = (g91 L a0).map n91 := by
  let K'0 : Option Int := (some (0 : Int))
  have hin0 : ∀ (v0_8 : Int), headF prog ev91 L f91 0 [1, 1, 0, 1, 0, 0] (outK (outV prog f91) (topK prog ev91 L f91 [1, 1, 0, 1] (outV prog f91)).n (topK prog ev91 L f91 [1, 1, 0, 1] (outV prog f91)).x) L (S91_0 a0 v0_8) = (l91_0 L a0 L v0_8 K'0).map n91 := fun v0_8 => h91_0 L a0 _ _ K'0 (by rw [t91_0]; simp only [K'0, map_bif, map_tst, map_bnd, Option.map_some, Option.map_none]) L v0_8
  rw [i91]; simp only [g91, map_bif, map_tst, map_bnd, Option.map_some, Option.map_none, hin0, K'0]
theorem s91 (m : (List Int) → Option Int) (hm : ∀ (x : (List Int)) t, m x = some t → ∃ L, g91 L x = some t) : Sat prog cxT 91 (c91 m) :=
  sat_t cxT_ok cxT_pok (by rfl) (fn := f91) rfl a91 n91 dd91 m ev91 kok_nil kwok_nil (fun L x => g91 L x) (fun L x => e91 L x) hm hs91
/-! cmp.Compare[int64] -/
def ev92 (m109 : Int → Option Bool) : Env cxT := { Kc := kcOf [(109, c109 m109)], Kw := kwOf [], lv := fun i => [], xv := fun i => none }
theorem i92 (m109 : Int → Option Bool) (L : Nat) (a0 : Int) (a1 : Int) : evF prog (ev92 m109) (loopN L) f92 (a92.enc (a0, a1)) =
  tst (m109 a0) false fun (q1 : Bool) => tst (m109 a1) false fun (q2 : Bool) => bif q1 then bif q2 then some (n92 (0 : Int))
        else some (n92 (-(1 : Int)))
      else bif q2 then some (n92 (1 : Int))
      else bif (decide (a0 < a1)) then some (n92 (-(1 : Int)))
      else bif (decide (a0 > a1)) then some (n92 (1 : Int))
      else some (n92 (0 : Int)) := by kernel_rfl
def g92 (m109 : Int → Option Bool) (L : Nat) (a0 : Int) (a1 : Int) : Option Int :=
  tst (m109 a0) false fun (q1 : Bool) => tst (m109 a1) false fun (q2 : Bool) => bif q1 then bif q2 then some (0 : Int)
        else some (-(1 : Int))
      else bif q2 then some (1 : Int)
      else bif (decide (a0 < a1)) then some (-(1 : Int))
      else bif (decide (a0 > a1)) then some (1 : Int)
      else some (0 : Int)
theorem e92 (m109 : Int → Option Bool) (L : Nat) (a0 : Int) (a1 : Int) : evF prog (ev92 m109) (loopN L) f92 (a92.enc (a0, a1)) = (g92 m109 L a0 a1).map n92 := by
  rw [i92]; simp only [g92, map_bif, map_tst, map_bnd, Option.map_some, Option.map_none]
theorem s92 (m109 : Int → Option Bool) (h109 : Sat prog cxT 109 (c109 m109)) (m : (Int × Int) → Option Int) (hm : ∀ (x : (Int × Int)) t, m x = some t → ∃ L, g92 m109 L x.1 x.2 = some t) : Sat prog cxT 92 (c92 m) :=
  sat_t cxT_ok cxT_pok (by rfl) (fn := f92) rfl a92 n92 dd92 m (ev92 m109) (kok_cons h109 kok_nil) kwok_nil (fun L x => g92 m109 L x.1 x.2) (fun L x => e92 m109 L x.1 x.2) hm hs92
/-! loop.example/g00222/impl.isYesOrNo -/
def ev105 : Env cxT := { Kc := kcOf [], Kw := kwOf [], lv := fun i => [], xv := fun i => none }
theorem i105 (L : Nat) (a0 : Int) : evF prog ev105 (loopN L) f105 (a105.enc a0) =
  bif (a0 == (0 : Int)) then some (n105 Bool.true)
  else some (n105 (a0 == (1 : Int))) := by kernel_rfl
def g105 (L : Nat) (a0 : Int) : Option Bool :=
  bif (a0 == (0 : Int)) then some Bool.true
  else some (a0 == (1 : Int))
theorem e105 (L : Nat) (a0 : Int) : evF prog ev105 (loopN L) f105 (a105.enc a0) = (g105 L a0).map n105 := by
  rw [i105]; simp only [g105, map_bif, map_tst, map_bnd, Option.map_some, Option.map_none]
theorem s105 (m : Int → Option Bool) (hm : ∀ (x : Int) t, m x = some t → ∃ L, g105 L x = some t) : Sat prog cxT 105 (c105 m) :=
  sat_t cxT_ok cxT_pok (by rfl) (fn := f105) rfl a105 n105 dd105 m ev105 kok_nil kwok_nil (fun L x => g105 L x) (fun L x => e105 L x) hm hs105
/-! cmp.isNaN[int64] -/
def ev109 : Env cxT := { Kc := kcOf [], Kw := kwOf [], lv := fun i => [], xv := fun i => none }
theorem i109 (L : Nat) (a0 : Int) : evF prog ev109 (loopN L) f109 (a109.enc a0) =
  some (n109 (a0 != a0)) := by kernel_rfl
def g109 (L : Nat) (a0 : Int) : Option Bool :=
  some (a0 != a0)
theorem e109 (L : Nat) (a0 : Int) : evF prog ev109 (loopN L) f109 (a109.enc a0) = (g109 L a0).map n109 := by
  rw [i109]; simp only [g109, map_bif, map_tst, map_bnd, Option.map_some, Option.map_none]
theorem s109 (m : Int → Option Bool) (hm : ∀ (x : Int) t, m x = some t → ∃ L, g109 L x = some t) : Sat prog cxT 109 (c109 m) :=
  sat_t cxT_ok cxT_pok (by rfl) (fn := f109) rfl a109 n109 dd109 m ev109 kok_nil kwok_nil (fun L x => g109 L x) (fun L x => e109 L x) hm hs109
/-! loop.example/g00222/impl.backendPlace$1 -/
def ev111 (m92 : (Int × Int) → Option Int) : Env cxT := { Kc := kcOf [(92, c92 m92)], Kw := kwOf [], lv := fun i => [], xv := fun i => none }
theorem i111 (m92 : (Int × Int) → Option Int) (L : Nat) (a0_0 : Int) (a0_1 : Int) (a0_2 : Int) (a0_3 : Int) (a0_4 : Bool) (a1 : Int) : evF prog (ev111 m92) (loopN L) f111 (a111.enc ((a0_0, a0_1, a0_2, a0_3, a0_4), a1)) =
  tst (m92 (a0_0, a1)) (0 : Int) fun (q1 : Int) => some (n111 q1) := by kernel_rfl
def g111 (m92 : (Int × Int) → Option Int) (L : Nat) (a0_0 : Int) (a0_1 : Int) (a0_2 : Int) (a0_3 : Int) (a0_4 : Bool) (a1 : Int) : Option Int :=
  tst (m92 (a0_0, a1)) (0 : Int) fun (q1 : Int) => some q1
theorem e111 (m92 : (Int × Int) → Option Int) (L : Nat) (a0_0 : Int) (a0_1 : Int) (a0_2 : Int) (a0_3 : Int) (a0_4 : Bool) (a1 : Int) : evF prog (ev111 m92) (loopN L) f111 (a111.enc ((a0_0, a0_1, a0_2, a0_3, a0_4), a1)) = (g111 m92 L a0_0 a0_1 a0_2 a0_3 a0_4 a1).map n111 := by
  rw [i111]; simp only [g111, map_bif, map_tst, map_bnd, Option.map_some, Option.map_none]
theorem s111 (m92 : (Int × Int) → Option Int) (h92 : Sat prog cxT 92 (c92 m92)) (m : ((Int × Int × Int × Int × Bool) × Int) → Option Int) (hm : ∀ (x : ((Int × Int × Int × Int × Bool) × Int)) t, m x = some t → ∃ L, g111 m92 L x.1.1 x.1.2.1 x.1.2.2.1 x.1.2.2.2.1 x.1.2.2.2.2 x.2 = some t) : Sat prog cxT 111 (c111 m) :=
  sat_t cxT_ok cxT_pok (by rfl) (fn := f111) rfl a111 n111 dd111 m (ev111 m92) (kok_cons h92 kok_nil) kwok_nil (fun L x => g111 m92 L x.1.1 x.1.2.1 x.1.2.2.1 x.1.2.2.2.1 x.1.2.2.2.2 x.2) (fun L x => e111 m92 L x.1.1 x.1.2.1 x.1.2.2.1 x.1.2.2.2.1 x.1.2.2.2.2 x.2) hm hs111
/-! loop.example/g00222/laws.szInt64S -/
def ev83 : Env cxT := { Kc := kcOf [], Kw := kwOf [], lv := fun i => [], xv := fun i => none }
theorem i83 (L : Nat) (a0 : (List Int)) (a1 : Int) : evF prog ev83 (loopN L) f83 (a83.enc (a0, a1)) =
  bif (decide ((Go.IntKind.wrap Go.IntKind.i64 (a1 - (Nat.cast (List.length a0) : Int))) < (0 : Int))) then some (n83 (-(1 : Int)))
  else some (n83 (Go.IntKind.wrap Go.IntKind.i64 (a1 - (Nat.cast (List.length a0) : Int)))) := by kernel_rfl
def g83 (L : Nat) (a0 : (List Int)) (a1 : Int) : Option Int :=
  bif (decide ((Go.IntKind.wrap Go.IntKind.i64 (a1 - (Nat.cast (List.length a0) : Int))) < (0 : Int))) then some (-(1 : Int))
  else some (Go.IntKind.wrap Go.IntKind.i64 (a1 - (Nat.cast (List.length a0) : Int)))
theorem e83 (L : Nat) (a0 : (List Int)) (a1 : Int) : evF prog ev83 (loopN L) f83 (a83.enc (a0, a1)) = (g83 L a0 a1).map n83 := by
  rw [i83]; simp only [g83, map_bif, map_tst, map_bnd, Option.map_some, Option.map_none]
theorem s83 (m : ((List Int) × Int) → Option Int) (hm : ∀ (x : ((List Int) × Int)) t, m x = some t → ∃ L, g83 L x.1 x.2 = some t) : Sat prog cxT 83 (c83 m) :=
  sat_t cxT_ok cxT_pok (by rfl) (fn := f83) rfl a83 n83 dd83 m ev83 kok_nil kwok_nil (fun L x => g83 L x.1 x.2) (fun L x => e83 L x.1 x.2) hm hs83
/-! loop.example/g00222/laws.toInt64S -/
def ev84 : Env cxT := { Kc := kcOf [], Kw := kwOf [], lv := fun i => if i = 0 then [(0, [some 2]), (3, [some 2]), (4, [])] else [], xv := fun i => if i = 0 then some [(3, [some 2])] else none }
def S84_0 (a0 : (List Int)) (v0_3 : (List Int)) (v0_4 : Int) : St cxT.ty := { slots := [(.inl (.inl (ls { own := 0, nm := 0, e := 2, o := false, xs := a0 }))), junk, junk, (.inl (.inl (ls { own := 1, nm := 192, e := 2, o := true, xs := v0_3 }))), (.inl (.inl (lv (.int .i64 v0_4))))] ++ List.replicate 17 junk, D := [], F := [], ctr := 1 }
def X84_0 (a0 : (List Int)) (w0_3 : (List Int)) : St cxT.ty := { slots := [junk, junk, junk, (.inl (.inl (ls { own := 1, nm := 192, e := 2, o := true, xs := w0_3 })))] ++ List.replicate 18 junk, D := [], F := [], ctr := 1 }
theorem i84 (L : Nat) (a0 : (List Int)) : evF prog ev84 (loopN L) f84 (a84.enc a0) =
  bif (((decide ((0 : Int) ≤ (Nat.cast (List.length a0) : Int))) && (decide ((Nat.cast (List.length a0) : Int) ≤ (Nat.cast (List.length a0) : Int)))) && (decide ((Nat.cast (List.length a0) : Int) ≤ (1000000000 : Int)))) then headF prog ev84 L f84 0 [1, 1, 0, 1, 0, 0] (outK (outV prog f84) (topK prog ev84 L f84 [1, 1, 0, 1] (outV prog f84)).n (topK prog ev84 L f84 [1, 1, 0, 1] (outV prog f84)).x) L (S84_0 a0 (List.replicate (Int.toNat (Nat.cast (List.length a0) : Int)) (0 : Int)) (0 : Int))
  else none := by kernel_rfl
theorem r84_0 (L : Nat) (a0 : (List Int)) (k : St cxT.ty → Option (V cxT.ty)) (xk : Nat → St cxT.ty → Option (V cxT.ty)) (g : St cxT.ty → Option (V cxT.ty)) (v0_3 : (List Int)) (v0_4 : Int) : roundF prog ev84 L f84 0 [1, 1, 0, 1, 0, 0] (outK (outV prog f84) k xk) g (S84_0 a0 v0_3 v0_4) =
  bif (decide (v0_4 < (Nat.cast (List.length a0) : Int))) then bif ((decide ((0 : Int) ≤ v0_4)) && (decide (v0_4 < (Nat.cast (List.length a0) : Int)))) then bif ((decide ((0 : Int) ≤ v0_4)) && (decide (v0_4 < (Nat.cast (List.length v0_3) : Int)))) then g (S84_0 a0 (List.set v0_3 (Int.toNat v0_4) (List.getD a0 (Int.toNat v0_4) (0 : Int))) (Go.IntKind.wrap Go.IntKind.i64 (v0_4 + (1 : Int))))
      else none
    else none
  else k (X84_0 a0 v0_3) := by kernel_rfl
theorem t84_0 (L : Nat) (a0 : (List Int)) (w0_3 : (List Int)) : (topK prog ev84 L f84 [1, 1, 0, 1] (outV prog f84)).n (X84_0 a0 w0_3) =
  some (n84 w0_3) := by kernel_rfl
def l84_0 (L : Nat) (a0 : (List Int)) : Nat → (List Int) → Int → ((List Int) → Option (List Int)) → Option (List Int)
  | 0, _, _, _ => none
  | n + 1, v0_3, v0_4, k =>
    bif (decide (v0_4 < (Nat.cast (List.length a0) : Int))) then bif ((decide ((0 : Int) ≤ v0_4)) && (decide (v0_4 < (Nat.cast (List.length a0) : Int)))) then bif ((decide ((0 : Int) ≤ v0_4)) && (decide (v0_4 < (Nat.cast (List.length v0_3) : Int)))) then l84_0 L a0 n (List.set v0_3 (Int.toNat v0_4) (List.getD a0 (Int.toNat v0_4) (0 : Int))) (Go.IntKind.wrap Go.IntKind.i64 (v0_4 + (1 : Int))) k
        else none
      else none
    else k v0_3
theorem h84_0 (L : Nat) (a0 : (List Int)) (k : St cxT.ty → Option (V cxT.ty)) (xk : Nat → St cxT.ty → Option (V cxT.ty)) (k' : (List Int) → Option (List Int)) (hk : ∀ (w0_3 : (List Int)), k (X84_0 a0 w0_3) = (k' w0_3).map n84) : ∀ (n : Nat) (v0_3 : (List Int)) (v0_4 : Int), headF prog ev84 L f84 0 [1, 1, 0, 1, 0, 0] (outK (outV prog f84) k xk) n (S84_0 a0 v0_3 v0_4) = (l84_0 L a0 n v0_3 v0_4 k').map n84
  | 0, _, _ => rfl
  | n + 1, v0_3, v0_4 => by
    rw [headF_round, r84_0]
    have ih := h84_0 L a0 k xk k' hk n
    simp only [l84_0, map_bif, map_tst, map_bnd, Option.map_some, Option.map_none, ih, hk]
def g84 (L : Nat) (a0 : (List Int)) : Option (List Int) :=
  bif (((decide ((0 : Int) ≤ (Nat.cast (List.length a0) : Int))) && (decide ((Nat.cast (List.length a0) : Int) ≤ (Nat.cast (List.length a0) : Int)))) && (decide ((Nat.cast (List.length a0) : Int) ≤ (1000000000 : Int)))) then l84_0 L a0 L (List.replicate (Int.toNat (Nat.cast (List.length a0) : Int)) (0 : Int)) (0 : Int) (fun (w0_3 : (List Int)) => some w0_3)
  else none
theorem e84 (L : Nat) (a0 : (List Int)) : evF prog ev84 (loopN L) f84 (a84.enc a0) = (g84 L a0).map n84 := by
  let K'0 : (List Int) → Option (List Int) := (fun (w0_3 : (List Int)) => some w0_3)
  have hin0 : ∀ (v0_3 : (List Int)) (v0_4 : Int), headF prog ev84 L f84 0 [1, 1, 0, 1, 0, 0] (outK (outV prog f84) (topK prog ev84 L f84 [1, 1, 0, 1] (outV prog f84)).n (topK prog ev84 L f84 [1, 1, 0, 1] (outV prog f84)).x) L (S84_0 a0 v0_3 v0_4) = (l84_0 L a0 L v0_3 v0_4 K'0).map n84 := fun v0_3 v0_4 => h84_0 L a0 _ _ K'0 (fun w0_3 => by rw [t84_0]; simp only [K'0, map_bif, map_tst, map_bnd, Option.map_some, Option.map_none]) L v0_3 v0_4
  rw [i84]; simp only [g84, map_bif, map_tst, map_bnd, Option.map_some, Option.map_none, hin0, K'0]
theorem s84 (m : (List Int) → Option (List Int)) (hm : ∀ (x : (List Int)) t, m x = some t → ∃ L, g84 L x = some t) : Sat prog cxT 84 (c84 m) :=
  sat_t cxT_ok cxT_pok (by rfl) (fn := f84) rfl a84 n84 dd84 m ev84 kok_nil kwok_nil (fun L x => g84 L x) (fun L x => e84 L x) hm hs84
/-! loop.example/g00222/laws.eqBackend -/
def ev79 : Env cxT := { Kc := kcOf [], Kw := kwOf [], lv := fun i => [], xv := fun i => none }
theorem i79 (L : Nat) (a0_0 : Int) (a0_1 : Int) (a0_2 : Int) (a0_3 : Int) (a0_4 : Bool) (a1_0 : Int) (a1_1 : Int) (a1_2 : Int) (a1_3 : Int) (a1_4 : Bool) : evF prog ev79 (loopN L) f79 (a79.enc ((a0_0, a0_1, a0_2, a0_3, a0_4), (a1_0, a1_1, a1_2, a1_3, a1_4))) =
  bif (a0_0 != a1_0) then some (n79 Bool.false)
  else bif (a0_1 != a1_1) then some (n79 Bool.false)
  else bif (a0_2 != a1_2) then some (n79 Bool.false)
  else bif (a0_3 != a1_3) then some (n79 Bool.false)
  else bif (!(a0_4 == a1_4)) then some (n79 Bool.false)
  else some (n79 Bool.true) := by kernel_rfl
def g79 (L : Nat) (a0_0 : Int) (a0_1 : Int) (a0_2 : Int) (a0_3 : Int) (a0_4 : Bool) (a1_0 : Int) (a1_1 : Int) (a1_2 : Int) (a1_3 : Int) (a1_4 : Bool) : Option Bool :=
  bif (a0_0 != a1_0) then some Bool.false
  else bif (a0_1 != a1_1) then some Bool.false
  else bif (a0_2 != a1_2) then some Bool.false
  else bif (a0_3 != a1_3) then some Bool.false
  else bif (!(a0_4 == a1_4)) then some Bool.false
  else some Bool.true
theorem e79 (L : Nat) (a0_0 : Int) (a0_1 : Int) (a0_2 : Int) (a0_3 : Int) (a0_4 : Bool) (a1_0 : Int) (a1_1 : Int) (a1_2 : Int) (a1_3 : Int) (a1_4 : Bool) : evF prog ev79 (loopN L) f79 (a79.enc ((a0_0, a0_1, a0_2, a0_3, a0_4), (a1_0, a1_1, a1_2, a1_3, a1_4))) = (g79 L a0_0 a0_1 a0_2 a0_3 a0_4 a1_0 a1_1 a1_2 a1_3 a1_4).map n79 := by
  rw [i79]; simp only [g79, map_bif, map_tst, map_bnd, Option.map_some, Option.map_none]
theorem s79 (m : ((Int × Int × Int × Int × Bool) × (Int × Int × Int × Int × Bool)) → Option Bool) (hm : ∀ (x : ((Int × Int × Int × Int × Bool) × (Int × Int × Int × Int × Bool))) t, m x = some t → ∃ L, g79 L x.1.1 x.1.2.1 x.1.2.2.1 x.1.2.2.2.1 x.1.2.2.2.2 x.2.1 x.2.2.1 x.2.2.2.1 x.2.2.2.2.1 x.2.2.2.2.2 = some t) : Sat prog cxT 79 (c79 m) :=
  sat_t cxT_ok cxT_pok (by rfl) (fn := f79) rfl a79 n79 dd79 m ev79 kok_nil kwok_nil (fun L x => g79 L x.1.1 x.1.2.1 x.1.2.2.1 x.1.2.2.2.1 x.1.2.2.2.2 x.2.1 x.2.2.1 x.2.2.2.1 x.2.2.2.2.1 x.2.2.2.2.2) (fun L x => e79 L x.1.1 x.1.2.1 x.1.2.2.1 x.1.2.2.2.1 x.1.2.2.2.2 x.2.1 x.2.2.1 x.2.2.2.1 x.2.2.2.2.1 x.2.2.2.2.2) hm hs79
/-! loop.example/g00222/laws.eqVip -/
def ev80 (m107 : ((List Int) × (List Int)) → Option Bool) : Env cxT := { Kc := kcOf [(107, c107 m107)], Kw := kwOf [], lv := fun i => [], xv := fun i => none }
theorem i80 (m107 : ((List Int) × (List Int)) → Option Bool) (L : Nat) (a0_0 : Int) (a0_1 : Int) (a0_2 : Int) (a0_3 : (List Int)) (a1_0 : Int) (a1_1 : Int) (a1_2 : Int) (a1_3 : (List Int)) : evF prog (ev80 m107) (loopN L) f80 (a80.enc ((a0_0, a0_1, a0_2, a0_3), (a1_0, a1_1, a1_2, a1_3))) =
  bif (a0_0 != a1_0) then some (n80 Bool.false)
  else bif (a0_1 != a1_1) then some (n80 Bool.false)
  else bif (a0_2 != a1_2) then some (n80 Bool.false)
  else tst (m107 (a0_3, a1_3)) false fun (q1 : Bool) => bif (!q1) then some (n80 Bool.false)
    else some (n80 Bool.true) := by kernel_rfl
def g80 (m107 : ((List Int) × (List Int)) → Option Bool) (L : Nat) (a0_0 : Int) (a0_1 : Int) (a0_2 : Int) (a0_3 : (List Int)) (a1_0 : Int) (a1_1 : Int) (a1_2 : Int) (a1_3 : (List Int)) : Option Bool :=
  bif (a0_0 != a1_0) then some Bool.false
  else bif (a0_1 != a1_1) then some Bool.false
  else bif (a0_2 != a1_2) then some Bool.false
  else tst (m107 (a0_3, a1_3)) false fun (q1 : Bool) => bif (!q1) then some Bool.false
    else some Bool.true
theorem e80 (m107 : ((List Int) × (List Int)) → Option Bool) (L : Nat) (a0_0 : Int) (a0_1 : Int) (a0_2 : Int) (a0_3 : (List Int)) (a1_0 : Int) (a1_1 : Int) (a1_2 : Int) (a1_3 : (List Int)) : evF prog (ev80 m107) (loopN L) f80 (a80.enc ((a0_0, a0_1, a0_2, a0_3), (a1_0, a1_1, a1_2, a1_3))) = (g80 m107 L a0_0 a0_1 a0_2 a0_3 a1_0 a1_1 a1_2 a1_3).map n80 := by
  rw [i80]; simp only [g80, map_bif, map_tst, map_bnd, Option.map_some, Option.map_none]
theorem s80 (m107 : ((List Int) × (List Int)) → Option Bool) (h107 : Sat prog cxT 107 (c107 m107)) (m : ((Int × Int × Int × (List Int)) × (Int × Int × Int × (List Int))) → Option Bool) (hm : ∀ (x : ((Int × Int × Int × (List Int)) × (Int × Int × Int × (List Int)))) t, m x = some t → ∃ L, g80 m107 L x.1.1 x.1.2.1 x.1.2.2.1 x.1.2.2.2 x.2.1 x.2.2.1 x.2.2.2.1 x.2.2.2.2 = some t) : Sat prog cxT 80 (c80 m) :=
  sat_t cxT_ok cxT_pok (by rfl) (fn := f80) rfl a80 n80 dd80 m (ev80 m107) (kok_cons h107 kok_nil) kwok_nil (fun L x => g80 m107 L x.1.1 x.1.2.1 x.1.2.2.1 x.1.2.2.2 x.2.1 x.2.2.1 x.2.2.2.1 x.2.2.2.2) (fun L x => e80 m107 L x.1.1 x.1.2.1 x.1.2.2.1 x.1.2.2.2 x.2.1 x.2.2.1 x.2.2.2.1 x.2.2.2.2) hm hs80
end Go.Proofs.Tryz
