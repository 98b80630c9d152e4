/- A part of the proof of FnExactUnwrapGre: L2Fu, L2Pk. -/
import Derived.Test.YtaegcoihgnobiaaL2Base
import Derived.Test.YtaegcoihgnobiaaL2Qf
set_option maxHeartbeats 0
set_option linter.unusedVariables false
set_option linter.unusedSimpArgs false
namespace Go.Proofs.Try
open Go Go.VM Go.RowKit
/-! loop.example/g00222/laws.eqPacketResult -/
def ev31 (m21 : ((Int × Int × Int × Int × Int × (List Int)) × (Int × Int × Int × Int × Int × (List Int))) → Option Bool) : Env cxT := { Kc := kcOf [(21, c21 m21)], Kw := kwOf [], lv := fun i => [], xv := fun i => none }
theorem i31 (m21 : ((Int × Int × Int × Int × Int × (List Int)) × (Int × Int × Int × Int × Int × (List Int))) → Option Bool) (L : Nat) (a0_0 : Int) (a0_1 : Int) (a0_2 : Int) (a0_3 : Int) (a0_4 : Int) (a0_5 : Int) (a0_6 : (List Int)) (a1_0 : Int) (a1_1 : Int) (a1_2 : Int) (a1_3 : Int) (a1_4 : Int) (a1_5 : Int) (a1_6 : (List Int)) : evF prog (ev31 m21) (loopN L) f31 (a31.enc ((a0_0, a0_1, a0_2, a0_3, a0_4, a0_5, a0_6), (a1_0, a1_1, a1_2, a1_3, a1_4, a1_5, a1_6))) =
  bif (a0_0 != a1_0) then some (n31 Bool.false)
  else tst (m21 ((a0_1, (a0_2, (a0_3, (a0_4, (a0_5, a0_6))))), (a1_1, (a1_2, (a1_3, (a1_4, (a1_5, a1_6))))))) false fun (q1 : Bool) => bif (!q1) then some (n31 Bool.false)
    else some (n31 Bool.true) := by kernel_rfl
def g31 (m21 : ((Int × Int × Int × Int × Int × (List Int)) × (Int × Int × Int × Int × Int × (List Int))) → Option Bool) (L : Nat) (a0_0 : Int) (a0_1 : Int) (a0_2 : Int) (a0_3 : Int) (a0_4 : Int) (a0_5 : Int) (a0_6 : (List Int)) (a1_0 : Int) (a1_1 : Int) (a1_2 : Int) (a1_3 : Int) (a1_4 : Int) (a1_5 : Int) (a1_6 : (List Int)) : Option Bool :=
  bif (a0_0 != a1_0) then some Bool.false
  else tst (m21 ((a0_1, (a0_2, (a0_3, (a0_4, (a0_5, a0_6))))), (a1_1, (a1_2, (a1_3, (a1_4, (a1_5, a1_6))))))) false fun (q1 : Bool) => bif (!q1) then some Bool.false
    else some Bool.true
theorem e31 (m21 : ((Int × Int × Int × Int × Int × (List Int)) × (Int × Int × Int × Int × Int × (List Int))) → Option Bool) (L : Nat) (a0_0 : Int) (a0_1 : Int) (a0_2 : Int) (a0_3 : Int) (a0_4 : Int) (a0_5 : Int) (a0_6 : (List Int)) (a1_0 : Int) (a1_1 : Int) (a1_2 : Int) (a1_3 : Int) (a1_4 : Int) (a1_5 : Int) (a1_6 : (List Int)) : evF prog (ev31 m21) (loopN L) f31 (a31.enc ((a0_0, a0_1, a0_2, a0_3, a0_4, a0_5, a0_6), (a1_0, a1_1, a1_2, a1_3, a1_4, a1_5, a1_6))) = (g31 m21 L a0_0 a0_1 a0_2 a0_3 a0_4 a0_5 a0_6 a1_0 a1_1 a1_2 a1_3 a1_4 a1_5 a1_6).map n31 := by
  rw [i31]; simp only [g31, map_bif, map_tst, Option.map_some, Option.map_none]
theorem s31 (m21 : ((Int × Int × Int × Int × Int × (List Int)) × (Int × Int × Int × Int × Int × (List Int))) → Option Bool) (h21 : Sat prog cxT 21 (c21 m21)) (m : ((Int × Int × Int × Int × Int × Int × (List Int)) × (Int × Int × Int × Int × Int × Int × (List Int))) → Option Bool) (hm : ∀ (x : ((Int × Int × Int × Int × Int × Int × (List Int)) × (Int × Int × Int × Int × Int × Int × (List Int)))) t, m x = some t → ∃ L, g31 m21 L x.1.1 x.1.2.1 x.1.2.2.1 x.1.2.2.2.1 x.1.2.2.2.2.1 x.1.2.2.2.2.2.1 x.1.2.2.2.2.2.2 x.2.1 x.2.2.1 x.2.2.2.1 x.2.2.2.2.1 x.2.2.2.2.2.1 x.2.2.2.2.2.2.1 x.2.2.2.2.2.2.2 = some t) : Sat prog cxT 31 (c31 m) :=
  sat_t cxT_ok cxT_pok (by rfl) (fn := f31) rfl a31 n31 dd31 m (ev31 m21) (kok_cons h21 kok_nil) kwok_nil (fun L x => g31 m21 L x.1.1 x.1.2.1 x.1.2.2.1 x.1.2.2.2.1 x.1.2.2.2.2.1 x.1.2.2.2.2.2.1 x.1.2.2.2.2.2.2 x.2.1 x.2.2.1 x.2.2.2.1 x.2.2.2.2.1 x.2.2.2.2.2.1 x.2.2.2.2.2.2.1 x.2.2.2.2.2.2.2) (fun L x => e31 m21 L x.1.1 x.1.2.1 x.1.2.2.1 x.1.2.2.2.1 x.1.2.2.2.2.1 x.1.2.2.2.2.2.1 x.1.2.2.2.2.2.2 x.2.1 x.2.2.1 x.2.2.2.1 x.2.2.2.2.1 x.2.2.2.2.2.1 x.2.2.2.2.2.2.1 x.2.2.2.2.2.2.2) hm hs31
/-! loop.example/g00222/laws.markPacketResult -/
def ev34 (m25 : ((Int × Int × Int × Int × Int × (List Int)) × Int) → Option (Int × Int × Int × Int × Int × Int × (List Int))) : Env cxT := { Kc := kcOf [], Kw := kwOf [(25, c25 m25)], lv := fun i => [], xv := fun i => none }
theorem i34 (m25 : ((Int × Int × Int × Int × Int × (List Int)) × Int) → Option (Int × Int × Int × Int × Int × Int × (List Int))) (L : Nat) (a0_0 : Int) (a0_1 : Int) (a0_2 : Int) (a0_3 : Int) (a0_4 : Int) (a0_5 : Int) (a0_6 : (List Int)) (a1 : Int) : evFW prog (ev34 m25) (loopN L) f34 1 (a34.enc ((a0_0, a0_1, a0_2, a0_3, a0_4, a0_5, a0_6), a1)) =
  tst (m25 ((a0_1, (a0_2, (a0_3, (a0_4, (a0_5, a0_6))))), a1)) ((0 : Int), (0 : Int), (0 : Int), (0 : Int), (0 : Int), (0 : Int), []) fun (q1 : (Int × Int × Int × Int × Int × Int × (List Int))) => some (n34 (q1.1, a0_0, a0_1, a0_2, a0_3, a0_4, a0_5, q1.2.2.2.2.2.2)) := by kernel_rfl
def g34 (m25 : ((Int × Int × Int × Int × Int × (List Int)) × Int) → Option (Int × Int × Int × Int × Int × Int × (List Int))) (L : Nat) (a0_0 : Int) (a0_1 : Int) (a0_2 : Int) (a0_3 : Int) (a0_4 : Int) (a0_5 : Int) (a0_6 : (List Int)) (a1 : Int) : Option (Int × Int × Int × Int × Int × Int × Int × (List Int)) :=
  tst (m25 ((a0_1, (a0_2, (a0_3, (a0_4, (a0_5, a0_6))))), a1)) ((0 : Int), (0 : Int), (0 : Int), (0 : Int), (0 : Int), (0 : Int), []) fun (q1 : (Int × Int × Int × Int × Int × Int × (List Int))) => some (q1.1, a0_0, a0_1, a0_2, a0_3, a0_4, a0_5, q1.2.2.2.2.2.2)
theorem e34 (m25 : ((Int × Int × Int × Int × Int × (List Int)) × Int) → Option (Int × Int × Int × Int × Int × Int × (List Int))) (L : Nat) (a0_0 : Int) (a0_1 : Int) (a0_2 : Int) (a0_3 : Int) (a0_4 : Int) (a0_5 : Int) (a0_6 : (List Int)) (a1 : Int) : evFW prog (ev34 m25) (loopN L) f34 1 (a34.enc ((a0_0, a0_1, a0_2, a0_3, a0_4, a0_5, a0_6), a1)) = (g34 m25 L a0_0 a0_1 a0_2 a0_3 a0_4 a0_5 a0_6 a1).map n34 := by
  rw [i34]; simp only [g34, map_bif, map_tst, Option.map_some, Option.map_none]
theorem s34 (m25 : ((Int × Int × Int × Int × Int × (List Int)) × Int) → Option (Int × Int × Int × Int × Int × Int × (List Int))) (h25 : SatW prog cxT 25 (c25 m25).nres (c25 m25).n (c25 m25).F) (m : ((Int × Int × Int × Int × Int × Int × (List Int)) × Int) → Option (Int × Int × Int × Int × Int × Int × Int × (List Int))) (hm : ∀ (x : ((Int × Int × Int × Int × Int × Int × (List Int)) × Int)) t, m x = some t → ∃ L, g34 m25 L x.1.1 x.1.2.1 x.1.2.2.1 x.1.2.2.2.1 x.1.2.2.2.2.1 x.1.2.2.2.2.2.1 x.1.2.2.2.2.2.2 x.2 = some t) : SatW prog cxT 34 (c34 m).nres (c34 m).n (c34 m).F :=
  sat_w cxT_ok cxT_pok (by rfl) (fn := f34) rfl rfl a34 n34 dd34 m (ev34 m25) kok_nil (kwok_cons h25 kwok_nil) (fun L x => g34 m25 L x.1.1 x.1.2.1 x.1.2.2.1 x.1.2.2.2.1 x.1.2.2.2.2.1 x.1.2.2.2.2.2.1 x.1.2.2.2.2.2.2 x.2) (fun L x => e34 m25 L x.1.1 x.1.2.1 x.1.2.2.1 x.1.2.2.2.1 x.1.2.2.2.2.1 x.1.2.2.2.2.2.1 x.1.2.2.2.2.2.2 x.2) hm hs34
/-! loop.example/g00222/laws.heldPacketResult -/
def ev35 (m69 : ((Int × Int × Int × Int × Int × (List Int)) × Int) → Option Int) : Env cxT := { Kc := kcOf [(69, c69 m69)], Kw := kwOf [], lv := fun i => [], xv := fun i => none }
theorem i35 (m69 : ((Int × Int × Int × Int × Int × (List Int)) × Int) → Option Int) (L : Nat) (a0_0 : Int) (a0_1 : Int) (a0_2 : Int) (a0_3 : Int) (a0_4 : Int) (a0_5 : Int) (a0_6 : (List Int)) (a1 : Int) : evF prog (ev35 m69) (loopN L) f35 (a35.enc ((a0_0, a0_1, a0_2, a0_3, a0_4, a0_5, a0_6), a1)) =
  tst (m69 ((a0_1, (a0_2, (a0_3, (a0_4, (a0_5, a0_6))))), a1)) (0 : Int) fun (q1 : Int) => bif (decide (q1 < (0 : Int))) then some (n35 (-(1 : Int)))
    else some (n35 q1) := by kernel_rfl
def g35 (m69 : ((Int × Int × Int × Int × Int × (List Int)) × Int) → Option Int) (L : Nat) (a0_0 : Int) (a0_1 : Int) (a0_2 : Int) (a0_3 : Int) (a0_4 : Int) (a0_5 : Int) (a0_6 : (List Int)) (a1 : Int) : Option Int :=
  tst (m69 ((a0_1, (a0_2, (a0_3, (a0_4, (a0_5, a0_6))))), a1)) (0 : Int) fun (q1 : Int) => bif (decide (q1 < (0 : Int))) then some (-(1 : Int))
    else some q1
theorem e35 (m69 : ((Int × Int × Int × Int × Int × (List Int)) × Int) → Option Int) (L : Nat) (a0_0 : Int) (a0_1 : Int) (a0_2 : Int) (a0_3 : Int) (a0_4 : Int) (a0_5 : Int) (a0_6 : (List Int)) (a1 : Int) : evF prog (ev35 m69) (loopN L) f35 (a35.enc ((a0_0, a0_1, a0_2, a0_3, a0_4, a0_5, a0_6), a1)) = (g35 m69 L a0_0 a0_1 a0_2 a0_3 a0_4 a0_5 a0_6 a1).map n35 := by
  rw [i35]; simp only [g35, map_bif, map_tst, Option.map_some, Option.map_none]
theorem s35 (m69 : ((Int × Int × Int × Int × Int × (List Int)) × Int) → Option Int) (h69 : Sat prog cxT 69 (c69 m69)) (m : ((Int × Int × Int × Int × Int × Int × (List Int)) × Int) → Option Int) (hm : ∀ (x : ((Int × Int × Int × Int × Int × Int × (List Int)) × Int)) t, m x = some t → ∃ L, g35 m69 L x.1.1 x.1.2.1 x.1.2.2.1 x.1.2.2.2.1 x.1.2.2.2.2.1 x.1.2.2.2.2.2.1 x.1.2.2.2.2.2.2 x.2 = some t) : Sat prog cxT 35 (c35 m) :=
  sat_t cxT_ok cxT_pok (by rfl) (fn := f35) rfl a35 n35 dd35 m (ev35 m69) (kok_cons h69 kok_nil) kwok_nil (fun L x => g35 m69 L x.1.1 x.1.2.1 x.1.2.2.1 x.1.2.2.2.1 x.1.2.2.2.2.1 x.1.2.2.2.2.2.1 x.1.2.2.2.2.2.2 x.2) (fun L x => e35 m69 L x.1.1 x.1.2.1 x.1.2.2.1 x.1.2.2.2.1 x.1.2.2.2.2.1 x.1.2.2.2.2.2.1 x.1.2.2.2.2.2.2 x.2) hm hs35
/-! loop.example/g00222/laws.eqGreResult -/
def ev36 (m32 : ((List Int) × (List Int)) → Option Bool) : Env cxT := { Kc := kcOf [(32, c32 m32)], Kw := kwOf [], lv := fun i => [], xv := fun i => none }
theorem i36 (m32 : ((List Int) × (List Int)) → Option Bool) (L : Nat) (a0_0 : Int) (a0_1 : Int) (a0_2 : Int) (a0_3 : (List Int)) (a1_0 : Int) (a1_1 : Int) (a1_2 : Int) (a1_3 : (List Int)) : evF prog (ev36 m32) (loopN L) f36 (a36.enc ((a0_0, a0_1, a0_2, a0_3), (a1_0, a1_1, a1_2, a1_3))) =
  bif (a0_0 != a1_0) then some (n36 Bool.false)
  else bif (a0_1 != a1_1) then some (n36 Bool.false)
  else bif (a0_2 != a1_2) then some (n36 Bool.false)
  else tst (m32 (a0_3, a1_3)) false fun (q1 : Bool) => bif (!q1) then some (n36 Bool.false)
    else some (n36 Bool.true) := by kernel_rfl
def g36 (m32 : ((List Int) × (List Int)) → Option Bool) (L : Nat) (a0_0 : Int) (a0_1 : Int) (a0_2 : Int) (a0_3 : (List Int)) (a1_0 : Int) (a1_1 : Int) (a1_2 : Int) (a1_3 : (List Int)) : Option Bool :=
  bif (a0_0 != a1_0) then some Bool.false
  else bif (a0_1 != a1_1) then some Bool.false
  else bif (a0_2 != a1_2) then some Bool.false
  else tst (m32 (a0_3, a1_3)) false fun (q1 : Bool) => bif (!q1) then some Bool.false
    else some Bool.true
theorem e36 (m32 : ((List Int) × (List Int)) → Option Bool) (L : Nat) (a0_0 : Int) (a0_1 : Int) (a0_2 : Int) (a0_3 : (List Int)) (a1_0 : Int) (a1_1 : Int) (a1_2 : Int) (a1_3 : (List Int)) : evF prog (ev36 m32) (loopN L) f36 (a36.enc ((a0_0, a0_1, a0_2, a0_3), (a1_0, a1_1, a1_2, a1_3))) = (g36 m32 L a0_0 a0_1 a0_2 a0_3 a1_0 a1_1 a1_2 a1_3).map n36 := by
  rw [i36]; simp only [g36, map_bif, map_tst, Option.map_some, Option.map_none]
theorem s36 (m32 : ((List Int) × (List Int)) → Option Bool) (h32 : Sat prog cxT 32 (c32 m32)) (m : ((Int × Int × Int × (List Int)) × (Int × Int × Int × (List Int))) → Option Bool) (hm : ∀ (x : ((Int × Int × Int × (List Int)) × (Int × Int × Int × (List Int)))) t, m x = some t → ∃ L, g36 m32 L x.1.1 x.1.2.1 x.1.2.2.1 x.1.2.2.2 x.2.1 x.2.2.1 x.2.2.2.1 x.2.2.2.2 = some t) : Sat prog cxT 36 (c36 m) :=
  sat_t cxT_ok cxT_pok (by rfl) (fn := f36) rfl a36 n36 dd36 m (ev36 m32) (kok_cons h32 kok_nil) kwok_nil (fun L x => g36 m32 L x.1.1 x.1.2.1 x.1.2.2.1 x.1.2.2.2 x.2.1 x.2.2.1 x.2.2.2.1 x.2.2.2.2) (fun L x => e36 m32 L x.1.1 x.1.2.1 x.1.2.2.1 x.1.2.2.2 x.2.1 x.2.2.1 x.2.2.2.1 x.2.2.2.2) hm hs36
/-! loop.example/g00222/laws.markGreResult -/
def ev37 (m33 : ((List Int) × Int) → Option (Int × (List Int))) : Env cxT := { Kc := kcOf [], Kw := kwOf [(33, c33 m33)], lv := fun i => [], xv := fun i => none }
theorem i37 (m33 : ((List Int) × Int) → Option (Int × (List Int))) (L : Nat) (a0_0 : Int) (a0_1 : Int) (a0_2 : Int) (a0_3 : (List Int)) (a1 : Int) : evFW prog (ev37 m33) (loopN L) f37 1 (a37.enc ((a0_0, a0_1, a0_2, a0_3), a1)) =
  tst (m33 (a0_3, a1)) ((0 : Int), []) fun (q1 : (Int × (List Int))) => some (n37 (q1.1, a0_0, a0_1, a0_2, q1.2)) := by kernel_rfl
def g37 (m33 : ((List Int) × Int) → Option (Int × (List Int))) (L : Nat) (a0_0 : Int) (a0_1 : Int) (a0_2 : Int) (a0_3 : (List Int)) (a1 : Int) : Option (Int × Int × Int × Int × (List Int)) :=
  tst (m33 (a0_3, a1)) ((0 : Int), []) fun (q1 : (Int × (List Int))) => some (q1.1, a0_0, a0_1, a0_2, q1.2)
theorem e37 (m33 : ((List Int) × Int) → Option (Int × (List Int))) (L : Nat) (a0_0 : Int) (a0_1 : Int) (a0_2 : Int) (a0_3 : (List Int)) (a1 : Int) : evFW prog (ev37 m33) (loopN L) f37 1 (a37.enc ((a0_0, a0_1, a0_2, a0_3), a1)) = (g37 m33 L a0_0 a0_1 a0_2 a0_3 a1).map n37 := by
  rw [i37]; simp only [g37, map_bif, map_tst, Option.map_some, Option.map_none]
theorem s37 (m33 : ((List Int) × Int) → Option (Int × (List Int))) (h33 : SatW prog cxT 33 (c33 m33).nres (c33 m33).n (c33 m33).F) (m : ((Int × Int × Int × (List Int)) × Int) → Option (Int × Int × Int × Int × (List Int))) (hm : ∀ (x : ((Int × Int × Int × (List Int)) × Int)) t, m x = some t → ∃ L, g37 m33 L x.1.1 x.1.2.1 x.1.2.2.1 x.1.2.2.2 x.2 = some t) : SatW prog cxT 37 (c37 m).nres (c37 m).n (c37 m).F :=
  sat_w cxT_ok cxT_pok (by rfl) (fn := f37) rfl rfl a37 n37 dd37 m (ev37 m33) kok_nil (kwok_cons h33 kwok_nil) (fun L x => g37 m33 L x.1.1 x.1.2.1 x.1.2.2.1 x.1.2.2.2 x.2) (fun L x => e37 m33 L x.1.1 x.1.2.1 x.1.2.2.1 x.1.2.2.2 x.2) hm hs37
/-! loop.example/g00222/laws.heldGreResult -/
def ev38 (m65 : ((List Int) × Int) → Option Int) : Env cxT := { Kc := kcOf [(65, c65 m65)], Kw := kwOf [], lv := fun i => [], xv := fun i => none }
theorem i38 (m65 : ((List Int) × Int) → Option Int) (L : Nat) (a0_0 : Int) (a0_1 : Int) (a0_2 : Int) (a0_3 : (List Int)) (a1 : Int) : evF prog (ev38 m65) (loopN L) f38 (a38.enc ((a0_0, a0_1, a0_2, a0_3), a1)) =
  tst (m65 (a0_3, a1)) (0 : Int) fun (q1 : Int) => bif (decide (q1 < (0 : Int))) then some (n38 (-(1 : Int)))
    else some (n38 q1) := by kernel_rfl
def g38 (m65 : ((List Int) × Int) → Option Int) (L : Nat) (a0_0 : Int) (a0_1 : Int) (a0_2 : Int) (a0_3 : (List Int)) (a1 : Int) : Option Int :=
  tst (m65 (a0_3, a1)) (0 : Int) fun (q1 : Int) => bif (decide (q1 < (0 : Int))) then some (-(1 : Int))
    else some q1
theorem e38 (m65 : ((List Int) × Int) → Option Int) (L : Nat) (a0_0 : Int) (a0_1 : Int) (a0_2 : Int) (a0_3 : (List Int)) (a1 : Int) : evF prog (ev38 m65) (loopN L) f38 (a38.enc ((a0_0, a0_1, a0_2, a0_3), a1)) = (g38 m65 L a0_0 a0_1 a0_2 a0_3 a1).map n38 := by
  rw [i38]; simp only [g38, map_bif, map_tst, Option.map_some, Option.map_none]
theorem s38 (m65 : ((List Int) × Int) → Option Int) (h65 : Sat prog cxT 65 (c65 m65)) (m : ((Int × Int × Int × (List Int)) × Int) → Option Int) (hm : ∀ (x : ((Int × Int × Int × (List Int)) × Int)) t, m x = some t → ∃ L, g38 m65 L x.1.1 x.1.2.1 x.1.2.2.1 x.1.2.2.2 x.2 = some t) : Sat prog cxT 38 (c38 m) :=
  sat_t cxT_ok cxT_pok (by rfl) (fn := f38) rfl a38 n38 dd38 m (ev38 m65) (kok_cons h65 kok_nil) kwok_nil (fun L x => g38 m65 L x.1.1 x.1.2.1 x.1.2.2.1 x.1.2.2.2 x.2) (fun L x => e38 m65 L x.1.1 x.1.2.1 x.1.2.2.1 x.1.2.2.2 x.2) hm hs38
/-! loop.example/g00222/laws.heldPacket -/
def ev69 (m65 : ((List Int) × Int) → Option Int) : Env cxT := { Kc := kcOf [(65, c65 m65)], Kw := kwOf [], lv := fun i => [], xv := fun i => none }
theorem i69 (m65 : ((List Int) × Int) → Option Int) (L : Nat) (a0_0 : Int) (a0_1 : Int) (a0_2 : Int) (a0_3 : Int) (a0_4 : Int) (a0_5 : (List Int)) (a1 : Int) : evF prog (ev69 m65) (loopN L) f69 (a69.enc ((a0_0, a0_1, a0_2, a0_3, a0_4, a0_5), a1)) =
  tst (m65 (a0_5, a1)) (0 : Int) fun (q1 : Int) => bif (decide (q1 < (0 : Int))) then some (n69 (-(1 : Int)))
    else some (n69 q1) := by kernel_rfl
def g69 (m65 : ((List Int) × Int) → Option Int) (L : Nat) (a0_0 : Int) (a0_1 : Int) (a0_2 : Int) (a0_3 : Int) (a0_4 : Int) (a0_5 : (List Int)) (a1 : Int) : Option Int :=
  tst (m65 (a0_5, a1)) (0 : Int) fun (q1 : Int) => bif (decide (q1 < (0 : Int))) then some (-(1 : Int))
    else some q1
theorem e69 (m65 : ((List Int) × Int) → Option Int) (L : Nat) (a0_0 : Int) (a0_1 : Int) (a0_2 : Int) (a0_3 : Int) (a0_4 : Int) (a0_5 : (List Int)) (a1 : Int) : evF prog (ev69 m65) (loopN L) f69 (a69.enc ((a0_0, a0_1, a0_2, a0_3, a0_4, a0_5), a1)) = (g69 m65 L a0_0 a0_1 a0_2 a0_3 a0_4 a0_5 a1).map n69 := by
  rw [i69]; simp only [g69, map_bif, map_tst, Option.map_some, Option.map_none]
theorem s69 (m65 : ((List Int) × Int) → Option Int) (h65 : Sat prog cxT 65 (c65 m65)) (m : ((Int × Int × Int × Int × Int × (List Int)) × Int) → Option Int) (hm : ∀ (x : ((Int × Int × Int × Int × Int × (List Int)) × Int)) t, m x = some t → ∃ L, g69 m65 L x.1.1 x.1.2.1 x.1.2.2.1 x.1.2.2.2.1 x.1.2.2.2.2.1 x.1.2.2.2.2.2 x.2 = some t) : Sat prog cxT 69 (c69 m) :=
  sat_t cxT_ok cxT_pok (by rfl) (fn := f69) rfl a69 n69 dd69 m (ev69 m65) (kok_cons h65 kok_nil) kwok_nil (fun L x => g69 m65 L x.1.1 x.1.2.1 x.1.2.2.1 x.1.2.2.2.1 x.1.2.2.2.2.1 x.1.2.2.2.2.2 x.2) (fun L x => e69 m65 L x.1.1 x.1.2.1 x.1.2.2.1 x.1.2.2.2.1 x.1.2.2.2.2.1 x.1.2.2.2.2.2 x.2) hm hs69
/-! loop.example/g00222/laws.FnExactParsePacket -/
def ev6 (m29 : (List Int) → Option (List Int)) (m28 : (List Int) → Option (Int × Int × Int × Int × Int × Int × (List Int))) (m30 : (List Int) → Option (Int × Int × Int × Int × Int × Int × (List Int))) (m31 : ((Int × Int × Int × Int × Int × Int × (List Int)) × (Int × Int × Int × Int × Int × Int × (List Int))) → Option Bool) (m32 : ((List Int) × (List Int)) → Option Bool) (m33 : ((List Int) × Int) → Option (Int × (List Int))) (m34 : ((Int × Int × Int × Int × Int × Int × (List Int)) × Int) → Option (Int × Int × Int × Int × Int × Int × Int × (List Int))) (m35 : ((Int × Int × Int × Int × Int × Int × (List Int)) × Int) → Option Int) : Env cxT := { Kc := kcOf [(29, c29 m29), (28, c28 m28), (30, c30 m30), (31, c31 m31), (32, c32 m32), (35, c35 m35)], Kw := kwOf [(33, c33 m33), (34, c34 m34)], lv := fun i => [], xv := fun i => none }
theorem i6 (m29 : (List Int) → Option (List Int)) (m28 : (List Int) → Option (Int × Int × Int × Int × Int × Int × (List Int))) (m30 : (List Int) → Option (Int × Int × Int × Int × Int × Int × (List Int))) (m31 : ((Int × Int × Int × Int × Int × Int × (List Int)) × (Int × Int × Int × Int × Int × Int × (List Int))) → Option Bool) (m32 : ((List Int) × (List Int)) → Option Bool) (m33 : ((List Int) × Int) → Option (Int × (List Int))) (m34 : ((Int × Int × Int × Int × Int × Int × (List Int)) × Int) → Option (Int × Int × Int × Int × Int × Int × Int × (List Int))) (m35 : ((Int × Int × Int × Int × Int × Int × (List Int)) × Int) → Option Int) (L : Nat) (a0 : (List Int)) : evF prog (ev6 m29 m28 m30 m31 m32 m33 m34 m35) (loopN L) f6 (a6.enc a0) =
  bif (decide ((Nat.cast (List.length a0) : Int) > (1048576 : Int))) then some (n6 Bool.true)
  else tst (m29 a0) [] fun (q1 : (List Int)) => tst (m28 q1) ((0 : Int), (0 : Int), (0 : Int), (0 : Int), (0 : Int), (0 : Int), []) fun (q2 : (Int × Int × Int × Int × Int × Int × (List Int))) => tst (m29 a0) [] fun (q3 : (List Int)) => tst (m30 q1) ((0 : Int), (0 : Int), (0 : Int), (0 : Int), (0 : Int), (0 : Int), []) fun (q4 : (Int × Int × Int × Int × Int × Int × (List Int))) => tst (m31 ((q4.1, (q4.2.1, (q4.2.2.1, (q4.2.2.2.1, (q4.2.2.2.2.1, (q4.2.2.2.2.2.1, q4.2.2.2.2.2.2)))))), (q2.1, (q2.2.1, (q2.2.2.1, (q2.2.2.2.1, (q2.2.2.2.2.1, (q2.2.2.2.2.2.1, q2.2.2.2.2.2.2)))))))) false fun (q5 : Bool) => bif (!q5) then some (n6 Bool.false)
            else tst (m29 a0) [] fun (q6 : (List Int)) => tst (m32 (q1, q1)) false fun (q7 : Bool) => bif (!q7) then some (n6 Bool.false)
                else tst (m33 (q1, (1 : Int))) ((0 : Int), []) fun (q8 : (Int × (List Int))) => bif (decide (q8.1 < (0 : Int))) then some (n6 Bool.false)
                  else tst (m31 ((q4.1, (q4.2.1, (q4.2.2.1, (q4.2.2.2.1, (q4.2.2.2.2.1, (q4.2.2.2.2.2.1, q4.2.2.2.2.2.2)))))), (q2.1, (q2.2.1, (q2.2.2.1, (q2.2.2.2.1, (q2.2.2.2.2.1, (q2.2.2.2.2.2.1, q2.2.2.2.2.2.2)))))))) false fun (q9 : Bool) => bif (!q5) then some (n6 Bool.false)
                    else tst (m34 ((q4.1, (q4.2.1, (q4.2.2.1, (q4.2.2.2.1, (q4.2.2.2.2.1, (q4.2.2.2.2.2.1, q4.2.2.2.2.2.2)))))), (1 : Int))) ((0 : Int), (0 : Int), (0 : Int), (0 : Int), (0 : Int), (0 : Int), (0 : Int), []) fun (q10 : (Int × Int × Int × Int × Int × Int × Int × (List Int))) => tst (m35 ((q4.1, (q4.2.1, (q4.2.2.1, (q4.2.2.2.1, (q4.2.2.2.2.1, (q4.2.2.2.2.2.1, q10.2.2.2.2.2.2.2)))))), (1 : Int))) (0 : Int) fun (q11 : Int) => bif (decide (q11 < (0 : Int))) then some (n6 Bool.false)
                        else bif (q11 != q10.1) then some (n6 Bool.false)
                        else tst (m29 a0) [] fun (q12 : (List Int)) => tst (m30 q1) ((0 : Int), (0 : Int), (0 : Int), (0 : Int), (0 : Int), (0 : Int), []) fun (q13 : (Int × Int × Int × Int × Int × Int × (List Int))) => tst (m31 ((q4.1, (q4.2.1, (q4.2.2.1, (q4.2.2.2.1, (q4.2.2.2.2.1, (q4.2.2.2.2.2.1, q4.2.2.2.2.2.2)))))), (q2.1, (q2.2.1, (q2.2.2.1, (q2.2.2.2.1, (q2.2.2.2.2.1, (q2.2.2.2.2.2.1, q2.2.2.2.2.2.2)))))))) false fun (q14 : Bool) => bif (!q5) then some (n6 Bool.false)
                              else tst (m35 ((q4.1, (q4.2.1, (q4.2.2.1, (q4.2.2.2.1, (q4.2.2.2.2.1, (q4.2.2.2.2.2.1, q10.2.2.2.2.2.2.2)))))), (1 : Int))) (0 : Int) fun (q15 : Int) => bif (decide (q11 < (0 : Int))) then some (n6 Bool.false)
                                else bif (q11 != q10.1) then some (n6 Bool.false)
                                else some (n6 Bool.true) := by kernel_rfl
def g6 (m29 : (List Int) → Option (List Int)) (m28 : (List Int) → Option (Int × Int × Int × Int × Int × Int × (List Int))) (m30 : (List Int) → Option (Int × Int × Int × Int × Int × Int × (List Int))) (m31 : ((Int × Int × Int × Int × Int × Int × (List Int)) × (Int × Int × Int × Int × Int × Int × (List Int))) → Option Bool) (m32 : ((List Int) × (List Int)) → Option Bool) (m33 : ((List Int) × Int) → Option (Int × (List Int))) (m34 : ((Int × Int × Int × Int × Int × Int × (List Int)) × Int) → Option (Int × Int × Int × Int × Int × Int × Int × (List Int))) (m35 : ((Int × Int × Int × Int × Int × Int × (List Int)) × Int) → Option Int) (L : Nat) (a0 : (List Int)) : Option Bool :=
  bif (decide ((Nat.cast (List.length a0) : Int) > (1048576 : Int))) then some Bool.true
  else tst (m29 a0) [] fun (q1 : (List Int)) => tst (m28 q1) ((0 : Int), (0 : Int), (0 : Int), (0 : Int), (0 : Int), (0 : Int), []) fun (q2 : (Int × Int × Int × Int × Int × Int × (List Int))) => tst (m29 a0) [] fun (q3 : (List Int)) => tst (m30 q1) ((0 : Int), (0 : Int), (0 : Int), (0 : Int), (0 : Int), (0 : Int), []) fun (q4 : (Int × Int × Int × Int × Int × Int × (List Int))) => tst (m31 ((q4.1, (q4.2.1, (q4.2.2.1, (q4.2.2.2.1, (q4.2.2.2.2.1, (q4.2.2.2.2.2.1, q4.2.2.2.2.2.2)))))), (q2.1, (q2.2.1, (q2.2.2.1, (q2.2.2.2.1, (q2.2.2.2.2.1, (q2.2.2.2.2.2.1, q2.2.2.2.2.2.2)))))))) false fun (q5 : Bool) => bif (!q5) then some Bool.false
            else tst (m29 a0) [] fun (q6 : (List Int)) => tst (m32 (q1, q1)) false fun (q7 : Bool) => bif (!q7) then some Bool.false
                else tst (m33 (q1, (1 : Int))) ((0 : Int), []) fun (q8 : (Int × (List Int))) => bif (decide (q8.1 < (0 : Int))) then some Bool.false
                  else tst (m31 ((q4.1, (q4.2.1, (q4.2.2.1, (q4.2.2.2.1, (q4.2.2.2.2.1, (q4.2.2.2.2.2.1, q4.2.2.2.2.2.2)))))), (q2.1, (q2.2.1, (q2.2.2.1, (q2.2.2.2.1, (q2.2.2.2.2.1, (q2.2.2.2.2.2.1, q2.2.2.2.2.2.2)))))))) false fun (q9 : Bool) => bif (!q5) then some Bool.false
                    else tst (m34 ((q4.1, (q4.2.1, (q4.2.2.1, (q4.2.2.2.1, (q4.2.2.2.2.1, (q4.2.2.2.2.2.1, q4.2.2.2.2.2.2)))))), (1 : Int))) ((0 : Int), (0 : Int), (0 : Int), (0 : Int), (0 : Int), (0 : Int), (0 : Int), []) fun (q10 : (Int × Int × Int × Int × Int × Int × Int × (List Int))) => tst (m35 ((q4.1, (q4.2.1, (q4.2.2.1, (q4.2.2.2.1, (q4.2.2.2.2.1, (q4.2.2.2.2.2.1, q10.2.2.2.2.2.2.2)))))), (1 : Int))) (0 : Int) fun (q11 : Int) => bif (decide (q11 < (0 : Int))) then some Bool.false
                        else bif (q11 != q10.1) then some Bool.false
                        else tst (m29 a0) [] fun (q12 : (List Int)) => tst (m30 q1) ((0 : Int), (0 : Int), (0 : Int), (0 : Int), (0 : Int), (0 : Int), []) fun (q13 : (Int × Int × Int × Int × Int × Int × (List Int))) => tst (m31 ((q4.1, (q4.2.1, (q4.2.2.1, (q4.2.2.2.1, (q4.2.2.2.2.1, (q4.2.2.2.2.2.1, q4.2.2.2.2.2.2)))))), (q2.1, (q2.2.1, (q2.2.2.1, (q2.2.2.2.1, (q2.2.2.2.2.1, (q2.2.2.2.2.2.1, q2.2.2.2.2.2.2)))))))) false fun (q14 : Bool) => bif (!q5) then some Bool.false
                              else tst (m35 ((q4.1, (q4.2.1, (q4.2.2.1, (q4.2.2.2.1, (q4.2.2.2.2.1, (q4.2.2.2.2.2.1, q10.2.2.2.2.2.2.2)))))), (1 : Int))) (0 : Int) fun (q15 : Int) => bif (decide (q11 < (0 : Int))) then some Bool.false
                                else bif (q11 != q10.1) then some Bool.false
                                else some Bool.true
theorem e6 (m29 : (List Int) → Option (List Int)) (m28 : (List Int) → Option (Int × Int × Int × Int × Int × Int × (List Int))) (m30 : (List Int) → Option (Int × Int × Int × Int × Int × Int × (List Int))) (m31 : ((Int × Int × Int × Int × Int × Int × (List Int)) × (Int × Int × Int × Int × Int × Int × (List Int))) → Option Bool) (m32 : ((List Int) × (List Int)) → Option Bool) (m33 : ((List Int) × Int) → Option (Int × (List Int))) (m34 : ((Int × Int × Int × Int × Int × Int × (List Int)) × Int) → Option (Int × Int × Int × Int × Int × Int × Int × (List Int))) (m35 : ((Int × Int × Int × Int × Int × Int × (List Int)) × Int) → Option Int) (L : Nat) (a0 : (List Int)) : evF prog (ev6 m29 m28 m30 m31 m32 m33 m34 m35) (loopN L) f6 (a6.enc a0) = (g6 m29 m28 m30 m31 m32 m33 m34 m35 L a0).map n6 := by
  rw [i6]; simp only [g6, map_bif, map_tst, Option.map_some, Option.map_none]
theorem s6 (m29 : (List Int) → Option (List Int)) (m28 : (List Int) → Option (Int × Int × Int × Int × Int × Int × (List Int))) (m30 : (List Int) → Option (Int × Int × Int × Int × Int × Int × (List Int))) (m31 : ((Int × Int × Int × Int × Int × Int × (List Int)) × (Int × Int × Int × Int × Int × Int × (List Int))) → Option Bool) (m32 : ((List Int) × (List Int)) → Option Bool) (m33 : ((List Int) × Int) → Option (Int × (List Int))) (m34 : ((Int × Int × Int × Int × Int × Int × (List Int)) × Int) → Option (Int × Int × Int × Int × Int × Int × Int × (List Int))) (m35 : ((Int × Int × Int × Int × Int × Int × (List Int)) × Int) → Option Int) (h29 : Sat prog cxT 29 (c29 m29)) (h28 : Sat prog cxT 28 (c28 m28)) (h30 : Sat prog cxT 30 (c30 m30)) (h31 : Sat prog cxT 31 (c31 m31)) (h32 : Sat prog cxT 32 (c32 m32)) (h33 : SatW prog cxT 33 (c33 m33).nres (c33 m33).n (c33 m33).F) (h34 : SatW prog cxT 34 (c34 m34).nres (c34 m34).n (c34 m34).F) (h35 : Sat prog cxT 35 (c35 m35)) (m : (List Int) → Option Bool) (hm : ∀ (x : (List Int)) t, m x = some t → ∃ L, g6 m29 m28 m30 m31 m32 m33 m34 m35 L x = some t) : Sat prog cxT 6 (c6 m) :=
  sat_t cxT_ok cxT_pok (by rfl) (fn := f6) rfl a6 n6 dd6 m (ev6 m29 m28 m30 m31 m32 m33 m34 m35) (kok_cons h29 (kok_cons h28 (kok_cons h30 (kok_cons h31 (kok_cons h32 (kok_cons h35 kok_nil)))))) (kwok_cons h33 (kwok_cons h34 kwok_nil)) (fun L x => g6 m29 m28 m30 m31 m32 m33 m34 m35 L x) (fun L x => e6 m29 m28 m30 m31 m32 m33 m34 m35 L x) hm hs6
/-! loop.example/g00222/laws.FnExactUnwrapGre -/
def ev8 (m29 : (List Int) → Option (List Int)) (m13 : (List Int) → Option (Int × Int × Int × (List Int))) (m12 : (List Int) → Option (Int × Int × Int × (List Int))) (m36 : ((Int × Int × Int × (List Int)) × (Int × Int × Int × (List Int))) → Option Bool) (m32 : ((List Int) × (List Int)) → Option Bool) (m33 : ((List Int) × Int) → Option (Int × (List Int))) (m37 : ((Int × Int × Int × (List Int)) × Int) → Option (Int × Int × Int × Int × (List Int))) (m38 : ((Int × Int × Int × (List Int)) × Int) → Option Int) : Env cxT := { Kc := kcOf [(29, c29 m29), (13, c13 m13), (12, c12 m12), (36, c36 m36), (32, c32 m32), (38, c38 m38)], Kw := kwOf [(33, c33 m33), (37, c37 m37)], lv := fun i => [], xv := fun i => none }
theorem i8 (m29 : (List Int) → Option (List Int)) (m13 : (List Int) → Option (Int × Int × Int × (List Int))) (m12 : (List Int) → Option (Int × Int × Int × (List Int))) (m36 : ((Int × Int × Int × (List Int)) × (Int × Int × Int × (List Int))) → Option Bool) (m32 : ((List Int) × (List Int)) → Option Bool) (m33 : ((List Int) × Int) → Option (Int × (List Int))) (m37 : ((Int × Int × Int × (List Int)) × Int) → Option (Int × Int × Int × Int × (List Int))) (m38 : ((Int × Int × Int × (List Int)) × Int) → Option Int) (L : Nat) (a0 : (List Int)) : evF prog (ev8 m29 m13 m12 m36 m32 m33 m37 m38) (loopN L) f8 (a8.enc a0) =
  bif (decide ((Nat.cast (List.length a0) : Int) > (1048576 : Int))) then some (n8 Bool.true)
  else tst (m29 a0) [] fun (q1 : (List Int)) => tst (m13 q1) ((0 : Int), (0 : Int), (0 : Int), []) fun (q2 : (Int × Int × Int × (List Int))) => tst (m29 a0) [] fun (q3 : (List Int)) => tst (m12 q1) ((0 : Int), (0 : Int), (0 : Int), []) fun (q4 : (Int × Int × Int × (List Int))) => tst (m36 ((q4.1, (q4.2.1, (q4.2.2.1, q4.2.2.2))), (q2.1, (q2.2.1, (q2.2.2.1, q2.2.2.2))))) false fun (q5 : Bool) => bif (!q5) then some (n8 Bool.false)
            else tst (m29 a0) [] fun (q6 : (List Int)) => tst (m32 (q1, q1)) false fun (q7 : Bool) => bif (!q7) then some (n8 Bool.false)
                else tst (m33 (q1, (1 : Int))) ((0 : Int), []) fun (q8 : (Int × (List Int))) => bif (decide (q8.1 < (0 : Int))) then some (n8 Bool.false)
                  else tst (m36 ((q4.1, (q4.2.1, (q4.2.2.1, q4.2.2.2))), (q2.1, (q2.2.1, (q2.2.2.1, q2.2.2.2))))) false fun (q9 : Bool) => bif (!q5) then some (n8 Bool.false)
                    else tst (m37 ((q4.1, (q4.2.1, (q4.2.2.1, q4.2.2.2))), (1 : Int))) ((0 : Int), (0 : Int), (0 : Int), (0 : Int), []) fun (q10 : (Int × Int × Int × Int × (List Int))) => tst (m38 ((q4.1, (q4.2.1, (q4.2.2.1, q10.2.2.2.2))), (1 : Int))) (0 : Int) fun (q11 : Int) => bif (decide (q11 < (0 : Int))) then some (n8 Bool.false)
                        else bif (q11 != q10.1) then some (n8 Bool.false)
                        else tst (m29 a0) [] fun (q12 : (List Int)) => tst (m12 q1) ((0 : Int), (0 : Int), (0 : Int), []) fun (q13 : (Int × Int × Int × (List Int))) => tst (m36 ((q4.1, (q4.2.1, (q4.2.2.1, q4.2.2.2))), (q2.1, (q2.2.1, (q2.2.2.1, q2.2.2.2))))) false fun (q14 : Bool) => bif (!q5) then some (n8 Bool.false)
                              else tst (m38 ((q4.1, (q4.2.1, (q4.2.2.1, q10.2.2.2.2))), (1 : Int))) (0 : Int) fun (q15 : Int) => bif (decide (q11 < (0 : Int))) then some (n8 Bool.false)
                                else bif (q11 != q10.1) then some (n8 Bool.false)
                                else some (n8 Bool.true) := by kernel_rfl
def g8 (m29 : (List Int) → Option (List Int)) (m13 : (List Int) → Option (Int × Int × Int × (List Int))) (m12 : (List Int) → Option (Int × Int × Int × (List Int))) (m36 : ((Int × Int × Int × (List Int)) × (Int × Int × Int × (List Int))) → Option Bool) (m32 : ((List Int) × (List Int)) → Option Bool) (m33 : ((List Int) × Int) → Option (Int × (List Int))) (m37 : ((Int × Int × Int × (List Int)) × Int) → Option (Int × Int × Int × Int × (List Int))) (m38 : ((Int × Int × Int × (List Int)) × Int) → Option Int) (L : Nat) (a0 : (List Int)) : Option Bool :=
  bif (decide ((Nat.cast (List.length a0) : Int) > (1048576 : Int))) then some Bool.true
  else tst (m29 a0) [] fun (q1 : (List Int)) => tst (m13 q1) ((0 : Int), (0 : Int), (0 : Int), []) fun (q2 : (Int × Int × Int × (List Int))) => tst (m29 a0) [] fun (q3 : (List Int)) => tst (m12 q1) ((0 : Int), (0 : Int), (0 : Int), []) fun (q4 : (Int × Int × Int × (List Int))) => tst (m36 ((q4.1, (q4.2.1, (q4.2.2.1, q4.2.2.2))), (q2.1, (q2.2.1, (q2.2.2.1, q2.2.2.2))))) false fun (q5 : Bool) => bif (!q5) then some Bool.false
            else tst (m29 a0) [] fun (q6 : (List Int)) => tst (m32 (q1, q1)) false fun (q7 : Bool) => bif (!q7) then some Bool.false
                else tst (m33 (q1, (1 : Int))) ((0 : Int), []) fun (q8 : (Int × (List Int))) => bif (decide (q8.1 < (0 : Int))) then some Bool.false
                  else tst (m36 ((q4.1, (q4.2.1, (q4.2.2.1, q4.2.2.2))), (q2.1, (q2.2.1, (q2.2.2.1, q2.2.2.2))))) false fun (q9 : Bool) => bif (!q5) then some Bool.false
                    else tst (m37 ((q4.1, (q4.2.1, (q4.2.2.1, q4.2.2.2))), (1 : Int))) ((0 : Int), (0 : Int), (0 : Int), (0 : Int), []) fun (q10 : (Int × Int × Int × Int × (List Int))) => tst (m38 ((q4.1, (q4.2.1, (q4.2.2.1, q10.2.2.2.2))), (1 : Int))) (0 : Int) fun (q11 : Int) => bif (decide (q11 < (0 : Int))) then some Bool.false
                        else bif (q11 != q10.1) then some Bool.false
                        else tst (m29 a0) [] fun (q12 : (List Int)) => tst (m12 q1) ((0 : Int), (0 : Int), (0 : Int), []) fun (q13 : (Int × Int × Int × (List Int))) => tst (m36 ((q4.1, (q4.2.1, (q4.2.2.1, q4.2.2.2))), (q2.1, (q2.2.1, (q2.2.2.1, q2.2.2.2))))) false fun (q14 : Bool) => bif (!q5) then some Bool.false
                              else tst (m38 ((q4.1, (q4.2.1, (q4.2.2.1, q10.2.2.2.2))), (1 : Int))) (0 : Int) fun (q15 : Int) => bif (decide (q11 < (0 : Int))) then some Bool.false
                                else bif (q11 != q10.1) then some Bool.false
                                else some Bool.true
theorem e8 (m29 : (List Int) → Option (List Int)) (m13 : (List Int) → Option (Int × Int × Int × (List Int))) (m12 : (List Int) → Option (Int × Int × Int × (List Int))) (m36 : ((Int × Int × Int × (List Int)) × (Int × Int × Int × (List Int))) → Option Bool) (m32 : ((List Int) × (List Int)) → Option Bool) (m33 : ((List Int) × Int) → Option (Int × (List Int))) (m37 : ((Int × Int × Int × (List Int)) × Int) → Option (Int × Int × Int × Int × (List Int))) (m38 : ((Int × Int × Int × (List Int)) × Int) → Option Int) (L : Nat) (a0 : (List Int)) : evF prog (ev8 m29 m13 m12 m36 m32 m33 m37 m38) (loopN L) f8 (a8.enc a0) = (g8 m29 m13 m12 m36 m32 m33 m37 m38 L a0).map n8 := by
  rw [i8]; simp only [g8, map_bif, map_tst, Option.map_some, Option.map_none]
theorem s8 (m29 : (List Int) → Option (List Int)) (m13 : (List Int) → Option (Int × Int × Int × (List Int))) (m12 : (List Int) → Option (Int × Int × Int × (List Int))) (m36 : ((Int × Int × Int × (List Int)) × (Int × Int × Int × (List Int))) → Option Bool) (m32 : ((List Int) × (List Int)) → Option Bool) (m33 : ((List Int) × Int) → Option (Int × (List Int))) (m37 : ((Int × Int × Int × (List Int)) × Int) → Option (Int × Int × Int × Int × (List Int))) (m38 : ((Int × Int × Int × (List Int)) × Int) → Option Int) (h29 : Sat prog cxT 29 (c29 m29)) (h13 : Sat prog cxT 13 (c13 m13)) (h12 : Sat prog cxT 12 (c12 m12)) (h36 : Sat prog cxT 36 (c36 m36)) (h32 : Sat prog cxT 32 (c32 m32)) (h33 : SatW prog cxT 33 (c33 m33).nres (c33 m33).n (c33 m33).F) (h37 : SatW prog cxT 37 (c37 m37).nres (c37 m37).n (c37 m37).F) (h38 : Sat prog cxT 38 (c38 m38)) (m : (List Int) → Option Bool) (hm : ∀ (x : (List Int)) t, m x = some t → ∃ L, g8 m29 m13 m12 m36 m32 m33 m37 m38 L x = some t) : Sat prog cxT 8 (c8 m) :=
  sat_t cxT_ok cxT_pok (by rfl) (fn := f8) rfl a8 n8 dd8 m (ev8 m29 m13 m12 m36 m32 m33 m37 m38) (kok_cons h29 (kok_cons h13 (kok_cons h12 (kok_cons h36 (kok_cons h32 (kok_cons h38 kok_nil)))))) (kwok_cons h33 (kwok_cons h37 kwok_nil)) (fun L x => g8 m29 m13 m12 m36 m32 m33 m37 m38 L x) (fun L x => e8 m29 m13 m12 m36 m32 m33 m37 m38 L x) hm hs8
end Go.Proofs.Try

set_option maxHeartbeats 0
set_option linter.unusedVariables false
set_option linter.unusedSimpArgs false
namespace Go.Proofs.Try
open Go Go.VM Go.RowKit

/-! results that hold packets, and what a tunnel held -/
theorem sat69 : Sat prog cxT 69 (c69 fun x => m65 (x.1.2.2.2.2.2, x.2)) := s69 m65 sat65 _ fun x t h => by
  obtain ⟨⟨f, tt, pr, fp, tp, a⟩, k⟩ := x
  have h : m65 (a, k) = some t := h
  refine ⟨0, ?_⟩
  show g69 m65 0 f tt pr fp tp a k = some t
  unfold g69
  rw [h, tst_some]
  have : ¬ t < 0 := by
    unfold m65 at h
    split at h
    · rename_i hc
      cases h
      have := hc.1
      simp only at this ⊢
      omega
    · cases h
  rw [df this]
  rfl
abbrev PkR := Int × Pk
def m31 (x : PkR × PkR) : Option Bool := if x.1.2.2.2.2.2.2.length ≤ 1000000000000 ∧ x.2.2.2.2.2.2.2.length ≤ 1000000000000 then some (decide (x.1 = x.2)) else none
theorem sat31 : Sat prog cxT 31 (c31 m31) := s31 m21 sat21 m31 fun x t h => by
  obtain ⟨⟨c, p⟩, d, q⟩ := x
  unfold m31 at h
  split at h
  · rename_i hc
    cases h
    refine ⟨0, ?_⟩
    have e : m21 (p, q) = some (decide (p = q)) := if_pos hc
    show g31 m21 0 c p.1 p.2.1 p.2.2.1 p.2.2.2.1 p.2.2.2.2.1 p.2.2.2.2.2 d q.1 q.2.1 q.2.2.1 q.2.2.2.1 q.2.2.2.2.1 q.2.2.2.2.2 = some (decide ((c, p) = (d, q)))
    unfold g31
    simp only [e, tst_some]
    by_cases h1 : c = d
    · rw [bneF h1]
      by_cases h2 : p = q <;> simp [h1, h2]
    · rw [bneT h1]
      simp [h1]
  · cases h
def m34 (x : PkR × Int) : Option (Int × PkR) := if 0 ≤ x.2 ∧ x.2 ≤ 1000000000000 ∧ x.1.2.2.2.2.2.2.length ≤ 1000000000000 then some (x.2 + x.1.2.2.2.2.2.2.length, x.1.1, x.1.2.1, x.1.2.2.1, x.1.2.2.2.1, x.1.2.2.2.2.1, x.1.2.2.2.2.2.1, mkB x.2 x.1.2.2.2.2.2.2.length) else none
theorem sat34 : SatW prog cxT 34 (c34 m34).nres (c34 m34).n (c34 m34).F := s34 m25 sat25 m34 fun x t h => by
  obtain ⟨⟨c, f, tt, pr, fp, tp, a⟩, k⟩ := x
  unfold m34 at h
  split at h
  · rename_i hc
    cases h
    refine ⟨0, ?_⟩
    have e : m25 ((f, tt, pr, fp, tp, a), k) = some (k + a.length, f, tt, pr, fp, tp, mkB k a.length) := if_pos hc
    unfold g34
    simp only
    rw [e, tst_some]
  · cases h
def m35 (x : PkR × Int) : Option Int := m65 (x.1.2.2.2.2.2.2, x.2)
theorem sat35 : Sat prog cxT 35 (c35 m35) := s35 _ sat69 m35 fun x t h => by
  obtain ⟨⟨c, f, tt, pr, fp, tp, a⟩, k⟩ := x
  have h : m65 (a, k) = some t := h
  refine ⟨0, ?_⟩
  show g35 (fun x => m65 (x.1.2.2.2.2.2, x.2)) 0 c f tt pr fp tp a k = some t
  unfold g35
  simp only [h, tst_some]
  have : ¬ t < 0 := by
    unfold m65 at h
    split at h
    · rename_i hc
      cases h
      have := hc.1
      simp only at this ⊢
      omega
    · cases h
  rw [df this]
  rfl
abbrev Gr := Int × Int × Int × List Int
def m36 (x : Gr × Gr) : Option Bool := if x.1.2.2.2.length ≤ 1000000000000 ∧ x.2.2.2.2.length ≤ 1000000000000 then some (decide (x.1 = x.2)) else none
theorem sat36 : Sat prog cxT 36 (c36 m36) := s36 m32 sat32 m36 fun x t h => by
  obtain ⟨⟨a, b, c, l⟩, a', b', c', l'⟩ := x
  unfold m36 at h
  split at h
  · rename_i hc
    cases h
    refine ⟨0, ?_⟩
    have e : m32 (l, l') = some (decide (l = l')) := if_pos hc
    show g36 m32 0 a b c l a' b' c' l' = some (decide ((a, b, c, l) = (a', b', c', l')))
    unfold g36
    simp only [e, tst_some]
    by_cases h1 : a = a'
    · rw [bneF h1, cond_false]
      by_cases h2 : b = b'
      · rw [bneF h2, cond_false]
        by_cases h3 : c = c'
        · rw [bneF h3, cond_false]
          by_cases h4 : l = l' <;> simp [h1, h2, h3, h4]
        · rw [bneT h3]; simp [h3]
      · rw [bneT h2]; simp [h2]
    · rw [bneT h1]; simp [h1]
  · cases h
def m37 (x : Gr × Int) : Option (Int × Gr) := if 0 ≤ x.2 ∧ x.2 ≤ 1000000000000 ∧ x.1.2.2.2.length ≤ 1000000000000 then some (x.2 + x.1.2.2.2.length, x.1.1, x.1.2.1, x.1.2.2.1, mkB x.2 x.1.2.2.2.length) else none
theorem sat37 : SatW prog cxT 37 (c37 m37).nres (c37 m37).n (c37 m37).F := s37 m33 sat33 m37 fun x t h => by
  obtain ⟨⟨a, b, c, l⟩, k⟩ := x
  unfold m37 at h
  split at h
  · rename_i hc
    cases h
    refine ⟨0, ?_⟩
    have e : m33 (l, k) = some (k + l.length, mkB k l.length) := if_pos hc
    unfold g37
    simp only
    rw [e, tst_some]
  · cases h
def m38 (x : Gr × Int) : Option Int := m65 (x.1.2.2.2, x.2)
theorem sat38 : Sat prog cxT 38 (c38 m38) := s38 m65 sat65 m38 fun x t h => by
  obtain ⟨⟨a, b, c, l⟩, k⟩ := x
  have h : m65 (l, k) = some t := h
  refine ⟨0, ?_⟩
  show g38 m65 0 a b c l k = some t
  unfold g38
  rw [h, tst_some]
  have : ¬ t < 0 := by
    unfold m65 at h
    split at h
    · rename_i hc
      cases h
      have := hc.1
      simp only at this ⊢
      omega
    · cases h
  rw [df this]
  rfl

/-! FnExactParsePacket -/
theorem prs_len (a : List Int) : (prs a).2.2.2.2.2.2.length ≤ a.length := by
  unfold prs
  split
  · split
    · split
      · show (a.drop 24).length ≤ a.length
        rw [List.length_drop]; omega
      · exact Nat.zero_le _
    · exact Nat.zero_le _
  · exact Nat.zero_le _
def m6 (a : List Int) : Option Bool := if okB a = true then some true else none
theorem sat6 : Sat prog cxT 6 (c6 m6) := s6 m29 mPrs mPrs m31 m32 m33 m34 m35 sat29 sat28 sat30 sat31 sat32 sat33 sat34 sat35 m6 fun a t h => by
  unfold m6 at h
  split at h
  · rename_i hb
    cases h
    refine ⟨0, ?_⟩
    unfold g6
    by_cases hl : (a.length : Int) > 1048576
    · rw [dt hl]; rfl
    · have e29 : m29 a = some a := if_pos (by omega)
      have eW : mPrs a = some (prs a) := if_pos ⟨hb, by omega⟩
      have hpl := prs_len a
      generalize prs a = p at eW hpl
      obtain ⟨c, f, tt, pr, fp, tp, b⟩ := p
      simp only at hpl
      have e32 := m32_self (a := a) (by omega)
      have e31 : m31 ((c, f, tt, pr, fp, tp, b), c, f, tt, pr, fp, tp, b) = some true := (if_pos ⟨by show b.length ≤ 1000000000000; omega, by show b.length ≤ 1000000000000; omega⟩).trans (by simp)
      have e33 : m33 (a, 1) = some ((1 : Int) + (a.length : Int), mkB 1 a.length) := if_pos ⟨by show (0 : Int) ≤ 1; decide, by show (1 : Int) ≤ 1000000000000; decide, by show a.length ≤ 1000000000000; omega⟩
      have e34 : m34 ((c, f, tt, pr, fp, tp, b), 1) = some ((1 : Int) + (b.length : Int), c, f, tt, pr, fp, tp, mkB 1 b.length) := if_pos ⟨by show (0 : Int) ≤ 1; decide, by show (1 : Int) ≤ 1000000000000; decide, by show b.length ≤ 1000000000000; omega⟩
      have e35 : m35 ((c, f, tt, pr, fp, tp, mkB 1 b.length), 1) = some ((1 : Int) + (b.length : Int)) := mark_held b 1 (by decide) (by decide) (by omega)
      simp (disch := omega) only [df, e29, eW, e31, e32, e33, e34, e35, tst_some, cond_true, cond_false, Bool.not_true, bneF]
  · cases h

/-! FnExactUnwrapGre -/
theorem uw_len (a : List Int) : (uw a).2.2.2.length ≤ a.length := by
  unfold uw
  split
  · show (a.drop 24).length ≤ a.length
    rw [List.length_drop]; omega
  · exact Nat.zero_le _
theorem sat8 : Sat prog cxT 8 (c8 m6) := s8 m29 mUw mUw m36 m32 m33 m37 m38 sat29 sat13 sat12 sat36 sat32 sat33 sat37 sat38 m6 fun a t h => by
  unfold m6 at h
  split at h
  · rename_i hb
    cases h
    refine ⟨0, ?_⟩
    unfold g8
    by_cases hl : (a.length : Int) > 1048576
    · rw [dt hl]; rfl
    · have e29 : m29 a = some a := if_pos (by omega)
      have eW : mUw a = some (uw a) := if_pos ⟨hb, by omega⟩
      have hpl := uw_len a
      generalize uw a = p at eW hpl
      obtain ⟨c, f, tt, b⟩ := p
      simp only at hpl
      have e32 := m32_self (a := a) (by omega)
      have e36 : m36 ((c, f, tt, b), c, f, tt, b) = some true := (if_pos ⟨by show b.length ≤ 1000000000000; omega, by show b.length ≤ 1000000000000; omega⟩).trans (by simp)
      have e33 : m33 (a, 1) = some ((1 : Int) + (a.length : Int), mkB 1 a.length) := if_pos ⟨by show (0 : Int) ≤ 1; decide, by show (1 : Int) ≤ 1000000000000; decide, by show a.length ≤ 1000000000000; omega⟩
      have e37 : m37 ((c, f, tt, b), 1) = some ((1 : Int) + (b.length : Int), c, f, tt, mkB 1 b.length) := if_pos ⟨by show (0 : Int) ≤ 1; decide, by show (1 : Int) ≤ 1000000000000; decide, by show b.length ≤ 1000000000000; omega⟩
      have e38 : m38 ((c, f, tt, mkB 1 b.length), 1) = some ((1 : Int) + (b.length : Int)) := mark_held b 1 (by decide) (by decide) (by omega)
      simp (disch := omega) only [df, e29, eW, e36, e32, e33, e37, e38, tst_some, cond_true, cond_false, Bool.not_true, bneF]
  · cases h
end Go.Proofs.Try
