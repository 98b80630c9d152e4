/- A part of the proof of FnExactEntryFault: L7Fa, L7Fb. -/
import Derived.Test.YtdiobngppgokmaaL7Base
set_option maxHeartbeats 0
set_option maxRecDepth 100000
set_option linter.unusedVariables false
set_option linter.unusedSimpArgs false
namespace Go.Proofs.Try
open Go Go.VM Go.RowKit
/-! loop.example/g00222/spec.l1In -/
def ev36 : Env cxT := { Kc := kcOf [], Kw := kwOf [], lv := fun i => [], xv := fun i => none }
theorem i36 (L : Nat) (a0 : Int) (a1 : Int) (a2 : Int) : evF prog ev36 (loopN L) f36 (a36.enc (a0, a1, a2)) =
  bif (decide (a0 ≥ a1)) then some (n36 (decide (a0 ≤ a2)))
  else some (n36 Bool.false) := by kernel_rfl
def g36 (L : Nat) (a0 : Int) (a1 : Int) (a2 : Int) : Option Bool :=
  bif (decide (a0 ≥ a1)) then some (decide (a0 ≤ a2))
  else some Bool.false
theorem e36 (L : Nat) (a0 : Int) (a1 : Int) (a2 : Int) : evF prog ev36 (loopN L) f36 (a36.enc (a0, a1, a2)) = (g36 L a0 a1 a2).map n36 := by
  rw [i36]; simp only [g36, map_bif, map_tst, map_bnd, Option.map_some, Option.map_none]
theorem s36 (m : (Int × Int × Int) → Option Bool) (hm : ∀ (x : (Int × Int × Int)) t, m x = some t → ∃ L, g36 L x.1 x.2.1 x.2.2 = some t) : Sat prog cxT 36 (c36 m) :=
  sat_t cxT_ok cxT_pok (by rfl) (fn := f36) rfl a36 n36 dd36 m ev36 kok_nil kwok_nil (fun L x => g36 L x.1 x.2.1 x.2.2) (fun L x => e36 L x.1 x.2.1 x.2.2) hm hs36
/-! loop.example/g00222/laws.toCmd -/
def ev38 : Env cxT := { Kc := kcOf [], Kw := kwOf [], lv := fun i => [], xv := fun i => none }
theorem i38 (L : Nat) (a0_0 : Int) (a0_1 : Int) (a0_2 : Int) (a0_3 : Int) (a0_4 : Int) (a0_5 : Int) : evF prog ev38 (loopN L) f38 (a38.enc (a0_0, a0_1, a0_2, a0_3, a0_4, a0_5)) =
  some (n38 (a0_0, a0_1, a0_2, a0_3, a0_4, a0_5)) := by kernel_rfl
def g38 (L : Nat) (a0_0 : Int) (a0_1 : Int) (a0_2 : Int) (a0_3 : Int) (a0_4 : Int) (a0_5 : Int) : Option (Int × Int × Int × Int × Int × Int) :=
  some (a0_0, a0_1, a0_2, a0_3, a0_4, a0_5)
theorem e38 (L : Nat) (a0_0 : Int) (a0_1 : Int) (a0_2 : Int) (a0_3 : Int) (a0_4 : Int) (a0_5 : Int) : evF prog ev38 (loopN L) f38 (a38.enc (a0_0, a0_1, a0_2, a0_3, a0_4, a0_5)) = (g38 L a0_0 a0_1 a0_2 a0_3 a0_4 a0_5).map n38 := by
  rw [i38]; simp only [g38, map_bif, map_tst, map_bnd, Option.map_some, Option.map_none]
theorem s38 (m : (Int × Int × Int × Int × Int × Int) → Option (Int × Int × Int × Int × Int × Int)) (hm : ∀ (x : (Int × Int × Int × Int × Int × Int)) t, m x = some t → ∃ L, g38 L x.1 x.2.1 x.2.2.1 x.2.2.2.1 x.2.2.2.2.1 x.2.2.2.2.2 = some t) : Sat prog cxT 38 (c38 m) :=
  sat_t cxT_ok cxT_pok (by rfl) (fn := f38) rfl a38 n38 dd38 m ev38 kok_nil kwok_nil (fun L x => g38 L x.1 x.2.1 x.2.2.1 x.2.2.2.1 x.2.2.2.2.1 x.2.2.2.2.2) (fun L x => e38 L x.1 x.2.1 x.2.2.1 x.2.2.2.1 x.2.2.2.2.1 x.2.2.2.2.2) hm hs38
/-! loop.example/g00222/impl.isTerm -/
def ev39 : Env cxT := { Kc := kcOf [], Kw := kwOf [], lv := fun i => [], xv := fun i => none }
theorem i39 (L : Nat) (a0 : Int) : evF prog ev39 (loopN L) f39 (a39.enc a0) =
  bif (decide (a0 ≥ (1 : Int))) then some (n39 (decide (a0 ≤ (100000 : Int))))
  else some (n39 Bool.false) := by kernel_rfl
def g39 (L : Nat) (a0 : Int) : Option Bool :=
  bif (decide (a0 ≥ (1 : Int))) then some (decide (a0 ≤ (100000 : Int)))
  else some Bool.false
theorem e39 (L : Nat) (a0 : Int) : evF prog ev39 (loopN L) f39 (a39.enc a0) = (g39 L a0).map n39 := by
  rw [i39]; simp only [g39, map_bif, map_tst, map_bnd, Option.map_some, Option.map_none]
theorem s39 (m : Int → Option Bool) (hm : ∀ (x : Int) t, m x = some t → ∃ L, g39 L x = some t) : Sat prog cxT 39 (c39 m) :=
  sat_t cxT_ok cxT_pok (by rfl) (fn := f39) rfl a39 n39 dd39 m ev39 kok_nil kwok_nil (fun L x => g39 L x) (fun L x => e39 L x) hm hs39
/-! loop.example/g00222/impl.isClient -/
def ev40 : Env cxT := { Kc := kcOf [], Kw := kwOf [], lv := fun i => [], xv := fun i => none }
theorem i40 (L : Nat) (a0 : Int) : evF prog ev40 (loopN L) f40 (a40.enc a0) =
  bif (decide (a0 ≥ (0 : Int))) then some (n40 (decide (a0 ≤ (999 : Int))))
  else some (n40 Bool.false) := by kernel_rfl
def g40 (L : Nat) (a0 : Int) : Option Bool :=
  bif (decide (a0 ≥ (0 : Int))) then some (decide (a0 ≤ (999 : Int)))
  else some Bool.false
theorem e40 (L : Nat) (a0 : Int) : evF prog ev40 (loopN L) f40 (a40.enc a0) = (g40 L a0).map n40 := by
  rw [i40]; simp only [g40, map_bif, map_tst, map_bnd, Option.map_some, Option.map_none]
theorem s40 (m : Int → Option Bool) (hm : ∀ (x : Int) t, m x = some t → ∃ L, g40 L x = some t) : Sat prog cxT 40 (c40 m) :=
  sat_t cxT_ok cxT_pok (by rfl) (fn := f40) rfl a40 n40 dd40 m ev40 kok_nil kwok_nil (fun L x => g40 L x) (fun L x => e40 L x) hm hs40
/-! loop.example/g00222/impl.isSeq -/
def ev41 : Env cxT := { Kc := kcOf [], Kw := kwOf [], lv := fun i => [], xv := fun i => none }
theorem i41 (L : Nat) (a0 : Int) : evF prog ev41 (loopN L) f41 (a41.enc a0) =
  bif (decide (a0 ≥ (0 : Int))) then some (n41 (decide (a0 ≤ (1000000 : Int))))
  else some (n41 Bool.false) := by kernel_rfl
def g41 (L : Nat) (a0 : Int) : Option Bool :=
  bif (decide (a0 ≥ (0 : Int))) then some (decide (a0 ≤ (1000000 : Int)))
  else some Bool.false
theorem e41 (L : Nat) (a0 : Int) : evF prog ev41 (loopN L) f41 (a41.enc a0) = (g41 L a0).map n41 := by
  rw [i41]; simp only [g41, map_bif, map_tst, map_bnd, Option.map_some, Option.map_none]
theorem s41 (m : Int → Option Bool) (hm : ∀ (x : Int) t, m x = some t → ∃ L, g41 L x = some t) : Sat prog cxT 41 (c41 m) :=
  sat_t cxT_ok cxT_pok (by rfl) (fn := f41) rfl a41 n41 dd41 m ev41 kok_nil kwok_nil (fun L x => g41 L x) (fun L x => e41 L x) hm hs41
/-! loop.example/g00222/laws.eqCmd -/
/-! loop.example/g00222/impl.isSameEntry -/
/-! loop.example/g00222/spec.l5Needs -/
def ev53 (m36 : (Int × Int × Int) → Option Bool) : Env cxT := { Kc := kcOf [(36, c36 m36)], Kw := kwOf [], lv := fun i => [], xv := fun i => none }
theorem i53 (m36 : (Int × Int × Int) → Option Bool) (L : Nat) (a0 : Int) : evF prog (ev53 m36) (loopN L) f53 (a53.enc a0) =
  tst (m36 (a0, ((5 : Int), (8 : Int)))) false fun (q1 : Bool) => bif (a0 != (5 : Int)) then bif (a0 == (1 : Int)) then some (n53 ((a0 != (6 : Int)), Bool.true, (a0 != (4 : Int)), q1))
      else some (n53 ((a0 != (6 : Int)), q1, (a0 != (4 : Int)), q1))
    else bif (a0 == (1 : Int)) then some (n53 (Bool.false, Bool.true, (a0 != (4 : Int)), q1))
    else some (n53 (Bool.false, q1, (a0 != (4 : Int)), q1)) := by kernel_rfl
def g53 (m36 : (Int × Int × Int) → Option Bool) (L : Nat) (a0 : Int) : Option (Bool × Bool × Bool × Bool) :=
  tst (m36 (a0, ((5 : Int), (8 : Int)))) false fun (q1 : Bool) => bif (a0 != (5 : Int)) then bif (a0 == (1 : Int)) then some ((a0 != (6 : Int)), Bool.true, (a0 != (4 : Int)), q1)
      else some ((a0 != (6 : Int)), q1, (a0 != (4 : Int)), q1)
    else bif (a0 == (1 : Int)) then some (Bool.false, Bool.true, (a0 != (4 : Int)), q1)
    else some (Bool.false, q1, (a0 != (4 : Int)), q1)
theorem e53 (m36 : (Int × Int × Int) → Option Bool) (L : Nat) (a0 : Int) : evF prog (ev53 m36) (loopN L) f53 (a53.enc a0) = (g53 m36 L a0).map n53 := by
  rw [i53]; simp only [g53, map_bif, map_tst, map_bnd, Option.map_some, Option.map_none]
theorem s53 (m36 : (Int × Int × Int) → Option Bool) (h36 : Sat prog cxT 36 (c36 m36)) (m : Int → Option (Bool × Bool × Bool × Bool)) (hm : ∀ (x : Int) t, m x = some t → ∃ L, g53 m36 L x = some t) : Sat prog cxT 53 (c53 m) :=
  sat_t cxT_ok cxT_pok (by rfl) (fn := f53) rfl a53 n53 dd53 m (ev53 m36) (kok_cons h36 kok_nil) kwok_nil (fun L x => g53 m36 L x) (fun L x => e53 m36 L x) hm hs53
/-! loop.example/g00222/spec.l5Version -/
def ev54 (m36 : (Int × Int × Int) → Option Bool) : Env cxT := { Kc := kcOf [(36, c36 m36)], Kw := kwOf [], lv := fun i => [], xv := fun i => none }
theorem i54 (m36 : (Int × Int × Int) → Option Bool) (L : Nat) (a0 : Int) : evF prog (ev54 m36) (loopN L) f54 (a54.enc a0) =
  tst (m36 (a0, ((0 : Int), (1000000 : Int)))) false fun (q1 : Bool) => some (n54 q1) := by kernel_rfl
def g54 (m36 : (Int × Int × Int) → Option Bool) (L : Nat) (a0 : Int) : Option Bool :=
  tst (m36 (a0, ((0 : Int), (1000000 : Int)))) false fun (q1 : Bool) => some q1
theorem e54 (m36 : (Int × Int × Int) → Option Bool) (L : Nat) (a0 : Int) : evF prog (ev54 m36) (loopN L) f54 (a54.enc a0) = (g54 m36 L a0).map n54 := by
  rw [i54]; simp only [g54, map_bif, map_tst, map_bnd, Option.map_some, Option.map_none]
theorem s54 (m36 : (Int × Int × Int) → Option Bool) (h36 : Sat prog cxT 36 (c36 m36)) (m : Int → Option Bool) (hm : ∀ (x : Int) t, m x = some t → ∃ L, g54 m36 L x = some t) : Sat prog cxT 54 (c54 m) :=
  sat_t cxT_ok cxT_pok (by rfl) (fn := f54) rfl a54 n54 dd54 m (ev54 m36) (kok_cons h36 kok_nil) kwok_nil (fun L x => g54 m36 L x) (fun L x => e54 m36 L x) hm hs54
/-! loop.example/g00222/spec.l3Name -/
def ev55 (m36 : (Int × Int × Int) → Option Bool) : Env cxT := { Kc := kcOf [(36, c36 m36)], Kw := kwOf [], lv := fun i => [], xv := fun i => none }
theorem i55 (m36 : (Int × Int × Int) → Option Bool) (L : Nat) (a0 : Int) : evF prog (ev55 m36) (loopN L) f55 (a55.enc a0) =
  tst (m36 (a0, ((1 : Int), (999 : Int)))) false fun (q1 : Bool) => some (n55 q1) := by kernel_rfl
def g55 (m36 : (Int × Int × Int) → Option Bool) (L : Nat) (a0 : Int) : Option Bool :=
  tst (m36 (a0, ((1 : Int), (999 : Int)))) false fun (q1 : Bool) => some q1
theorem e55 (m36 : (Int × Int × Int) → Option Bool) (L : Nat) (a0 : Int) : evF prog (ev55 m36) (loopN L) f55 (a55.enc a0) = (g55 m36 L a0).map n55 := by
  rw [i55]; simp only [g55, map_bif, map_tst, map_bnd, Option.map_some, Option.map_none]
theorem s55 (m36 : (Int × Int × Int) → Option Bool) (h36 : Sat prog cxT 36 (c36 m36)) (m : Int → Option Bool) (hm : ∀ (x : Int) t, m x = some t → ∃ L, g55 m36 L x = some t) : Sat prog cxT 55 (c55 m) :=
  sat_t cxT_ok cxT_pok (by rfl) (fn := f55) rfl a55 n55 dd55 m (ev55 m36) (kok_cons h36 kok_nil) kwok_nil (fun L x => g55 m36 L x) (fun L x => e55 m36 L x) hm hs55
/-! loop.example/g00222/spec.l2Address -/
def ev56 (m36 : (Int × Int × Int) → Option Bool) : Env cxT := { Kc := kcOf [(36, c36 m36)], Kw := kwOf [], lv := fun i => [], xv := fun i => none }
theorem i56 (m36 : (Int × Int × Int) → Option Bool) (L : Nat) (a0 : Int) : evF prog (ev56 m36) (loopN L) f56 (a56.enc a0) =
  tst (m36 (a0, ((0 : Int), (4294967295 : Int)))) false fun (q1 : Bool) => some (n56 q1) := by kernel_rfl
def g56 (m36 : (Int × Int × Int) → Option Bool) (L : Nat) (a0 : Int) : Option Bool :=
  tst (m36 (a0, ((0 : Int), (4294967295 : Int)))) false fun (q1 : Bool) => some q1
theorem e56 (m36 : (Int × Int × Int) → Option Bool) (L : Nat) (a0 : Int) : evF prog (ev56 m36) (loopN L) f56 (a56.enc a0) = (g56 m36 L a0).map n56 := by
  rw [i56]; simp only [g56, map_bif, map_tst, map_bnd, Option.map_some, Option.map_none]
theorem s56 (m36 : (Int × Int × Int) → Option Bool) (h36 : Sat prog cxT 36 (c36 m36)) (m : Int → Option Bool) (hm : ∀ (x : Int) t, m x = some t → ∃ L, g56 m36 L x = some t) : Sat prog cxT 56 (c56 m) :=
  sat_t cxT_ok cxT_pok (by rfl) (fn := f56) rfl a56 n56 dd56 m (ev56 m36) (kok_cons h36 kok_nil) kwok_nil (fun L x => g56 m36 L x) (fun L x => e56 m36 L x) hm hs56
/-! loop.example/g00222/spec.l5Number -/
def ev57 (m36 : (Int × Int × Int) → Option Bool) (m65 : Int → Option Bool) : Env cxT := { Kc := kcOf [(36, c36 m36), (65, c65 m65)], Kw := kwOf [], lv := fun i => [], xv := fun i => none }
theorem i57 (m36 : (Int × Int × Int) → Option Bool) (m65 : Int → Option Bool) (L : Nat) (a0_0 : Int) (a0_1 : Int) (a0_2 : Int) (a0_3 : Int) (a0_4 : Int) (a0_5 : Int) : evF prog (ev57 m36 m65) (loopN L) f57 (a57.enc (a0_0, a0_1, a0_2, a0_3, a0_4, a0_5)) =
  bif (a0_0 == (1 : Int)) then tst (m36 (a0_4, ((0 : Int), (9 : Int)))) false fun (q2 : Bool) => some (n57 q2)
  else bif (a0_0 == (2 : Int)) then tst (m36 (a0_4, ((0 : Int), (9 : Int)))) false fun (q2 : Bool) => some (n57 q2)
  else bif (a0_0 == (3 : Int)) then tst (m36 (a0_4, ((1 : Int), (3 : Int)))) false fun (q2 : Bool) => some (n57 q2)
  else bif (a0_0 == (9 : Int)) then tst (m36 (a0_4, ((0 : Int), (1 : Int)))) false fun (q2 : Bool) => some (n57 q2)
  else tst (m65 a0_4) false fun (q1 : Bool) => some (n57 q1) := by kernel_rfl
def g57 (m36 : (Int × Int × Int) → Option Bool) (m65 : Int → Option Bool) (L : Nat) (a0_0 : Int) (a0_1 : Int) (a0_2 : Int) (a0_3 : Int) (a0_4 : Int) (a0_5 : Int) : Option Bool :=
  bif (a0_0 == (1 : Int)) then tst (m36 (a0_4, ((0 : Int), (9 : Int)))) false fun (q2 : Bool) => some q2
  else bif (a0_0 == (2 : Int)) then tst (m36 (a0_4, ((0 : Int), (9 : Int)))) false fun (q2 : Bool) => some q2
  else bif (a0_0 == (3 : Int)) then tst (m36 (a0_4, ((1 : Int), (3 : Int)))) false fun (q2 : Bool) => some q2
  else bif (a0_0 == (9 : Int)) then tst (m36 (a0_4, ((0 : Int), (1 : Int)))) false fun (q2 : Bool) => some q2
  else tst (m65 a0_4) false fun (q1 : Bool) => some q1
theorem e57 (m36 : (Int × Int × Int) → Option Bool) (m65 : Int → Option Bool) (L : Nat) (a0_0 : Int) (a0_1 : Int) (a0_2 : Int) (a0_3 : Int) (a0_4 : Int) (a0_5 : Int) : evF prog (ev57 m36 m65) (loopN L) f57 (a57.enc (a0_0, a0_1, a0_2, a0_3, a0_4, a0_5)) = (g57 m36 m65 L a0_0 a0_1 a0_2 a0_3 a0_4 a0_5).map n57 := by
  rw [i57]; simp only [g57, map_bif, map_tst, map_bnd, Option.map_some, Option.map_none]
theorem s57 (m36 : (Int × Int × Int) → Option Bool) (m65 : Int → Option Bool) (h36 : Sat prog cxT 36 (c36 m36)) (h65 : Sat prog cxT 65 (c65 m65)) (m : (Int × Int × Int × Int × Int × Int) → Option Bool) (hm : ∀ (x : (Int × Int × Int × Int × Int × Int)) t, m x = some t → ∃ L, g57 m36 m65 L x.1 x.2.1 x.2.2.1 x.2.2.2.1 x.2.2.2.2.1 x.2.2.2.2.2 = some t) : Sat prog cxT 57 (c57 m) :=
  sat_t cxT_ok cxT_pok (by rfl) (fn := f57) rfl a57 n57 dd57 m (ev57 m36 m65) (kok_cons h36 (kok_cons h65 kok_nil)) kwok_nil (fun L x => g57 m36 m65 L x.1 x.2.1 x.2.2.1 x.2.2.2.1 x.2.2.2.2.1 x.2.2.2.2.2) (fun L x => e57 m36 m65 L x.1 x.2.1 x.2.2.1 x.2.2.2.1 x.2.2.2.2.1 x.2.2.2.2.2) hm hs57
/-! loop.example/g00222/spec.l5Proto -/
def ev58 : Env cxT := { Kc := kcOf [], Kw := kwOf [], lv := fun i => [], xv := fun i => none }
theorem i58 (L : Nat) (a0 : Int) : evF prog ev58 (loopN L) f58 (a58.enc a0) =
  bif (a0 == (6 : Int)) then some (n58 Bool.true)
  else some (n58 (a0 == (17 : Int))) := by kernel_rfl
def g58 (L : Nat) (a0 : Int) : Option Bool :=
  bif (a0 == (6 : Int)) then some Bool.true
  else some (a0 == (17 : Int))
theorem e58 (L : Nat) (a0 : Int) : evF prog ev58 (loopN L) f58 (a58.enc a0) = (g58 L a0).map n58 := by
  rw [i58]; simp only [g58, map_bif, map_tst, map_bnd, Option.map_some, Option.map_none]
theorem s58 (m : Int → Option Bool) (hm : ∀ (x : Int) t, m x = some t → ∃ L, g58 L x = some t) : Sat prog cxT 58 (c58 m) :=
  sat_t cxT_ok cxT_pok (by rfl) (fn := f58) rfl a58 n58 dd58 m ev58 kok_nil kwok_nil (fun L x => g58 L x) (fun L x => e58 L x) hm hs58
/-! loop.example/g00222/impl.isVersion -/
def ev59 : Env cxT := { Kc := kcOf [], Kw := kwOf [], lv := fun i => [], xv := fun i => none }
theorem i59 (L : Nat) (a0 : Int) : evF prog ev59 (loopN L) f59 (a59.enc a0) =
  bif (decide (a0 ≥ (0 : Int))) then some (n59 (decide (a0 ≤ (1000000 : Int))))
  else some (n59 Bool.false) := by kernel_rfl
def g59 (L : Nat) (a0 : Int) : Option Bool :=
  bif (decide (a0 ≥ (0 : Int))) then some (decide (a0 ≤ (1000000 : Int)))
  else some Bool.false
theorem e59 (L : Nat) (a0 : Int) : evF prog ev59 (loopN L) f59 (a59.enc a0) = (g59 L a0).map n59 := by
  rw [i59]; simp only [g59, map_bif, map_tst, map_bnd, Option.map_some, Option.map_none]
theorem s59 (m : Int → Option Bool) (hm : ∀ (x : Int) t, m x = some t → ∃ L, g59 L x = some t) : Sat prog cxT 59 (c59 m) :=
  sat_t cxT_ok cxT_pok (by rfl) (fn := f59) rfl a59 n59 dd59 m ev59 kok_nil kwok_nil (fun L x => g59 L x) (fun L x => e59 L x) hm hs59
/-! loop.example/g00222/impl.isSameTerm -/
/-! loop.example/g00222/spec.l2Port -/
def ev65 (m36 : (Int × Int × Int) → Option Bool) : Env cxT := { Kc := kcOf [(36, c36 m36)], Kw := kwOf [], lv := fun i => [], xv := fun i => none }
theorem i65 (m36 : (Int × Int × Int) → Option Bool) (L : Nat) (a0 : Int) : evF prog (ev65 m36) (loopN L) f65 (a65.enc a0) =
  tst (m36 (a0, ((0 : Int), (65535 : Int)))) false fun (q1 : Bool) => some (n65 q1) := by kernel_rfl
def g65 (m36 : (Int × Int × Int) → Option Bool) (L : Nat) (a0 : Int) : Option Bool :=
  tst (m36 (a0, ((0 : Int), (65535 : Int)))) false fun (q1 : Bool) => some q1
theorem e65 (m36 : (Int × Int × Int) → Option Bool) (L : Nat) (a0 : Int) : evF prog (ev65 m36) (loopN L) f65 (a65.enc a0) = (g65 m36 L a0).map n65 := by
  rw [i65]; simp only [g65, map_bif, map_tst, map_bnd, Option.map_some, Option.map_none]
theorem s65 (m36 : (Int × Int × Int) → Option Bool) (h36 : Sat prog cxT 36 (c36 m36)) (m : Int → Option Bool) (hm : ∀ (x : Int) t, m x = some t → ∃ L, g65 m36 L x = some t) : Sat prog cxT 65 (c65 m) :=
  sat_t cxT_ok cxT_pok (by rfl) (fn := f65) rfl a65 n65 dd65 m (ev65 m36) (kok_cons h36 kok_nil) kwok_nil (fun L x => g65 m36 L x) (fun L x => e65 m36 L x) hm hs65
/-! loop.example/g00222/impl.isName -/
def ev66 : Env cxT := { Kc := kcOf [], Kw := kwOf [], lv := fun i => [], xv := fun i => none }
theorem i66 (L : Nat) (a0 : Int) : evF prog ev66 (loopN L) f66 (a66.enc a0) =
  bif (decide (a0 ≥ (1 : Int))) then some (n66 (decide (a0 ≤ (999 : Int))))
  else some (n66 Bool.false) := by kernel_rfl
def g66 (L : Nat) (a0 : Int) : Option Bool :=
  bif (decide (a0 ≥ (1 : Int))) then some (decide (a0 ≤ (999 : Int)))
  else some Bool.false
theorem e66 (L : Nat) (a0 : Int) : evF prog ev66 (loopN L) f66 (a66.enc a0) = (g66 L a0).map n66 := by
  rw [i66]; simp only [g66, map_bif, map_tst, map_bnd, Option.map_some, Option.map_none]
theorem s66 (m : Int → Option Bool) (hm : ∀ (x : Int) t, m x = some t → ∃ L, g66 L x = some t) : Sat prog cxT 66 (c66 m) :=
  sat_t cxT_ok cxT_pok (by rfl) (fn := f66) rfl a66 n66 dd66 m ev66 kok_nil kwok_nil (fun L x => g66 L x) (fun L x => e66 L x) hm hs66
/-! loop.example/g00222/impl.isAddress -/
def ev67 : Env cxT := { Kc := kcOf [], Kw := kwOf [], lv := fun i => [], xv := fun i => none }
theorem i67 (L : Nat) (a0 : Int) : evF prog ev67 (loopN L) f67 (a67.enc a0) =
  bif (decide (a0 ≥ (0 : Int))) then some (n67 (decide (a0 ≤ (4294967295 : Int))))
  else some (n67 Bool.false) := by kernel_rfl
def g67 (L : Nat) (a0 : Int) : Option Bool :=
  bif (decide (a0 ≥ (0 : Int))) then some (decide (a0 ≤ (4294967295 : Int)))
  else some Bool.false
theorem e67 (L : Nat) (a0 : Int) : evF prog ev67 (loopN L) f67 (a67.enc a0) = (g67 L a0).map n67 := by
  rw [i67]; simp only [g67, map_bif, map_tst, map_bnd, Option.map_some, Option.map_none]
theorem s67 (m : Int → Option Bool) (hm : ∀ (x : Int) t, m x = some t → ∃ L, g67 L x = some t) : Sat prog cxT 67 (c67 m) :=
  sat_t cxT_ok cxT_pok (by rfl) (fn := f67) rfl a67 n67 dd67 m ev67 kok_nil kwok_nil (fun L x => g67 L x) (fun L x => e67 L x) hm hs67
/-! loop.example/g00222/impl.isWeight -/
def ev68 : Env cxT := { Kc := kcOf [], Kw := kwOf [], lv := fun i => [], xv := fun i => none }
theorem i68 (L : Nat) (a0 : Int) : evF prog ev68 (loopN L) f68 (a68.enc a0) =
  bif (decide (a0 ≥ (0 : Int))) then some (n68 (decide (a0 ≤ (9 : Int))))
  else some (n68 Bool.false) := by kernel_rfl
def g68 (L : Nat) (a0 : Int) : Option Bool :=
  bif (decide (a0 ≥ (0 : Int))) then some (decide (a0 ≤ (9 : Int)))
  else some Bool.false
theorem e68 (L : Nat) (a0 : Int) : evF prog ev68 (loopN L) f68 (a68.enc a0) = (g68 L a0).map n68 := by
  rw [i68]; simp only [g68, map_bif, map_tst, map_bnd, Option.map_some, Option.map_none]
theorem s68 (m : Int → Option Bool) (hm : ∀ (x : Int) t, m x = some t → ∃ L, g68 L x = some t) : Sat prog cxT 68 (c68 m) :=
  sat_t cxT_ok cxT_pok (by rfl) (fn := f68) rfl a68 n68 dd68 m ev68 kok_nil kwok_nil (fun L x => g68 L x) (fun L x => e68 L x) hm hs68
/-! loop.example/g00222/impl.isStage -/
def ev71 : Env cxT := { Kc := kcOf [], Kw := kwOf [], lv := fun i => [], xv := fun i => none }
theorem i71 (L : Nat) (a0 : Int) : evF prog ev71 (loopN L) f71 (a71.enc a0) =
  bif (decide (a0 ≥ (1 : Int))) then some (n71 (decide (a0 ≤ (3 : Int))))
  else some (n71 Bool.false) := by kernel_rfl
def g71 (L : Nat) (a0 : Int) : Option Bool :=
  bif (decide (a0 ≥ (1 : Int))) then some (decide (a0 ≤ (3 : Int)))
  else some Bool.false
theorem e71 (L : Nat) (a0 : Int) : evF prog ev71 (loopN L) f71 (a71.enc a0) = (g71 L a0).map n71 := by
  rw [i71]; simp only [g71, map_bif, map_tst, map_bnd, Option.map_some, Option.map_none]
theorem s71 (m : Int → Option Bool) (hm : ∀ (x : Int) t, m x = some t → ∃ L, g71 L x = some t) : Sat prog cxT 71 (c71 m) :=
  sat_t cxT_ok cxT_pok (by rfl) (fn := f71) rfl a71 n71 dd71 m ev71 kok_nil kwok_nil (fun L x => g71 L x) (fun L x => e71 L x) hm hs71
/-! loop.example/g00222/impl.isPort -/
def ev74 : Env cxT := { Kc := kcOf [], Kw := kwOf [], lv := fun i => [], xv := fun i => none }
theorem i74 (L : Nat) (a0 : Int) : evF prog ev74 (loopN L) f74 (a74.enc a0) =
  bif (decide (a0 ≥ (0 : Int))) then some (n74 (decide (a0 ≤ (65535 : Int))))
  else some (n74 Bool.false) := by kernel_rfl
def g74 (L : Nat) (a0 : Int) : Option Bool :=
  bif (decide (a0 ≥ (0 : Int))) then some (decide (a0 ≤ (65535 : Int)))
  else some Bool.false
theorem e74 (L : Nat) (a0 : Int) : evF prog ev74 (loopN L) f74 (a74.enc a0) = (g74 L a0).map n74 := by
  rw [i74]; simp only [g74, map_bif, map_tst, map_bnd, Option.map_some, Option.map_none]
theorem s74 (m : Int → Option Bool) (hm : ∀ (x : Int) t, m x = some t → ∃ L, g74 L x = some t) : Sat prog cxT 74 (c74 m) :=
  sat_t cxT_ok cxT_pok (by rfl) (fn := f74) rfl a74 n74 dd74 m ev74 kok_nil kwok_nil (fun L x => g74 L x) (fun L x => e74 L x) hm hs74
/-! loop.example/g00222/impl.isProto -/
def ev75 : Env cxT := { Kc := kcOf [], Kw := kwOf [], lv := fun i => [], xv := fun i => none }
theorem i75 (L : Nat) (a0 : Int) : evF prog ev75 (loopN L) f75 (a75.enc a0) =
  bif (a0 == (6 : Int)) then some (n75 Bool.true)
  else some (n75 (a0 == (17 : Int))) := by kernel_rfl
def g75 (L : Nat) (a0 : Int) : Option Bool :=
  bif (a0 == (6 : Int)) then some Bool.true
  else some (a0 == (17 : Int))
theorem e75 (L : Nat) (a0 : Int) : evF prog ev75 (loopN L) f75 (a75.enc a0) = (g75 L a0).map n75 := by
  rw [i75]; simp only [g75, map_bif, map_tst, map_bnd, Option.map_some, Option.map_none]
theorem s75 (m : Int → Option Bool) (hm : ∀ (x : Int) t, m x = some t → ∃ L, g75 L x = some t) : Sat prog cxT 75 (c75 m) :=
  sat_t cxT_ok cxT_pok (by rfl) (fn := f75) rfl a75 n75 dd75 m ev75 kok_nil kwok_nil (fun L x => g75 L x) (fun L x => e75 L x) hm hs75
/-! loop.example/g00222/impl.isYesOrNo -/
def ev80 : Env cxT := { Kc := kcOf [], Kw := kwOf [], lv := fun i => [], xv := fun i => none }
theorem i80 (L : Nat) (a0 : Int) : evF prog ev80 (loopN L) f80 (a80.enc a0) =
  bif (a0 == (0 : Int)) then some (n80 Bool.true)
  else some (n80 (a0 == (1 : Int))) := by kernel_rfl
def g80 (L : Nat) (a0 : Int) : Option Bool :=
  bif (a0 == (0 : Int)) then some Bool.true
  else some (a0 == (1 : Int))
theorem e80 (L : Nat) (a0 : Int) : evF prog ev80 (loopN L) f80 (a80.enc a0) = (g80 L a0).map n80 := by
  rw [i80]; simp only [g80, map_bif, map_tst, map_bnd, Option.map_some, Option.map_none]
theorem s80 (m : Int → Option Bool) (hm : ∀ (x : Int) t, m x = some t → ∃ L, g80 L x = some t) : Sat prog cxT 80 (c80 m) :=
  sat_t cxT_ok cxT_pok (by rfl) (fn := f80) rfl a80 n80 dd80 m ev80 kok_nil kwok_nil (fun L x => g80 L x) (fun L x => e80 L x) hm hs80
/-! loop.example/g00222/laws.toEntry -/
def ev12 (m38 : (Int × Int × Int × Int × Int × Int) → Option (Int × Int × Int × Int × Int × Int)) : Env cxT := { Kc := kcOf [(38, c38 m38)], Kw := kwOf [], lv := fun i => [], xv := fun i => none }
theorem i12 (m38 : (Int × Int × Int × Int × Int × Int) → Option (Int × Int × Int × Int × Int × Int)) (L : Nat) (a0_0 : Int) (a0_1 : Int) (a0_2 : Int) (a0_3 : Int) (a0_4 : Int) (a0_5 : Int) (a0_6 : Int) (a0_7 : Int) (a0_8 : Int) : evF prog (ev12 m38) (loopN L) f12 (a12.enc (a0_0, a0_1, a0_2, a0_3, a0_4, a0_5, a0_6, a0_7, a0_8)) =
  tst (m38 (a0_3, (a0_4, (a0_5, (a0_6, (a0_7, a0_8)))))) ((0 : Int), (0 : Int), (0 : Int), (0 : Int), (0 : Int), (0 : Int)) fun (q1 : (Int × Int × Int × Int × Int × Int)) => some (n12 (a0_0, a0_1, a0_2, q1.1, q1.2.1, q1.2.2.1, q1.2.2.2.1, q1.2.2.2.2.1, q1.2.2.2.2.2)) := by kernel_rfl
def g12 (m38 : (Int × Int × Int × Int × Int × Int) → Option (Int × Int × Int × Int × Int × Int)) (L : Nat) (a0_0 : Int) (a0_1 : Int) (a0_2 : Int) (a0_3 : Int) (a0_4 : Int) (a0_5 : Int) (a0_6 : Int) (a0_7 : Int) (a0_8 : Int) : Option (Int × Int × Int × Int × Int × Int × Int × Int × Int) :=
  tst (m38 (a0_3, (a0_4, (a0_5, (a0_6, (a0_7, a0_8)))))) ((0 : Int), (0 : Int), (0 : Int), (0 : Int), (0 : Int), (0 : Int)) fun (q1 : (Int × Int × Int × Int × Int × Int)) => some (a0_0, a0_1, a0_2, q1.1, q1.2.1, q1.2.2.1, q1.2.2.2.1, q1.2.2.2.2.1, q1.2.2.2.2.2)
theorem e12 (m38 : (Int × Int × Int × Int × Int × Int) → Option (Int × Int × Int × Int × Int × Int)) (L : Nat) (a0_0 : Int) (a0_1 : Int) (a0_2 : Int) (a0_3 : Int) (a0_4 : Int) (a0_5 : Int) (a0_6 : Int) (a0_7 : Int) (a0_8 : Int) : evF prog (ev12 m38) (loopN L) f12 (a12.enc (a0_0, a0_1, a0_2, a0_3, a0_4, a0_5, a0_6, a0_7, a0_8)) = (g12 m38 L a0_0 a0_1 a0_2 a0_3 a0_4 a0_5 a0_6 a0_7 a0_8).map n12 := by
  rw [i12]; simp only [g12, map_bif, map_tst, map_bnd, Option.map_some, Option.map_none]
theorem s12 (m38 : (Int × Int × Int × Int × Int × Int) → Option (Int × Int × Int × Int × Int × Int)) (h38 : Sat prog cxT 38 (c38 m38)) (m : (Int × Int × Int × Int × Int × Int × Int × Int × Int) → Option (Int × Int × Int × Int × Int × Int × Int × Int × Int)) (hm : ∀ (x : (Int × Int × Int × Int × Int × Int × Int × Int × Int)) t, m x = some t → ∃ L, g12 m38 L x.1 x.2.1 x.2.2.1 x.2.2.2.1 x.2.2.2.2.1 x.2.2.2.2.2.1 x.2.2.2.2.2.2.1 x.2.2.2.2.2.2.2.1 x.2.2.2.2.2.2.2.2 = some t) : Sat prog cxT 12 (c12 m) :=
  sat_t cxT_ok cxT_pok (by rfl) (fn := f12) rfl a12 n12 dd12 m (ev12 m38) (kok_cons h38 kok_nil) kwok_nil (fun L x => g12 m38 L x.1 x.2.1 x.2.2.1 x.2.2.2.1 x.2.2.2.2.1 x.2.2.2.2.2.1 x.2.2.2.2.2.2.1 x.2.2.2.2.2.2.2.1 x.2.2.2.2.2.2.2.2) (fun L x => e12 m38 L x.1 x.2.1 x.2.2.1 x.2.2.2.1 x.2.2.2.2.1 x.2.2.2.2.2.1 x.2.2.2.2.2.2.1 x.2.2.2.2.2.2.2.1 x.2.2.2.2.2.2.2.2) hm hs12
/-! loop.example/g00222/laws.eqEntry -/
end Go.Proofs.Try

set_option maxHeartbeats 0
set_option maxRecDepth 100000
set_option linter.unusedVariables false
set_option linter.unusedSimpArgs false
namespace Go.Proofs.Try
open Go Go.VM Go.RowKit
/-! loop.example/g00222/spec.EntryFault -/
def ev11 (m36 : (Int × Int × Int) → Option Bool) (m37 : (Int × Int × Int × Int × Int × Int) → Option Int) : Env cxT := { Kc := kcOf [(36, c36 m36), (37, c37 m37)], Kw := kwOf [], lv := fun i => [], xv := fun i => none }
theorem i11 (m36 : (Int × Int × Int) → Option Bool) (m37 : (Int × Int × Int × Int × Int × Int) → Option Int) (L : Nat) (a0_0 : Int) (a0_1 : Int) (a0_2 : Int) (a0_3 : Int) (a0_4 : Int) (a0_5 : Int) (a0_6 : Int) (a0_7 : Int) (a0_8 : Int) : evF prog (ev11 m36 m37) (loopN L) f11 (a11.enc (a0_0, a0_1, a0_2, a0_3, a0_4, a0_5, a0_6, a0_7, a0_8)) =
  tst (m36 (a0_0, ((1 : Int), (100000 : Int)))) false fun (q1 : Bool) => bif (!q1) then some (n11 (3 : Int))
    else tst (m36 (a0_1, ((0 : Int), (999 : Int)))) false fun (q2 : Bool) => bif (!q2) then some (n11 (3 : Int))
      else tst (m36 (a0_2, ((0 : Int), (1000000 : Int)))) false fun (q3 : Bool) => bif (!q3) then some (n11 (3 : Int))
        else bif (!((a0_1 == (0 : Int)) == (a0_2 == (0 : Int)))) then some (n11 (1 : Int))
        else bif (a0_1 != (0 : Int)) then tst (m37 (a0_3, (a0_4, (a0_5, (a0_6, (a0_7, a0_8)))))) (0 : Int) fun (q5 : Int) => some (n11 q5)
        else bif (!((((((a0_3 == (0 : Int)) && (a0_4 == (0 : Int))) && (a0_5 == (0 : Int))) && (a0_6 == (0 : Int))) && (a0_7 == (0 : Int))) && (a0_8 == (0 : Int)))) then some (n11 (1 : Int))
        else some (n11 (0 : Int)) := by kernel_rfl
def g11 (m36 : (Int × Int × Int) → Option Bool) (m37 : (Int × Int × Int × Int × Int × Int) → Option Int) (L : Nat) (a0_0 : Int) (a0_1 : Int) (a0_2 : Int) (a0_3 : Int) (a0_4 : Int) (a0_5 : Int) (a0_6 : Int) (a0_7 : Int) (a0_8 : Int) : Option Int :=
  tst (m36 (a0_0, ((1 : Int), (100000 : Int)))) false fun (q1 : Bool) => bif (!q1) then some (3 : Int)
    else tst (m36 (a0_1, ((0 : Int), (999 : Int)))) false fun (q2 : Bool) => bif (!q2) then some (3 : Int)
      else tst (m36 (a0_2, ((0 : Int), (1000000 : Int)))) false fun (q3 : Bool) => bif (!q3) then some (3 : Int)
        else bif (!((a0_1 == (0 : Int)) == (a0_2 == (0 : Int)))) then some (1 : Int)
        else bif (a0_1 != (0 : Int)) then tst (m37 (a0_3, (a0_4, (a0_5, (a0_6, (a0_7, a0_8)))))) (0 : Int) fun (q5 : Int) => some q5
        else bif (!((((((a0_3 == (0 : Int)) && (a0_4 == (0 : Int))) && (a0_5 == (0 : Int))) && (a0_6 == (0 : Int))) && (a0_7 == (0 : Int))) && (a0_8 == (0 : Int)))) then some (1 : Int)
        else some (0 : Int)
theorem e11 (m36 : (Int × Int × Int) → Option Bool) (m37 : (Int × Int × Int × Int × Int × Int) → Option Int) (L : Nat) (a0_0 : Int) (a0_1 : Int) (a0_2 : Int) (a0_3 : Int) (a0_4 : Int) (a0_5 : Int) (a0_6 : Int) (a0_7 : Int) (a0_8 : Int) : evF prog (ev11 m36 m37) (loopN L) f11 (a11.enc (a0_0, a0_1, a0_2, a0_3, a0_4, a0_5, a0_6, a0_7, a0_8)) = (g11 m36 m37 L a0_0 a0_1 a0_2 a0_3 a0_4 a0_5 a0_6 a0_7 a0_8).map n11 := by
  rw [i11]; simp only [g11, map_bif, map_tst, map_bnd, Option.map_some, Option.map_none]
theorem s11 (m36 : (Int × Int × Int) → Option Bool) (m37 : (Int × Int × Int × Int × Int × Int) → Option Int) (h36 : Sat prog cxT 36 (c36 m36)) (h37 : Sat prog cxT 37 (c37 m37)) (m : (Int × Int × Int × Int × Int × Int × Int × Int × Int) → Option Int) (hm : ∀ (x : (Int × Int × Int × Int × Int × Int × Int × Int × Int)) t, m x = some t → ∃ L, g11 m36 m37 L x.1 x.2.1 x.2.2.1 x.2.2.2.1 x.2.2.2.2.1 x.2.2.2.2.2.1 x.2.2.2.2.2.2.1 x.2.2.2.2.2.2.2.1 x.2.2.2.2.2.2.2.2 = some t) : Sat prog cxT 11 (c11 m) :=
  sat_t cxT_ok cxT_pok (by rfl) (fn := f11) rfl a11 n11 dd11 m (ev11 m36 m37) (kok_cons h36 (kok_cons h37 kok_nil)) kwok_nil (fun L x => g11 m36 m37 L x.1 x.2.1 x.2.2.1 x.2.2.2.1 x.2.2.2.2.1 x.2.2.2.2.2.1 x.2.2.2.2.2.2.1 x.2.2.2.2.2.2.2.1 x.2.2.2.2.2.2.2.2) (fun L x => e11 m36 m37 L x.1 x.2.1 x.2.2.1 x.2.2.2.1 x.2.2.2.2.1 x.2.2.2.2.2.1 x.2.2.2.2.2.2.1 x.2.2.2.2.2.2.2.1 x.2.2.2.2.2.2.2.2) hm hs11
/-! loop.example/g00222/impl.EntryFault -/
def ev13 (m39 : Int → Option Bool) (m40 : Int → Option Bool) (m41 : Int → Option Bool) (m42 : (Int × Int × Int × Int × Int × Int) → Option Int) : Env cxT := { Kc := kcOf [(39, c39 m39), (40, c40 m40), (41, c41 m41), (42, c42 m42)], Kw := kwOf [], lv := fun i => [], xv := fun i => none }
theorem i13 (m39 : Int → Option Bool) (m40 : Int → Option Bool) (m41 : Int → Option Bool) (m42 : (Int × Int × Int × Int × Int × Int) → Option Int) (L : Nat) (a0_0 : Int) (a0_1 : Int) (a0_2 : Int) (a0_3 : Int) (a0_4 : Int) (a0_5 : Int) (a0_6 : Int) (a0_7 : Int) (a0_8 : Int) : evF prog (ev13 m39 m40 m41 m42) (loopN L) f13 (a13.enc (a0_0, a0_1, a0_2, a0_3, a0_4, a0_5, a0_6, a0_7, a0_8)) =
  tst (m39 a0_0) false fun (q1 : Bool) => bif (!q1) then some (n13 (3 : Int))
    else tst (m40 a0_1) false fun (q2 : Bool) => bif (!q2) then some (n13 (3 : Int))
      else tst (m41 a0_2) false fun (q3 : Bool) => bif (!q3) then some (n13 (3 : Int))
        else bif (!((a0_1 == (0 : Int)) == (a0_2 == (0 : Int)))) then some (n13 (1 : Int))
        else bif (a0_1 != (0 : Int)) then tst (m42 (a0_3, (a0_4, (a0_5, (a0_6, (a0_7, a0_8)))))) (0 : Int) fun (q5 : Int) => some (n13 q5)
        else bif (!((((((a0_3 == (0 : Int)) && (a0_4 == (0 : Int))) && (a0_5 == (0 : Int))) && (a0_6 == (0 : Int))) && (a0_7 == (0 : Int))) && (a0_8 == (0 : Int)))) then some (n13 (1 : Int))
        else some (n13 (0 : Int)) := by kernel_rfl
def g13 (m39 : Int → Option Bool) (m40 : Int → Option Bool) (m41 : Int → Option Bool) (m42 : (Int × Int × Int × Int × Int × Int) → Option Int) (L : Nat) (a0_0 : Int) (a0_1 : Int) (a0_2 : Int) (a0_3 : Int) (a0_4 : Int) (a0_5 : Int) (a0_6 : Int) (a0_7 : Int) (a0_8 : Int) : Option Int :=
  tst (m39 a0_0) false fun (q1 : Bool) => bif (!q1) then some (3 : Int)
    else tst (m40 a0_1) false fun (q2 : Bool) => bif (!q2) then some (3 : Int)
      else tst (m41 a0_2) false fun (q3 : Bool) => bif (!q3) then some (3 : Int)
        else bif (!((a0_1 == (0 : Int)) == (a0_2 == (0 : Int)))) then some (1 : Int)
        else bif (a0_1 != (0 : Int)) then tst (m42 (a0_3, (a0_4, (a0_5, (a0_6, (a0_7, a0_8)))))) (0 : Int) fun (q5 : Int) => some q5
        else bif (!((((((a0_3 == (0 : Int)) && (a0_4 == (0 : Int))) && (a0_5 == (0 : Int))) && (a0_6 == (0 : Int))) && (a0_7 == (0 : Int))) && (a0_8 == (0 : Int)))) then some (1 : Int)
        else some (0 : Int)
theorem e13 (m39 : Int → Option Bool) (m40 : Int → Option Bool) (m41 : Int → Option Bool) (m42 : (Int × Int × Int × Int × Int × Int) → Option Int) (L : Nat) (a0_0 : Int) (a0_1 : Int) (a0_2 : Int) (a0_3 : Int) (a0_4 : Int) (a0_5 : Int) (a0_6 : Int) (a0_7 : Int) (a0_8 : Int) : evF prog (ev13 m39 m40 m41 m42) (loopN L) f13 (a13.enc (a0_0, a0_1, a0_2, a0_3, a0_4, a0_5, a0_6, a0_7, a0_8)) = (g13 m39 m40 m41 m42 L a0_0 a0_1 a0_2 a0_3 a0_4 a0_5 a0_6 a0_7 a0_8).map n13 := by
  rw [i13]; simp only [g13, map_bif, map_tst, map_bnd, Option.map_some, Option.map_none]
theorem s13 (m39 : Int → Option Bool) (m40 : Int → Option Bool) (m41 : Int → Option Bool) (m42 : (Int × Int × Int × Int × Int × Int) → Option Int) (h39 : Sat prog cxT 39 (c39 m39)) (h40 : Sat prog cxT 40 (c40 m40)) (h41 : Sat prog cxT 41 (c41 m41)) (h42 : Sat prog cxT 42 (c42 m42)) (m : (Int × Int × Int × Int × Int × Int × Int × Int × Int) → Option Int) (hm : ∀ (x : (Int × Int × Int × Int × Int × Int × Int × Int × Int)) t, m x = some t → ∃ L, g13 m39 m40 m41 m42 L x.1 x.2.1 x.2.2.1 x.2.2.2.1 x.2.2.2.2.1 x.2.2.2.2.2.1 x.2.2.2.2.2.2.1 x.2.2.2.2.2.2.2.1 x.2.2.2.2.2.2.2.2 = some t) : Sat prog cxT 13 (c13 m) :=
  sat_t cxT_ok cxT_pok (by rfl) (fn := f13) rfl a13 n13 dd13 m (ev13 m39 m40 m41 m42) (kok_cons h39 (kok_cons h40 (kok_cons h41 (kok_cons h42 kok_nil)))) kwok_nil (fun L x => g13 m39 m40 m41 m42 L x.1 x.2.1 x.2.2.1 x.2.2.2.1 x.2.2.2.2.1 x.2.2.2.2.2.1 x.2.2.2.2.2.2.1 x.2.2.2.2.2.2.2.1 x.2.2.2.2.2.2.2.2) (fun L x => e13 m39 m40 m41 m42 L x.1 x.2.1 x.2.2.1 x.2.2.2.1 x.2.2.2.2.1 x.2.2.2.2.2.1 x.2.2.2.2.2.2.1 x.2.2.2.2.2.2.2.1 x.2.2.2.2.2.2.2.2) hm hs13
/-! loop.example/g00222/laws.szEntryS -/
/-! loop.example/g00222/laws.toEntryS -/
/-! loop.example/g00222/laws.eqEntryS -/
/-! (loop.example/g00222/impl.indexed[loop.example/g00222/impl.Entry]).behind -/
end Go.Proofs.Try
