/- A part of the proof of FnExactLogFault: L7Fa, L7Fb. -/
import Derived.Test.YtdiobngppgokmaaL7Base
set_option maxHeartbeats 0
set_option maxRecDepth 100000
set_option linter.unusedVariables false
set_option linter.unusedSimpArgs false
namespace Go.Proofs.Try
open Go Go.VM Go.RowKit
/-! loop.example/g00222/spec.l1In -/
def ev36 : Env cxT := { Kc := kcOf [], Kw := kwOf [], lv := fun i => [], xv := fun i => none }
theorem i36 (L : Nat) (a0 : Int) (a1 : Int) (a2 : Int) : evF prog ev36 (loopN L) f36 (a36.enc (a0, a1, a2)) =
  bif (decide (a0 ≥ a1)) then some (n36 (decide (a0 ≤ a2)))
  else some (n36 Bool.false) := by kernel_rfl
def g36 (L : Nat) (a0 : Int) (a1 : Int) (a2 : Int) : Option Bool :=
  bif (decide (a0 ≥ a1)) then some (decide (a0 ≤ a2))
  else some Bool.false
theorem e36 (L : Nat) (a0 : Int) (a1 : Int) (a2 : Int) : evF prog ev36 (loopN L) f36 (a36.enc (a0, a1, a2)) = (g36 L a0 a1 a2).map n36 := by
  rw [i36]; simp only [g36, map_bif, map_tst, map_bnd, Option.map_some, Option.map_none]
theorem s36 (m : (Int × Int × Int) → Option Bool) (hm : ∀ (x : (Int × Int × Int)) t, m x = some t → ∃ L, g36 L x.1 x.2.1 x.2.2 = some t) : Sat prog cxT 36 (c36 m) :=
  sat_t cxT_ok cxT_pok (by rfl) (fn := f36) rfl a36 n36 dd36 m ev36 kok_nil kwok_nil (fun L x => g36 L x.1 x.2.1 x.2.2) (fun L x => e36 L x.1 x.2.1 x.2.2) hm hs36
/-! loop.example/g00222/laws.toCmd -/
def ev38 : Env cxT := { Kc := kcOf [], Kw := kwOf [], lv := fun i => [], xv := fun i => none }
theorem i38 (L : Nat) (a0_0 : Int) (a0_1 : Int) (a0_2 : Int) (a0_3 : Int) (a0_4 : Int) (a0_5 : Int) : evF prog ev38 (loopN L) f38 (a38.enc (a0_0, a0_1, a0_2, a0_3, a0_4, a0_5)) =
  some (n38 (a0_0, a0_1, a0_2, a0_3, a0_4, a0_5)) := by kernel_rfl
def g38 (L : Nat) (a0_0 : Int) (a0_1 : Int) (a0_2 : Int) (a0_3 : Int) (a0_4 : Int) (a0_5 : Int) : Option (Int × Int × Int × Int × Int × Int) :=
  some (a0_0, a0_1, a0_2, a0_3, a0_4, a0_5)
theorem e38 (L : Nat) (a0_0 : Int) (a0_1 : Int) (a0_2 : Int) (a0_3 : Int) (a0_4 : Int) (a0_5 : Int) : evF prog ev38 (loopN L) f38 (a38.enc (a0_0, a0_1, a0_2, a0_3, a0_4, a0_5)) = (g38 L a0_0 a0_1 a0_2 a0_3 a0_4 a0_5).map n38 := by
  rw [i38]; simp only [g38, map_bif, map_tst, map_bnd, Option.map_some, Option.map_none]
theorem s38 (m : (Int × Int × Int × Int × Int × Int) → Option (Int × Int × Int × Int × Int × Int)) (hm : ∀ (x : (Int × Int × Int × Int × Int × Int)) t, m x = some t → ∃ L, g38 L x.1 x.2.1 x.2.2.1 x.2.2.2.1 x.2.2.2.2.1 x.2.2.2.2.2 = some t) : Sat prog cxT 38 (c38 m) :=
  sat_t cxT_ok cxT_pok (by rfl) (fn := f38) rfl a38 n38 dd38 m ev38 kok_nil kwok_nil (fun L x => g38 L x.1 x.2.1 x.2.2.1 x.2.2.2.1 x.2.2.2.2.1 x.2.2.2.2.2) (fun L x => e38 L x.1 x.2.1 x.2.2.1 x.2.2.2.1 x.2.2.2.2.1 x.2.2.2.2.2) hm hs38
/-! loop.example/g00222/impl.isTerm -/
def ev39 : Env cxT := { Kc := kcOf [], Kw := kwOf [], lv := fun i => [], xv := fun i => none }
theorem i39 (L : Nat) (a0 : Int) : evF prog ev39 (loopN L) f39 (a39.enc a0) =
  bif (decide (a0 ≥ (1 : Int))) then some (n39 (decide (a0 ≤ (100000 : Int))))
  else some (n39 Bool.false) := by kernel_rfl
def g39 (L : Nat) (a0 : Int) : Option Bool :=
  bif (decide (a0 ≥ (1 : Int))) then some (decide (a0 ≤ (100000 : Int)))
  else some Bool.false
theorem e39 (L : Nat) (a0 : Int) : evF prog ev39 (loopN L) f39 (a39.enc a0) = (g39 L a0).map n39 := by
  rw [i39]; simp only [g39, map_bif, map_tst, map_bnd, Option.map_some, Option.map_none]
theorem s39 (m : Int → Option Bool) (hm : ∀ (x : Int) t, m x = some t → ∃ L, g39 L x = some t) : Sat prog cxT 39 (c39 m) :=
  sat_t cxT_ok cxT_pok (by rfl) (fn := f39) rfl a39 n39 dd39 m ev39 kok_nil kwok_nil (fun L x => g39 L x) (fun L x => e39 L x) hm hs39
/-! loop.example/g00222/impl.isClient -/
def ev40 : Env cxT := { Kc := kcOf [], Kw := kwOf [], lv := fun i => [], xv := fun i => none }
theorem i40 (L : Nat) (a0 : Int) : evF prog ev40 (loopN L) f40 (a40.enc a0) =
  bif (decide (a0 ≥ (0 : Int))) then some (n40 (decide (a0 ≤ (999 : Int))))
  else some (n40 Bool.false) := by kernel_rfl
def g40 (L : Nat) (a0 : Int) : Option Bool :=
  bif (decide (a0 ≥ (0 : Int))) then some (decide (a0 ≤ (999 : Int)))
  else some Bool.false
theorem e40 (L : Nat) (a0 : Int) : evF prog ev40 (loopN L) f40 (a40.enc a0) = (g40 L a0).map n40 := by
  rw [i40]; simp only [g40, map_bif, map_tst, map_bnd, Option.map_some, Option.map_none]
theorem s40 (m : Int → Option Bool) (hm : ∀ (x : Int) t, m x = some t → ∃ L, g40 L x = some t) : Sat prog cxT 40 (c40 m) :=
  sat_t cxT_ok cxT_pok (by rfl) (fn := f40) rfl a40 n40 dd40 m ev40 kok_nil kwok_nil (fun L x => g40 L x) (fun L x => e40 L x) hm hs40
/-! loop.example/g00222/impl.isSeq -/
def ev41 : Env cxT := { Kc := kcOf [], Kw := kwOf [], lv := fun i => [], xv := fun i => none }
theorem i41 (L : Nat) (a0 : Int) : evF prog ev41 (loopN L) f41 (a41.enc a0) =
  bif (decide (a0 ≥ (0 : Int))) then some (n41 (decide (a0 ≤ (1000000 : Int))))
  else some (n41 Bool.false) := by kernel_rfl
def g41 (L : Nat) (a0 : Int) : Option Bool :=
  bif (decide (a0 ≥ (0 : Int))) then some (decide (a0 ≤ (1000000 : Int)))
  else some Bool.false
theorem e41 (L : Nat) (a0 : Int) : evF prog ev41 (loopN L) f41 (a41.enc a0) = (g41 L a0).map n41 := by
  rw [i41]; simp only [g41, map_bif, map_tst, map_bnd, Option.map_some, Option.map_none]
theorem s41 (m : Int → Option Bool) (hm : ∀ (x : Int) t, m x = some t → ∃ L, g41 L x = some t) : Sat prog cxT 41 (c41 m) :=
  sat_t cxT_ok cxT_pok (by rfl) (fn := f41) rfl a41 n41 dd41 m ev41 kok_nil kwok_nil (fun L x => g41 L x) (fun L x => e41 L x) hm hs41
/-! loop.example/g00222/laws.eqCmd -/
def ev45 : Env cxT := { Kc := kcOf [], Kw := kwOf [], lv := fun i => [], xv := fun i => none }
theorem i45 (L : Nat) (a0_0 : Int) (a0_1 : Int) (a0_2 : Int) (a0_3 : Int) (a0_4 : Int) (a0_5 : Int) (a1_0 : Int) (a1_1 : Int) (a1_2 : Int) (a1_3 : Int) (a1_4 : Int) (a1_5 : Int) : evF prog ev45 (loopN L) f45 (a45.enc ((a0_0, a0_1, a0_2, a0_3, a0_4, a0_5), (a1_0, a1_1, a1_2, a1_3, a1_4, a1_5))) =
  bif (a0_0 != a1_0) then some (n45 Bool.false)
  else bif (a0_1 != a1_1) then some (n45 Bool.false)
  else bif (a0_2 != a1_2) then some (n45 Bool.false)
  else bif (a0_3 != a1_3) then some (n45 Bool.false)
  else bif (a0_4 != a1_4) then some (n45 Bool.false)
  else bif (a0_5 != a1_5) then some (n45 Bool.false)
  else some (n45 Bool.true) := by kernel_rfl
def g45 (L : Nat) (a0_0 : Int) (a0_1 : Int) (a0_2 : Int) (a0_3 : Int) (a0_4 : Int) (a0_5 : Int) (a1_0 : Int) (a1_1 : Int) (a1_2 : Int) (a1_3 : Int) (a1_4 : Int) (a1_5 : Int) : Option Bool :=
  bif (a0_0 != a1_0) then some Bool.false
  else bif (a0_1 != a1_1) then some Bool.false
  else bif (a0_2 != a1_2) then some Bool.false
  else bif (a0_3 != a1_3) then some Bool.false
  else bif (a0_4 != a1_4) then some Bool.false
  else bif (a0_5 != a1_5) then some Bool.false
  else some Bool.true
theorem e45 (L : Nat) (a0_0 : Int) (a0_1 : Int) (a0_2 : Int) (a0_3 : Int) (a0_4 : Int) (a0_5 : Int) (a1_0 : Int) (a1_1 : Int) (a1_2 : Int) (a1_3 : Int) (a1_4 : Int) (a1_5 : Int) : evF prog ev45 (loopN L) f45 (a45.enc ((a0_0, a0_1, a0_2, a0_3, a0_4, a0_5), (a1_0, a1_1, a1_2, a1_3, a1_4, a1_5))) = (g45 L a0_0 a0_1 a0_2 a0_3 a0_4 a0_5 a1_0 a1_1 a1_2 a1_3 a1_4 a1_5).map n45 := by
  rw [i45]; simp only [g45, map_bif, map_tst, map_bnd, Option.map_some, Option.map_none]
theorem s45 (m : ((Int × Int × Int × Int × Int × Int) × (Int × Int × Int × Int × Int × Int)) → Option Bool) (hm : ∀ (x : ((Int × Int × Int × Int × Int × Int) × (Int × Int × Int × Int × Int × Int))) t, m x = some t → ∃ L, g45 L x.1.1 x.1.2.1 x.1.2.2.1 x.1.2.2.2.1 x.1.2.2.2.2.1 x.1.2.2.2.2.2 x.2.1 x.2.2.1 x.2.2.2.1 x.2.2.2.2.1 x.2.2.2.2.2.1 x.2.2.2.2.2.2 = some t) : Sat prog cxT 45 (c45 m) :=
  sat_t cxT_ok cxT_pok (by rfl) (fn := f45) rfl a45 n45 dd45 m ev45 kok_nil kwok_nil (fun L x => g45 L x.1.1 x.1.2.1 x.1.2.2.1 x.1.2.2.2.1 x.1.2.2.2.2.1 x.1.2.2.2.2.2 x.2.1 x.2.2.1 x.2.2.2.1 x.2.2.2.2.1 x.2.2.2.2.2.1 x.2.2.2.2.2.2) (fun L x => e45 L x.1.1 x.1.2.1 x.1.2.2.1 x.1.2.2.2.1 x.1.2.2.2.2.1 x.1.2.2.2.2.2 x.2.1 x.2.2.1 x.2.2.2.1 x.2.2.2.2.1 x.2.2.2.2.2.1 x.2.2.2.2.2.2) hm hs45
/-! loop.example/g00222/impl.isSameEntry -/
/-! loop.example/g00222/spec.l5Needs -/
def ev53 (m36 : (Int × Int × Int) → Option Bool) : Env cxT := { Kc := kcOf [(36, c36 m36)], Kw := kwOf [], lv := fun i => [], xv := fun i => none }
theorem i53 (m36 : (Int × Int × Int) → Option Bool) (L : Nat) (a0 : Int) : evF prog (ev53 m36) (loopN L) f53 (a53.enc a0) =
  tst (m36 (a0, ((5 : Int), (8 : Int)))) false fun (q1 : Bool) => bif (a0 != (5 : Int)) then bif (a0 == (1 : Int)) then some (n53 ((a0 != (6 : Int)), Bool.true, (a0 != (4 : Int)), q1))
      else some (n53 ((a0 != (6 : Int)), q1, (a0 != (4 : Int)), q1))
    else bif (a0 == (1 : Int)) then some (n53 (Bool.false, Bool.true, (a0 != (4 : Int)), q1))
    else some (n53 (Bool.false, q1, (a0 != (4 : Int)), q1)) := by kernel_rfl
def g53 (m36 : (Int × Int × Int) → Option Bool) (L : Nat) (a0 : Int) : Option (Bool × Bool × Bool × Bool) :=
  tst (m36 (a0, ((5 : Int), (8 : Int)))) false fun (q1 : Bool) => bif (a0 != (5 : Int)) then bif (a0 == (1 : Int)) then some ((a0 != (6 : Int)), Bool.true, (a0 != (4 : Int)), q1)
      else some ((a0 != (6 : Int)), q1, (a0 != (4 : Int)), q1)
    else bif (a0 == (1 : Int)) then some (Bool.false, Bool.true, (a0 != (4 : Int)), q1)
    else some (Bool.false, q1, (a0 != (4 : Int)), q1)
theorem e53 (m36 : (Int × Int × Int) → Option Bool) (L : Nat) (a0 : Int) : evF prog (ev53 m36) (loopN L) f53 (a53.enc a0) = (g53 m36 L a0).map n53 := by
  rw [i53]; simp only [g53, map_bif, map_tst, map_bnd, Option.map_some, Option.map_none]
theorem s53 (m36 : (Int × Int × Int) → Option Bool) (h36 : Sat prog cxT 36 (c36 m36)) (m : Int → Option (Bool × Bool × Bool × Bool)) (hm : ∀ (x : Int) t, m x = some t → ∃ L, g53 m36 L x = some t) : Sat prog cxT 53 (c53 m) :=
  sat_t cxT_ok cxT_pok (by rfl) (fn := f53) rfl a53 n53 dd53 m (ev53 m36) (kok_cons h36 kok_nil) kwok_nil (fun L x => g53 m36 L x) (fun L x => e53 m36 L x) hm hs53
/-! loop.example/g00222/spec.l5Version -/
def ev54 (m36 : (Int × Int × Int) → Option Bool) : Env cxT := { Kc := kcOf [(36, c36 m36)], Kw := kwOf [], lv := fun i => [], xv := fun i => none }
theorem i54 (m36 : (Int × Int × Int) → Option Bool) (L : Nat) (a0 : Int) : evF prog (ev54 m36) (loopN L) f54 (a54.enc a0) =
  tst (m36 (a0, ((0 : Int), (1000000 : Int)))) false fun (q1 : Bool) => some (n54 q1) := by kernel_rfl
def g54 (m36 : (Int × Int × Int) → Option Bool) (L : Nat) (a0 : Int) : Option Bool :=
  tst (m36 (a0, ((0 : Int), (1000000 : Int)))) false fun (q1 : Bool) => some q1
theorem e54 (m36 : (Int × Int × Int) → Option Bool) (L : Nat) (a0 : Int) : evF prog (ev54 m36) (loopN L) f54 (a54.enc a0) = (g54 m36 L a0).map n54 := by
  rw [i54]; simp only [g54, map_bif, map_tst, map_bnd, Option.map_some, Option.map_none]
theorem s54 (m36 : (Int × Int × Int) → Option Bool) (h36 : Sat prog cxT 36 (c36 m36)) (m : Int → Option Bool) (hm : ∀ (x : Int) t, m x = some t → ∃ L, g54 m36 L x = some t) : Sat prog cxT 54 (c54 m) :=
  sat_t cxT_ok cxT_pok (by rfl) (fn := f54) rfl a54 n54 dd54 m (ev54 m36) (kok_cons h36 kok_nil) kwok_nil (fun L x => g54 m36 L x) (fun L x => e54 m36 L x) hm hs54
/-! loop.example/g00222/spec.l3Name -/
def ev55 (m36 : (Int × Int × Int) → Option Bool) : Env cxT := { Kc := kcOf [(36, c36 m36)], Kw := kwOf [], lv := fun i => [], xv := fun i => none }
theorem i55 (m36 : (Int × Int × Int) → Option Bool) (L : Nat) (a0 : Int) : evF prog (ev55 m36) (loopN L) f55 (a55.enc a0) =
  tst (m36 (a0, ((1 : Int), (999 : Int)))) false fun (q1 : Bool) => some (n55 q1) := by kernel_rfl
def g55 (m36 : (Int × Int × Int) → Option Bool) (L : Nat) (a0 : Int) : Option Bool :=
  tst (m36 (a0, ((1 : Int), (999 : Int)))) false fun (q1 : Bool) => some q1
theorem e55 (m36 : (Int × Int × Int) → Option Bool) (L : Nat) (a0 : Int) : evF prog (ev55 m36) (loopN L) f55 (a55.enc a0) = (g55 m36 L a0).map n55 := by
  rw [i55]; simp only [g55, map_bif, map_tst, map_bnd, Option.map_some, Option.map_none]
theorem s55 (m36 : (Int × Int × Int) → Option Bool) (h36 : Sat prog cxT 36 (c36 m36)) (m : Int → Option Bool) (hm : ∀ (x : Int) t, m x = some t → ∃ L, g55 m36 L x = some t) : Sat prog cxT 55 (c55 m) :=
  sat_t cxT_ok cxT_pok (by rfl) (fn := f55) rfl a55 n55 dd55 m (ev55 m36) (kok_cons h36 kok_nil) kwok_nil (fun L x => g55 m36 L x) (fun L x => e55 m36 L x) hm hs55
/-! loop.example/g00222/spec.l2Address -/
def ev56 (m36 : (Int × Int × Int) → Option Bool) : Env cxT := { Kc := kcOf [(36, c36 m36)], Kw := kwOf [], lv := fun i => [], xv := fun i => none }
theorem i56 (m36 : (Int × Int × Int) → Option Bool) (L : Nat) (a0 : Int) : evF prog (ev56 m36) (loopN L) f56 (a56.enc a0) =
  tst (m36 (a0, ((0 : Int), (4294967295 : Int)))) false fun (q1 : Bool) => some (n56 q1) := by kernel_rfl
def g56 (m36 : (Int × Int × Int) → Option Bool) (L : Nat) (a0 : Int) : Option Bool :=
  tst (m36 (a0, ((0 : Int), (4294967295 : Int)))) false fun (q1 : Bool) => some q1
theorem e56 (m36 : (Int × Int × Int) → Option Bool) (L : Nat) (a0 : Int) : evF prog (ev56 m36) (loopN L) f56 (a56.enc a0) = (g56 m36 L a0).map n56 := by
  rw [i56]; simp only [g56, map_bif, map_tst, map_bnd, Option.map_some, Option.map_none]
theorem s56 (m36 : (Int × Int × Int) → Option Bool) (h36 : Sat prog cxT 36 (c36 m36)) (m : Int → Option Bool) (hm : ∀ (x : Int) t, m x = some t → ∃ L, g56 m36 L x = some t) : Sat prog cxT 56 (c56 m) :=
  sat_t cxT_ok cxT_pok (by rfl) (fn := f56) rfl a56 n56 dd56 m (ev56 m36) (kok_cons h36 kok_nil) kwok_nil (fun L x => g56 m36 L x) (fun L x => e56 m36 L x) hm hs56
/-! loop.example/g00222/spec.l5Number -/
def ev57 (m36 : (Int × Int × Int) → Option Bool) (m65 : Int → Option Bool) : Env cxT := { Kc := kcOf [(36, c36 m36), (65, c65 m65)], Kw := kwOf [], lv := fun i => [], xv := fun i => none }
theorem i57 (m36 : (Int × Int × Int) → Option Bool) (m65 : Int → Option Bool) (L : Nat) (a0_0 : Int) (a0_1 : Int) (a0_2 : Int) (a0_3 : Int) (a0_4 : Int) (a0_5 : Int) : evF prog (ev57 m36 m65) (loopN L) f57 (a57.enc (a0_0, a0_1, a0_2, a0_3, a0_4, a0_5)) =
  bif (a0_0 == (1 : Int)) then tst (m36 (a0_4, ((0 : Int), (9 : Int)))) false fun (q2 : Bool) => some (n57 q2)
  else bif (a0_0 == (2 : Int)) then tst (m36 (a0_4, ((0 : Int), (9 : Int)))) false fun (q2 : Bool) => some (n57 q2)
  else bif (a0_0 == (3 : Int)) then tst (m36 (a0_4, ((1 : Int), (3 : Int)))) false fun (q2 : Bool) => some (n57 q2)
  else bif (a0_0 == (9 : Int)) then tst (m36 (a0_4, ((0 : Int), (1 : Int)))) false fun (q2 : Bool) => some (n57 q2)
  else tst (m65 a0_4) false fun (q1 : Bool) => some (n57 q1) := by kernel_rfl
def g57 (m36 : (Int × Int × Int) → Option Bool) (m65 : Int → Option Bool) (L : Nat) (a0_0 : Int) (a0_1 : Int) (a0_2 : Int) (a0_3 : Int) (a0_4 : Int) (a0_5 : Int) : Option Bool :=
  bif (a0_0 == (1 : Int)) then tst (m36 (a0_4, ((0 : Int), (9 : Int)))) false fun (q2 : Bool) => some q2
  else bif (a0_0 == (2 : Int)) then tst (m36 (a0_4, ((0 : Int), (9 : Int)))) false fun (q2 : Bool) => some q2
  else bif (a0_0 == (3 : Int)) then tst (m36 (a0_4, ((1 : Int), (3 : Int)))) false fun (q2 : Bool) => some q2
  else bif (a0_0 == (9 : Int)) then tst (m36 (a0_4, ((0 : Int), (1 : Int)))) false fun (q2 : Bool) => some q2
  else tst (m65 a0_4) false fun (q1 : Bool) => some q1
theorem e57 (m36 : (Int × Int × Int) → Option Bool) (m65 : Int → Option Bool) (L : Nat) (a0_0 : Int) (a0_1 : Int) (a0_2 : Int) (a0_3 : Int) (a0_4 : Int) (a0_5 : Int) : evF prog (ev57 m36 m65) (loopN L) f57 (a57.enc (a0_0, a0_1, a0_2, a0_3, a0_4, a0_5)) = (g57 m36 m65 L a0_0 a0_1 a0_2 a0_3 a0_4 a0_5).map n57 := by
  rw [i57]; simp only [g57, map_bif, map_tst, map_bnd, Option.map_some, Option.map_none]
theorem s57 (m36 : (Int × Int × Int) → Option Bool) (m65 : Int → Option Bool) (h36 : Sat prog cxT 36 (c36 m36)) (h65 : Sat prog cxT 65 (c65 m65)) (m : (Int × Int × Int × Int × Int × Int) → Option Bool) (hm : ∀ (x : (Int × Int × Int × Int × Int × Int)) t, m x = some t → ∃ L, g57 m36 m65 L x.1 x.2.1 x.2.2.1 x.2.2.2.1 x.2.2.2.2.1 x.2.2.2.2.2 = some t) : Sat prog cxT 57 (c57 m) :=
  sat_t cxT_ok cxT_pok (by rfl) (fn := f57) rfl a57 n57 dd57 m (ev57 m36 m65) (kok_cons h36 (kok_cons h65 kok_nil)) kwok_nil (fun L x => g57 m36 m65 L x.1 x.2.1 x.2.2.1 x.2.2.2.1 x.2.2.2.2.1 x.2.2.2.2.2) (fun L x => e57 m36 m65 L x.1 x.2.1 x.2.2.1 x.2.2.2.1 x.2.2.2.2.1 x.2.2.2.2.2) hm hs57
/-! loop.example/g00222/spec.l5Proto -/
def ev58 : Env cxT := { Kc := kcOf [], Kw := kwOf [], lv := fun i => [], xv := fun i => none }
theorem i58 (L : Nat) (a0 : Int) : evF prog ev58 (loopN L) f58 (a58.enc a0) =
  bif (a0 == (6 : Int)) then some (n58 Bool.true)
  else some (n58 (a0 == (17 : Int))) := by kernel_rfl
def g58 (L : Nat) (a0 : Int) : Option Bool :=
  bif (a0 == (6 : Int)) then some Bool.true
  else some (a0 == (17 : Int))
theorem e58 (L : Nat) (a0 : Int) : evF prog ev58 (loopN L) f58 (a58.enc a0) = (g58 L a0).map n58 := by
  rw [i58]; simp only [g58, map_bif, map_tst, map_bnd, Option.map_some, Option.map_none]
theorem s58 (m : Int → Option Bool) (hm : ∀ (x : Int) t, m x = some t → ∃ L, g58 L x = some t) : Sat prog cxT 58 (c58 m) :=
  sat_t cxT_ok cxT_pok (by rfl) (fn := f58) rfl a58 n58 dd58 m ev58 kok_nil kwok_nil (fun L x => g58 L x) (fun L x => e58 L x) hm hs58
/-! loop.example/g00222/impl.isVersion -/
def ev59 : Env cxT := { Kc := kcOf [], Kw := kwOf [], lv := fun i => [], xv := fun i => none }
theorem i59 (L : Nat) (a0 : Int) : evF prog ev59 (loopN L) f59 (a59.enc a0) =
  bif (decide (a0 ≥ (0 : Int))) then some (n59 (decide (a0 ≤ (1000000 : Int))))
  else some (n59 Bool.false) := by kernel_rfl
def g59 (L : Nat) (a0 : Int) : Option Bool :=
  bif (decide (a0 ≥ (0 : Int))) then some (decide (a0 ≤ (1000000 : Int)))
  else some Bool.false
theorem e59 (L : Nat) (a0 : Int) : evF prog ev59 (loopN L) f59 (a59.enc a0) = (g59 L a0).map n59 := by
  rw [i59]; simp only [g59, map_bif, map_tst, map_bnd, Option.map_some, Option.map_none]
theorem s59 (m : Int → Option Bool) (hm : ∀ (x : Int) t, m x = some t → ∃ L, g59 L x = some t) : Sat prog cxT 59 (c59 m) :=
  sat_t cxT_ok cxT_pok (by rfl) (fn := f59) rfl a59 n59 dd59 m ev59 kok_nil kwok_nil (fun L x => g59 L x) (fun L x => e59 L x) hm hs59
/-! loop.example/g00222/impl.isSameTerm -/
/-! loop.example/g00222/spec.l2Port -/
def ev65 (m36 : (Int × Int × Int) → Option Bool) : Env cxT := { Kc := kcOf [(36, c36 m36)], Kw := kwOf [], lv := fun i => [], xv := fun i => none }
theorem i65 (m36 : (Int × Int × Int) → Option Bool) (L : Nat) (a0 : Int) : evF prog (ev65 m36) (loopN L) f65 (a65.enc a0) =
  tst (m36 (a0, ((0 : Int), (65535 : Int)))) false fun (q1 : Bool) => some (n65 q1) := by kernel_rfl
def g65 (m36 : (Int × Int × Int) → Option Bool) (L : Nat) (a0 : Int) : Option Bool :=
  tst (m36 (a0, ((0 : Int), (65535 : Int)))) false fun (q1 : Bool) => some q1
theorem e65 (m36 : (Int × Int × Int) → Option Bool) (L : Nat) (a0 : Int) : evF prog (ev65 m36) (loopN L) f65 (a65.enc a0) = (g65 m36 L a0).map n65 := by
  rw [i65]; simp only [g65, map_bif, map_tst, map_bnd, Option.map_some, Option.map_none]
theorem s65 (m36 : (Int × Int × Int) → Option Bool) (h36 : Sat prog cxT 36 (c36 m36)) (m : Int → Option Bool) (hm : ∀ (x : Int) t, m x = some t → ∃ L, g65 m36 L x = some t) : Sat prog cxT 65 (c65 m) :=
  sat_t cxT_ok cxT_pok (by rfl) (fn := f65) rfl a65 n65 dd65 m (ev65 m36) (kok_cons h36 kok_nil) kwok_nil (fun L x => g65 m36 L x) (fun L x => e65 m36 L x) hm hs65
/-! loop.example/g00222/impl.isName -/
def ev66 : Env cxT := { Kc := kcOf [], Kw := kwOf [], lv := fun i => [], xv := fun i => none }
theorem i66 (L : Nat) (a0 : Int) : evF prog ev66 (loopN L) f66 (a66.enc a0) =
  bif (decide (a0 ≥ (1 : Int))) then some (n66 (decide (a0 ≤ (999 : Int))))
  else some (n66 Bool.false) := by kernel_rfl
def g66 (L : Nat) (a0 : Int) : Option Bool :=
  bif (decide (a0 ≥ (1 : Int))) then some (decide (a0 ≤ (999 : Int)))
  else some Bool.false
theorem e66 (L : Nat) (a0 : Int) : evF prog ev66 (loopN L) f66 (a66.enc a0) = (g66 L a0).map n66 := by
  rw [i66]; simp only [g66, map_bif, map_tst, map_bnd, Option.map_some, Option.map_none]
theorem s66 (m : Int → Option Bool) (hm : ∀ (x : Int) t, m x = some t → ∃ L, g66 L x = some t) : Sat prog cxT 66 (c66 m) :=
  sat_t cxT_ok cxT_pok (by rfl) (fn := f66) rfl a66 n66 dd66 m ev66 kok_nil kwok_nil (fun L x => g66 L x) (fun L x => e66 L x) hm hs66
/-! loop.example/g00222/impl.isAddress -/
def ev67 : Env cxT := { Kc := kcOf [], Kw := kwOf [], lv := fun i => [], xv := fun i => none }
theorem i67 (L : Nat) (a0 : Int) : evF prog ev67 (loopN L) f67 (a67.enc a0) =
  bif (decide (a0 ≥ (0 : Int))) then some (n67 (decide (a0 ≤ (4294967295 : Int))))
  else some (n67 Bool.false) := by kernel_rfl
def g67 (L : Nat) (a0 : Int) : Option Bool :=
  bif (decide (a0 ≥ (0 : Int))) then some (decide (a0 ≤ (4294967295 : Int)))
  else some Bool.false
theorem e67 (L : Nat) (a0 : Int) : evF prog ev67 (loopN L) f67 (a67.enc a0) = (g67 L a0).map n67 := by
  rw [i67]; simp only [g67, map_bif, map_tst, map_bnd, Option.map_some, Option.map_none]
theorem s67 (m : Int → Option Bool) (hm : ∀ (x : Int) t, m x = some t → ∃ L, g67 L x = some t) : Sat prog cxT 67 (c67 m) :=
  sat_t cxT_ok cxT_pok (by rfl) (fn := f67) rfl a67 n67 dd67 m ev67 kok_nil kwok_nil (fun L x => g67 L x) (fun L x => e67 L x) hm hs67
/-! loop.example/g00222/impl.isWeight -/
def ev68 : Env cxT := { Kc := kcOf [], Kw := kwOf [], lv := fun i => [], xv := fun i => none }
theorem i68 (L : Nat) (a0 : Int) : evF prog ev68 (loopN L) f68 (a68.enc a0) =
  bif (decide (a0 ≥ (0 : Int))) then some (n68 (decide (a0 ≤ (9 : Int))))
  else some (n68 Bool.false) := by kernel_rfl
def g68 (L : Nat) (a0 : Int) : Option Bool :=
  bif (decide (a0 ≥ (0 : Int))) then some (decide (a0 ≤ (9 : Int)))
  else some Bool.false
theorem e68 (L : Nat) (a0 : Int) : evF prog ev68 (loopN L) f68 (a68.enc a0) = (g68 L a0).map n68 := by
  rw [i68]; simp only [g68, map_bif, map_tst, map_bnd, Option.map_some, Option.map_none]
theorem s68 (m : Int → Option Bool) (hm : ∀ (x : Int) t, m x = some t → ∃ L, g68 L x = some t) : Sat prog cxT 68 (c68 m) :=
  sat_t cxT_ok cxT_pok (by rfl) (fn := f68) rfl a68 n68 dd68 m ev68 kok_nil kwok_nil (fun L x => g68 L x) (fun L x => e68 L x) hm hs68
/-! loop.example/g00222/impl.isStage -/
def ev71 : Env cxT := { Kc := kcOf [], Kw := kwOf [], lv := fun i => [], xv := fun i => none }
theorem i71 (L : Nat) (a0 : Int) : evF prog ev71 (loopN L) f71 (a71.enc a0) =
  bif (decide (a0 ≥ (1 : Int))) then some (n71 (decide (a0 ≤ (3 : Int))))
  else some (n71 Bool.false) := by kernel_rfl
def g71 (L : Nat) (a0 : Int) : Option Bool :=
  bif (decide (a0 ≥ (1 : Int))) then some (decide (a0 ≤ (3 : Int)))
  else some Bool.false
theorem e71 (L : Nat) (a0 : Int) : evF prog ev71 (loopN L) f71 (a71.enc a0) = (g71 L a0).map n71 := by
  rw [i71]; simp only [g71, map_bif, map_tst, map_bnd, Option.map_some, Option.map_none]
theorem s71 (m : Int → Option Bool) (hm : ∀ (x : Int) t, m x = some t → ∃ L, g71 L x = some t) : Sat prog cxT 71 (c71 m) :=
  sat_t cxT_ok cxT_pok (by rfl) (fn := f71) rfl a71 n71 dd71 m ev71 kok_nil kwok_nil (fun L x => g71 L x) (fun L x => e71 L x) hm hs71
/-! loop.example/g00222/impl.isPort -/
def ev74 : Env cxT := { Kc := kcOf [], Kw := kwOf [], lv := fun i => [], xv := fun i => none }
theorem i74 (L : Nat) (a0 : Int) : evF prog ev74 (loopN L) f74 (a74.enc a0) =
  bif (decide (a0 ≥ (0 : Int))) then some (n74 (decide (a0 ≤ (65535 : Int))))
  else some (n74 Bool.false) := by kernel_rfl
def g74 (L : Nat) (a0 : Int) : Option Bool :=
  bif (decide (a0 ≥ (0 : Int))) then some (decide (a0 ≤ (65535 : Int)))
  else some Bool.false
theorem e74 (L : Nat) (a0 : Int) : evF prog ev74 (loopN L) f74 (a74.enc a0) = (g74 L a0).map n74 := by
  rw [i74]; simp only [g74, map_bif, map_tst, map_bnd, Option.map_some, Option.map_none]
theorem s74 (m : Int → Option Bool) (hm : ∀ (x : Int) t, m x = some t → ∃ L, g74 L x = some t) : Sat prog cxT 74 (c74 m) :=
  sat_t cxT_ok cxT_pok (by rfl) (fn := f74) rfl a74 n74 dd74 m ev74 kok_nil kwok_nil (fun L x => g74 L x) (fun L x => e74 L x) hm hs74
/-! loop.example/g00222/impl.isProto -/
def ev75 : Env cxT := { Kc := kcOf [], Kw := kwOf [], lv := fun i => [], xv := fun i => none }
theorem i75 (L : Nat) (a0 : Int) : evF prog ev75 (loopN L) f75 (a75.enc a0) =
  bif (a0 == (6 : Int)) then some (n75 Bool.true)
  else some (n75 (a0 == (17 : Int))) := by kernel_rfl
def g75 (L : Nat) (a0 : Int) : Option Bool :=
  bif (a0 == (6 : Int)) then some Bool.true
  else some (a0 == (17 : Int))
theorem e75 (L : Nat) (a0 : Int) : evF prog ev75 (loopN L) f75 (a75.enc a0) = (g75 L a0).map n75 := by
  rw [i75]; simp only [g75, map_bif, map_tst, map_bnd, Option.map_some, Option.map_none]
theorem s75 (m : Int → Option Bool) (hm : ∀ (x : Int) t, m x = some t → ∃ L, g75 L x = some t) : Sat prog cxT 75 (c75 m) :=
  sat_t cxT_ok cxT_pok (by rfl) (fn := f75) rfl a75 n75 dd75 m ev75 kok_nil kwok_nil (fun L x => g75 L x) (fun L x => e75 L x) hm hs75
/-! loop.example/g00222/impl.isYesOrNo -/
def ev80 : Env cxT := { Kc := kcOf [], Kw := kwOf [], lv := fun i => [], xv := fun i => none }
theorem i80 (L : Nat) (a0 : Int) : evF prog ev80 (loopN L) f80 (a80.enc a0) =
  bif (a0 == (0 : Int)) then some (n80 Bool.true)
  else some (n80 (a0 == (1 : Int))) := by kernel_rfl
def g80 (L : Nat) (a0 : Int) : Option Bool :=
  bif (a0 == (0 : Int)) then some Bool.true
  else some (a0 == (1 : Int))
theorem e80 (L : Nat) (a0 : Int) : evF prog ev80 (loopN L) f80 (a80.enc a0) = (g80 L a0).map n80 := by
  rw [i80]; simp only [g80, map_bif, map_tst, map_bnd, Option.map_some, Option.map_none]
theorem s80 (m : Int → Option Bool) (hm : ∀ (x : Int) t, m x = some t → ∃ L, g80 L x = some t) : Sat prog cxT 80 (c80 m) :=
  sat_t cxT_ok cxT_pok (by rfl) (fn := f80) rfl a80 n80 dd80 m ev80 kok_nil kwok_nil (fun L x => g80 L x) (fun L x => e80 L x) hm hs80
/-! loop.example/g00222/laws.toEntry -/
def ev12 (m38 : (Int × Int × Int × Int × Int × Int) → Option (Int × Int × Int × Int × Int × Int)) : Env cxT := { Kc := kcOf [(38, c38 m38)], Kw := kwOf [], lv := fun i => [], xv := fun i => none }
theorem i12 (m38 : (Int × Int × Int × Int × Int × Int) → Option (Int × Int × Int × Int × Int × Int)) (L : Nat) (a0_0 : Int) (a0_1 : Int) (a0_2 : Int) (a0_3 : Int) (a0_4 : Int) (a0_5 : Int) (a0_6 : Int) (a0_7 : Int) (a0_8 : Int) : evF prog (ev12 m38) (loopN L) f12 (a12.enc (a0_0, a0_1, a0_2, a0_3, a0_4, a0_5, a0_6, a0_7, a0_8)) =
  tst (m38 (a0_3, (a0_4, (a0_5, (a0_6, (a0_7, a0_8)))))) ((0 : Int), (0 : Int), (0 : Int), (0 : Int), (0 : Int), (0 : Int)) fun (q1 : (Int × Int × Int × Int × Int × Int)) => some (n12 (a0_0, a0_1, a0_2, q1.1, q1.2.1, q1.2.2.1, q1.2.2.2.1, q1.2.2.2.2.1, q1.2.2.2.2.2)) := by kernel_rfl
def g12 (m38 : (Int × Int × Int × Int × Int × Int) → Option (Int × Int × Int × Int × Int × Int)) (L : Nat) (a0_0 : Int) (a0_1 : Int) (a0_2 : Int) (a0_3 : Int) (a0_4 : Int) (a0_5 : Int) (a0_6 : Int) (a0_7 : Int) (a0_8 : Int) : Option (Int × Int × Int × Int × Int × Int × Int × Int × Int) :=
  tst (m38 (a0_3, (a0_4, (a0_5, (a0_6, (a0_7, a0_8)))))) ((0 : Int), (0 : Int), (0 : Int), (0 : Int), (0 : Int), (0 : Int)) fun (q1 : (Int × Int × Int × Int × Int × Int)) => some (a0_0, a0_1, a0_2, q1.1, q1.2.1, q1.2.2.1, q1.2.2.2.1, q1.2.2.2.2.1, q1.2.2.2.2.2)
theorem e12 (m38 : (Int × Int × Int × Int × Int × Int) → Option (Int × Int × Int × Int × Int × Int)) (L : Nat) (a0_0 : Int) (a0_1 : Int) (a0_2 : Int) (a0_3 : Int) (a0_4 : Int) (a0_5 : Int) (a0_6 : Int) (a0_7 : Int) (a0_8 : Int) : evF prog (ev12 m38) (loopN L) f12 (a12.enc (a0_0, a0_1, a0_2, a0_3, a0_4, a0_5, a0_6, a0_7, a0_8)) = (g12 m38 L a0_0 a0_1 a0_2 a0_3 a0_4 a0_5 a0_6 a0_7 a0_8).map n12 := by
  rw [i12]; simp only [g12, map_bif, map_tst, map_bnd, Option.map_some, Option.map_none]
theorem s12 (m38 : (Int × Int × Int × Int × Int × Int) → Option (Int × Int × Int × Int × Int × Int)) (h38 : Sat prog cxT 38 (c38 m38)) (m : (Int × Int × Int × Int × Int × Int × Int × Int × Int) → Option (Int × Int × Int × Int × Int × Int × Int × Int × Int)) (hm : ∀ (x : (Int × Int × Int × Int × Int × Int × Int × Int × Int)) t, m x = some t → ∃ L, g12 m38 L x.1 x.2.1 x.2.2.1 x.2.2.2.1 x.2.2.2.2.1 x.2.2.2.2.2.1 x.2.2.2.2.2.2.1 x.2.2.2.2.2.2.2.1 x.2.2.2.2.2.2.2.2 = some t) : Sat prog cxT 12 (c12 m) :=
  sat_t cxT_ok cxT_pok (by rfl) (fn := f12) rfl a12 n12 dd12 m (ev12 m38) (kok_cons h38 kok_nil) kwok_nil (fun L x => g12 m38 L x.1 x.2.1 x.2.2.1 x.2.2.2.1 x.2.2.2.2.1 x.2.2.2.2.2.1 x.2.2.2.2.2.2.1 x.2.2.2.2.2.2.2.1 x.2.2.2.2.2.2.2.2) (fun L x => e12 m38 L x.1 x.2.1 x.2.2.1 x.2.2.2.1 x.2.2.2.2.1 x.2.2.2.2.2.1 x.2.2.2.2.2.2.1 x.2.2.2.2.2.2.2.1 x.2.2.2.2.2.2.2.2) hm hs12
/-! loop.example/g00222/laws.eqEntry -/
def ev21 (m45 : ((Int × Int × Int × Int × Int × Int) × (Int × Int × Int × Int × Int × Int)) → Option Bool) : Env cxT := { Kc := kcOf [(45, c45 m45)], Kw := kwOf [], lv := fun i => [], xv := fun i => none }
theorem i21 (m45 : ((Int × Int × Int × Int × Int × Int) × (Int × Int × Int × Int × Int × Int)) → Option Bool) (L : Nat) (a0_0 : Int) (a0_1 : Int) (a0_2 : Int) (a0_3 : Int) (a0_4 : Int) (a0_5 : Int) (a0_6 : Int) (a0_7 : Int) (a0_8 : Int) (a1_0 : Int) (a1_1 : Int) (a1_2 : Int) (a1_3 : Int) (a1_4 : Int) (a1_5 : Int) (a1_6 : Int) (a1_7 : Int) (a1_8 : Int) : evF prog (ev21 m45) (loopN L) f21 (a21.enc ((a0_0, a0_1, a0_2, a0_3, a0_4, a0_5, a0_6, a0_7, a0_8), (a1_0, a1_1, a1_2, a1_3, a1_4, a1_5, a1_6, a1_7, a1_8))) =
  bif (a0_0 != a1_0) then some (n21 Bool.false)
  else bif (a0_1 != a1_1) then some (n21 Bool.false)
  else bif (a0_2 != a1_2) then some (n21 Bool.false)
  else tst (m45 ((a0_3, (a0_4, (a0_5, (a0_6, (a0_7, a0_8))))), (a1_3, (a1_4, (a1_5, (a1_6, (a1_7, a1_8))))))) false fun (q1 : Bool) => bif (!q1) then some (n21 Bool.false)
    else some (n21 Bool.true) := by kernel_rfl
def g21 (m45 : ((Int × Int × Int × Int × Int × Int) × (Int × Int × Int × Int × Int × Int)) → Option Bool) (L : Nat) (a0_0 : Int) (a0_1 : Int) (a0_2 : Int) (a0_3 : Int) (a0_4 : Int) (a0_5 : Int) (a0_6 : Int) (a0_7 : Int) (a0_8 : Int) (a1_0 : Int) (a1_1 : Int) (a1_2 : Int) (a1_3 : Int) (a1_4 : Int) (a1_5 : Int) (a1_6 : Int) (a1_7 : Int) (a1_8 : Int) : Option Bool :=
  bif (a0_0 != a1_0) then some Bool.false
  else bif (a0_1 != a1_1) then some Bool.false
  else bif (a0_2 != a1_2) then some Bool.false
  else tst (m45 ((a0_3, (a0_4, (a0_5, (a0_6, (a0_7, a0_8))))), (a1_3, (a1_4, (a1_5, (a1_6, (a1_7, a1_8))))))) false fun (q1 : Bool) => bif (!q1) then some Bool.false
    else some Bool.true
theorem e21 (m45 : ((Int × Int × Int × Int × Int × Int) × (Int × Int × Int × Int × Int × Int)) → Option Bool) (L : Nat) (a0_0 : Int) (a0_1 : Int) (a0_2 : Int) (a0_3 : Int) (a0_4 : Int) (a0_5 : Int) (a0_6 : Int) (a0_7 : Int) (a0_8 : Int) (a1_0 : Int) (a1_1 : Int) (a1_2 : Int) (a1_3 : Int) (a1_4 : Int) (a1_5 : Int) (a1_6 : Int) (a1_7 : Int) (a1_8 : Int) : evF prog (ev21 m45) (loopN L) f21 (a21.enc ((a0_0, a0_1, a0_2, a0_3, a0_4, a0_5, a0_6, a0_7, a0_8), (a1_0, a1_1, a1_2, a1_3, a1_4, a1_5, a1_6, a1_7, a1_8))) = (g21 m45 L a0_0 a0_1 a0_2 a0_3 a0_4 a0_5 a0_6 a0_7 a0_8 a1_0 a1_1 a1_2 a1_3 a1_4 a1_5 a1_6 a1_7 a1_8).map n21 := by
  rw [i21]; simp only [g21, map_bif, map_tst, map_bnd, Option.map_some, Option.map_none]
theorem s21 (m45 : ((Int × Int × Int × Int × Int × Int) × (Int × Int × Int × Int × Int × Int)) → Option Bool) (h45 : Sat prog cxT 45 (c45 m45)) (m : ((Int × Int × Int × Int × Int × Int × Int × Int × Int) × (Int × Int × Int × Int × Int × Int × Int × Int × Int)) → Option Bool) (hm : ∀ (x : ((Int × Int × Int × Int × Int × Int × Int × Int × Int) × (Int × Int × Int × Int × Int × Int × Int × Int × Int))) t, m x = some t → ∃ L, g21 m45 L x.1.1 x.1.2.1 x.1.2.2.1 x.1.2.2.2.1 x.1.2.2.2.2.1 x.1.2.2.2.2.2.1 x.1.2.2.2.2.2.2.1 x.1.2.2.2.2.2.2.2.1 x.1.2.2.2.2.2.2.2.2 x.2.1 x.2.2.1 x.2.2.2.1 x.2.2.2.2.1 x.2.2.2.2.2.1 x.2.2.2.2.2.2.1 x.2.2.2.2.2.2.2.1 x.2.2.2.2.2.2.2.2.1 x.2.2.2.2.2.2.2.2.2 = some t) : Sat prog cxT 21 (c21 m) :=
  sat_t cxT_ok cxT_pok (by rfl) (fn := f21) rfl a21 n21 dd21 m (ev21 m45) (kok_cons h45 kok_nil) kwok_nil (fun L x => g21 m45 L x.1.1 x.1.2.1 x.1.2.2.1 x.1.2.2.2.1 x.1.2.2.2.2.1 x.1.2.2.2.2.2.1 x.1.2.2.2.2.2.2.1 x.1.2.2.2.2.2.2.2.1 x.1.2.2.2.2.2.2.2.2 x.2.1 x.2.2.1 x.2.2.2.1 x.2.2.2.2.1 x.2.2.2.2.2.1 x.2.2.2.2.2.2.1 x.2.2.2.2.2.2.2.1 x.2.2.2.2.2.2.2.2.1 x.2.2.2.2.2.2.2.2.2) (fun L x => e21 m45 L x.1.1 x.1.2.1 x.1.2.2.1 x.1.2.2.2.1 x.1.2.2.2.2.1 x.1.2.2.2.2.2.1 x.1.2.2.2.2.2.2.1 x.1.2.2.2.2.2.2.2.1 x.1.2.2.2.2.2.2.2.2 x.2.1 x.2.2.1 x.2.2.2.1 x.2.2.2.2.1 x.2.2.2.2.2.1 x.2.2.2.2.2.2.1 x.2.2.2.2.2.2.2.1 x.2.2.2.2.2.2.2.2.1 x.2.2.2.2.2.2.2.2.2) hm hs21
end Go.Proofs.Try

set_option maxHeartbeats 0
set_option maxRecDepth 100000
set_option linter.unusedVariables false
set_option linter.unusedSimpArgs false
namespace Go.Proofs.Try
open Go Go.VM Go.RowKit
/-! loop.example/g00222/spec.EntryFault -/
def ev11 (m36 : (Int × Int × Int) → Option Bool) (m37 : (Int × Int × Int × Int × Int × Int) → Option Int) : Env cxT := { Kc := kcOf [(36, c36 m36), (37, c37 m37)], Kw := kwOf [], lv := fun i => [], xv := fun i => none }
theorem i11 (m36 : (Int × Int × Int) → Option Bool) (m37 : (Int × Int × Int × Int × Int × Int) → Option Int) (L : Nat) (a0_0 : Int) (a0_1 : Int) (a0_2 : Int) (a0_3 : Int) (a0_4 : Int) (a0_5 : Int) (a0_6 : Int) (a0_7 : Int) (a0_8 : Int) : evF prog (ev11 m36 m37) (loopN L) f11 (a11.enc (a0_0, a0_1, a0_2, a0_3, a0_4, a0_5, a0_6, a0_7, a0_8)) =
  tst (m36 (a0_0, ((1 : Int), (100000 : Int)))) false fun (q1 : Bool) => bif (!q1) then some (n11 (3 : Int))
    else tst (m36 (a0_1, ((0 : Int), (999 : Int)))) false fun (q2 : Bool) => bif (!q2) then some (n11 (3 : Int))
      else tst (m36 (a0_2, ((0 : Int), (1000000 : Int)))) false fun (q3 : Bool) => bif (!q3) then some (n11 (3 : Int))
        else bif (!((a0_1 == (0 : Int)) == (a0_2 == (0 : Int)))) then some (n11 (1 : Int))
        else bif (a0_1 != (0 : Int)) then tst (m37 (a0_3, (a0_4, (a0_5, (a0_6, (a0_7, a0_8)))))) (0 : Int) fun (q5 : Int) => some (n11 q5)
        else bif (!((((((a0_3 == (0 : Int)) && (a0_4 == (0 : Int))) && (a0_5 == (0 : Int))) && (a0_6 == (0 : Int))) && (a0_7 == (0 : Int))) && (a0_8 == (0 : Int)))) then some (n11 (1 : Int))
        else some (n11 (0 : Int)) := by kernel_rfl
def g11 (m36 : (Int × Int × Int) → Option Bool) (m37 : (Int × Int × Int × Int × Int × Int) → Option Int) (L : Nat) (a0_0 : Int) (a0_1 : Int) (a0_2 : Int) (a0_3 : Int) (a0_4 : Int) (a0_5 : Int) (a0_6 : Int) (a0_7 : Int) (a0_8 : Int) : Option Int :=
  tst (m36 (a0_0, ((1 : Int), (100000 : Int)))) false fun (q1 : Bool) => bif (!q1) then some (3 : Int)
    else tst (m36 (a0_1, ((0 : Int), (999 : Int)))) false fun (q2 : Bool) => bif (!q2) then some (3 : Int)
      else tst (m36 (a0_2, ((0 : Int), (1000000 : Int)))) false fun (q3 : Bool) => bif (!q3) then some (3 : Int)
        else bif (!((a0_1 == (0 : Int)) == (a0_2 == (0 : Int)))) then some (1 : Int)
        else bif (a0_1 != (0 : Int)) then tst (m37 (a0_3, (a0_4, (a0_5, (a0_6, (a0_7, a0_8)))))) (0 : Int) fun (q5 : Int) => some q5
        else bif (!((((((a0_3 == (0 : Int)) && (a0_4 == (0 : Int))) && (a0_5 == (0 : Int))) && (a0_6 == (0 : Int))) && (a0_7 == (0 : Int))) && (a0_8 == (0 : Int)))) then some (1 : Int)
        else some (0 : Int)
theorem e11 (m36 : (Int × Int × Int) → Option Bool) (m37 : (Int × Int × Int × Int × Int × Int) → Option Int) (L : Nat) (a0_0 : Int) (a0_1 : Int) (a0_2 : Int) (a0_3 : Int) (a0_4 : Int) (a0_5 : Int) (a0_6 : Int) (a0_7 : Int) (a0_8 : Int) : evF prog (ev11 m36 m37) (loopN L) f11 (a11.enc (a0_0, a0_1, a0_2, a0_3, a0_4, a0_5, a0_6, a0_7, a0_8)) = (g11 m36 m37 L a0_0 a0_1 a0_2 a0_3 a0_4 a0_5 a0_6 a0_7 a0_8).map n11 := by
  rw [i11]; simp only [g11, map_bif, map_tst, map_bnd, Option.map_some, Option.map_none]
theorem s11 (m36 : (Int × Int × Int) → Option Bool) (m37 : (Int × Int × Int × Int × Int × Int) → Option Int) (h36 : Sat prog cxT 36 (c36 m36)) (h37 : Sat prog cxT 37 (c37 m37)) (m : (Int × Int × Int × Int × Int × Int × Int × Int × Int) → Option Int) (hm : ∀ (x : (Int × Int × Int × Int × Int × Int × Int × Int × Int)) t, m x = some t → ∃ L, g11 m36 m37 L x.1 x.2.1 x.2.2.1 x.2.2.2.1 x.2.2.2.2.1 x.2.2.2.2.2.1 x.2.2.2.2.2.2.1 x.2.2.2.2.2.2.2.1 x.2.2.2.2.2.2.2.2 = some t) : Sat prog cxT 11 (c11 m) :=
  sat_t cxT_ok cxT_pok (by rfl) (fn := f11) rfl a11 n11 dd11 m (ev11 m36 m37) (kok_cons h36 (kok_cons h37 kok_nil)) kwok_nil (fun L x => g11 m36 m37 L x.1 x.2.1 x.2.2.1 x.2.2.2.1 x.2.2.2.2.1 x.2.2.2.2.2.1 x.2.2.2.2.2.2.1 x.2.2.2.2.2.2.2.1 x.2.2.2.2.2.2.2.2) (fun L x => e11 m36 m37 L x.1 x.2.1 x.2.2.1 x.2.2.2.1 x.2.2.2.2.1 x.2.2.2.2.2.1 x.2.2.2.2.2.2.1 x.2.2.2.2.2.2.2.1 x.2.2.2.2.2.2.2.2) hm hs11
/-! loop.example/g00222/impl.EntryFault -/
def ev13 (m39 : Int → Option Bool) (m40 : Int → Option Bool) (m41 : Int → Option Bool) (m42 : (Int × Int × Int × Int × Int × Int) → Option Int) : Env cxT := { Kc := kcOf [(39, c39 m39), (40, c40 m40), (41, c41 m41), (42, c42 m42)], Kw := kwOf [], lv := fun i => [], xv := fun i => none }
theorem i13 (m39 : Int → Option Bool) (m40 : Int → Option Bool) (m41 : Int → Option Bool) (m42 : (Int × Int × Int × Int × Int × Int) → Option Int) (L : Nat) (a0_0 : Int) (a0_1 : Int) (a0_2 : Int) (a0_3 : Int) (a0_4 : Int) (a0_5 : Int) (a0_6 : Int) (a0_7 : Int) (a0_8 : Int) : evF prog (ev13 m39 m40 m41 m42) (loopN L) f13 (a13.enc (a0_0, a0_1, a0_2, a0_3, a0_4, a0_5, a0_6, a0_7, a0_8)) =
  tst (m39 a0_0) false fun (q1 : Bool) => bif (!q1) then some (n13 (3 : Int))
    else tst (m40 a0_1) false fun (q2 : Bool) => bif (!q2) then some (n13 (3 : Int))
      else tst (m41 a0_2) false fun (q3 : Bool) => bif (!q3) then some (n13 (3 : Int))
        else bif (!((a0_1 == (0 : Int)) == (a0_2 == (0 : Int)))) then some (n13 (1 : Int))
        else bif (a0_1 != (0 : Int)) then tst (m42 (a0_3, (a0_4, (a0_5, (a0_6, (a0_7, a0_8)))))) (0 : Int) fun (q5 : Int) => some (n13 q5)
        else bif (!((((((a0_3 == (0 : Int)) && (a0_4 == (0 : Int))) && (a0_5 == (0 : Int))) && (a0_6 == (0 : Int))) && (a0_7 == (0 : Int))) && (a0_8 == (0 : Int)))) then some (n13 (1 : Int))
        else some (n13 (0 : Int)) := by kernel_rfl
def g13 (m39 : Int → Option Bool) (m40 : Int → Option Bool) (m41 : Int → Option Bool) (m42 : (Int × Int × Int × Int × Int × Int) → Option Int) (L : Nat) (a0_0 : Int) (a0_1 : Int) (a0_2 : Int) (a0_3 : Int) (a0_4 : Int) (a0_5 : Int) (a0_6 : Int) (a0_7 : Int) (a0_8 : Int) : Option Int :=
  tst (m39 a0_0) false fun (q1 : Bool) => bif (!q1) then some (3 : Int)
    else tst (m40 a0_1) false fun (q2 : Bool) => bif (!q2) then some (3 : Int)
      else tst (m41 a0_2) false fun (q3 : Bool) => bif (!q3) then some (3 : Int)
        else bif (!((a0_1 == (0 : Int)) == (a0_2 == (0 : Int)))) then some (1 : Int)
        else bif (a0_1 != (0 : Int)) then tst (m42 (a0_3, (a0_4, (a0_5, (a0_6, (a0_7, a0_8)))))) (0 : Int) fun (q5 : Int) => some q5
        else bif (!((((((a0_3 == (0 : Int)) && (a0_4 == (0 : Int))) && (a0_5 == (0 : Int))) && (a0_6 == (0 : Int))) && (a0_7 == (0 : Int))) && (a0_8 == (0 : Int)))) then some (1 : Int)
        else some (0 : Int)
theorem e13 (m39 : Int → Option Bool) (m40 : Int → Option Bool) (m41 : Int → Option Bool) (m42 : (Int × Int × Int × Int × Int × Int) → Option Int) (L : Nat) (a0_0 : Int) (a0_1 : Int) (a0_2 : Int) (a0_3 : Int) (a0_4 : Int) (a0_5 : Int) (a0_6 : Int) (a0_7 : Int) (a0_8 : Int) : evF prog (ev13 m39 m40 m41 m42) (loopN L) f13 (a13.enc (a0_0, a0_1, a0_2, a0_3, a0_4, a0_5, a0_6, a0_7, a0_8)) = (g13 m39 m40 m41 m42 L a0_0 a0_1 a0_2 a0_3 a0_4 a0_5 a0_6 a0_7 a0_8).map n13 := by
  rw [i13]; simp only [g13, map_bif, map_tst, map_bnd, Option.map_some, Option.map_none]
theorem s13 (m39 : Int → Option Bool) (m40 : Int → Option Bool) (m41 : Int → Option Bool) (m42 : (Int × Int × Int × Int × Int × Int) → Option Int) (h39 : Sat prog cxT 39 (c39 m39)) (h40 : Sat prog cxT 40 (c40 m40)) (h41 : Sat prog cxT 41 (c41 m41)) (h42 : Sat prog cxT 42 (c42 m42)) (m : (Int × Int × Int × Int × Int × Int × Int × Int × Int) → Option Int) (hm : ∀ (x : (Int × Int × Int × Int × Int × Int × Int × Int × Int)) t, m x = some t → ∃ L, g13 m39 m40 m41 m42 L x.1 x.2.1 x.2.2.1 x.2.2.2.1 x.2.2.2.2.1 x.2.2.2.2.2.1 x.2.2.2.2.2.2.1 x.2.2.2.2.2.2.2.1 x.2.2.2.2.2.2.2.2 = some t) : Sat prog cxT 13 (c13 m) :=
  sat_t cxT_ok cxT_pok (by rfl) (fn := f13) rfl a13 n13 dd13 m (ev13 m39 m40 m41 m42) (kok_cons h39 (kok_cons h40 (kok_cons h41 (kok_cons h42 kok_nil)))) kwok_nil (fun L x => g13 m39 m40 m41 m42 L x.1 x.2.1 x.2.2.1 x.2.2.2.1 x.2.2.2.2.1 x.2.2.2.2.2.1 x.2.2.2.2.2.2.1 x.2.2.2.2.2.2.2.1 x.2.2.2.2.2.2.2.2) (fun L x => e13 m39 m40 m41 m42 L x.1 x.2.1 x.2.2.1 x.2.2.2.1 x.2.2.2.2.1 x.2.2.2.2.2.1 x.2.2.2.2.2.2.1 x.2.2.2.2.2.2.2.1 x.2.2.2.2.2.2.2.2) hm hs13
/-! loop.example/g00222/laws.szEntryS -/
def ev14 : Env cxT := { Kc := kcOf [], Kw := kwOf [], lv := fun i => [], xv := fun i => none }
theorem i14 (L : Nat) (a0 : (List (Int × (Int × (Int × (Int × (Int × (Int × (Int × (Int × Int)))))))))) (a1 : Int) : evF prog ev14 (loopN L) f14 (a14.enc (a0, a1)) =
  bif (decide ((Go.IntKind.wrap Go.IntKind.i64 (a1 - (Nat.cast (List.length a0) : Int))) < (0 : Int))) then some (n14 (-(1 : Int)))
  else some (n14 (Go.IntKind.wrap Go.IntKind.i64 (a1 - (Nat.cast (List.length a0) : Int)))) := by kernel_rfl
def g14 (L : Nat) (a0 : (List (Int × (Int × (Int × (Int × (Int × (Int × (Int × (Int × Int)))))))))) (a1 : Int) : Option Int :=
  bif (decide ((Go.IntKind.wrap Go.IntKind.i64 (a1 - (Nat.cast (List.length a0) : Int))) < (0 : Int))) then some (-(1 : Int))
  else some (Go.IntKind.wrap Go.IntKind.i64 (a1 - (Nat.cast (List.length a0) : Int)))
theorem e14 (L : Nat) (a0 : (List (Int × (Int × (Int × (Int × (Int × (Int × (Int × (Int × Int)))))))))) (a1 : Int) : evF prog ev14 (loopN L) f14 (a14.enc (a0, a1)) = (g14 L a0 a1).map n14 := by
  rw [i14]; simp only [g14, map_bif, map_tst, map_bnd, Option.map_some, Option.map_none]
theorem s14 (m : ((List (Int × (Int × (Int × (Int × (Int × (Int × (Int × (Int × Int))))))))) × Int) → Option Int) (hm : ∀ (x : ((List (Int × (Int × (Int × (Int × (Int × (Int × (Int × (Int × Int))))))))) × Int)) t, m x = some t → ∃ L, g14 L x.1 x.2 = some t) : Sat prog cxT 14 (c14 m) :=
  sat_t cxT_ok cxT_pok (by rfl) (fn := f14) rfl a14 n14 dd14 m ev14 kok_nil kwok_nil (fun L x => g14 L x.1 x.2) (fun L x => e14 L x.1 x.2) hm hs14
/-! loop.example/g00222/laws.toEntryS -/
def ev16 (m12 : (Int × Int × Int × Int × Int × Int × Int × Int × Int) → Option (Int × Int × Int × Int × Int × Int × Int × Int × Int)) : Env cxT := { Kc := kcOf [(12, c12 m12)], Kw := kwOf [], lv := fun i => if i = 0 then [(0, [some 25]), (3, [some 29]), (4, [])] else [], xv := fun i => if i = 0 then some [(3, [some 29])] else none }
def S16_0 (a0 : (List (Int × (Int × (Int × (Int × (Int × (Int × (Int × (Int × Int)))))))))) (v0_3 : (List (Int × (Int × (Int × (Int × (Int × (Int × (Int × (Int × Int)))))))))) (v0_4 : Int) : St cxT.ty := { slots := [(.inl (.inl (ls { own := 0, nm := 0, e := 25, o := false, xs := a0 }))), junk, junk, (.inl (.inl (ls { own := 1, nm := 192, e := 29, o := true, xs := v0_3 }))), (.inl (.inl (lv (.int .i64 v0_4))))] ++ List.replicate 18 junk, D := [], F := [], ctr := 1 }
def X16_0 (a0 : (List (Int × (Int × (Int × (Int × (Int × (Int × (Int × (Int × Int)))))))))) (w0_3 : (List (Int × (Int × (Int × (Int × (Int × (Int × (Int × (Int × Int)))))))))) : St cxT.ty := { slots := [junk, junk, junk, (.inl (.inl (ls { own := 1, nm := 192, e := 29, o := true, xs := w0_3 })))] ++ List.replicate 19 junk, D := [], F := [], ctr := 1 }
theorem i16 (m12 : (Int × Int × Int × Int × Int × Int × Int × Int × Int) → Option (Int × Int × Int × Int × Int × Int × Int × Int × Int)) (L : Nat) (a0 : (List (Int × (Int × (Int × (Int × (Int × (Int × (Int × (Int × Int)))))))))) : evF prog (ev16 m12) (loopN L) f16 (a16.enc a0) =
  bif (((decide ((0 : Int) ≤ (Nat.cast (List.length a0) : Int))) && (decide ((Nat.cast (List.length a0) : Int) ≤ (Nat.cast (List.length a0) : Int)))) && (decide ((Nat.cast (List.length a0) : Int) ≤ (1000000000 : Int)))) then headF prog (ev16 m12) L f16 0 [1, 1, 0, 1, 0, 0] (outK (outV prog f16) (topK prog (ev16 m12) L f16 [1, 1, 0, 1] (outV prog f16)).n (topK prog (ev16 m12) L f16 [1, 1, 0, 1] (outV prog f16)).x) L (S16_0 a0 (List.replicate (Int.toNat (Nat.cast (List.length a0) : Int)) ((0 : Int), ((0 : Int), ((0 : Int), ((0 : Int), ((0 : Int), ((0 : Int), ((0 : Int), ((0 : Int), (0 : Int)))))))))) (0 : Int))
  else none := by kernel_rfl
theorem r16_0 (m12 : (Int × Int × Int × Int × Int × Int × Int × Int × Int) → Option (Int × Int × Int × Int × Int × Int × Int × Int × Int)) (L : Nat) (a0 : (List (Int × (Int × (Int × (Int × (Int × (Int × (Int × (Int × Int)))))))))) (k : St cxT.ty → Option (V cxT.ty)) (xk : Nat → St cxT.ty → Option (V cxT.ty)) (g : St cxT.ty → Option (V cxT.ty)) (v0_3 : (List (Int × (Int × (Int × (Int × (Int × (Int × (Int × (Int × Int)))))))))) (v0_4 : Int) : roundF prog (ev16 m12) L f16 0 [1, 1, 0, 1, 0, 0] (outK (outV prog f16) k xk) g (S16_0 a0 v0_3 v0_4) =
  bif (decide (v0_4 < (Nat.cast (List.length a0) : Int))) then bif ((decide ((0 : Int) ≤ v0_4)) && (decide (v0_4 < (Nat.cast (List.length a0) : Int)))) then tst (m12 ((List.getD a0 (Int.toNat v0_4) ((0 : Int), ((0 : Int), ((0 : Int), ((0 : Int), ((0 : Int), ((0 : Int), ((0 : Int), ((0 : Int), (0 : Int)))))))))).1, ((List.getD a0 (Int.toNat v0_4) ((0 : Int), ((0 : Int), ((0 : Int), ((0 : Int), ((0 : Int), ((0 : Int), ((0 : Int), ((0 : Int), (0 : Int)))))))))).2.1, ((List.getD a0 (Int.toNat v0_4) ((0 : Int), ((0 : Int), ((0 : Int), ((0 : Int), ((0 : Int), ((0 : Int), ((0 : Int), ((0 : Int), (0 : Int)))))))))).2.2.1, ((List.getD a0 (Int.toNat v0_4) ((0 : Int), ((0 : Int), ((0 : Int), ((0 : Int), ((0 : Int), ((0 : Int), ((0 : Int), ((0 : Int), (0 : Int)))))))))).2.2.2.1, ((List.getD a0 (Int.toNat v0_4) ((0 : Int), ((0 : Int), ((0 : Int), ((0 : Int), ((0 : Int), ((0 : Int), ((0 : Int), ((0 : Int), (0 : Int)))))))))).2.2.2.2.1, ((List.getD a0 (Int.toNat v0_4) ((0 : Int), ((0 : Int), ((0 : Int), ((0 : Int), ((0 : Int), ((0 : Int), ((0 : Int), ((0 : Int), (0 : Int)))))))))).2.2.2.2.2.1, ((List.getD a0 (Int.toNat v0_4) ((0 : Int), ((0 : Int), ((0 : Int), ((0 : Int), ((0 : Int), ((0 : Int), ((0 : Int), ((0 : Int), (0 : Int)))))))))).2.2.2.2.2.2.1, ((List.getD a0 (Int.toNat v0_4) ((0 : Int), ((0 : Int), ((0 : Int), ((0 : Int), ((0 : Int), ((0 : Int), ((0 : Int), ((0 : Int), (0 : Int)))))))))).2.2.2.2.2.2.2.1, (List.getD a0 (Int.toNat v0_4) ((0 : Int), ((0 : Int), ((0 : Int), ((0 : Int), ((0 : Int), ((0 : Int), ((0 : Int), ((0 : Int), (0 : Int)))))))))).2.2.2.2.2.2.2.2))))))))) ((0 : Int), (0 : Int), (0 : Int), (0 : Int), (0 : Int), (0 : Int), (0 : Int), (0 : Int), (0 : Int)) fun (q3 : (Int × Int × Int × Int × Int × Int × Int × Int × Int)) => bif ((decide ((0 : Int) ≤ v0_4)) && (decide (v0_4 < (Nat.cast (List.length v0_3) : Int)))) then g (S16_0 a0 (List.set v0_3 (Int.toNat v0_4) (q3.1, (q3.2.1, (q3.2.2.1, (q3.2.2.2.1, (q3.2.2.2.2.1, (q3.2.2.2.2.2.1, (q3.2.2.2.2.2.2.1, (q3.2.2.2.2.2.2.2.1, q3.2.2.2.2.2.2.2.2))))))))) (Go.IntKind.wrap Go.IntKind.i64 (v0_4 + (1 : Int))))
        else none
    else none
  else k (X16_0 a0 v0_3) := by kernel_rfl
theorem t16_0 (m12 : (Int × Int × Int × Int × Int × Int × Int × Int × Int) → Option (Int × Int × Int × Int × Int × Int × Int × Int × Int)) (L : Nat) (a0 : (List (Int × (Int × (Int × (Int × (Int × (Int × (Int × (Int × Int)))))))))) (w0_3 : (List (Int × (Int × (Int × (Int × (Int × (Int × (Int × (Int × Int)))))))))) : (topK prog (ev16 m12) L f16 [1, 1, 0, 1] (outV prog f16)).n (X16_0 a0 w0_3) =
  some (n16 w0_3) := by kernel_rfl
def l16_0 (m12 : (Int × Int × Int × Int × Int × Int × Int × Int × Int) → Option (Int × Int × Int × Int × Int × Int × Int × Int × Int)) (L : Nat) (a0 : (List (Int × (Int × (Int × (Int × (Int × (Int × (Int × (Int × Int)))))))))) : Nat → (List (Int × (Int × (Int × (Int × (Int × (Int × (Int × (Int × Int))))))))) → Int → ((List (Int × (Int × (Int × (Int × (Int × (Int × (Int × (Int × Int))))))))) → Option (List (Int × (Int × (Int × (Int × (Int × (Int × (Int × (Int × Int)))))))))) → Option (List (Int × (Int × (Int × (Int × (Int × (Int × (Int × (Int × Int)))))))))
  | 0, _, _, _ => none
  | n + 1, v0_3, v0_4, k =>
    bif (decide (v0_4 < (Nat.cast (List.length a0) : Int))) then bif ((decide ((0 : Int) ≤ v0_4)) && (decide (v0_4 < (Nat.cast (List.length a0) : Int)))) then tst (m12 ((List.getD a0 (Int.toNat v0_4) ((0 : Int), ((0 : Int), ((0 : Int), ((0 : Int), ((0 : Int), ((0 : Int), ((0 : Int), ((0 : Int), (0 : Int)))))))))).1, ((List.getD a0 (Int.toNat v0_4) ((0 : Int), ((0 : Int), ((0 : Int), ((0 : Int), ((0 : Int), ((0 : Int), ((0 : Int), ((0 : Int), (0 : Int)))))))))).2.1, ((List.getD a0 (Int.toNat v0_4) ((0 : Int), ((0 : Int), ((0 : Int), ((0 : Int), ((0 : Int), ((0 : Int), ((0 : Int), ((0 : Int), (0 : Int)))))))))).2.2.1, ((List.getD a0 (Int.toNat v0_4) ((0 : Int), ((0 : Int), ((0 : Int), ((0 : Int), ((0 : Int), ((0 : Int), ((0 : Int), ((0 : Int), (0 : Int)))))))))).2.2.2.1, ((List.getD a0 (Int.toNat v0_4) ((0 : Int), ((0 : Int), ((0 : Int), ((0 : Int), ((0 : Int), ((0 : Int), ((0 : Int), ((0 : Int), (0 : Int)))))))))).2.2.2.2.1, ((List.getD a0 (Int.toNat v0_4) ((0 : Int), ((0 : Int), ((0 : Int), ((0 : Int), ((0 : Int), ((0 : Int), ((0 : Int), ((0 : Int), (0 : Int)))))))))).2.2.2.2.2.1, ((List.getD a0 (Int.toNat v0_4) ((0 : Int), ((0 : Int), ((0 : Int), ((0 : Int), ((0 : Int), ((0 : Int), ((0 : Int), ((0 : Int), (0 : Int)))))))))).2.2.2.2.2.2.1, ((List.getD a0 (Int.toNat v0_4) ((0 : Int), ((0 : Int), ((0 : Int), ((0 : Int), ((0 : Int), ((0 : Int), ((0 : Int), ((0 : Int), (0 : Int)))))))))).2.2.2.2.2.2.2.1, (List.getD a0 (Int.toNat v0_4) ((0 : Int), ((0 : Int), ((0 : Int), ((0 : Int), ((0 : Int), ((0 : Int), ((0 : Int), ((0 : Int), (0 : Int)))))))))).2.2.2.2.2.2.2.2))))))))) ((0 : Int), (0 : Int), (0 : Int), (0 : Int), (0 : Int), (0 : Int), (0 : Int), (0 : Int), (0 : Int)) fun (q4 : (Int × Int × Int × Int × Int × Int × Int × Int × Int)) => bif ((decide ((0 : Int) ≤ v0_4)) && (decide (v0_4 < (Nat.cast (List.length v0_3) : Int)))) then l16_0 m12 L a0 n (List.set v0_3 (Int.toNat v0_4) (q4.1, (q4.2.1, (q4.2.2.1, (q4.2.2.2.1, (q4.2.2.2.2.1, (q4.2.2.2.2.2.1, (q4.2.2.2.2.2.2.1, (q4.2.2.2.2.2.2.2.1, q4.2.2.2.2.2.2.2.2))))))))) (Go.IntKind.wrap Go.IntKind.i64 (v0_4 + (1 : Int))) k
          else none
      else none
    else k v0_3
theorem h16_0 (m12 : (Int × Int × Int × Int × Int × Int × Int × Int × Int) → Option (Int × Int × Int × Int × Int × Int × Int × Int × Int)) (L : Nat) (a0 : (List (Int × (Int × (Int × (Int × (Int × (Int × (Int × (Int × Int)))))))))) (k : St cxT.ty → Option (V cxT.ty)) (xk : Nat → St cxT.ty → Option (V cxT.ty)) (k' : (List (Int × (Int × (Int × (Int × (Int × (Int × (Int × (Int × Int))))))))) → Option (List (Int × (Int × (Int × (Int × (Int × (Int × (Int × (Int × Int)))))))))) (hk : ∀ (w0_3 : (List (Int × (Int × (Int × (Int × (Int × (Int × (Int × (Int × Int)))))))))), k (X16_0 a0 w0_3) = (k' w0_3).map n16) : ∀ (n : Nat) (v0_3 : (List (Int × (Int × (Int × (Int × (Int × (Int × (Int × (Int × Int)))))))))) (v0_4 : Int), headF prog (ev16 m12) L f16 0 [1, 1, 0, 1, 0, 0] (outK (outV prog f16) k xk) n (S16_0 a0 v0_3 v0_4) = (l16_0 m12 L a0 n v0_3 v0_4 k').map n16
  | 0, _, _ => rfl
  | n + 1, v0_3, v0_4 => by
    rw [headF_round, r16_0]
    have ih := h16_0 m12 L a0 k xk k' hk n
    simp only [l16_0, map_bif, map_tst, map_bnd, Option.map_some, Option.map_none, ih, hk]
def g16 (m12 : (Int × Int × Int × Int × Int × Int × Int × Int × Int) → Option (Int × Int × Int × Int × Int × Int × Int × Int × Int)) (L : Nat) (a0 : (List (Int × (Int × (Int × (Int × (Int × (Int × (Int × (Int × Int)))))))))) : Option (List (Int × (Int × (Int × (Int × (Int × (Int × (Int × (Int × Int))))))))) :=
  bif (((decide ((0 : Int) ≤ (Nat.cast (List.length a0) : Int))) && (decide ((Nat.cast (List.length a0) : Int) ≤ (Nat.cast (List.length a0) : Int)))) && (decide ((Nat.cast (List.length a0) : Int) ≤ (1000000000 : Int)))) then l16_0 m12 L a0 L (List.replicate (Int.toNat (Nat.cast (List.length a0) : Int)) ((0 : Int), ((0 : Int), ((0 : Int), ((0 : Int), ((0 : Int), ((0 : Int), ((0 : Int), ((0 : Int), (0 : Int)))))))))) (0 : Int) (fun (w0_3 : (List (Int × (Int × (Int × (Int × (Int × (Int × (Int × (Int × Int)))))))))) => some w0_3)
  else none
theorem e16 (m12 : (Int × Int × Int × Int × Int × Int × Int × Int × Int) → Option (Int × Int × Int × Int × Int × Int × Int × Int × Int)) (L : Nat) (a0 : (List (Int × (Int × (Int × (Int × (Int × (Int × (Int × (Int × Int)))))))))) : evF prog (ev16 m12) (loopN L) f16 (a16.enc a0) = (g16 m12 L a0).map n16 := by
  let K'0 : (List (Int × (Int × (Int × (Int × (Int × (Int × (Int × (Int × Int))))))))) → Option (List (Int × (Int × (Int × (Int × (Int × (Int × (Int × (Int × Int))))))))) := (fun (w0_3 : (List (Int × (Int × (Int × (Int × (Int × (Int × (Int × (Int × Int)))))))))) => some w0_3)
  have hin0 : ∀ (v0_3 : (List (Int × (Int × (Int × (Int × (Int × (Int × (Int × (Int × Int)))))))))) (v0_4 : Int), headF prog (ev16 m12) L f16 0 [1, 1, 0, 1, 0, 0] (outK (outV prog f16) (topK prog (ev16 m12) L f16 [1, 1, 0, 1] (outV prog f16)).n (topK prog (ev16 m12) L f16 [1, 1, 0, 1] (outV prog f16)).x) L (S16_0 a0 v0_3 v0_4) = (l16_0 m12 L a0 L v0_3 v0_4 K'0).map n16 := fun v0_3 v0_4 => h16_0 m12 L a0 _ _ K'0 (fun w0_3 => by rw [t16_0]; simp only [K'0, map_bif, map_tst, map_bnd, Option.map_some, Option.map_none]) L v0_3 v0_4
  rw [i16]; simp only [g16, map_bif, map_tst, map_bnd, Option.map_some, Option.map_none, hin0, K'0]
theorem s16 (m12 : (Int × Int × Int × Int × Int × Int × Int × Int × Int) → Option (Int × Int × Int × Int × Int × Int × Int × Int × Int)) (h12 : Sat prog cxT 12 (c12 m12)) (m : (List (Int × (Int × (Int × (Int × (Int × (Int × (Int × (Int × Int))))))))) → Option (List (Int × (Int × (Int × (Int × (Int × (Int × (Int × (Int × Int)))))))))) (hm : ∀ (x : (List (Int × (Int × (Int × (Int × (Int × (Int × (Int × (Int × Int)))))))))) t, m x = some t → ∃ L, g16 m12 L x = some t) : Sat prog cxT 16 (c16 m) :=
  sat_t cxT_ok cxT_pok (by rfl) (fn := f16) rfl a16 n16 dd16 m (ev16 m12) (kok_cons h12 kok_nil) kwok_nil (fun L x => g16 m12 L x) (fun L x => e16 m12 L x) hm hs16
/-! loop.example/g00222/laws.eqEntryS -/
def ev18 (m21 : ((Int × Int × Int × Int × Int × Int × Int × Int × Int) × (Int × Int × Int × Int × Int × Int × Int × Int × Int)) → Option Bool) : Env cxT := { Kc := kcOf [(21, c21 m21)], Kw := kwOf [], lv := fun i => if i = 0 then [(0, [some 29]), (1, [some 29]), (5, [])] else [], xv := fun i => if i = 0 then some [] else none }
def S18_0 (a0 : (List (Int × (Int × (Int × (Int × (Int × (Int × (Int × (Int × Int)))))))))) (a1 : (List (Int × (Int × (Int × (Int × (Int × (Int × (Int × (Int × Int)))))))))) (v0_5 : Int) : St cxT.ty := { slots := [(.inl (.inl (ls { own := 0, nm := 0, e := 29, o := false, xs := a0 }))), (.inl (.inl (ls { own := 0, nm := 0, e := 29, o := false, xs := a1 }))), junk, junk, junk, (.inl (.inl (lv (.int .i64 v0_5))))] ++ List.replicate 21 junk, D := [], F := [], ctr := 1 }
def X18_0 (a0 : (List (Int × (Int × (Int × (Int × (Int × (Int × (Int × (Int × Int)))))))))) (a1 : (List (Int × (Int × (Int × (Int × (Int × (Int × (Int × (Int × Int)))))))))) : St cxT.ty := { slots := [] ++ List.replicate 27 junk, D := [], F := [], ctr := 1 }
theorem i18 (m21 : ((Int × Int × Int × Int × Int × Int × Int × Int × Int) × (Int × Int × Int × Int × Int × Int × Int × Int × Int)) → Option Bool) (L : Nat) (a0 : (List (Int × (Int × (Int × (Int × (Int × (Int × (Int × (Int × Int)))))))))) (a1 : (List (Int × (Int × (Int × (Int × (Int × (Int × (Int × (Int × Int)))))))))) : evF prog (ev18 m21) (loopN L) f18 (a18.enc (a0, a1)) =
  bif ((Nat.cast (List.length a0) : Int) != (Nat.cast (List.length a1) : Int)) then some (n18 Bool.false)
  else headF prog (ev18 m21) L f18 0 [1, 1, 0, 1, 0, 0] (outK (outV prog f18) (topK prog (ev18 m21) L f18 [1, 1, 0, 1] (outV prog f18)).n (topK prog (ev18 m21) L f18 [1, 1, 0, 1] (outV prog f18)).x) L (S18_0 a0 a1 (0 : Int)) := by kernel_rfl
theorem r18_0 (m21 : ((Int × Int × Int × Int × Int × Int × Int × Int × Int) × (Int × Int × Int × Int × Int × Int × Int × Int × Int)) → Option Bool) (L : Nat) (a0 : (List (Int × (Int × (Int × (Int × (Int × (Int × (Int × (Int × Int)))))))))) (a1 : (List (Int × (Int × (Int × (Int × (Int × (Int × (Int × (Int × Int)))))))))) (k : St cxT.ty → Option (V cxT.ty)) (xk : Nat → St cxT.ty → Option (V cxT.ty)) (g : St cxT.ty → Option (V cxT.ty)) (v0_5 : Int) : roundF prog (ev18 m21) L f18 0 [1, 1, 0, 1, 0, 0] (outK (outV prog f18) k xk) g (S18_0 a0 a1 v0_5) =
  bif (decide (v0_5 < (Nat.cast (List.length a0) : Int))) then bif ((decide ((0 : Int) ≤ v0_5)) && (decide (v0_5 < (Nat.cast (List.length a0) : Int)))) then bif ((decide ((0 : Int) ≤ v0_5)) && (decide (v0_5 < (Nat.cast (List.length a1) : Int)))) then tst (m21 (((List.getD a0 (Int.toNat v0_5) ((0 : Int), ((0 : Int), ((0 : Int), ((0 : Int), ((0 : Int), ((0 : Int), ((0 : Int), ((0 : Int), (0 : Int)))))))))).1, ((List.getD a0 (Int.toNat v0_5) ((0 : Int), ((0 : Int), ((0 : Int), ((0 : Int), ((0 : Int), ((0 : Int), ((0 : Int), ((0 : Int), (0 : Int)))))))))).2.1, ((List.getD a0 (Int.toNat v0_5) ((0 : Int), ((0 : Int), ((0 : Int), ((0 : Int), ((0 : Int), ((0 : Int), ((0 : Int), ((0 : Int), (0 : Int)))))))))).2.2.1, ((List.getD a0 (Int.toNat v0_5) ((0 : Int), ((0 : Int), ((0 : Int), ((0 : Int), ((0 : Int), ((0 : Int), ((0 : Int), ((0 : Int), (0 : Int)))))))))).2.2.2.1, ((List.getD a0 (Int.toNat v0_5) ((0 : Int), ((0 : Int), ((0 : Int), ((0 : Int), ((0 : Int), ((0 : Int), ((0 : Int), ((0 : Int), (0 : Int)))))))))).2.2.2.2.1, ((List.getD a0 (Int.toNat v0_5) ((0 : Int), ((0 : Int), ((0 : Int), ((0 : Int), ((0 : Int), ((0 : Int), ((0 : Int), ((0 : Int), (0 : Int)))))))))).2.2.2.2.2.1, ((List.getD a0 (Int.toNat v0_5) ((0 : Int), ((0 : Int), ((0 : Int), ((0 : Int), ((0 : Int), ((0 : Int), ((0 : Int), ((0 : Int), (0 : Int)))))))))).2.2.2.2.2.2.1, ((List.getD a0 (Int.toNat v0_5) ((0 : Int), ((0 : Int), ((0 : Int), ((0 : Int), ((0 : Int), ((0 : Int), ((0 : Int), ((0 : Int), (0 : Int)))))))))).2.2.2.2.2.2.2.1, (List.getD a0 (Int.toNat v0_5) ((0 : Int), ((0 : Int), ((0 : Int), ((0 : Int), ((0 : Int), ((0 : Int), ((0 : Int), ((0 : Int), (0 : Int)))))))))).2.2.2.2.2.2.2.2)))))))), ((List.getD a1 (Int.toNat v0_5) ((0 : Int), ((0 : Int), ((0 : Int), ((0 : Int), ((0 : Int), ((0 : Int), ((0 : Int), ((0 : Int), (0 : Int)))))))))).1, ((List.getD a1 (Int.toNat v0_5) ((0 : Int), ((0 : Int), ((0 : Int), ((0 : Int), ((0 : Int), ((0 : Int), ((0 : Int), ((0 : Int), (0 : Int)))))))))).2.1, ((List.getD a1 (Int.toNat v0_5) ((0 : Int), ((0 : Int), ((0 : Int), ((0 : Int), ((0 : Int), ((0 : Int), ((0 : Int), ((0 : Int), (0 : Int)))))))))).2.2.1, ((List.getD a1 (Int.toNat v0_5) ((0 : Int), ((0 : Int), ((0 : Int), ((0 : Int), ((0 : Int), ((0 : Int), ((0 : Int), ((0 : Int), (0 : Int)))))))))).2.2.2.1, ((List.getD a1 (Int.toNat v0_5) ((0 : Int), ((0 : Int), ((0 : Int), ((0 : Int), ((0 : Int), ((0 : Int), ((0 : Int), ((0 : Int), (0 : Int)))))))))).2.2.2.2.1, ((List.getD a1 (Int.toNat v0_5) ((0 : Int), ((0 : Int), ((0 : Int), ((0 : Int), ((0 : Int), ((0 : Int), ((0 : Int), ((0 : Int), (0 : Int)))))))))).2.2.2.2.2.1, ((List.getD a1 (Int.toNat v0_5) ((0 : Int), ((0 : Int), ((0 : Int), ((0 : Int), ((0 : Int), ((0 : Int), ((0 : Int), ((0 : Int), (0 : Int)))))))))).2.2.2.2.2.2.1, ((List.getD a1 (Int.toNat v0_5) ((0 : Int), ((0 : Int), ((0 : Int), ((0 : Int), ((0 : Int), ((0 : Int), ((0 : Int), ((0 : Int), (0 : Int)))))))))).2.2.2.2.2.2.2.1, (List.getD a1 (Int.toNat v0_5) ((0 : Int), ((0 : Int), ((0 : Int), ((0 : Int), ((0 : Int), ((0 : Int), ((0 : Int), ((0 : Int), (0 : Int)))))))))).2.2.2.2.2.2.2.2)))))))))) false fun (q4 : Bool) => bif (!q4) then some (n18 Bool.false)
          else g (S18_0 a0 a1 (Go.IntKind.wrap Go.IntKind.i64 (v0_5 + (1 : Int))))
      else none
    else none
  else k (X18_0 a0 a1) := by kernel_rfl
theorem t18_0 (m21 : ((Int × Int × Int × Int × Int × Int × Int × Int × Int) × (Int × Int × Int × Int × Int × Int × Int × Int × Int)) → Option Bool) (L : Nat) (a0 : (List (Int × (Int × (Int × (Int × (Int × (Int × (Int × (Int × Int)))))))))) (a1 : (List (Int × (Int × (Int × (Int × (Int × (Int × (Int × (Int × Int)))))))))) : (topK prog (ev18 m21) L f18 [1, 1, 0, 1] (outV prog f18)).n (X18_0 a0 a1) =
  some (n18 Bool.true) := by kernel_rfl
def l18_0 (m21 : ((Int × Int × Int × Int × Int × Int × Int × Int × Int) × (Int × Int × Int × Int × Int × Int × Int × Int × Int)) → Option Bool) (L : Nat) (a0 : (List (Int × (Int × (Int × (Int × (Int × (Int × (Int × (Int × Int)))))))))) (a1 : (List (Int × (Int × (Int × (Int × (Int × (Int × (Int × (Int × Int)))))))))) : Nat → Int → (Option Bool) → Option Bool
  | 0, _, _ => none
  | n + 1, v0_5, k =>
    bif (decide (v0_5 < (Nat.cast (List.length a0) : Int))) then bif ((decide ((0 : Int) ≤ v0_5)) && (decide (v0_5 < (Nat.cast (List.length a0) : Int)))) then bif ((decide ((0 : Int) ≤ v0_5)) && (decide (v0_5 < (Nat.cast (List.length a1) : Int)))) then tst (m21 (((List.getD a0 (Int.toNat v0_5) ((0 : Int), ((0 : Int), ((0 : Int), ((0 : Int), ((0 : Int), ((0 : Int), ((0 : Int), ((0 : Int), (0 : Int)))))))))).1, ((List.getD a0 (Int.toNat v0_5) ((0 : Int), ((0 : Int), ((0 : Int), ((0 : Int), ((0 : Int), ((0 : Int), ((0 : Int), ((0 : Int), (0 : Int)))))))))).2.1, ((List.getD a0 (Int.toNat v0_5) ((0 : Int), ((0 : Int), ((0 : Int), ((0 : Int), ((0 : Int), ((0 : Int), ((0 : Int), ((0 : Int), (0 : Int)))))))))).2.2.1, ((List.getD a0 (Int.toNat v0_5) ((0 : Int), ((0 : Int), ((0 : Int), ((0 : Int), ((0 : Int), ((0 : Int), ((0 : Int), ((0 : Int), (0 : Int)))))))))).2.2.2.1, ((List.getD a0 (Int.toNat v0_5) ((0 : Int), ((0 : Int), ((0 : Int), ((0 : Int), ((0 : Int), ((0 : Int), ((0 : Int), ((0 : Int), (0 : Int)))))))))).2.2.2.2.1, ((List.getD a0 (Int.toNat v0_5) ((0 : Int), ((0 : Int), ((0 : Int), ((0 : Int), ((0 : Int), ((0 : Int), ((0 : Int), ((0 : Int), (0 : Int)))))))))).2.2.2.2.2.1, ((List.getD a0 (Int.toNat v0_5) ((0 : Int), ((0 : Int), ((0 : Int), ((0 : Int), ((0 : Int), ((0 : Int), ((0 : Int), ((0 : Int), (0 : Int)))))))))).2.2.2.2.2.2.1, ((List.getD a0 (Int.toNat v0_5) ((0 : Int), ((0 : Int), ((0 : Int), ((0 : Int), ((0 : Int), ((0 : Int), ((0 : Int), ((0 : Int), (0 : Int)))))))))).2.2.2.2.2.2.2.1, (List.getD a0 (Int.toNat v0_5) ((0 : Int), ((0 : Int), ((0 : Int), ((0 : Int), ((0 : Int), ((0 : Int), ((0 : Int), ((0 : Int), (0 : Int)))))))))).2.2.2.2.2.2.2.2)))))))), ((List.getD a1 (Int.toNat v0_5) ((0 : Int), ((0 : Int), ((0 : Int), ((0 : Int), ((0 : Int), ((0 : Int), ((0 : Int), ((0 : Int), (0 : Int)))))))))).1, ((List.getD a1 (Int.toNat v0_5) ((0 : Int), ((0 : Int), ((0 : Int), ((0 : Int), ((0 : Int), ((0 : Int), ((0 : Int), ((0 : Int), (0 : Int)))))))))).2.1, ((List.getD a1 (Int.toNat v0_5) ((0 : Int), ((0 : Int), ((0 : Int), ((0 : Int), ((0 : Int), ((0 : Int), ((0 : Int), ((0 : Int), (0 : Int)))))))))).2.2.1, ((List.getD a1 (Int.toNat v0_5) ((0 : Int), ((0 : Int), ((0 : Int), ((0 : Int), ((0 : Int), ((0 : Int), ((0 : Int), ((0 : Int), (0 : Int)))))))))).2.2.2.1, ((List.getD a1 (Int.toNat v0_5) ((0 : Int), ((0 : Int), ((0 : Int), ((0 : Int), ((0 : Int), ((0 : Int), ((0 : Int), ((0 : Int), (0 : Int)))))))))).2.2.2.2.1, ((List.getD a1 (Int.toNat v0_5) ((0 : Int), ((0 : Int), ((0 : Int), ((0 : Int), ((0 : Int), ((0 : Int), ((0 : Int), ((0 : Int), (0 : Int)))))))))).2.2.2.2.2.1, ((List.getD a1 (Int.toNat v0_5) ((0 : Int), ((0 : Int), ((0 : Int), ((0 : Int), ((0 : Int), ((0 : Int), ((0 : Int), ((0 : Int), (0 : Int)))))))))).2.2.2.2.2.2.1, ((List.getD a1 (Int.toNat v0_5) ((0 : Int), ((0 : Int), ((0 : Int), ((0 : Int), ((0 : Int), ((0 : Int), ((0 : Int), ((0 : Int), (0 : Int)))))))))).2.2.2.2.2.2.2.1, (List.getD a1 (Int.toNat v0_5) ((0 : Int), ((0 : Int), ((0 : Int), ((0 : Int), ((0 : Int), ((0 : Int), ((0 : Int), ((0 : Int), (0 : Int)))))))))).2.2.2.2.2.2.2.2)))))))))) false fun (q5 : Bool) => bif (!q5) then some Bool.false
            else l18_0 m21 L a0 a1 n (Go.IntKind.wrap Go.IntKind.i64 (v0_5 + (1 : Int))) k
        else none
      else none
    else k
theorem h18_0 (m21 : ((Int × Int × Int × Int × Int × Int × Int × Int × Int) × (Int × Int × Int × Int × Int × Int × Int × Int × Int)) → Option Bool) (L : Nat) (a0 : (List (Int × (Int × (Int × (Int × (Int × (Int × (Int × (Int × Int)))))))))) (a1 : (List (Int × (Int × (Int × (Int × (Int × (Int × (Int × (Int × Int)))))))))) (k : St cxT.ty → Option (V cxT.ty)) (xk : Nat → St cxT.ty → Option (V cxT.ty)) (k' : Option Bool) (hk : k (X18_0 a0 a1) = (k').map n18) : ∀ (n : Nat) (v0_5 : Int), headF prog (ev18 m21) L f18 0 [1, 1, 0, 1, 0, 0] (outK (outV prog f18) k xk) n (S18_0 a0 a1 v0_5) = (l18_0 m21 L a0 a1 n v0_5 k').map n18
  | 0, _ => rfl
  | n + 1, v0_5 => by
    rw [headF_round, r18_0]
    have ih := h18_0 m21 L a0 a1 k xk k' hk n
    simp only [l18_0, map_bif, map_tst, map_bnd, Option.map_some, Option.map_none, ih, hk]
def g18 (m21 : ((Int × Int × Int × Int × Int × Int × Int × Int × Int) × (Int × Int × Int × Int × Int × Int × Int × Int × Int)) → Option Bool) (L : Nat) (a0 : (List (Int × (Int × (Int × (Int × (Int × (Int × (Int × (Int × Int)))))))))) (a1 : (List (Int × (Int × (Int × (Int × (Int × (Int × (Int × (Int × Int)))))))))) : Option Bool :=
  bif ((Nat.cast (List.length a0) : Int) != (Nat.cast (List.length a1) : Int)) then some Bool.false
  else l18_0 m21 L a0 a1 L (0 : Int) (some Bool.true)
theorem e18 (m21 : ((Int × Int × Int × Int × Int × Int × Int × Int × Int) × (Int × Int × Int × Int × Int × Int × Int × Int × Int)) → Option Bool) (L : Nat) (a0 : (List (Int × (Int × (Int × (Int × (Int × (Int × (Int × (Int × Int)))))))))) (a1 : (List (Int × (Int × (Int × (Int × (Int × (Int × (Int × (Int × Int)))))))))) : evF prog (ev18 m21) (loopN L) f18 (a18.enc (a0, a1)) = (g18 m21 L a0 a1).map n18 := by
  let K'0 : Option Bool := (some Bool.true)
  have hin0 : ∀ (v0_5 : Int), headF prog (ev18 m21) L f18 0 [1, 1, 0, 1, 0, 0] (outK (outV prog f18) (topK prog (ev18 m21) L f18 [1, 1, 0, 1] (outV prog f18)).n (topK prog (ev18 m21) L f18 [1, 1, 0, 1] (outV prog f18)).x) L (S18_0 a0 a1 v0_5) = (l18_0 m21 L a0 a1 L v0_5 K'0).map n18 := fun v0_5 => h18_0 m21 L a0 a1 _ _ K'0 (by rw [t18_0]; simp only [K'0, map_bif, map_tst, map_bnd, Option.map_some, Option.map_none]) L v0_5
  rw [i18]; simp only [g18, map_bif, map_tst, map_bnd, Option.map_some, Option.map_none, hin0, K'0]
theorem s18 (m21 : ((Int × Int × Int × Int × Int × Int × Int × Int × Int) × (Int × Int × Int × Int × Int × Int × Int × Int × Int)) → Option Bool) (h21 : Sat prog cxT 21 (c21 m21)) (m : ((List (Int × (Int × (Int × (Int × (Int × (Int × (Int × (Int × Int))))))))) × (List (Int × (Int × (Int × (Int × (Int × (Int × (Int × (Int × Int)))))))))) → Option Bool) (hm : ∀ (x : ((List (Int × (Int × (Int × (Int × (Int × (Int × (Int × (Int × Int))))))))) × (List (Int × (Int × (Int × (Int × (Int × (Int × (Int × (Int × Int))))))))))) t, m x = some t → ∃ L, g18 m21 L x.1 x.2 = some t) : Sat prog cxT 18 (c18 m) :=
  sat_t cxT_ok cxT_pok (by rfl) (fn := f18) rfl a18 n18 dd18 m (ev18 m21) (kok_cons h21 kok_nil) kwok_nil (fun L x => g18 m21 L x.1 x.2) (fun L x => e18 m21 L x.1 x.2) hm hs18
/-! (loop.example/g00222/impl.indexed[loop.example/g00222/impl.Entry]).behind -/
end Go.Proofs.Try
