/- A part of the proof of FnExactProbeMany: LqFa. -/
import Derived.Test.YtklmlomaleaaaaaLqBase
set_option maxHeartbeats 0
set_option maxRecDepth 100000
set_option linter.unusedVariables false
set_option linter.unusedSimpArgs false
namespace Go.Proofs.Try
open Go Go.VM Go.RowKit
/-! loop.example/g00222/spec.HealthFault -/
def ev10 (m40 : Int → Option Bool) (m42 : (Int × Bool × Int) → Option Int) (m41 : (Int × Int × Int) → Option Bool) : Env cxT := { Kc := kcOf [(40, c40 m40), (42, c42 m42), (41, c41 m41)], Kw := kwOf [], lv := fun i => [], xv := fun i => none }
theorem i10 (m40 : Int → Option Bool) (m42 : (Int × Bool × Int) → Option Int) (m41 : (Int × Int × Int) → Option Bool) (L : Nat) (a0_0 : Int) (a0_1 : Bool) (a0_2 : Int) : evF prog (ev10 m40 m42 m41) (loopN L) f10 (a10.enc (a0_0, a0_1, a0_2)) =
  tst (m40 a0_0) false fun (q1 : Bool) => bif (!q1) then some (n10 (3 : Int))
    else tst (m42 (a0_0, (a0_1, a0_2))) (0 : Int) fun (q2 : Int) => tst (m41 (a0_2, ((0 : Int), (Go.IntKind.wrap Go.IntKind.i64 (q2 - (1 : Int)))))) false fun (q3 : Bool) => bif (!q3) then some (n10 (3 : Int))
        else some (n10 (0 : Int)) := by kernel_rfl
def g10 (m40 : Int → Option Bool) (m42 : (Int × Bool × Int) → Option Int) (m41 : (Int × Int × Int) → Option Bool) (L : Nat) (a0_0 : Int) (a0_1 : Bool) (a0_2 : Int) : Option Int :=
  tst (m40 a0_0) false fun (q1 : Bool) => bif (!q1) then some (3 : Int)
    else tst (m42 (a0_0, (a0_1, a0_2))) (0 : Int) fun (q2 : Int) => tst (m41 (a0_2, ((0 : Int), (Go.IntKind.wrap Go.IntKind.i64 (q2 - (1 : Int)))))) false fun (q3 : Bool) => bif (!q3) then some (3 : Int)
        else some (0 : Int)
theorem e10 (m40 : Int → Option Bool) (m42 : (Int × Bool × Int) → Option Int) (m41 : (Int × Int × Int) → Option Bool) (L : Nat) (a0_0 : Int) (a0_1 : Bool) (a0_2 : Int) : evF prog (ev10 m40 m42 m41) (loopN L) f10 (a10.enc (a0_0, a0_1, a0_2)) = (g10 m40 m42 m41 L a0_0 a0_1 a0_2).map n10 := by
  rw [i10]; simp only [g10, map_bif, map_tst, map_bnd, Option.map_some, Option.map_none]
theorem s10 (m40 : Int → Option Bool) (m42 : (Int × Bool × Int) → Option Int) (m41 : (Int × Int × Int) → Option Bool) (h40 : Sat prog cxT 40 (c40 m40)) (h42 : Sat prog cxT 42 (c42 m42)) (h41 : Sat prog cxT 41 (c41 m41)) (m : (Int × Bool × Int) → Option Int) (hm : ∀ (x : (Int × Bool × Int)) t, m x = some t → ∃ L, g10 m40 m42 m41 L x.1 x.2.1 x.2.2 = some t) : Sat prog cxT 10 (c10 m) :=
  sat_t cxT_ok cxT_pok (by rfl) (fn := f10) rfl a10 n10 dd10 m (ev10 m40 m42 m41) (kok_cons h40 (kok_cons h42 (kok_cons h41 kok_nil))) kwok_nil (fun L x => g10 m40 m42 m41 L x.1 x.2.1 x.2.2) (fun L x => e10 m40 m42 m41 L x.1 x.2.1 x.2.2) hm hs10
/-! loop.example/g00222/impl.HealthFault -/
def ev12 (m43 : Int → Option Bool) (m45 : Bool → Option Int) (m44 : (Int × Int × Int) → Option Bool) : Env cxT := { Kc := kcOf [(43, c43 m43), (45, c45 m45), (44, c44 m44)], Kw := kwOf [], lv := fun i => [], xv := fun i => none }
theorem i12 (m43 : Int → Option Bool) (m45 : Bool → Option Int) (m44 : (Int × Int × Int) → Option Bool) (L : Nat) (a0_0 : Int) (a0_1 : Bool) (a0_2 : Int) : evF prog (ev12 m43 m45 m44) (loopN L) f12 (a12.enc (a0_0, a0_1, a0_2)) =
  tst (m43 a0_0) false fun (q1 : Bool) => bif (!q1) then some (n12 (3 : Int))
    else tst (m45 a0_1) (0 : Int) fun (q2 : Int) => tst (m44 (a0_2, ((0 : Int), (Go.IntKind.wrap Go.IntKind.i64 (q2 - (1 : Int)))))) false fun (q3 : Bool) => bif (!q3) then some (n12 (3 : Int))
        else some (n12 (0 : Int)) := by kernel_rfl
def g12 (m43 : Int → Option Bool) (m45 : Bool → Option Int) (m44 : (Int × Int × Int) → Option Bool) (L : Nat) (a0_0 : Int) (a0_1 : Bool) (a0_2 : Int) : Option Int :=
  tst (m43 a0_0) false fun (q1 : Bool) => bif (!q1) then some (3 : Int)
    else tst (m45 a0_1) (0 : Int) fun (q2 : Int) => tst (m44 (a0_2, ((0 : Int), (Go.IntKind.wrap Go.IntKind.i64 (q2 - (1 : Int)))))) false fun (q3 : Bool) => bif (!q3) then some (3 : Int)
        else some (0 : Int)
theorem e12 (m43 : Int → Option Bool) (m45 : Bool → Option Int) (m44 : (Int × Int × Int) → Option Bool) (L : Nat) (a0_0 : Int) (a0_1 : Bool) (a0_2 : Int) : evF prog (ev12 m43 m45 m44) (loopN L) f12 (a12.enc (a0_0, a0_1, a0_2)) = (g12 m43 m45 m44 L a0_0 a0_1 a0_2).map n12 := by
  rw [i12]; simp only [g12, map_bif, map_tst, map_bnd, Option.map_some, Option.map_none]
theorem s12 (m43 : Int → Option Bool) (m45 : Bool → Option Int) (m44 : (Int × Int × Int) → Option Bool) (h43 : Sat prog cxT 43 (c43 m43)) (h45 : Sat prog cxT 45 (c45 m45)) (h44 : Sat prog cxT 44 (c44 m44)) (m : (Int × Bool × Int) → Option Int) (hm : ∀ (x : (Int × Bool × Int)) t, m x = some t → ∃ L, g12 m43 m45 m44 L x.1 x.2.1 x.2.2 = some t) : Sat prog cxT 12 (c12 m) :=
  sat_t cxT_ok cxT_pok (by rfl) (fn := f12) rfl a12 n12 dd12 m (ev12 m43 m45 m44) (kok_cons h43 (kok_cons h45 (kok_cons h44 kok_nil))) kwok_nil (fun L x => g12 m43 m45 m44 L x.1 x.2.1 x.2.2) (fun L x => e12 m43 m45 m44 L x.1 x.2.1 x.2.2) hm hs12
/-! loop.example/g00222/spec.l3Name -/
def ev40 (m41 : (Int × Int × Int) → Option Bool) : Env cxT := { Kc := kcOf [(41, c41 m41)], Kw := kwOf [], lv := fun i => [], xv := fun i => none }
theorem i40 (m41 : (Int × Int × Int) → Option Bool) (L : Nat) (a0 : Int) : evF prog (ev40 m41) (loopN L) f40 (a40.enc a0) =
  tst (m41 (a0, ((1 : Int), (999 : Int)))) false fun (q1 : Bool) => some (n40 q1) := by kernel_rfl
def g40 (m41 : (Int × Int × Int) → Option Bool) (L : Nat) (a0 : Int) : Option Bool :=
  tst (m41 (a0, ((1 : Int), (999 : Int)))) false fun (q1 : Bool) => some q1
theorem e40 (m41 : (Int × Int × Int) → Option Bool) (L : Nat) (a0 : Int) : evF prog (ev40 m41) (loopN L) f40 (a40.enc a0) = (g40 m41 L a0).map n40 := by
  rw [i40]; simp only [g40, map_bif, map_tst, map_bnd, Option.map_some, Option.map_none]
theorem s40 (m41 : (Int × Int × Int) → Option Bool) (h41 : Sat prog cxT 41 (c41 m41)) (m : Int → Option Bool) (hm : ∀ (x : Int) t, m x = some t → ∃ L, g40 m41 L x = some t) : Sat prog cxT 40 (c40 m) :=
  sat_t cxT_ok cxT_pok (by rfl) (fn := f40) rfl a40 n40 dd40 m (ev40 m41) (kok_cons h41 kok_nil) kwok_nil (fun L x => g40 m41 L x) (fun L x => e40 m41 L x) hm hs40
/-! loop.example/g00222/spec.l1In -/
def ev41 : Env cxT := { Kc := kcOf [], Kw := kwOf [], lv := fun i => [], xv := fun i => none }
theorem i41 (L : Nat) (a0 : Int) (a1 : Int) (a2 : Int) : evF prog ev41 (loopN L) f41 (a41.enc (a0, a1, a2)) =
  bif (decide (a0 ≥ a1)) then some (n41 (decide (a0 ≤ a2)))
  else some (n41 Bool.false) := by kernel_rfl
def g41 (L : Nat) (a0 : Int) (a1 : Int) (a2 : Int) : Option Bool :=
  bif (decide (a0 ≥ a1)) then some (decide (a0 ≤ a2))
  else some Bool.false
theorem e41 (L : Nat) (a0 : Int) (a1 : Int) (a2 : Int) : evF prog ev41 (loopN L) f41 (a41.enc (a0, a1, a2)) = (g41 L a0 a1 a2).map n41 := by
  rw [i41]; simp only [g41, map_bif, map_tst, map_bnd, Option.map_some, Option.map_none]
theorem s41 (m : (Int × Int × Int) → Option Bool) (hm : ∀ (x : (Int × Int × Int)) t, m x = some t → ∃ L, g41 L x.1 x.2.1 x.2.2 = some t) : Sat prog cxT 41 (c41 m) :=
  sat_t cxT_ok cxT_pok (by rfl) (fn := f41) rfl a41 n41 dd41 m ev41 kok_nil kwok_nil (fun L x => g41 L x.1 x.2.1 x.2.2) (fun L x => e41 L x.1 x.2.1 x.2.2) hm hs41
/-! loop.example/g00222/spec.l12Bound -/
def ev42 : Env cxT := { Kc := kcOf [], Kw := kwOf [], lv := fun i => [], xv := fun i => none }
theorem i42 (L : Nat) (a0_0 : Int) (a0_1 : Bool) (a0_2 : Int) : evF prog ev42 (loopN L) f42 (a42.enc (a0_0, a0_1, a0_2)) =
  bif a0_1 then some (n42 (3 : Int))
  else some (n42 (2 : Int)) := by kernel_rfl
def g42 (L : Nat) (a0_0 : Int) (a0_1 : Bool) (a0_2 : Int) : Option Int :=
  bif a0_1 then some (3 : Int)
  else some (2 : Int)
theorem e42 (L : Nat) (a0_0 : Int) (a0_1 : Bool) (a0_2 : Int) : evF prog ev42 (loopN L) f42 (a42.enc (a0_0, a0_1, a0_2)) = (g42 L a0_0 a0_1 a0_2).map n42 := by
  rw [i42]; simp only [g42, map_bif, map_tst, map_bnd, Option.map_some, Option.map_none]
theorem s42 (m : (Int × Bool × Int) → Option Int) (hm : ∀ (x : (Int × Bool × Int)) t, m x = some t → ∃ L, g42 L x.1 x.2.1 x.2.2 = some t) : Sat prog cxT 42 (c42 m) :=
  sat_t cxT_ok cxT_pok (by rfl) (fn := f42) rfl a42 n42 dd42 m ev42 kok_nil kwok_nil (fun L x => g42 L x.1 x.2.1 x.2.2) (fun L x => e42 L x.1 x.2.1 x.2.2) hm hs42
/-! loop.example/g00222/impl.isName -/
def ev43 : Env cxT := { Kc := kcOf [], Kw := kwOf [], lv := fun i => [], xv := fun i => none }
theorem i43 (L : Nat) (a0 : Int) : evF prog ev43 (loopN L) f43 (a43.enc a0) =
  bif (decide (a0 ≥ (1 : Int))) then some (n43 (decide (a0 ≤ (999 : Int))))
  else some (n43 Bool.false) := by kernel_rfl
def g43 (L : Nat) (a0 : Int) : Option Bool :=
  bif (decide (a0 ≥ (1 : Int))) then some (decide (a0 ≤ (999 : Int)))
  else some Bool.false
theorem e43 (L : Nat) (a0 : Int) : evF prog ev43 (loopN L) f43 (a43.enc a0) = (g43 L a0).map n43 := by
  rw [i43]; simp only [g43, map_bif, map_tst, map_bnd, Option.map_some, Option.map_none]
theorem s43 (m : Int → Option Bool) (hm : ∀ (x : Int) t, m x = some t → ∃ L, g43 L x = some t) : Sat prog cxT 43 (c43 m) :=
  sat_t cxT_ok cxT_pok (by rfl) (fn := f43) rfl a43 n43 dd43 m ev43 kok_nil kwok_nil (fun L x => g43 L x) (fun L x => e43 L x) hm hs43
/-! loop.example/g00222/impl.isFromTo -/
def ev44 : Env cxT := { Kc := kcOf [], Kw := kwOf [], lv := fun i => [], xv := fun i => none }
theorem i44 (L : Nat) (a0 : Int) (a1 : Int) (a2 : Int) : evF prog ev44 (loopN L) f44 (a44.enc (a0, a1, a2)) =
  bif (decide (a0 ≥ a1)) then some (n44 (decide (a0 ≤ a2)))
  else some (n44 Bool.false) := by kernel_rfl
def g44 (L : Nat) (a0 : Int) (a1 : Int) (a2 : Int) : Option Bool :=
  bif (decide (a0 ≥ a1)) then some (decide (a0 ≤ a2))
  else some Bool.false
theorem e44 (L : Nat) (a0 : Int) (a1 : Int) (a2 : Int) : evF prog ev44 (loopN L) f44 (a44.enc (a0, a1, a2)) = (g44 L a0 a1 a2).map n44 := by
  rw [i44]; simp only [g44, map_bif, map_tst, map_bnd, Option.map_some, Option.map_none]
theorem s44 (m : (Int × Int × Int) → Option Bool) (hm : ∀ (x : (Int × Int × Int)) t, m x = some t → ∃ L, g44 L x.1 x.2.1 x.2.2 = some t) : Sat prog cxT 44 (c44 m) :=
  sat_t cxT_ok cxT_pok (by rfl) (fn := f44) rfl a44 n44 dd44 m ev44 kok_nil kwok_nil (fun L x => g44 L x.1 x.2.1 x.2.2) (fun L x => e44 L x.1 x.2.1 x.2.2) hm hs44
/-! loop.example/g00222/impl.turnsAfter -/
def ev45 : Env cxT := { Kc := kcOf [], Kw := kwOf [], lv := fun i => [], xv := fun i => none }
theorem i45 (L : Nat) (a0 : Bool) : evF prog ev45 (loopN L) f45 (a45.enc a0) =
  bif a0 then some (n45 (3 : Int))
  else some (n45 (2 : Int)) := by kernel_rfl
def g45 (L : Nat) (a0 : Bool) : Option Int :=
  bif a0 then some (3 : Int)
  else some (2 : Int)
theorem e45 (L : Nat) (a0 : Bool) : evF prog ev45 (loopN L) f45 (a45.enc a0) = (g45 L a0).map n45 := by
  rw [i45]; simp only [g45, map_bif, map_tst, map_bnd, Option.map_some, Option.map_none]
theorem s45 (m : Bool → Option Int) (hm : ∀ (x : Bool) t, m x = some t → ∃ L, g45 L x = some t) : Sat prog cxT 45 (c45 m) :=
  sat_t cxT_ok cxT_pok (by rfl) (fn := f45) rfl a45 n45 dd45 m ev45 kok_nil kwok_nil (fun L x => g45 L x) (fun L x => e45 L x) hm hs45
/-! loop.example/g00222/spec.l12Probe -/
def ev46 (m42 : (Int × Bool × Int) → Option Int) : Env cxT := { Kc := kcOf [(42, c42 m42)], Kw := kwOf [], lv := fun i => [], xv := fun i => none }
theorem i46 (m42 : (Int × Bool × Int) → Option Int) (L : Nat) (a0_0 : Int) (a0_1 : Bool) (a0_2 : Int) (a1 : Bool) : evF prog (ev46 m42) (loopN L) f46 (a46.enc ((a0_0, a0_1, a0_2), a1)) =
  bif (a1 == a0_1) then some (n46 (a0_0, a0_1, (0 : Int), Bool.false))
  else tst (m42 (a0_0, (a0_1, a0_2))) (0 : Int) fun (q1 : Int) => bif ((Go.IntKind.wrap Go.IntKind.i64 (a0_2 + (1 : Int))) == q1) then some (n46 (a0_0, (!a0_1), (0 : Int), Bool.true))
    else some (n46 (a0_0, a0_1, (Go.IntKind.wrap Go.IntKind.i64 (a0_2 + (1 : Int))), Bool.false)) := by kernel_rfl
def g46 (m42 : (Int × Bool × Int) → Option Int) (L : Nat) (a0_0 : Int) (a0_1 : Bool) (a0_2 : Int) (a1 : Bool) : Option (Int × Bool × Int × Bool) :=
  bif (a1 == a0_1) then some (a0_0, a0_1, (0 : Int), Bool.false)
  else tst (m42 (a0_0, (a0_1, a0_2))) (0 : Int) fun (q1 : Int) => bif ((Go.IntKind.wrap Go.IntKind.i64 (a0_2 + (1 : Int))) == q1) then some (a0_0, (!a0_1), (0 : Int), Bool.true)
    else some (a0_0, a0_1, (Go.IntKind.wrap Go.IntKind.i64 (a0_2 + (1 : Int))), Bool.false)
theorem e46 (m42 : (Int × Bool × Int) → Option Int) (L : Nat) (a0_0 : Int) (a0_1 : Bool) (a0_2 : Int) (a1 : Bool) : evF prog (ev46 m42) (loopN L) f46 (a46.enc ((a0_0, a0_1, a0_2), a1)) = (g46 m42 L a0_0 a0_1 a0_2 a1).map n46 := by
  rw [i46]; simp only [g46, map_bif, map_tst, map_bnd, Option.map_some, Option.map_none]
theorem s46 (m42 : (Int × Bool × Int) → Option Int) (h42 : Sat prog cxT 42 (c42 m42)) (m : ((Int × Bool × Int) × Bool) → Option (Int × Bool × Int × Bool)) (hm : ∀ (x : ((Int × Bool × Int) × Bool)) t, m x = some t → ∃ L, g46 m42 L x.1.1 x.1.2.1 x.1.2.2 x.2 = some t) : Sat prog cxT 46 (c46 m) :=
  sat_t cxT_ok cxT_pok (by rfl) (fn := f46) rfl a46 n46 dd46 m (ev46 m42) (kok_cons h42 kok_nil) kwok_nil (fun L x => g46 m42 L x.1.1 x.1.2.1 x.1.2.2 x.2) (fun L x => e46 m42 L x.1.1 x.1.2.1 x.1.2.2 x.2) hm hs46
/-! loop.example/g00222/laws.eqHealth -/
def ev47 : Env cxT := { Kc := kcOf [], Kw := kwOf [], lv := fun i => [], xv := fun i => none }
theorem i47 (L : Nat) (a0_0 : Int) (a0_1 : Bool) (a0_2 : Int) (a1_0 : Int) (a1_1 : Bool) (a1_2 : Int) : evF prog ev47 (loopN L) f47 (a47.enc ((a0_0, a0_1, a0_2), (a1_0, a1_1, a1_2))) =
  bif (a0_0 != a1_0) then some (n47 Bool.false)
  else bif (!(a0_1 == a1_1)) then some (n47 Bool.false)
  else bif (a0_2 != a1_2) then some (n47 Bool.false)
  else some (n47 Bool.true) := by kernel_rfl
def g47 (L : Nat) (a0_0 : Int) (a0_1 : Bool) (a0_2 : Int) (a1_0 : Int) (a1_1 : Bool) (a1_2 : Int) : Option Bool :=
  bif (a0_0 != a1_0) then some Bool.false
  else bif (!(a0_1 == a1_1)) then some Bool.false
  else bif (a0_2 != a1_2) then some Bool.false
  else some Bool.true
theorem e47 (L : Nat) (a0_0 : Int) (a0_1 : Bool) (a0_2 : Int) (a1_0 : Int) (a1_1 : Bool) (a1_2 : Int) : evF prog ev47 (loopN L) f47 (a47.enc ((a0_0, a0_1, a0_2), (a1_0, a1_1, a1_2))) = (g47 L a0_0 a0_1 a0_2 a1_0 a1_1 a1_2).map n47 := by
  rw [i47]; simp only [g47, map_bif, map_tst, map_bnd, Option.map_some, Option.map_none]
theorem s47 (m : ((Int × Bool × Int) × (Int × Bool × Int)) → Option Bool) (hm : ∀ (x : ((Int × Bool × Int) × (Int × Bool × Int))) t, m x = some t → ∃ L, g47 L x.1.1 x.1.2.1 x.1.2.2 x.2.1 x.2.2.1 x.2.2.2 = some t) : Sat prog cxT 47 (c47 m) :=
  sat_t cxT_ok cxT_pok (by rfl) (fn := f47) rfl a47 n47 dd47 m ev47 kok_nil kwok_nil (fun L x => g47 L x.1.1 x.1.2.1 x.1.2.2 x.2.1 x.2.2.1 x.2.2.2) (fun L x => e47 L x.1.1 x.1.2.1 x.1.2.2 x.2.1 x.2.2.1 x.2.2.2) hm hs47
/-! loop.example/g00222/spec.ProbeHealth -/
def ev13 (m10 : (Int × Bool × Int) → Option Int) (m46 : ((Int × Bool × Int) × Bool) → Option (Int × Bool × Int × Bool)) : Env cxT := { Kc := kcOf [(10, c10 m10), (46, c46 m46)], Kw := kwOf [], lv := fun i => [], xv := fun i => none }
theorem i13 (m10 : (Int × Bool × Int) → Option Int) (m46 : ((Int × Bool × Int) × Bool) → Option (Int × Bool × Int × Bool)) (L : Nat) (a0_0 : Int) (a0_1 : Bool) (a0_2 : Int) (a1 : Bool) : evF prog (ev13 m10 m46) (loopN L) f13 (a13.enc ((a0_0, a0_1, a0_2), a1)) =
  tst (m10 (a0_0, (a0_1, a0_2))) (0 : Int) fun (q1 : Int) => bif (q1 != (0 : Int)) then some (n13 (q1, Bool.false, (0 : Int), Bool.false, (0 : Int)))
    else tst (m46 ((a0_0, (a0_1, a0_2)), a1)) ((0 : Int), false, (0 : Int), false) fun (q2 : (Int × Bool × Int × Bool)) => some (n13 ((0 : Int), q2.2.2.2, q2.1, q2.2.1, q2.2.2.1)) := by kernel_rfl
def g13 (m10 : (Int × Bool × Int) → Option Int) (m46 : ((Int × Bool × Int) × Bool) → Option (Int × Bool × Int × Bool)) (L : Nat) (a0_0 : Int) (a0_1 : Bool) (a0_2 : Int) (a1 : Bool) : Option (Int × Bool × Int × Bool × Int) :=
  tst (m10 (a0_0, (a0_1, a0_2))) (0 : Int) fun (q1 : Int) => bif (q1 != (0 : Int)) then some (q1, Bool.false, (0 : Int), Bool.false, (0 : Int))
    else tst (m46 ((a0_0, (a0_1, a0_2)), a1)) ((0 : Int), false, (0 : Int), false) fun (q2 : (Int × Bool × Int × Bool)) => some ((0 : Int), q2.2.2.2, q2.1, q2.2.1, q2.2.2.1)
theorem e13 (m10 : (Int × Bool × Int) → Option Int) (m46 : ((Int × Bool × Int) × Bool) → Option (Int × Bool × Int × Bool)) (L : Nat) (a0_0 : Int) (a0_1 : Bool) (a0_2 : Int) (a1 : Bool) : evF prog (ev13 m10 m46) (loopN L) f13 (a13.enc ((a0_0, a0_1, a0_2), a1)) = (g13 m10 m46 L a0_0 a0_1 a0_2 a1).map n13 := by
  rw [i13]; simp only [g13, map_bif, map_tst, map_bnd, Option.map_some, Option.map_none]
/-! loop.example/g00222/impl.ProbeHealth -/
def ev14 (m12 : (Int × Bool × Int) → Option Int) (m45 : Bool → Option Int) : Env cxT := { Kc := kcOf [(12, c12 m12), (45, c45 m45)], Kw := kwOf [], lv := fun i => [], xv := fun i => none }
theorem i14 (m12 : (Int × Bool × Int) → Option Int) (m45 : Bool → Option Int) (L : Nat) (a0_0 : Int) (a0_1 : Bool) (a0_2 : Int) (a1 : Bool) : evF prog (ev14 m12 m45) (loopN L) f14 (a14.enc ((a0_0, a0_1, a0_2), a1)) =
  tst (m12 (a0_0, (a0_1, a0_2))) (0 : Int) fun (q1 : Int) => bif (q1 != (0 : Int)) then some (n14 (q1, Bool.false, (0 : Int), Bool.false, (0 : Int)))
    else bif (a1 == a0_1) then some (n14 ((0 : Int), Bool.false, a0_0, a0_1, (0 : Int)))
    else tst (m45 a0_1) (0 : Int) fun (q2 : Int) => bif (decide ((Go.IntKind.wrap Go.IntKind.i64 (a0_2 + (1 : Int))) < q2)) then some (n14 ((0 : Int), Bool.false, a0_0, a0_1, (Go.IntKind.wrap Go.IntKind.i64 (a0_2 + (1 : Int)))))
      else some (n14 ((0 : Int), Bool.true, a0_0, (!a0_1), (0 : Int))) := by kernel_rfl
def g14 (m12 : (Int × Bool × Int) → Option Int) (m45 : Bool → Option Int) (L : Nat) (a0_0 : Int) (a0_1 : Bool) (a0_2 : Int) (a1 : Bool) : Option (Int × Bool × Int × Bool × Int) :=
  tst (m12 (a0_0, (a0_1, a0_2))) (0 : Int) fun (q1 : Int) => bif (q1 != (0 : Int)) then some (q1, Bool.false, (0 : Int), Bool.false, (0 : Int))
    else bif (a1 == a0_1) then some ((0 : Int), Bool.false, a0_0, a0_1, (0 : Int))
    else tst (m45 a0_1) (0 : Int) fun (q2 : Int) => bif (decide ((Go.IntKind.wrap Go.IntKind.i64 (a0_2 + (1 : Int))) < q2)) then some ((0 : Int), Bool.false, a0_0, a0_1, (Go.IntKind.wrap Go.IntKind.i64 (a0_2 + (1 : Int))))
      else some ((0 : Int), Bool.true, a0_0, (!a0_1), (0 : Int))
theorem e14 (m12 : (Int × Bool × Int) → Option Int) (m45 : Bool → Option Int) (L : Nat) (a0_0 : Int) (a0_1 : Bool) (a0_2 : Int) (a1 : Bool) : evF prog (ev14 m12 m45) (loopN L) f14 (a14.enc ((a0_0, a0_1, a0_2), a1)) = (g14 m12 m45 L a0_0 a0_1 a0_2 a1).map n14 := by
  rw [i14]; simp only [g14, map_bif, map_tst, map_bnd, Option.map_some, Option.map_none]
theorem s14 (m12 : (Int × Bool × Int) → Option Int) (m45 : Bool → Option Int) (h12 : Sat prog cxT 12 (c12 m12)) (h45 : Sat prog cxT 45 (c45 m45)) (m : ((Int × Bool × Int) × Bool) → Option (Int × Bool × Int × Bool × Int)) (hm : ∀ (x : ((Int × Bool × Int) × Bool)) t, m x = some t → ∃ L, g14 m12 m45 L x.1.1 x.1.2.1 x.1.2.2 x.2 = some t) : Sat prog cxT 14 (c14 m) :=
  sat_t cxT_ok cxT_pok (by rfl) (fn := f14) rfl a14 n14 dd14 m (ev14 m12 m45) (kok_cons h12 (kok_cons h45 kok_nil)) kwok_nil (fun L x => g14 m12 m45 L x.1.1 x.1.2.1 x.1.2.2 x.2) (fun L x => e14 m12 m45 L x.1.1 x.1.2.1 x.1.2.2 x.2) hm hs14
/-! loop.example/g00222/laws.toHealth -/
def ev11 : Env cxT := { Kc := kcOf [], Kw := kwOf [], lv := fun i => [], xv := fun i => none }
theorem i11 (L : Nat) (a0_0 : Int) (a0_1 : Bool) (a0_2 : Int) : evF prog ev11 (loopN L) f11 (a11.enc (a0_0, a0_1, a0_2)) =
  some (n11 (a0_0, a0_1, a0_2)) := by kernel_rfl
def g11 (L : Nat) (a0_0 : Int) (a0_1 : Bool) (a0_2 : Int) : Option (Int × Bool × Int) :=
  some (a0_0, a0_1, a0_2)
theorem e11 (L : Nat) (a0_0 : Int) (a0_1 : Bool) (a0_2 : Int) : evF prog ev11 (loopN L) f11 (a11.enc (a0_0, a0_1, a0_2)) = (g11 L a0_0 a0_1 a0_2).map n11 := by
  rw [i11]; simp only [g11, map_bif, map_tst, map_bnd, Option.map_some, Option.map_none]
theorem s11 (m : (Int × Bool × Int) → Option (Int × Bool × Int)) (hm : ∀ (x : (Int × Bool × Int)) t, m x = some t → ∃ L, g11 L x.1 x.2.1 x.2.2 = some t) : Sat prog cxT 11 (c11 m) :=
  sat_t cxT_ok cxT_pok (by rfl) (fn := f11) rfl a11 n11 dd11 m ev11 kok_nil kwok_nil (fun L x => g11 L x.1 x.2.1 x.2.2) (fun L x => e11 L x.1 x.2.1 x.2.2) hm hs11
/-! loop.example/g00222/laws.eqHealthResult -/
def ev15 (m47 : ((Int × Bool × Int) × (Int × Bool × Int)) → Option Bool) : Env cxT := { Kc := kcOf [(47, c47 m47)], Kw := kwOf [], lv := fun i => [], xv := fun i => none }
theorem i15 (m47 : ((Int × Bool × Int) × (Int × Bool × Int)) → Option Bool) (L : Nat) (a0_0 : Int) (a0_1 : Bool) (a0_2 : Int) (a0_3 : Bool) (a0_4 : Int) (a1_0 : Int) (a1_1 : Bool) (a1_2 : Int) (a1_3 : Bool) (a1_4 : Int) : evF prog (ev15 m47) (loopN L) f15 (a15.enc ((a0_0, a0_1, a0_2, a0_3, a0_4), (a1_0, a1_1, a1_2, a1_3, a1_4))) =
  bif (a0_0 != a1_0) then some (n15 Bool.false)
  else bif (!(a0_1 == a1_1)) then some (n15 Bool.false)
  else tst (m47 ((a0_2, (a0_3, a0_4)), (a1_2, (a1_3, a1_4)))) false fun (q1 : Bool) => bif (!q1) then some (n15 Bool.false)
    else some (n15 Bool.true) := by kernel_rfl
def g15 (m47 : ((Int × Bool × Int) × (Int × Bool × Int)) → Option Bool) (L : Nat) (a0_0 : Int) (a0_1 : Bool) (a0_2 : Int) (a0_3 : Bool) (a0_4 : Int) (a1_0 : Int) (a1_1 : Bool) (a1_2 : Int) (a1_3 : Bool) (a1_4 : Int) : Option Bool :=
  bif (a0_0 != a1_0) then some Bool.false
  else bif (!(a0_1 == a1_1)) then some Bool.false
  else tst (m47 ((a0_2, (a0_3, a0_4)), (a1_2, (a1_3, a1_4)))) false fun (q1 : Bool) => bif (!q1) then some Bool.false
    else some Bool.true
theorem e15 (m47 : ((Int × Bool × Int) × (Int × Bool × Int)) → Option Bool) (L : Nat) (a0_0 : Int) (a0_1 : Bool) (a0_2 : Int) (a0_3 : Bool) (a0_4 : Int) (a1_0 : Int) (a1_1 : Bool) (a1_2 : Int) (a1_3 : Bool) (a1_4 : Int) : evF prog (ev15 m47) (loopN L) f15 (a15.enc ((a0_0, a0_1, a0_2, a0_3, a0_4), (a1_0, a1_1, a1_2, a1_3, a1_4))) = (g15 m47 L a0_0 a0_1 a0_2 a0_3 a0_4 a1_0 a1_1 a1_2 a1_3 a1_4).map n15 := by
  rw [i15]; simp only [g15, map_bif, map_tst, map_bnd, Option.map_some, Option.map_none]
theorem s15 (m47 : ((Int × Bool × Int) × (Int × Bool × Int)) → Option Bool) (h47 : Sat prog cxT 47 (c47 m47)) (m : ((Int × Bool × Int × Bool × Int) × (Int × Bool × Int × Bool × Int)) → Option Bool) (hm : ∀ (x : ((Int × Bool × Int × Bool × Int) × (Int × Bool × Int × Bool × Int))) t, m x = some t → ∃ L, g15 m47 L x.1.1 x.1.2.1 x.1.2.2.1 x.1.2.2.2.1 x.1.2.2.2.2 x.2.1 x.2.2.1 x.2.2.2.1 x.2.2.2.2.1 x.2.2.2.2.2 = some t) : Sat prog cxT 15 (c15 m) :=
  sat_t cxT_ok cxT_pok (by rfl) (fn := f15) rfl a15 n15 dd15 m (ev15 m47) (kok_cons h47 kok_nil) kwok_nil (fun L x => g15 m47 L x.1.1 x.1.2.1 x.1.2.2.1 x.1.2.2.2.1 x.1.2.2.2.2 x.2.1 x.2.2.1 x.2.2.2.1 x.2.2.2.2.1 x.2.2.2.2.2) (fun L x => e15 m47 L x.1.1 x.1.2.1 x.1.2.2.1 x.1.2.2.2.1 x.1.2.2.2.2 x.2.1 x.2.2.1 x.2.2.2.1 x.2.2.2.2.1 x.2.2.2.2.2) hm hs15
/-! loop.example/g00222/laws.toVerdict -/
/-! loop.example/g00222/laws.eqVerdict -/
/-! loop.example/g00222/spec.ProbeMany -/
/-! loop.example/g00222/laws.toBoolS -/
def ev17 : Env cxT := { Kc := kcOf [], Kw := kwOf [], lv := fun i => if i = 0 then [(0, [some 4]), (3, [some 4]), (4, [])] else [], xv := fun i => if i = 0 then some [(3, [some 4])] else none }
def S17_0 (a0 : (List Bool)) (v0_3 : (List Bool)) (v0_4 : Int) : St cxT.ty := { slots := [(.inl (.inl (ls { own := 0, nm := 0, e := 4, o := false, xs := a0 }))), junk, junk, (.inl (.inl (ls { own := 1, nm := 192, e := 4, o := true, xs := v0_3 }))), (.inl (.inl (lv (.int .i64 v0_4))))] ++ List.replicate 17 junk, D := [], F := [], ctr := 1 }
def X17_0 (a0 : (List Bool)) (w0_3 : (List Bool)) : St cxT.ty := { slots := [junk, junk, junk, (.inl (.inl (ls { own := 1, nm := 192, e := 4, o := true, xs := w0_3 })))] ++ List.replicate 18 junk, D := [], F := [], ctr := 1 }
theorem i17 (L : Nat) (a0 : (List Bool)) : evF prog ev17 (loopN L) f17 (a17.enc a0) =
  bif (((decide ((0 : Int) ≤ (Nat.cast (List.length a0) : Int))) && (decide ((Nat.cast (List.length a0) : Int) ≤ (Nat.cast (List.length a0) : Int)))) && (decide ((Nat.cast (List.length a0) : Int) ≤ (1000000000 : Int)))) then headF prog ev17 L f17 0 [1, 1, 0, 1, 0, 0] (outK (outV prog f17) (topK prog ev17 L f17 [1, 1, 0, 1] (outV prog f17)).n (topK prog ev17 L f17 [1, 1, 0, 1] (outV prog f17)).x) L (S17_0 a0 (List.replicate (Int.toNat (Nat.cast (List.length a0) : Int)) Bool.false) (0 : Int))
  else none := by kernel_rfl
theorem r17_0 (L : Nat) (a0 : (List Bool)) (k : St cxT.ty → Option (V cxT.ty)) (xk : Nat → St cxT.ty → Option (V cxT.ty)) (g : St cxT.ty → Option (V cxT.ty)) (v0_3 : (List Bool)) (v0_4 : Int) : roundF prog ev17 L f17 0 [1, 1, 0, 1, 0, 0] (outK (outV prog f17) k xk) g (S17_0 a0 v0_3 v0_4) =
  bif (decide (v0_4 < (Nat.cast (List.length a0) : Int))) then bif ((decide ((0 : Int) ≤ v0_4)) && (decide (v0_4 < (Nat.cast (List.length a0) : Int)))) then bif ((decide ((0 : Int) ≤ v0_4)) && (decide (v0_4 < (Nat.cast (List.length v0_3) : Int)))) then g (S17_0 a0 (List.set v0_3 (Int.toNat v0_4) (List.getD a0 (Int.toNat v0_4) Bool.false)) (Go.IntKind.wrap Go.IntKind.i64 (v0_4 + (1 : Int))))
      else none
    else none
  else k (X17_0 a0 v0_3) := by kernel_rfl
theorem t17_0 (L : Nat) (a0 : (List Bool)) (w0_3 : (List Bool)) : (topK prog ev17 L f17 [1, 1, 0, 1] (outV prog f17)).n (X17_0 a0 w0_3) =
  some (n17 w0_3) := by kernel_rfl
def l17_0 (L : Nat) (a0 : (List Bool)) : Nat → (List Bool) → Int → ((List Bool) → Option (List Bool)) → Option (List Bool)
  | 0, _, _, _ => none
  | n + 1, v0_3, v0_4, k =>
    bif (decide (v0_4 < (Nat.cast (List.length a0) : Int))) then bif ((decide ((0 : Int) ≤ v0_4)) && (decide (v0_4 < (Nat.cast (List.length a0) : Int)))) then bif ((decide ((0 : Int) ≤ v0_4)) && (decide (v0_4 < (Nat.cast (List.length v0_3) : Int)))) then l17_0 L a0 n (List.set v0_3 (Int.toNat v0_4) (List.getD a0 (Int.toNat v0_4) Bool.false)) (Go.IntKind.wrap Go.IntKind.i64 (v0_4 + (1 : Int))) k
        else none
      else none
    else k v0_3
theorem h17_0 (L : Nat) (a0 : (List Bool)) (k : St cxT.ty → Option (V cxT.ty)) (xk : Nat → St cxT.ty → Option (V cxT.ty)) (k' : (List Bool) → Option (List Bool)) (hk : ∀ (w0_3 : (List Bool)), k (X17_0 a0 w0_3) = (k' w0_3).map n17) : ∀ (n : Nat) (v0_3 : (List Bool)) (v0_4 : Int), headF prog ev17 L f17 0 [1, 1, 0, 1, 0, 0] (outK (outV prog f17) k xk) n (S17_0 a0 v0_3 v0_4) = (l17_0 L a0 n v0_3 v0_4 k').map n17
  | 0, _, _ => rfl
  | n + 1, v0_3, v0_4 => by
    rw [headF_round, r17_0]
    have ih := h17_0 L a0 k xk k' hk n
    simp only [l17_0, map_bif, map_tst, map_bnd, Option.map_some, Option.map_none, ih, hk]
def g17 (L : Nat) (a0 : (List Bool)) : Option (List Bool) :=
  bif (((decide ((0 : Int) ≤ (Nat.cast (List.length a0) : Int))) && (decide ((Nat.cast (List.length a0) : Int) ≤ (Nat.cast (List.length a0) : Int)))) && (decide ((Nat.cast (List.length a0) : Int) ≤ (1000000000 : Int)))) then l17_0 L a0 L (List.replicate (Int.toNat (Nat.cast (List.length a0) : Int)) Bool.false) (0 : Int) (fun (w0_3 : (List Bool)) => some w0_3)
  else none
theorem e17 (L : Nat) (a0 : (List Bool)) : evF prog ev17 (loopN L) f17 (a17.enc a0) = (g17 L a0).map n17 := by
  let K'0 : (List Bool) → Option (List Bool) := (fun (w0_3 : (List Bool)) => some w0_3)
  have hin0 : ∀ (v0_3 : (List Bool)) (v0_4 : Int), headF prog ev17 L f17 0 [1, 1, 0, 1, 0, 0] (outK (outV prog f17) (topK prog ev17 L f17 [1, 1, 0, 1] (outV prog f17)).n (topK prog ev17 L f17 [1, 1, 0, 1] (outV prog f17)).x) L (S17_0 a0 v0_3 v0_4) = (l17_0 L a0 L v0_3 v0_4 K'0).map n17 := fun v0_3 v0_4 => h17_0 L a0 _ _ K'0 (fun w0_3 => by rw [t17_0]; simp only [K'0, map_bif, map_tst, map_bnd, Option.map_some, Option.map_none]) L v0_3 v0_4
  rw [i17]; simp only [g17, map_bif, map_tst, map_bnd, Option.map_some, Option.map_none, hin0, K'0]
theorem s17 (m : (List Bool) → Option (List Bool)) (hm : ∀ (x : (List Bool)) t, m x = some t → ∃ L, g17 L x = some t) : Sat prog cxT 17 (c17 m) :=
  sat_t cxT_ok cxT_pok (by rfl) (fn := f17) rfl a17 n17 dd17 m ev17 kok_nil kwok_nil (fun L x => g17 L x) (fun L x => e17 L x) hm hs17
/-! loop.example/g00222/impl.ProbeMany -/
def ev18 (m12 : (Int × Bool × Int) → Option Int) (m14 : ((Int × Bool × Int) × Bool) → Option (Int × Bool × Int × Bool × Int)) : Env cxT := { Kc := kcOf [(12, c12 m12), (14, c14 m14)], Kw := kwOf [], lv := fun i => if i = 0 then [(2, []), (4, []), (6, []), (21, [some 4]), (22, []), (23, [])] else [], xv := fun i => if i = 0 then some [(2, []), (4, []), (6, [])] else none }
def S18_0 (a0_0 : Int) (a0_1 : Bool) (a0_2 : Int) (a1 : (List Bool)) (v0_2_0 : Int) (v0_2_1 : Bool) (v0_2_2 : Int) (v0_4_0 : Int) (v0_4_1 : Bool) (v0_4_2 : Int) (v0_4_3 : Bool) (v0_4_4 : Int) (v0_23 : Int) : St cxT.ty := { slots := [junk, junk, (.inr (.inr { kind := 0, nm := 128, cells := [(lv (.int .i64 v0_2_0)), (lv (.bool v0_2_1)), (lv (.int .i64 v0_2_2))], s := { own := 0, nm := 0, e := 0, o := false, xs := ([] : List (PUnit)) }, i := 0, off := 0 })), junk, (.inr (.inr { kind := 0, nm := 256, cells := [(lv (.int .i64 v0_4_0)), (lv (.bool v0_4_1)), (lv (.int .i64 v0_4_2)), (lv (.bool v0_4_3)), (lv (.int .i64 v0_4_4))], s := { own := 0, nm := 0, e := 0, o := false, xs := ([] : List (PUnit)) }, i := 0, off := 0 })), junk, (.inl (.inl (lv (.bool a0_1)))), junk, junk, junk, junk, junk, junk, junk, junk, junk, junk, junk, junk, junk, junk, (.inl (.inl (ls { own := 0, nm := 0, e := 4, o := false, xs := a1 }))), (.inl (.inl (lv (.int .i64 (Nat.cast (List.length a1) : Int))))), (.inl (.inl (lv (.int .i64 v0_23))))] ++ List.replicate 14 junk, D := [], F := [], ctr := 1 }
def X18_0 (a0_0 : Int) (a0_1 : Bool) (a0_2 : Int) (a1 : (List Bool)) (w0_2_0 : Int) (w0_2_1 : Bool) (w0_2_2 : Int) (w0_4_0 : Int) (w0_4_1 : Bool) (w0_4_2 : Int) (w0_4_3 : Bool) (w0_4_4 : Int) : St cxT.ty := { slots := [junk, junk, (.inr (.inr { kind := 0, nm := 128, cells := [(lv (.int .i64 w0_2_0)), (lv (.bool w0_2_1)), (lv (.int .i64 w0_2_2))], s := { own := 0, nm := 0, e := 0, o := false, xs := ([] : List (PUnit)) }, i := 0, off := 0 })), junk, (.inr (.inr { kind := 0, nm := 256, cells := [(lv (.int .i64 w0_4_0)), (lv (.bool w0_4_1)), (lv (.int .i64 w0_4_2)), (lv (.bool w0_4_3)), (lv (.int .i64 w0_4_4))], s := { own := 0, nm := 0, e := 0, o := false, xs := ([] : List (PUnit)) }, i := 0, off := 0 })), junk, (.inl (.inl (lv (.bool a0_1))))] ++ List.replicate 31 junk, D := [], F := [], ctr := 1 }
theorem i18 (m12 : (Int × Bool × Int) → Option Int) (m14 : ((Int × Bool × Int) × Bool) → Option (Int × Bool × Int × Bool × Int)) (L : Nat) (a0_0 : Int) (a0_1 : Bool) (a0_2 : Int) (a1 : (List Bool)) : evF prog (ev18 m12 m14) (loopN L) f18 (a18.enc ((a0_0, a0_1, a0_2), a1)) =
  tst (m12 (a0_0, (a0_1, a0_2))) (0 : Int) fun (q1 : Int) => bif (q1 != (0 : Int)) then some (n18 (q1, Bool.false, (0 : Int), Bool.false, (0 : Int)))
    else bif (decide ((Nat.cast (List.length a1) : Int) > (100 : Int))) then some (n18 ((2 : Int), Bool.false, (0 : Int), Bool.false, (0 : Int)))
    else headF prog (ev18 m12 m14) L f18 0 [1, 1, 1, 1, 0, 1, 0, 0] (outK (outV prog f18) (topK prog (ev18 m12 m14) L f18 [1, 1, 1, 1, 0, 1] (outV prog f18)).n (topK prog (ev18 m12 m14) L f18 [1, 1, 1, 1, 0, 1] (outV prog f18)).x) L (S18_0 a0_0 a0_1 a0_2 a1 a0_0 a0_1 a0_2 (0 : Int) Bool.false (0 : Int) Bool.false (0 : Int) (0 : Int)) := by kernel_rfl
theorem r18_0 (m12 : (Int × Bool × Int) → Option Int) (m14 : ((Int × Bool × Int) × Bool) → Option (Int × Bool × Int × Bool × Int)) (L : Nat) (a0_0 : Int) (a0_1 : Bool) (a0_2 : Int) (a1 : (List Bool)) (k : St cxT.ty → Option (V cxT.ty)) (xk : Nat → St cxT.ty → Option (V cxT.ty)) (g : St cxT.ty → Option (V cxT.ty)) (v0_2_0 : Int) (v0_2_1 : Bool) (v0_2_2 : Int) (v0_4_0 : Int) (v0_4_1 : Bool) (v0_4_2 : Int) (v0_4_3 : Bool) (v0_4_4 : Int) (v0_23 : Int) : roundF prog (ev18 m12 m14) L f18 0 [1, 1, 1, 1, 0, 1, 0, 0] (outK (outV prog f18) k xk) g (S18_0 a0_0 a0_1 a0_2 a1 v0_2_0 v0_2_1 v0_2_2 v0_4_0 v0_4_1 v0_4_2 v0_4_3 v0_4_4 v0_23) =
  bif (decide (v0_23 < (Nat.cast (List.length a1) : Int))) then bif ((decide ((0 : Int) ≤ v0_23)) && (decide (v0_23 < (Nat.cast (List.length a1) : Int)))) then tst (m14 ((v0_2_0, (v0_2_1, v0_2_2)), (List.getD a1 (Int.toNat v0_23) Bool.false))) ((0 : Int), false, (0 : Int), false, (0 : Int)) fun (q3 : (Int × Bool × Int × Bool × Int)) => g (S18_0 a0_0 a0_1 a0_2 a1 q3.2.2.1 q3.2.2.2.1 q3.2.2.2.2 v0_4_0 v0_4_1 v0_4_2 v0_4_3 v0_4_4 (Go.IntKind.wrap Go.IntKind.i64 (v0_23 + (1 : Int))))
    else none
  else k (X18_0 a0_0 a0_1 a0_2 a1 v0_2_0 v0_2_1 v0_2_2 v0_4_0 v0_4_1 v0_4_2 v0_4_3 v0_4_4) := by kernel_rfl
theorem t18_0 (m12 : (Int × Bool × Int) → Option Int) (m14 : ((Int × Bool × Int) × Bool) → Option (Int × Bool × Int × Bool × Int)) (L : Nat) (a0_0 : Int) (a0_1 : Bool) (a0_2 : Int) (a1 : (List Bool)) (w0_2_0 : Int) (w0_2_1 : Bool) (w0_2_2 : Int) (w0_4_0 : Int) (w0_4_1 : Bool) (w0_4_2 : Int) (w0_4_3 : Bool) (w0_4_4 : Int) : (topK prog (ev18 m12 m14) L f18 [1, 1, 1, 1, 0, 1] (outV prog f18)).n (X18_0 a0_0 a0_1 a0_2 a1 w0_2_0 w0_2_1 w0_2_2 w0_4_0 w0_4_1 w0_4_2 w0_4_3 w0_4_4) =
  some (n18 ((0 : Int), (!(w0_2_1 == a0_1)), w0_2_0, w0_2_1, w0_2_2)) := by kernel_rfl
def l18_0 (m12 : (Int × Bool × Int) → Option Int) (m14 : ((Int × Bool × Int) × Bool) → Option (Int × Bool × Int × Bool × Int)) (L : Nat) (a0_0 : Int) (a0_1 : Bool) (a0_2 : Int) (a1 : (List Bool)) : Nat → Int → Bool → Int → Int → Bool → Int → Bool → Int → Int → (Int → Bool → Int → Int → Bool → Int → Bool → Int → Option (Int × Bool × Int × Bool × Int)) → Option (Int × Bool × Int × Bool × Int)
  | 0, _, _, _, _, _, _, _, _, _, _ => none
  | n + 1, v0_2_0, v0_2_1, v0_2_2, v0_4_0, v0_4_1, v0_4_2, v0_4_3, v0_4_4, v0_23, k =>
    bif (decide (v0_23 < (Nat.cast (List.length a1) : Int))) then bif ((decide ((0 : Int) ≤ v0_23)) && (decide (v0_23 < (Nat.cast (List.length a1) : Int)))) then tst (m14 ((v0_2_0, (v0_2_1, v0_2_2)), (List.getD a1 (Int.toNat v0_23) Bool.false))) ((0 : Int), false, (0 : Int), false, (0 : Int)) fun (q4 : (Int × Bool × Int × Bool × Int)) => l18_0 m12 m14 L a0_0 a0_1 a0_2 a1 n q4.2.2.1 q4.2.2.2.1 q4.2.2.2.2 v0_4_0 v0_4_1 v0_4_2 v0_4_3 v0_4_4 (Go.IntKind.wrap Go.IntKind.i64 (v0_23 + (1 : Int))) k
      else none
    else k v0_2_0 v0_2_1 v0_2_2 v0_4_0 v0_4_1 v0_4_2 v0_4_3 v0_4_4
theorem h18_0 (m12 : (Int × Bool × Int) → Option Int) (m14 : ((Int × Bool × Int) × Bool) → Option (Int × Bool × Int × Bool × Int)) (L : Nat) (a0_0 : Int) (a0_1 : Bool) (a0_2 : Int) (a1 : (List Bool)) (k : St cxT.ty → Option (V cxT.ty)) (xk : Nat → St cxT.ty → Option (V cxT.ty)) (k' : Int → Bool → Int → Int → Bool → Int → Bool → Int → Option (Int × Bool × Int × Bool × Int)) (hk : ∀ (w0_2_0 : Int) (w0_2_1 : Bool) (w0_2_2 : Int) (w0_4_0 : Int) (w0_4_1 : Bool) (w0_4_2 : Int) (w0_4_3 : Bool) (w0_4_4 : Int), k (X18_0 a0_0 a0_1 a0_2 a1 w0_2_0 w0_2_1 w0_2_2 w0_4_0 w0_4_1 w0_4_2 w0_4_3 w0_4_4) = (k' w0_2_0 w0_2_1 w0_2_2 w0_4_0 w0_4_1 w0_4_2 w0_4_3 w0_4_4).map n18) : ∀ (n : Nat) (v0_2_0 : Int) (v0_2_1 : Bool) (v0_2_2 : Int) (v0_4_0 : Int) (v0_4_1 : Bool) (v0_4_2 : Int) (v0_4_3 : Bool) (v0_4_4 : Int) (v0_23 : Int), headF prog (ev18 m12 m14) L f18 0 [1, 1, 1, 1, 0, 1, 0, 0] (outK (outV prog f18) k xk) n (S18_0 a0_0 a0_1 a0_2 a1 v0_2_0 v0_2_1 v0_2_2 v0_4_0 v0_4_1 v0_4_2 v0_4_3 v0_4_4 v0_23) = (l18_0 m12 m14 L a0_0 a0_1 a0_2 a1 n v0_2_0 v0_2_1 v0_2_2 v0_4_0 v0_4_1 v0_4_2 v0_4_3 v0_4_4 v0_23 k').map n18
  | 0, _, _, _, _, _, _, _, _, _ => rfl
  | n + 1, v0_2_0, v0_2_1, v0_2_2, v0_4_0, v0_4_1, v0_4_2, v0_4_3, v0_4_4, v0_23 => by
    rw [headF_round, r18_0]
    have ih := h18_0 m12 m14 L a0_0 a0_1 a0_2 a1 k xk k' hk n
    simp only [l18_0, map_bif, map_tst, map_bnd, Option.map_some, Option.map_none, ih, hk]
def g18 (m12 : (Int × Bool × Int) → Option Int) (m14 : ((Int × Bool × Int) × Bool) → Option (Int × Bool × Int × Bool × Int)) (L : Nat) (a0_0 : Int) (a0_1 : Bool) (a0_2 : Int) (a1 : (List Bool)) : Option (Int × Bool × Int × Bool × Int) :=
  tst (m12 (a0_0, (a0_1, a0_2))) (0 : Int) fun (q1 : Int) => bif (q1 != (0 : Int)) then some (q1, Bool.false, (0 : Int), Bool.false, (0 : Int))
    else bif (decide ((Nat.cast (List.length a1) : Int) > (100 : Int))) then some ((2 : Int), Bool.false, (0 : Int), Bool.false, (0 : Int))
    else l18_0 m12 m14 L a0_0 a0_1 a0_2 a1 L a0_0 a0_1 a0_2 (0 : Int) Bool.false (0 : Int) Bool.false (0 : Int) (0 : Int) (fun (w0_2_0 : Int) (w0_2_1 : Bool) (w0_2_2 : Int) (w0_4_0 : Int) (w0_4_1 : Bool) (w0_4_2 : Int) (w0_4_3 : Bool) (w0_4_4 : Int) => some ((0 : Int), (!(w0_2_1 == a0_1)), w0_2_0, w0_2_1, w0_2_2))
theorem e18 (m12 : (Int × Bool × Int) → Option Int) (m14 : ((Int × Bool × Int) × Bool) → Option (Int × Bool × Int × Bool × Int)) (L : Nat) (a0_0 : Int) (a0_1 : Bool) (a0_2 : Int) (a1 : (List Bool)) : evF prog (ev18 m12 m14) (loopN L) f18 (a18.enc ((a0_0, a0_1, a0_2), a1)) = (g18 m12 m14 L a0_0 a0_1 a0_2 a1).map n18 := by
  let K'0 : Int → Bool → Int → Int → Bool → Int → Bool → Int → Option (Int × Bool × Int × Bool × Int) := (fun (w0_2_0 : Int) (w0_2_1 : Bool) (w0_2_2 : Int) (w0_4_0 : Int) (w0_4_1 : Bool) (w0_4_2 : Int) (w0_4_3 : Bool) (w0_4_4 : Int) => some ((0 : Int), (!(w0_2_1 == a0_1)), w0_2_0, w0_2_1, w0_2_2))
  have hin0 : ∀ (v0_2_0 : Int) (v0_2_1 : Bool) (v0_2_2 : Int) (v0_4_0 : Int) (v0_4_1 : Bool) (v0_4_2 : Int) (v0_4_3 : Bool) (v0_4_4 : Int) (v0_23 : Int), headF prog (ev18 m12 m14) L f18 0 [1, 1, 1, 1, 0, 1, 0, 0] (outK (outV prog f18) (topK prog (ev18 m12 m14) L f18 [1, 1, 1, 1, 0, 1] (outV prog f18)).n (topK prog (ev18 m12 m14) L f18 [1, 1, 1, 1, 0, 1] (outV prog f18)).x) L (S18_0 a0_0 a0_1 a0_2 a1 v0_2_0 v0_2_1 v0_2_2 v0_4_0 v0_4_1 v0_4_2 v0_4_3 v0_4_4 v0_23) = (l18_0 m12 m14 L a0_0 a0_1 a0_2 a1 L v0_2_0 v0_2_1 v0_2_2 v0_4_0 v0_4_1 v0_4_2 v0_4_3 v0_4_4 v0_23 K'0).map n18 := fun v0_2_0 v0_2_1 v0_2_2 v0_4_0 v0_4_1 v0_4_2 v0_4_3 v0_4_4 v0_23 => h18_0 m12 m14 L a0_0 a0_1 a0_2 a1 _ _ K'0 (fun w0_2_0 w0_2_1 w0_2_2 w0_4_0 w0_4_1 w0_4_2 w0_4_3 w0_4_4 => by rw [t18_0]; simp only [K'0, map_bif, map_tst, map_bnd, Option.map_some, Option.map_none]) L v0_2_0 v0_2_1 v0_2_2 v0_4_0 v0_4_1 v0_4_2 v0_4_3 v0_4_4 v0_23
  rw [i18]; simp only [g18, map_bif, map_tst, map_bnd, Option.map_some, Option.map_none, hin0, K'0]
theorem s18 (m12 : (Int × Bool × Int) → Option Int) (m14 : ((Int × Bool × Int) × Bool) → Option (Int × Bool × Int × Bool × Int)) (h12 : Sat prog cxT 12 (c12 m12)) (h14 : Sat prog cxT 14 (c14 m14)) (m : ((Int × Bool × Int) × (List Bool)) → Option (Int × Bool × Int × Bool × Int)) (hm : ∀ (x : ((Int × Bool × Int) × (List Bool))) t, m x = some t → ∃ L, g18 m12 m14 L x.1.1 x.1.2.1 x.1.2.2 x.2 = some t) : Sat prog cxT 18 (c18 m) :=
  sat_t cxT_ok cxT_pok (by rfl) (fn := f18) rfl a18 n18 dd18 m (ev18 m12 m14) (kok_cons h12 (kok_cons h14 kok_nil)) kwok_nil (fun L x => g18 m12 m14 L x.1.1 x.1.2.1 x.1.2.2 x.2) (fun L x => e18 m12 m14 L x.1.1 x.1.2.1 x.1.2.2 x.2) hm hs18
/-! loop.example/g00222/laws.eqBoolS -/
def ev19 : Env cxT := { Kc := kcOf [], Kw := kwOf [], lv := fun i => if i = 0 then [(0, [some 4]), (1, [some 4]), (5, [])] else [], xv := fun i => if i = 0 then some [] else none }
def S19_0 (a0 : (List Bool)) (a1 : (List Bool)) (v0_5 : Int) : St cxT.ty := { slots := [(.inl (.inl (ls { own := 0, nm := 0, e := 4, o := false, xs := a0 }))), (.inl (.inl (ls { own := 0, nm := 0, e := 4, o := false, xs := a1 }))), junk, junk, junk, (.inl (.inl (lv (.int .i64 v0_5))))] ++ List.replicate 20 junk, D := [], F := [], ctr := 1 }
def X19_0 (a0 : (List Bool)) (a1 : (List Bool)) : St cxT.ty := { slots := [] ++ List.replicate 26 junk, D := [], F := [], ctr := 1 }
theorem i19 (L : Nat) (a0 : (List Bool)) (a1 : (List Bool)) : evF prog ev19 (loopN L) f19 (a19.enc (a0, a1)) =
  bif ((Nat.cast (List.length a0) : Int) != (Nat.cast (List.length a1) : Int)) then some (n19 Bool.false)
  else headF prog ev19 L f19 0 [1, 1, 0, 1, 0, 0] (outK (outV prog f19) (topK prog ev19 L f19 [1, 1, 0, 1] (outV prog f19)).n (topK prog ev19 L f19 [1, 1, 0, 1] (outV prog f19)).x) L (S19_0 a0 a1 (0 : Int)) := by kernel_rfl
theorem r19_0 (L : Nat) (a0 : (List Bool)) (a1 : (List Bool)) (k : St cxT.ty → Option (V cxT.ty)) (xk : Nat → St cxT.ty → Option (V cxT.ty)) (g : St cxT.ty → Option (V cxT.ty)) (v0_5 : Int) : roundF prog ev19 L f19 0 [1, 1, 0, 1, 0, 0] (outK (outV prog f19) k xk) g (S19_0 a0 a1 v0_5) =
  bif (decide (v0_5 < (Nat.cast (List.length a0) : Int))) then bif ((decide ((0 : Int) ≤ v0_5)) && (decide (v0_5 < (Nat.cast (List.length a0) : Int)))) then bif ((decide ((0 : Int) ≤ v0_5)) && (decide (v0_5 < (Nat.cast (List.length a1) : Int)))) then bif (!((List.getD a0 (Int.toNat v0_5) Bool.false) == (List.getD a1 (Int.toNat v0_5) Bool.false))) then some (n19 Bool.false)
        else g (S19_0 a0 a1 (Go.IntKind.wrap Go.IntKind.i64 (v0_5 + (1 : Int))))
      else none
    else none
  else k (X19_0 a0 a1) := by kernel_rfl
theorem t19_0 (L : Nat) (a0 : (List Bool)) (a1 : (List Bool)) : (topK prog ev19 L f19 [1, 1, 0, 1] (outV prog f19)).n (X19_0 a0 a1) =
  some (n19 Bool.true) := by kernel_rfl
def l19_0 (L : Nat) (a0 : (List Bool)) (a1 : (List Bool)) : Nat → Int → (Option Bool) → Option Bool
  | 0, _, _ => none
  | n + 1, v0_5, k =>
    bif (decide (v0_5 < (Nat.cast (List.length a0) : Int))) then bif ((decide ((0 : Int) ≤ v0_5)) && (decide (v0_5 < (Nat.cast (List.length a0) : Int)))) then bif ((decide ((0 : Int) ≤ v0_5)) && (decide (v0_5 < (Nat.cast (List.length a1) : Int)))) then bif (!((List.getD a0 (Int.toNat v0_5) Bool.false) == (List.getD a1 (Int.toNat v0_5) Bool.false))) then some Bool.false
          else l19_0 L a0 a1 n (Go.IntKind.wrap Go.IntKind.i64 (v0_5 + (1 : Int))) k
        else none
      else none
    else k
theorem h19_0 (L : Nat) (a0 : (List Bool)) (a1 : (List Bool)) (k : St cxT.ty → Option (V cxT.ty)) (xk : Nat → St cxT.ty → Option (V cxT.ty)) (k' : Option Bool) (hk : k (X19_0 a0 a1) = (k').map n19) : ∀ (n : Nat) (v0_5 : Int), headF prog ev19 L f19 0 [1, 1, 0, 1, 0, 0] (outK (outV prog f19) k xk) n (S19_0 a0 a1 v0_5) = (l19_0 L a0 a1 n v0_5 k').map n19
  | 0, _ => rfl
  | n + 1, v0_5 => by
    rw [headF_round, r19_0]
    have ih := h19_0 L a0 a1 k xk k' hk n
    simp only [l19_0, map_bif, map_tst, map_bnd, Option.map_some, Option.map_none, ih, hk]
def g19 (L : Nat) (a0 : (List Bool)) (a1 : (List Bool)) : Option Bool :=
  bif ((Nat.cast (List.length a0) : Int) != (Nat.cast (List.length a1) : Int)) then some Bool.false
  else l19_0 L a0 a1 L (0 : Int) (some Bool.true)
theorem e19 (L : Nat) (a0 : (List Bool)) (a1 : (List Bool)) : evF prog ev19 (loopN L) f19 (a19.enc (a0, a1)) = (g19 L a0 a1).map n19 := by
  let K'0 : Option Bool := (some Bool.true)
  have hin0 : ∀ (v0_5 : Int), headF prog ev19 L f19 0 [1, 1, 0, 1, 0, 0] (outK (outV prog f19) (topK prog ev19 L f19 [1, 1, 0, 1] (outV prog f19)).n (topK prog ev19 L f19 [1, 1, 0, 1] (outV prog f19)).x) L (S19_0 a0 a1 v0_5) = (l19_0 L a0 a1 L v0_5 K'0).map n19 := fun v0_5 => h19_0 L a0 a1 _ _ K'0 (by rw [t19_0]; simp only [K'0, map_bif, map_tst, map_bnd, Option.map_some, Option.map_none]) L v0_5
  rw [i19]; simp only [g19, map_bif, map_tst, map_bnd, Option.map_some, Option.map_none, hin0, K'0]
theorem s19 (m : ((List Bool) × (List Bool)) → Option Bool) (hm : ∀ (x : ((List Bool) × (List Bool))) t, m x = some t → ∃ L, g19 L x.1 x.2 = some t) : Sat prog cxT 19 (c19 m) :=
  sat_t cxT_ok cxT_pok (by rfl) (fn := f19) rfl a19 n19 dd19 m ev19 kok_nil kwok_nil (fun L x => g19 L x.1 x.2) (fun L x => e19 L x.1 x.2) hm hs19
/-! loop.example/g00222/laws.szVerdictS -/
/-! loop.example/g00222/spec.VerdictsFault -/
/-! loop.example/g00222/laws.toVerdictS -/
/-! loop.example/g00222/impl.VerdictsFault -/
/-! loop.example/g00222/laws.eqVerdictS -/
/-! loop.example/g00222/impl.isVerdict -/
/-! loop.example/g00222/laws.lwBig -/
/-! loop.example/g00222/impl.isQuorum -/
/-! loop.example/g00222/impl.saidFault -/
/-! loop.example/g00222/laws.eqIntResult -/
end Go.Proofs.Try
