/- A part of the proof of FnExactHealthFault: LqFa. -/
import Derived.Test.YtklmlomaleaaaaaLqBase
set_option maxHeartbeats 0
set_option maxRecDepth 100000
set_option linter.unusedVariables false
set_option linter.unusedSimpArgs false
namespace Go.Proofs.Try
open Go Go.VM Go.RowKit
/-! loop.example/g00222/spec.HealthFault -/
def ev10 (m40 : Int → Option Bool) (m42 : (Int × Bool × Int) → Option Int) (m41 : (Int × Int × Int) → Option Bool) : Env cxT := { Kc := kcOf [(40, c40 m40), (42, c42 m42), (41, c41 m41)], Kw := kwOf [], lv := fun i => [], xv := fun i => none }
theorem i10 (m40 : Int → Option Bool) (m42 : (Int × Bool × Int) → Option Int) (m41 : (Int × Int × Int) → Option Bool) (L : Nat) (a0_0 : Int) (a0_1 : Bool) (a0_2 : Int) : evF prog (ev10 m40 m42 m41) (loopN L) f10 (a10.enc (a0_0, a0_1, a0_2)) =
  tst (m40 a0_0) false fun (q1 : Bool) => bif (!q1) then some (n10 (3 : Int))
    else tst (m42 (a0_0, (a0_1, a0_2))) (0 : Int) fun (q2 : Int) => tst (m41 (a0_2, ((0 : Int), (Go.IntKind.wrap Go.IntKind.i64 (q2 - (1 : Int)))))) false fun (q3 : Bool) => bif (!q3) then some (n10 (3 : Int))
        else some (n10 (0 : Int)) := by kernel_rfl
def g10 (m40 : Int → Option Bool) (m42 : (Int × Bool × Int) → Option Int) (m41 : (Int × Int × Int) → Option Bool) (L : Nat) (a0_0 : Int) (a0_1 : Bool) (a0_2 : Int) : Option Int :=
  tst (m40 a0_0) false fun (q1 : Bool) => bif (!q1) then some (3 : Int)
    else tst (m42 (a0_0, (a0_1, a0_2))) (0 : Int) fun (q2 : Int) => tst (m41 (a0_2, ((0 : Int), (Go.IntKind.wrap Go.IntKind.i64 (q2 - (1 : Int)))))) false fun (q3 : Bool) => bif (!q3) then some (3 : Int)
        else some (0 : Int)
theorem e10 (m40 : Int → Option Bool) (m42 : (Int × Bool × Int) → Option Int) (m41 : (Int × Int × Int) → Option Bool) (L : Nat) (a0_0 : Int) (a0_1 : Bool) (a0_2 : Int) : evF prog (ev10 m40 m42 m41) (loopN L) f10 (a10.enc (a0_0, a0_1, a0_2)) = (g10 m40 m42 m41 L a0_0 a0_1 a0_2).map n10 := by
  rw [i10]; simp only [g10, map_bif, map_tst, map_bnd, Option.map_some, Option.map_none]
theorem s10 (m40 : Int → Option Bool) (m42 : (Int × Bool × Int) → Option Int) (m41 : (Int × Int × Int) → Option Bool) (h40 : Sat prog cxT 40 (c40 m40)) (h42 : Sat prog cxT 42 (c42 m42)) (h41 : Sat prog cxT 41 (c41 m41)) (m : (Int × Bool × Int) → Option Int) (hm : ∀ (x : (Int × Bool × Int)) t, m x = some t → ∃ L, g10 m40 m42 m41 L x.1 x.2.1 x.2.2 = some t) : Sat prog cxT 10 (c10 m) :=
  sat_t cxT_ok cxT_pok (by rfl) (fn := f10) rfl a10 n10 dd10 m (ev10 m40 m42 m41) (kok_cons h40 (kok_cons h42 (kok_cons h41 kok_nil))) kwok_nil (fun L x => g10 m40 m42 m41 L x.1 x.2.1 x.2.2) (fun L x => e10 m40 m42 m41 L x.1 x.2.1 x.2.2) hm hs10
/-! loop.example/g00222/impl.HealthFault -/
def ev12 (m43 : Int → Option Bool) (m45 : Bool → Option Int) (m44 : (Int × Int × Int) → Option Bool) : Env cxT := { Kc := kcOf [(43, c43 m43), (45, c45 m45), (44, c44 m44)], Kw := kwOf [], lv := fun i => [], xv := fun i => none }
theorem i12 (m43 : Int → Option Bool) (m45 : Bool → Option Int) (m44 : (Int × Int × Int) → Option Bool) (L : Nat) (a0_0 : Int) (a0_1 : Bool) (a0_2 : Int) : evF prog (ev12 m43 m45 m44) (loopN L) f12 (a12.enc (a0_0, a0_1, a0_2)) =
  tst (m43 a0_0) false fun (q1 : Bool) => bif (!q1) then some (n12 (3 : Int))
    else tst (m45 a0_1) (0 : Int) fun (q2 : Int) => tst (m44 (a0_2, ((0 : Int), (Go.IntKind.wrap Go.IntKind.i64 (q2 - (1 : Int)))))) false fun (q3 : Bool) => bif (!q3) then some (n12 (3 : Int))
        else some (n12 (0 : Int)) := by kernel_rfl
def g12 (m43 : Int → Option Bool) (m45 : Bool → Option Int) (m44 : (Int × Int × Int) → Option Bool) (L : Nat) (a0_0 : Int) (a0_1 : Bool) (a0_2 : Int) : Option Int :=
  tst (m43 a0_0) false fun (q1 : Bool) => bif (!q1) then some (3 : Int)
    else tst (m45 a0_1) (0 : Int) fun (q2 : Int) => tst (m44 (a0_2, ((0 : Int), (Go.IntKind.wrap Go.IntKind.i64 (q2 - (1 : Int)))))) false fun (q3 : Bool) => bif (!q3) then some (3 : Int)
        else some (0 : Int)
theorem e12 (m43 : Int → Option Bool) (m45 : Bool → Option Int) (m44 : (Int × Int × Int) → Option Bool) (L : Nat) (a0_0 : Int) (a0_1 : Bool) (a0_2 : Int) : evF prog (ev12 m43 m45 m44) (loopN L) f12 (a12.enc (a0_0, a0_1, a0_2)) = (g12 m43 m45 m44 L a0_0 a0_1 a0_2).map n12 := by
  rw [i12]; simp only [g12, map_bif, map_tst, map_bnd, Option.map_some, Option.map_none]
theorem s12 (m43 : Int → Option Bool) (m45 : Bool → Option Int) (m44 : (Int × Int × Int) → Option Bool) (h43 : Sat prog cxT 43 (c43 m43)) (h45 : Sat prog cxT 45 (c45 m45)) (h44 : Sat prog cxT 44 (c44 m44)) (m : (Int × Bool × Int) → Option Int) (hm : ∀ (x : (Int × Bool × Int)) t, m x = some t → ∃ L, g12 m43 m45 m44 L x.1 x.2.1 x.2.2 = some t) : Sat prog cxT 12 (c12 m) :=
  sat_t cxT_ok cxT_pok (by rfl) (fn := f12) rfl a12 n12 dd12 m (ev12 m43 m45 m44) (kok_cons h43 (kok_cons h45 (kok_cons h44 kok_nil))) kwok_nil (fun L x => g12 m43 m45 m44 L x.1 x.2.1 x.2.2) (fun L x => e12 m43 m45 m44 L x.1 x.2.1 x.2.2) hm hs12
/-! loop.example/g00222/spec.l3Name -/
def ev40 (m41 : (Int × Int × Int) → Option Bool) : Env cxT := { Kc := kcOf [(41, c41 m41)], Kw := kwOf [], lv := fun i => [], xv := fun i => none }
theorem i40 (m41 : (Int × Int × Int) → Option Bool) (L : Nat) (a0 : Int) : evF prog (ev40 m41) (loopN L) f40 (a40.enc a0) =
  tst (m41 (a0, ((1 : Int), (999 : Int)))) false fun (q1 : Bool) => some (n40 q1) := by kernel_rfl
def g40 (m41 : (Int × Int × Int) → Option Bool) (L : Nat) (a0 : Int) : Option Bool :=
  tst (m41 (a0, ((1 : Int), (999 : Int)))) false fun (q1 : Bool) => some q1
theorem e40 (m41 : (Int × Int × Int) → Option Bool) (L : Nat) (a0 : Int) : evF prog (ev40 m41) (loopN L) f40 (a40.enc a0) = (g40 m41 L a0).map n40 := by
  rw [i40]; simp only [g40, map_bif, map_tst, map_bnd, Option.map_some, Option.map_none]
theorem s40 (m41 : (Int × Int × Int) → Option Bool) (h41 : Sat prog cxT 41 (c41 m41)) (m : Int → Option Bool) (hm : ∀ (x : Int) t, m x = some t → ∃ L, g40 m41 L x = some t) : Sat prog cxT 40 (c40 m) :=
  sat_t cxT_ok cxT_pok (by rfl) (fn := f40) rfl a40 n40 dd40 m (ev40 m41) (kok_cons h41 kok_nil) kwok_nil (fun L x => g40 m41 L x) (fun L x => e40 m41 L x) hm hs40
/-! loop.example/g00222/spec.l1In -/
def ev41 : Env cxT := { Kc := kcOf [], Kw := kwOf [], lv := fun i => [], xv := fun i => none }
theorem i41 (L : Nat) (a0 : Int) (a1 : Int) (a2 : Int) : evF prog ev41 (loopN L) f41 (a41.enc (a0, a1, a2)) =
  bif (decide (a0 ≥ a1)) then some (n41 (decide (a0 ≤ a2)))
  else some (n41 Bool.false) := by kernel_rfl
def g41 (L : Nat) (a0 : Int) (a1 : Int) (a2 : Int) : Option Bool :=
  bif (decide (a0 ≥ a1)) then some (decide (a0 ≤ a2))
  else some Bool.false
theorem e41 (L : Nat) (a0 : Int) (a1 : Int) (a2 : Int) : evF prog ev41 (loopN L) f41 (a41.enc (a0, a1, a2)) = (g41 L a0 a1 a2).map n41 := by
  rw [i41]; simp only [g41, map_bif, map_tst, map_bnd, Option.map_some, Option.map_none]
theorem s41 (m : (Int × Int × Int) → Option Bool) (hm : ∀ (x : (Int × Int × Int)) t, m x = some t → ∃ L, g41 L x.1 x.2.1 x.2.2 = some t) : Sat prog cxT 41 (c41 m) :=
  sat_t cxT_ok cxT_pok (by rfl) (fn := f41) rfl a41 n41 dd41 m ev41 kok_nil kwok_nil (fun L x => g41 L x.1 x.2.1 x.2.2) (fun L x => e41 L x.1 x.2.1 x.2.2) hm hs41
/-! loop.example/g00222/spec.l12Bound -/
def ev42 : Env cxT := { Kc := kcOf [], Kw := kwOf [], lv := fun i => [], xv := fun i => none }
theorem i42 (L : Nat) (a0_0 : Int) (a0_1 : Bool) (a0_2 : Int) : evF prog ev42 (loopN L) f42 (a42.enc (a0_0, a0_1, a0_2)) =
  bif a0_1 then some (n42 (3 : Int))
  else some (n42 (2 : Int)) := by kernel_rfl
def g42 (L : Nat) (a0_0 : Int) (a0_1 : Bool) (a0_2 : Int) : Option Int :=
  bif a0_1 then some (3 : Int)
  else some (2 : Int)
theorem e42 (L : Nat) (a0_0 : Int) (a0_1 : Bool) (a0_2 : Int) : evF prog ev42 (loopN L) f42 (a42.enc (a0_0, a0_1, a0_2)) = (g42 L a0_0 a0_1 a0_2).map n42 := by
  rw [i42]; simp only [g42, map_bif, map_tst, map_bnd, Option.map_some, Option.map_none]
theorem s42 (m : (Int × Bool × Int) → Option Int) (hm : ∀ (x : (Int × Bool × Int)) t, m x = some t → ∃ L, g42 L x.1 x.2.1 x.2.2 = some t) : Sat prog cxT 42 (c42 m) :=
  sat_t cxT_ok cxT_pok (by rfl) (fn := f42) rfl a42 n42 dd42 m ev42 kok_nil kwok_nil (fun L x => g42 L x.1 x.2.1 x.2.2) (fun L x => e42 L x.1 x.2.1 x.2.2) hm hs42
/-! loop.example/g00222/impl.isName -/
def ev43 : Env cxT := { Kc := kcOf [], Kw := kwOf [], lv := fun i => [], xv := fun i => none }
theorem i43 (L : Nat) (a0 : Int) : evF prog ev43 (loopN L) f43 (a43.enc a0) =
  bif (decide (a0 ≥ (1 : Int))) then some (n43 (decide (a0 ≤ (999 : Int))))
  else some (n43 Bool.false) := by kernel_rfl
def g43 (L : Nat) (a0 : Int) : Option Bool :=
  bif (decide (a0 ≥ (1 : Int))) then some (decide (a0 ≤ (999 : Int)))
  else some Bool.false
theorem e43 (L : Nat) (a0 : Int) : evF prog ev43 (loopN L) f43 (a43.enc a0) = (g43 L a0).map n43 := by
  rw [i43]; simp only [g43, map_bif, map_tst, map_bnd, Option.map_some, Option.map_none]
theorem s43 (m : Int → Option Bool) (hm : ∀ (x : Int) t, m x = some t → ∃ L, g43 L x = some t) : Sat prog cxT 43 (c43 m) :=
  sat_t cxT_ok cxT_pok (by rfl) (fn := f43) rfl a43 n43 dd43 m ev43 kok_nil kwok_nil (fun L x => g43 L x) (fun L x => e43 L x) hm hs43
/-! loop.example/g00222/impl.isFromTo -/
def ev44 : Env cxT := { Kc := kcOf [], Kw := kwOf [], lv := fun i => [], xv := fun i => none }
theorem i44 (L : Nat) (a0 : Int) (a1 : Int) (a2 : Int) : evF prog ev44 (loopN L) f44 (a44.enc (a0, a1, a2)) =
  bif (decide (a0 ≥ a1)) then some (n44 (decide (a0 ≤ a2)))
  else some (n44 Bool.false) := by kernel_rfl
def g44 (L : Nat) (a0 : Int) (a1 : Int) (a2 : Int) : Option Bool :=
  bif (decide (a0 ≥ a1)) then some (decide (a0 ≤ a2))
  else some Bool.false
theorem e44 (L : Nat) (a0 : Int) (a1 : Int) (a2 : Int) : evF prog ev44 (loopN L) f44 (a44.enc (a0, a1, a2)) = (g44 L a0 a1 a2).map n44 := by
  rw [i44]; simp only [g44, map_bif, map_tst, map_bnd, Option.map_some, Option.map_none]
theorem s44 (m : (Int × Int × Int) → Option Bool) (hm : ∀ (x : (Int × Int × Int)) t, m x = some t → ∃ L, g44 L x.1 x.2.1 x.2.2 = some t) : Sat prog cxT 44 (c44 m) :=
  sat_t cxT_ok cxT_pok (by rfl) (fn := f44) rfl a44 n44 dd44 m ev44 kok_nil kwok_nil (fun L x => g44 L x.1 x.2.1 x.2.2) (fun L x => e44 L x.1 x.2.1 x.2.2) hm hs44
/-! loop.example/g00222/impl.turnsAfter -/
def ev45 : Env cxT := { Kc := kcOf [], Kw := kwOf [], lv := fun i => [], xv := fun i => none }
theorem i45 (L : Nat) (a0 : Bool) : evF prog ev45 (loopN L) f45 (a45.enc a0) =
  bif a0 then some (n45 (3 : Int))
  else some (n45 (2 : Int)) := by kernel_rfl
def g45 (L : Nat) (a0 : Bool) : Option Int :=
  bif a0 then some (3 : Int)
  else some (2 : Int)
theorem e45 (L : Nat) (a0 : Bool) : evF prog ev45 (loopN L) f45 (a45.enc a0) = (g45 L a0).map n45 := by
  rw [i45]; simp only [g45, map_bif, map_tst, map_bnd, Option.map_some, Option.map_none]
theorem s45 (m : Bool → Option Int) (hm : ∀ (x : Bool) t, m x = some t → ∃ L, g45 L x = some t) : Sat prog cxT 45 (c45 m) :=
  sat_t cxT_ok cxT_pok (by rfl) (fn := f45) rfl a45 n45 dd45 m ev45 kok_nil kwok_nil (fun L x => g45 L x) (fun L x => e45 L x) hm hs45
/-! loop.example/g00222/spec.l12Probe -/
/-! loop.example/g00222/laws.eqHealth -/
/-! loop.example/g00222/spec.ProbeHealth -/
def ev13 (m10 : (Int × Bool × Int) → Option Int) (m46 : ((Int × Bool × Int) × Bool) → Option (Int × Bool × Int × Bool)) : Env cxT := { Kc := kcOf [(10, c10 m10), (46, c46 m46)], Kw := kwOf [], lv := fun i => [], xv := fun i => none }
theorem i13 (m10 : (Int × Bool × Int) → Option Int) (m46 : ((Int × Bool × Int) × Bool) → Option (Int × Bool × Int × Bool)) (L : Nat) (a0_0 : Int) (a0_1 : Bool) (a0_2 : Int) (a1 : Bool) : evF prog (ev13 m10 m46) (loopN L) f13 (a13.enc ((a0_0, a0_1, a0_2), a1)) =
  tst (m10 (a0_0, (a0_1, a0_2))) (0 : Int) fun (q1 : Int) => bif (q1 != (0 : Int)) then some (n13 (q1, Bool.false, (0 : Int), Bool.false, (0 : Int)))
    else tst (m46 ((a0_0, (a0_1, a0_2)), a1)) ((0 : Int), false, (0 : Int), false) fun (q2 : (Int × Bool × Int × Bool)) => some (n13 ((0 : Int), q2.2.2.2, q2.1, q2.2.1, q2.2.2.1)) := by kernel_rfl
def g13 (m10 : (Int × Bool × Int) → Option Int) (m46 : ((Int × Bool × Int) × Bool) → Option (Int × Bool × Int × Bool)) (L : Nat) (a0_0 : Int) (a0_1 : Bool) (a0_2 : Int) (a1 : Bool) : Option (Int × Bool × Int × Bool × Int) :=
  tst (m10 (a0_0, (a0_1, a0_2))) (0 : Int) fun (q1 : Int) => bif (q1 != (0 : Int)) then some (q1, Bool.false, (0 : Int), Bool.false, (0 : Int))
    else tst (m46 ((a0_0, (a0_1, a0_2)), a1)) ((0 : Int), false, (0 : Int), false) fun (q2 : (Int × Bool × Int × Bool)) => some ((0 : Int), q2.2.2.2, q2.1, q2.2.1, q2.2.2.1)
theorem e13 (m10 : (Int × Bool × Int) → Option Int) (m46 : ((Int × Bool × Int) × Bool) → Option (Int × Bool × Int × Bool)) (L : Nat) (a0_0 : Int) (a0_1 : Bool) (a0_2 : Int) (a1 : Bool) : evF prog (ev13 m10 m46) (loopN L) f13 (a13.enc ((a0_0, a0_1, a0_2), a1)) = (g13 m10 m46 L a0_0 a0_1 a0_2 a1).map n13 := by
  rw [i13]; simp only [g13, map_bif, map_tst, map_bnd, Option.map_some, Option.map_none]
/-! loop.example/g00222/impl.ProbeHealth -/
/-! loop.example/g00222/laws.toHealth -/
def ev11 : Env cxT := { Kc := kcOf [], Kw := kwOf [], lv := fun i => [], xv := fun i => none }
theorem i11 (L : Nat) (a0_0 : Int) (a0_1 : Bool) (a0_2 : Int) : evF prog ev11 (loopN L) f11 (a11.enc (a0_0, a0_1, a0_2)) =
  some (n11 (a0_0, a0_1, a0_2)) := by kernel_rfl
def g11 (L : Nat) (a0_0 : Int) (a0_1 : Bool) (a0_2 : Int) : Option (Int × Bool × Int) :=
  some (a0_0, a0_1, a0_2)
theorem e11 (L : Nat) (a0_0 : Int) (a0_1 : Bool) (a0_2 : Int) : evF prog ev11 (loopN L) f11 (a11.enc (a0_0, a0_1, a0_2)) = (g11 L a0_0 a0_1 a0_2).map n11 := by
  rw [i11]; simp only [g11, map_bif, map_tst, map_bnd, Option.map_some, Option.map_none]
theorem s11 (m : (Int × Bool × Int) → Option (Int × Bool × Int)) (hm : ∀ (x : (Int × Bool × Int)) t, m x = some t → ∃ L, g11 L x.1 x.2.1 x.2.2 = some t) : Sat prog cxT 11 (c11 m) :=
  sat_t cxT_ok cxT_pok (by rfl) (fn := f11) rfl a11 n11 dd11 m ev11 kok_nil kwok_nil (fun L x => g11 L x.1 x.2.1 x.2.2) (fun L x => e11 L x.1 x.2.1 x.2.2) hm hs11
/-! loop.example/g00222/laws.eqHealthResult -/
/-! loop.example/g00222/laws.toVerdict -/
/-! loop.example/g00222/laws.eqVerdict -/
/-! loop.example/g00222/spec.ProbeMany -/
/-! loop.example/g00222/laws.toBoolS -/
/-! loop.example/g00222/impl.ProbeMany -/
/-! loop.example/g00222/laws.eqBoolS -/
/-! loop.example/g00222/laws.szVerdictS -/
/-! loop.example/g00222/spec.VerdictsFault -/
/-! loop.example/g00222/laws.toVerdictS -/
/-! loop.example/g00222/impl.VerdictsFault -/
/-! loop.example/g00222/laws.eqVerdictS -/
/-! loop.example/g00222/impl.isVerdict -/
/-! loop.example/g00222/laws.lwBig -/
/-! loop.example/g00222/impl.isQuorum -/
/-! loop.example/g00222/impl.saidFault -/
/-! loop.example/g00222/laws.eqIntResult -/
end Go.Proofs.Try
