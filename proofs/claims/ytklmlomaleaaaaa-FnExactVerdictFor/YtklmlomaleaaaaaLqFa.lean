/- A part of the proof of FnExactVerdictFor: LqFa. -/
import Derived.Test.YtklmlomaleaaaaaLqBase
set_option linter.unusedVariables false
set_option maxHeartbeats 0
set_option maxRecDepth 100000
set_option linter.unusedVariables false
set_option linter.unusedSimpArgs false
namespace Go.Proofs.Try
open Go Go.VM Go.RowKit
/-! loop.example/g00222/spec.HealthFault -/
/-! loop.example/g00222/impl.HealthFault -/
/-! loop.example/g00222/spec.l3Name -/
def ev40 (m41 : (Int × Int × Int) → Option Bool) : Env cxT := { Kc := kcOf [(41, c41 m41)], Kw := kwOf [], lv := fun i => [], xv := fun i => none }
theorem i40 (m41 : (Int × Int × Int) → Option Bool) (L : Nat) (a0 : Int) : evF prog (ev40 m41) (loopN L) f40 (a40.enc a0) =
  tst (m41 (a0, ((1 : Int), (999 : Int)))) false fun (q1 : Bool) => some (n40 q1) := by kernel_rfl
def g40 (m41 : (Int × Int × Int) → Option Bool) (L : Nat) (a0 : Int) : Option Bool :=
  tst (m41 (a0, ((1 : Int), (999 : Int)))) false fun (q1 : Bool) => some q1
theorem e40 (m41 : (Int × Int × Int) → Option Bool) (L : Nat) (a0 : Int) : evF prog (ev40 m41) (loopN L) f40 (a40.enc a0) = (g40 m41 L a0).map n40 := by
  rw [i40]; simp only [g40, map_bif, map_tst, map_bnd, Option.map_some, Option.map_none]
theorem s40 (m41 : (Int × Int × Int) → Option Bool) (h41 : Sat prog cxT 41 (c41 m41)) (m : Int → Option Bool) (hm : ∀ (x : Int) t, m x = some t → ∃ L, g40 m41 L x = some t) : Sat prog cxT 40 (c40 m) :=
  sat_t cxT_ok cxT_pok (by rfl) (fn := f40) rfl a40 n40 dd40 m (ev40 m41) (kok_cons h41 kok_nil) kwok_nil (fun L x => g40 m41 L x) (fun L x => e40 m41 L x) hm hs40
/-! loop.example/g00222/spec.l1In -/
def ev41 : Env cxT := { Kc := kcOf [], Kw := kwOf [], lv := fun i => [], xv := fun i => none }
theorem i41 (L : Nat) (a0 : Int) (a1 : Int) (a2 : Int) : evF prog ev41 (loopN L) f41 (a41.enc (a0, a1, a2)) =
  bif (decide (a0 ≥ a1)) then some (n41 (decide (a0 ≤ a2)))
  else some (n41 Bool.false) := by kernel_rfl
def g41 (L : Nat) (a0 : Int) (a1 : Int) (a2 : Int) : Option Bool :=
  bif (decide (a0 ≥ a1)) then some (decide (a0 ≤ a2))
  else some Bool.false
theorem e41 (L : Nat) (a0 : Int) (a1 : Int) (a2 : Int) : evF prog ev41 (loopN L) f41 (a41.enc (a0, a1, a2)) = (g41 L a0 a1 a2).map n41 := by
  rw [i41]; simp only [g41, map_bif, map_tst, map_bnd, Option.map_some, Option.map_none]
theorem s41 (m : (Int × Int × Int) → Option Bool) (hm : ∀ (x : (Int × Int × Int)) t, m x = some t → ∃ L, g41 L x.1 x.2.1 x.2.2 = some t) : Sat prog cxT 41 (c41 m) :=
  sat_t cxT_ok cxT_pok (by rfl) (fn := f41) rfl a41 n41 dd41 m ev41 kok_nil kwok_nil (fun L x => g41 L x.1 x.2.1 x.2.2) (fun L x => e41 L x.1 x.2.1 x.2.2) hm hs41
/-! loop.example/g00222/spec.l12Bound -/
/-! loop.example/g00222/impl.isName -/
def ev43 : Env cxT := { Kc := kcOf [], Kw := kwOf [], lv := fun i => [], xv := fun i => none }
theorem i43 (L : Nat) (a0 : Int) : evF prog ev43 (loopN L) f43 (a43.enc a0) =
  bif (decide (a0 ≥ (1 : Int))) then some (n43 (decide (a0 ≤ (999 : Int))))
  else some (n43 Bool.false) := by kernel_rfl
def g43 (L : Nat) (a0 : Int) : Option Bool :=
  bif (decide (a0 ≥ (1 : Int))) then some (decide (a0 ≤ (999 : Int)))
  else some Bool.false
theorem e43 (L : Nat) (a0 : Int) : evF prog ev43 (loopN L) f43 (a43.enc a0) = (g43 L a0).map n43 := by
  rw [i43]; simp only [g43, map_bif, map_tst, map_bnd, Option.map_some, Option.map_none]
theorem s43 (m : Int → Option Bool) (hm : ∀ (x : Int) t, m x = some t → ∃ L, g43 L x = some t) : Sat prog cxT 43 (c43 m) :=
  sat_t cxT_ok cxT_pok (by rfl) (fn := f43) rfl a43 n43 dd43 m ev43 kok_nil kwok_nil (fun L x => g43 L x) (fun L x => e43 L x) hm hs43
/-! loop.example/g00222/impl.isFromTo -/
def ev44 : Env cxT := { Kc := kcOf [], Kw := kwOf [], lv := fun i => [], xv := fun i => none }
theorem i44 (L : Nat) (a0 : Int) (a1 : Int) (a2 : Int) : evF prog ev44 (loopN L) f44 (a44.enc (a0, a1, a2)) =
  bif (decide (a0 ≥ a1)) then some (n44 (decide (a0 ≤ a2)))
  else some (n44 Bool.false) := by kernel_rfl
def g44 (L : Nat) (a0 : Int) (a1 : Int) (a2 : Int) : Option Bool :=
  bif (decide (a0 ≥ a1)) then some (decide (a0 ≤ a2))
  else some Bool.false
theorem e44 (L : Nat) (a0 : Int) (a1 : Int) (a2 : Int) : evF prog ev44 (loopN L) f44 (a44.enc (a0, a1, a2)) = (g44 L a0 a1 a2).map n44 := by
  rw [i44]; simp only [g44, map_bif, map_tst, map_bnd, Option.map_some, Option.map_none]
theorem s44 (m : (Int × Int × Int) → Option Bool) (hm : ∀ (x : (Int × Int × Int)) t, m x = some t → ∃ L, g44 L x.1 x.2.1 x.2.2 = some t) : Sat prog cxT 44 (c44 m) :=
  sat_t cxT_ok cxT_pok (by rfl) (fn := f44) rfl a44 n44 dd44 m ev44 kok_nil kwok_nil (fun L x => g44 L x.1 x.2.1 x.2.2) (fun L x => e44 L x.1 x.2.1 x.2.2) hm hs44
/-! loop.example/g00222/impl.turnsAfter -/
/-! loop.example/g00222/spec.l12Probe -/
/-! loop.example/g00222/laws.eqHealth -/
/-! loop.example/g00222/spec.ProbeHealth -/
def ev13 (m10 : (Int × Bool × Int) → Option Int) (m46 : ((Int × Bool × Int) × Bool) → Option (Int × Bool × Int × Bool)) : Env cxT := { Kc := kcOf [(10, c10 m10), (46, c46 m46)], Kw := kwOf [], lv := fun i => [], xv := fun i => none }
theorem i13 (m10 : (Int × Bool × Int) → Option Int) (m46 : ((Int × Bool × Int) × Bool) → Option (Int × Bool × Int × Bool)) (L : Nat) (a0_0 : Int) (a0_1 : Bool) (a0_2 : Int) (a1 : Bool) : evF prog (ev13 m10 m46) (loopN L) f13 (a13.enc ((a0_0, a0_1, a0_2), a1)) =
  tst (m10 (a0_0, (a0_1, a0_2))) (0 : Int) fun (q1 : Int) => bif (q1 != (0 : Int)) then some (n13 (q1, Bool.false, (0 : Int), Bool.false, (0 : Int)))
    else tst (m46 ((a0_0, (a0_1, a0_2)), a1)) ((0 : Int), false, (0 : Int), false) fun (q2 : (Int × Bool × Int × Bool)) => some (n13 ((0 : Int), q2.2.2.2, q2.1, q2.2.1, q2.2.2.1)) := by kernel_rfl
def g13 (m10 : (Int × Bool × Int) → Option Int) (m46 : ((Int × Bool × Int) × Bool) → Option (Int × Bool × Int × Bool)) (L : Nat) (a0_0 : Int) (a0_1 : Bool) (a0_2 : Int) (a1 : Bool) : Option (Int × Bool × Int × Bool × Int) :=
  tst (m10 (a0_0, (a0_1, a0_2))) (0 : Int) fun (q1 : Int) => bif (q1 != (0 : Int)) then some (q1, Bool.false, (0 : Int), Bool.false, (0 : Int))
    else tst (m46 ((a0_0, (a0_1, a0_2)), a1)) ((0 : Int), false, (0 : Int), false) fun (q2 : (Int × Bool × Int × Bool)) => some ((0 : Int), q2.2.2.2, q2.1, q2.2.1, q2.2.2.1)
theorem e13 (m10 : (Int × Bool × Int) → Option Int) (m46 : ((Int × Bool × Int) × Bool) → Option (Int × Bool × Int × Bool)) (L : Nat) (a0_0 : Int) (a0_1 : Bool) (a0_2 : Int) (a1 : Bool) : evF prog (ev13 m10 m46) (loopN L) f13 (a13.enc ((a0_0, a0_1, a0_2), a1)) = (g13 m10 m46 L a0_0 a0_1 a0_2 a1).map n13 := by
  rw [i13]; simp only [g13, map_bif, map_tst, map_bnd, Option.map_some, Option.map_none]
/-! loop.example/g00222/impl.ProbeHealth -/
/-! loop.example/g00222/laws.toHealth -/
/-! loop.example/g00222/laws.eqHealthResult -/
/-! loop.example/g00222/laws.toVerdict -/
def ev48 : Env cxT := { Kc := kcOf [], Kw := kwOf [], lv := fun i => [], xv := fun i => none }
theorem i48 (L : Nat) (a0_0 : Int) (a0_1 : Int) (a0_2 : Bool) (a0_3 : Int) : evF prog ev48 (loopN L) f48 (a48.enc (a0_0, a0_1, a0_2, a0_3)) =
  some (n48 (a0_0, a0_1, a0_2, a0_3)) := by kernel_rfl
def g48 (L : Nat) (a0_0 : Int) (a0_1 : Int) (a0_2 : Bool) (a0_3 : Int) : Option (Int × Int × Bool × Int) :=
  some (a0_0, a0_1, a0_2, a0_3)
theorem e48 (L : Nat) (a0_0 : Int) (a0_1 : Int) (a0_2 : Bool) (a0_3 : Int) : evF prog ev48 (loopN L) f48 (a48.enc (a0_0, a0_1, a0_2, a0_3)) = (g48 L a0_0 a0_1 a0_2 a0_3).map n48 := by
  rw [i48]; simp only [g48, map_bif, map_tst, map_bnd, Option.map_some, Option.map_none]
theorem s48 (m : (Int × Int × Bool × Int) → Option (Int × Int × Bool × Int)) (hm : ∀ (x : (Int × Int × Bool × Int)) t, m x = some t → ∃ L, g48 L x.1 x.2.1 x.2.2.1 x.2.2.2 = some t) : Sat prog cxT 48 (c48 m) :=
  sat_t cxT_ok cxT_pok (by rfl) (fn := f48) rfl a48 n48 dd48 m ev48 kok_nil kwok_nil (fun L x => g48 L x.1 x.2.1 x.2.2.1 x.2.2.2) (fun L x => e48 L x.1 x.2.1 x.2.2.1 x.2.2.2) hm hs48
/-! loop.example/g00222/laws.eqVerdict -/
def ev50 : Env cxT := { Kc := kcOf [], Kw := kwOf [], lv := fun i => [], xv := fun i => none }
theorem i50 (L : Nat) (a0_0 : Int) (a0_1 : Int) (a0_2 : Bool) (a0_3 : Int) (a1_0 : Int) (a1_1 : Int) (a1_2 : Bool) (a1_3 : Int) : evF prog ev50 (loopN L) f50 (a50.enc ((a0_0, a0_1, a0_2, a0_3), (a1_0, a1_1, a1_2, a1_3))) =
  bif (a0_0 != a1_0) then some (n50 Bool.false)
  else bif (a0_1 != a1_1) then some (n50 Bool.false)
  else bif (!(a0_2 == a1_2)) then some (n50 Bool.false)
  else bif (a0_3 != a1_3) then some (n50 Bool.false)
  else some (n50 Bool.true) := by kernel_rfl
def g50 (L : Nat) (a0_0 : Int) (a0_1 : Int) (a0_2 : Bool) (a0_3 : Int) (a1_0 : Int) (a1_1 : Int) (a1_2 : Bool) (a1_3 : Int) : Option Bool :=
  bif (a0_0 != a1_0) then some Bool.false
  else bif (a0_1 != a1_1) then some Bool.false
  else bif (!(a0_2 == a1_2)) then some Bool.false
  else bif (a0_3 != a1_3) then some Bool.false
  else some Bool.true
theorem e50 (L : Nat) (a0_0 : Int) (a0_1 : Int) (a0_2 : Bool) (a0_3 : Int) (a1_0 : Int) (a1_1 : Int) (a1_2 : Bool) (a1_3 : Int) : evF prog ev50 (loopN L) f50 (a50.enc ((a0_0, a0_1, a0_2, a0_3), (a1_0, a1_1, a1_2, a1_3))) = (g50 L a0_0 a0_1 a0_2 a0_3 a1_0 a1_1 a1_2 a1_3).map n50 := by
  rw [i50]; simp only [g50, map_bif, map_tst, map_bnd, Option.map_some, Option.map_none]
theorem s50 (m : ((Int × Int × Bool × Int) × (Int × Int × Bool × Int)) → Option Bool) (hm : ∀ (x : ((Int × Int × Bool × Int) × (Int × Int × Bool × Int))) t, m x = some t → ∃ L, g50 L x.1.1 x.1.2.1 x.1.2.2.1 x.1.2.2.2 x.2.1 x.2.2.1 x.2.2.2.1 x.2.2.2.2 = some t) : Sat prog cxT 50 (c50 m) :=
  sat_t cxT_ok cxT_pok (by rfl) (fn := f50) rfl a50 n50 dd50 m ev50 kok_nil kwok_nil (fun L x => g50 L x.1.1 x.1.2.1 x.1.2.2.1 x.1.2.2.2 x.2.1 x.2.2.1 x.2.2.2.1 x.2.2.2.2) (fun L x => e50 L x.1.1 x.1.2.1 x.1.2.2.1 x.1.2.2.2 x.2.1 x.2.2.1 x.2.2.2.1 x.2.2.2.2) hm hs50
/-! loop.example/g00222/spec.ProbeMany -/
/-! loop.example/g00222/laws.toBoolS -/
/-! loop.example/g00222/impl.ProbeMany -/
/-! loop.example/g00222/laws.eqBoolS -/
/-! loop.example/g00222/laws.szVerdictS -/
def ev20 : Env cxT := { Kc := kcOf [], Kw := kwOf [], lv := fun i => [], xv := fun i => none }
theorem i20 (L : Nat) (a0 : (List (Int × (Int × (Bool × Int))))) (a1 : Int) : evF prog ev20 (loopN L) f20 (a20.enc (a0, a1)) =
  bif (decide ((Go.IntKind.wrap Go.IntKind.i64 (a1 - (Nat.cast (List.length a0) : Int))) < (0 : Int))) then some (n20 (-(1 : Int)))
  else some (n20 (Go.IntKind.wrap Go.IntKind.i64 (a1 - (Nat.cast (List.length a0) : Int)))) := by kernel_rfl
def g20 (L : Nat) (a0 : (List (Int × (Int × (Bool × Int))))) (a1 : Int) : Option Int :=
  bif (decide ((Go.IntKind.wrap Go.IntKind.i64 (a1 - (Nat.cast (List.length a0) : Int))) < (0 : Int))) then some (-(1 : Int))
  else some (Go.IntKind.wrap Go.IntKind.i64 (a1 - (Nat.cast (List.length a0) : Int)))
theorem e20 (L : Nat) (a0 : (List (Int × (Int × (Bool × Int))))) (a1 : Int) : evF prog ev20 (loopN L) f20 (a20.enc (a0, a1)) = (g20 L a0 a1).map n20 := by
  rw [i20]; simp only [g20, map_bif, map_tst, map_bnd, Option.map_some, Option.map_none]
theorem s20 (m : ((List (Int × (Int × (Bool × Int)))) × Int) → Option Int) (hm : ∀ (x : ((List (Int × (Int × (Bool × Int)))) × Int)) t, m x = some t → ∃ L, g20 L x.1 x.2 = some t) : Sat prog cxT 20 (c20 m) :=
  sat_t cxT_ok cxT_pok (by rfl) (fn := f20) rfl a20 n20 dd20 m ev20 kok_nil kwok_nil (fun L x => g20 L x.1 x.2) (fun L x => e20 L x.1 x.2) hm hs20
/-! loop.example/g00222/spec.VerdictsFault -/
def ev21 (m41 : (Int × Int × Int) → Option Bool) (m40 : Int → Option Bool) : Env cxT := { Kc := kcOf [(41, c41 m41), (40, c40 m40)], Kw := kwOf [], lv := fun i => if i = 0 then [(0, [some 80]), (3, [])] else [], xv := fun i => if i = 0 then some [] else none }
def S21_0 (a0 : (List (Int × (Int × (Bool × Int))))) (v0_3 : Int) : St cxT.ty := { slots := [(.inl (.inl (ls { own := 0, nm := 0, e := 80, o := false, xs := a0 }))), junk, junk, (.inl (.inl (lv (.int .i64 v0_3))))] ++ List.replicate 30 junk, D := [], F := [], ctr := 1 }
def X21_0 (a0 : (List (Int × (Int × (Bool × Int))))) : St cxT.ty := { slots := [] ++ List.replicate 34 junk, D := [], F := [], ctr := 1 }
theorem i21 (m41 : (Int × Int × Int) → Option Bool) (m40 : Int → Option Bool) (L : Nat) (a0 : (List (Int × (Int × (Bool × Int))))) : evF prog (ev21 m41 m40) (loopN L) f21 (a21.enc a0) =
  bif (decide ((Nat.cast (List.length a0) : Int) > (60 : Int))) then some (n21 (2 : Int))
  else headF prog (ev21 m41 m40) L f21 0 [1, 1, 0, 1, 0, 0] (outK (outV prog f21) (topK prog (ev21 m41 m40) L f21 [1, 1, 0, 1] (outV prog f21)).n (topK prog (ev21 m41 m40) L f21 [1, 1, 0, 1] (outV prog f21)).x) L (S21_0 a0 (0 : Int)) := by kernel_rfl
theorem r21_0 (m41 : (Int × Int × Int) → Option Bool) (m40 : Int → Option Bool) (L : Nat) (a0 : (List (Int × (Int × (Bool × Int))))) (k : St cxT.ty → Option (V cxT.ty)) (xk : Nat → St cxT.ty → Option (V cxT.ty)) (g : St cxT.ty → Option (V cxT.ty)) (v0_3 : Int) : roundF prog (ev21 m41 m40) L f21 0 [1, 1, 0, 1, 0, 0] (outK (outV prog f21) k xk) g (S21_0 a0 v0_3) =
  bif (decide (v0_3 < (Nat.cast (List.length a0) : Int))) then bif ((decide ((0 : Int) ≤ v0_3)) && (decide (v0_3 < (Nat.cast (List.length a0) : Int)))) then tst (m41 ((List.getD a0 (Int.toNat v0_3) ((0 : Int), ((0 : Int), (Bool.false, (0 : Int))))).1, ((0 : Int), (9 : Int)))) false fun (q3 : Bool) => bif (!q3) then some (n21 (3 : Int))
        else tst (m40 (List.getD a0 (Int.toNat v0_3) ((0 : Int), ((0 : Int), (Bool.false, (0 : Int))))).2.1) false fun (q4 : Bool) => bif (!q4) then some (n21 (3 : Int))
          else tst (m41 ((List.getD a0 (Int.toNat v0_3) ((0 : Int), ((0 : Int), (Bool.false, (0 : Int))))).2.2.2, ((0 : Int), (1000000 : Int)))) false fun (q5 : Bool) => bif (!q5) then some (n21 (3 : Int))
            else g (S21_0 a0 (Go.IntKind.wrap Go.IntKind.i64 (v0_3 + (1 : Int))))
    else none
  else k (X21_0 a0) := by kernel_rfl
theorem t21_0 (m41 : (Int × Int × Int) → Option Bool) (m40 : Int → Option Bool) (L : Nat) (a0 : (List (Int × (Int × (Bool × Int))))) : (topK prog (ev21 m41 m40) L f21 [1, 1, 0, 1] (outV prog f21)).n (X21_0 a0) =
  some (n21 (0 : Int)) := by kernel_rfl
def l21_0 (m41 : (Int × Int × Int) → Option Bool) (m40 : Int → Option Bool) (L : Nat) (a0 : (List (Int × (Int × (Bool × Int))))) : Nat → Int → (Option Int) → Option Int
  | 0, _, _ => none
  | n + 1, v0_3, k =>
    bif (decide (v0_3 < (Nat.cast (List.length a0) : Int))) then bif ((decide ((0 : Int) ≤ v0_3)) && (decide (v0_3 < (Nat.cast (List.length a0) : Int)))) then tst (m41 ((List.getD a0 (Int.toNat v0_3) ((0 : Int), ((0 : Int), (Bool.false, (0 : Int))))).1, ((0 : Int), (9 : Int)))) false fun (q4 : Bool) => bif (!q4) then some (3 : Int)
          else tst (m40 (List.getD a0 (Int.toNat v0_3) ((0 : Int), ((0 : Int), (Bool.false, (0 : Int))))).2.1) false fun (q5 : Bool) => bif (!q5) then some (3 : Int)
            else tst (m41 ((List.getD a0 (Int.toNat v0_3) ((0 : Int), ((0 : Int), (Bool.false, (0 : Int))))).2.2.2, ((0 : Int), (1000000 : Int)))) false fun (q6 : Bool) => bif (!q6) then some (3 : Int)
              else l21_0 m41 m40 L a0 n (Go.IntKind.wrap Go.IntKind.i64 (v0_3 + (1 : Int))) k
      else none
    else k
theorem h21_0 (m41 : (Int × Int × Int) → Option Bool) (m40 : Int → Option Bool) (L : Nat) (a0 : (List (Int × (Int × (Bool × Int))))) (k : St cxT.ty → Option (V cxT.ty)) (xk : Nat → St cxT.ty → Option (V cxT.ty)) (k' : Option Int) (hk : k (X21_0 a0) = (k').map n21) : ∀ (n : Nat) (v0_3 : Int), headF prog (ev21 m41 m40) L f21 0 [1, 1, 0, 1, 0, 0] (outK (outV prog f21) k xk) n (S21_0 a0 v0_3) = (l21_0 m41 m40 L a0 n v0_3 k').map n21
  | 0, _ => rfl
  | n + 1, v0_3 => by
    rw [headF_round, r21_0]
    have ih := h21_0 m41 m40 L a0 k xk k' hk n
    simp only [l21_0, map_bif, map_tst, map_bnd, Option.map_some, Option.map_none, ih, hk]
def g21 (m41 : (Int × Int × Int) → Option Bool) (m40 : Int → Option Bool) (L : Nat) (a0 : (List (Int × (Int × (Bool × Int))))) : Option Int :=
  bif (decide ((Nat.cast (List.length a0) : Int) > (60 : Int))) then some (2 : Int)
  else l21_0 m41 m40 L a0 L (0 : Int) (some (0 : Int))
theorem e21 (m41 : (Int × Int × Int) → Option Bool) (m40 : Int → Option Bool) (L : Nat) (a0 : (List (Int × (Int × (Bool × Int))))) : evF prog (ev21 m41 m40) (loopN L) f21 (a21.enc a0) = (g21 m41 m40 L a0).map n21 := by
  let K'0 : Option Int := (some (0 : Int))
  have hin0 : ∀ (v0_3 : Int), headF prog (ev21 m41 m40) L f21 0 [1, 1, 0, 1, 0, 0] (outK (outV prog f21) (topK prog (ev21 m41 m40) L f21 [1, 1, 0, 1] (outV prog f21)).n (topK prog (ev21 m41 m40) L f21 [1, 1, 0, 1] (outV prog f21)).x) L (S21_0 a0 v0_3) = (l21_0 m41 m40 L a0 L v0_3 K'0).map n21 := fun v0_3 => h21_0 m41 m40 L a0 _ _ K'0 (by rw [t21_0]; simp only [K'0, map_bif, map_tst, map_bnd, Option.map_some, Option.map_none]) L v0_3
  rw [i21]; simp only [g21, map_bif, map_tst, map_bnd, Option.map_some, Option.map_none, hin0, K'0]
theorem s21 (m41 : (Int × Int × Int) → Option Bool) (m40 : Int → Option Bool) (h41 : Sat prog cxT 41 (c41 m41)) (h40 : Sat prog cxT 40 (c40 m40)) (m : (List (Int × (Int × (Bool × Int)))) → Option Int) (hm : ∀ (x : (List (Int × (Int × (Bool × Int))))) t, m x = some t → ∃ L, g21 m41 m40 L x = some t) : Sat prog cxT 21 (c21 m) :=
  sat_t cxT_ok cxT_pok (by rfl) (fn := f21) rfl a21 n21 dd21 m (ev21 m41 m40) (kok_cons h41 (kok_cons h40 kok_nil)) kwok_nil (fun L x => g21 m41 m40 L x) (fun L x => e21 m41 m40 L x) hm hs21
/-! loop.example/g00222/laws.toVerdictS -/
def ev22 (m48 : (Int × Int × Bool × Int) → Option (Int × Int × Bool × Int)) : Env cxT := { Kc := kcOf [(48, c48 m48)], Kw := kwOf [], lv := fun i => if i = 0 then [(0, [some 82]), (3, [some 80]), (4, [])] else [], xv := fun i => if i = 0 then some [(3, [some 80])] else none }
def S22_0 (a0 : (List (Int × (Int × (Bool × Int))))) (v0_3 : (List (Int × (Int × (Bool × Int))))) (v0_4 : Int) : St cxT.ty := { slots := [(.inl (.inl (ls { own := 0, nm := 0, e := 82, o := false, xs := a0 }))), junk, junk, (.inl (.inl (ls { own := 1, nm := 192, e := 80, o := true, xs := v0_3 }))), (.inl (.inl (lv (.int .i64 v0_4))))] ++ List.replicate 18 junk, D := [], F := [], ctr := 1 }
def X22_0 (a0 : (List (Int × (Int × (Bool × Int))))) (w0_3 : (List (Int × (Int × (Bool × Int))))) : St cxT.ty := { slots := [junk, junk, junk, (.inl (.inl (ls { own := 1, nm := 192, e := 80, o := true, xs := w0_3 })))] ++ List.replicate 19 junk, D := [], F := [], ctr := 1 }
theorem i22 (m48 : (Int × Int × Bool × Int) → Option (Int × Int × Bool × Int)) (L : Nat) (a0 : (List (Int × (Int × (Bool × Int))))) : evF prog (ev22 m48) (loopN L) f22 (a22.enc a0) =
  bif (((decide ((0 : Int) ≤ (Nat.cast (List.length a0) : Int))) && (decide ((Nat.cast (List.length a0) : Int) ≤ (Nat.cast (List.length a0) : Int)))) && (decide ((Nat.cast (List.length a0) : Int) ≤ (1000000000 : Int)))) then headF prog (ev22 m48) L f22 0 [1, 1, 0, 1, 0, 0] (outK (outV prog f22) (topK prog (ev22 m48) L f22 [1, 1, 0, 1] (outV prog f22)).n (topK prog (ev22 m48) L f22 [1, 1, 0, 1] (outV prog f22)).x) L (S22_0 a0 (List.replicate (Int.toNat (Nat.cast (List.length a0) : Int)) ((0 : Int), ((0 : Int), (Bool.false, (0 : Int))))) (0 : Int))
  else none := by kernel_rfl
theorem r22_0 (m48 : (Int × Int × Bool × Int) → Option (Int × Int × Bool × Int)) (L : Nat) (a0 : (List (Int × (Int × (Bool × Int))))) (k : St cxT.ty → Option (V cxT.ty)) (xk : Nat → St cxT.ty → Option (V cxT.ty)) (g : St cxT.ty → Option (V cxT.ty)) (v0_3 : (List (Int × (Int × (Bool × Int))))) (v0_4 : Int) : roundF prog (ev22 m48) L f22 0 [1, 1, 0, 1, 0, 0] (outK (outV prog f22) k xk) g (S22_0 a0 v0_3 v0_4) =
  bif (decide (v0_4 < (Nat.cast (List.length a0) : Int))) then bif ((decide ((0 : Int) ≤ v0_4)) && (decide (v0_4 < (Nat.cast (List.length a0) : Int)))) then tst (m48 ((List.getD a0 (Int.toNat v0_4) ((0 : Int), ((0 : Int), (Bool.false, (0 : Int))))).1, ((List.getD a0 (Int.toNat v0_4) ((0 : Int), ((0 : Int), (Bool.false, (0 : Int))))).2.1, ((List.getD a0 (Int.toNat v0_4) ((0 : Int), ((0 : Int), (Bool.false, (0 : Int))))).2.2.1, (List.getD a0 (Int.toNat v0_4) ((0 : Int), ((0 : Int), (Bool.false, (0 : Int))))).2.2.2)))) ((0 : Int), (0 : Int), false, (0 : Int)) fun (q3 : (Int × Int × Bool × Int)) => bif ((decide ((0 : Int) ≤ v0_4)) && (decide (v0_4 < (Nat.cast (List.length v0_3) : Int)))) then g (S22_0 a0 (List.set v0_3 (Int.toNat v0_4) (q3.1, (q3.2.1, (q3.2.2.1, q3.2.2.2)))) (Go.IntKind.wrap Go.IntKind.i64 (v0_4 + (1 : Int))))
        else none
    else none
  else k (X22_0 a0 v0_3) := by kernel_rfl
theorem t22_0 (m48 : (Int × Int × Bool × Int) → Option (Int × Int × Bool × Int)) (L : Nat) (a0 : (List (Int × (Int × (Bool × Int))))) (w0_3 : (List (Int × (Int × (Bool × Int))))) : (topK prog (ev22 m48) L f22 [1, 1, 0, 1] (outV prog f22)).n (X22_0 a0 w0_3) =
  some (n22 w0_3) := by kernel_rfl
def l22_0 (m48 : (Int × Int × Bool × Int) → Option (Int × Int × Bool × Int)) (L : Nat) (a0 : (List (Int × (Int × (Bool × Int))))) : Nat → (List (Int × (Int × (Bool × Int)))) → Int → ((List (Int × (Int × (Bool × Int)))) → Option (List (Int × (Int × (Bool × Int))))) → Option (List (Int × (Int × (Bool × Int))))
  | 0, _, _, _ => none
  | n + 1, v0_3, v0_4, k =>
    bif (decide (v0_4 < (Nat.cast (List.length a0) : Int))) then bif ((decide ((0 : Int) ≤ v0_4)) && (decide (v0_4 < (Nat.cast (List.length a0) : Int)))) then tst (m48 ((List.getD a0 (Int.toNat v0_4) ((0 : Int), ((0 : Int), (Bool.false, (0 : Int))))).1, ((List.getD a0 (Int.toNat v0_4) ((0 : Int), ((0 : Int), (Bool.false, (0 : Int))))).2.1, ((List.getD a0 (Int.toNat v0_4) ((0 : Int), ((0 : Int), (Bool.false, (0 : Int))))).2.2.1, (List.getD a0 (Int.toNat v0_4) ((0 : Int), ((0 : Int), (Bool.false, (0 : Int))))).2.2.2)))) ((0 : Int), (0 : Int), false, (0 : Int)) fun (q4 : (Int × Int × Bool × Int)) => bif ((decide ((0 : Int) ≤ v0_4)) && (decide (v0_4 < (Nat.cast (List.length v0_3) : Int)))) then l22_0 m48 L a0 n (List.set v0_3 (Int.toNat v0_4) (q4.1, (q4.2.1, (q4.2.2.1, q4.2.2.2)))) (Go.IntKind.wrap Go.IntKind.i64 (v0_4 + (1 : Int))) k
          else none
      else none
    else k v0_3
theorem h22_0 (m48 : (Int × Int × Bool × Int) → Option (Int × Int × Bool × Int)) (L : Nat) (a0 : (List (Int × (Int × (Bool × Int))))) (k : St cxT.ty → Option (V cxT.ty)) (xk : Nat → St cxT.ty → Option (V cxT.ty)) (k' : (List (Int × (Int × (Bool × Int)))) → Option (List (Int × (Int × (Bool × Int))))) (hk : ∀ (w0_3 : (List (Int × (Int × (Bool × Int))))), k (X22_0 a0 w0_3) = (k' w0_3).map n22) : ∀ (n : Nat) (v0_3 : (List (Int × (Int × (Bool × Int))))) (v0_4 : Int), headF prog (ev22 m48) L f22 0 [1, 1, 0, 1, 0, 0] (outK (outV prog f22) k xk) n (S22_0 a0 v0_3 v0_4) = (l22_0 m48 L a0 n v0_3 v0_4 k').map n22
  | 0, _, _ => rfl
  | n + 1, v0_3, v0_4 => by
    rw [headF_round, r22_0]
    have ih := h22_0 m48 L a0 k xk k' hk n
    simp only [l22_0, map_bif, map_tst, map_bnd, Option.map_some, Option.map_none, ih, hk]
def g22 (m48 : (Int × Int × Bool × Int) → Option (Int × Int × Bool × Int)) (L : Nat) (a0 : (List (Int × (Int × (Bool × Int))))) : Option (List (Int × (Int × (Bool × Int)))) :=
  bif (((decide ((0 : Int) ≤ (Nat.cast (List.length a0) : Int))) && (decide ((Nat.cast (List.length a0) : Int) ≤ (Nat.cast (List.length a0) : Int)))) && (decide ((Nat.cast (List.length a0) : Int) ≤ (1000000000 : Int)))) then l22_0 m48 L a0 L (List.replicate (Int.toNat (Nat.cast (List.length a0) : Int)) ((0 : Int), ((0 : Int), (Bool.false, (0 : Int))))) (0 : Int) (fun (w0_3 : (List (Int × (Int × (Bool × Int))))) => some w0_3)
  else none
theorem e22 (m48 : (Int × Int × Bool × Int) → Option (Int × Int × Bool × Int)) (L : Nat) (a0 : (List (Int × (Int × (Bool × Int))))) : evF prog (ev22 m48) (loopN L) f22 (a22.enc a0) = (g22 m48 L a0).map n22 := by
  let K'0 : (List (Int × (Int × (Bool × Int)))) → Option (List (Int × (Int × (Bool × Int)))) := (fun (w0_3 : (List (Int × (Int × (Bool × Int))))) => some w0_3)
  have hin0 : ∀ (v0_3 : (List (Int × (Int × (Bool × Int))))) (v0_4 : Int), headF prog (ev22 m48) L f22 0 [1, 1, 0, 1, 0, 0] (outK (outV prog f22) (topK prog (ev22 m48) L f22 [1, 1, 0, 1] (outV prog f22)).n (topK prog (ev22 m48) L f22 [1, 1, 0, 1] (outV prog f22)).x) L (S22_0 a0 v0_3 v0_4) = (l22_0 m48 L a0 L v0_3 v0_4 K'0).map n22 := fun v0_3 v0_4 => h22_0 m48 L a0 _ _ K'0 (fun w0_3 => by rw [t22_0]; simp only [K'0, map_bif, map_tst, map_bnd, Option.map_some, Option.map_none]) L v0_3 v0_4
  rw [i22]; simp only [g22, map_bif, map_tst, map_bnd, Option.map_some, Option.map_none, hin0, K'0]
theorem s22 (m48 : (Int × Int × Bool × Int) → Option (Int × Int × Bool × Int)) (h48 : Sat prog cxT 48 (c48 m48)) (m : (List (Int × (Int × (Bool × Int)))) → Option (List (Int × (Int × (Bool × Int))))) (hm : ∀ (x : (List (Int × (Int × (Bool × Int))))) t, m x = some t → ∃ L, g22 m48 L x = some t) : Sat prog cxT 22 (c22 m) :=
  sat_t cxT_ok cxT_pok (by rfl) (fn := f22) rfl a22 n22 dd22 m (ev22 m48) (kok_cons h48 kok_nil) kwok_nil (fun L x => g22 m48 L x) (fun L x => e22 m48 L x) hm hs22
/-! loop.example/g00222/impl.VerdictsFault -/
def ev23 (m49 : (Int × Int × Bool × Int) → Option Bool) : Env cxT := { Kc := kcOf [(49, c49 m49)], Kw := kwOf [], lv := fun i => if i = 0 then [(8, [some 80]), (9, []), (10, [])] else [], xv := fun i => if i = 0 then some [] else none }
def S23_0 (a0 : (List (Int × (Int × (Bool × Int))))) (v0_10 : Int) : St cxT.ty := { slots := [junk, junk, junk, junk, junk, junk, junk, junk, (.inl (.inl (ls { own := 0, nm := 0, e := 80, o := false, xs := a0 }))), (.inl (.inl (lv (.int .i64 (Nat.cast (List.length a0) : Int))))), (.inl (.inl (lv (.int .i64 v0_10))))] ++ List.replicate 7 junk, D := [], F := [], ctr := 1 }
def X23_0 (a0 : (List (Int × (Int × (Bool × Int))))) : St cxT.ty := { slots := [] ++ List.replicate 18 junk, D := [], F := [], ctr := 1 }
theorem i23 (m49 : (Int × Int × Bool × Int) → Option Bool) (L : Nat) (a0 : (List (Int × (Int × (Bool × Int))))) : evF prog (ev23 m49) (loopN L) f23 (a23.enc a0) =
  bif (decide ((Nat.cast (List.length a0) : Int) > (60 : Int))) then some (n23 (2 : Int))
  else headF prog (ev23 m49) L f23 0 [1, 1, 0, 1, 0, 0] (outK (outV prog f23) (topK prog (ev23 m49) L f23 [1, 1, 0, 1] (outV prog f23)).n (topK prog (ev23 m49) L f23 [1, 1, 0, 1] (outV prog f23)).x) L (S23_0 a0 (0 : Int)) := by kernel_rfl
theorem r23_0 (m49 : (Int × Int × Bool × Int) → Option Bool) (L : Nat) (a0 : (List (Int × (Int × (Bool × Int))))) (k : St cxT.ty → Option (V cxT.ty)) (xk : Nat → St cxT.ty → Option (V cxT.ty)) (g : St cxT.ty → Option (V cxT.ty)) (v0_10 : Int) : roundF prog (ev23 m49) L f23 0 [1, 1, 0, 1, 0, 0] (outK (outV prog f23) k xk) g (S23_0 a0 v0_10) =
  bif (decide (v0_10 < (Nat.cast (List.length a0) : Int))) then bif ((decide ((0 : Int) ≤ v0_10)) && (decide (v0_10 < (Nat.cast (List.length a0) : Int)))) then tst (m49 ((List.getD a0 (Int.toNat v0_10) ((0 : Int), ((0 : Int), (Bool.false, (0 : Int))))).1, ((List.getD a0 (Int.toNat v0_10) ((0 : Int), ((0 : Int), (Bool.false, (0 : Int))))).2.1, ((List.getD a0 (Int.toNat v0_10) ((0 : Int), ((0 : Int), (Bool.false, (0 : Int))))).2.2.1, (List.getD a0 (Int.toNat v0_10) ((0 : Int), ((0 : Int), (Bool.false, (0 : Int))))).2.2.2)))) false fun (q3 : Bool) => bif (!q3) then some (n23 (3 : Int))
        else g (S23_0 a0 (Go.IntKind.wrap Go.IntKind.i64 (v0_10 + (1 : Int))))
    else none
  else k (X23_0 a0) := by kernel_rfl
theorem t23_0 (m49 : (Int × Int × Bool × Int) → Option Bool) (L : Nat) (a0 : (List (Int × (Int × (Bool × Int))))) : (topK prog (ev23 m49) L f23 [1, 1, 0, 1] (outV prog f23)).n (X23_0 a0) =
  some (n23 (0 : Int)) := by kernel_rfl
def l23_0 (m49 : (Int × Int × Bool × Int) → Option Bool) (L : Nat) (a0 : (List (Int × (Int × (Bool × Int))))) : Nat → Int → (Option Int) → Option Int
  | 0, _, _ => none
  | n + 1, v0_10, k =>
    bif (decide (v0_10 < (Nat.cast (List.length a0) : Int))) then bif ((decide ((0 : Int) ≤ v0_10)) && (decide (v0_10 < (Nat.cast (List.length a0) : Int)))) then tst (m49 ((List.getD a0 (Int.toNat v0_10) ((0 : Int), ((0 : Int), (Bool.false, (0 : Int))))).1, ((List.getD a0 (Int.toNat v0_10) ((0 : Int), ((0 : Int), (Bool.false, (0 : Int))))).2.1, ((List.getD a0 (Int.toNat v0_10) ((0 : Int), ((0 : Int), (Bool.false, (0 : Int))))).2.2.1, (List.getD a0 (Int.toNat v0_10) ((0 : Int), ((0 : Int), (Bool.false, (0 : Int))))).2.2.2)))) false fun (q4 : Bool) => bif (!q4) then some (3 : Int)
          else l23_0 m49 L a0 n (Go.IntKind.wrap Go.IntKind.i64 (v0_10 + (1 : Int))) k
      else none
    else k
theorem h23_0 (m49 : (Int × Int × Bool × Int) → Option Bool) (L : Nat) (a0 : (List (Int × (Int × (Bool × Int))))) (k : St cxT.ty → Option (V cxT.ty)) (xk : Nat → St cxT.ty → Option (V cxT.ty)) (k' : Option Int) (hk : k (X23_0 a0) = (k').map n23) : ∀ (n : Nat) (v0_10 : Int), headF prog (ev23 m49) L f23 0 [1, 1, 0, 1, 0, 0] (outK (outV prog f23) k xk) n (S23_0 a0 v0_10) = (l23_0 m49 L a0 n v0_10 k').map n23
  | 0, _ => rfl
  | n + 1, v0_10 => by
    rw [headF_round, r23_0]
    have ih := h23_0 m49 L a0 k xk k' hk n
    simp only [l23_0, map_bif, map_tst, map_bnd, Option.map_some, Option.map_none, ih, hk]
def g23 (m49 : (Int × Int × Bool × Int) → Option Bool) (L : Nat) (a0 : (List (Int × (Int × (Bool × Int))))) : Option Int :=
  bif (decide ((Nat.cast (List.length a0) : Int) > (60 : Int))) then some (2 : Int)
  else l23_0 m49 L a0 L (0 : Int) (some (0 : Int))
theorem e23 (m49 : (Int × Int × Bool × Int) → Option Bool) (L : Nat) (a0 : (List (Int × (Int × (Bool × Int))))) : evF prog (ev23 m49) (loopN L) f23 (a23.enc a0) = (g23 m49 L a0).map n23 := by
  let K'0 : Option Int := (some (0 : Int))
  have hin0 : ∀ (v0_10 : Int), headF prog (ev23 m49) L f23 0 [1, 1, 0, 1, 0, 0] (outK (outV prog f23) (topK prog (ev23 m49) L f23 [1, 1, 0, 1] (outV prog f23)).n (topK prog (ev23 m49) L f23 [1, 1, 0, 1] (outV prog f23)).x) L (S23_0 a0 v0_10) = (l23_0 m49 L a0 L v0_10 K'0).map n23 := fun v0_10 => h23_0 m49 L a0 _ _ K'0 (by rw [t23_0]; simp only [K'0, map_bif, map_tst, map_bnd, Option.map_some, Option.map_none]) L v0_10
  rw [i23]; simp only [g23, map_bif, map_tst, map_bnd, Option.map_some, Option.map_none, hin0, K'0]
theorem s23 (m49 : (Int × Int × Bool × Int) → Option Bool) (h49 : Sat prog cxT 49 (c49 m49)) (m : (List (Int × (Int × (Bool × Int)))) → Option Int) (hm : ∀ (x : (List (Int × (Int × (Bool × Int))))) t, m x = some t → ∃ L, g23 m49 L x = some t) : Sat prog cxT 23 (c23 m) :=
  sat_t cxT_ok cxT_pok (by rfl) (fn := f23) rfl a23 n23 dd23 m (ev23 m49) (kok_cons h49 kok_nil) kwok_nil (fun L x => g23 m49 L x) (fun L x => e23 m49 L x) hm hs23
/-! loop.example/g00222/laws.eqVerdictS -/
def ev24 (m50 : ((Int × Int × Bool × Int) × (Int × Int × Bool × Int)) → Option Bool) : Env cxT := { Kc := kcOf [(50, c50 m50)], Kw := kwOf [], lv := fun i => if i = 0 then [(0, [some 80]), (1, [some 80]), (5, [])] else [], xv := fun i => if i = 0 then some [] else none }
def S24_0 (a0 : (List (Int × (Int × (Bool × Int))))) (a1 : (List (Int × (Int × (Bool × Int))))) (v0_5 : Int) : St cxT.ty := { slots := [(.inl (.inl (ls { own := 0, nm := 0, e := 80, o := false, xs := a0 }))), (.inl (.inl (ls { own := 0, nm := 0, e := 80, o := false, xs := a1 }))), junk, junk, junk, (.inl (.inl (lv (.int .i64 v0_5))))] ++ List.replicate 21 junk, D := [], F := [], ctr := 1 }
def X24_0 (a0 : (List (Int × (Int × (Bool × Int))))) (a1 : (List (Int × (Int × (Bool × Int))))) : St cxT.ty := { slots := [] ++ List.replicate 27 junk, D := [], F := [], ctr := 1 }
theorem i24 (m50 : ((Int × Int × Bool × Int) × (Int × Int × Bool × Int)) → Option Bool) (L : Nat) (a0 : (List (Int × (Int × (Bool × Int))))) (a1 : (List (Int × (Int × (Bool × Int))))) : evF prog (ev24 m50) (loopN L) f24 (a24.enc (a0, a1)) =
  bif ((Nat.cast (List.length a0) : Int) != (Nat.cast (List.length a1) : Int)) then some (n24 Bool.false)
  else headF prog (ev24 m50) L f24 0 [1, 1, 0, 1, 0, 0] (outK (outV prog f24) (topK prog (ev24 m50) L f24 [1, 1, 0, 1] (outV prog f24)).n (topK prog (ev24 m50) L f24 [1, 1, 0, 1] (outV prog f24)).x) L (S24_0 a0 a1 (0 : Int)) := by kernel_rfl
theorem r24_0 (m50 : ((Int × Int × Bool × Int) × (Int × Int × Bool × Int)) → Option Bool) (L : Nat) (a0 : (List (Int × (Int × (Bool × Int))))) (a1 : (List (Int × (Int × (Bool × Int))))) (k : St cxT.ty → Option (V cxT.ty)) (xk : Nat → St cxT.ty → Option (V cxT.ty)) (g : St cxT.ty → Option (V cxT.ty)) (v0_5 : Int) : roundF prog (ev24 m50) L f24 0 [1, 1, 0, 1, 0, 0] (outK (outV prog f24) k xk) g (S24_0 a0 a1 v0_5) =
  bif (decide (v0_5 < (Nat.cast (List.length a0) : Int))) then bif ((decide ((0 : Int) ≤ v0_5)) && (decide (v0_5 < (Nat.cast (List.length a0) : Int)))) then bif ((decide ((0 : Int) ≤ v0_5)) && (decide (v0_5 < (Nat.cast (List.length a1) : Int)))) then tst (m50 (((List.getD a0 (Int.toNat v0_5) ((0 : Int), ((0 : Int), (Bool.false, (0 : Int))))).1, ((List.getD a0 (Int.toNat v0_5) ((0 : Int), ((0 : Int), (Bool.false, (0 : Int))))).2.1, ((List.getD a0 (Int.toNat v0_5) ((0 : Int), ((0 : Int), (Bool.false, (0 : Int))))).2.2.1, (List.getD a0 (Int.toNat v0_5) ((0 : Int), ((0 : Int), (Bool.false, (0 : Int))))).2.2.2))), ((List.getD a1 (Int.toNat v0_5) ((0 : Int), ((0 : Int), (Bool.false, (0 : Int))))).1, ((List.getD a1 (Int.toNat v0_5) ((0 : Int), ((0 : Int), (Bool.false, (0 : Int))))).2.1, ((List.getD a1 (Int.toNat v0_5) ((0 : Int), ((0 : Int), (Bool.false, (0 : Int))))).2.2.1, (List.getD a1 (Int.toNat v0_5) ((0 : Int), ((0 : Int), (Bool.false, (0 : Int))))).2.2.2))))) false fun (q4 : Bool) => bif (!q4) then some (n24 Bool.false)
          else g (S24_0 a0 a1 (Go.IntKind.wrap Go.IntKind.i64 (v0_5 + (1 : Int))))
      else none
    else none
  else k (X24_0 a0 a1) := by kernel_rfl
theorem t24_0 (m50 : ((Int × Int × Bool × Int) × (Int × Int × Bool × Int)) → Option Bool) (L : Nat) (a0 : (List (Int × (Int × (Bool × Int))))) (a1 : (List (Int × (Int × (Bool × Int))))) : (topK prog (ev24 m50) L f24 [1, 1, 0, 1] (outV prog f24)).n (X24_0 a0 a1) =
  some (n24 Bool.true) := by kernel_rfl
def l24_0 (m50 : ((Int × Int × Bool × Int) × (Int × Int × Bool × Int)) → Option Bool) (L : Nat) (a0 : (List (Int × (Int × (Bool × Int))))) (a1 : (List (Int × (Int × (Bool × Int))))) : Nat → Int → (Option Bool) → Option Bool
  | 0, _, _ => none
  | n + 1, v0_5, k =>
    bif (decide (v0_5 < (Nat.cast (List.length a0) : Int))) then bif ((decide ((0 : Int) ≤ v0_5)) && (decide (v0_5 < (Nat.cast (List.length a0) : Int)))) then bif ((decide ((0 : Int) ≤ v0_5)) && (decide (v0_5 < (Nat.cast (List.length a1) : Int)))) then tst (m50 (((List.getD a0 (Int.toNat v0_5) ((0 : Int), ((0 : Int), (Bool.false, (0 : Int))))).1, ((List.getD a0 (Int.toNat v0_5) ((0 : Int), ((0 : Int), (Bool.false, (0 : Int))))).2.1, ((List.getD a0 (Int.toNat v0_5) ((0 : Int), ((0 : Int), (Bool.false, (0 : Int))))).2.2.1, (List.getD a0 (Int.toNat v0_5) ((0 : Int), ((0 : Int), (Bool.false, (0 : Int))))).2.2.2))), ((List.getD a1 (Int.toNat v0_5) ((0 : Int), ((0 : Int), (Bool.false, (0 : Int))))).1, ((List.getD a1 (Int.toNat v0_5) ((0 : Int), ((0 : Int), (Bool.false, (0 : Int))))).2.1, ((List.getD a1 (Int.toNat v0_5) ((0 : Int), ((0 : Int), (Bool.false, (0 : Int))))).2.2.1, (List.getD a1 (Int.toNat v0_5) ((0 : Int), ((0 : Int), (Bool.false, (0 : Int))))).2.2.2))))) false fun (q5 : Bool) => bif (!q5) then some Bool.false
            else l24_0 m50 L a0 a1 n (Go.IntKind.wrap Go.IntKind.i64 (v0_5 + (1 : Int))) k
        else none
      else none
    else k
theorem h24_0 (m50 : ((Int × Int × Bool × Int) × (Int × Int × Bool × Int)) → Option Bool) (L : Nat) (a0 : (List (Int × (Int × (Bool × Int))))) (a1 : (List (Int × (Int × (Bool × Int))))) (k : St cxT.ty → Option (V cxT.ty)) (xk : Nat → St cxT.ty → Option (V cxT.ty)) (k' : Option Bool) (hk : k (X24_0 a0 a1) = (k').map n24) : ∀ (n : Nat) (v0_5 : Int), headF prog (ev24 m50) L f24 0 [1, 1, 0, 1, 0, 0] (outK (outV prog f24) k xk) n (S24_0 a0 a1 v0_5) = (l24_0 m50 L a0 a1 n v0_5 k').map n24
  | 0, _ => rfl
  | n + 1, v0_5 => by
    rw [headF_round, r24_0]
    have ih := h24_0 m50 L a0 a1 k xk k' hk n
    simp only [l24_0, map_bif, map_tst, map_bnd, Option.map_some, Option.map_none, ih, hk]
def g24 (m50 : ((Int × Int × Bool × Int) × (Int × Int × Bool × Int)) → Option Bool) (L : Nat) (a0 : (List (Int × (Int × (Bool × Int))))) (a1 : (List (Int × (Int × (Bool × Int))))) : Option Bool :=
  bif ((Nat.cast (List.length a0) : Int) != (Nat.cast (List.length a1) : Int)) then some Bool.false
  else l24_0 m50 L a0 a1 L (0 : Int) (some Bool.true)
theorem e24 (m50 : ((Int × Int × Bool × Int) × (Int × Int × Bool × Int)) → Option Bool) (L : Nat) (a0 : (List (Int × (Int × (Bool × Int))))) (a1 : (List (Int × (Int × (Bool × Int))))) : evF prog (ev24 m50) (loopN L) f24 (a24.enc (a0, a1)) = (g24 m50 L a0 a1).map n24 := by
  let K'0 : Option Bool := (some Bool.true)
  have hin0 : ∀ (v0_5 : Int), headF prog (ev24 m50) L f24 0 [1, 1, 0, 1, 0, 0] (outK (outV prog f24) (topK prog (ev24 m50) L f24 [1, 1, 0, 1] (outV prog f24)).n (topK prog (ev24 m50) L f24 [1, 1, 0, 1] (outV prog f24)).x) L (S24_0 a0 a1 v0_5) = (l24_0 m50 L a0 a1 L v0_5 K'0).map n24 := fun v0_5 => h24_0 m50 L a0 a1 _ _ K'0 (by rw [t24_0]; simp only [K'0, map_bif, map_tst, map_bnd, Option.map_some, Option.map_none]) L v0_5
  rw [i24]; simp only [g24, map_bif, map_tst, map_bnd, Option.map_some, Option.map_none, hin0, K'0]
theorem s24 (m50 : ((Int × Int × Bool × Int) × (Int × Int × Bool × Int)) → Option Bool) (h50 : Sat prog cxT 50 (c50 m50)) (m : ((List (Int × (Int × (Bool × Int)))) × (List (Int × (Int × (Bool × Int))))) → Option Bool) (hm : ∀ (x : ((List (Int × (Int × (Bool × Int)))) × (List (Int × (Int × (Bool × Int)))))) t, m x = some t → ∃ L, g24 m50 L x.1 x.2 = some t) : Sat prog cxT 24 (c24 m) :=
  sat_t cxT_ok cxT_pok (by rfl) (fn := f24) rfl a24 n24 dd24 m (ev24 m50) (kok_cons h50 kok_nil) kwok_nil (fun L x => g24 m50 L x.1 x.2) (fun L x => e24 m50 L x.1 x.2) hm hs24
/-! loop.example/g00222/impl.isVerdict -/
def ev49 (m44 : (Int × Int × Int) → Option Bool) (m43 : Int → Option Bool) : Env cxT := { Kc := kcOf [(44, c44 m44), (43, c43 m43)], Kw := kwOf [], lv := fun i => [], xv := fun i => none }
theorem i49 (m44 : (Int × Int × Int) → Option Bool) (m43 : Int → Option Bool) (L : Nat) (a0_0 : Int) (a0_1 : Int) (a0_2 : Bool) (a0_3 : Int) : evF prog (ev49 m44 m43) (loopN L) f49 (a49.enc (a0_0, a0_1, a0_2, a0_3)) =
  tst (m44 (a0_0, ((0 : Int), (9 : Int)))) false fun (q1 : Bool) => bif q1 then tst (m43 a0_1) false fun (q3 : Bool) => bif q3 then tst (m44 (a0_3, ((0 : Int), (1000000 : Int)))) false fun (q5 : Bool) => some (n49 q5)
        else some (n49 Bool.false)
    else some (n49 Bool.false) := by kernel_rfl
def g49 (m44 : (Int × Int × Int) → Option Bool) (m43 : Int → Option Bool) (L : Nat) (a0_0 : Int) (a0_1 : Int) (a0_2 : Bool) (a0_3 : Int) : Option Bool :=
  tst (m44 (a0_0, ((0 : Int), (9 : Int)))) false fun (q1 : Bool) => bif q1 then tst (m43 a0_1) false fun (q3 : Bool) => bif q3 then tst (m44 (a0_3, ((0 : Int), (1000000 : Int)))) false fun (q5 : Bool) => some q5
        else some Bool.false
    else some Bool.false
theorem e49 (m44 : (Int × Int × Int) → Option Bool) (m43 : Int → Option Bool) (L : Nat) (a0_0 : Int) (a0_1 : Int) (a0_2 : Bool) (a0_3 : Int) : evF prog (ev49 m44 m43) (loopN L) f49 (a49.enc (a0_0, a0_1, a0_2, a0_3)) = (g49 m44 m43 L a0_0 a0_1 a0_2 a0_3).map n49 := by
  rw [i49]; simp only [g49, map_bif, map_tst, map_bnd, Option.map_some, Option.map_none]
theorem s49 (m44 : (Int × Int × Int) → Option Bool) (m43 : Int → Option Bool) (h44 : Sat prog cxT 44 (c44 m44)) (h43 : Sat prog cxT 43 (c43 m43)) (m : (Int × Int × Bool × Int) → Option Bool) (hm : ∀ (x : (Int × Int × Bool × Int)) t, m x = some t → ∃ L, g49 m44 m43 L x.1 x.2.1 x.2.2.1 x.2.2.2 = some t) : Sat prog cxT 49 (c49 m) :=
  sat_t cxT_ok cxT_pok (by rfl) (fn := f49) rfl a49 n49 dd49 m (ev49 m44 m43) (kok_cons h44 (kok_cons h43 kok_nil)) kwok_nil (fun L x => g49 m44 m43 L x.1 x.2.1 x.2.2.1 x.2.2.2) (fun L x => e49 m44 m43 L x.1 x.2.1 x.2.2.1 x.2.2.2) hm hs49
/-! loop.example/g00222/laws.lwBig -/
/-! loop.example/g00222/impl.isQuorum -/
def ev73 : Env cxT := { Kc := kcOf [], Kw := kwOf [], lv := fun i => [], xv := fun i => none }
theorem i73 (L : Nat) (a0 : Int) (a1 : Int) : evF prog ev73 (loopN L) f73 (a73.enc (a0, a1)) =
  some (n73 (decide ((Go.IntKind.wrap Go.IntKind.i64 ((2 : Int) * a0)) > a1))) := by kernel_rfl
def g73 (L : Nat) (a0 : Int) (a1 : Int) : Option Bool :=
  some (decide ((Go.IntKind.wrap Go.IntKind.i64 ((2 : Int) * a0)) > a1))
theorem e73 (L : Nat) (a0 : Int) (a1 : Int) : evF prog ev73 (loopN L) f73 (a73.enc (a0, a1)) = (g73 L a0 a1).map n73 := by
  rw [i73]; simp only [g73, map_bif, map_tst, map_bnd, Option.map_some, Option.map_none]
theorem s73 (m : (Int × Int) → Option Bool) (hm : ∀ (x : (Int × Int)) t, m x = some t → ∃ L, g73 L x.1 x.2 = some t) : Sat prog cxT 73 (c73 m) :=
  sat_t cxT_ok cxT_pok (by rfl) (fn := f73) rfl a73 n73 dd73 m ev73 kok_nil kwok_nil (fun L x => g73 L x.1 x.2) (fun L x => e73 L x.1 x.2) hm hs73
/-! loop.example/g00222/impl.saidFault -/
def ev52 (m23 : (List (Int × (Int × (Bool × Int)))) → Option Int) (m44 : (Int × Int × Int) → Option Bool) : Env cxT := { Kc := kcOf [(23, c23 m23), (44, c44 m44)], Kw := kwOf [], lv := fun i => [], xv := fun i => none }
theorem i52 (m23 : (List (Int × (Int × (Bool × Int)))) → Option Int) (m44 : (Int × Int × Int) → Option Bool) (L : Nat) (a0 : (List (Int × (Int × (Bool × Int))))) (a1 : Int) : evF prog (ev52 m23 m44) (loopN L) f52 (a52.enc (a0, a1)) =
  tst (m23 a0) (0 : Int) fun (q1 : Int) => bif (q1 != (0 : Int)) then some (n52 q1)
    else tst (m44 (a1, ((1 : Int), (10 : Int)))) false fun (q2 : Bool) => bif (!q2) then some (n52 (3 : Int))
      else some (n52 (0 : Int)) := by kernel_rfl
def g52 (m23 : (List (Int × (Int × (Bool × Int)))) → Option Int) (m44 : (Int × Int × Int) → Option Bool) (L : Nat) (a0 : (List (Int × (Int × (Bool × Int))))) (a1 : Int) : Option Int :=
  tst (m23 a0) (0 : Int) fun (q1 : Int) => bif (q1 != (0 : Int)) then some q1
    else tst (m44 (a1, ((1 : Int), (10 : Int)))) false fun (q2 : Bool) => bif (!q2) then some (3 : Int)
      else some (0 : Int)
theorem e52 (m23 : (List (Int × (Int × (Bool × Int)))) → Option Int) (m44 : (Int × Int × Int) → Option Bool) (L : Nat) (a0 : (List (Int × (Int × (Bool × Int))))) (a1 : Int) : evF prog (ev52 m23 m44) (loopN L) f52 (a52.enc (a0, a1)) = (g52 m23 m44 L a0 a1).map n52 := by
  rw [i52]; simp only [g52, map_bif, map_tst, map_bnd, Option.map_some, Option.map_none]
theorem s52 (m23 : (List (Int × (Int × (Bool × Int)))) → Option Int) (m44 : (Int × Int × Int) → Option Bool) (h23 : Sat prog cxT 23 (c23 m23)) (h44 : Sat prog cxT 44 (c44 m44)) (m : ((List (Int × (Int × (Bool × Int)))) × Int) → Option Int) (hm : ∀ (x : ((List (Int × (Int × (Bool × Int)))) × Int)) t, m x = some t → ∃ L, g52 m23 m44 L x.1 x.2 = some t) : Sat prog cxT 52 (c52 m) :=
  sat_t cxT_ok cxT_pok (by rfl) (fn := f52) rfl a52 n52 dd52 m (ev52 m23 m44) (kok_cons h23 (kok_cons h44 kok_nil)) kwok_nil (fun L x => g52 m23 m44 L x.1 x.2) (fun L x => e52 m23 m44 L x.1 x.2) hm hs52
/-! loop.example/g00222/laws.eqIntResult -/
def ev27 : Env cxT := { Kc := kcOf [], Kw := kwOf [], lv := fun i => [], xv := fun i => none }
theorem i27 (L : Nat) (a0_0 : Int) (a0_1 : Int) (a1_0 : Int) (a1_1 : Int) : evF prog ev27 (loopN L) f27 (a27.enc ((a0_0, a0_1), (a1_0, a1_1))) =
  bif (a0_0 != a1_0) then some (n27 Bool.false)
  else bif (a0_1 != a1_1) then some (n27 Bool.false)
  else some (n27 Bool.true) := by kernel_rfl
def g27 (L : Nat) (a0_0 : Int) (a0_1 : Int) (a1_0 : Int) (a1_1 : Int) : Option Bool :=
  bif (a0_0 != a1_0) then some Bool.false
  else bif (a0_1 != a1_1) then some Bool.false
  else some Bool.true
theorem e27 (L : Nat) (a0_0 : Int) (a0_1 : Int) (a1_0 : Int) (a1_1 : Int) : evF prog ev27 (loopN L) f27 (a27.enc ((a0_0, a0_1), (a1_0, a1_1))) = (g27 L a0_0 a0_1 a1_0 a1_1).map n27 := by
  rw [i27]; simp only [g27, map_bif, map_tst, map_bnd, Option.map_some, Option.map_none]
theorem s27 (m : ((Int × Int) × (Int × Int)) → Option Bool) (hm : ∀ (x : ((Int × Int) × (Int × Int))) t, m x = some t → ∃ L, g27 L x.1.1 x.1.2 x.2.1 x.2.2 = some t) : Sat prog cxT 27 (c27 m) :=
  sat_t cxT_ok cxT_pok (by rfl) (fn := f27) rfl a27 n27 dd27 m ev27 kok_nil kwok_nil (fun L x => g27 L x.1.1 x.1.2 x.2.1 x.2.2) (fun L x => e27 L x.1.1 x.1.2 x.2.1 x.2.2) hm hs27
end Go.Proofs.Try
