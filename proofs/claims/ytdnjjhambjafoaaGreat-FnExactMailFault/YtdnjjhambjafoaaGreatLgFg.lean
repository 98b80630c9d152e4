/- A part of the proof of FnExactMailFault: LgFg, LgFh. -/
import Derived.Test.YtdnjjhambjafoaaGreatLgBase
set_option maxHeartbeats 0
set_option maxRecDepth 100000
set_option linter.unusedVariables false
set_option linter.unusedSimpArgs false
namespace Go.Proofs.Tryz
open Go Go.VM Go.RowKit
/-! loop.example/g00222/laws.szNode -/
def ev11 (m40 : ((List E9) × Int) → Option Int) (m41 : ((List Int) × Int) → Option Int) : Env cxT := { Kc := kcOf [(40, c40 m40), (41, c41 m41)], Kw := kwOf [], lv := fun i => [], xv := fun i => none }
theorem i11 (m40 : ((List E9) × Int) → Option Int) (m41 : ((List Int) × Int) → Option Int) (L : Nat) (a0_0 : Int) (a0_1 : Int) (a0_2 : Int) (a0_3 : Int) (a0_4 : (List E9)) (a0_5 : Int) (a0_6 : Int) (a0_7 : (List Int)) (a0_8 : (List Int)) (a0_9 : (List Int)) (a1 : Int) : evF prog (ev11 m40 m41) (loopN L) f11 (a11.enc ((a0_0, a0_1, a0_2, a0_3, a0_4, a0_5, a0_6, a0_7, a0_8, a0_9), a1)) =
  tst (m40 (a0_4, a1)) (0 : Int) fun (q1 : Int) => bif (decide (q1 < (0 : Int))) then some (n11 (-(1 : Int)))
    else tst (m41 (a0_7, q1)) (0 : Int) fun (q2 : Int) => bif (decide (q2 < (0 : Int))) then some (n11 (-(1 : Int)))
      else tst (m41 (a0_8, q2)) (0 : Int) fun (q3 : Int) => bif (decide (q3 < (0 : Int))) then some (n11 (-(1 : Int)))
        else tst (m41 (a0_9, q3)) (0 : Int) fun (q4 : Int) => bif (decide (q4 < (0 : Int))) then some (n11 (-(1 : Int)))
          else some (n11 q4) := by kernel_rfl
def g11 (m40 : ((List E9) × Int) → Option Int) (m41 : ((List Int) × Int) → Option Int) (L : Nat) (a0_0 : Int) (a0_1 : Int) (a0_2 : Int) (a0_3 : Int) (a0_4 : (List E9)) (a0_5 : Int) (a0_6 : Int) (a0_7 : (List Int)) (a0_8 : (List Int)) (a0_9 : (List Int)) (a1 : Int) : Option Int :=
  tst (m40 (a0_4, a1)) (0 : Int) fun (q1 : Int) => bif (decide (q1 < (0 : Int))) then some (-(1 : Int))
    else tst (m41 (a0_7, q1)) (0 : Int) fun (q2 : Int) => bif (decide (q2 < (0 : Int))) then some (-(1 : Int))
      else tst (m41 (a0_8, q2)) (0 : Int) fun (q3 : Int) => bif (decide (q3 < (0 : Int))) then some (-(1 : Int))
        else tst (m41 (a0_9, q3)) (0 : Int) fun (q4 : Int) => bif (decide (q4 < (0 : Int))) then some (-(1 : Int))
          else some q4
theorem e11 (m40 : ((List E9) × Int) → Option Int) (m41 : ((List Int) × Int) → Option Int) (L : Nat) (a0_0 : Int) (a0_1 : Int) (a0_2 : Int) (a0_3 : Int) (a0_4 : (List E9)) (a0_5 : Int) (a0_6 : Int) (a0_7 : (List Int)) (a0_8 : (List Int)) (a0_9 : (List Int)) (a1 : Int) : evF prog (ev11 m40 m41) (loopN L) f11 (a11.enc ((a0_0, a0_1, a0_2, a0_3, a0_4, a0_5, a0_6, a0_7, a0_8, a0_9), a1)) = (g11 m40 m41 L a0_0 a0_1 a0_2 a0_3 a0_4 a0_5 a0_6 a0_7 a0_8 a0_9 a1).map n11 := by
  rw [i11]; simp only [g11, map_bif, map_tst, map_bnd, Option.map_some, Option.map_none]
theorem s11 (m40 : ((List E9) × Int) → Option Int) (m41 : ((List Int) × Int) → Option Int) (h40 : Sat prog cxT 40 (c40 m40)) (h41 : Sat prog cxT 41 (c41 m41)) (m : (N10 × Int) → Option Int) (hm : ∀ (x : (N10 × Int)) t, m x = some t → ∃ L, g11 m40 m41 L x.1.1 x.1.2.1 x.1.2.2.1 x.1.2.2.2.1 x.1.2.2.2.2.1 x.1.2.2.2.2.2.1 x.1.2.2.2.2.2.2.1 x.1.2.2.2.2.2.2.2.1 x.1.2.2.2.2.2.2.2.2.1 x.1.2.2.2.2.2.2.2.2.2 x.2 = some t) : Sat prog cxT 11 (c11 m) :=
  sat_t cxT_ok cxT_pok (by rfl) (fn := f11) rfl a11 n11 dd11 m (ev11 m40 m41) (kok_cons h40 (kok_cons h41 kok_nil)) kwok_nil (fun L x => g11 m40 m41 L x.1.1 x.1.2.1 x.1.2.2.1 x.1.2.2.2.1 x.1.2.2.2.2.1 x.1.2.2.2.2.2.1 x.1.2.2.2.2.2.2.1 x.1.2.2.2.2.2.2.2.1 x.1.2.2.2.2.2.2.2.2.1 x.1.2.2.2.2.2.2.2.2.2 x.2) (fun L x => e11 m40 m41 L x.1.1 x.1.2.1 x.1.2.2.1 x.1.2.2.2.1 x.1.2.2.2.2.1 x.1.2.2.2.2.2.1 x.1.2.2.2.2.2.2.1 x.1.2.2.2.2.2.2.2.1 x.1.2.2.2.2.2.2.2.2.1 x.1.2.2.2.2.2.2.2.2.2 x.2) hm hs11
/-! loop.example/g00222/laws.szInt64S -/
def ev41 : Env cxT := { Kc := kcOf [], Kw := kwOf [], lv := fun i => [], xv := fun i => none }
theorem i41 (L : Nat) (a0 : (List Int)) (a1 : Int) : evF prog ev41 (loopN L) f41 (a41.enc (a0, a1)) =
  bif (decide ((Go.IntKind.wrap Go.IntKind.i64 (a1 - (Nat.cast (List.length a0) : Int))) < (0 : Int))) then some (n41 (-(1 : Int)))
  else some (n41 (Go.IntKind.wrap Go.IntKind.i64 (a1 - (Nat.cast (List.length a0) : Int)))) := by kernel_rfl
def g41 (L : Nat) (a0 : (List Int)) (a1 : Int) : Option Int :=
  bif (decide ((Go.IntKind.wrap Go.IntKind.i64 (a1 - (Nat.cast (List.length a0) : Int))) < (0 : Int))) then some (-(1 : Int))
  else some (Go.IntKind.wrap Go.IntKind.i64 (a1 - (Nat.cast (List.length a0) : Int)))
theorem e41 (L : Nat) (a0 : (List Int)) (a1 : Int) : evF prog ev41 (loopN L) f41 (a41.enc (a0, a1)) = (g41 L a0 a1).map n41 := by
  rw [i41]; simp only [g41, map_bif, map_tst, map_bnd, Option.map_some, Option.map_none]
theorem s41 (m : ((List Int) × Int) → Option Int) (hm : ∀ (x : ((List Int) × Int)) t, m x = some t → ∃ L, g41 L x.1 x.2 = some t) : Sat prog cxT 41 (c41 m) :=
  sat_t cxT_ok cxT_pok (by rfl) (fn := f41) rfl a41 n41 dd41 m ev41 kok_nil kwok_nil (fun L x => g41 L x.1 x.2) (fun L x => e41 L x.1 x.2) hm hs41
/-! loop.example/g00222/laws.toNode -/
def ev13 (m43 : (List E9) → Option (List E9)) (m44 : (List Int) → Option (List Int)) : Env cxT := { Kc := kcOf [(43, c43 m43), (44, c44 m44)], Kw := kwOf [], lv := fun i => [], xv := fun i => none }
theorem i13 (m43 : (List E9) → Option (List E9)) (m44 : (List Int) → Option (List Int)) (L : Nat) (a0_0 : Int) (a0_1 : Int) (a0_2 : Int) (a0_3 : Int) (a0_4 : (List E9)) (a0_5 : Int) (a0_6 : Int) (a0_7 : (List Int)) (a0_8 : (List Int)) (a0_9 : (List Int)) : evF prog (ev13 m43 m44) (loopN L) f13 (a13.enc (a0_0, a0_1, a0_2, a0_3, a0_4, a0_5, a0_6, a0_7, a0_8, a0_9)) =
  tst (m43 a0_4) [] fun (q1 : (List E9)) => tst (m44 a0_7) [] fun (q2 : (List Int)) => tst (m44 a0_8) [] fun (q3 : (List Int)) => tst (m44 a0_9) [] fun (q4 : (List Int)) => some (n13 (a0_0, a0_1, a0_2, a0_3, q1, a0_5, a0_6, q2, q3, q4)) := by kernel_rfl
def g13 (m43 : (List E9) → Option (List E9)) (m44 : (List Int) → Option (List Int)) (L : Nat) (a0_0 : Int) (a0_1 : Int) (a0_2 : Int) (a0_3 : Int) (a0_4 : (List E9)) (a0_5 : Int) (a0_6 : Int) (a0_7 : (List Int)) (a0_8 : (List Int)) (a0_9 : (List Int)) : Option N10 :=
  tst (m43 a0_4) [] fun (q1 : (List E9)) => tst (m44 a0_7) [] fun (q2 : (List Int)) => tst (m44 a0_8) [] fun (q3 : (List Int)) => tst (m44 a0_9) [] fun (q4 : (List Int)) => some (a0_0, a0_1, a0_2, a0_3, q1, a0_5, a0_6, q2, q3, q4)
theorem e13 (m43 : (List E9) → Option (List E9)) (m44 : (List Int) → Option (List Int)) (L : Nat) (a0_0 : Int) (a0_1 : Int) (a0_2 : Int) (a0_3 : Int) (a0_4 : (List E9)) (a0_5 : Int) (a0_6 : Int) (a0_7 : (List Int)) (a0_8 : (List Int)) (a0_9 : (List Int)) : evF prog (ev13 m43 m44) (loopN L) f13 (a13.enc (a0_0, a0_1, a0_2, a0_3, a0_4, a0_5, a0_6, a0_7, a0_8, a0_9)) = (g13 m43 m44 L a0_0 a0_1 a0_2 a0_3 a0_4 a0_5 a0_6 a0_7 a0_8 a0_9).map n13 := by
  rw [i13]; simp only [g13, map_bif, map_tst, map_bnd, Option.map_some, Option.map_none]
theorem s13 (m43 : (List E9) → Option (List E9)) (m44 : (List Int) → Option (List Int)) (h43 : Sat prog cxT 43 (c43 m43)) (h44 : Sat prog cxT 44 (c44 m44)) (m : N10 → Option N10) (hm : ∀ (x : N10) t, m x = some t → ∃ L, g13 m43 m44 L x.1 x.2.1 x.2.2.1 x.2.2.2.1 x.2.2.2.2.1 x.2.2.2.2.2.1 x.2.2.2.2.2.2.1 x.2.2.2.2.2.2.2.1 x.2.2.2.2.2.2.2.2.1 x.2.2.2.2.2.2.2.2.2 = some t) : Sat prog cxT 13 (c13 m) :=
  sat_t cxT_ok cxT_pok (by rfl) (fn := f13) rfl a13 n13 dd13 m (ev13 m43 m44) (kok_cons h43 (kok_cons h44 kok_nil)) kwok_nil (fun L x => g13 m43 m44 L x.1 x.2.1 x.2.2.1 x.2.2.2.1 x.2.2.2.2.1 x.2.2.2.2.2.1 x.2.2.2.2.2.2.1 x.2.2.2.2.2.2.2.1 x.2.2.2.2.2.2.2.2.1 x.2.2.2.2.2.2.2.2.2) (fun L x => e13 m43 m44 L x.1 x.2.1 x.2.2.1 x.2.2.2.1 x.2.2.2.2.1 x.2.2.2.2.2.1 x.2.2.2.2.2.2.1 x.2.2.2.2.2.2.2.1 x.2.2.2.2.2.2.2.2.1 x.2.2.2.2.2.2.2.2.2) hm hs13
/-! loop.example/g00222/laws.toInt64S -/
def ev44 : Env cxT := { Kc := kcOf [], Kw := kwOf [], lv := fun i => if i = 0 then [(0, [some 2]), (3, [some 2]), (4, [])] else [], xv := fun i => if i = 0 then some [(3, [some 2])] else none }
def S44_0 (a0 : (List Int)) (v0_3 : (List Int)) (v0_4 : Int) : St cxT.ty := { slots := [(.inl (.inl (ls { own := 0, nm := 0, e := 2, o := false, xs := a0 }))), junk, junk, (.inl (.inl (ls { own := 1, nm := 192, e := 2, o := true, xs := v0_3 }))), (.inl (.inl (lv (.int .i64 v0_4))))] ++ List.replicate 17 junk, D := [], F := [], ctr := 1 }
def X44_0 (a0 : (List Int)) (w0_3 : (List Int)) : St cxT.ty := { slots := [junk, junk, junk, (.inl (.inl (ls { own := 1, nm := 192, e := 2, o := true, xs := w0_3 })))] ++ List.replicate 18 junk, D := [], F := [], ctr := 1 }
theorem i44 (L : Nat) (a0 : (List Int)) : evF prog ev44 (loopN L) f44 (a44.enc a0) =
  bif (((decide ((0 : Int) ≤ (Nat.cast (List.length a0) : Int))) && (decide ((Nat.cast (List.length a0) : Int) ≤ (Nat.cast (List.length a0) : Int)))) && (decide ((Nat.cast (List.length a0) : Int) ≤ (1000000000 : Int)))) then headF prog ev44 L f44 0 [1, 1, 0, 1, 0, 0] (outK (outV prog f44) (topK prog ev44 L f44 [1, 1, 0, 1] (outV prog f44)).n (topK prog ev44 L f44 [1, 1, 0, 1] (outV prog f44)).x) L (S44_0 a0 (List.replicate (Int.toNat (Nat.cast (List.length a0) : Int)) (0 : Int)) (0 : Int))
  else none := by kernel_rfl
theorem r44_0 (L : Nat) (a0 : (List Int)) (k : St cxT.ty → Option (V cxT.ty)) (xk : Nat → St cxT.ty → Option (V cxT.ty)) (g : St cxT.ty → Option (V cxT.ty)) (v0_3 : (List Int)) (v0_4 : Int) : roundF prog ev44 L f44 0 [1, 1, 0, 1, 0, 0] (outK (outV prog f44) k xk) g (S44_0 a0 v0_3 v0_4) =
  bif (decide (v0_4 < (Nat.cast (List.length a0) : Int))) then bif ((decide ((0 : Int) ≤ v0_4)) && (decide (v0_4 < (Nat.cast (List.length a0) : Int)))) then bif ((decide ((0 : Int) ≤ v0_4)) && (decide (v0_4 < (Nat.cast (List.length v0_3) : Int)))) then g (S44_0 a0 (List.set v0_3 (Int.toNat v0_4) (List.getD a0 (Int.toNat v0_4) (0 : Int))) (Go.IntKind.wrap Go.IntKind.i64 (v0_4 + (1 : Int))))
      else none
    else none
  else k (X44_0 a0 v0_3) := by kernel_rfl
theorem t44_0 (L : Nat) (a0 : (List Int)) (w0_3 : (List Int)) : (topK prog ev44 L f44 [1, 1, 0, 1] (outV prog f44)).n (X44_0 a0 w0_3) =
  some (n44 w0_3) := by kernel_rfl
def l44_0 (L : Nat) (a0 : (List Int)) : Nat → (List Int) → Int → ((List Int) → Option (List Int)) → Option (List Int)
  | 0, _, _, _ => none
  | n + 1, v0_3, v0_4, k =>
    bif (decide (v0_4 < (Nat.cast (List.length a0) : Int))) then bif ((decide ((0 : Int) ≤ v0_4)) && (decide (v0_4 < (Nat.cast (List.length a0) : Int)))) then bif ((decide ((0 : Int) ≤ v0_4)) && (decide (v0_4 < (Nat.cast (List.length v0_3) : Int)))) then l44_0 L a0 n (List.set v0_3 (Int.toNat v0_4) (List.getD a0 (Int.toNat v0_4) (0 : Int))) (Go.IntKind.wrap Go.IntKind.i64 (v0_4 + (1 : Int))) k
        else none
      else none
    else k v0_3
theorem h44_0 (L : Nat) (a0 : (List Int)) (k : St cxT.ty → Option (V cxT.ty)) (xk : Nat → St cxT.ty → Option (V cxT.ty)) (k' : (List Int) → Option (List Int)) (hk : ∀ (w0_3 : (List Int)), k (X44_0 a0 w0_3) = (k' w0_3).map n44) : ∀ (n : Nat) (v0_3 : (List Int)) (v0_4 : Int), headF prog ev44 L f44 0 [1, 1, 0, 1, 0, 0] (outK (outV prog f44) k xk) n (S44_0 a0 v0_3 v0_4) = (l44_0 L a0 n v0_3 v0_4 k').map n44
  | 0, _, _ => rfl
  | n + 1, v0_3, v0_4 => by
    rw [headF_round, r44_0]
    have ih := h44_0 L a0 k xk k' hk n
    simp only [l44_0, map_bif, map_tst, map_bnd, Option.map_some, Option.map_none, ih, hk]
def g44 (L : Nat) (a0 : (List Int)) : Option (List Int) :=
  bif (((decide ((0 : Int) ≤ (Nat.cast (List.length a0) : Int))) && (decide ((Nat.cast (List.length a0) : Int) ≤ (Nat.cast (List.length a0) : Int)))) && (decide ((Nat.cast (List.length a0) : Int) ≤ (1000000000 : Int)))) then l44_0 L a0 L (List.replicate (Int.toNat (Nat.cast (List.length a0) : Int)) (0 : Int)) (0 : Int) (fun (w0_3 : (List Int)) => some w0_3)
  else none
theorem e44 (L : Nat) (a0 : (List Int)) : evF prog ev44 (loopN L) f44 (a44.enc a0) = (g44 L a0).map n44 := by
  let K'0 : (List Int) → Option (List Int) := (fun (w0_3 : (List Int)) => some w0_3)
  have hin0 : ∀ (v0_3 : (List Int)) (v0_4 : Int), headF prog ev44 L f44 0 [1, 1, 0, 1, 0, 0] (outK (outV prog f44) (topK prog ev44 L f44 [1, 1, 0, 1] (outV prog f44)).n (topK prog ev44 L f44 [1, 1, 0, 1] (outV prog f44)).x) L (S44_0 a0 v0_3 v0_4) = (l44_0 L a0 L v0_3 v0_4 K'0).map n44 := fun v0_3 v0_4 => h44_0 L a0 _ _ K'0 (fun w0_3 => by rw [t44_0]; simp only [K'0, map_bif, map_tst, map_bnd, Option.map_some, Option.map_none]) L v0_3 v0_4
  rw [i44]; simp only [g44, map_bif, map_tst, map_bnd, Option.map_some, Option.map_none, hin0, K'0]
theorem s44 (m : (List Int) → Option (List Int)) (hm : ∀ (x : (List Int)) t, m x = some t → ∃ L, g44 L x = some t) : Sat prog cxT 44 (c44 m) :=
  sat_t cxT_ok cxT_pok (by rfl) (fn := f44) rfl a44 n44 dd44 m ev44 kok_nil kwok_nil (fun L x => g44 L x) (fun L x => e44 L x) hm hs44
/-! loop.example/g00222/laws.eqNode -/
def ev15 (m57 : ((List E9) × (List E9)) → Option Bool) (m58 : ((List Int) × (List Int)) → Option Bool) : Env cxT := { Kc := kcOf [(57, c57 m57), (58, c58 m58)], Kw := kwOf [], lv := fun i => [], xv := fun i => none }
theorem i15 (m57 : ((List E9) × (List E9)) → Option Bool) (m58 : ((List Int) × (List Int)) → Option Bool) (L : Nat) (a0_0 : Int) (a0_1 : Int) (a0_2 : Int) (a0_3 : Int) (a0_4 : (List E9)) (a0_5 : Int) (a0_6 : Int) (a0_7 : (List Int)) (a0_8 : (List Int)) (a0_9 : (List Int)) (a1_0 : Int) (a1_1 : Int) (a1_2 : Int) (a1_3 : Int) (a1_4 : (List E9)) (a1_5 : Int) (a1_6 : Int) (a1_7 : (List Int)) (a1_8 : (List Int)) (a1_9 : (List Int)) : evF prog (ev15 m57 m58) (loopN L) f15 (a15.enc ((a0_0, a0_1, a0_2, a0_3, a0_4, a0_5, a0_6, a0_7, a0_8, a0_9), (a1_0, a1_1, a1_2, a1_3, a1_4, a1_5, a1_6, a1_7, a1_8, a1_9))) =
  bif (a0_0 != a1_0) then some (n15 Bool.false)
  else bif (a0_1 != a1_1) then some (n15 Bool.false)
  else bif (a0_2 != a1_2) then some (n15 Bool.false)
  else bif (a0_3 != a1_3) then some (n15 Bool.false)
  else tst (m57 (a0_4, a1_4)) false fun (q1 : Bool) => bif (!q1) then some (n15 Bool.false)
    else bif (a0_5 != a1_5) then some (n15 Bool.false)
    else bif (a0_6 != a1_6) then some (n15 Bool.false)
    else tst (m58 (a0_7, a1_7)) false fun (q2 : Bool) => bif (!q2) then some (n15 Bool.false)
      else tst (m58 (a0_8, a1_8)) false fun (q3 : Bool) => bif (!q3) then some (n15 Bool.false)
        else tst (m58 (a0_9, a1_9)) false fun (q4 : Bool) => bif (!q4) then some (n15 Bool.false)
          else some (n15 Bool.true) := by kernel_rfl
def g15 (m57 : ((List E9) × (List E9)) → Option Bool) (m58 : ((List Int) × (List Int)) → Option Bool) (L : Nat) (a0_0 : Int) (a0_1 : Int) (a0_2 : Int) (a0_3 : Int) (a0_4 : (List E9)) (a0_5 : Int) (a0_6 : Int) (a0_7 : (List Int)) (a0_8 : (List Int)) (a0_9 : (List Int)) (a1_0 : Int) (a1_1 : Int) (a1_2 : Int) (a1_3 : Int) (a1_4 : (List E9)) (a1_5 : Int) (a1_6 : Int) (a1_7 : (List Int)) (a1_8 : (List Int)) (a1_9 : (List Int)) : Option Bool :=
  bif (a0_0 != a1_0) then some Bool.false
  else bif (a0_1 != a1_1) then some Bool.false
  else bif (a0_2 != a1_2) then some Bool.false
  else bif (a0_3 != a1_3) then some Bool.false
  else tst (m57 (a0_4, a1_4)) false fun (q1 : Bool) => bif (!q1) then some Bool.false
    else bif (a0_5 != a1_5) then some Bool.false
    else bif (a0_6 != a1_6) then some Bool.false
    else tst (m58 (a0_7, a1_7)) false fun (q2 : Bool) => bif (!q2) then some Bool.false
      else tst (m58 (a0_8, a1_8)) false fun (q3 : Bool) => bif (!q3) then some Bool.false
        else tst (m58 (a0_9, a1_9)) false fun (q4 : Bool) => bif (!q4) then some Bool.false
          else some Bool.true
theorem e15 (m57 : ((List E9) × (List E9)) → Option Bool) (m58 : ((List Int) × (List Int)) → Option Bool) (L : Nat) (a0_0 : Int) (a0_1 : Int) (a0_2 : Int) (a0_3 : Int) (a0_4 : (List E9)) (a0_5 : Int) (a0_6 : Int) (a0_7 : (List Int)) (a0_8 : (List Int)) (a0_9 : (List Int)) (a1_0 : Int) (a1_1 : Int) (a1_2 : Int) (a1_3 : Int) (a1_4 : (List E9)) (a1_5 : Int) (a1_6 : Int) (a1_7 : (List Int)) (a1_8 : (List Int)) (a1_9 : (List Int)) : evF prog (ev15 m57 m58) (loopN L) f15 (a15.enc ((a0_0, a0_1, a0_2, a0_3, a0_4, a0_5, a0_6, a0_7, a0_8, a0_9), (a1_0, a1_1, a1_2, a1_3, a1_4, a1_5, a1_6, a1_7, a1_8, a1_9))) = (g15 m57 m58 L a0_0 a0_1 a0_2 a0_3 a0_4 a0_5 a0_6 a0_7 a0_8 a0_9 a1_0 a1_1 a1_2 a1_3 a1_4 a1_5 a1_6 a1_7 a1_8 a1_9).map n15 := by
  rw [i15]; simp only [g15, map_bif, map_tst, map_bnd, Option.map_some, Option.map_none]
theorem s15 (m57 : ((List E9) × (List E9)) → Option Bool) (m58 : ((List Int) × (List Int)) → Option Bool) (h57 : Sat prog cxT 57 (c57 m57)) (h58 : Sat prog cxT 58 (c58 m58)) (m : (N10 × N10) → Option Bool) (hm : ∀ (x : (N10 × N10)) t, m x = some t → ∃ L, g15 m57 m58 L x.1.1 x.1.2.1 x.1.2.2.1 x.1.2.2.2.1 x.1.2.2.2.2.1 x.1.2.2.2.2.2.1 x.1.2.2.2.2.2.2.1 x.1.2.2.2.2.2.2.2.1 x.1.2.2.2.2.2.2.2.2.1 x.1.2.2.2.2.2.2.2.2.2 x.2.1 x.2.2.1 x.2.2.2.1 x.2.2.2.2.1 x.2.2.2.2.2.1 x.2.2.2.2.2.2.1 x.2.2.2.2.2.2.2.1 x.2.2.2.2.2.2.2.2.1 x.2.2.2.2.2.2.2.2.2.1 x.2.2.2.2.2.2.2.2.2.2 = some t) : Sat prog cxT 15 (c15 m) :=
  sat_t cxT_ok cxT_pok (by rfl) (fn := f15) rfl a15 n15 dd15 m (ev15 m57 m58) (kok_cons h57 (kok_cons h58 kok_nil)) kwok_nil (fun L x => g15 m57 m58 L x.1.1 x.1.2.1 x.1.2.2.1 x.1.2.2.2.1 x.1.2.2.2.2.1 x.1.2.2.2.2.2.1 x.1.2.2.2.2.2.2.1 x.1.2.2.2.2.2.2.2.1 x.1.2.2.2.2.2.2.2.2.1 x.1.2.2.2.2.2.2.2.2.2 x.2.1 x.2.2.1 x.2.2.2.1 x.2.2.2.2.1 x.2.2.2.2.2.1 x.2.2.2.2.2.2.1 x.2.2.2.2.2.2.2.1 x.2.2.2.2.2.2.2.2.1 x.2.2.2.2.2.2.2.2.2.1 x.2.2.2.2.2.2.2.2.2.2) (fun L x => e15 m57 m58 L x.1.1 x.1.2.1 x.1.2.2.1 x.1.2.2.2.1 x.1.2.2.2.2.1 x.1.2.2.2.2.2.1 x.1.2.2.2.2.2.2.1 x.1.2.2.2.2.2.2.2.1 x.1.2.2.2.2.2.2.2.2.1 x.1.2.2.2.2.2.2.2.2.2 x.2.1 x.2.2.1 x.2.2.2.1 x.2.2.2.2.1 x.2.2.2.2.2.1 x.2.2.2.2.2.2.1 x.2.2.2.2.2.2.2.1 x.2.2.2.2.2.2.2.2.1 x.2.2.2.2.2.2.2.2.2.1 x.2.2.2.2.2.2.2.2.2.2) hm hs15
/-! loop.example/g00222/laws.eqInt64S -/
def ev58 : Env cxT := { Kc := kcOf [], Kw := kwOf [], lv := fun i => if i = 0 then [(0, [some 2]), (1, [some 2]), (5, [])] else [], xv := fun i => if i = 0 then some [] else none }
def S58_0 (a0 : (List Int)) (a1 : (List Int)) (v0_5 : Int) : St cxT.ty := { slots := [(.inl (.inl (ls { own := 0, nm := 0, e := 2, o := false, xs := a0 }))), (.inl (.inl (ls { own := 0, nm := 0, e := 2, o := false, xs := a1 }))), junk, junk, junk, (.inl (.inl (lv (.int .i64 v0_5))))] ++ List.replicate 20 junk, D := [], F := [], ctr := 1 }
def X58_0 (a0 : (List Int)) (a1 : (List Int)) : St cxT.ty := { slots := [] ++ List.replicate 26 junk, D := [], F := [], ctr := 1 }
theorem i58 (L : Nat) (a0 : (List Int)) (a1 : (List Int)) : evF prog ev58 (loopN L) f58 (a58.enc (a0, a1)) =
  bif ((Nat.cast (List.length a0) : Int) != (Nat.cast (List.length a1) : Int)) then some (n58 Bool.false)
  else headF prog ev58 L f58 0 [1, 1, 0, 1, 0, 0] (outK (outV prog f58) (topK prog ev58 L f58 [1, 1, 0, 1] (outV prog f58)).n (topK prog ev58 L f58 [1, 1, 0, 1] (outV prog f58)).x) L (S58_0 a0 a1 (0 : Int)) := by kernel_rfl
theorem r58_0 (L : Nat) (a0 : (List Int)) (a1 : (List Int)) (k : St cxT.ty → Option (V cxT.ty)) (xk : Nat → St cxT.ty → Option (V cxT.ty)) (g : St cxT.ty → Option (V cxT.ty)) (v0_5 : Int) : roundF prog ev58 L f58 0 [1, 1, 0, 1, 0, 0] (outK (outV prog f58) k xk) g (S58_0 a0 a1 v0_5) =
  bif (decide (v0_5 < (Nat.cast (List.length a0) : Int))) then bif ((decide ((0 : Int) ≤ v0_5)) && (decide (v0_5 < (Nat.cast (List.length a0) : Int)))) then bif ((decide ((0 : Int) ≤ v0_5)) && (decide (v0_5 < (Nat.cast (List.length a1) : Int)))) then bif ((List.getD a0 (Int.toNat v0_5) (0 : Int)) != (List.getD a1 (Int.toNat v0_5) (0 : Int))) then some (n58 Bool.false)
        else g (S58_0 a0 a1 (Go.IntKind.wrap Go.IntKind.i64 (v0_5 + (1 : Int))))
      else none
    else none
  else k (X58_0 a0 a1) := by kernel_rfl
theorem t58_0 (L : Nat) (a0 : (List Int)) (a1 : (List Int)) : (topK prog ev58 L f58 [1, 1, 0, 1] (outV prog f58)).n (X58_0 a0 a1) =
  some (n58 Bool.true) := by kernel_rfl
def l58_0 (L : Nat) (a0 : (List Int)) (a1 : (List Int)) : Nat → Int → (Option Bool) → Option Bool
  | 0, _, _ => none
  | n + 1, v0_5, k =>
    bif (decide (v0_5 < (Nat.cast (List.length a0) : Int))) then bif ((decide ((0 : Int) ≤ v0_5)) && (decide (v0_5 < (Nat.cast (List.length a0) : Int)))) then bif ((decide ((0 : Int) ≤ v0_5)) && (decide (v0_5 < (Nat.cast (List.length a1) : Int)))) then bif ((List.getD a0 (Int.toNat v0_5) (0 : Int)) != (List.getD a1 (Int.toNat v0_5) (0 : Int))) then some Bool.false
          else l58_0 L a0 a1 n (Go.IntKind.wrap Go.IntKind.i64 (v0_5 + (1 : Int))) k
        else none
      else none
    else k
theorem h58_0 (L : Nat) (a0 : (List Int)) (a1 : (List Int)) (k : St cxT.ty → Option (V cxT.ty)) (xk : Nat → St cxT.ty → Option (V cxT.ty)) (k' : Option Bool) (hk : k (X58_0 a0 a1) = (k').map n58) : ∀ (n : Nat) (v0_5 : Int), headF prog ev58 L f58 0 [1, 1, 0, 1, 0, 0] (outK (outV prog f58) k xk) n (S58_0 a0 a1 v0_5) = (l58_0 L a0 a1 n v0_5 k').map n58
  | 0, _ => rfl
  | n + 1, v0_5 => by
    rw [headF_round, r58_0]
    have ih := h58_0 L a0 a1 k xk k' hk n
    simp only [l58_0, map_bif, map_tst, map_bnd, Option.map_some, Option.map_none, ih, hk]
def g58 (L : Nat) (a0 : (List Int)) (a1 : (List Int)) : Option Bool :=
  bif ((Nat.cast (List.length a0) : Int) != (Nat.cast (List.length a1) : Int)) then some Bool.false
  else l58_0 L a0 a1 L (0 : Int) (some Bool.true)
theorem e58 (L : Nat) (a0 : (List Int)) (a1 : (List Int)) : evF prog ev58 (loopN L) f58 (a58.enc (a0, a1)) = (g58 L a0 a1).map n58 := by
  let K'0 : Option Bool := (some Bool.true)
  have hin0 : ∀ (v0_5 : Int), headF prog ev58 L f58 0 [1, 1, 0, 1, 0, 0] (outK (outV prog f58) (topK prog ev58 L f58 [1, 1, 0, 1] (outV prog f58)).n (topK prog ev58 L f58 [1, 1, 0, 1] (outV prog f58)).x) L (S58_0 a0 a1 v0_5) = (l58_0 L a0 a1 L v0_5 K'0).map n58 := fun v0_5 => h58_0 L a0 a1 _ _ K'0 (by rw [t58_0]; simp only [K'0, map_bif, map_tst, map_bnd, Option.map_some, Option.map_none]) L v0_5
  rw [i58]; simp only [g58, map_bif, map_tst, map_bnd, Option.map_some, Option.map_none, hin0, K'0]
theorem s58 (m : ((List Int) × (List Int)) → Option Bool) (hm : ∀ (x : ((List Int) × (List Int))) t, m x = some t → ∃ L, g58 L x.1 x.2 = some t) : Sat prog cxT 58 (c58 m) :=
  sat_t cxT_ok cxT_pok (by rfl) (fn := f58) rfl a58 n58 dd58 m ev58 kok_nil kwok_nil (fun L x => g58 L x.1 x.2) (fun L x => e58 L x.1 x.2) hm hs58
/-! loop.example/g00222/laws.eqMail -/
def ev20 (m57 : ((List E9) × (List E9)) → Option Bool) : Env cxT := { Kc := kcOf [(57, c57 m57)], Kw := kwOf [], lv := fun i => [], xv := fun i => none }
theorem i20 (m57 : ((List E9) × (List E9)) → Option Bool) (L : Nat) (a0_0 : Int) (a0_1 : Int) (a0_2 : Int) (a0_3 : Int) (a0_4 : Int) (a0_5 : Int) (a0_6 : Int) (a0_7 : Bool) (a0_8 : (List E9)) (a1_0 : Int) (a1_1 : Int) (a1_2 : Int) (a1_3 : Int) (a1_4 : Int) (a1_5 : Int) (a1_6 : Int) (a1_7 : Bool) (a1_8 : (List E9)) : evF prog (ev20 m57) (loopN L) f20 (a20.enc ((a0_0, a0_1, a0_2, a0_3, a0_4, a0_5, a0_6, a0_7, a0_8), (a1_0, a1_1, a1_2, a1_3, a1_4, a1_5, a1_6, a1_7, a1_8))) =
  bif (a0_0 != a1_0) then some (n20 Bool.false)
  else bif (a0_1 != a1_1) then some (n20 Bool.false)
  else bif (a0_2 != a1_2) then some (n20 Bool.false)
  else bif (a0_3 != a1_3) then some (n20 Bool.false)
  else bif (a0_4 != a1_4) then some (n20 Bool.false)
  else bif (a0_5 != a1_5) then some (n20 Bool.false)
  else bif (a0_6 != a1_6) then some (n20 Bool.false)
  else bif (!(a0_7 == a1_7)) then some (n20 Bool.false)
  else tst (m57 (a0_8, a1_8)) false fun (q1 : Bool) => bif (!q1) then some (n20 Bool.false)
    else some (n20 Bool.true) := by kernel_rfl
def g20 (m57 : ((List E9) × (List E9)) → Option Bool) (L : Nat) (a0_0 : Int) (a0_1 : Int) (a0_2 : Int) (a0_3 : Int) (a0_4 : Int) (a0_5 : Int) (a0_6 : Int) (a0_7 : Bool) (a0_8 : (List E9)) (a1_0 : Int) (a1_1 : Int) (a1_2 : Int) (a1_3 : Int) (a1_4 : Int) (a1_5 : Int) (a1_6 : Int) (a1_7 : Bool) (a1_8 : (List E9)) : Option Bool :=
  bif (a0_0 != a1_0) then some Bool.false
  else bif (a0_1 != a1_1) then some Bool.false
  else bif (a0_2 != a1_2) then some Bool.false
  else bif (a0_3 != a1_3) then some Bool.false
  else bif (a0_4 != a1_4) then some Bool.false
  else bif (a0_5 != a1_5) then some Bool.false
  else bif (a0_6 != a1_6) then some Bool.false
  else bif (!(a0_7 == a1_7)) then some Bool.false
  else tst (m57 (a0_8, a1_8)) false fun (q1 : Bool) => bif (!q1) then some Bool.false
    else some Bool.true
theorem e20 (m57 : ((List E9) × (List E9)) → Option Bool) (L : Nat) (a0_0 : Int) (a0_1 : Int) (a0_2 : Int) (a0_3 : Int) (a0_4 : Int) (a0_5 : Int) (a0_6 : Int) (a0_7 : Bool) (a0_8 : (List E9)) (a1_0 : Int) (a1_1 : Int) (a1_2 : Int) (a1_3 : Int) (a1_4 : Int) (a1_5 : Int) (a1_6 : Int) (a1_7 : Bool) (a1_8 : (List E9)) : evF prog (ev20 m57) (loopN L) f20 (a20.enc ((a0_0, a0_1, a0_2, a0_3, a0_4, a0_5, a0_6, a0_7, a0_8), (a1_0, a1_1, a1_2, a1_3, a1_4, a1_5, a1_6, a1_7, a1_8))) = (g20 m57 L a0_0 a0_1 a0_2 a0_3 a0_4 a0_5 a0_6 a0_7 a0_8 a1_0 a1_1 a1_2 a1_3 a1_4 a1_5 a1_6 a1_7 a1_8).map n20 := by
  rw [i20]; simp only [g20, map_bif, map_tst, map_bnd, Option.map_some, Option.map_none]
theorem s20 (m57 : ((List E9) × (List E9)) → Option Bool) (h57 : Sat prog cxT 57 (c57 m57)) (m : (M9 × M9) → Option Bool) (hm : ∀ (x : (M9 × M9)) t, m x = some t → ∃ L, g20 m57 L x.1.1 x.1.2.1 x.1.2.2.1 x.1.2.2.2.1 x.1.2.2.2.2.1 x.1.2.2.2.2.2.1 x.1.2.2.2.2.2.2.1 x.1.2.2.2.2.2.2.2.1 x.1.2.2.2.2.2.2.2.2 x.2.1 x.2.2.1 x.2.2.2.1 x.2.2.2.2.1 x.2.2.2.2.2.1 x.2.2.2.2.2.2.1 x.2.2.2.2.2.2.2.1 x.2.2.2.2.2.2.2.2.1 x.2.2.2.2.2.2.2.2.2 = some t) : Sat prog cxT 20 (c20 m) :=
  sat_t cxT_ok cxT_pok (by rfl) (fn := f20) rfl a20 n20 dd20 m (ev20 m57) (kok_cons h57 kok_nil) kwok_nil (fun L x => g20 m57 L x.1.1 x.1.2.1 x.1.2.2.1 x.1.2.2.2.1 x.1.2.2.2.2.1 x.1.2.2.2.2.2.1 x.1.2.2.2.2.2.2.1 x.1.2.2.2.2.2.2.2.1 x.1.2.2.2.2.2.2.2.2 x.2.1 x.2.2.1 x.2.2.2.1 x.2.2.2.2.1 x.2.2.2.2.2.1 x.2.2.2.2.2.2.1 x.2.2.2.2.2.2.2.1 x.2.2.2.2.2.2.2.2.1 x.2.2.2.2.2.2.2.2.2) (fun L x => e20 m57 L x.1.1 x.1.2.1 x.1.2.2.1 x.1.2.2.2.1 x.1.2.2.2.2.1 x.1.2.2.2.2.2.1 x.1.2.2.2.2.2.2.1 x.1.2.2.2.2.2.2.2.1 x.1.2.2.2.2.2.2.2.2 x.2.1 x.2.2.1 x.2.2.2.1 x.2.2.2.2.1 x.2.2.2.2.2.1 x.2.2.2.2.2.2.1 x.2.2.2.2.2.2.2.1 x.2.2.2.2.2.2.2.2.1 x.2.2.2.2.2.2.2.2.2) hm hs20
/-! loop.example/g00222/laws.eqNodeResult -/
/-! loop.example/g00222/laws.eqMailS -/
/-! loop.example/g00222/laws.eqIntResult -/
/-! loop.example/g00222/spec.l8Bad -/
def ev64 : Env cxT := { Kc := kcOf [], Kw := kwOf [], lv := fun i => [], xv := fun i => none }
theorem i64 (L : Nat) (a0 : Int) : evF prog ev64 (loopN L) f64 (a64.enc a0) =
  some (n64 (a0, (0 : Int), (0 : Int), (0 : Int), (0 : Int), [], (0 : Int), (0 : Int), ([] : List (Int)), ([] : List (Int)), ([] : List (Int)), [])) := by kernel_rfl
/-! loop.example/g00222/spec.l8Rises -/
def ev128 : Env cxT := { Kc := kcOf [], Kw := kwOf [], lv := fun i => if i = 0 then [(0, [some 2]), (3, [])] else [], xv := fun i => if i = 0 then some [] else none }
def S128_0 (a0 : (List Int)) (v0_3 : Int) : St cxT.ty := { slots := [(.inl (.inl (ls { own := 0, nm := 0, e := 2, o := false, xs := a0 }))), junk, junk, (.inl (.inl (lv (.int .i64 v0_3))))] ++ List.replicate 16 junk, D := [], F := [], ctr := 1 }
def X128_0 (a0 : (List Int)) : St cxT.ty := { slots := [] ++ List.replicate 20 junk, D := [], F := [], ctr := 1 }
theorem i128 (L : Nat) (a0 : (List Int)) : evF prog ev128 (loopN L) f128 (a128.enc a0) =
  headF prog ev128 L f128 0 [1, 0, 1, 0, 0] (outK (outV prog f128) (topK prog ev128 L f128 [1, 0, 1] (outV prog f128)).n (topK prog ev128 L f128 [1, 0, 1] (outV prog f128)).x) L (S128_0 a0 (1 : Int)) := by kernel_rfl
theorem r128_0 (L : Nat) (a0 : (List Int)) (k : St cxT.ty → Option (V cxT.ty)) (xk : Nat → St cxT.ty → Option (V cxT.ty)) (g : St cxT.ty → Option (V cxT.ty)) (v0_3 : Int) : roundF prog ev128 L f128 0 [1, 0, 1, 0, 0] (outK (outV prog f128) k xk) g (S128_0 a0 v0_3) =
  bif (decide (v0_3 < (Nat.cast (List.length a0) : Int))) then bif ((decide ((0 : Int) ≤ v0_3)) && (decide (v0_3 < (Nat.cast (List.length a0) : Int)))) then bif ((decide ((0 : Int) ≤ (Go.IntKind.wrap Go.IntKind.i64 (v0_3 - (1 : Int))))) && (decide ((Go.IntKind.wrap Go.IntKind.i64 (v0_3 - (1 : Int))) < (Nat.cast (List.length a0) : Int)))) then bif (decide ((List.getD a0 (Int.toNat v0_3) (0 : Int)) ≤ (List.getD a0 (Int.toNat (Go.IntKind.wrap Go.IntKind.i64 (v0_3 - (1 : Int)))) (0 : Int)))) then some (n128 Bool.false)
        else g (S128_0 a0 (Go.IntKind.wrap Go.IntKind.i64 (v0_3 + (1 : Int))))
      else none
    else none
  else k (X128_0 a0) := by kernel_rfl
theorem t128_0 (L : Nat) (a0 : (List Int)) : (topK prog ev128 L f128 [1, 0, 1] (outV prog f128)).n (X128_0 a0) =
  some (n128 Bool.true) := by kernel_rfl
def l128_0 (L : Nat) (a0 : (List Int)) : Nat → Int → (Option Bool) → Option Bool
  | 0, _, _ => none
  | n + 1, v0_3, k =>
    bif (decide (v0_3 < (Nat.cast (List.length a0) : Int))) then bif ((decide ((0 : Int) ≤ v0_3)) && (decide (v0_3 < (Nat.cast (List.length a0) : Int)))) then bif ((decide ((0 : Int) ≤ (Go.IntKind.wrap Go.IntKind.i64 (v0_3 - (1 : Int))))) && (decide ((Go.IntKind.wrap Go.IntKind.i64 (v0_3 - (1 : Int))) < (Nat.cast (List.length a0) : Int)))) then bif (decide ((List.getD a0 (Int.toNat v0_3) (0 : Int)) ≤ (List.getD a0 (Int.toNat (Go.IntKind.wrap Go.IntKind.i64 (v0_3 - (1 : Int)))) (0 : Int)))) then some Bool.false
          else l128_0 L a0 n (Go.IntKind.wrap Go.IntKind.i64 (v0_3 + (1 : Int))) k
        else none
      else none
    else k
theorem h128_0 (L : Nat) (a0 : (List Int)) (k : St cxT.ty → Option (V cxT.ty)) (xk : Nat → St cxT.ty → Option (V cxT.ty)) (k' : Option Bool) (hk : k (X128_0 a0) = (k').map n128) : ∀ (n : Nat) (v0_3 : Int), headF prog ev128 L f128 0 [1, 0, 1, 0, 0] (outK (outV prog f128) k xk) n (S128_0 a0 v0_3) = (l128_0 L a0 n v0_3 k').map n128
  | 0, _ => rfl
  | n + 1, v0_3 => by
    rw [headF_round, r128_0]
    have ih := h128_0 L a0 k xk k' hk n
    simp only [l128_0, map_bif, map_tst, map_bnd, Option.map_some, Option.map_none, ih, hk]
def g128 (L : Nat) (a0 : (List Int)) : Option Bool :=
  l128_0 L a0 L (1 : Int) (some Bool.true)
theorem e128 (L : Nat) (a0 : (List Int)) : evF prog ev128 (loopN L) f128 (a128.enc a0) = (g128 L a0).map n128 := by
  let K'0 : Option Bool := (some Bool.true)
  have hin0 : ∀ (v0_3 : Int), headF prog ev128 L f128 0 [1, 0, 1, 0, 0] (outK (outV prog f128) (topK prog ev128 L f128 [1, 0, 1] (outV prog f128)).n (topK prog ev128 L f128 [1, 0, 1] (outV prog f128)).x) L (S128_0 a0 v0_3) = (l128_0 L a0 L v0_3 K'0).map n128 := fun v0_3 => h128_0 L a0 _ _ K'0 (by rw [t128_0]; simp only [K'0, map_bif, map_tst, map_bnd, Option.map_some, Option.map_none]) L v0_3
  rw [i128]; simp only [g128, map_bif, map_tst, map_bnd, Option.map_some, Option.map_none, hin0, K'0]
theorem s128 (m : (List Int) → Option Bool) (hm : ∀ (x : (List Int)) t, m x = some t → ∃ L, g128 L x = some t) : Sat prog cxT 128 (c128 m) :=
  sat_t cxT_ok cxT_pok (by rfl) (fn := f128) rfl a128 n128 dd128 m ev128 kok_nil kwok_nil (fun L x => g128 L x) (fun L x => e128 L x) hm hs128
/-! loop.example/g00222/spec.CommitOf -/
end Go.Proofs.Tryz

set_option maxHeartbeats 0
set_option maxRecDepth 100000
set_option linter.unusedVariables false
set_option linter.unusedSimpArgs false
namespace Go.Proofs.Tryz
open Go Go.VM Go.RowKit
/-! loop.example/g00222/laws.markInt64S -/
/-! loop.example/g00222/laws.markNode -/
/-! loop.example/g00222/laws.markMailS -/
/-! loop.example/g00222/laws.markNodeResult -/
/-! loop.example/g00222/laws.heldNode -/
/-! loop.example/g00222/laws.heldInt64S -/
/-! loop.example/g00222/laws.heldMailS -/
/-! loop.example/g00222/laws.heldNodeResult -/
end Go.Proofs.Tryz
