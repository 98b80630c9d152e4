/- A part of the proof of FnExactPackConfig: L6Fa, L6Fb. -/
import Derived.Test.YthfopihmealhkaaL6Base
set_option maxHeartbeats 0
set_option maxRecDepth 100000
set_option linter.unusedVariables false
set_option linter.unusedSimpArgs false
namespace Go.Proofs.Try
open Go Go.VM Go.RowKit
/-! loop.example/g00222/laws.szBackendS -/
def ev67 : Env cxT := { Kc := kcOf [], Kw := kwOf [], lv := fun i => [], xv := fun i => none }
theorem i67 (L : Nat) (a0 : (List (Int × (Int × (Int × (Int × Bool)))))) (a1 : Int) : evF prog ev67 (loopN L) f67 (a67.enc (a0, a1)) =
  bif (decide ((Go.IntKind.wrap Go.IntKind.i64 (a1 - (Nat.cast (List.length a0) : Int))) < (0 : Int))) then some (n67 (-(1 : Int)))
  else some (n67 (Go.IntKind.wrap Go.IntKind.i64 (a1 - (Nat.cast (List.length a0) : Int)))) := by kernel_rfl
def g67 (L : Nat) (a0 : (List (Int × (Int × (Int × (Int × Bool)))))) (a1 : Int) : Option Int :=
  bif (decide ((Go.IntKind.wrap Go.IntKind.i64 (a1 - (Nat.cast (List.length a0) : Int))) < (0 : Int))) then some (-(1 : Int))
  else some (Go.IntKind.wrap Go.IntKind.i64 (a1 - (Nat.cast (List.length a0) : Int)))
theorem e67 (L : Nat) (a0 : (List (Int × (Int × (Int × (Int × Bool)))))) (a1 : Int) : evF prog ev67 (loopN L) f67 (a67.enc (a0, a1)) = (g67 L a0 a1).map n67 := by
  rw [i67]; simp only [g67, map_bif, map_tst, map_bnd, Option.map_some, Option.map_none]
theorem s67 (m : ((List (Int × (Int × (Int × (Int × Bool))))) × Int) → Option Int) (hm : ∀ (x : ((List (Int × (Int × (Int × (Int × Bool))))) × Int)) t, m x = some t → ∃ L, g67 L x.1 x.2 = some t) : Sat prog cxT 67 (c67 m) :=
  sat_t cxT_ok cxT_pok (by rfl) (fn := f67) rfl a67 n67 dd67 m ev67 kok_nil kwok_nil (fun L x => g67 L x.1 x.2) (fun L x => e67 L x.1 x.2) hm hs67
/-! loop.example/g00222/laws.szInt64S -/
def ev164 : Env cxT := { Kc := kcOf [], Kw := kwOf [], lv := fun i => [], xv := fun i => none }
theorem i164 (L : Nat) (a0 : (List Int)) (a1 : Int) : evF prog ev164 (loopN L) f164 (a164.enc (a0, a1)) =
  bif (decide ((Go.IntKind.wrap Go.IntKind.i64 (a1 - (Nat.cast (List.length a0) : Int))) < (0 : Int))) then some (n164 (-(1 : Int)))
  else some (n164 (Go.IntKind.wrap Go.IntKind.i64 (a1 - (Nat.cast (List.length a0) : Int)))) := by kernel_rfl
def g164 (L : Nat) (a0 : (List Int)) (a1 : Int) : Option Int :=
  bif (decide ((Go.IntKind.wrap Go.IntKind.i64 (a1 - (Nat.cast (List.length a0) : Int))) < (0 : Int))) then some (-(1 : Int))
  else some (Go.IntKind.wrap Go.IntKind.i64 (a1 - (Nat.cast (List.length a0) : Int)))
theorem e164 (L : Nat) (a0 : (List Int)) (a1 : Int) : evF prog ev164 (loopN L) f164 (a164.enc (a0, a1)) = (g164 L a0 a1).map n164 := by
  rw [i164]; simp only [g164, map_bif, map_tst, map_bnd, Option.map_some, Option.map_none]
theorem s164 (m : ((List Int) × Int) → Option Int) (hm : ∀ (x : ((List Int) × Int)) t, m x = some t → ∃ L, g164 L x.1 x.2 = some t) : Sat prog cxT 164 (c164 m) :=
  sat_t cxT_ok cxT_pok (by rfl) (fn := f164) rfl a164 n164 dd164 m ev164 kok_nil kwok_nil (fun L x => g164 L x.1 x.2) (fun L x => e164 L x.1 x.2) hm hs164
/-! loop.example/g00222/laws.szVip -/
def ev116 (m164 : ((List Int) × Int) → Option Int) : Env cxT := { Kc := kcOf [(164, c164 m164)], Kw := kwOf [], lv := fun i => [], xv := fun i => none }
theorem i116 (m164 : ((List Int) × Int) → Option Int) (L : Nat) (a0_0 : Int) (a0_1 : Int) (a0_2 : Int) (a0_3 : (List Int)) (a1 : Int) : evF prog (ev116 m164) (loopN L) f116 (a116.enc ((a0_0, a0_1, a0_2, a0_3), a1)) =
  tst (m164 (a0_3, a1)) (0 : Int) fun (q1 : Int) => bif (decide (q1 < (0 : Int))) then some (n116 (-(1 : Int)))
    else some (n116 q1) := by kernel_rfl
def g116 (m164 : ((List Int) × Int) → Option Int) (L : Nat) (a0_0 : Int) (a0_1 : Int) (a0_2 : Int) (a0_3 : (List Int)) (a1 : Int) : Option Int :=
  tst (m164 (a0_3, a1)) (0 : Int) fun (q1 : Int) => bif (decide (q1 < (0 : Int))) then some (-(1 : Int))
    else some q1
theorem e116 (m164 : ((List Int) × Int) → Option Int) (L : Nat) (a0_0 : Int) (a0_1 : Int) (a0_2 : Int) (a0_3 : (List Int)) (a1 : Int) : evF prog (ev116 m164) (loopN L) f116 (a116.enc ((a0_0, a0_1, a0_2, a0_3), a1)) = (g116 m164 L a0_0 a0_1 a0_2 a0_3 a1).map n116 := by
  rw [i116]; simp only [g116, map_bif, map_tst, map_bnd, Option.map_some, Option.map_none]
theorem s116 (m164 : ((List Int) × Int) → Option Int) (h164 : Sat prog cxT 164 (c164 m164)) (m : ((Int × Int × Int × (List Int)) × Int) → Option Int) (hm : ∀ (x : ((Int × Int × Int × (List Int)) × Int)) t, m x = some t → ∃ L, g116 m164 L x.1.1 x.1.2.1 x.1.2.2.1 x.1.2.2.2 x.2 = some t) : Sat prog cxT 116 (c116 m) :=
  sat_t cxT_ok cxT_pok (by rfl) (fn := f116) rfl a116 n116 dd116 m (ev116 m164) (kok_cons h164 kok_nil) kwok_nil (fun L x => g116 m164 L x.1.1 x.1.2.1 x.1.2.2.1 x.1.2.2.2 x.2) (fun L x => e116 m164 L x.1.1 x.1.2.1 x.1.2.2.1 x.1.2.2.2 x.2) hm hs116
/-! loop.example/g00222/laws.szVipS -/
def ev68 (m116 : ((Int × Int × Int × (List Int)) × Int) → Option Int) : Env cxT := { Kc := kcOf [(116, c116 m116)], Kw := kwOf [], lv := fun i => if i = 0 then [(0, [some 160]), (1, []), (5, [])] else [], xv := fun i => if i = 0 then some [(1, [])] else none }
def S68_0 (a0 : (List (Int × (Int × (Int × (List Int)))))) (a1 : Int) (v0_1 : Int) (v0_5 : Int) : St cxT.ty := { slots := [(.inl (.inl (ls { own := 0, nm := 0, e := 160, o := false, xs := a0 }))), (.inl (.inl (lv (.int .i64 v0_1)))), junk, junk, junk, (.inl (.inl (lv (.int .i64 v0_5))))] ++ List.replicate 21 junk, D := [], F := [], ctr := 1 }
def X68_0 (a0 : (List (Int × (Int × (Int × (List Int)))))) (a1 : Int) (w0_1 : Int) : St cxT.ty := { slots := [junk, (.inl (.inl (lv (.int .i64 w0_1))))] ++ List.replicate 25 junk, D := [], F := [], ctr := 1 }
theorem i68 (m116 : ((Int × Int × Int × (List Int)) × Int) → Option Int) (L : Nat) (a0 : (List (Int × (Int × (Int × (List Int)))))) (a1 : Int) : evF prog (ev68 m116) (loopN L) f68 (a68.enc (a0, a1)) =
  bif (decide ((Go.IntKind.wrap Go.IntKind.i64 (a1 - (Nat.cast (List.length a0) : Int))) < (0 : Int))) then some (n68 (-(1 : Int)))
  else headF prog (ev68 m116) L f68 0 [1, 1, 1, 0, 1, 0, 0] (outK (outV prog f68) (topK prog (ev68 m116) L f68 [1, 1, 1, 0, 1] (outV prog f68)).n (topK prog (ev68 m116) L f68 [1, 1, 1, 0, 1] (outV prog f68)).x) L (S68_0 a0 a1 (Go.IntKind.wrap Go.IntKind.i64 (a1 - (Nat.cast (List.length a0) : Int))) (0 : Int)) := by kernel_rfl
theorem r68_0 (m116 : ((Int × Int × Int × (List Int)) × Int) → Option Int) (L : Nat) (a0 : (List (Int × (Int × (Int × (List Int)))))) (a1 : Int) (k : St cxT.ty → Option (V cxT.ty)) (xk : Nat → St cxT.ty → Option (V cxT.ty)) (g : St cxT.ty → Option (V cxT.ty)) (v0_1 : Int) (v0_5 : Int) : roundF prog (ev68 m116) L f68 0 [1, 1, 1, 0, 1, 0, 0] (outK (outV prog f68) k xk) g (S68_0 a0 a1 v0_1 v0_5) =
  bif (decide (v0_5 < (Nat.cast (List.length a0) : Int))) then bif ((decide ((0 : Int) ≤ v0_5)) && (decide (v0_5 < (Nat.cast (List.length a0) : Int)))) then tst (m116 (((List.getD a0 (Int.toNat v0_5) ((0 : Int), ((0 : Int), ((0 : Int), ([] : List (Int)))))).1, ((List.getD a0 (Int.toNat v0_5) ((0 : Int), ((0 : Int), ((0 : Int), ([] : List (Int)))))).2.1, ((List.getD a0 (Int.toNat v0_5) ((0 : Int), ((0 : Int), ((0 : Int), ([] : List (Int)))))).2.2.1, (List.getD a0 (Int.toNat v0_5) ((0 : Int), ((0 : Int), ((0 : Int), ([] : List (Int)))))).2.2.2))), v0_1)) (0 : Int) fun (q3 : Int) => bif (decide (q3 < (0 : Int))) then some (n68 (-(1 : Int)))
        else g (S68_0 a0 a1 q3 (Go.IntKind.wrap Go.IntKind.i64 (v0_5 + (1 : Int))))
    else none
  else k (X68_0 a0 a1 v0_1) := by kernel_rfl
theorem t68_0 (m116 : ((Int × Int × Int × (List Int)) × Int) → Option Int) (L : Nat) (a0 : (List (Int × (Int × (Int × (List Int)))))) (a1 : Int) (w0_1 : Int) : (topK prog (ev68 m116) L f68 [1, 1, 1, 0, 1] (outV prog f68)).n (X68_0 a0 a1 w0_1) =
  some (n68 w0_1) := by kernel_rfl
def l68_0 (m116 : ((Int × Int × Int × (List Int)) × Int) → Option Int) (L : Nat) (a0 : (List (Int × (Int × (Int × (List Int)))))) (a1 : Int) : Nat → Int → Int → (Int → Option Int) → Option Int
  | 0, _, _, _ => none
  | n + 1, v0_1, v0_5, k =>
    bif (decide (v0_5 < (Nat.cast (List.length a0) : Int))) then bif ((decide ((0 : Int) ≤ v0_5)) && (decide (v0_5 < (Nat.cast (List.length a0) : Int)))) then tst (m116 (((List.getD a0 (Int.toNat v0_5) ((0 : Int), ((0 : Int), ((0 : Int), ([] : List (Int)))))).1, ((List.getD a0 (Int.toNat v0_5) ((0 : Int), ((0 : Int), ((0 : Int), ([] : List (Int)))))).2.1, ((List.getD a0 (Int.toNat v0_5) ((0 : Int), ((0 : Int), ((0 : Int), ([] : List (Int)))))).2.2.1, (List.getD a0 (Int.toNat v0_5) ((0 : Int), ((0 : Int), ((0 : Int), ([] : List (Int)))))).2.2.2))), v0_1)) (0 : Int) fun (q4 : Int) => bif (decide (q4 < (0 : Int))) then some (-(1 : Int))
          else l68_0 m116 L a0 a1 n q4 (Go.IntKind.wrap Go.IntKind.i64 (v0_5 + (1 : Int))) k
      else none
    else k v0_1
theorem h68_0 (m116 : ((Int × Int × Int × (List Int)) × Int) → Option Int) (L : Nat) (a0 : (List (Int × (Int × (Int × (List Int)))))) (a1 : Int) (k : St cxT.ty → Option (V cxT.ty)) (xk : Nat → St cxT.ty → Option (V cxT.ty)) (k' : Int → Option Int) (hk : ∀ (w0_1 : Int), k (X68_0 a0 a1 w0_1) = (k' w0_1).map n68) : ∀ (n : Nat) (v0_1 : Int) (v0_5 : Int), headF prog (ev68 m116) L f68 0 [1, 1, 1, 0, 1, 0, 0] (outK (outV prog f68) k xk) n (S68_0 a0 a1 v0_1 v0_5) = (l68_0 m116 L a0 a1 n v0_1 v0_5 k').map n68
  | 0, _, _ => rfl
  | n + 1, v0_1, v0_5 => by
    rw [headF_round, r68_0]
    have ih := h68_0 m116 L a0 a1 k xk k' hk n
    simp only [l68_0, map_bif, map_tst, map_bnd, Option.map_some, Option.map_none, ih, hk]
def g68 (m116 : ((Int × Int × Int × (List Int)) × Int) → Option Int) (L : Nat) (a0 : (List (Int × (Int × (Int × (List Int)))))) (a1 : Int) : Option Int :=
  bif (decide ((Go.IntKind.wrap Go.IntKind.i64 (a1 - (Nat.cast (List.length a0) : Int))) < (0 : Int))) then some (-(1 : Int))
  else l68_0 m116 L a0 a1 L (Go.IntKind.wrap Go.IntKind.i64 (a1 - (Nat.cast (List.length a0) : Int))) (0 : Int) (fun (w0_1 : Int) => some w0_1)
theorem e68 (m116 : ((Int × Int × Int × (List Int)) × Int) → Option Int) (L : Nat) (a0 : (List (Int × (Int × (Int × (List Int)))))) (a1 : Int) : evF prog (ev68 m116) (loopN L) f68 (a68.enc (a0, a1)) = (g68 m116 L a0 a1).map n68 := by
  let K'0 : Int → Option Int := (fun (w0_1 : Int) => some w0_1)
  have hin0 : ∀ (v0_1 : Int) (v0_5 : Int), headF prog (ev68 m116) L f68 0 [1, 1, 1, 0, 1, 0, 0] (outK (outV prog f68) (topK prog (ev68 m116) L f68 [1, 1, 1, 0, 1] (outV prog f68)).n (topK prog (ev68 m116) L f68 [1, 1, 1, 0, 1] (outV prog f68)).x) L (S68_0 a0 a1 v0_1 v0_5) = (l68_0 m116 L a0 a1 L v0_1 v0_5 K'0).map n68 := fun v0_1 v0_5 => h68_0 m116 L a0 a1 _ _ K'0 (fun w0_1 => by rw [t68_0]; simp only [K'0, map_bif, map_tst, map_bnd, Option.map_some, Option.map_none]) L v0_1 v0_5
  rw [i68]; simp only [g68, map_bif, map_tst, map_bnd, Option.map_some, Option.map_none, hin0, K'0]
theorem s68 (m116 : ((Int × Int × Int × (List Int)) × Int) → Option Int) (h116 : Sat prog cxT 116 (c116 m116)) (m : ((List (Int × (Int × (Int × (List Int))))) × Int) → Option Int) (hm : ∀ (x : ((List (Int × (Int × (Int × (List Int))))) × Int)) t, m x = some t → ∃ L, g68 m116 L x.1 x.2 = some t) : Sat prog cxT 68 (c68 m) :=
  sat_t cxT_ok cxT_pok (by rfl) (fn := f68) rfl a68 n68 dd68 m (ev68 m116) (kok_cons h116 kok_nil) kwok_nil (fun L x => g68 m116 L x.1 x.2) (fun L x => e68 m116 L x.1 x.2) hm hs68
/-! loop.example/g00222/laws.szConfig -/
def ev27 (m67 : ((List (Int × (Int × (Int × (Int × Bool))))) × Int) → Option Int) (m68 : ((List (Int × (Int × (Int × (List Int))))) × Int) → Option Int) : Env cxT := { Kc := kcOf [(67, c67 m67), (68, c68 m68)], Kw := kwOf [], lv := fun i => [], xv := fun i => none }
theorem i27 (m67 : ((List (Int × (Int × (Int × (Int × Bool))))) × Int) → Option Int) (m68 : ((List (Int × (Int × (Int × (List Int))))) × Int) → Option Int) (L : Nat) (a0_0 : Int) (a0_1 : (List (Int × (Int × (Int × (Int × Bool)))))) (a0_2 : (List (Int × (Int × (Int × (List Int)))))) (a1 : Int) : evF prog (ev27 m67 m68) (loopN L) f27 (a27.enc ((a0_0, a0_1, a0_2), a1)) =
  tst (m67 (a0_1, a1)) (0 : Int) fun (q1 : Int) => bif (decide (q1 < (0 : Int))) then some (n27 (-(1 : Int)))
    else tst (m68 (a0_2, q1)) (0 : Int) fun (q2 : Int) => bif (decide (q2 < (0 : Int))) then some (n27 (-(1 : Int)))
      else some (n27 q2) := by kernel_rfl
def g27 (m67 : ((List (Int × (Int × (Int × (Int × Bool))))) × Int) → Option Int) (m68 : ((List (Int × (Int × (Int × (List Int))))) × Int) → Option Int) (L : Nat) (a0_0 : Int) (a0_1 : (List (Int × (Int × (Int × (Int × Bool)))))) (a0_2 : (List (Int × (Int × (Int × (List Int)))))) (a1 : Int) : Option Int :=
  tst (m67 (a0_1, a1)) (0 : Int) fun (q1 : Int) => bif (decide (q1 < (0 : Int))) then some (-(1 : Int))
    else tst (m68 (a0_2, q1)) (0 : Int) fun (q2 : Int) => bif (decide (q2 < (0 : Int))) then some (-(1 : Int))
      else some q2
theorem e27 (m67 : ((List (Int × (Int × (Int × (Int × Bool))))) × Int) → Option Int) (m68 : ((List (Int × (Int × (Int × (List Int))))) × Int) → Option Int) (L : Nat) (a0_0 : Int) (a0_1 : (List (Int × (Int × (Int × (Int × Bool)))))) (a0_2 : (List (Int × (Int × (Int × (List Int)))))) (a1 : Int) : evF prog (ev27 m67 m68) (loopN L) f27 (a27.enc ((a0_0, a0_1, a0_2), a1)) = (g27 m67 m68 L a0_0 a0_1 a0_2 a1).map n27 := by
  rw [i27]; simp only [g27, map_bif, map_tst, map_bnd, Option.map_some, Option.map_none]
theorem s27 (m67 : ((List (Int × (Int × (Int × (Int × Bool))))) × Int) → Option Int) (m68 : ((List (Int × (Int × (Int × (List Int))))) × Int) → Option Int) (h67 : Sat prog cxT 67 (c67 m67)) (h68 : Sat prog cxT 68 (c68 m68)) (m : ((Int × (List (Int × (Int × (Int × (Int × Bool))))) × (List (Int × (Int × (Int × (List Int)))))) × Int) → Option Int) (hm : ∀ (x : ((Int × (List (Int × (Int × (Int × (Int × Bool))))) × (List (Int × (Int × (Int × (List Int)))))) × Int)) t, m x = some t → ∃ L, g27 m67 m68 L x.1.1 x.1.2.1 x.1.2.2 x.2 = some t) : Sat prog cxT 27 (c27 m) :=
  sat_t cxT_ok cxT_pok (by rfl) (fn := f27) rfl a27 n27 dd27 m (ev27 m67 m68) (kok_cons h67 (kok_cons h68 kok_nil)) kwok_nil (fun L x => g27 m67 m68 L x.1.1 x.1.2.1 x.1.2.2 x.2) (fun L x => e27 m67 m68 L x.1.1 x.1.2.1 x.1.2.2 x.2) hm hs27
/-! loop.example/g00222/laws.toBackend -/
def ev117 : Env cxT := { Kc := kcOf [], Kw := kwOf [], lv := fun i => [], xv := fun i => none }
theorem i117 (L : Nat) (a0_0 : Int) (a0_1 : Int) (a0_2 : Int) (a0_3 : Int) (a0_4 : Bool) : evF prog ev117 (loopN L) f117 (a117.enc (a0_0, a0_1, a0_2, a0_3, a0_4)) =
  some (n117 (a0_0, a0_1, a0_2, a0_3, a0_4)) := by kernel_rfl
def g117 (L : Nat) (a0_0 : Int) (a0_1 : Int) (a0_2 : Int) (a0_3 : Int) (a0_4 : Bool) : Option (Int × Int × Int × Int × Bool) :=
  some (a0_0, a0_1, a0_2, a0_3, a0_4)
theorem e117 (L : Nat) (a0_0 : Int) (a0_1 : Int) (a0_2 : Int) (a0_3 : Int) (a0_4 : Bool) : evF prog ev117 (loopN L) f117 (a117.enc (a0_0, a0_1, a0_2, a0_3, a0_4)) = (g117 L a0_0 a0_1 a0_2 a0_3 a0_4).map n117 := by
  rw [i117]; simp only [g117, map_bif, map_tst, map_bnd, Option.map_some, Option.map_none]
theorem s117 (m : (Int × Int × Int × Int × Bool) → Option (Int × Int × Int × Int × Bool)) (hm : ∀ (x : (Int × Int × Int × Int × Bool)) t, m x = some t → ∃ L, g117 L x.1 x.2.1 x.2.2.1 x.2.2.2.1 x.2.2.2.2 = some t) : Sat prog cxT 117 (c117 m) :=
  sat_t cxT_ok cxT_pok (by rfl) (fn := f117) rfl a117 n117 dd117 m ev117 kok_nil kwok_nil (fun L x => g117 L x.1 x.2.1 x.2.2.1 x.2.2.2.1 x.2.2.2.2) (fun L x => e117 L x.1 x.2.1 x.2.2.1 x.2.2.2.1 x.2.2.2.2) hm hs117
/-! loop.example/g00222/laws.toBackendS -/
def ev70 (m117 : (Int × Int × Int × Int × Bool) → Option (Int × Int × Int × Int × Bool)) : Env cxT := { Kc := kcOf [(117, c117 m117)], Kw := kwOf [], lv := fun i => if i = 0 then [(0, [some 162]), (3, [some 35]), (4, [])] else [], xv := fun i => if i = 0 then some [(3, [some 35])] else none }
def S70_0 (a0 : (List (Int × (Int × (Int × (Int × Bool)))))) (v0_3 : (List (Int × (Int × (Int × (Int × Bool)))))) (v0_4 : Int) : St cxT.ty := { slots := [(.inl (.inl (ls { own := 0, nm := 0, e := 162, o := false, xs := a0 }))), junk, junk, (.inl (.inl (ls { own := 1, nm := 192, e := 35, o := true, xs := v0_3 }))), (.inl (.inl (lv (.int .i64 v0_4))))] ++ List.replicate 18 junk, D := [], F := [], ctr := 1 }
def X70_0 (a0 : (List (Int × (Int × (Int × (Int × Bool)))))) (w0_3 : (List (Int × (Int × (Int × (Int × Bool)))))) : St cxT.ty := { slots := [junk, junk, junk, (.inl (.inl (ls { own := 1, nm := 192, e := 35, o := true, xs := w0_3 })))] ++ List.replicate 19 junk, D := [], F := [], ctr := 1 }
theorem i70 (m117 : (Int × Int × Int × Int × Bool) → Option (Int × Int × Int × Int × Bool)) (L : Nat) (a0 : (List (Int × (Int × (Int × (Int × Bool)))))) : evF prog (ev70 m117) (loopN L) f70 (a70.enc a0) =
  bif (((decide ((0 : Int) ≤ (Nat.cast (List.length a0) : Int))) && (decide ((Nat.cast (List.length a0) : Int) ≤ (Nat.cast (List.length a0) : Int)))) && (decide ((Nat.cast (List.length a0) : Int) ≤ (1000000000 : Int)))) then headF prog (ev70 m117) L f70 0 [1, 1, 0, 1, 0, 0] (outK (outV prog f70) (topK prog (ev70 m117) L f70 [1, 1, 0, 1] (outV prog f70)).n (topK prog (ev70 m117) L f70 [1, 1, 0, 1] (outV prog f70)).x) L (S70_0 a0 (List.replicate (Int.toNat (Nat.cast (List.length a0) : Int)) ((0 : Int), ((0 : Int), ((0 : Int), ((0 : Int), Bool.false))))) (0 : Int))
  else none := by kernel_rfl
theorem r70_0 (m117 : (Int × Int × Int × Int × Bool) → Option (Int × Int × Int × Int × Bool)) (L : Nat) (a0 : (List (Int × (Int × (Int × (Int × Bool)))))) (k : St cxT.ty → Option (V cxT.ty)) (xk : Nat → St cxT.ty → Option (V cxT.ty)) (g : St cxT.ty → Option (V cxT.ty)) (v0_3 : (List (Int × (Int × (Int × (Int × Bool)))))) (v0_4 : Int) : roundF prog (ev70 m117) L f70 0 [1, 1, 0, 1, 0, 0] (outK (outV prog f70) k xk) g (S70_0 a0 v0_3 v0_4) =
  bif (decide (v0_4 < (Nat.cast (List.length a0) : Int))) then bif ((decide ((0 : Int) ≤ v0_4)) && (decide (v0_4 < (Nat.cast (List.length a0) : Int)))) then tst (m117 ((List.getD a0 (Int.toNat v0_4) ((0 : Int), ((0 : Int), ((0 : Int), ((0 : Int), Bool.false))))).1, ((List.getD a0 (Int.toNat v0_4) ((0 : Int), ((0 : Int), ((0 : Int), ((0 : Int), Bool.false))))).2.1, ((List.getD a0 (Int.toNat v0_4) ((0 : Int), ((0 : Int), ((0 : Int), ((0 : Int), Bool.false))))).2.2.1, ((List.getD a0 (Int.toNat v0_4) ((0 : Int), ((0 : Int), ((0 : Int), ((0 : Int), Bool.false))))).2.2.2.1, (List.getD a0 (Int.toNat v0_4) ((0 : Int), ((0 : Int), ((0 : Int), ((0 : Int), Bool.false))))).2.2.2.2))))) ((0 : Int), (0 : Int), (0 : Int), (0 : Int), false) fun (q3 : (Int × Int × Int × Int × Bool)) => bif ((decide ((0 : Int) ≤ v0_4)) && (decide (v0_4 < (Nat.cast (List.length v0_3) : Int)))) then g (S70_0 a0 (List.set v0_3 (Int.toNat v0_4) (q3.1, (q3.2.1, (q3.2.2.1, (q3.2.2.2.1, q3.2.2.2.2))))) (Go.IntKind.wrap Go.IntKind.i64 (v0_4 + (1 : Int))))
        else none
    else none
  else k (X70_0 a0 v0_3) := by kernel_rfl
theorem t70_0 (m117 : (Int × Int × Int × Int × Bool) → Option (Int × Int × Int × Int × Bool)) (L : Nat) (a0 : (List (Int × (Int × (Int × (Int × Bool)))))) (w0_3 : (List (Int × (Int × (Int × (Int × Bool)))))) : (topK prog (ev70 m117) L f70 [1, 1, 0, 1] (outV prog f70)).n (X70_0 a0 w0_3) =
  some (n70 w0_3) := by kernel_rfl
def l70_0 (m117 : (Int × Int × Int × Int × Bool) → Option (Int × Int × Int × Int × Bool)) (L : Nat) (a0 : (List (Int × (Int × (Int × (Int × Bool)))))) : Nat → (List (Int × (Int × (Int × (Int × Bool))))) → Int → ((List (Int × (Int × (Int × (Int × Bool))))) → Option (List (Int × (Int × (Int × (Int × Bool)))))) → Option (List (Int × (Int × (Int × (Int × Bool)))))
  | 0, _, _, _ => none
  | n + 1, v0_3, v0_4, k =>
    bif (decide (v0_4 < (Nat.cast (List.length a0) : Int))) then bif ((decide ((0 : Int) ≤ v0_4)) && (decide (v0_4 < (Nat.cast (List.length a0) : Int)))) then tst (m117 ((List.getD a0 (Int.toNat v0_4) ((0 : Int), ((0 : Int), ((0 : Int), ((0 : Int), Bool.false))))).1, ((List.getD a0 (Int.toNat v0_4) ((0 : Int), ((0 : Int), ((0 : Int), ((0 : Int), Bool.false))))).2.1, ((List.getD a0 (Int.toNat v0_4) ((0 : Int), ((0 : Int), ((0 : Int), ((0 : Int), Bool.false))))).2.2.1, ((List.getD a0 (Int.toNat v0_4) ((0 : Int), ((0 : Int), ((0 : Int), ((0 : Int), Bool.false))))).2.2.2.1, (List.getD a0 (Int.toNat v0_4) ((0 : Int), ((0 : Int), ((0 : Int), ((0 : Int), Bool.false))))).2.2.2.2))))) ((0 : Int), (0 : Int), (0 : Int), (0 : Int), false) fun (q4 : (Int × Int × Int × Int × Bool)) => bif ((decide ((0 : Int) ≤ v0_4)) && (decide (v0_4 < (Nat.cast (List.length v0_3) : Int)))) then l70_0 m117 L a0 n (List.set v0_3 (Int.toNat v0_4) (q4.1, (q4.2.1, (q4.2.2.1, (q4.2.2.2.1, q4.2.2.2.2))))) (Go.IntKind.wrap Go.IntKind.i64 (v0_4 + (1 : Int))) k
          else none
      else none
    else k v0_3
theorem h70_0 (m117 : (Int × Int × Int × Int × Bool) → Option (Int × Int × Int × Int × Bool)) (L : Nat) (a0 : (List (Int × (Int × (Int × (Int × Bool)))))) (k : St cxT.ty → Option (V cxT.ty)) (xk : Nat → St cxT.ty → Option (V cxT.ty)) (k' : (List (Int × (Int × (Int × (Int × Bool))))) → Option (List (Int × (Int × (Int × (Int × Bool)))))) (hk : ∀ (w0_3 : (List (Int × (Int × (Int × (Int × Bool)))))), k (X70_0 a0 w0_3) = (k' w0_3).map n70) : ∀ (n : Nat) (v0_3 : (List (Int × (Int × (Int × (Int × Bool)))))) (v0_4 : Int), headF prog (ev70 m117) L f70 0 [1, 1, 0, 1, 0, 0] (outK (outV prog f70) k xk) n (S70_0 a0 v0_3 v0_4) = (l70_0 m117 L a0 n v0_3 v0_4 k').map n70
  | 0, _, _ => rfl
  | n + 1, v0_3, v0_4 => by
    rw [headF_round, r70_0]
    have ih := h70_0 m117 L a0 k xk k' hk n
    simp only [l70_0, map_bif, map_tst, map_bnd, Option.map_some, Option.map_none, ih, hk]
def g70 (m117 : (Int × Int × Int × Int × Bool) → Option (Int × Int × Int × Int × Bool)) (L : Nat) (a0 : (List (Int × (Int × (Int × (Int × Bool)))))) : Option (List (Int × (Int × (Int × (Int × Bool))))) :=
  bif (((decide ((0 : Int) ≤ (Nat.cast (List.length a0) : Int))) && (decide ((Nat.cast (List.length a0) : Int) ≤ (Nat.cast (List.length a0) : Int)))) && (decide ((Nat.cast (List.length a0) : Int) ≤ (1000000000 : Int)))) then l70_0 m117 L a0 L (List.replicate (Int.toNat (Nat.cast (List.length a0) : Int)) ((0 : Int), ((0 : Int), ((0 : Int), ((0 : Int), Bool.false))))) (0 : Int) (fun (w0_3 : (List (Int × (Int × (Int × (Int × Bool)))))) => some w0_3)
  else none
theorem e70 (m117 : (Int × Int × Int × Int × Bool) → Option (Int × Int × Int × Int × Bool)) (L : Nat) (a0 : (List (Int × (Int × (Int × (Int × Bool)))))) : evF prog (ev70 m117) (loopN L) f70 (a70.enc a0) = (g70 m117 L a0).map n70 := by
  let K'0 : (List (Int × (Int × (Int × (Int × Bool))))) → Option (List (Int × (Int × (Int × (Int × Bool))))) := (fun (w0_3 : (List (Int × (Int × (Int × (Int × Bool)))))) => some w0_3)
  have hin0 : ∀ (v0_3 : (List (Int × (Int × (Int × (Int × Bool)))))) (v0_4 : Int), headF prog (ev70 m117) L f70 0 [1, 1, 0, 1, 0, 0] (outK (outV prog f70) (topK prog (ev70 m117) L f70 [1, 1, 0, 1] (outV prog f70)).n (topK prog (ev70 m117) L f70 [1, 1, 0, 1] (outV prog f70)).x) L (S70_0 a0 v0_3 v0_4) = (l70_0 m117 L a0 L v0_3 v0_4 K'0).map n70 := fun v0_3 v0_4 => h70_0 m117 L a0 _ _ K'0 (fun w0_3 => by rw [t70_0]; simp only [K'0, map_bif, map_tst, map_bnd, Option.map_some, Option.map_none]) L v0_3 v0_4
  rw [i70]; simp only [g70, map_bif, map_tst, map_bnd, Option.map_some, Option.map_none, hin0, K'0]
theorem s70 (m117 : (Int × Int × Int × Int × Bool) → Option (Int × Int × Int × Int × Bool)) (h117 : Sat prog cxT 117 (c117 m117)) (m : (List (Int × (Int × (Int × (Int × Bool))))) → Option (List (Int × (Int × (Int × (Int × Bool)))))) (hm : ∀ (x : (List (Int × (Int × (Int × (Int × Bool)))))) t, m x = some t → ∃ L, g70 m117 L x = some t) : Sat prog cxT 70 (c70 m) :=
  sat_t cxT_ok cxT_pok (by rfl) (fn := f70) rfl a70 n70 dd70 m (ev70 m117) (kok_cons h117 kok_nil) kwok_nil (fun L x => g70 m117 L x) (fun L x => e70 m117 L x) hm hs70
/-! loop.example/g00222/laws.toInt64S -/
def ev165 : Env cxT := { Kc := kcOf [], Kw := kwOf [], lv := fun i => if i = 0 then [(0, [some 2]), (3, [some 2]), (4, [])] else [], xv := fun i => if i = 0 then some [(3, [some 2])] else none }
def S165_0 (a0 : (List Int)) (v0_3 : (List Int)) (v0_4 : Int) : St cxT.ty := { slots := [(.inl (.inl (ls { own := 0, nm := 0, e := 2, o := false, xs := a0 }))), junk, junk, (.inl (.inl (ls { own := 1, nm := 192, e := 2, o := true, xs := v0_3 }))), (.inl (.inl (lv (.int .i64 v0_4))))] ++ List.replicate 17 junk, D := [], F := [], ctr := 1 }
def X165_0 (a0 : (List Int)) (w0_3 : (List Int)) : St cxT.ty := { slots := [junk, junk, junk, (.inl (.inl (ls { own := 1, nm := 192, e := 2, o := true, xs := w0_3 })))] ++ List.replicate 18 junk, D := [], F := [], ctr := 1 }
theorem i165 (L : Nat) (a0 : (List Int)) : evF prog ev165 (loopN L) f165 (a165.enc a0) =
  bif (((decide ((0 : Int) ≤ (Nat.cast (List.length a0) : Int))) && (decide ((Nat.cast (List.length a0) : Int) ≤ (Nat.cast (List.length a0) : Int)))) && (decide ((Nat.cast (List.length a0) : Int) ≤ (1000000000 : Int)))) then headF prog ev165 L f165 0 [1, 1, 0, 1, 0, 0] (outK (outV prog f165) (topK prog ev165 L f165 [1, 1, 0, 1] (outV prog f165)).n (topK prog ev165 L f165 [1, 1, 0, 1] (outV prog f165)).x) L (S165_0 a0 (List.replicate (Int.toNat (Nat.cast (List.length a0) : Int)) (0 : Int)) (0 : Int))
  else none := by kernel_rfl
theorem r165_0 (L : Nat) (a0 : (List Int)) (k : St cxT.ty → Option (V cxT.ty)) (xk : Nat → St cxT.ty → Option (V cxT.ty)) (g : St cxT.ty → Option (V cxT.ty)) (v0_3 : (List Int)) (v0_4 : Int) : roundF prog ev165 L f165 0 [1, 1, 0, 1, 0, 0] (outK (outV prog f165) k xk) g (S165_0 a0 v0_3 v0_4) =
  bif (decide (v0_4 < (Nat.cast (List.length a0) : Int))) then bif ((decide ((0 : Int) ≤ v0_4)) && (decide (v0_4 < (Nat.cast (List.length a0) : Int)))) then bif ((decide ((0 : Int) ≤ v0_4)) && (decide (v0_4 < (Nat.cast (List.length v0_3) : Int)))) then g (S165_0 a0 (List.set v0_3 (Int.toNat v0_4) (List.getD a0 (Int.toNat v0_4) (0 : Int))) (Go.IntKind.wrap Go.IntKind.i64 (v0_4 + (1 : Int))))
      else none
    else none
  else k (X165_0 a0 v0_3) := by kernel_rfl
theorem t165_0 (L : Nat) (a0 : (List Int)) (w0_3 : (List Int)) : (topK prog ev165 L f165 [1, 1, 0, 1] (outV prog f165)).n (X165_0 a0 w0_3) =
  some (n165 w0_3) := by kernel_rfl
def l165_0 (L : Nat) (a0 : (List Int)) : Nat → (List Int) → Int → ((List Int) → Option (List Int)) → Option (List Int)
  | 0, _, _, _ => none
  | n + 1, v0_3, v0_4, k =>
    bif (decide (v0_4 < (Nat.cast (List.length a0) : Int))) then bif ((decide ((0 : Int) ≤ v0_4)) && (decide (v0_4 < (Nat.cast (List.length a0) : Int)))) then bif ((decide ((0 : Int) ≤ v0_4)) && (decide (v0_4 < (Nat.cast (List.length v0_3) : Int)))) then l165_0 L a0 n (List.set v0_3 (Int.toNat v0_4) (List.getD a0 (Int.toNat v0_4) (0 : Int))) (Go.IntKind.wrap Go.IntKind.i64 (v0_4 + (1 : Int))) k
        else none
      else none
    else k v0_3
theorem h165_0 (L : Nat) (a0 : (List Int)) (k : St cxT.ty → Option (V cxT.ty)) (xk : Nat → St cxT.ty → Option (V cxT.ty)) (k' : (List Int) → Option (List Int)) (hk : ∀ (w0_3 : (List Int)), k (X165_0 a0 w0_3) = (k' w0_3).map n165) : ∀ (n : Nat) (v0_3 : (List Int)) (v0_4 : Int), headF prog ev165 L f165 0 [1, 1, 0, 1, 0, 0] (outK (outV prog f165) k xk) n (S165_0 a0 v0_3 v0_4) = (l165_0 L a0 n v0_3 v0_4 k').map n165
  | 0, _, _ => rfl
  | n + 1, v0_3, v0_4 => by
    rw [headF_round, r165_0]
    have ih := h165_0 L a0 k xk k' hk n
    simp only [l165_0, map_bif, map_tst, map_bnd, Option.map_some, Option.map_none, ih, hk]
def g165 (L : Nat) (a0 : (List Int)) : Option (List Int) :=
  bif (((decide ((0 : Int) ≤ (Nat.cast (List.length a0) : Int))) && (decide ((Nat.cast (List.length a0) : Int) ≤ (Nat.cast (List.length a0) : Int)))) && (decide ((Nat.cast (List.length a0) : Int) ≤ (1000000000 : Int)))) then l165_0 L a0 L (List.replicate (Int.toNat (Nat.cast (List.length a0) : Int)) (0 : Int)) (0 : Int) (fun (w0_3 : (List Int)) => some w0_3)
  else none
theorem e165 (L : Nat) (a0 : (List Int)) : evF prog ev165 (loopN L) f165 (a165.enc a0) = (g165 L a0).map n165 := by
  let K'0 : (List Int) → Option (List Int) := (fun (w0_3 : (List Int)) => some w0_3)
  have hin0 : ∀ (v0_3 : (List Int)) (v0_4 : Int), headF prog ev165 L f165 0 [1, 1, 0, 1, 0, 0] (outK (outV prog f165) (topK prog ev165 L f165 [1, 1, 0, 1] (outV prog f165)).n (topK prog ev165 L f165 [1, 1, 0, 1] (outV prog f165)).x) L (S165_0 a0 v0_3 v0_4) = (l165_0 L a0 L v0_3 v0_4 K'0).map n165 := fun v0_3 v0_4 => h165_0 L a0 _ _ K'0 (fun w0_3 => by rw [t165_0]; simp only [K'0, map_bif, map_tst, map_bnd, Option.map_some, Option.map_none]) L v0_3 v0_4
  rw [i165]; simp only [g165, map_bif, map_tst, map_bnd, Option.map_some, Option.map_none, hin0, K'0]
theorem s165 (m : (List Int) → Option (List Int)) (hm : ∀ (x : (List Int)) t, m x = some t → ∃ L, g165 L x = some t) : Sat prog cxT 165 (c165 m) :=
  sat_t cxT_ok cxT_pok (by rfl) (fn := f165) rfl a165 n165 dd165 m ev165 kok_nil kwok_nil (fun L x => g165 L x) (fun L x => e165 L x) hm hs165
/-! loop.example/g00222/laws.toVip -/
def ev118 (m165 : (List Int) → Option (List Int)) : Env cxT := { Kc := kcOf [(165, c165 m165)], Kw := kwOf [], lv := fun i => [], xv := fun i => none }
theorem i118 (m165 : (List Int) → Option (List Int)) (L : Nat) (a0_0 : Int) (a0_1 : Int) (a0_2 : Int) (a0_3 : (List Int)) : evF prog (ev118 m165) (loopN L) f118 (a118.enc (a0_0, a0_1, a0_2, a0_3)) =
  tst (m165 a0_3) [] fun (q1 : (List Int)) => some (n118 (a0_0, a0_1, a0_2, q1)) := by kernel_rfl
def g118 (m165 : (List Int) → Option (List Int)) (L : Nat) (a0_0 : Int) (a0_1 : Int) (a0_2 : Int) (a0_3 : (List Int)) : Option (Int × Int × Int × (List Int)) :=
  tst (m165 a0_3) [] fun (q1 : (List Int)) => some (a0_0, a0_1, a0_2, q1)
theorem e118 (m165 : (List Int) → Option (List Int)) (L : Nat) (a0_0 : Int) (a0_1 : Int) (a0_2 : Int) (a0_3 : (List Int)) : evF prog (ev118 m165) (loopN L) f118 (a118.enc (a0_0, a0_1, a0_2, a0_3)) = (g118 m165 L a0_0 a0_1 a0_2 a0_3).map n118 := by
  rw [i118]; simp only [g118, map_bif, map_tst, map_bnd, Option.map_some, Option.map_none]
theorem s118 (m165 : (List Int) → Option (List Int)) (h165 : Sat prog cxT 165 (c165 m165)) (m : (Int × Int × Int × (List Int)) → Option (Int × Int × Int × (List Int))) (hm : ∀ (x : (Int × Int × Int × (List Int))) t, m x = some t → ∃ L, g118 m165 L x.1 x.2.1 x.2.2.1 x.2.2.2 = some t) : Sat prog cxT 118 (c118 m) :=
  sat_t cxT_ok cxT_pok (by rfl) (fn := f118) rfl a118 n118 dd118 m (ev118 m165) (kok_cons h165 kok_nil) kwok_nil (fun L x => g118 m165 L x.1 x.2.1 x.2.2.1 x.2.2.2) (fun L x => e118 m165 L x.1 x.2.1 x.2.2.1 x.2.2.2) hm hs118
/-! loop.example/g00222/laws.toVipS -/
def ev71 (m118 : (Int × Int × Int × (List Int)) → Option (Int × Int × Int × (List Int))) : Env cxT := { Kc := kcOf [(118, c118 m118)], Kw := kwOf [], lv := fun i => if i = 0 then [(0, [some 160]), (3, [some 114]), (4, [])] else [], xv := fun i => if i = 0 then some [(3, [some 114])] else none }
def S71_0 (a0 : (List (Int × (Int × (Int × (List Int)))))) (v0_3 : (List (Int × (Int × (Int × (List Int)))))) (v0_4 : Int) : St cxT.ty := { slots := [(.inl (.inl (ls { own := 0, nm := 0, e := 160, o := false, xs := a0 }))), junk, junk, (.inl (.inl (ls { own := 1, nm := 192, e := 114, o := true, xs := v0_3 }))), (.inl (.inl (lv (.int .i64 v0_4))))] ++ List.replicate 18 junk, D := [], F := [], ctr := 1 }
def X71_0 (a0 : (List (Int × (Int × (Int × (List Int)))))) (w0_3 : (List (Int × (Int × (Int × (List Int)))))) : St cxT.ty := { slots := [junk, junk, junk, (.inl (.inl (ls { own := 1, nm := 192, e := 114, o := true, xs := w0_3 })))] ++ List.replicate 19 junk, D := [], F := [], ctr := 1 }
theorem i71 (m118 : (Int × Int × Int × (List Int)) → Option (Int × Int × Int × (List Int))) (L : Nat) (a0 : (List (Int × (Int × (Int × (List Int)))))) : evF prog (ev71 m118) (loopN L) f71 (a71.enc a0) =
  bif (((decide ((0 : Int) ≤ (Nat.cast (List.length a0) : Int))) && (decide ((Nat.cast (List.length a0) : Int) ≤ (Nat.cast (List.length a0) : Int)))) && (decide ((Nat.cast (List.length a0) : Int) ≤ (1000000000 : Int)))) then headF prog (ev71 m118) L f71 0 [1, 1, 0, 1, 0, 0] (outK (outV prog f71) (topK prog (ev71 m118) L f71 [1, 1, 0, 1] (outV prog f71)).n (topK prog (ev71 m118) L f71 [1, 1, 0, 1] (outV prog f71)).x) L (S71_0 a0 (List.replicate (Int.toNat (Nat.cast (List.length a0) : Int)) ((0 : Int), ((0 : Int), ((0 : Int), ([] : List (Int)))))) (0 : Int))
  else none := by kernel_rfl
theorem r71_0 (m118 : (Int × Int × Int × (List Int)) → Option (Int × Int × Int × (List Int))) (L : Nat) (a0 : (List (Int × (Int × (Int × (List Int)))))) (k : St cxT.ty → Option (V cxT.ty)) (xk : Nat → St cxT.ty → Option (V cxT.ty)) (g : St cxT.ty → Option (V cxT.ty)) (v0_3 : (List (Int × (Int × (Int × (List Int)))))) (v0_4 : Int) : roundF prog (ev71 m118) L f71 0 [1, 1, 0, 1, 0, 0] (outK (outV prog f71) k xk) g (S71_0 a0 v0_3 v0_4) =
  bif (decide (v0_4 < (Nat.cast (List.length a0) : Int))) then bif ((decide ((0 : Int) ≤ v0_4)) && (decide (v0_4 < (Nat.cast (List.length a0) : Int)))) then tst (m118 ((List.getD a0 (Int.toNat v0_4) ((0 : Int), ((0 : Int), ((0 : Int), ([] : List (Int)))))).1, ((List.getD a0 (Int.toNat v0_4) ((0 : Int), ((0 : Int), ((0 : Int), ([] : List (Int)))))).2.1, ((List.getD a0 (Int.toNat v0_4) ((0 : Int), ((0 : Int), ((0 : Int), ([] : List (Int)))))).2.2.1, (List.getD a0 (Int.toNat v0_4) ((0 : Int), ((0 : Int), ((0 : Int), ([] : List (Int)))))).2.2.2)))) ((0 : Int), (0 : Int), (0 : Int), []) fun (q3 : (Int × Int × Int × (List Int))) => bif ((decide ((0 : Int) ≤ v0_4)) && (decide (v0_4 < (Nat.cast (List.length v0_3) : Int)))) then g (S71_0 a0 (List.set v0_3 (Int.toNat v0_4) (q3.1, (q3.2.1, (q3.2.2.1, q3.2.2.2)))) (Go.IntKind.wrap Go.IntKind.i64 (v0_4 + (1 : Int))))
        else none
    else none
  else k (X71_0 a0 v0_3) := by kernel_rfl
theorem t71_0 (m118 : (Int × Int × Int × (List Int)) → Option (Int × Int × Int × (List Int))) (L : Nat) (a0 : (List (Int × (Int × (Int × (List Int)))))) (w0_3 : (List (Int × (Int × (Int × (List Int)))))) : (topK prog (ev71 m118) L f71 [1, 1, 0, 1] (outV prog f71)).n (X71_0 a0 w0_3) =
  some (n71 w0_3) := by kernel_rfl
def l71_0 (m118 : (Int × Int × Int × (List Int)) → Option (Int × Int × Int × (List Int))) (L : Nat) (a0 : (List (Int × (Int × (Int × (List Int)))))) : Nat → (List (Int × (Int × (Int × (List Int))))) → Int → ((List (Int × (Int × (Int × (List Int))))) → Option (List (Int × (Int × (Int × (List Int)))))) → Option (List (Int × (Int × (Int × (List Int)))))
  | 0, _, _, _ => none
  | n + 1, v0_3, v0_4, k =>
    bif (decide (v0_4 < (Nat.cast (List.length a0) : Int))) then bif ((decide ((0 : Int) ≤ v0_4)) && (decide (v0_4 < (Nat.cast (List.length a0) : Int)))) then tst (m118 ((List.getD a0 (Int.toNat v0_4) ((0 : Int), ((0 : Int), ((0 : Int), ([] : List (Int)))))).1, ((List.getD a0 (Int.toNat v0_4) ((0 : Int), ((0 : Int), ((0 : Int), ([] : List (Int)))))).2.1, ((List.getD a0 (Int.toNat v0_4) ((0 : Int), ((0 : Int), ((0 : Int), ([] : List (Int)))))).2.2.1, (List.getD a0 (Int.toNat v0_4) ((0 : Int), ((0 : Int), ((0 : Int), ([] : List (Int)))))).2.2.2)))) ((0 : Int), (0 : Int), (0 : Int), []) fun (q4 : (Int × Int × Int × (List Int))) => bif ((decide ((0 : Int) ≤ v0_4)) && (decide (v0_4 < (Nat.cast (List.length v0_3) : Int)))) then l71_0 m118 L a0 n (List.set v0_3 (Int.toNat v0_4) (q4.1, (q4.2.1, (q4.2.2.1, q4.2.2.2)))) (Go.IntKind.wrap Go.IntKind.i64 (v0_4 + (1 : Int))) k
          else none
      else none
    else k v0_3
theorem h71_0 (m118 : (Int × Int × Int × (List Int)) → Option (Int × Int × Int × (List Int))) (L : Nat) (a0 : (List (Int × (Int × (Int × (List Int)))))) (k : St cxT.ty → Option (V cxT.ty)) (xk : Nat → St cxT.ty → Option (V cxT.ty)) (k' : (List (Int × (Int × (Int × (List Int))))) → Option (List (Int × (Int × (Int × (List Int)))))) (hk : ∀ (w0_3 : (List (Int × (Int × (Int × (List Int)))))), k (X71_0 a0 w0_3) = (k' w0_3).map n71) : ∀ (n : Nat) (v0_3 : (List (Int × (Int × (Int × (List Int)))))) (v0_4 : Int), headF prog (ev71 m118) L f71 0 [1, 1, 0, 1, 0, 0] (outK (outV prog f71) k xk) n (S71_0 a0 v0_3 v0_4) = (l71_0 m118 L a0 n v0_3 v0_4 k').map n71
  | 0, _, _ => rfl
  | n + 1, v0_3, v0_4 => by
    rw [headF_round, r71_0]
    have ih := h71_0 m118 L a0 k xk k' hk n
    simp only [l71_0, map_bif, map_tst, map_bnd, Option.map_some, Option.map_none, ih, hk]
def g71 (m118 : (Int × Int × Int × (List Int)) → Option (Int × Int × Int × (List Int))) (L : Nat) (a0 : (List (Int × (Int × (Int × (List Int)))))) : Option (List (Int × (Int × (Int × (List Int))))) :=
  bif (((decide ((0 : Int) ≤ (Nat.cast (List.length a0) : Int))) && (decide ((Nat.cast (List.length a0) : Int) ≤ (Nat.cast (List.length a0) : Int)))) && (decide ((Nat.cast (List.length a0) : Int) ≤ (1000000000 : Int)))) then l71_0 m118 L a0 L (List.replicate (Int.toNat (Nat.cast (List.length a0) : Int)) ((0 : Int), ((0 : Int), ((0 : Int), ([] : List (Int)))))) (0 : Int) (fun (w0_3 : (List (Int × (Int × (Int × (List Int)))))) => some w0_3)
  else none
theorem e71 (m118 : (Int × Int × Int × (List Int)) → Option (Int × Int × Int × (List Int))) (L : Nat) (a0 : (List (Int × (Int × (Int × (List Int)))))) : evF prog (ev71 m118) (loopN L) f71 (a71.enc a0) = (g71 m118 L a0).map n71 := by
  let K'0 : (List (Int × (Int × (Int × (List Int))))) → Option (List (Int × (Int × (Int × (List Int))))) := (fun (w0_3 : (List (Int × (Int × (Int × (List Int)))))) => some w0_3)
  have hin0 : ∀ (v0_3 : (List (Int × (Int × (Int × (List Int)))))) (v0_4 : Int), headF prog (ev71 m118) L f71 0 [1, 1, 0, 1, 0, 0] (outK (outV prog f71) (topK prog (ev71 m118) L f71 [1, 1, 0, 1] (outV prog f71)).n (topK prog (ev71 m118) L f71 [1, 1, 0, 1] (outV prog f71)).x) L (S71_0 a0 v0_3 v0_4) = (l71_0 m118 L a0 L v0_3 v0_4 K'0).map n71 := fun v0_3 v0_4 => h71_0 m118 L a0 _ _ K'0 (fun w0_3 => by rw [t71_0]; simp only [K'0, map_bif, map_tst, map_bnd, Option.map_some, Option.map_none]) L v0_3 v0_4
  rw [i71]; simp only [g71, map_bif, map_tst, map_bnd, Option.map_some, Option.map_none, hin0, K'0]
theorem s71 (m118 : (Int × Int × Int × (List Int)) → Option (Int × Int × Int × (List Int))) (h118 : Sat prog cxT 118 (c118 m118)) (m : (List (Int × (Int × (Int × (List Int))))) → Option (List (Int × (Int × (Int × (List Int)))))) (hm : ∀ (x : (List (Int × (Int × (Int × (List Int)))))) t, m x = some t → ∃ L, g71 m118 L x = some t) : Sat prog cxT 71 (c71 m) :=
  sat_t cxT_ok cxT_pok (by rfl) (fn := f71) rfl a71 n71 dd71 m (ev71 m118) (kok_cons h118 kok_nil) kwok_nil (fun L x => g71 m118 L x) (fun L x => e71 m118 L x) hm hs71
/-! loop.example/g00222/laws.toConfig -/
def ev29 (m70 : (List (Int × (Int × (Int × (Int × Bool))))) → Option (List (Int × (Int × (Int × (Int × Bool)))))) (m71 : (List (Int × (Int × (Int × (List Int))))) → Option (List (Int × (Int × (Int × (List Int)))))) : Env cxT := { Kc := kcOf [(70, c70 m70), (71, c71 m71)], Kw := kwOf [], lv := fun i => [], xv := fun i => none }
theorem i29 (m70 : (List (Int × (Int × (Int × (Int × Bool))))) → Option (List (Int × (Int × (Int × (Int × Bool)))))) (m71 : (List (Int × (Int × (Int × (List Int))))) → Option (List (Int × (Int × (Int × (List Int)))))) (L : Nat) (a0_0 : Int) (a0_1 : (List (Int × (Int × (Int × (Int × Bool)))))) (a0_2 : (List (Int × (Int × (Int × (List Int)))))) : evF prog (ev29 m70 m71) (loopN L) f29 (a29.enc (a0_0, a0_1, a0_2)) =
  tst (m70 a0_1) [] fun (q1 : (List (Int × (Int × (Int × (Int × Bool)))))) => tst (m71 a0_2) [] fun (q2 : (List (Int × (Int × (Int × (List Int)))))) => some (n29 (a0_0, q1, q2)) := by kernel_rfl
def g29 (m70 : (List (Int × (Int × (Int × (Int × Bool))))) → Option (List (Int × (Int × (Int × (Int × Bool)))))) (m71 : (List (Int × (Int × (Int × (List Int))))) → Option (List (Int × (Int × (Int × (List Int)))))) (L : Nat) (a0_0 : Int) (a0_1 : (List (Int × (Int × (Int × (Int × Bool)))))) (a0_2 : (List (Int × (Int × (Int × (List Int)))))) : Option (Int × (List (Int × (Int × (Int × (Int × Bool))))) × (List (Int × (Int × (Int × (List Int)))))) :=
  tst (m70 a0_1) [] fun (q1 : (List (Int × (Int × (Int × (Int × Bool)))))) => tst (m71 a0_2) [] fun (q2 : (List (Int × (Int × (Int × (List Int)))))) => some (a0_0, q1, q2)
theorem e29 (m70 : (List (Int × (Int × (Int × (Int × Bool))))) → Option (List (Int × (Int × (Int × (Int × Bool)))))) (m71 : (List (Int × (Int × (Int × (List Int))))) → Option (List (Int × (Int × (Int × (List Int)))))) (L : Nat) (a0_0 : Int) (a0_1 : (List (Int × (Int × (Int × (Int × Bool)))))) (a0_2 : (List (Int × (Int × (Int × (List Int)))))) : evF prog (ev29 m70 m71) (loopN L) f29 (a29.enc (a0_0, a0_1, a0_2)) = (g29 m70 m71 L a0_0 a0_1 a0_2).map n29 := by
  rw [i29]; simp only [g29, map_bif, map_tst, map_bnd, Option.map_some, Option.map_none]
theorem s29 (m70 : (List (Int × (Int × (Int × (Int × Bool))))) → Option (List (Int × (Int × (Int × (Int × Bool)))))) (m71 : (List (Int × (Int × (Int × (List Int))))) → Option (List (Int × (Int × (Int × (List Int)))))) (h70 : Sat prog cxT 70 (c70 m70)) (h71 : Sat prog cxT 71 (c71 m71)) (m : (Int × (List (Int × (Int × (Int × (Int × Bool))))) × (List (Int × (Int × (Int × (List Int)))))) → Option (Int × (List (Int × (Int × (Int × (Int × Bool))))) × (List (Int × (Int × (Int × (List Int))))))) (hm : ∀ (x : (Int × (List (Int × (Int × (Int × (Int × Bool))))) × (List (Int × (Int × (Int × (List Int))))))) t, m x = some t → ∃ L, g29 m70 m71 L x.1 x.2.1 x.2.2 = some t) : Sat prog cxT 29 (c29 m) :=
  sat_t cxT_ok cxT_pok (by rfl) (fn := f29) rfl a29 n29 dd29 m (ev29 m70 m71) (kok_cons h70 (kok_cons h71 kok_nil)) kwok_nil (fun L x => g29 m70 m71 L x.1 x.2.1 x.2.2) (fun L x => e29 m70 m71 L x.1 x.2.1 x.2.2) hm hs29
/-! loop.example/g00222/laws.eqBackend -/
def ev121 : Env cxT := { Kc := kcOf [], Kw := kwOf [], lv := fun i => [], xv := fun i => none }
theorem i121 (L : Nat) (a0_0 : Int) (a0_1 : Int) (a0_2 : Int) (a0_3 : Int) (a0_4 : Bool) (a1_0 : Int) (a1_1 : Int) (a1_2 : Int) (a1_3 : Int) (a1_4 : Bool) : evF prog ev121 (loopN L) f121 (a121.enc ((a0_0, a0_1, a0_2, a0_3, a0_4), (a1_0, a1_1, a1_2, a1_3, a1_4))) =
  bif (a0_0 != a1_0) then some (n121 Bool.false)
  else bif (a0_1 != a1_1) then some (n121 Bool.false)
  else bif (a0_2 != a1_2) then some (n121 Bool.false)
  else bif (a0_3 != a1_3) then some (n121 Bool.false)
  else bif (!(a0_4 == a1_4)) then some (n121 Bool.false)
  else some (n121 Bool.true) := by kernel_rfl
def g121 (L : Nat) (a0_0 : Int) (a0_1 : Int) (a0_2 : Int) (a0_3 : Int) (a0_4 : Bool) (a1_0 : Int) (a1_1 : Int) (a1_2 : Int) (a1_3 : Int) (a1_4 : Bool) : Option Bool :=
  bif (a0_0 != a1_0) then some Bool.false
  else bif (a0_1 != a1_1) then some Bool.false
  else bif (a0_2 != a1_2) then some Bool.false
  else bif (a0_3 != a1_3) then some Bool.false
  else bif (!(a0_4 == a1_4)) then some Bool.false
  else some Bool.true
theorem e121 (L : Nat) (a0_0 : Int) (a0_1 : Int) (a0_2 : Int) (a0_3 : Int) (a0_4 : Bool) (a1_0 : Int) (a1_1 : Int) (a1_2 : Int) (a1_3 : Int) (a1_4 : Bool) : evF prog ev121 (loopN L) f121 (a121.enc ((a0_0, a0_1, a0_2, a0_3, a0_4), (a1_0, a1_1, a1_2, a1_3, a1_4))) = (g121 L a0_0 a0_1 a0_2 a0_3 a0_4 a1_0 a1_1 a1_2 a1_3 a1_4).map n121 := by
  rw [i121]; simp only [g121, map_bif, map_tst, map_bnd, Option.map_some, Option.map_none]
theorem s121 (m : ((Int × Int × Int × Int × Bool) × (Int × Int × Int × Int × Bool)) → Option Bool) (hm : ∀ (x : ((Int × Int × Int × Int × Bool) × (Int × Int × Int × Int × Bool))) t, m x = some t → ∃ L, g121 L x.1.1 x.1.2.1 x.1.2.2.1 x.1.2.2.2.1 x.1.2.2.2.2 x.2.1 x.2.2.1 x.2.2.2.1 x.2.2.2.2.1 x.2.2.2.2.2 = some t) : Sat prog cxT 121 (c121 m) :=
  sat_t cxT_ok cxT_pok (by rfl) (fn := f121) rfl a121 n121 dd121 m ev121 kok_nil kwok_nil (fun L x => g121 L x.1.1 x.1.2.1 x.1.2.2.1 x.1.2.2.2.1 x.1.2.2.2.2 x.2.1 x.2.2.1 x.2.2.2.1 x.2.2.2.2.1 x.2.2.2.2.2) (fun L x => e121 L x.1.1 x.1.2.1 x.1.2.2.1 x.1.2.2.2.1 x.1.2.2.2.2 x.2.1 x.2.2.1 x.2.2.2.1 x.2.2.2.2.1 x.2.2.2.2.2) hm hs121
/-! loop.example/g00222/laws.eqBackendS -/
def ev76 (m121 : ((Int × Int × Int × Int × Bool) × (Int × Int × Int × Int × Bool)) → Option Bool) : Env cxT := { Kc := kcOf [(121, c121 m121)], Kw := kwOf [], lv := fun i => if i = 0 then [(0, [some 35]), (1, [some 35]), (5, [])] else [], xv := fun i => if i = 0 then some [] else none }
def S76_0 (a0 : (List (Int × (Int × (Int × (Int × Bool)))))) (a1 : (List (Int × (Int × (Int × (Int × Bool)))))) (v0_5 : Int) : St cxT.ty := { slots := [(.inl (.inl (ls { own := 0, nm := 0, e := 35, o := false, xs := a0 }))), (.inl (.inl (ls { own := 0, nm := 0, e := 35, o := false, xs := a1 }))), junk, junk, junk, (.inl (.inl (lv (.int .i64 v0_5))))] ++ List.replicate 21 junk, D := [], F := [], ctr := 1 }
def X76_0 (a0 : (List (Int × (Int × (Int × (Int × Bool)))))) (a1 : (List (Int × (Int × (Int × (Int × Bool)))))) : St cxT.ty := { slots := [] ++ List.replicate 27 junk, D := [], F := [], ctr := 1 }
theorem i76 (m121 : ((Int × Int × Int × Int × Bool) × (Int × Int × Int × Int × Bool)) → Option Bool) (L : Nat) (a0 : (List (Int × (Int × (Int × (Int × Bool)))))) (a1 : (List (Int × (Int × (Int × (Int × Bool)))))) : evF prog (ev76 m121) (loopN L) f76 (a76.enc (a0, a1)) =
  bif ((Nat.cast (List.length a0) : Int) != (Nat.cast (List.length a1) : Int)) then some (n76 Bool.false)
  else headF prog (ev76 m121) L f76 0 [1, 1, 0, 1, 0, 0] (outK (outV prog f76) (topK prog (ev76 m121) L f76 [1, 1, 0, 1] (outV prog f76)).n (topK prog (ev76 m121) L f76 [1, 1, 0, 1] (outV prog f76)).x) L (S76_0 a0 a1 (0 : Int)) := by kernel_rfl
theorem r76_0 (m121 : ((Int × Int × Int × Int × Bool) × (Int × Int × Int × Int × Bool)) → Option Bool) (L : Nat) (a0 : (List (Int × (Int × (Int × (Int × Bool)))))) (a1 : (List (Int × (Int × (Int × (Int × Bool)))))) (k : St cxT.ty → Option (V cxT.ty)) (xk : Nat → St cxT.ty → Option (V cxT.ty)) (g : St cxT.ty → Option (V cxT.ty)) (v0_5 : Int) : roundF prog (ev76 m121) L f76 0 [1, 1, 0, 1, 0, 0] (outK (outV prog f76) k xk) g (S76_0 a0 a1 v0_5) =
  bif (decide (v0_5 < (Nat.cast (List.length a0) : Int))) then bif ((decide ((0 : Int) ≤ v0_5)) && (decide (v0_5 < (Nat.cast (List.length a0) : Int)))) then bif ((decide ((0 : Int) ≤ v0_5)) && (decide (v0_5 < (Nat.cast (List.length a1) : Int)))) then tst (m121 (((List.getD a0 (Int.toNat v0_5) ((0 : Int), ((0 : Int), ((0 : Int), ((0 : Int), Bool.false))))).1, ((List.getD a0 (Int.toNat v0_5) ((0 : Int), ((0 : Int), ((0 : Int), ((0 : Int), Bool.false))))).2.1, ((List.getD a0 (Int.toNat v0_5) ((0 : Int), ((0 : Int), ((0 : Int), ((0 : Int), Bool.false))))).2.2.1, ((List.getD a0 (Int.toNat v0_5) ((0 : Int), ((0 : Int), ((0 : Int), ((0 : Int), Bool.false))))).2.2.2.1, (List.getD a0 (Int.toNat v0_5) ((0 : Int), ((0 : Int), ((0 : Int), ((0 : Int), Bool.false))))).2.2.2.2)))), ((List.getD a1 (Int.toNat v0_5) ((0 : Int), ((0 : Int), ((0 : Int), ((0 : Int), Bool.false))))).1, ((List.getD a1 (Int.toNat v0_5) ((0 : Int), ((0 : Int), ((0 : Int), ((0 : Int), Bool.false))))).2.1, ((List.getD a1 (Int.toNat v0_5) ((0 : Int), ((0 : Int), ((0 : Int), ((0 : Int), Bool.false))))).2.2.1, ((List.getD a1 (Int.toNat v0_5) ((0 : Int), ((0 : Int), ((0 : Int), ((0 : Int), Bool.false))))).2.2.2.1, (List.getD a1 (Int.toNat v0_5) ((0 : Int), ((0 : Int), ((0 : Int), ((0 : Int), Bool.false))))).2.2.2.2)))))) false fun (q4 : Bool) => bif (!q4) then some (n76 Bool.false)
          else g (S76_0 a0 a1 (Go.IntKind.wrap Go.IntKind.i64 (v0_5 + (1 : Int))))
      else none
    else none
  else k (X76_0 a0 a1) := by kernel_rfl
theorem t76_0 (m121 : ((Int × Int × Int × Int × Bool) × (Int × Int × Int × Int × Bool)) → Option Bool) (L : Nat) (a0 : (List (Int × (Int × (Int × (Int × Bool)))))) (a1 : (List (Int × (Int × (Int × (Int × Bool)))))) : (topK prog (ev76 m121) L f76 [1, 1, 0, 1] (outV prog f76)).n (X76_0 a0 a1) =
  some (n76 Bool.true) := by kernel_rfl
def l76_0 (m121 : ((Int × Int × Int × Int × Bool) × (Int × Int × Int × Int × Bool)) → Option Bool) (L : Nat) (a0 : (List (Int × (Int × (Int × (Int × Bool)))))) (a1 : (List (Int × (Int × (Int × (Int × Bool)))))) : Nat → Int → (Option Bool) → Option Bool
  | 0, _, _ => none
  | n + 1, v0_5, k =>
    bif (decide (v0_5 < (Nat.cast (List.length a0) : Int))) then bif ((decide ((0 : Int) ≤ v0_5)) && (decide (v0_5 < (Nat.cast (List.length a0) : Int)))) then bif ((decide ((0 : Int) ≤ v0_5)) && (decide (v0_5 < (Nat.cast (List.length a1) : Int)))) then tst (m121 (((List.getD a0 (Int.toNat v0_5) ((0 : Int), ((0 : Int), ((0 : Int), ((0 : Int), Bool.false))))).1, ((List.getD a0 (Int.toNat v0_5) ((0 : Int), ((0 : Int), ((0 : Int), ((0 : Int), Bool.false))))).2.1, ((List.getD a0 (Int.toNat v0_5) ((0 : Int), ((0 : Int), ((0 : Int), ((0 : Int), Bool.false))))).2.2.1, ((List.getD a0 (Int.toNat v0_5) ((0 : Int), ((0 : Int), ((0 : Int), ((0 : Int), Bool.false))))).2.2.2.1, (List.getD a0 (Int.toNat v0_5) ((0 : Int), ((0 : Int), ((0 : Int), ((0 : Int), Bool.false))))).2.2.2.2)))), ((List.getD a1 (Int.toNat v0_5) ((0 : Int), ((0 : Int), ((0 : Int), ((0 : Int), Bool.false))))).1, ((List.getD a1 (Int.toNat v0_5) ((0 : Int), ((0 : Int), ((0 : Int), ((0 : Int), Bool.false))))).2.1, ((List.getD a1 (Int.toNat v0_5) ((0 : Int), ((0 : Int), ((0 : Int), ((0 : Int), Bool.false))))).2.2.1, ((List.getD a1 (Int.toNat v0_5) ((0 : Int), ((0 : Int), ((0 : Int), ((0 : Int), Bool.false))))).2.2.2.1, (List.getD a1 (Int.toNat v0_5) ((0 : Int), ((0 : Int), ((0 : Int), ((0 : Int), Bool.false))))).2.2.2.2)))))) false fun (q5 : Bool) => bif (!q5) then some Bool.false
            else l76_0 m121 L a0 a1 n (Go.IntKind.wrap Go.IntKind.i64 (v0_5 + (1 : Int))) k
        else none
      else none
    else k
theorem h76_0 (m121 : ((Int × Int × Int × Int × Bool) × (Int × Int × Int × Int × Bool)) → Option Bool) (L : Nat) (a0 : (List (Int × (Int × (Int × (Int × Bool)))))) (a1 : (List (Int × (Int × (Int × (Int × Bool)))))) (k : St cxT.ty → Option (V cxT.ty)) (xk : Nat → St cxT.ty → Option (V cxT.ty)) (k' : Option Bool) (hk : k (X76_0 a0 a1) = (k').map n76) : ∀ (n : Nat) (v0_5 : Int), headF prog (ev76 m121) L f76 0 [1, 1, 0, 1, 0, 0] (outK (outV prog f76) k xk) n (S76_0 a0 a1 v0_5) = (l76_0 m121 L a0 a1 n v0_5 k').map n76
  | 0, _ => rfl
  | n + 1, v0_5 => by
    rw [headF_round, r76_0]
    have ih := h76_0 m121 L a0 a1 k xk k' hk n
    simp only [l76_0, map_bif, map_tst, map_bnd, Option.map_some, Option.map_none, ih, hk]
def g76 (m121 : ((Int × Int × Int × Int × Bool) × (Int × Int × Int × Int × Bool)) → Option Bool) (L : Nat) (a0 : (List (Int × (Int × (Int × (Int × Bool)))))) (a1 : (List (Int × (Int × (Int × (Int × Bool)))))) : Option Bool :=
  bif ((Nat.cast (List.length a0) : Int) != (Nat.cast (List.length a1) : Int)) then some Bool.false
  else l76_0 m121 L a0 a1 L (0 : Int) (some Bool.true)
theorem e76 (m121 : ((Int × Int × Int × Int × Bool) × (Int × Int × Int × Int × Bool)) → Option Bool) (L : Nat) (a0 : (List (Int × (Int × (Int × (Int × Bool)))))) (a1 : (List (Int × (Int × (Int × (Int × Bool)))))) : evF prog (ev76 m121) (loopN L) f76 (a76.enc (a0, a1)) = (g76 m121 L a0 a1).map n76 := by
  let K'0 : Option Bool := (some Bool.true)
  have hin0 : ∀ (v0_5 : Int), headF prog (ev76 m121) L f76 0 [1, 1, 0, 1, 0, 0] (outK (outV prog f76) (topK prog (ev76 m121) L f76 [1, 1, 0, 1] (outV prog f76)).n (topK prog (ev76 m121) L f76 [1, 1, 0, 1] (outV prog f76)).x) L (S76_0 a0 a1 v0_5) = (l76_0 m121 L a0 a1 L v0_5 K'0).map n76 := fun v0_5 => h76_0 m121 L a0 a1 _ _ K'0 (by rw [t76_0]; simp only [K'0, map_bif, map_tst, map_bnd, Option.map_some, Option.map_none]) L v0_5
  rw [i76]; simp only [g76, map_bif, map_tst, map_bnd, Option.map_some, Option.map_none, hin0, K'0]
theorem s76 (m121 : ((Int × Int × Int × Int × Bool) × (Int × Int × Int × Int × Bool)) → Option Bool) (h121 : Sat prog cxT 121 (c121 m121)) (m : ((List (Int × (Int × (Int × (Int × Bool))))) × (List (Int × (Int × (Int × (Int × Bool)))))) → Option Bool) (hm : ∀ (x : ((List (Int × (Int × (Int × (Int × Bool))))) × (List (Int × (Int × (Int × (Int × Bool))))))) t, m x = some t → ∃ L, g76 m121 L x.1 x.2 = some t) : Sat prog cxT 76 (c76 m) :=
  sat_t cxT_ok cxT_pok (by rfl) (fn := f76) rfl a76 n76 dd76 m (ev76 m121) (kok_cons h121 kok_nil) kwok_nil (fun L x => g76 m121 L x.1 x.2) (fun L x => e76 m121 L x.1 x.2) hm hs76
/-! loop.example/g00222/laws.eqInt64S -/
def ev83 : Env cxT := { Kc := kcOf [], Kw := kwOf [], lv := fun i => if i = 0 then [(0, [some 2]), (1, [some 2]), (5, [])] else [], xv := fun i => if i = 0 then some [] else none }
def S83_0 (a0 : (List Int)) (a1 : (List Int)) (v0_5 : Int) : St cxT.ty := { slots := [(.inl (.inl (ls { own := 0, nm := 0, e := 2, o := false, xs := a0 }))), (.inl (.inl (ls { own := 0, nm := 0, e := 2, o := false, xs := a1 }))), junk, junk, junk, (.inl (.inl (lv (.int .i64 v0_5))))] ++ List.replicate 20 junk, D := [], F := [], ctr := 1 }
def X83_0 (a0 : (List Int)) (a1 : (List Int)) : St cxT.ty := { slots := [] ++ List.replicate 26 junk, D := [], F := [], ctr := 1 }
theorem i83 (L : Nat) (a0 : (List Int)) (a1 : (List Int)) : evF prog ev83 (loopN L) f83 (a83.enc (a0, a1)) =
  bif ((Nat.cast (List.length a0) : Int) != (Nat.cast (List.length a1) : Int)) then some (n83 Bool.false)
  else headF prog ev83 L f83 0 [1, 1, 0, 1, 0, 0] (outK (outV prog f83) (topK prog ev83 L f83 [1, 1, 0, 1] (outV prog f83)).n (topK prog ev83 L f83 [1, 1, 0, 1] (outV prog f83)).x) L (S83_0 a0 a1 (0 : Int)) := by kernel_rfl
theorem r83_0 (L : Nat) (a0 : (List Int)) (a1 : (List Int)) (k : St cxT.ty → Option (V cxT.ty)) (xk : Nat → St cxT.ty → Option (V cxT.ty)) (g : St cxT.ty → Option (V cxT.ty)) (v0_5 : Int) : roundF prog ev83 L f83 0 [1, 1, 0, 1, 0, 0] (outK (outV prog f83) k xk) g (S83_0 a0 a1 v0_5) =
  bif (decide (v0_5 < (Nat.cast (List.length a0) : Int))) then bif ((decide ((0 : Int) ≤ v0_5)) && (decide (v0_5 < (Nat.cast (List.length a0) : Int)))) then bif ((decide ((0 : Int) ≤ v0_5)) && (decide (v0_5 < (Nat.cast (List.length a1) : Int)))) then bif ((List.getD a0 (Int.toNat v0_5) (0 : Int)) != (List.getD a1 (Int.toNat v0_5) (0 : Int))) then some (n83 Bool.false)
        else g (S83_0 a0 a1 (Go.IntKind.wrap Go.IntKind.i64 (v0_5 + (1 : Int))))
      else none
    else none
  else k (X83_0 a0 a1) := by kernel_rfl
theorem t83_0 (L : Nat) (a0 : (List Int)) (a1 : (List Int)) : (topK prog ev83 L f83 [1, 1, 0, 1] (outV prog f83)).n (X83_0 a0 a1) =
  some (n83 Bool.true) := by kernel_rfl
def l83_0 (L : Nat) (a0 : (List Int)) (a1 : (List Int)) : Nat → Int → (Option Bool) → Option Bool
  | 0, _, _ => none
  | n + 1, v0_5, k =>
    bif (decide (v0_5 < (Nat.cast (List.length a0) : Int))) then bif ((decide ((0 : Int) ≤ v0_5)) && (decide (v0_5 < (Nat.cast (List.length a0) : Int)))) then bif ((decide ((0 : Int) ≤ v0_5)) && (decide (v0_5 < (Nat.cast (List.length a1) : Int)))) then bif ((List.getD a0 (Int.toNat v0_5) (0 : Int)) != (List.getD a1 (Int.toNat v0_5) (0 : Int))) then some Bool.false
          else l83_0 L a0 a1 n (Go.IntKind.wrap Go.IntKind.i64 (v0_5 + (1 : Int))) k
        else none
      else none
    else k
theorem h83_0 (L : Nat) (a0 : (List Int)) (a1 : (List Int)) (k : St cxT.ty → Option (V cxT.ty)) (xk : Nat → St cxT.ty → Option (V cxT.ty)) (k' : Option Bool) (hk : k (X83_0 a0 a1) = (k').map n83) : ∀ (n : Nat) (v0_5 : Int), headF prog ev83 L f83 0 [1, 1, 0, 1, 0, 0] (outK (outV prog f83) k xk) n (S83_0 a0 a1 v0_5) = (l83_0 L a0 a1 n v0_5 k').map n83
  | 0, _ => rfl
  | n + 1, v0_5 => by
    rw [headF_round, r83_0]
    have ih := h83_0 L a0 a1 k xk k' hk n
    simp only [l83_0, map_bif, map_tst, map_bnd, Option.map_some, Option.map_none, ih, hk]
def g83 (L : Nat) (a0 : (List Int)) (a1 : (List Int)) : Option Bool :=
  bif ((Nat.cast (List.length a0) : Int) != (Nat.cast (List.length a1) : Int)) then some Bool.false
  else l83_0 L a0 a1 L (0 : Int) (some Bool.true)
theorem e83 (L : Nat) (a0 : (List Int)) (a1 : (List Int)) : evF prog ev83 (loopN L) f83 (a83.enc (a0, a1)) = (g83 L a0 a1).map n83 := by
  let K'0 : Option Bool := (some Bool.true)
  have hin0 : ∀ (v0_5 : Int), headF prog ev83 L f83 0 [1, 1, 0, 1, 0, 0] (outK (outV prog f83) (topK prog ev83 L f83 [1, 1, 0, 1] (outV prog f83)).n (topK prog ev83 L f83 [1, 1, 0, 1] (outV prog f83)).x) L (S83_0 a0 a1 v0_5) = (l83_0 L a0 a1 L v0_5 K'0).map n83 := fun v0_5 => h83_0 L a0 a1 _ _ K'0 (by rw [t83_0]; simp only [K'0, map_bif, map_tst, map_bnd, Option.map_some, Option.map_none]) L v0_5
  rw [i83]; simp only [g83, map_bif, map_tst, map_bnd, Option.map_some, Option.map_none, hin0, K'0]
theorem s83 (m : ((List Int) × (List Int)) → Option Bool) (hm : ∀ (x : ((List Int) × (List Int))) t, m x = some t → ∃ L, g83 L x.1 x.2 = some t) : Sat prog cxT 83 (c83 m) :=
  sat_t cxT_ok cxT_pok (by rfl) (fn := f83) rfl a83 n83 dd83 m ev83 kok_nil kwok_nil (fun L x => g83 L x.1 x.2) (fun L x => e83 L x.1 x.2) hm hs83
/-! loop.example/g00222/laws.eqVip -/
def ev122 (m83 : ((List Int) × (List Int)) → Option Bool) : Env cxT := { Kc := kcOf [(83, c83 m83)], Kw := kwOf [], lv := fun i => [], xv := fun i => none }
theorem i122 (m83 : ((List Int) × (List Int)) → Option Bool) (L : Nat) (a0_0 : Int) (a0_1 : Int) (a0_2 : Int) (a0_3 : (List Int)) (a1_0 : Int) (a1_1 : Int) (a1_2 : Int) (a1_3 : (List Int)) : evF prog (ev122 m83) (loopN L) f122 (a122.enc ((a0_0, a0_1, a0_2, a0_3), (a1_0, a1_1, a1_2, a1_3))) =
  bif (a0_0 != a1_0) then some (n122 Bool.false)
  else bif (a0_1 != a1_1) then some (n122 Bool.false)
  else bif (a0_2 != a1_2) then some (n122 Bool.false)
  else tst (m83 (a0_3, a1_3)) false fun (q1 : Bool) => bif (!q1) then some (n122 Bool.false)
    else some (n122 Bool.true) := by kernel_rfl
def g122 (m83 : ((List Int) × (List Int)) → Option Bool) (L : Nat) (a0_0 : Int) (a0_1 : Int) (a0_2 : Int) (a0_3 : (List Int)) (a1_0 : Int) (a1_1 : Int) (a1_2 : Int) (a1_3 : (List Int)) : Option Bool :=
  bif (a0_0 != a1_0) then some Bool.false
  else bif (a0_1 != a1_1) then some Bool.false
  else bif (a0_2 != a1_2) then some Bool.false
  else tst (m83 (a0_3, a1_3)) false fun (q1 : Bool) => bif (!q1) then some Bool.false
    else some Bool.true
theorem e122 (m83 : ((List Int) × (List Int)) → Option Bool) (L : Nat) (a0_0 : Int) (a0_1 : Int) (a0_2 : Int) (a0_3 : (List Int)) (a1_0 : Int) (a1_1 : Int) (a1_2 : Int) (a1_3 : (List Int)) : evF prog (ev122 m83) (loopN L) f122 (a122.enc ((a0_0, a0_1, a0_2, a0_3), (a1_0, a1_1, a1_2, a1_3))) = (g122 m83 L a0_0 a0_1 a0_2 a0_3 a1_0 a1_1 a1_2 a1_3).map n122 := by
  rw [i122]; simp only [g122, map_bif, map_tst, map_bnd, Option.map_some, Option.map_none]
theorem s122 (m83 : ((List Int) × (List Int)) → Option Bool) (h83 : Sat prog cxT 83 (c83 m83)) (m : ((Int × Int × Int × (List Int)) × (Int × Int × Int × (List Int))) → Option Bool) (hm : ∀ (x : ((Int × Int × Int × (List Int)) × (Int × Int × Int × (List Int)))) t, m x = some t → ∃ L, g122 m83 L x.1.1 x.1.2.1 x.1.2.2.1 x.1.2.2.2 x.2.1 x.2.2.1 x.2.2.2.1 x.2.2.2.2 = some t) : Sat prog cxT 122 (c122 m) :=
  sat_t cxT_ok cxT_pok (by rfl) (fn := f122) rfl a122 n122 dd122 m (ev122 m83) (kok_cons h83 kok_nil) kwok_nil (fun L x => g122 m83 L x.1.1 x.1.2.1 x.1.2.2.1 x.1.2.2.2 x.2.1 x.2.2.1 x.2.2.2.1 x.2.2.2.2) (fun L x => e122 m83 L x.1.1 x.1.2.1 x.1.2.2.1 x.1.2.2.2 x.2.1 x.2.2.1 x.2.2.2.1 x.2.2.2.2) hm hs122
/-! loop.example/g00222/laws.eqVipS -/
def ev77 (m122 : ((Int × Int × Int × (List Int)) × (Int × Int × Int × (List Int))) → Option Bool) : Env cxT := { Kc := kcOf [(122, c122 m122)], Kw := kwOf [], lv := fun i => if i = 0 then [(0, [some 114]), (1, [some 114]), (5, [])] else [], xv := fun i => if i = 0 then some [] else none }
def S77_0 (a0 : (List (Int × (Int × (Int × (List Int)))))) (a1 : (List (Int × (Int × (Int × (List Int)))))) (v0_5 : Int) : St cxT.ty := { slots := [(.inl (.inl (ls { own := 0, nm := 0, e := 114, o := false, xs := a0 }))), (.inl (.inl (ls { own := 0, nm := 0, e := 114, o := false, xs := a1 }))), junk, junk, junk, (.inl (.inl (lv (.int .i64 v0_5))))] ++ List.replicate 21 junk, D := [], F := [], ctr := 1 }
def X77_0 (a0 : (List (Int × (Int × (Int × (List Int)))))) (a1 : (List (Int × (Int × (Int × (List Int)))))) : St cxT.ty := { slots := [] ++ List.replicate 27 junk, D := [], F := [], ctr := 1 }
theorem i77 (m122 : ((Int × Int × Int × (List Int)) × (Int × Int × Int × (List Int))) → Option Bool) (L : Nat) (a0 : (List (Int × (Int × (Int × (List Int)))))) (a1 : (List (Int × (Int × (Int × (List Int)))))) : evF prog (ev77 m122) (loopN L) f77 (a77.enc (a0, a1)) =
  bif ((Nat.cast (List.length a0) : Int) != (Nat.cast (List.length a1) : Int)) then some (n77 Bool.false)
  else headF prog (ev77 m122) L f77 0 [1, 1, 0, 1, 0, 0] (outK (outV prog f77) (topK prog (ev77 m122) L f77 [1, 1, 0, 1] (outV prog f77)).n (topK prog (ev77 m122) L f77 [1, 1, 0, 1] (outV prog f77)).x) L (S77_0 a0 a1 (0 : Int)) := by kernel_rfl
theorem r77_0 (m122 : ((Int × Int × Int × (List Int)) × (Int × Int × Int × (List Int))) → Option Bool) (L : Nat) (a0 : (List (Int × (Int × (Int × (List Int)))))) (a1 : (List (Int × (Int × (Int × (List Int)))))) (k : St cxT.ty → Option (V cxT.ty)) (xk : Nat → St cxT.ty → Option (V cxT.ty)) (g : St cxT.ty → Option (V cxT.ty)) (v0_5 : Int) : roundF prog (ev77 m122) L f77 0 [1, 1, 0, 1, 0, 0] (outK (outV prog f77) k xk) g (S77_0 a0 a1 v0_5) =
  bif (decide (v0_5 < (Nat.cast (List.length a0) : Int))) then bif ((decide ((0 : Int) ≤ v0_5)) && (decide (v0_5 < (Nat.cast (List.length a0) : Int)))) then bif ((decide ((0 : Int) ≤ v0_5)) && (decide (v0_5 < (Nat.cast (List.length a1) : Int)))) then tst (m122 (((List.getD a0 (Int.toNat v0_5) ((0 : Int), ((0 : Int), ((0 : Int), ([] : List (Int)))))).1, ((List.getD a0 (Int.toNat v0_5) ((0 : Int), ((0 : Int), ((0 : Int), ([] : List (Int)))))).2.1, ((List.getD a0 (Int.toNat v0_5) ((0 : Int), ((0 : Int), ((0 : Int), ([] : List (Int)))))).2.2.1, (List.getD a0 (Int.toNat v0_5) ((0 : Int), ((0 : Int), ((0 : Int), ([] : List (Int)))))).2.2.2))), ((List.getD a1 (Int.toNat v0_5) ((0 : Int), ((0 : Int), ((0 : Int), ([] : List (Int)))))).1, ((List.getD a1 (Int.toNat v0_5) ((0 : Int), ((0 : Int), ((0 : Int), ([] : List (Int)))))).2.1, ((List.getD a1 (Int.toNat v0_5) ((0 : Int), ((0 : Int), ((0 : Int), ([] : List (Int)))))).2.2.1, (List.getD a1 (Int.toNat v0_5) ((0 : Int), ((0 : Int), ((0 : Int), ([] : List (Int)))))).2.2.2))))) false fun (q4 : Bool) => bif (!q4) then some (n77 Bool.false)
          else g (S77_0 a0 a1 (Go.IntKind.wrap Go.IntKind.i64 (v0_5 + (1 : Int))))
      else none
    else none
  else k (X77_0 a0 a1) := by kernel_rfl
theorem t77_0 (m122 : ((Int × Int × Int × (List Int)) × (Int × Int × Int × (List Int))) → Option Bool) (L : Nat) (a0 : (List (Int × (Int × (Int × (List Int)))))) (a1 : (List (Int × (Int × (Int × (List Int)))))) : (topK prog (ev77 m122) L f77 [1, 1, 0, 1] (outV prog f77)).n (X77_0 a0 a1) =
  some (n77 Bool.true) := by kernel_rfl
def l77_0 (m122 : ((Int × Int × Int × (List Int)) × (Int × Int × Int × (List Int))) → Option Bool) (L : Nat) (a0 : (List (Int × (Int × (Int × (List Int)))))) (a1 : (List (Int × (Int × (Int × (List Int)))))) : Nat → Int → (Option Bool) → Option Bool
  | 0, _, _ => none
  | n + 1, v0_5, k =>
    bif (decide (v0_5 < (Nat.cast (List.length a0) : Int))) then bif ((decide ((0 : Int) ≤ v0_5)) && (decide (v0_5 < (Nat.cast (List.length a0) : Int)))) then bif ((decide ((0 : Int) ≤ v0_5)) && (decide (v0_5 < (Nat.cast (List.length a1) : Int)))) then tst (m122 (((List.getD a0 (Int.toNat v0_5) ((0 : Int), ((0 : Int), ((0 : Int), ([] : List (Int)))))).1, ((List.getD a0 (Int.toNat v0_5) ((0 : Int), ((0 : Int), ((0 : Int), ([] : List (Int)))))).2.1, ((List.getD a0 (Int.toNat v0_5) ((0 : Int), ((0 : Int), ((0 : Int), ([] : List (Int)))))).2.2.1, (List.getD a0 (Int.toNat v0_5) ((0 : Int), ((0 : Int), ((0 : Int), ([] : List (Int)))))).2.2.2))), ((List.getD a1 (Int.toNat v0_5) ((0 : Int), ((0 : Int), ((0 : Int), ([] : List (Int)))))).1, ((List.getD a1 (Int.toNat v0_5) ((0 : Int), ((0 : Int), ((0 : Int), ([] : List (Int)))))).2.1, ((List.getD a1 (Int.toNat v0_5) ((0 : Int), ((0 : Int), ((0 : Int), ([] : List (Int)))))).2.2.1, (List.getD a1 (Int.toNat v0_5) ((0 : Int), ((0 : Int), ((0 : Int), ([] : List (Int)))))).2.2.2))))) false fun (q5 : Bool) => bif (!q5) then some Bool.false
            else l77_0 m122 L a0 a1 n (Go.IntKind.wrap Go.IntKind.i64 (v0_5 + (1 : Int))) k
        else none
      else none
    else k
theorem h77_0 (m122 : ((Int × Int × Int × (List Int)) × (Int × Int × Int × (List Int))) → Option Bool) (L : Nat) (a0 : (List (Int × (Int × (Int × (List Int)))))) (a1 : (List (Int × (Int × (Int × (List Int)))))) (k : St cxT.ty → Option (V cxT.ty)) (xk : Nat → St cxT.ty → Option (V cxT.ty)) (k' : Option Bool) (hk : k (X77_0 a0 a1) = (k').map n77) : ∀ (n : Nat) (v0_5 : Int), headF prog (ev77 m122) L f77 0 [1, 1, 0, 1, 0, 0] (outK (outV prog f77) k xk) n (S77_0 a0 a1 v0_5) = (l77_0 m122 L a0 a1 n v0_5 k').map n77
  | 0, _ => rfl
  | n + 1, v0_5 => by
    rw [headF_round, r77_0]
    have ih := h77_0 m122 L a0 a1 k xk k' hk n
    simp only [l77_0, map_bif, map_tst, map_bnd, Option.map_some, Option.map_none, ih, hk]
def g77 (m122 : ((Int × Int × Int × (List Int)) × (Int × Int × Int × (List Int))) → Option Bool) (L : Nat) (a0 : (List (Int × (Int × (Int × (List Int)))))) (a1 : (List (Int × (Int × (Int × (List Int)))))) : Option Bool :=
  bif ((Nat.cast (List.length a0) : Int) != (Nat.cast (List.length a1) : Int)) then some Bool.false
  else l77_0 m122 L a0 a1 L (0 : Int) (some Bool.true)
theorem e77 (m122 : ((Int × Int × Int × (List Int)) × (Int × Int × Int × (List Int))) → Option Bool) (L : Nat) (a0 : (List (Int × (Int × (Int × (List Int)))))) (a1 : (List (Int × (Int × (Int × (List Int)))))) : evF prog (ev77 m122) (loopN L) f77 (a77.enc (a0, a1)) = (g77 m122 L a0 a1).map n77 := by
  let K'0 : Option Bool := (some Bool.true)
  have hin0 : ∀ (v0_5 : Int), headF prog (ev77 m122) L f77 0 [1, 1, 0, 1, 0, 0] (outK (outV prog f77) (topK prog (ev77 m122) L f77 [1, 1, 0, 1] (outV prog f77)).n (topK prog (ev77 m122) L f77 [1, 1, 0, 1] (outV prog f77)).x) L (S77_0 a0 a1 v0_5) = (l77_0 m122 L a0 a1 L v0_5 K'0).map n77 := fun v0_5 => h77_0 m122 L a0 a1 _ _ K'0 (by rw [t77_0]; simp only [K'0, map_bif, map_tst, map_bnd, Option.map_some, Option.map_none]) L v0_5
  rw [i77]; simp only [g77, map_bif, map_tst, map_bnd, Option.map_some, Option.map_none, hin0, K'0]
theorem s77 (m122 : ((Int × Int × Int × (List Int)) × (Int × Int × Int × (List Int))) → Option Bool) (h122 : Sat prog cxT 122 (c122 m122)) (m : ((List (Int × (Int × (Int × (List Int))))) × (List (Int × (Int × (Int × (List Int)))))) → Option Bool) (hm : ∀ (x : ((List (Int × (Int × (Int × (List Int))))) × (List (Int × (Int × (Int × (List Int))))))) t, m x = some t → ∃ L, g77 m122 L x.1 x.2 = some t) : Sat prog cxT 77 (c77 m) :=
  sat_t cxT_ok cxT_pok (by rfl) (fn := f77) rfl a77 n77 dd77 m (ev77 m122) (kok_cons h122 kok_nil) kwok_nil (fun L x => g77 m122 L x.1 x.2) (fun L x => e77 m122 L x.1 x.2) hm hs77
/-! loop.example/g00222/laws.eqConfig -/
def ev31 (m76 : ((List (Int × (Int × (Int × (Int × Bool))))) × (List (Int × (Int × (Int × (Int × Bool)))))) → Option Bool) (m77 : ((List (Int × (Int × (Int × (List Int))))) × (List (Int × (Int × (Int × (List Int)))))) → Option Bool) : Env cxT := { Kc := kcOf [(76, c76 m76), (77, c77 m77)], Kw := kwOf [], lv := fun i => [], xv := fun i => none }
theorem i31 (m76 : ((List (Int × (Int × (Int × (Int × Bool))))) × (List (Int × (Int × (Int × (Int × Bool)))))) → Option Bool) (m77 : ((List (Int × (Int × (Int × (List Int))))) × (List (Int × (Int × (Int × (List Int)))))) → Option Bool) (L : Nat) (a0_0 : Int) (a0_1 : (List (Int × (Int × (Int × (Int × Bool)))))) (a0_2 : (List (Int × (Int × (Int × (List Int)))))) (a1_0 : Int) (a1_1 : (List (Int × (Int × (Int × (Int × Bool)))))) (a1_2 : (List (Int × (Int × (Int × (List Int)))))) : evF prog (ev31 m76 m77) (loopN L) f31 (a31.enc ((a0_0, a0_1, a0_2), (a1_0, a1_1, a1_2))) =
  bif (a0_0 != a1_0) then some (n31 Bool.false)
  else tst (m76 (a0_1, a1_1)) false fun (q1 : Bool) => bif (!q1) then some (n31 Bool.false)
    else tst (m77 (a0_2, a1_2)) false fun (q2 : Bool) => bif (!q2) then some (n31 Bool.false)
      else some (n31 Bool.true) := by kernel_rfl
def g31 (m76 : ((List (Int × (Int × (Int × (Int × Bool))))) × (List (Int × (Int × (Int × (Int × Bool)))))) → Option Bool) (m77 : ((List (Int × (Int × (Int × (List Int))))) × (List (Int × (Int × (Int × (List Int)))))) → Option Bool) (L : Nat) (a0_0 : Int) (a0_1 : (List (Int × (Int × (Int × (Int × Bool)))))) (a0_2 : (List (Int × (Int × (Int × (List Int)))))) (a1_0 : Int) (a1_1 : (List (Int × (Int × (Int × (Int × Bool)))))) (a1_2 : (List (Int × (Int × (Int × (List Int)))))) : Option Bool :=
  bif (a0_0 != a1_0) then some Bool.false
  else tst (m76 (a0_1, a1_1)) false fun (q1 : Bool) => bif (!q1) then some Bool.false
    else tst (m77 (a0_2, a1_2)) false fun (q2 : Bool) => bif (!q2) then some Bool.false
      else some Bool.true
theorem e31 (m76 : ((List (Int × (Int × (Int × (Int × Bool))))) × (List (Int × (Int × (Int × (Int × Bool)))))) → Option Bool) (m77 : ((List (Int × (Int × (Int × (List Int))))) × (List (Int × (Int × (Int × (List Int)))))) → Option Bool) (L : Nat) (a0_0 : Int) (a0_1 : (List (Int × (Int × (Int × (Int × Bool)))))) (a0_2 : (List (Int × (Int × (Int × (List Int)))))) (a1_0 : Int) (a1_1 : (List (Int × (Int × (Int × (Int × Bool)))))) (a1_2 : (List (Int × (Int × (Int × (List Int)))))) : evF prog (ev31 m76 m77) (loopN L) f31 (a31.enc ((a0_0, a0_1, a0_2), (a1_0, a1_1, a1_2))) = (g31 m76 m77 L a0_0 a0_1 a0_2 a1_0 a1_1 a1_2).map n31 := by
  rw [i31]; simp only [g31, map_bif, map_tst, map_bnd, Option.map_some, Option.map_none]
theorem s31 (m76 : ((List (Int × (Int × (Int × (Int × Bool))))) × (List (Int × (Int × (Int × (Int × Bool)))))) → Option Bool) (m77 : ((List (Int × (Int × (Int × (List Int))))) × (List (Int × (Int × (Int × (List Int)))))) → Option Bool) (h76 : Sat prog cxT 76 (c76 m76)) (h77 : Sat prog cxT 77 (c77 m77)) (m : ((Int × (List (Int × (Int × (Int × (Int × Bool))))) × (List (Int × (Int × (Int × (List Int)))))) × (Int × (List (Int × (Int × (Int × (Int × Bool))))) × (List (Int × (Int × (Int × (List Int))))))) → Option Bool) (hm : ∀ (x : ((Int × (List (Int × (Int × (Int × (Int × Bool))))) × (List (Int × (Int × (Int × (List Int)))))) × (Int × (List (Int × (Int × (Int × (Int × Bool))))) × (List (Int × (Int × (Int × (List Int)))))))) t, m x = some t → ∃ L, g31 m76 m77 L x.1.1 x.1.2.1 x.1.2.2 x.2.1 x.2.2.1 x.2.2.2 = some t) : Sat prog cxT 31 (c31 m) :=
  sat_t cxT_ok cxT_pok (by rfl) (fn := f31) rfl a31 n31 dd31 m (ev31 m76 m77) (kok_cons h76 (kok_cons h77 kok_nil)) kwok_nil (fun L x => g31 m76 m77 L x.1.1 x.1.2.1 x.1.2.2 x.2.1 x.2.2.1 x.2.2.2) (fun L x => e31 m76 m77 L x.1.1 x.1.2.1 x.1.2.2 x.2.1 x.2.2.1 x.2.2.2) hm hs31
/-! loop.example/g00222/laws.toByteS -/
/-! loop.example/g00222/laws.eqByteS -/
def ev26 : Env cxT := { Kc := kcOf [], Kw := kwOf [], lv := fun i => if i = 0 then [(0, [some 5]), (1, [some 5]), (5, [])] else [], xv := fun i => if i = 0 then some [] else none }
def S26_0 (a0 : (List Int)) (a1 : (List Int)) (v0_5 : Int) : St cxT.ty := { slots := [(.inl (.inl (ls { own := 0, nm := 0, e := 5, o := false, xs := a0 }))), (.inl (.inl (ls { own := 0, nm := 0, e := 5, o := false, xs := a1 }))), junk, junk, junk, (.inl (.inl (lv (.int .i64 v0_5))))] ++ List.replicate 20 junk, D := [], F := [], ctr := 1 }
def X26_0 (a0 : (List Int)) (a1 : (List Int)) : St cxT.ty := { slots := [] ++ List.replicate 26 junk, D := [], F := [], ctr := 1 }
theorem i26 (L : Nat) (a0 : (List Int)) (a1 : (List Int)) : evF prog ev26 (loopN L) f26 (a26.enc (a0, a1)) =
  bif ((Nat.cast (List.length a0) : Int) != (Nat.cast (List.length a1) : Int)) then some (n26 Bool.false)
  else headF prog ev26 L f26 0 [1, 1, 0, 1, 0, 0] (outK (outV prog f26) (topK prog ev26 L f26 [1, 1, 0, 1] (outV prog f26)).n (topK prog ev26 L f26 [1, 1, 0, 1] (outV prog f26)).x) L (S26_0 a0 a1 (0 : Int)) := by kernel_rfl
theorem r26_0 (L : Nat) (a0 : (List Int)) (a1 : (List Int)) (k : St cxT.ty → Option (V cxT.ty)) (xk : Nat → St cxT.ty → Option (V cxT.ty)) (g : St cxT.ty → Option (V cxT.ty)) (v0_5 : Int) : roundF prog ev26 L f26 0 [1, 1, 0, 1, 0, 0] (outK (outV prog f26) k xk) g (S26_0 a0 a1 v0_5) =
  bif (decide (v0_5 < (Nat.cast (List.length a0) : Int))) then bif ((decide ((0 : Int) ≤ v0_5)) && (decide (v0_5 < (Nat.cast (List.length a0) : Int)))) then bif ((decide ((0 : Int) ≤ v0_5)) && (decide (v0_5 < (Nat.cast (List.length a1) : Int)))) then bif ((List.getD a0 (Int.toNat v0_5) (0 : Int)) != (List.getD a1 (Int.toNat v0_5) (0 : Int))) then some (n26 Bool.false)
        else g (S26_0 a0 a1 (Go.IntKind.wrap Go.IntKind.i64 (v0_5 + (1 : Int))))
      else none
    else none
  else k (X26_0 a0 a1) := by kernel_rfl
theorem t26_0 (L : Nat) (a0 : (List Int)) (a1 : (List Int)) : (topK prog ev26 L f26 [1, 1, 0, 1] (outV prog f26)).n (X26_0 a0 a1) =
  some (n26 Bool.true) := by kernel_rfl
def l26_0 (L : Nat) (a0 : (List Int)) (a1 : (List Int)) : Nat → Int → (Option Bool) → Option Bool
  | 0, _, _ => none
  | n + 1, v0_5, k =>
    bif (decide (v0_5 < (Nat.cast (List.length a0) : Int))) then bif ((decide ((0 : Int) ≤ v0_5)) && (decide (v0_5 < (Nat.cast (List.length a0) : Int)))) then bif ((decide ((0 : Int) ≤ v0_5)) && (decide (v0_5 < (Nat.cast (List.length a1) : Int)))) then bif ((List.getD a0 (Int.toNat v0_5) (0 : Int)) != (List.getD a1 (Int.toNat v0_5) (0 : Int))) then some Bool.false
          else l26_0 L a0 a1 n (Go.IntKind.wrap Go.IntKind.i64 (v0_5 + (1 : Int))) k
        else none
      else none
    else k
theorem h26_0 (L : Nat) (a0 : (List Int)) (a1 : (List Int)) (k : St cxT.ty → Option (V cxT.ty)) (xk : Nat → St cxT.ty → Option (V cxT.ty)) (k' : Option Bool) (hk : k (X26_0 a0 a1) = (k').map n26) : ∀ (n : Nat) (v0_5 : Int), headF prog ev26 L f26 0 [1, 1, 0, 1, 0, 0] (outK (outV prog f26) k xk) n (S26_0 a0 a1 v0_5) = (l26_0 L a0 a1 n v0_5 k').map n26
  | 0, _ => rfl
  | n + 1, v0_5 => by
    rw [headF_round, r26_0]
    have ih := h26_0 L a0 a1 k xk k' hk n
    simp only [l26_0, map_bif, map_tst, map_bnd, Option.map_some, Option.map_none, ih, hk]
def g26 (L : Nat) (a0 : (List Int)) (a1 : (List Int)) : Option Bool :=
  bif ((Nat.cast (List.length a0) : Int) != (Nat.cast (List.length a1) : Int)) then some Bool.false
  else l26_0 L a0 a1 L (0 : Int) (some Bool.true)
theorem e26 (L : Nat) (a0 : (List Int)) (a1 : (List Int)) : evF prog ev26 (loopN L) f26 (a26.enc (a0, a1)) = (g26 L a0 a1).map n26 := by
  let K'0 : Option Bool := (some Bool.true)
  have hin0 : ∀ (v0_5 : Int), headF prog ev26 L f26 0 [1, 1, 0, 1, 0, 0] (outK (outV prog f26) (topK prog ev26 L f26 [1, 1, 0, 1] (outV prog f26)).n (topK prog ev26 L f26 [1, 1, 0, 1] (outV prog f26)).x) L (S26_0 a0 a1 v0_5) = (l26_0 L a0 a1 L v0_5 K'0).map n26 := fun v0_5 => h26_0 L a0 a1 _ _ K'0 (by rw [t26_0]; simp only [K'0, map_bif, map_tst, map_bnd, Option.map_some, Option.map_none]) L v0_5
  rw [i26]; simp only [g26, map_bif, map_tst, map_bnd, Option.map_some, Option.map_none, hin0, K'0]
theorem s26 (m : ((List Int) × (List Int)) → Option Bool) (hm : ∀ (x : ((List Int) × (List Int))) t, m x = some t → ∃ L, g26 L x.1 x.2 = some t) : Sat prog cxT 26 (c26 m) :=
  sat_t cxT_ok cxT_pok (by rfl) (fn := f26) rfl a26 n26 dd26 m ev26 kok_nil kwok_nil (fun L x => g26 L x.1 x.2) (fun L x => e26 L x.1 x.2) hm hs26
/-! loop.example/g00222/laws.eqBytesResult -/
def ev19 (m26 : ((List Int) × (List Int)) → Option Bool) : Env cxT := { Kc := kcOf [(26, c26 m26)], Kw := kwOf [], lv := fun i => [], xv := fun i => none }
theorem i19 (m26 : ((List Int) × (List Int)) → Option Bool) (L : Nat) (a0_0 : Int) (a0_1 : (List Int)) (a1_0 : Int) (a1_1 : (List Int)) : evF prog (ev19 m26) (loopN L) f19 (a19.enc ((a0_0, a0_1), (a1_0, a1_1))) =
  bif (a0_0 != a1_0) then some (n19 Bool.false)
  else tst (m26 (a0_1, a1_1)) false fun (q1 : Bool) => bif (!q1) then some (n19 Bool.false)
    else some (n19 Bool.true) := by kernel_rfl
def g19 (m26 : ((List Int) × (List Int)) → Option Bool) (L : Nat) (a0_0 : Int) (a0_1 : (List Int)) (a1_0 : Int) (a1_1 : (List Int)) : Option Bool :=
  bif (a0_0 != a1_0) then some Bool.false
  else tst (m26 (a0_1, a1_1)) false fun (q1 : Bool) => bif (!q1) then some Bool.false
    else some Bool.true
theorem e19 (m26 : ((List Int) × (List Int)) → Option Bool) (L : Nat) (a0_0 : Int) (a0_1 : (List Int)) (a1_0 : Int) (a1_1 : (List Int)) : evF prog (ev19 m26) (loopN L) f19 (a19.enc ((a0_0, a0_1), (a1_0, a1_1))) = (g19 m26 L a0_0 a0_1 a1_0 a1_1).map n19 := by
  rw [i19]; simp only [g19, map_bif, map_tst, map_bnd, Option.map_some, Option.map_none]
theorem s19 (m26 : ((List Int) × (List Int)) → Option Bool) (h26 : Sat prog cxT 26 (c26 m26)) (m : ((Int × (List Int)) × (Int × (List Int))) → Option Bool) (hm : ∀ (x : ((Int × (List Int)) × (Int × (List Int)))) t, m x = some t → ∃ L, g19 m26 L x.1.1 x.1.2 x.2.1 x.2.2 = some t) : Sat prog cxT 19 (c19 m) :=
  sat_t cxT_ok cxT_pok (by rfl) (fn := f19) rfl a19 n19 dd19 m (ev19 m26) (kok_cons h26 kok_nil) kwok_nil (fun L x => g19 m26 L x.1.1 x.1.2 x.2.1 x.2.2) (fun L x => e19 m26 L x.1.1 x.1.2 x.2.1 x.2.2) hm hs19
/-! loop.example/g00222/laws.markByteS -/
def ev36 : Env cxT := { Kc := kcOf [], Kw := kwOf [], lv := fun i => if i = 0 then [(0, [some 5]), (1, []), (5, [])] else [], xv := fun i => if i = 0 then some [(0, [some 5]), (1, [])] else none }
def S36_0 (a0 : (List Int)) (a1 : Int) (v0_0 : (List Int)) (v0_1 : Int) (v0_5 : Int) : St cxT.ty := { slots := [(.inl (.inl (ls { own := 1, nm := 0, e := 5, o := true, xs := v0_0 }))), (.inl (.inl (lv (.int .i64 v0_1)))), junk, junk, junk, (.inl (.inl (lv (.int .i64 v0_5))))] ++ List.replicate 14 junk, D := [], F := [], ctr := 1, lo := 1 }
def X36_0 (a0 : (List Int)) (a1 : Int) (w0_0 : (List Int)) (w0_1 : Int) : St cxT.ty := { slots := [(.inl (.inl (ls { own := 1, nm := 0, e := 5, o := true, xs := w0_0 }))), (.inl (.inl (lv (.int .i64 w0_1))))] ++ List.replicate 18 junk, D := [], F := [], ctr := 1, lo := 1 }
theorem i36 (L : Nat) (a0 : (List Int)) (a1 : Int) : evFW prog ev36 (loopN L) f36 1 (a36.enc (a0, a1)) =
  headF prog ev36 L f36 0 [1, 0, 1, 0, 0] (outK (outW prog f36 1) (topK prog ev36 L f36 [1, 0, 1] (outW prog f36 1)).n (topK prog ev36 L f36 [1, 0, 1] (outW prog f36 1)).x) L (S36_0 a0 a1 a0 a1 (0 : Int)) := by kernel_rfl
theorem r36_0 (L : Nat) (a0 : (List Int)) (a1 : Int) (k : St cxT.ty → Option (List (A cxT.ty))) (xk : Nat → St cxT.ty → Option (List (A cxT.ty))) (g : St cxT.ty → Option (List (A cxT.ty))) (v0_0 : (List Int)) (v0_1 : Int) (v0_5 : Int) : roundF prog ev36 L f36 0 [1, 0, 1, 0, 0] (outK (outW prog f36 1) k xk) g (S36_0 a0 a1 v0_0 v0_1 v0_5) =
  bif (decide (v0_5 < (Nat.cast (List.length v0_0) : Int))) then bif ((decide ((0 : Int) ≤ v0_5)) && (decide (v0_5 < (Nat.cast (List.length v0_0) : Int)))) then g (S36_0 a0 a1 (List.set v0_0 (Int.toNat v0_5) (Go.IntKind.wrap Go.IntKind.u8 v0_1)) (Go.IntKind.wrap Go.IntKind.i64 (v0_1 + (1 : Int))) (Go.IntKind.wrap Go.IntKind.i64 (v0_5 + (1 : Int))))
    else none
  else k (X36_0 a0 a1 v0_0 v0_1) := by kernel_rfl
theorem t36_0 (L : Nat) (a0 : (List Int)) (a1 : Int) (w0_0 : (List Int)) (w0_1 : Int) : (topK prog ev36 L f36 [1, 0, 1] (outW prog f36 1)).n (X36_0 a0 a1 w0_0 w0_1) =
  some (n36 (w0_1, w0_0)) := by kernel_rfl
def l36_0 (L : Nat) (a0 : (List Int)) (a1 : Int) : Nat → (List Int) → Int → Int → ((List Int) → Int → Option (Int × (List Int))) → Option (Int × (List Int))
  | 0, _, _, _, _ => none
  | n + 1, v0_0, v0_1, v0_5, k =>
    bif (decide (v0_5 < (Nat.cast (List.length v0_0) : Int))) then bif ((decide ((0 : Int) ≤ v0_5)) && (decide (v0_5 < (Nat.cast (List.length v0_0) : Int)))) then l36_0 L a0 a1 n (List.set v0_0 (Int.toNat v0_5) (Go.IntKind.wrap Go.IntKind.u8 v0_1)) (Go.IntKind.wrap Go.IntKind.i64 (v0_1 + (1 : Int))) (Go.IntKind.wrap Go.IntKind.i64 (v0_5 + (1 : Int))) k
      else none
    else k v0_0 v0_1
theorem h36_0 (L : Nat) (a0 : (List Int)) (a1 : Int) (k : St cxT.ty → Option (List (A cxT.ty))) (xk : Nat → St cxT.ty → Option (List (A cxT.ty))) (k' : (List Int) → Int → Option (Int × (List Int))) (hk : ∀ (w0_0 : (List Int)) (w0_1 : Int), k (X36_0 a0 a1 w0_0 w0_1) = (k' w0_0 w0_1).map n36) : ∀ (n : Nat) (v0_0 : (List Int)) (v0_1 : Int) (v0_5 : Int), headF prog ev36 L f36 0 [1, 0, 1, 0, 0] (outK (outW prog f36 1) k xk) n (S36_0 a0 a1 v0_0 v0_1 v0_5) = (l36_0 L a0 a1 n v0_0 v0_1 v0_5 k').map n36
  | 0, _, _, _ => rfl
  | n + 1, v0_0, v0_1, v0_5 => by
    rw [headF_round, r36_0]
    have ih := h36_0 L a0 a1 k xk k' hk n
    simp only [l36_0, map_bif, map_tst, map_bnd, Option.map_some, Option.map_none, ih, hk]
def g36 (L : Nat) (a0 : (List Int)) (a1 : Int) : Option (Int × (List Int)) :=
  l36_0 L a0 a1 L a0 a1 (0 : Int) (fun (w0_0 : (List Int)) (w0_1 : Int) => some (w0_1, w0_0))
theorem e36 (L : Nat) (a0 : (List Int)) (a1 : Int) : evFW prog ev36 (loopN L) f36 1 (a36.enc (a0, a1)) = (g36 L a0 a1).map n36 := by
  let K'0 : (List Int) → Int → Option (Int × (List Int)) := (fun (w0_0 : (List Int)) (w0_1 : Int) => some (w0_1, w0_0))
  have hin0 : ∀ (v0_0 : (List Int)) (v0_1 : Int) (v0_5 : Int), headF prog ev36 L f36 0 [1, 0, 1, 0, 0] (outK (outW prog f36 1) (topK prog ev36 L f36 [1, 0, 1] (outW prog f36 1)).n (topK prog ev36 L f36 [1, 0, 1] (outW prog f36 1)).x) L (S36_0 a0 a1 v0_0 v0_1 v0_5) = (l36_0 L a0 a1 L v0_0 v0_1 v0_5 K'0).map n36 := fun v0_0 v0_1 v0_5 => h36_0 L a0 a1 _ _ K'0 (fun w0_0 w0_1 => by rw [t36_0]; simp only [K'0, map_bif, map_tst, map_bnd, Option.map_some, Option.map_none]) L v0_0 v0_1 v0_5
  rw [i36]; simp only [g36, map_bif, map_tst, map_bnd, Option.map_some, Option.map_none, hin0, K'0]
theorem s36 (m : ((List Int) × Int) → Option (Int × (List Int))) (hm : ∀ (x : ((List Int) × Int)) t, m x = some t → ∃ L, g36 L x.1 x.2 = some t) : SatW prog cxT 36 (c36 m).nres (c36 m).n (c36 m).F :=
  sat_w cxT_ok cxT_pok (by rfl) (fn := f36) rfl rfl a36 n36 dd36 m ev36 kok_nil kwok_nil (fun L x => g36 L x.1 x.2) (fun L x => e36 L x.1 x.2) hm hs36
/-! loop.example/g00222/laws.markBytesResult -/
def ev20 (m36 : ((List Int) × Int) → Option (Int × (List Int))) : Env cxT := { Kc := kcOf [], Kw := kwOf [(36, c36 m36)], lv := fun i => [], xv := fun i => none }
theorem i20 (m36 : ((List Int) × Int) → Option (Int × (List Int))) (L : Nat) (a0_0 : Int) (a0_1 : (List Int)) (a1 : Int) : evFW prog (ev20 m36) (loopN L) f20 1 (a20.enc ((a0_0, a0_1), a1)) =
  tst (m36 (a0_1, a1)) ((0 : Int), []) fun (q1 : (Int × (List Int))) => some (n20 (q1.1, a0_0, q1.2)) := by kernel_rfl
def g20 (m36 : ((List Int) × Int) → Option (Int × (List Int))) (L : Nat) (a0_0 : Int) (a0_1 : (List Int)) (a1 : Int) : Option (Int × Int × (List Int)) :=
  tst (m36 (a0_1, a1)) ((0 : Int), []) fun (q1 : (Int × (List Int))) => some (q1.1, a0_0, q1.2)
theorem e20 (m36 : ((List Int) × Int) → Option (Int × (List Int))) (L : Nat) (a0_0 : Int) (a0_1 : (List Int)) (a1 : Int) : evFW prog (ev20 m36) (loopN L) f20 1 (a20.enc ((a0_0, a0_1), a1)) = (g20 m36 L a0_0 a0_1 a1).map n20 := by
  rw [i20]; simp only [g20, map_bif, map_tst, map_bnd, Option.map_some, Option.map_none]
theorem s20 (m36 : ((List Int) × Int) → Option (Int × (List Int))) (h36 : SatW prog cxT 36 (c36 m36).nres (c36 m36).n (c36 m36).F) (m : ((Int × (List Int)) × Int) → Option (Int × Int × (List Int))) (hm : ∀ (x : ((Int × (List Int)) × Int)) t, m x = some t → ∃ L, g20 m36 L x.1.1 x.1.2 x.2 = some t) : SatW prog cxT 20 (c20 m).nres (c20 m).n (c20 m).F :=
  sat_w cxT_ok cxT_pok (by rfl) (fn := f20) rfl rfl a20 n20 dd20 m (ev20 m36) kok_nil (kwok_cons h36 kwok_nil) (fun L x => g20 m36 L x.1.1 x.1.2 x.2) (fun L x => e20 m36 L x.1.1 x.1.2 x.2) hm hs20
/-! loop.example/g00222/laws.heldByteS -/
def ev62 : Env cxT := { Kc := kcOf [], Kw := kwOf [], lv := fun i => if i = 0 then [(0, [some 5]), (1, []), (5, [])] else [], xv := fun i => if i = 0 then some [(1, [])] else none }
def S62_0 (a0 : (List Int)) (a1 : Int) (v0_1 : Int) (v0_5 : Int) : St cxT.ty := { slots := [(.inl (.inl (ls { own := 0, nm := 0, e := 5, o := false, xs := a0 }))), (.inl (.inl (lv (.int .i64 v0_1)))), junk, junk, junk, (.inl (.inl (lv (.int .i64 v0_5))))] ++ List.replicate 16 junk, D := [], F := [], ctr := 1 }
def X62_0 (a0 : (List Int)) (a1 : Int) (w0_1 : Int) : St cxT.ty := { slots := [junk, (.inl (.inl (lv (.int .i64 w0_1))))] ++ List.replicate 20 junk, D := [], F := [], ctr := 1 }
theorem i62 (L : Nat) (a0 : (List Int)) (a1 : Int) : evF prog ev62 (loopN L) f62 (a62.enc (a0, a1)) =
  headF prog ev62 L f62 0 [1, 0, 1, 0, 0] (outK (outV prog f62) (topK prog ev62 L f62 [1, 0, 1] (outV prog f62)).n (topK prog ev62 L f62 [1, 0, 1] (outV prog f62)).x) L (S62_0 a0 a1 a1 (0 : Int)) := by kernel_rfl
theorem r62_0 (L : Nat) (a0 : (List Int)) (a1 : Int) (k : St cxT.ty → Option (V cxT.ty)) (xk : Nat → St cxT.ty → Option (V cxT.ty)) (g : St cxT.ty → Option (V cxT.ty)) (v0_1 : Int) (v0_5 : Int) : roundF prog ev62 L f62 0 [1, 0, 1, 0, 0] (outK (outV prog f62) k xk) g (S62_0 a0 a1 v0_1 v0_5) =
  bif (decide (v0_5 < (Nat.cast (List.length a0) : Int))) then bif ((decide ((0 : Int) ≤ v0_5)) && (decide (v0_5 < (Nat.cast (List.length a0) : Int)))) then bif ((List.getD a0 (Int.toNat v0_5) (0 : Int)) != (Go.IntKind.wrap Go.IntKind.u8 v0_1)) then some (n62 (-(1 : Int)))
      else g (S62_0 a0 a1 (Go.IntKind.wrap Go.IntKind.i64 (v0_1 + (1 : Int))) (Go.IntKind.wrap Go.IntKind.i64 (v0_5 + (1 : Int))))
    else none
  else k (X62_0 a0 a1 v0_1) := by kernel_rfl
theorem t62_0 (L : Nat) (a0 : (List Int)) (a1 : Int) (w0_1 : Int) : (topK prog ev62 L f62 [1, 0, 1] (outV prog f62)).n (X62_0 a0 a1 w0_1) =
  some (n62 w0_1) := by kernel_rfl
def l62_0 (L : Nat) (a0 : (List Int)) (a1 : Int) : Nat → Int → Int → (Int → Option Int) → Option Int
  | 0, _, _, _ => none
  | n + 1, v0_1, v0_5, k =>
    bif (decide (v0_5 < (Nat.cast (List.length a0) : Int))) then bif ((decide ((0 : Int) ≤ v0_5)) && (decide (v0_5 < (Nat.cast (List.length a0) : Int)))) then bif ((List.getD a0 (Int.toNat v0_5) (0 : Int)) != (Go.IntKind.wrap Go.IntKind.u8 v0_1)) then some (-(1 : Int))
        else l62_0 L a0 a1 n (Go.IntKind.wrap Go.IntKind.i64 (v0_1 + (1 : Int))) (Go.IntKind.wrap Go.IntKind.i64 (v0_5 + (1 : Int))) k
      else none
    else k v0_1
theorem h62_0 (L : Nat) (a0 : (List Int)) (a1 : Int) (k : St cxT.ty → Option (V cxT.ty)) (xk : Nat → St cxT.ty → Option (V cxT.ty)) (k' : Int → Option Int) (hk : ∀ (w0_1 : Int), k (X62_0 a0 a1 w0_1) = (k' w0_1).map n62) : ∀ (n : Nat) (v0_1 : Int) (v0_5 : Int), headF prog ev62 L f62 0 [1, 0, 1, 0, 0] (outK (outV prog f62) k xk) n (S62_0 a0 a1 v0_1 v0_5) = (l62_0 L a0 a1 n v0_1 v0_5 k').map n62
  | 0, _, _ => rfl
  | n + 1, v0_1, v0_5 => by
    rw [headF_round, r62_0]
    have ih := h62_0 L a0 a1 k xk k' hk n
    simp only [l62_0, map_bif, map_tst, map_bnd, Option.map_some, Option.map_none, ih, hk]
def g62 (L : Nat) (a0 : (List Int)) (a1 : Int) : Option Int :=
  l62_0 L a0 a1 L a1 (0 : Int) (fun (w0_1 : Int) => some w0_1)
theorem e62 (L : Nat) (a0 : (List Int)) (a1 : Int) : evF prog ev62 (loopN L) f62 (a62.enc (a0, a1)) = (g62 L a0 a1).map n62 := by
  let K'0 : Int → Option Int := (fun (w0_1 : Int) => some w0_1)
  have hin0 : ∀ (v0_1 : Int) (v0_5 : Int), headF prog ev62 L f62 0 [1, 0, 1, 0, 0] (outK (outV prog f62) (topK prog ev62 L f62 [1, 0, 1] (outV prog f62)).n (topK prog ev62 L f62 [1, 0, 1] (outV prog f62)).x) L (S62_0 a0 a1 v0_1 v0_5) = (l62_0 L a0 a1 L v0_1 v0_5 K'0).map n62 := fun v0_1 v0_5 => h62_0 L a0 a1 _ _ K'0 (fun w0_1 => by rw [t62_0]; simp only [K'0, map_bif, map_tst, map_bnd, Option.map_some, Option.map_none]) L v0_1 v0_5
  rw [i62]; simp only [g62, map_bif, map_tst, map_bnd, Option.map_some, Option.map_none, hin0, K'0]
theorem s62 (m : ((List Int) × Int) → Option Int) (hm : ∀ (x : ((List Int) × Int)) t, m x = some t → ∃ L, g62 L x.1 x.2 = some t) : Sat prog cxT 62 (c62 m) :=
  sat_t cxT_ok cxT_pok (by rfl) (fn := f62) rfl a62 n62 dd62 m ev62 kok_nil kwok_nil (fun L x => g62 L x.1 x.2) (fun L x => e62 L x.1 x.2) hm hs62
/-! loop.example/g00222/laws.heldBytesResult -/
def ev21 (m62 : ((List Int) × Int) → Option Int) : Env cxT := { Kc := kcOf [(62, c62 m62)], Kw := kwOf [], lv := fun i => [], xv := fun i => none }
theorem i21 (m62 : ((List Int) × Int) → Option Int) (L : Nat) (a0_0 : Int) (a0_1 : (List Int)) (a1 : Int) : evF prog (ev21 m62) (loopN L) f21 (a21.enc ((a0_0, a0_1), a1)) =
  tst (m62 (a0_1, a1)) (0 : Int) fun (q1 : Int) => bif (decide (q1 < (0 : Int))) then some (n21 (-(1 : Int)))
    else some (n21 q1) := by kernel_rfl
def g21 (m62 : ((List Int) × Int) → Option Int) (L : Nat) (a0_0 : Int) (a0_1 : (List Int)) (a1 : Int) : Option Int :=
  tst (m62 (a0_1, a1)) (0 : Int) fun (q1 : Int) => bif (decide (q1 < (0 : Int))) then some (-(1 : Int))
    else some q1
theorem e21 (m62 : ((List Int) × Int) → Option Int) (L : Nat) (a0_0 : Int) (a0_1 : (List Int)) (a1 : Int) : evF prog (ev21 m62) (loopN L) f21 (a21.enc ((a0_0, a0_1), a1)) = (g21 m62 L a0_0 a0_1 a1).map n21 := by
  rw [i21]; simp only [g21, map_bif, map_tst, map_bnd, Option.map_some, Option.map_none]
theorem s21 (m62 : ((List Int) × Int) → Option Int) (h62 : Sat prog cxT 62 (c62 m62)) (m : ((Int × (List Int)) × Int) → Option Int) (hm : ∀ (x : ((Int × (List Int)) × Int)) t, m x = some t → ∃ L, g21 m62 L x.1.1 x.1.2 x.2 = some t) : Sat prog cxT 21 (c21 m) :=
  sat_t cxT_ok cxT_pok (by rfl) (fn := f21) rfl a21 n21 dd21 m (ev21 m62) (kok_cons h62 kok_nil) kwok_nil (fun L x => g21 m62 L x.1.1 x.1.2 x.2) (fun L x => e21 m62 L x.1.1 x.1.2 x.2) hm hs21
/-! loop.example/g00222/laws.markInt64S -/
def ev84 : Env cxT := { Kc := kcOf [], Kw := kwOf [], lv := fun i => if i = 0 then [(0, [some 2]), (1, []), (5, [])] else [], xv := fun i => if i = 0 then some [(0, [some 2]), (1, [])] else none }
def S84_0 (a0 : (List Int)) (a1 : Int) (v0_0 : (List Int)) (v0_1 : Int) (v0_5 : Int) : St cxT.ty := { slots := [(.inl (.inl (ls { own := 1, nm := 0, e := 2, o := true, xs := v0_0 }))), (.inl (.inl (lv (.int .i64 v0_1)))), junk, junk, junk, (.inl (.inl (lv (.int .i64 v0_5))))] ++ List.replicate 13 junk, D := [], F := [], ctr := 1, lo := 1 }
def X84_0 (a0 : (List Int)) (a1 : Int) (w0_0 : (List Int)) (w0_1 : Int) : St cxT.ty := { slots := [(.inl (.inl (ls { own := 1, nm := 0, e := 2, o := true, xs := w0_0 }))), (.inl (.inl (lv (.int .i64 w0_1))))] ++ List.replicate 17 junk, D := [], F := [], ctr := 1, lo := 1 }
theorem i84 (L : Nat) (a0 : (List Int)) (a1 : Int) : evFW prog ev84 (loopN L) f84 1 (a84.enc (a0, a1)) =
  headF prog ev84 L f84 0 [1, 0, 1, 0, 0] (outK (outW prog f84 1) (topK prog ev84 L f84 [1, 0, 1] (outW prog f84 1)).n (topK prog ev84 L f84 [1, 0, 1] (outW prog f84 1)).x) L (S84_0 a0 a1 a0 a1 (0 : Int)) := by kernel_rfl
theorem r84_0 (L : Nat) (a0 : (List Int)) (a1 : Int) (k : St cxT.ty → Option (List (A cxT.ty))) (xk : Nat → St cxT.ty → Option (List (A cxT.ty))) (g : St cxT.ty → Option (List (A cxT.ty))) (v0_0 : (List Int)) (v0_1 : Int) (v0_5 : Int) : roundF prog ev84 L f84 0 [1, 0, 1, 0, 0] (outK (outW prog f84 1) k xk) g (S84_0 a0 a1 v0_0 v0_1 v0_5) =
  bif (decide (v0_5 < (Nat.cast (List.length v0_0) : Int))) then bif ((decide ((0 : Int) ≤ v0_5)) && (decide (v0_5 < (Nat.cast (List.length v0_0) : Int)))) then g (S84_0 a0 a1 (List.set v0_0 (Int.toNat v0_5) v0_1) (Go.IntKind.wrap Go.IntKind.i64 (v0_1 + (1 : Int))) (Go.IntKind.wrap Go.IntKind.i64 (v0_5 + (1 : Int))))
    else none
  else k (X84_0 a0 a1 v0_0 v0_1) := by kernel_rfl
theorem t84_0 (L : Nat) (a0 : (List Int)) (a1 : Int) (w0_0 : (List Int)) (w0_1 : Int) : (topK prog ev84 L f84 [1, 0, 1] (outW prog f84 1)).n (X84_0 a0 a1 w0_0 w0_1) =
  some (n84 (w0_1, w0_0)) := by kernel_rfl
def l84_0 (L : Nat) (a0 : (List Int)) (a1 : Int) : Nat → (List Int) → Int → Int → ((List Int) → Int → Option (Int × (List Int))) → Option (Int × (List Int))
  | 0, _, _, _, _ => none
  | n + 1, v0_0, v0_1, v0_5, k =>
    bif (decide (v0_5 < (Nat.cast (List.length v0_0) : Int))) then bif ((decide ((0 : Int) ≤ v0_5)) && (decide (v0_5 < (Nat.cast (List.length v0_0) : Int)))) then l84_0 L a0 a1 n (List.set v0_0 (Int.toNat v0_5) v0_1) (Go.IntKind.wrap Go.IntKind.i64 (v0_1 + (1 : Int))) (Go.IntKind.wrap Go.IntKind.i64 (v0_5 + (1 : Int))) k
      else none
    else k v0_0 v0_1
theorem h84_0 (L : Nat) (a0 : (List Int)) (a1 : Int) (k : St cxT.ty → Option (List (A cxT.ty))) (xk : Nat → St cxT.ty → Option (List (A cxT.ty))) (k' : (List Int) → Int → Option (Int × (List Int))) (hk : ∀ (w0_0 : (List Int)) (w0_1 : Int), k (X84_0 a0 a1 w0_0 w0_1) = (k' w0_0 w0_1).map n84) : ∀ (n : Nat) (v0_0 : (List Int)) (v0_1 : Int) (v0_5 : Int), headF prog ev84 L f84 0 [1, 0, 1, 0, 0] (outK (outW prog f84 1) k xk) n (S84_0 a0 a1 v0_0 v0_1 v0_5) = (l84_0 L a0 a1 n v0_0 v0_1 v0_5 k').map n84
  | 0, _, _, _ => rfl
  | n + 1, v0_0, v0_1, v0_5 => by
    rw [headF_round, r84_0]
    have ih := h84_0 L a0 a1 k xk k' hk n
    simp only [l84_0, map_bif, map_tst, map_bnd, Option.map_some, Option.map_none, ih, hk]
def g84 (L : Nat) (a0 : (List Int)) (a1 : Int) : Option (Int × (List Int)) :=
  l84_0 L a0 a1 L a0 a1 (0 : Int) (fun (w0_0 : (List Int)) (w0_1 : Int) => some (w0_1, w0_0))
theorem e84 (L : Nat) (a0 : (List Int)) (a1 : Int) : evFW prog ev84 (loopN L) f84 1 (a84.enc (a0, a1)) = (g84 L a0 a1).map n84 := by
  let K'0 : (List Int) → Int → Option (Int × (List Int)) := (fun (w0_0 : (List Int)) (w0_1 : Int) => some (w0_1, w0_0))
  have hin0 : ∀ (v0_0 : (List Int)) (v0_1 : Int) (v0_5 : Int), headF prog ev84 L f84 0 [1, 0, 1, 0, 0] (outK (outW prog f84 1) (topK prog ev84 L f84 [1, 0, 1] (outW prog f84 1)).n (topK prog ev84 L f84 [1, 0, 1] (outW prog f84 1)).x) L (S84_0 a0 a1 v0_0 v0_1 v0_5) = (l84_0 L a0 a1 L v0_0 v0_1 v0_5 K'0).map n84 := fun v0_0 v0_1 v0_5 => h84_0 L a0 a1 _ _ K'0 (fun w0_0 w0_1 => by rw [t84_0]; simp only [K'0, map_bif, map_tst, map_bnd, Option.map_some, Option.map_none]) L v0_0 v0_1 v0_5
  rw [i84]; simp only [g84, map_bif, map_tst, map_bnd, Option.map_some, Option.map_none, hin0, K'0]
theorem s84 (m : ((List Int) × Int) → Option (Int × (List Int))) (hm : ∀ (x : ((List Int) × Int)) t, m x = some t → ∃ L, g84 L x.1 x.2 = some t) : SatW prog cxT 84 (c84 m).nres (c84 m).n (c84 m).F :=
  sat_w cxT_ok cxT_pok (by rfl) (fn := f84) rfl rfl a84 n84 dd84 m ev84 kok_nil kwok_nil (fun L x => g84 L x.1 x.2) (fun L x => e84 L x.1 x.2) hm hs84
/-! loop.example/g00222/laws.markBackendS -/
def ev78 : Env cxT := { Kc := kcOf [], Kw := kwOf [], lv := fun i => if i = 0 then [(0, [some 35]), (1, []), (5, [])] else [], xv := fun i => if i = 0 then some [(0, [some 35]), (1, [])] else none }
def S78_0 (a0 : (List (Int × (Int × (Int × (Int × Bool)))))) (a1 : Int) (v0_0 : (List (Int × (Int × (Int × (Int × Bool)))))) (v0_1 : Int) (v0_5 : Int) : St cxT.ty := { slots := [(.inl (.inl (ls { own := 1, nm := 0, e := 35, o := true, xs := v0_0 }))), (.inl (.inl (lv (.int .i64 v0_1)))), junk, junk, junk, (.inl (.inl (lv (.int .i64 v0_5))))] ++ List.replicate 44 junk, D := [], F := [], ctr := 1, lo := 1 }
def X78_0 (a0 : (List (Int × (Int × (Int × (Int × Bool)))))) (a1 : Int) (w0_0 : (List (Int × (Int × (Int × (Int × Bool)))))) (w0_1 : Int) : St cxT.ty := { slots := [(.inl (.inl (ls { own := 1, nm := 0, e := 35, o := true, xs := w0_0 }))), (.inl (.inl (lv (.int .i64 w0_1))))] ++ List.replicate 48 junk, D := [], F := [], ctr := 1, lo := 1 }
theorem i78 (L : Nat) (a0 : (List (Int × (Int × (Int × (Int × Bool)))))) (a1 : Int) : evFW prog ev78 (loopN L) f78 1 (a78.enc (a0, a1)) =
  headF prog ev78 L f78 0 [1, 0, 1, 0, 0] (outK (outW prog f78 1) (topK prog ev78 L f78 [1, 0, 1] (outW prog f78 1)).n (topK prog ev78 L f78 [1, 0, 1] (outW prog f78 1)).x) L (S78_0 a0 a1 a0 a1 (0 : Int)) := by kernel_rfl
theorem r78_0 (L : Nat) (a0 : (List (Int × (Int × (Int × (Int × Bool)))))) (a1 : Int) (k : St cxT.ty → Option (List (A cxT.ty))) (xk : Nat → St cxT.ty → Option (List (A cxT.ty))) (g : St cxT.ty → Option (List (A cxT.ty))) (v0_0 : (List (Int × (Int × (Int × (Int × Bool)))))) (v0_1 : Int) (v0_5 : Int) : roundF prog ev78 L f78 0 [1, 0, 1, 0, 0] (outK (outW prog f78 1) k xk) g (S78_0 a0 a1 v0_0 v0_1 v0_5) =
  bif (decide (v0_5 < (Nat.cast (List.length v0_0) : Int))) then bnd (List.set v0_0 (Int.toNat v0_5) (v0_1, ((List.getD v0_0 (Int.toNat v0_5) ((0 : Int), ((0 : Int), ((0 : Int), ((0 : Int), Bool.false))))).2.1, ((List.getD v0_0 (Int.toNat v0_5) ((0 : Int), ((0 : Int), ((0 : Int), ((0 : Int), Bool.false))))).2.2.1, ((List.getD v0_0 (Int.toNat v0_5) ((0 : Int), ((0 : Int), ((0 : Int), ((0 : Int), Bool.false))))).2.2.2.1, (List.getD v0_0 (Int.toNat v0_5) ((0 : Int), ((0 : Int), ((0 : Int), ((0 : Int), Bool.false))))).2.2.2.2))))) fun s1_0 => bnd (List.set s1_0 (Int.toNat v0_5) ((List.getD s1_0 (Int.toNat v0_5) ((0 : Int), ((0 : Int), ((0 : Int), ((0 : Int), Bool.false))))).1, ((Go.IntKind.wrap Go.IntKind.i64 (v0_1 + (1 : Int))), ((List.getD s1_0 (Int.toNat v0_5) ((0 : Int), ((0 : Int), ((0 : Int), ((0 : Int), Bool.false))))).2.2.1, ((List.getD s1_0 (Int.toNat v0_5) ((0 : Int), ((0 : Int), ((0 : Int), ((0 : Int), Bool.false))))).2.2.2.1, (List.getD s1_0 (Int.toNat v0_5) ((0 : Int), ((0 : Int), ((0 : Int), ((0 : Int), Bool.false))))).2.2.2.2))))) fun s1_1 => bnd (List.set s1_1 (Int.toNat v0_5) ((List.getD s1_1 (Int.toNat v0_5) ((0 : Int), ((0 : Int), ((0 : Int), ((0 : Int), Bool.false))))).1, ((List.getD s1_1 (Int.toNat v0_5) ((0 : Int), ((0 : Int), ((0 : Int), ((0 : Int), Bool.false))))).2.1, ((Go.IntKind.wrap Go.IntKind.i64 ((Go.IntKind.wrap Go.IntKind.i64 (v0_1 + (1 : Int))) + (1 : Int))), ((List.getD s1_1 (Int.toNat v0_5) ((0 : Int), ((0 : Int), ((0 : Int), ((0 : Int), Bool.false))))).2.2.2.1, (List.getD s1_1 (Int.toNat v0_5) ((0 : Int), ((0 : Int), ((0 : Int), ((0 : Int), Bool.false))))).2.2.2.2))))) fun s1_2 => bnd (List.set s1_2 (Int.toNat v0_5) ((List.getD s1_2 (Int.toNat v0_5) ((0 : Int), ((0 : Int), ((0 : Int), ((0 : Int), Bool.false))))).1, ((List.getD s1_2 (Int.toNat v0_5) ((0 : Int), ((0 : Int), ((0 : Int), ((0 : Int), Bool.false))))).2.1, ((List.getD s1_2 (Int.toNat v0_5) ((0 : Int), ((0 : Int), ((0 : Int), ((0 : Int), Bool.false))))).2.2.1, ((Go.IntKind.wrap Go.IntKind.i64 ((Go.IntKind.wrap Go.IntKind.i64 ((Go.IntKind.wrap Go.IntKind.i64 (v0_1 + (1 : Int))) + (1 : Int))) + (1 : Int))), (List.getD s1_2 (Int.toNat v0_5) ((0 : Int), ((0 : Int), ((0 : Int), ((0 : Int), Bool.false))))).2.2.2.2))))) fun s1_3 => bif ((decide ((0 : Int) ≤ v0_5)) && (decide (v0_5 < (Nat.cast (List.length v0_0) : Int)))) then bif ((decide ((0 : Int) ≤ v0_5)) && (decide (v0_5 < (Nat.cast (List.length s1_0) : Int)))) then bif ((decide ((0 : Int) ≤ v0_5)) && (decide (v0_5 < (Nat.cast (List.length s1_1) : Int)))) then bif ((decide ((0 : Int) ≤ v0_5)) && (decide (v0_5 < (Nat.cast (List.length s1_2) : Int)))) then bif ((decide ((0 : Int) ≤ v0_5)) && (decide (v0_5 < (Nat.cast (List.length s1_3) : Int)))) then g (S78_0 a0 a1 (List.set s1_3 (Int.toNat v0_5) ((List.getD s1_3 (Int.toNat v0_5) ((0 : Int), ((0 : Int), ((0 : Int), ((0 : Int), Bool.false))))).1, ((List.getD s1_3 (Int.toNat v0_5) ((0 : Int), ((0 : Int), ((0 : Int), ((0 : Int), Bool.false))))).2.1, ((List.getD s1_3 (Int.toNat v0_5) ((0 : Int), ((0 : Int), ((0 : Int), ((0 : Int), Bool.false))))).2.2.1, ((List.getD s1_3 (Int.toNat v0_5) ((0 : Int), ((0 : Int), ((0 : Int), ((0 : Int), Bool.false))))).2.2.2.1, ((Int.tmod (Go.IntKind.wrap Go.IntKind.i64 ((Go.IntKind.wrap Go.IntKind.i64 ((Go.IntKind.wrap Go.IntKind.i64 ((Go.IntKind.wrap Go.IntKind.i64 (v0_1 + (1 : Int))) + (1 : Int))) + (1 : Int))) + (1 : Int))) (3 : Int)) == (0 : Int))))))) (Go.IntKind.wrap Go.IntKind.i64 ((Go.IntKind.wrap Go.IntKind.i64 ((Go.IntKind.wrap Go.IntKind.i64 ((Go.IntKind.wrap Go.IntKind.i64 ((Go.IntKind.wrap Go.IntKind.i64 (v0_1 + (1 : Int))) + (1 : Int))) + (1 : Int))) + (1 : Int))) + (1 : Int))) (Go.IntKind.wrap Go.IntKind.i64 (v0_5 + (1 : Int))))
            else none
          else none
        else none
      else none
    else none
  else k (X78_0 a0 a1 v0_0 v0_1) := by kernel_rfl
theorem t78_0 (L : Nat) (a0 : (List (Int × (Int × (Int × (Int × Bool)))))) (a1 : Int) (w0_0 : (List (Int × (Int × (Int × (Int × Bool)))))) (w0_1 : Int) : (topK prog ev78 L f78 [1, 0, 1] (outW prog f78 1)).n (X78_0 a0 a1 w0_0 w0_1) =
  some (n78 (w0_1, w0_0)) := by kernel_rfl
def l78_0 (L : Nat) (a0 : (List (Int × (Int × (Int × (Int × Bool)))))) (a1 : Int) : Nat → (List (Int × (Int × (Int × (Int × Bool))))) → Int → Int → ((List (Int × (Int × (Int × (Int × Bool))))) → Int → Option (Int × (List (Int × (Int × (Int × (Int × Bool))))))) → Option (Int × (List (Int × (Int × (Int × (Int × Bool))))))
  | 0, _, _, _, _ => none
  | n + 1, v0_0, v0_1, v0_5, k =>
    bif (decide (v0_5 < (Nat.cast (List.length v0_0) : Int))) then bnd (List.set v0_0 (Int.toNat v0_5) (v0_1, ((List.getD v0_0 (Int.toNat v0_5) ((0 : Int), ((0 : Int), ((0 : Int), ((0 : Int), Bool.false))))).2.1, ((List.getD v0_0 (Int.toNat v0_5) ((0 : Int), ((0 : Int), ((0 : Int), ((0 : Int), Bool.false))))).2.2.1, ((List.getD v0_0 (Int.toNat v0_5) ((0 : Int), ((0 : Int), ((0 : Int), ((0 : Int), Bool.false))))).2.2.2.1, (List.getD v0_0 (Int.toNat v0_5) ((0 : Int), ((0 : Int), ((0 : Int), ((0 : Int), Bool.false))))).2.2.2.2))))) fun s2_0 => bnd (List.set s2_0 (Int.toNat v0_5) ((List.getD s2_0 (Int.toNat v0_5) ((0 : Int), ((0 : Int), ((0 : Int), ((0 : Int), Bool.false))))).1, ((Go.IntKind.wrap Go.IntKind.i64 (v0_1 + (1 : Int))), ((List.getD s2_0 (Int.toNat v0_5) ((0 : Int), ((0 : Int), ((0 : Int), ((0 : Int), Bool.false))))).2.2.1, ((List.getD s2_0 (Int.toNat v0_5) ((0 : Int), ((0 : Int), ((0 : Int), ((0 : Int), Bool.false))))).2.2.2.1, (List.getD s2_0 (Int.toNat v0_5) ((0 : Int), ((0 : Int), ((0 : Int), ((0 : Int), Bool.false))))).2.2.2.2))))) fun s2_1 => bnd (List.set s2_1 (Int.toNat v0_5) ((List.getD s2_1 (Int.toNat v0_5) ((0 : Int), ((0 : Int), ((0 : Int), ((0 : Int), Bool.false))))).1, ((List.getD s2_1 (Int.toNat v0_5) ((0 : Int), ((0 : Int), ((0 : Int), ((0 : Int), Bool.false))))).2.1, ((Go.IntKind.wrap Go.IntKind.i64 ((Go.IntKind.wrap Go.IntKind.i64 (v0_1 + (1 : Int))) + (1 : Int))), ((List.getD s2_1 (Int.toNat v0_5) ((0 : Int), ((0 : Int), ((0 : Int), ((0 : Int), Bool.false))))).2.2.2.1, (List.getD s2_1 (Int.toNat v0_5) ((0 : Int), ((0 : Int), ((0 : Int), ((0 : Int), Bool.false))))).2.2.2.2))))) fun s2_2 => bnd (List.set s2_2 (Int.toNat v0_5) ((List.getD s2_2 (Int.toNat v0_5) ((0 : Int), ((0 : Int), ((0 : Int), ((0 : Int), Bool.false))))).1, ((List.getD s2_2 (Int.toNat v0_5) ((0 : Int), ((0 : Int), ((0 : Int), ((0 : Int), Bool.false))))).2.1, ((List.getD s2_2 (Int.toNat v0_5) ((0 : Int), ((0 : Int), ((0 : Int), ((0 : Int), Bool.false))))).2.2.1, ((Go.IntKind.wrap Go.IntKind.i64 ((Go.IntKind.wrap Go.IntKind.i64 ((Go.IntKind.wrap Go.IntKind.i64 (v0_1 + (1 : Int))) + (1 : Int))) + (1 : Int))), (List.getD s2_2 (Int.toNat v0_5) ((0 : Int), ((0 : Int), ((0 : Int), ((0 : Int), Bool.false))))).2.2.2.2))))) fun s2_3 => bif ((decide ((0 : Int) ≤ v0_5)) && (decide (v0_5 < (Nat.cast (List.length v0_0) : Int)))) then bif ((decide ((0 : Int) ≤ v0_5)) && (decide (v0_5 < (Nat.cast (List.length s2_0) : Int)))) then bif ((decide ((0 : Int) ≤ v0_5)) && (decide (v0_5 < (Nat.cast (List.length s2_1) : Int)))) then bif ((decide ((0 : Int) ≤ v0_5)) && (decide (v0_5 < (Nat.cast (List.length s2_2) : Int)))) then bif ((decide ((0 : Int) ≤ v0_5)) && (decide (v0_5 < (Nat.cast (List.length s2_3) : Int)))) then l78_0 L a0 a1 n (List.set s2_3 (Int.toNat v0_5) ((List.getD s2_3 (Int.toNat v0_5) ((0 : Int), ((0 : Int), ((0 : Int), ((0 : Int), Bool.false))))).1, ((List.getD s2_3 (Int.toNat v0_5) ((0 : Int), ((0 : Int), ((0 : Int), ((0 : Int), Bool.false))))).2.1, ((List.getD s2_3 (Int.toNat v0_5) ((0 : Int), ((0 : Int), ((0 : Int), ((0 : Int), Bool.false))))).2.2.1, ((List.getD s2_3 (Int.toNat v0_5) ((0 : Int), ((0 : Int), ((0 : Int), ((0 : Int), Bool.false))))).2.2.2.1, ((Int.tmod (Go.IntKind.wrap Go.IntKind.i64 ((Go.IntKind.wrap Go.IntKind.i64 ((Go.IntKind.wrap Go.IntKind.i64 ((Go.IntKind.wrap Go.IntKind.i64 (v0_1 + (1 : Int))) + (1 : Int))) + (1 : Int))) + (1 : Int))) (3 : Int)) == (0 : Int))))))) (Go.IntKind.wrap Go.IntKind.i64 ((Go.IntKind.wrap Go.IntKind.i64 ((Go.IntKind.wrap Go.IntKind.i64 ((Go.IntKind.wrap Go.IntKind.i64 ((Go.IntKind.wrap Go.IntKind.i64 (v0_1 + (1 : Int))) + (1 : Int))) + (1 : Int))) + (1 : Int))) + (1 : Int))) (Go.IntKind.wrap Go.IntKind.i64 (v0_5 + (1 : Int))) k
              else none
            else none
          else none
        else none
      else none
    else k v0_0 v0_1
theorem h78_0 (L : Nat) (a0 : (List (Int × (Int × (Int × (Int × Bool)))))) (a1 : Int) (k : St cxT.ty → Option (List (A cxT.ty))) (xk : Nat → St cxT.ty → Option (List (A cxT.ty))) (k' : (List (Int × (Int × (Int × (Int × Bool))))) → Int → Option (Int × (List (Int × (Int × (Int × (Int × Bool))))))) (hk : ∀ (w0_0 : (List (Int × (Int × (Int × (Int × Bool)))))) (w0_1 : Int), k (X78_0 a0 a1 w0_0 w0_1) = (k' w0_0 w0_1).map n78) : ∀ (n : Nat) (v0_0 : (List (Int × (Int × (Int × (Int × Bool)))))) (v0_1 : Int) (v0_5 : Int), headF prog ev78 L f78 0 [1, 0, 1, 0, 0] (outK (outW prog f78 1) k xk) n (S78_0 a0 a1 v0_0 v0_1 v0_5) = (l78_0 L a0 a1 n v0_0 v0_1 v0_5 k').map n78
  | 0, _, _, _ => rfl
  | n + 1, v0_0, v0_1, v0_5 => by
    rw [headF_round, r78_0]
    have ih := h78_0 L a0 a1 k xk k' hk n
    simp only [l78_0, map_bif, map_tst, map_bnd, Option.map_some, Option.map_none, ih, hk]
def g78 (L : Nat) (a0 : (List (Int × (Int × (Int × (Int × Bool)))))) (a1 : Int) : Option (Int × (List (Int × (Int × (Int × (Int × Bool)))))) :=
  l78_0 L a0 a1 L a0 a1 (0 : Int) (fun (w0_0 : (List (Int × (Int × (Int × (Int × Bool)))))) (w0_1 : Int) => some (w0_1, w0_0))
theorem e78 (L : Nat) (a0 : (List (Int × (Int × (Int × (Int × Bool)))))) (a1 : Int) : evFW prog ev78 (loopN L) f78 1 (a78.enc (a0, a1)) = (g78 L a0 a1).map n78 := by
  let K'0 : (List (Int × (Int × (Int × (Int × Bool))))) → Int → Option (Int × (List (Int × (Int × (Int × (Int × Bool)))))) := (fun (w0_0 : (List (Int × (Int × (Int × (Int × Bool)))))) (w0_1 : Int) => some (w0_1, w0_0))
  have hin0 : ∀ (v0_0 : (List (Int × (Int × (Int × (Int × Bool)))))) (v0_1 : Int) (v0_5 : Int), headF prog ev78 L f78 0 [1, 0, 1, 0, 0] (outK (outW prog f78 1) (topK prog ev78 L f78 [1, 0, 1] (outW prog f78 1)).n (topK prog ev78 L f78 [1, 0, 1] (outW prog f78 1)).x) L (S78_0 a0 a1 v0_0 v0_1 v0_5) = (l78_0 L a0 a1 L v0_0 v0_1 v0_5 K'0).map n78 := fun v0_0 v0_1 v0_5 => h78_0 L a0 a1 _ _ K'0 (fun w0_0 w0_1 => by rw [t78_0]; simp only [K'0, map_bif, map_tst, map_bnd, Option.map_some, Option.map_none]) L v0_0 v0_1 v0_5
  rw [i78]; simp only [g78, map_bif, map_tst, map_bnd, Option.map_some, Option.map_none, hin0, K'0]
theorem s78 (m : ((List (Int × (Int × (Int × (Int × Bool))))) × Int) → Option (Int × (List (Int × (Int × (Int × (Int × Bool))))))) (hm : ∀ (x : ((List (Int × (Int × (Int × (Int × Bool))))) × Int)) t, m x = some t → ∃ L, g78 L x.1 x.2 = some t) : SatW prog cxT 78 (c78 m).nres (c78 m).n (c78 m).F :=
  sat_w cxT_ok cxT_pok (by rfl) (fn := f78) rfl rfl a78 n78 dd78 m ev78 kok_nil kwok_nil (fun L x => g78 L x.1 x.2) (fun L x => e78 L x.1 x.2) hm hs78
/-! loop.example/g00222/laws.markVipS -/
def ev79 (m84 : ((List Int) × Int) → Option (Int × (List Int))) : Env cxT := { Kc := kcOf [], Kw := kwOf [(84, { c84 m84 with p := 5 })], lv := fun i => if i = 0 then [(0, [some 114]), (1, []), (5, [])] else [], xv := fun i => if i = 0 then some [(0, [some 114]), (1, [])] else none }
def S79_0 (a0 : (List (Int × (Int × (Int × (List Int)))))) (a1 : Int) (v0_0 : (List (Int × (Int × (Int × (List Int)))))) (v0_1 : Int) (v0_5 : Int) : St cxT.ty := { slots := [(.inl (.inl (ls { own := 1, nm := 0, e := 114, o := true, xs := v0_0 }))), (.inl (.inl (lv (.int .i64 v0_1)))), junk, junk, junk, (.inl (.inl (lv (.int .i64 v0_5))))] ++ List.replicate 35 junk, D := [], F := [], ctr := 1, lo := 1 }
def X79_0 (a0 : (List (Int × (Int × (Int × (List Int)))))) (a1 : Int) (w0_0 : (List (Int × (Int × (Int × (List Int)))))) (w0_1 : Int) : St cxT.ty := { slots := [(.inl (.inl (ls { own := 1, nm := 0, e := 114, o := true, xs := w0_0 }))), (.inl (.inl (lv (.int .i64 w0_1))))] ++ List.replicate 39 junk, D := [], F := [], ctr := 1, lo := 1 }
theorem i79 (m84 : ((List Int) × Int) → Option (Int × (List Int))) (L : Nat) (a0 : (List (Int × (Int × (Int × (List Int)))))) (a1 : Int) : evFW prog (ev79 m84) (loopN L) f79 1 (a79.enc (a0, a1)) =
  headF prog (ev79 m84) L f79 0 [1, 0, 1, 0, 0] (outK (outW prog f79 1) (topK prog (ev79 m84) L f79 [1, 0, 1] (outW prog f79 1)).n (topK prog (ev79 m84) L f79 [1, 0, 1] (outW prog f79 1)).x) L (S79_0 a0 a1 a0 a1 (0 : Int)) := by kernel_rfl
theorem r79_0 (m84 : ((List Int) × Int) → Option (Int × (List Int))) (L : Nat) (a0 : (List (Int × (Int × (Int × (List Int)))))) (a1 : Int) (k : St cxT.ty → Option (List (A cxT.ty))) (xk : Nat → St cxT.ty → Option (List (A cxT.ty))) (g : St cxT.ty → Option (List (A cxT.ty))) (v0_0 : (List (Int × (Int × (Int × (List Int)))))) (v0_1 : Int) (v0_5 : Int) : roundF prog (ev79 m84) L f79 0 [1, 0, 1, 0, 0] (outK (outW prog f79 1) k xk) g (S79_0 a0 a1 v0_0 v0_1 v0_5) =
  bif (decide (v0_5 < (Nat.cast (List.length v0_0) : Int))) then bnd (List.set v0_0 (Int.toNat v0_5) (v0_1, ((List.getD v0_0 (Int.toNat v0_5) ((0 : Int), ((0 : Int), ((0 : Int), ([] : List (Int)))))).2.1, ((List.getD v0_0 (Int.toNat v0_5) ((0 : Int), ((0 : Int), ((0 : Int), ([] : List (Int)))))).2.2.1, (List.getD v0_0 (Int.toNat v0_5) ((0 : Int), ((0 : Int), ((0 : Int), ([] : List (Int)))))).2.2.2)))) fun s1_0 => bnd (List.set s1_0 (Int.toNat v0_5) ((List.getD s1_0 (Int.toNat v0_5) ((0 : Int), ((0 : Int), ((0 : Int), ([] : List (Int)))))).1, ((Go.IntKind.wrap Go.IntKind.i64 (v0_1 + (1 : Int))), ((List.getD s1_0 (Int.toNat v0_5) ((0 : Int), ((0 : Int), ((0 : Int), ([] : List (Int)))))).2.2.1, (List.getD s1_0 (Int.toNat v0_5) ((0 : Int), ((0 : Int), ((0 : Int), ([] : List (Int)))))).2.2.2)))) fun s1_1 => bnd (List.set s1_1 (Int.toNat v0_5) ((List.getD s1_1 (Int.toNat v0_5) ((0 : Int), ((0 : Int), ((0 : Int), ([] : List (Int)))))).1, ((List.getD s1_1 (Int.toNat v0_5) ((0 : Int), ((0 : Int), ((0 : Int), ([] : List (Int)))))).2.1, ((Go.IntKind.wrap Go.IntKind.i64 ((Go.IntKind.wrap Go.IntKind.i64 (v0_1 + (1 : Int))) + (1 : Int))), (List.getD s1_1 (Int.toNat v0_5) ((0 : Int), ((0 : Int), ((0 : Int), ([] : List (Int)))))).2.2.2)))) fun s1_2 => bif ((decide ((0 : Int) ≤ v0_5)) && (decide (v0_5 < (Nat.cast (List.length v0_0) : Int)))) then bif ((decide ((0 : Int) ≤ v0_5)) && (decide (v0_5 < (Nat.cast (List.length s1_0) : Int)))) then bif ((decide ((0 : Int) ≤ v0_5)) && (decide (v0_5 < (Nat.cast (List.length s1_1) : Int)))) then bif ((decide ((0 : Int) ≤ v0_5)) && (decide (v0_5 < (Nat.cast (List.length s1_2) : Int)))) then tst (m84 ((List.getD s1_2 (Int.toNat v0_5) ((0 : Int), ((0 : Int), ((0 : Int), ([] : List (Int)))))).2.2.2, (Go.IntKind.wrap Go.IntKind.i64 ((Go.IntKind.wrap Go.IntKind.i64 ((Go.IntKind.wrap Go.IntKind.i64 (v0_1 + (1 : Int))) + (1 : Int))) + (1 : Int))))) ((0 : Int), []) fun (q6 : (Int × (List Int))) => g (S79_0 a0 a1 (List.set s1_2 (Int.toNat v0_5) ((List.getD s1_2 (Int.toNat v0_5) ((0 : Int), ((0 : Int), ((0 : Int), ([] : List (Int)))))).1, ((List.getD s1_2 (Int.toNat v0_5) ((0 : Int), ((0 : Int), ((0 : Int), ([] : List (Int)))))).2.1, ((List.getD s1_2 (Int.toNat v0_5) ((0 : Int), ((0 : Int), ((0 : Int), ([] : List (Int)))))).2.2.1, q6.2)))) q6.1 (Go.IntKind.wrap Go.IntKind.i64 (v0_5 + (1 : Int))))
          else none
        else none
      else none
    else none
  else k (X79_0 a0 a1 v0_0 v0_1) := by kernel_rfl
theorem t79_0 (m84 : ((List Int) × Int) → Option (Int × (List Int))) (L : Nat) (a0 : (List (Int × (Int × (Int × (List Int)))))) (a1 : Int) (w0_0 : (List (Int × (Int × (Int × (List Int)))))) (w0_1 : Int) : (topK prog (ev79 m84) L f79 [1, 0, 1] (outW prog f79 1)).n (X79_0 a0 a1 w0_0 w0_1) =
  some (n79 (w0_1, w0_0)) := by kernel_rfl
def l79_0 (m84 : ((List Int) × Int) → Option (Int × (List Int))) (L : Nat) (a0 : (List (Int × (Int × (Int × (List Int)))))) (a1 : Int) : Nat → (List (Int × (Int × (Int × (List Int))))) → Int → Int → ((List (Int × (Int × (Int × (List Int))))) → Int → Option (Int × (List (Int × (Int × (Int × (List Int))))))) → Option (Int × (List (Int × (Int × (Int × (List Int))))))
  | 0, _, _, _, _ => none
  | n + 1, v0_0, v0_1, v0_5, k =>
    bif (decide (v0_5 < (Nat.cast (List.length v0_0) : Int))) then bnd (List.set v0_0 (Int.toNat v0_5) (v0_1, ((List.getD v0_0 (Int.toNat v0_5) ((0 : Int), ((0 : Int), ((0 : Int), ([] : List (Int)))))).2.1, ((List.getD v0_0 (Int.toNat v0_5) ((0 : Int), ((0 : Int), ((0 : Int), ([] : List (Int)))))).2.2.1, (List.getD v0_0 (Int.toNat v0_5) ((0 : Int), ((0 : Int), ((0 : Int), ([] : List (Int)))))).2.2.2)))) fun s2_0 => bnd (List.set s2_0 (Int.toNat v0_5) ((List.getD s2_0 (Int.toNat v0_5) ((0 : Int), ((0 : Int), ((0 : Int), ([] : List (Int)))))).1, ((Go.IntKind.wrap Go.IntKind.i64 (v0_1 + (1 : Int))), ((List.getD s2_0 (Int.toNat v0_5) ((0 : Int), ((0 : Int), ((0 : Int), ([] : List (Int)))))).2.2.1, (List.getD s2_0 (Int.toNat v0_5) ((0 : Int), ((0 : Int), ((0 : Int), ([] : List (Int)))))).2.2.2)))) fun s2_1 => bnd (List.set s2_1 (Int.toNat v0_5) ((List.getD s2_1 (Int.toNat v0_5) ((0 : Int), ((0 : Int), ((0 : Int), ([] : List (Int)))))).1, ((List.getD s2_1 (Int.toNat v0_5) ((0 : Int), ((0 : Int), ((0 : Int), ([] : List (Int)))))).2.1, ((Go.IntKind.wrap Go.IntKind.i64 ((Go.IntKind.wrap Go.IntKind.i64 (v0_1 + (1 : Int))) + (1 : Int))), (List.getD s2_1 (Int.toNat v0_5) ((0 : Int), ((0 : Int), ((0 : Int), ([] : List (Int)))))).2.2.2)))) fun s2_2 => bif ((decide ((0 : Int) ≤ v0_5)) && (decide (v0_5 < (Nat.cast (List.length v0_0) : Int)))) then bif ((decide ((0 : Int) ≤ v0_5)) && (decide (v0_5 < (Nat.cast (List.length s2_0) : Int)))) then bif ((decide ((0 : Int) ≤ v0_5)) && (decide (v0_5 < (Nat.cast (List.length s2_1) : Int)))) then bif ((decide ((0 : Int) ≤ v0_5)) && (decide (v0_5 < (Nat.cast (List.length s2_2) : Int)))) then tst (m84 ((List.getD s2_2 (Int.toNat v0_5) ((0 : Int), ((0 : Int), ((0 : Int), ([] : List (Int)))))).2.2.2, (Go.IntKind.wrap Go.IntKind.i64 ((Go.IntKind.wrap Go.IntKind.i64 ((Go.IntKind.wrap Go.IntKind.i64 (v0_1 + (1 : Int))) + (1 : Int))) + (1 : Int))))) ((0 : Int), []) fun (q7 : (Int × (List Int))) => l79_0 m84 L a0 a1 n (List.set s2_2 (Int.toNat v0_5) ((List.getD s2_2 (Int.toNat v0_5) ((0 : Int), ((0 : Int), ((0 : Int), ([] : List (Int)))))).1, ((List.getD s2_2 (Int.toNat v0_5) ((0 : Int), ((0 : Int), ((0 : Int), ([] : List (Int)))))).2.1, ((List.getD s2_2 (Int.toNat v0_5) ((0 : Int), ((0 : Int), ((0 : Int), ([] : List (Int)))))).2.2.1, q7.2)))) q7.1 (Go.IntKind.wrap Go.IntKind.i64 (v0_5 + (1 : Int))) k
            else none
          else none
        else none
      else none
    else k v0_0 v0_1
theorem h79_0 (m84 : ((List Int) × Int) → Option (Int × (List Int))) (L : Nat) (a0 : (List (Int × (Int × (Int × (List Int)))))) (a1 : Int) (k : St cxT.ty → Option (List (A cxT.ty))) (xk : Nat → St cxT.ty → Option (List (A cxT.ty))) (k' : (List (Int × (Int × (Int × (List Int))))) → Int → Option (Int × (List (Int × (Int × (Int × (List Int))))))) (hk : ∀ (w0_0 : (List (Int × (Int × (Int × (List Int)))))) (w0_1 : Int), k (X79_0 a0 a1 w0_0 w0_1) = (k' w0_0 w0_1).map n79) : ∀ (n : Nat) (v0_0 : (List (Int × (Int × (Int × (List Int)))))) (v0_1 : Int) (v0_5 : Int), headF prog (ev79 m84) L f79 0 [1, 0, 1, 0, 0] (outK (outW prog f79 1) k xk) n (S79_0 a0 a1 v0_0 v0_1 v0_5) = (l79_0 m84 L a0 a1 n v0_0 v0_1 v0_5 k').map n79
  | 0, _, _, _ => rfl
  | n + 1, v0_0, v0_1, v0_5 => by
    rw [headF_round, r79_0]
    have ih := h79_0 m84 L a0 a1 k xk k' hk n
    simp only [l79_0, map_bif, map_tst, map_bnd, Option.map_some, Option.map_none, ih, hk]
def g79 (m84 : ((List Int) × Int) → Option (Int × (List Int))) (L : Nat) (a0 : (List (Int × (Int × (Int × (List Int)))))) (a1 : Int) : Option (Int × (List (Int × (Int × (Int × (List Int)))))) :=
  l79_0 m84 L a0 a1 L a0 a1 (0 : Int) (fun (w0_0 : (List (Int × (Int × (Int × (List Int)))))) (w0_1 : Int) => some (w0_1, w0_0))
theorem e79 (m84 : ((List Int) × Int) → Option (Int × (List Int))) (L : Nat) (a0 : (List (Int × (Int × (Int × (List Int)))))) (a1 : Int) : evFW prog (ev79 m84) (loopN L) f79 1 (a79.enc (a0, a1)) = (g79 m84 L a0 a1).map n79 := by
  let K'0 : (List (Int × (Int × (Int × (List Int))))) → Int → Option (Int × (List (Int × (Int × (Int × (List Int)))))) := (fun (w0_0 : (List (Int × (Int × (Int × (List Int)))))) (w0_1 : Int) => some (w0_1, w0_0))
  have hin0 : ∀ (v0_0 : (List (Int × (Int × (Int × (List Int)))))) (v0_1 : Int) (v0_5 : Int), headF prog (ev79 m84) L f79 0 [1, 0, 1, 0, 0] (outK (outW prog f79 1) (topK prog (ev79 m84) L f79 [1, 0, 1] (outW prog f79 1)).n (topK prog (ev79 m84) L f79 [1, 0, 1] (outW prog f79 1)).x) L (S79_0 a0 a1 v0_0 v0_1 v0_5) = (l79_0 m84 L a0 a1 L v0_0 v0_1 v0_5 K'0).map n79 := fun v0_0 v0_1 v0_5 => h79_0 m84 L a0 a1 _ _ K'0 (fun w0_0 w0_1 => by rw [t79_0]; simp only [K'0, map_bif, map_tst, map_bnd, Option.map_some, Option.map_none]) L v0_0 v0_1 v0_5
  rw [i79]; simp only [g79, map_bif, map_tst, map_bnd, Option.map_some, Option.map_none, hin0, K'0]
theorem s79 (m84 : ((List Int) × Int) → Option (Int × (List Int))) (h84 : SatW prog cxT 84 (c84 m84).nres (c84 m84).n (c84 m84).F) (m : ((List (Int × (Int × (Int × (List Int))))) × Int) → Option (Int × (List (Int × (Int × (Int × (List Int))))))) (hm : ∀ (x : ((List (Int × (Int × (Int × (List Int))))) × Int)) t, m x = some t → ∃ L, g79 m84 L x.1 x.2 = some t) : SatW prog cxT 79 (c79 m).nres (c79 m).n (c79 m).F :=
  sat_w cxT_ok cxT_pok (by rfl) (fn := f79) rfl rfl a79 n79 dd79 m (ev79 m84) kok_nil (kwok_cons h84 kwok_nil) (fun L x => g79 m84 L x.1 x.2) (fun L x => e79 m84 L x.1 x.2) hm hs79
/-! loop.example/g00222/laws.markConfig -/
def ev32 (m78 : ((List (Int × (Int × (Int × (Int × Bool))))) × Int) → Option (Int × (List (Int × (Int × (Int × (Int × Bool))))))) (m79 : ((List (Int × (Int × (Int × (List Int))))) × Int) → Option (Int × (List (Int × (Int × (Int × (List Int))))))) : Env cxT := { Kc := kcOf [], Kw := kwOf [(78, c78 m78), (79, c79 m79)], lv := fun i => [], xv := fun i => none }
theorem i32 (m78 : ((List (Int × (Int × (Int × (Int × Bool))))) × Int) → Option (Int × (List (Int × (Int × (Int × (Int × Bool))))))) (m79 : ((List (Int × (Int × (Int × (List Int))))) × Int) → Option (Int × (List (Int × (Int × (Int × (List Int))))))) (L : Nat) (a0_0 : Int) (a0_1 : (List (Int × (Int × (Int × (Int × Bool)))))) (a0_2 : (List (Int × (Int × (Int × (List Int)))))) (a1 : Int) : evFW prog (ev32 m78 m79) (loopN L) f32 1 (a32.enc ((a0_0, a0_1, a0_2), a1)) =
  tst (m78 (a0_1, a1)) ((0 : Int), []) fun (q1 : (Int × (List (Int × (Int × (Int × (Int × Bool))))))) => tst (m79 (a0_2, q1.1)) ((0 : Int), []) fun (q2 : (Int × (List (Int × (Int × (Int × (List Int))))))) => some (n32 (q2.1, a0_0, q1.2, q2.2)) := by kernel_rfl
def g32 (m78 : ((List (Int × (Int × (Int × (Int × Bool))))) × Int) → Option (Int × (List (Int × (Int × (Int × (Int × Bool))))))) (m79 : ((List (Int × (Int × (Int × (List Int))))) × Int) → Option (Int × (List (Int × (Int × (Int × (List Int))))))) (L : Nat) (a0_0 : Int) (a0_1 : (List (Int × (Int × (Int × (Int × Bool)))))) (a0_2 : (List (Int × (Int × (Int × (List Int)))))) (a1 : Int) : Option (Int × Int × (List (Int × (Int × (Int × (Int × Bool))))) × (List (Int × (Int × (Int × (List Int)))))) :=
  tst (m78 (a0_1, a1)) ((0 : Int), []) fun (q1 : (Int × (List (Int × (Int × (Int × (Int × Bool))))))) => tst (m79 (a0_2, q1.1)) ((0 : Int), []) fun (q2 : (Int × (List (Int × (Int × (Int × (List Int))))))) => some (q2.1, a0_0, q1.2, q2.2)
theorem e32 (m78 : ((List (Int × (Int × (Int × (Int × Bool))))) × Int) → Option (Int × (List (Int × (Int × (Int × (Int × Bool))))))) (m79 : ((List (Int × (Int × (Int × (List Int))))) × Int) → Option (Int × (List (Int × (Int × (Int × (List Int))))))) (L : Nat) (a0_0 : Int) (a0_1 : (List (Int × (Int × (Int × (Int × Bool)))))) (a0_2 : (List (Int × (Int × (Int × (List Int)))))) (a1 : Int) : evFW prog (ev32 m78 m79) (loopN L) f32 1 (a32.enc ((a0_0, a0_1, a0_2), a1)) = (g32 m78 m79 L a0_0 a0_1 a0_2 a1).map n32 := by
  rw [i32]; simp only [g32, map_bif, map_tst, map_bnd, Option.map_some, Option.map_none]
theorem s32 (m78 : ((List (Int × (Int × (Int × (Int × Bool))))) × Int) → Option (Int × (List (Int × (Int × (Int × (Int × Bool))))))) (m79 : ((List (Int × (Int × (Int × (List Int))))) × Int) → Option (Int × (List (Int × (Int × (Int × (List Int))))))) (h78 : SatW prog cxT 78 (c78 m78).nres (c78 m78).n (c78 m78).F) (h79 : SatW prog cxT 79 (c79 m79).nres (c79 m79).n (c79 m79).F) (m : ((Int × (List (Int × (Int × (Int × (Int × Bool))))) × (List (Int × (Int × (Int × (List Int)))))) × Int) → Option (Int × Int × (List (Int × (Int × (Int × (Int × Bool))))) × (List (Int × (Int × (Int × (List Int))))))) (hm : ∀ (x : ((Int × (List (Int × (Int × (Int × (Int × Bool))))) × (List (Int × (Int × (Int × (List Int)))))) × Int)) t, m x = some t → ∃ L, g32 m78 m79 L x.1.1 x.1.2.1 x.1.2.2 x.2 = some t) : SatW prog cxT 32 (c32 m).nres (c32 m).n (c32 m).F :=
  sat_w cxT_ok cxT_pok (by rfl) (fn := f32) rfl rfl a32 n32 dd32 m (ev32 m78 m79) kok_nil (kwok_cons h78 (kwok_cons h79 kwok_nil)) (fun L x => g32 m78 m79 L x.1.1 x.1.2.1 x.1.2.2 x.2) (fun L x => e32 m78 m79 L x.1.1 x.1.2.1 x.1.2.2 x.2) hm hs32
end Go.Proofs.Try

set_option maxHeartbeats 0
set_option maxRecDepth 100000
set_option linter.unusedVariables false
set_option linter.unusedSimpArgs false
namespace Go.Proofs.Try
open Go Go.VM Go.RowKit
/-! loop.example/g00222/spec.l1In -/
def ev105 : Env cxT := { Kc := kcOf [], Kw := kwOf [], lv := fun i => [], xv := fun i => none }
theorem i105 (L : Nat) (a0 : Int) (a1 : Int) (a2 : Int) : evF prog ev105 (loopN L) f105 (a105.enc (a0, a1, a2)) =
  bif (decide (a0 ≥ a1)) then some (n105 (decide (a0 ≤ a2)))
  else some (n105 Bool.false) := by kernel_rfl
def g105 (L : Nat) (a0 : Int) (a1 : Int) (a2 : Int) : Option Bool :=
  bif (decide (a0 ≥ a1)) then some (decide (a0 ≤ a2))
  else some Bool.false
theorem e105 (L : Nat) (a0 : Int) (a1 : Int) (a2 : Int) : evF prog ev105 (loopN L) f105 (a105.enc (a0, a1, a2)) = (g105 L a0 a1 a2).map n105 := by
  rw [i105]; simp only [g105, map_bif, map_tst, map_bnd, Option.map_some, Option.map_none]
theorem s105 (m : (Int × Int × Int) → Option Bool) (hm : ∀ (x : (Int × Int × Int)) t, m x = some t → ∃ L, g105 L x.1 x.2.1 x.2.2 = some t) : Sat prog cxT 105 (c105 m) :=
  sat_t cxT_ok cxT_pok (by rfl) (fn := f105) rfl a105 n105 dd105 m ev105 kok_nil kwok_nil (fun L x => g105 L x.1 x.2.1 x.2.2) (fun L x => e105 L x.1 x.2.1 x.2.2) hm hs105
/-! loop.example/g00222/spec.l3Name -/
def ev106 (m105 : (Int × Int × Int) → Option Bool) : Env cxT := { Kc := kcOf [(105, c105 m105)], Kw := kwOf [], lv := fun i => [], xv := fun i => none }
theorem i106 (m105 : (Int × Int × Int) → Option Bool) (L : Nat) (a0 : Int) : evF prog (ev106 m105) (loopN L) f106 (a106.enc a0) =
  tst (m105 (a0, ((1 : Int), (999 : Int)))) false fun (q1 : Bool) => some (n106 q1) := by kernel_rfl
def g106 (m105 : (Int × Int × Int) → Option Bool) (L : Nat) (a0 : Int) : Option Bool :=
  tst (m105 (a0, ((1 : Int), (999 : Int)))) false fun (q1 : Bool) => some q1
theorem e106 (m105 : (Int × Int × Int) → Option Bool) (L : Nat) (a0 : Int) : evF prog (ev106 m105) (loopN L) f106 (a106.enc a0) = (g106 m105 L a0).map n106 := by
  rw [i106]; simp only [g106, map_bif, map_tst, map_bnd, Option.map_some, Option.map_none]
theorem s106 (m105 : (Int × Int × Int) → Option Bool) (h105 : Sat prog cxT 105 (c105 m105)) (m : Int → Option Bool) (hm : ∀ (x : Int) t, m x = some t → ∃ L, g106 m105 L x = some t) : Sat prog cxT 106 (c106 m) :=
  sat_t cxT_ok cxT_pok (by rfl) (fn := f106) rfl a106 n106 dd106 m (ev106 m105) (kok_cons h105 kok_nil) kwok_nil (fun L x => g106 m105 L x) (fun L x => e106 m105 L x) hm hs106
/-! loop.example/g00222/spec.l2Address -/
def ev107 (m105 : (Int × Int × Int) → Option Bool) : Env cxT := { Kc := kcOf [(105, c105 m105)], Kw := kwOf [], lv := fun i => [], xv := fun i => none }
theorem i107 (m105 : (Int × Int × Int) → Option Bool) (L : Nat) (a0 : Int) : evF prog (ev107 m105) (loopN L) f107 (a107.enc a0) =
  tst (m105 (a0, ((0 : Int), (4294967295 : Int)))) false fun (q1 : Bool) => some (n107 q1) := by kernel_rfl
def g107 (m105 : (Int × Int × Int) → Option Bool) (L : Nat) (a0 : Int) : Option Bool :=
  tst (m105 (a0, ((0 : Int), (4294967295 : Int)))) false fun (q1 : Bool) => some q1
theorem e107 (m105 : (Int × Int × Int) → Option Bool) (L : Nat) (a0 : Int) : evF prog (ev107 m105) (loopN L) f107 (a107.enc a0) = (g107 m105 L a0).map n107 := by
  rw [i107]; simp only [g107, map_bif, map_tst, map_bnd, Option.map_some, Option.map_none]
theorem s107 (m105 : (Int × Int × Int) → Option Bool) (h105 : Sat prog cxT 105 (c105 m105)) (m : Int → Option Bool) (hm : ∀ (x : Int) t, m x = some t → ∃ L, g107 m105 L x = some t) : Sat prog cxT 107 (c107 m) :=
  sat_t cxT_ok cxT_pok (by rfl) (fn := f107) rfl a107 n107 dd107 m (ev107 m105) (kok_cons h105 kok_nil) kwok_nil (fun L x => g107 m105 L x) (fun L x => e107 m105 L x) hm hs107
/-! loop.example/g00222/spec.l5Proto -/
def ev109 : Env cxT := { Kc := kcOf [], Kw := kwOf [], lv := fun i => [], xv := fun i => none }
theorem i109 (L : Nat) (a0 : Int) : evF prog ev109 (loopN L) f109 (a109.enc a0) =
  bif (a0 == (6 : Int)) then some (n109 Bool.true)
  else some (n109 (a0 == (17 : Int))) := by kernel_rfl
def g109 (L : Nat) (a0 : Int) : Option Bool :=
  bif (a0 == (6 : Int)) then some Bool.true
  else some (a0 == (17 : Int))
theorem e109 (L : Nat) (a0 : Int) : evF prog ev109 (loopN L) f109 (a109.enc a0) = (g109 L a0).map n109 := by
  rw [i109]; simp only [g109, map_bif, map_tst, map_bnd, Option.map_some, Option.map_none]
theorem s109 (m : Int → Option Bool) (hm : ∀ (x : Int) t, m x = some t → ∃ L, g109 L x = some t) : Sat prog cxT 109 (c109 m) :=
  sat_t cxT_ok cxT_pok (by rfl) (fn := f109) rfl a109 n109 dd109 m ev109 kok_nil kwok_nil (fun L x => g109 L x) (fun L x => e109 L x) hm hs109
/-! loop.example/g00222/spec.l2Port -/
def ev150 (m105 : (Int × Int × Int) → Option Bool) : Env cxT := { Kc := kcOf [(105, c105 m105)], Kw := kwOf [], lv := fun i => [], xv := fun i => none }
theorem i150 (m105 : (Int × Int × Int) → Option Bool) (L : Nat) (a0 : Int) : evF prog (ev150 m105) (loopN L) f150 (a150.enc a0) =
  tst (m105 (a0, ((0 : Int), (65535 : Int)))) false fun (q1 : Bool) => some (n150 q1) := by kernel_rfl
def g150 (m105 : (Int × Int × Int) → Option Bool) (L : Nat) (a0 : Int) : Option Bool :=
  tst (m105 (a0, ((0 : Int), (65535 : Int)))) false fun (q1 : Bool) => some q1
theorem e150 (m105 : (Int × Int × Int) → Option Bool) (L : Nat) (a0 : Int) : evF prog (ev150 m105) (loopN L) f150 (a150.enc a0) = (g150 m105 L a0).map n150 := by
  rw [i150]; simp only [g150, map_bif, map_tst, map_bnd, Option.map_some, Option.map_none]
theorem s150 (m105 : (Int × Int × Int) → Option Bool) (h105 : Sat prog cxT 105 (c105 m105)) (m : Int → Option Bool) (hm : ∀ (x : Int) t, m x = some t → ∃ L, g150 m105 L x = some t) : Sat prog cxT 150 (c150 m) :=
  sat_t cxT_ok cxT_pok (by rfl) (fn := f150) rfl a150 n150 dd150 m (ev150 m105) (kok_cons h105 kok_nil) kwok_nil (fun L x => g150 m105 L x) (fun L x => e150 m105 L x) hm hs150
/-! loop.example/g00222/spec.l5Behind -/
def ev151 : Env cxT := { Kc := kcOf [], Kw := kwOf [], lv := fun i => [], xv := fun i => none }
theorem i151 (L : Nat) (a0_0 : Int) (a0_1 : Int) (a0_2 : Int) (a0_3 : (List Int)) (a1_0 : Int) (a1_1 : Int) (a1_2 : Int) (a1_3 : (List Int)) : evF prog ev151 (loopN L) f151 (a151.enc ((a0_0, a0_1, a0_2, a0_3), (a1_0, a1_1, a1_2, a1_3))) =
  bif (a0_0 != a1_0) then some (n151 (decide (a0_0 < a1_0)))
  else bif (a0_1 != a1_1) then some (n151 (decide (a0_1 < a1_1)))
  else some (n151 (decide (a0_2 < a1_2))) := by kernel_rfl
def g151 (L : Nat) (a0_0 : Int) (a0_1 : Int) (a0_2 : Int) (a0_3 : (List Int)) (a1_0 : Int) (a1_1 : Int) (a1_2 : Int) (a1_3 : (List Int)) : Option Bool :=
  bif (a0_0 != a1_0) then some (decide (a0_0 < a1_0))
  else bif (a0_1 != a1_1) then some (decide (a0_1 < a1_1))
  else some (decide (a0_2 < a1_2))
theorem e151 (L : Nat) (a0_0 : Int) (a0_1 : Int) (a0_2 : Int) (a0_3 : (List Int)) (a1_0 : Int) (a1_1 : Int) (a1_2 : Int) (a1_3 : (List Int)) : evF prog ev151 (loopN L) f151 (a151.enc ((a0_0, a0_1, a0_2, a0_3), (a1_0, a1_1, a1_2, a1_3))) = (g151 L a0_0 a0_1 a0_2 a0_3 a1_0 a1_1 a1_2 a1_3).map n151 := by
  rw [i151]; simp only [g151, map_bif, map_tst, map_bnd, Option.map_some, Option.map_none]
theorem s151 (m : ((Int × Int × Int × (List Int)) × (Int × Int × Int × (List Int))) → Option Bool) (hm : ∀ (x : ((Int × Int × Int × (List Int)) × (Int × Int × Int × (List Int)))) t, m x = some t → ∃ L, g151 L x.1.1 x.1.2.1 x.1.2.2.1 x.1.2.2.2 x.2.1 x.2.2.1 x.2.2.2.1 x.2.2.2.2 = some t) : Sat prog cxT 151 (c151 m) :=
  sat_t cxT_ok cxT_pok (by rfl) (fn := f151) rfl a151 n151 dd151 m ev151 kok_nil kwok_nil (fun L x => g151 L x.1.1 x.1.2.1 x.1.2.2.1 x.1.2.2.2 x.2.1 x.2.2.1 x.2.2.2.1 x.2.2.2.2) (fun L x => e151 L x.1.1 x.1.2.1 x.1.2.2.1 x.1.2.2.2 x.2.1 x.2.2.1 x.2.2.2.1 x.2.2.2.2) hm hs151
/-! loop.example/g00222/spec.l5Version -/
def ev99 (m105 : (Int × Int × Int) → Option Bool) : Env cxT := { Kc := kcOf [(105, c105 m105)], Kw := kwOf [], lv := fun i => [], xv := fun i => none }
theorem i99 (m105 : (Int × Int × Int) → Option Bool) (L : Nat) (a0 : Int) : evF prog (ev99 m105) (loopN L) f99 (a99.enc a0) =
  tst (m105 (a0, ((0 : Int), (1000000 : Int)))) false fun (q1 : Bool) => some (n99 q1) := by kernel_rfl
def g99 (m105 : (Int × Int × Int) → Option Bool) (L : Nat) (a0 : Int) : Option Bool :=
  tst (m105 (a0, ((0 : Int), (1000000 : Int)))) false fun (q1 : Bool) => some q1
theorem e99 (m105 : (Int × Int × Int) → Option Bool) (L : Nat) (a0 : Int) : evF prog (ev99 m105) (loopN L) f99 (a99.enc a0) = (g99 m105 L a0).map n99 := by
  rw [i99]; simp only [g99, map_bif, map_tst, map_bnd, Option.map_some, Option.map_none]
theorem s99 (m105 : (Int × Int × Int) → Option Bool) (h105 : Sat prog cxT 105 (c105 m105)) (m : Int → Option Bool) (hm : ∀ (x : Int) t, m x = some t → ∃ L, g99 m105 L x = some t) : Sat prog cxT 99 (c99 m) :=
  sat_t cxT_ok cxT_pok (by rfl) (fn := f99) rfl a99 n99 dd99 m (ev99 m105) (kok_cons h105 kok_nil) kwok_nil (fun L x => g99 m105 L x) (fun L x => e99 m105 L x) hm hs99
/-! loop.example/g00222/spec.l5Backend -/
def ev100 (m106 : Int → Option Bool) (m107 : Int → Option Bool) (m105 : (Int × Int × Int) → Option Bool) : Env cxT := { Kc := kcOf [(106, c106 m106), (107, c107 m107), (105, c105 m105)], Kw := kwOf [], lv := fun i => [], xv := fun i => none }
theorem i100 (m106 : Int → Option Bool) (m107 : Int → Option Bool) (m105 : (Int × Int × Int) → Option Bool) (L : Nat) (a0_0 : Int) (a0_1 : Int) (a0_2 : Int) (a0_3 : Int) (a0_4 : Bool) : evF prog (ev100 m106 m107 m105) (loopN L) f100 (a100.enc (a0_0, a0_1, a0_2, a0_3, a0_4)) =
  tst (m106 a0_0) false fun (q1 : Bool) => bif q1 then tst (m107 a0_1) false fun (q3 : Bool) => bif q3 then tst (m105 (a0_2, ((0 : Int), (9 : Int)))) false fun (q5 : Bool) => bif q5 then tst (m105 (a0_3, ((1 : Int), (3 : Int)))) false fun (q7 : Bool) => some (n100 q7)
            else some (n100 Bool.false)
        else some (n100 Bool.false)
    else some (n100 Bool.false) := by kernel_rfl
def g100 (m106 : Int → Option Bool) (m107 : Int → Option Bool) (m105 : (Int × Int × Int) → Option Bool) (L : Nat) (a0_0 : Int) (a0_1 : Int) (a0_2 : Int) (a0_3 : Int) (a0_4 : Bool) : Option Bool :=
  tst (m106 a0_0) false fun (q1 : Bool) => bif q1 then tst (m107 a0_1) false fun (q3 : Bool) => bif q3 then tst (m105 (a0_2, ((0 : Int), (9 : Int)))) false fun (q5 : Bool) => bif q5 then tst (m105 (a0_3, ((1 : Int), (3 : Int)))) false fun (q7 : Bool) => some q7
            else some Bool.false
        else some Bool.false
    else some Bool.false
theorem e100 (m106 : Int → Option Bool) (m107 : Int → Option Bool) (m105 : (Int × Int × Int) → Option Bool) (L : Nat) (a0_0 : Int) (a0_1 : Int) (a0_2 : Int) (a0_3 : Int) (a0_4 : Bool) : evF prog (ev100 m106 m107 m105) (loopN L) f100 (a100.enc (a0_0, a0_1, a0_2, a0_3, a0_4)) = (g100 m106 m107 m105 L a0_0 a0_1 a0_2 a0_3 a0_4).map n100 := by
  rw [i100]; simp only [g100, map_bif, map_tst, map_bnd, Option.map_some, Option.map_none]
theorem s100 (m106 : Int → Option Bool) (m107 : Int → Option Bool) (m105 : (Int × Int × Int) → Option Bool) (h106 : Sat prog cxT 106 (c106 m106)) (h107 : Sat prog cxT 107 (c107 m107)) (h105 : Sat prog cxT 105 (c105 m105)) (m : (Int × Int × Int × Int × Bool) → Option Bool) (hm : ∀ (x : (Int × Int × Int × Int × Bool)) t, m x = some t → ∃ L, g100 m106 m107 m105 L x.1 x.2.1 x.2.2.1 x.2.2.2.1 x.2.2.2.2 = some t) : Sat prog cxT 100 (c100 m) :=
  sat_t cxT_ok cxT_pok (by rfl) (fn := f100) rfl a100 n100 dd100 m (ev100 m106 m107 m105) (kok_cons h106 (kok_cons h107 (kok_cons h105 kok_nil))) kwok_nil (fun L x => g100 m106 m107 m105 L x.1 x.2.1 x.2.2.1 x.2.2.2.1 x.2.2.2.2) (fun L x => e100 m106 m107 m105 L x.1 x.2.1 x.2.2.1 x.2.2.2.1 x.2.2.2.2) hm hs100
/-! loop.example/g00222/spec.l5At -/
def ev53 : Env cxT := { Kc := kcOf [], Kw := kwOf [], lv := fun i => if i = 0 then [(0, [none, some 35, some 114]), (1, []), (5, [])] else [], xv := fun i => if i = 0 then some [] else none }
def S53_0 (a0 : (Int × ((List (Int × (Int × (Int × (Int × Bool))))) × (List (Int × (Int × (Int × (List Int)))))))) (a1 : Int) (v0_5 : Int) : St cxT.ty := { slots := [(.inr (.inr { kind := 2, nm := 0, cells := [], s := { own := 0, nm := 0, e := 27, o := false, xs := (List.cons a0 []) }, i := 0, off := 0 })), (.inl (.inl (lv (.int .i64 a1)))), junk, junk, junk, (.inl (.inl (lv (.int .i64 v0_5))))] ++ List.replicate 20 junk, D := [], F := [], ctr := 1 }
def X53_0 (a0 : (Int × ((List (Int × (Int × (Int × (Int × Bool))))) × (List (Int × (Int × (Int × (List Int)))))))) (a1 : Int) : St cxT.ty := { slots := [] ++ List.replicate 26 junk, D := [], F := [], ctr := 1 }
theorem i53 (L : Nat) (a0 : (Int × ((List (Int × (Int × (Int × (Int × Bool))))) × (List (Int × (Int × (Int × (List Int)))))))) (a1 : Int) : evF prog ev53 (loopN L) f53 (a53.enc (a0, a1)) =
  headF prog ev53 L f53 0 [1, 0, 1, 0, 0] (outK (outV prog f53) (topK prog ev53 L f53 [1, 0, 1] (outV prog f53)).n (topK prog ev53 L f53 [1, 0, 1] (outV prog f53)).x) L (S53_0 a0 a1 (0 : Int)) := by kernel_rfl
theorem r53_0 (L : Nat) (a0 : (Int × ((List (Int × (Int × (Int × (Int × Bool))))) × (List (Int × (Int × (Int × (List Int)))))))) (a1 : Int) (k : St cxT.ty → Option (V cxT.ty)) (xk : Nat → St cxT.ty → Option (V cxT.ty)) (g : St cxT.ty → Option (V cxT.ty)) (v0_5 : Int) : roundF prog ev53 L f53 0 [1, 0, 1, 0, 0] (outK (outV prog f53) k xk) g (S53_0 a0 a1 v0_5) =
  bif (decide (v0_5 < (Nat.cast (List.length a0.2.1) : Int))) then bif ((decide ((0 : Int) ≤ v0_5)) && (decide (v0_5 < (Nat.cast (List.length a0.2.1) : Int)))) then bif ((List.getD a0.2.1 (Int.toNat v0_5) ((0 : Int), ((0 : Int), ((0 : Int), ((0 : Int), Bool.false))))).1 == a1) then some (n53 v0_5)
      else g (S53_0 a0 a1 (Go.IntKind.wrap Go.IntKind.i64 (v0_5 + (1 : Int))))
    else none
  else k (X53_0 a0 a1) := by kernel_rfl
theorem t53_0 (L : Nat) (a0 : (Int × ((List (Int × (Int × (Int × (Int × Bool))))) × (List (Int × (Int × (Int × (List Int)))))))) (a1 : Int) : (topK prog ev53 L f53 [1, 0, 1] (outV prog f53)).n (X53_0 a0 a1) =
  some (n53 (-(1 : Int))) := by kernel_rfl
def l53_0 (L : Nat) (a0 : (Int × ((List (Int × (Int × (Int × (Int × Bool))))) × (List (Int × (Int × (Int × (List Int)))))))) (a1 : Int) : Nat → Int → (Option Int) → Option Int
  | 0, _, _ => none
  | n + 1, v0_5, k =>
    bif (decide (v0_5 < (Nat.cast (List.length a0.2.1) : Int))) then bif ((decide ((0 : Int) ≤ v0_5)) && (decide (v0_5 < (Nat.cast (List.length a0.2.1) : Int)))) then bif ((List.getD a0.2.1 (Int.toNat v0_5) ((0 : Int), ((0 : Int), ((0 : Int), ((0 : Int), Bool.false))))).1 == a1) then some v0_5
        else l53_0 L a0 a1 n (Go.IntKind.wrap Go.IntKind.i64 (v0_5 + (1 : Int))) k
      else none
    else k
theorem h53_0 (L : Nat) (a0 : (Int × ((List (Int × (Int × (Int × (Int × Bool))))) × (List (Int × (Int × (Int × (List Int)))))))) (a1 : Int) (k : St cxT.ty → Option (V cxT.ty)) (xk : Nat → St cxT.ty → Option (V cxT.ty)) (k' : Option Int) (hk : k (X53_0 a0 a1) = (k').map n53) : ∀ (n : Nat) (v0_5 : Int), headF prog ev53 L f53 0 [1, 0, 1, 0, 0] (outK (outV prog f53) k xk) n (S53_0 a0 a1 v0_5) = (l53_0 L a0 a1 n v0_5 k').map n53
  | 0, _ => rfl
  | n + 1, v0_5 => by
    rw [headF_round, r53_0]
    have ih := h53_0 L a0 a1 k xk k' hk n
    simp only [l53_0, map_bif, map_tst, map_bnd, Option.map_some, Option.map_none, ih, hk]
def g53 (L : Nat) (a0 : (Int × ((List (Int × (Int × (Int × (Int × Bool))))) × (List (Int × (Int × (Int × (List Int)))))))) (a1 : Int) : Option Int :=
  l53_0 L a0 a1 L (0 : Int) (some (-(1 : Int)))
theorem e53 (L : Nat) (a0 : (Int × ((List (Int × (Int × (Int × (Int × Bool))))) × (List (Int × (Int × (Int × (List Int)))))))) (a1 : Int) : evF prog ev53 (loopN L) f53 (a53.enc (a0, a1)) = (g53 L a0 a1).map n53 := by
  let K'0 : Option Int := (some (-(1 : Int)))
  have hin0 : ∀ (v0_5 : Int), headF prog ev53 L f53 0 [1, 0, 1, 0, 0] (outK (outV prog f53) (topK prog ev53 L f53 [1, 0, 1] (outV prog f53)).n (topK prog ev53 L f53 [1, 0, 1] (outV prog f53)).x) L (S53_0 a0 a1 v0_5) = (l53_0 L a0 a1 L v0_5 K'0).map n53 := fun v0_5 => h53_0 L a0 a1 _ _ K'0 (by rw [t53_0]; simp only [K'0, map_bif, map_tst, map_bnd, Option.map_some, Option.map_none]) L v0_5
  rw [i53]; simp only [g53, map_bif, map_tst, map_bnd, Option.map_some, Option.map_none, hin0, K'0]
theorem s53 (m : ((Int × ((List (Int × (Int × (Int × (Int × Bool))))) × (List (Int × (Int × (Int × (List Int))))))) × Int) → Option Int) (hm : ∀ (x : ((Int × ((List (Int × (Int × (Int × (Int × Bool))))) × (List (Int × (Int × (Int × (List Int))))))) × Int)) t, m x = some t → ∃ L, g53 L x.1 x.2 = some t) : Sat prog cxT 53 (c53 m) :=
  sat_t cxT_ok cxT_pok (by rfl) (fn := f53) rfl a53 n53 dd53 m ev53 kok_nil kwok_nil (fun L x => g53 L x.1 x.2) (fun L x => e53 L x.1 x.2) hm hs53
/-! loop.example/g00222/spec.l5Vip -/
def ev101 (m107 : Int → Option Bool) (m150 : Int → Option Bool) (m109 : Int → Option Bool) (m151 : ((Int × Int × Int × (List Int)) × (Int × Int × Int × (List Int))) → Option Bool) (m53 : ((Int × ((List (Int × (Int × (Int × (Int × Bool))))) × (List (Int × (Int × (Int × (List Int))))))) × Int) → Option Int) : Env cxT := { Kc := kcOf [(107, c107 m107), (150, c150 m150), (109, c109 m109), (151, c151 m151), (53, c53 m53)], Kw := kwOf [], lv := fun i => if i = 0 then [(0, [none, some 35, some 114]), (5, [none, none, none, some 2]), (6, [])] else if i = 2 then [(5, [none, none, none, some 2]), (7, [])] else [], xv := fun i => if i = 0 then some [(5, [none, none, none, some 2])] else if i = 2 then some [] else none }
def S101_0 (a0 : (Int × ((List (Int × (Int × (Int × (Int × Bool))))) × (List (Int × (Int × (Int × (List Int)))))))) (a1 : Int) (v0_5_0 : Int) (v0_5_1 : Int) (v0_5_2 : Int) (v0_5_3 : (List Int)) (v0_6 : Int) : St cxT.ty := { slots := [(.inr (.inr { kind := 2, nm := 0, cells := [], s := { own := 0, nm := 0, e := 27, o := false, xs := (List.cons a0 []) }, i := 0, off := 0 })), junk, junk, junk, junk, (.inr (.inr { kind := 0, nm := 320, cells := [(lv (.int .i64 v0_5_0)), (lv (.int .i64 v0_5_1)), (lv (.int .i64 v0_5_2)), (ls { own := 0, nm := 0, e := 2, o := false, xs := v0_5_3 })], s := { own := 0, nm := 0, e := 0, o := false, xs := ([] : List (PUnit)) }, i := 0, off := 0 })), (.inl (.inl (lv (.int .i64 v0_6))))] ++ List.replicate 73 junk, D := [], F := [], ctr := 1 }
def X101_0 (a0 : (Int × ((List (Int × (Int × (Int × (Int × Bool))))) × (List (Int × (Int × (Int × (List Int)))))))) (a1 : Int) (w0_5_0 : Int) (w0_5_1 : Int) (w0_5_2 : Int) (w0_5_3 : (List Int)) : St cxT.ty := { slots := [junk, junk, junk, junk, junk, (.inr (.inr { kind := 0, nm := 320, cells := [(lv (.int .i64 w0_5_0)), (lv (.int .i64 w0_5_1)), (lv (.int .i64 w0_5_2)), (ls { own := 0, nm := 0, e := 2, o := false, xs := w0_5_3 })], s := { own := 0, nm := 0, e := 0, o := false, xs := ([] : List (PUnit)) }, i := 0, off := 0 }))] ++ List.replicate 74 junk, D := [], F := [], ctr := 1 }
def S101_2 (a0 : (Int × ((List (Int × (Int × (Int × (Int × Bool))))) × (List (Int × (Int × (Int × (List Int)))))))) (a1 : Int) (v2_5_0 : Int) (v2_5_1 : Int) (v2_5_2 : Int) (v2_5_3 : (List Int)) (v2_7 : Int) : St cxT.ty := { slots := [junk, junk, junk, junk, junk, (.inr (.inr { kind := 0, nm := 320, cells := [(lv (.int .i64 v2_5_0)), (lv (.int .i64 v2_5_1)), (lv (.int .i64 v2_5_2)), (ls { own := 0, nm := 0, e := 2, o := false, xs := v2_5_3 })], s := { own := 0, nm := 0, e := 0, o := false, xs := ([] : List (PUnit)) }, i := 0, off := 0 })), junk, (.inl (.inl (lv (.int .i64 v2_7))))] ++ List.replicate 72 junk, D := [], F := [], ctr := 1 }
def X101_2 (a0 : (Int × ((List (Int × (Int × (Int × (Int × Bool))))) × (List (Int × (Int × (Int × (List Int)))))))) (a1 : Int) : St cxT.ty := { slots := [] ++ List.replicate 80 junk, D := [], F := [], ctr := 1 }
theorem i101 (m107 : Int → Option Bool) (m150 : Int → Option Bool) (m109 : Int → Option Bool) (m151 : ((Int × Int × Int × (List Int)) × (Int × Int × Int × (List Int))) → Option Bool) (m53 : ((Int × ((List (Int × (Int × (Int × (Int × Bool))))) × (List (Int × (Int × (Int × (List Int))))))) × Int) → Option Int) (L : Nat) (a0 : (Int × ((List (Int × (Int × (Int × (Int × Bool))))) × (List (Int × (Int × (Int × (List Int)))))))) (a1 : Int) : evF prog (ev101 m107 m150 m109 m151 m53) (loopN L) f101 (a101.enc (a0, a1)) =
  bif ((decide ((0 : Int) ≤ a1)) && (decide (a1 < (Nat.cast (List.length a0.2.2) : Int)))) then tst (m107 (List.getD a0.2.2 (Int.toNat a1) ((0 : Int), ((0 : Int), ((0 : Int), ([] : List (Int)))))).1) false fun (q2 : Bool) => bif (!q2) then some (n101 (3 : Int))
      else tst (m150 (List.getD a0.2.2 (Int.toNat a1) ((0 : Int), ((0 : Int), ((0 : Int), ([] : List (Int)))))).2.1) false fun (q3 : Bool) => bif (!q3) then some (n101 (3 : Int))
        else tst (m109 (List.getD a0.2.2 (Int.toNat a1) ((0 : Int), ((0 : Int), ((0 : Int), ([] : List (Int)))))).2.2.1) false fun (q4 : Bool) => bif (!q4) then some (n101 (3 : Int))
          else bif (decide (a1 > (0 : Int))) then bif ((decide ((0 : Int) ≤ (Go.IntKind.wrap Go.IntKind.i64 (a1 - (1 : Int))))) && (decide ((Go.IntKind.wrap Go.IntKind.i64 (a1 - (1 : Int))) < (Nat.cast (List.length a0.2.2) : Int)))) then tst (m151 (((List.getD a0.2.2 (Int.toNat (Go.IntKind.wrap Go.IntKind.i64 (a1 - (1 : Int)))) ((0 : Int), ((0 : Int), ((0 : Int), ([] : List (Int)))))).1, ((List.getD a0.2.2 (Int.toNat (Go.IntKind.wrap Go.IntKind.i64 (a1 - (1 : Int)))) ((0 : Int), ((0 : Int), ((0 : Int), ([] : List (Int)))))).2.1, ((List.getD a0.2.2 (Int.toNat (Go.IntKind.wrap Go.IntKind.i64 (a1 - (1 : Int)))) ((0 : Int), ((0 : Int), ((0 : Int), ([] : List (Int)))))).2.2.1, (List.getD a0.2.2 (Int.toNat (Go.IntKind.wrap Go.IntKind.i64 (a1 - (1 : Int)))) ((0 : Int), ((0 : Int), ((0 : Int), ([] : List (Int)))))).2.2.2))), ((List.getD a0.2.2 (Int.toNat a1) ((0 : Int), ((0 : Int), ((0 : Int), ([] : List (Int)))))).1, ((List.getD a0.2.2 (Int.toNat a1) ((0 : Int), ((0 : Int), ((0 : Int), ([] : List (Int)))))).2.1, ((List.getD a0.2.2 (Int.toNat a1) ((0 : Int), ((0 : Int), ((0 : Int), ([] : List (Int)))))).2.2.1, (List.getD a0.2.2 (Int.toNat a1) ((0 : Int), ((0 : Int), ((0 : Int), ([] : List (Int)))))).2.2.2))))) false fun (q7 : Bool) => bif (!q7) then some (n101 (1 : Int))
                else headF prog (ev101 m107 m150 m109 m151 m53) L f101 0 [1, 1, 1, 1, 0, 1, 0, 0] (outK (outV prog f101) (topK prog (ev101 m107 m150 m109 m151 m53) L f101 [1, 1, 1, 1, 0, 1] (outV prog f101)).n (topK prog (ev101 m107 m150 m109 m151 m53) L f101 [1, 1, 1, 1, 0, 1] (outV prog f101)).x) L (S101_0 a0 a1 (List.getD a0.2.2 (Int.toNat a1) ((0 : Int), ((0 : Int), ((0 : Int), ([] : List (Int)))))).1 (List.getD a0.2.2 (Int.toNat a1) ((0 : Int), ((0 : Int), ((0 : Int), ([] : List (Int)))))).2.1 (List.getD a0.2.2 (Int.toNat a1) ((0 : Int), ((0 : Int), ((0 : Int), ([] : List (Int)))))).2.2.1 (List.getD a0.2.2 (Int.toNat a1) ((0 : Int), ((0 : Int), ((0 : Int), ([] : List (Int)))))).2.2.2 (0 : Int))
            else none
          else headF prog (ev101 m107 m150 m109 m151 m53) L f101 0 [1, 1, 1, 1, 0, 1, 0, 0] (outK (outV prog f101) (topK prog (ev101 m107 m150 m109 m151 m53) L f101 [1, 1, 1, 1, 0, 1] (outV prog f101)).n (topK prog (ev101 m107 m150 m109 m151 m53) L f101 [1, 1, 1, 1, 0, 1] (outV prog f101)).x) L (S101_0 a0 a1 (List.getD a0.2.2 (Int.toNat a1) ((0 : Int), ((0 : Int), ((0 : Int), ([] : List (Int)))))).1 (List.getD a0.2.2 (Int.toNat a1) ((0 : Int), ((0 : Int), ((0 : Int), ([] : List (Int)))))).2.1 (List.getD a0.2.2 (Int.toNat a1) ((0 : Int), ((0 : Int), ((0 : Int), ([] : List (Int)))))).2.2.1 (List.getD a0.2.2 (Int.toNat a1) ((0 : Int), ((0 : Int), ((0 : Int), ([] : List (Int)))))).2.2.2 (0 : Int))
  else none := by kernel_rfl
theorem r101_0 (m107 : Int → Option Bool) (m150 : Int → Option Bool) (m109 : Int → Option Bool) (m151 : ((Int × Int × Int × (List Int)) × (Int × Int × Int × (List Int))) → Option Bool) (m53 : ((Int × ((List (Int × (Int × (Int × (Int × Bool))))) × (List (Int × (Int × (Int × (List Int))))))) × Int) → Option Int) (L : Nat) (a0 : (Int × ((List (Int × (Int × (Int × (Int × Bool))))) × (List (Int × (Int × (Int × (List Int)))))))) (a1 : Int) (k : St cxT.ty → Option (V cxT.ty)) (xk : Nat → St cxT.ty → Option (V cxT.ty)) (g : St cxT.ty → Option (V cxT.ty)) (v0_5_0 : Int) (v0_5_1 : Int) (v0_5_2 : Int) (v0_5_3 : (List Int)) (v0_6 : Int) : roundF prog (ev101 m107 m150 m109 m151 m53) L f101 0 [1, 1, 1, 1, 0, 1, 0, 0] (outK (outV prog f101) k xk) g (S101_0 a0 a1 v0_5_0 v0_5_1 v0_5_2 v0_5_3 v0_6) =
  bif (decide (v0_6 < (Nat.cast (List.length v0_5_3) : Int))) then bif ((decide ((0 : Int) ≤ v0_6)) && (decide (v0_6 < (Nat.cast (List.length v0_5_3) : Int)))) then tst (m53 (a0, (List.getD v0_5_3 (Int.toNat v0_6) (0 : Int)))) (0 : Int) fun (q3 : Int) => bif (decide (q3 < (0 : Int))) then some (n101 (4 : Int))
        else g (S101_0 a0 a1 v0_5_0 v0_5_1 v0_5_2 v0_5_3 (Go.IntKind.wrap Go.IntKind.i64 (v0_6 + (1 : Int))))
    else none
  else k (X101_0 a0 a1 v0_5_0 v0_5_1 v0_5_2 v0_5_3) := by kernel_rfl
theorem t101_0 (m107 : Int → Option Bool) (m150 : Int → Option Bool) (m109 : Int → Option Bool) (m151 : ((Int × Int × Int × (List Int)) × (Int × Int × Int × (List Int))) → Option Bool) (m53 : ((Int × ((List (Int × (Int × (Int × (Int × Bool))))) × (List (Int × (Int × (Int × (List Int))))))) × Int) → Option Int) (L : Nat) (a0 : (Int × ((List (Int × (Int × (Int × (Int × Bool))))) × (List (Int × (Int × (Int × (List Int)))))))) (a1 : Int) (w0_5_0 : Int) (w0_5_1 : Int) (w0_5_2 : Int) (w0_5_3 : (List Int)) : (topK prog (ev101 m107 m150 m109 m151 m53) L f101 [1, 1, 1, 1, 0, 1] (outV prog f101)).n (X101_0 a0 a1 w0_5_0 w0_5_1 w0_5_2 w0_5_3) =
  headF prog (ev101 m107 m150 m109 m151 m53) L f101 2 [1, 1, 1, 1, 1, 0, 1, 0, 0] (outK (outV prog f101) (topK prog (ev101 m107 m150 m109 m151 m53) L f101 [1, 1, 1, 1, 1, 0, 1] (outV prog f101)).n (topK prog (ev101 m107 m150 m109 m151 m53) L f101 [1, 1, 1, 1, 1, 0, 1] (outV prog f101)).x) L (S101_2 a0 a1 w0_5_0 w0_5_1 w0_5_2 w0_5_3 (1 : Int)) := by kernel_rfl
theorem r101_2 (m107 : Int → Option Bool) (m150 : Int → Option Bool) (m109 : Int → Option Bool) (m151 : ((Int × Int × Int × (List Int)) × (Int × Int × Int × (List Int))) → Option Bool) (m53 : ((Int × ((List (Int × (Int × (Int × (Int × Bool))))) × (List (Int × (Int × (Int × (List Int))))))) × Int) → Option Int) (L : Nat) (a0 : (Int × ((List (Int × (Int × (Int × (Int × Bool))))) × (List (Int × (Int × (Int × (List Int)))))))) (a1 : Int) (k : St cxT.ty → Option (V cxT.ty)) (xk : Nat → St cxT.ty → Option (V cxT.ty)) (g : St cxT.ty → Option (V cxT.ty)) (v2_5_0 : Int) (v2_5_1 : Int) (v2_5_2 : Int) (v2_5_3 : (List Int)) (v2_7 : Int) : roundF prog (ev101 m107 m150 m109 m151 m53) L f101 2 [1, 1, 1, 1, 1, 0, 1, 0, 0] (outK (outV prog f101) k xk) g (S101_2 a0 a1 v2_5_0 v2_5_1 v2_5_2 v2_5_3 v2_7) =
  bif (decide (v2_7 < (Nat.cast (List.length v2_5_3) : Int))) then bif ((decide ((0 : Int) ≤ v2_7)) && (decide (v2_7 < (Nat.cast (List.length v2_5_3) : Int)))) then bif ((decide ((0 : Int) ≤ (Go.IntKind.wrap Go.IntKind.i64 (v2_7 - (1 : Int))))) && (decide ((Go.IntKind.wrap Go.IntKind.i64 (v2_7 - (1 : Int))) < (Nat.cast (List.length v2_5_3) : Int)))) then bif (decide ((List.getD v2_5_3 (Int.toNat v2_7) (0 : Int)) ≤ (List.getD v2_5_3 (Int.toNat (Go.IntKind.wrap Go.IntKind.i64 (v2_7 - (1 : Int)))) (0 : Int)))) then some (n101 (1 : Int))
        else g (S101_2 a0 a1 v2_5_0 v2_5_1 v2_5_2 v2_5_3 (Go.IntKind.wrap Go.IntKind.i64 (v2_7 + (1 : Int))))
      else none
    else none
  else k (X101_2 a0 a1) := by kernel_rfl
theorem t101_2 (m107 : Int → Option Bool) (m150 : Int → Option Bool) (m109 : Int → Option Bool) (m151 : ((Int × Int × Int × (List Int)) × (Int × Int × Int × (List Int))) → Option Bool) (m53 : ((Int × ((List (Int × (Int × (Int × (Int × Bool))))) × (List (Int × (Int × (Int × (List Int))))))) × Int) → Option Int) (L : Nat) (a0 : (Int × ((List (Int × (Int × (Int × (Int × Bool))))) × (List (Int × (Int × (Int × (List Int)))))))) (a1 : Int) : (topK prog (ev101 m107 m150 m109 m151 m53) L f101 [1, 1, 1, 1, 1, 0, 1] (outV prog f101)).n (X101_2 a0 a1) =
  some (n101 (0 : Int)) := by kernel_rfl
def l101_2 (m107 : Int → Option Bool) (m150 : Int → Option Bool) (m109 : Int → Option Bool) (m151 : ((Int × Int × Int × (List Int)) × (Int × Int × Int × (List Int))) → Option Bool) (m53 : ((Int × ((List (Int × (Int × (Int × (Int × Bool))))) × (List (Int × (Int × (Int × (List Int))))))) × Int) → Option Int) (L : Nat) (a0 : (Int × ((List (Int × (Int × (Int × (Int × Bool))))) × (List (Int × (Int × (Int × (List Int)))))))) (a1 : Int) : Nat → Int → Int → Int → (List Int) → Int → (Option Int) → Option Int
  | 0, _, _, _, _, _, _ => none
  | n + 1, v2_5_0, v2_5_1, v2_5_2, v2_5_3, v2_7, k =>
    bif (decide (v2_7 < (Nat.cast (List.length v2_5_3) : Int))) then bif ((decide ((0 : Int) ≤ v2_7)) && (decide (v2_7 < (Nat.cast (List.length v2_5_3) : Int)))) then bif ((decide ((0 : Int) ≤ (Go.IntKind.wrap Go.IntKind.i64 (v2_7 - (1 : Int))))) && (decide ((Go.IntKind.wrap Go.IntKind.i64 (v2_7 - (1 : Int))) < (Nat.cast (List.length v2_5_3) : Int)))) then bif (decide ((List.getD v2_5_3 (Int.toNat v2_7) (0 : Int)) ≤ (List.getD v2_5_3 (Int.toNat (Go.IntKind.wrap Go.IntKind.i64 (v2_7 - (1 : Int)))) (0 : Int)))) then some (1 : Int)
          else l101_2 m107 m150 m109 m151 m53 L a0 a1 n v2_5_0 v2_5_1 v2_5_2 v2_5_3 (Go.IntKind.wrap Go.IntKind.i64 (v2_7 + (1 : Int))) k
        else none
      else none
    else k
theorem h101_2 (m107 : Int → Option Bool) (m150 : Int → Option Bool) (m109 : Int → Option Bool) (m151 : ((Int × Int × Int × (List Int)) × (Int × Int × Int × (List Int))) → Option Bool) (m53 : ((Int × ((List (Int × (Int × (Int × (Int × Bool))))) × (List (Int × (Int × (Int × (List Int))))))) × Int) → Option Int) (L : Nat) (a0 : (Int × ((List (Int × (Int × (Int × (Int × Bool))))) × (List (Int × (Int × (Int × (List Int)))))))) (a1 : Int) (k : St cxT.ty → Option (V cxT.ty)) (xk : Nat → St cxT.ty → Option (V cxT.ty)) (k' : Option Int) (hk : k (X101_2 a0 a1) = (k').map n101) : ∀ (n : Nat) (v2_5_0 : Int) (v2_5_1 : Int) (v2_5_2 : Int) (v2_5_3 : (List Int)) (v2_7 : Int), headF prog (ev101 m107 m150 m109 m151 m53) L f101 2 [1, 1, 1, 1, 1, 0, 1, 0, 0] (outK (outV prog f101) k xk) n (S101_2 a0 a1 v2_5_0 v2_5_1 v2_5_2 v2_5_3 v2_7) = (l101_2 m107 m150 m109 m151 m53 L a0 a1 n v2_5_0 v2_5_1 v2_5_2 v2_5_3 v2_7 k').map n101
  | 0, _, _, _, _, _ => rfl
  | n + 1, v2_5_0, v2_5_1, v2_5_2, v2_5_3, v2_7 => by
    rw [headF_round, r101_2]
    have ih := h101_2 m107 m150 m109 m151 m53 L a0 a1 k xk k' hk n
    simp only [l101_2, map_bif, map_tst, map_bnd, Option.map_some, Option.map_none, ih, hk]
def l101_0 (m107 : Int → Option Bool) (m150 : Int → Option Bool) (m109 : Int → Option Bool) (m151 : ((Int × Int × Int × (List Int)) × (Int × Int × Int × (List Int))) → Option Bool) (m53 : ((Int × ((List (Int × (Int × (Int × (Int × Bool))))) × (List (Int × (Int × (Int × (List Int))))))) × Int) → Option Int) (L : Nat) (a0 : (Int × ((List (Int × (Int × (Int × (Int × Bool))))) × (List (Int × (Int × (Int × (List Int)))))))) (a1 : Int) : Nat → Int → Int → Int → (List Int) → Int → (Int → Int → Int → (List Int) → Option Int) → Option Int
  | 0, _, _, _, _, _, _ => none
  | n + 1, v0_5_0, v0_5_1, v0_5_2, v0_5_3, v0_6, k =>
    bif (decide (v0_6 < (Nat.cast (List.length v0_5_3) : Int))) then bif ((decide ((0 : Int) ≤ v0_6)) && (decide (v0_6 < (Nat.cast (List.length v0_5_3) : Int)))) then tst (m53 (a0, (List.getD v0_5_3 (Int.toNat v0_6) (0 : Int)))) (0 : Int) fun (q4 : Int) => bif (decide (q4 < (0 : Int))) then some (4 : Int)
          else l101_0 m107 m150 m109 m151 m53 L a0 a1 n v0_5_0 v0_5_1 v0_5_2 v0_5_3 (Go.IntKind.wrap Go.IntKind.i64 (v0_6 + (1 : Int))) k
      else none
    else k v0_5_0 v0_5_1 v0_5_2 v0_5_3
theorem h101_0 (m107 : Int → Option Bool) (m150 : Int → Option Bool) (m109 : Int → Option Bool) (m151 : ((Int × Int × Int × (List Int)) × (Int × Int × Int × (List Int))) → Option Bool) (m53 : ((Int × ((List (Int × (Int × (Int × (Int × Bool))))) × (List (Int × (Int × (Int × (List Int))))))) × Int) → Option Int) (L : Nat) (a0 : (Int × ((List (Int × (Int × (Int × (Int × Bool))))) × (List (Int × (Int × (Int × (List Int)))))))) (a1 : Int) (k : St cxT.ty → Option (V cxT.ty)) (xk : Nat → St cxT.ty → Option (V cxT.ty)) (k' : Int → Int → Int → (List Int) → Option Int) (hk : ∀ (w0_5_0 : Int) (w0_5_1 : Int) (w0_5_2 : Int) (w0_5_3 : (List Int)), k (X101_0 a0 a1 w0_5_0 w0_5_1 w0_5_2 w0_5_3) = (k' w0_5_0 w0_5_1 w0_5_2 w0_5_3).map n101) : ∀ (n : Nat) (v0_5_0 : Int) (v0_5_1 : Int) (v0_5_2 : Int) (v0_5_3 : (List Int)) (v0_6 : Int), headF prog (ev101 m107 m150 m109 m151 m53) L f101 0 [1, 1, 1, 1, 0, 1, 0, 0] (outK (outV prog f101) k xk) n (S101_0 a0 a1 v0_5_0 v0_5_1 v0_5_2 v0_5_3 v0_6) = (l101_0 m107 m150 m109 m151 m53 L a0 a1 n v0_5_0 v0_5_1 v0_5_2 v0_5_3 v0_6 k').map n101
  | 0, _, _, _, _, _ => rfl
  | n + 1, v0_5_0, v0_5_1, v0_5_2, v0_5_3, v0_6 => by
    rw [headF_round, r101_0]
    have ih := h101_0 m107 m150 m109 m151 m53 L a0 a1 k xk k' hk n
    simp only [l101_0, map_bif, map_tst, map_bnd, Option.map_some, Option.map_none, ih, hk]
def g101 (m107 : Int → Option Bool) (m150 : Int → Option Bool) (m109 : Int → Option Bool) (m151 : ((Int × Int × Int × (List Int)) × (Int × Int × Int × (List Int))) → Option Bool) (m53 : ((Int × ((List (Int × (Int × (Int × (Int × Bool))))) × (List (Int × (Int × (Int × (List Int))))))) × Int) → Option Int) (L : Nat) (a0 : (Int × ((List (Int × (Int × (Int × (Int × Bool))))) × (List (Int × (Int × (Int × (List Int)))))))) (a1 : Int) : Option Int :=
  bif ((decide ((0 : Int) ≤ a1)) && (decide (a1 < (Nat.cast (List.length a0.2.2) : Int)))) then tst (m107 (List.getD a0.2.2 (Int.toNat a1) ((0 : Int), ((0 : Int), ((0 : Int), ([] : List (Int)))))).1) false fun (q2 : Bool) => bif (!q2) then some (3 : Int)
      else tst (m150 (List.getD a0.2.2 (Int.toNat a1) ((0 : Int), ((0 : Int), ((0 : Int), ([] : List (Int)))))).2.1) false fun (q3 : Bool) => bif (!q3) then some (3 : Int)
        else tst (m109 (List.getD a0.2.2 (Int.toNat a1) ((0 : Int), ((0 : Int), ((0 : Int), ([] : List (Int)))))).2.2.1) false fun (q4 : Bool) => bif (!q4) then some (3 : Int)
          else bif (decide (a1 > (0 : Int))) then bif ((decide ((0 : Int) ≤ (Go.IntKind.wrap Go.IntKind.i64 (a1 - (1 : Int))))) && (decide ((Go.IntKind.wrap Go.IntKind.i64 (a1 - (1 : Int))) < (Nat.cast (List.length a0.2.2) : Int)))) then tst (m151 (((List.getD a0.2.2 (Int.toNat (Go.IntKind.wrap Go.IntKind.i64 (a1 - (1 : Int)))) ((0 : Int), ((0 : Int), ((0 : Int), ([] : List (Int)))))).1, ((List.getD a0.2.2 (Int.toNat (Go.IntKind.wrap Go.IntKind.i64 (a1 - (1 : Int)))) ((0 : Int), ((0 : Int), ((0 : Int), ([] : List (Int)))))).2.1, ((List.getD a0.2.2 (Int.toNat (Go.IntKind.wrap Go.IntKind.i64 (a1 - (1 : Int)))) ((0 : Int), ((0 : Int), ((0 : Int), ([] : List (Int)))))).2.2.1, (List.getD a0.2.2 (Int.toNat (Go.IntKind.wrap Go.IntKind.i64 (a1 - (1 : Int)))) ((0 : Int), ((0 : Int), ((0 : Int), ([] : List (Int)))))).2.2.2))), ((List.getD a0.2.2 (Int.toNat a1) ((0 : Int), ((0 : Int), ((0 : Int), ([] : List (Int)))))).1, ((List.getD a0.2.2 (Int.toNat a1) ((0 : Int), ((0 : Int), ((0 : Int), ([] : List (Int)))))).2.1, ((List.getD a0.2.2 (Int.toNat a1) ((0 : Int), ((0 : Int), ((0 : Int), ([] : List (Int)))))).2.2.1, (List.getD a0.2.2 (Int.toNat a1) ((0 : Int), ((0 : Int), ((0 : Int), ([] : List (Int)))))).2.2.2))))) false fun (q7 : Bool) => bif (!q7) then some (1 : Int)
                else l101_0 m107 m150 m109 m151 m53 L a0 a1 L (List.getD a0.2.2 (Int.toNat a1) ((0 : Int), ((0 : Int), ((0 : Int), ([] : List (Int)))))).1 (List.getD a0.2.2 (Int.toNat a1) ((0 : Int), ((0 : Int), ((0 : Int), ([] : List (Int)))))).2.1 (List.getD a0.2.2 (Int.toNat a1) ((0 : Int), ((0 : Int), ((0 : Int), ([] : List (Int)))))).2.2.1 (List.getD a0.2.2 (Int.toNat a1) ((0 : Int), ((0 : Int), ((0 : Int), ([] : List (Int)))))).2.2.2 (0 : Int) (fun (w0_5_0 : Int) (w0_5_1 : Int) (w0_5_2 : Int) (w0_5_3 : (List Int)) => l101_2 m107 m150 m109 m151 m53 L a0 a1 L w0_5_0 w0_5_1 w0_5_2 w0_5_3 (1 : Int) (some (0 : Int)))
            else none
          else l101_0 m107 m150 m109 m151 m53 L a0 a1 L (List.getD a0.2.2 (Int.toNat a1) ((0 : Int), ((0 : Int), ((0 : Int), ([] : List (Int)))))).1 (List.getD a0.2.2 (Int.toNat a1) ((0 : Int), ((0 : Int), ((0 : Int), ([] : List (Int)))))).2.1 (List.getD a0.2.2 (Int.toNat a1) ((0 : Int), ((0 : Int), ((0 : Int), ([] : List (Int)))))).2.2.1 (List.getD a0.2.2 (Int.toNat a1) ((0 : Int), ((0 : Int), ((0 : Int), ([] : List (Int)))))).2.2.2 (0 : Int) (fun (w0_5_0 : Int) (w0_5_1 : Int) (w0_5_2 : Int) (w0_5_3 : (List Int)) => l101_2 m107 m150 m109 m151 m53 L a0 a1 L w0_5_0 w0_5_1 w0_5_2 w0_5_3 (1 : Int) (some (0 : Int)))
  else none
theorem e101 (m107 : Int → Option Bool) (m150 : Int → Option Bool) (m109 : Int → Option Bool) (m151 : ((Int × Int × Int × (List Int)) × (Int × Int × Int × (List Int))) → Option Bool) (m53 : ((Int × ((List (Int × (Int × (Int × (Int × Bool))))) × (List (Int × (Int × (Int × (List Int))))))) × Int) → Option Int) (L : Nat) (a0 : (Int × ((List (Int × (Int × (Int × (Int × Bool))))) × (List (Int × (Int × (Int × (List Int)))))))) (a1 : Int) : evF prog (ev101 m107 m150 m109 m151 m53) (loopN L) f101 (a101.enc (a0, a1)) = (g101 m107 m150 m109 m151 m53 L a0 a1).map n101 := by
  let K'2 : Option Int := (some (0 : Int))
  have hin2 : ∀ (v2_5_0 : Int) (v2_5_1 : Int) (v2_5_2 : Int) (v2_5_3 : (List Int)) (v2_7 : Int), headF prog (ev101 m107 m150 m109 m151 m53) L f101 2 [1, 1, 1, 1, 1, 0, 1, 0, 0] (outK (outV prog f101) (topK prog (ev101 m107 m150 m109 m151 m53) L f101 [1, 1, 1, 1, 1, 0, 1] (outV prog f101)).n (topK prog (ev101 m107 m150 m109 m151 m53) L f101 [1, 1, 1, 1, 1, 0, 1] (outV prog f101)).x) L (S101_2 a0 a1 v2_5_0 v2_5_1 v2_5_2 v2_5_3 v2_7) = (l101_2 m107 m150 m109 m151 m53 L a0 a1 L v2_5_0 v2_5_1 v2_5_2 v2_5_3 v2_7 K'2).map n101 := fun v2_5_0 v2_5_1 v2_5_2 v2_5_3 v2_7 => h101_2 m107 m150 m109 m151 m53 L a0 a1 _ _ K'2 (by rw [t101_2]; simp only [K'2, map_bif, map_tst, map_bnd, Option.map_some, Option.map_none]) L v2_5_0 v2_5_1 v2_5_2 v2_5_3 v2_7
  let K'0 : Int → Int → Int → (List Int) → Option Int := (fun (w0_5_0 : Int) (w0_5_1 : Int) (w0_5_2 : Int) (w0_5_3 : (List Int)) => l101_2 m107 m150 m109 m151 m53 L a0 a1 L w0_5_0 w0_5_1 w0_5_2 w0_5_3 (1 : Int) (some (0 : Int)))
  have hin0 : ∀ (v0_5_0 : Int) (v0_5_1 : Int) (v0_5_2 : Int) (v0_5_3 : (List Int)) (v0_6 : Int), headF prog (ev101 m107 m150 m109 m151 m53) L f101 0 [1, 1, 1, 1, 0, 1, 0, 0] (outK (outV prog f101) (topK prog (ev101 m107 m150 m109 m151 m53) L f101 [1, 1, 1, 1, 0, 1] (outV prog f101)).n (topK prog (ev101 m107 m150 m109 m151 m53) L f101 [1, 1, 1, 1, 0, 1] (outV prog f101)).x) L (S101_0 a0 a1 v0_5_0 v0_5_1 v0_5_2 v0_5_3 v0_6) = (l101_0 m107 m150 m109 m151 m53 L a0 a1 L v0_5_0 v0_5_1 v0_5_2 v0_5_3 v0_6 K'0).map n101 := fun v0_5_0 v0_5_1 v0_5_2 v0_5_3 v0_6 => h101_0 m107 m150 m109 m151 m53 L a0 a1 _ _ K'0 (fun w0_5_0 w0_5_1 w0_5_2 w0_5_3 => by rw [t101_0]; simp only [K'0, map_bif, map_tst, map_bnd, Option.map_some, Option.map_none, hin2, K'2]) L v0_5_0 v0_5_1 v0_5_2 v0_5_3 v0_6
  rw [i101]; simp only [g101, map_bif, map_tst, map_bnd, Option.map_some, Option.map_none, hin2, K'2, hin0, K'0]
theorem s101 (m107 : Int → Option Bool) (m150 : Int → Option Bool) (m109 : Int → Option Bool) (m151 : ((Int × Int × Int × (List Int)) × (Int × Int × Int × (List Int))) → Option Bool) (m53 : ((Int × ((List (Int × (Int × (Int × (Int × Bool))))) × (List (Int × (Int × (Int × (List Int))))))) × Int) → Option Int) (h107 : Sat prog cxT 107 (c107 m107)) (h150 : Sat prog cxT 150 (c150 m150)) (h109 : Sat prog cxT 109 (c109 m109)) (h151 : Sat prog cxT 151 (c151 m151)) (h53 : Sat prog cxT 53 (c53 m53)) (m : ((Int × ((List (Int × (Int × (Int × (Int × Bool))))) × (List (Int × (Int × (Int × (List Int))))))) × Int) → Option Int) (hm : ∀ (x : ((Int × ((List (Int × (Int × (Int × (Int × Bool))))) × (List (Int × (Int × (Int × (List Int))))))) × Int)) t, m x = some t → ∃ L, g101 m107 m150 m109 m151 m53 L x.1 x.2 = some t) : Sat prog cxT 101 (c101 m) :=
  sat_t cxT_ok cxT_pok (by rfl) (fn := f101) rfl a101 n101 dd101 m (ev101 m107 m150 m109 m151 m53) (kok_cons h107 (kok_cons h150 (kok_cons h109 (kok_cons h151 (kok_cons h53 kok_nil))))) kwok_nil (fun L x => g101 m107 m150 m109 m151 m53 L x.1 x.2) (fun L x => e101 m107 m150 m109 m151 m53 L x.1 x.2) hm hs101
/-! loop.example/g00222/spec.l5Fault -/
def ev52 (m99 : Int → Option Bool) (m100 : (Int × Int × Int × Int × Bool) → Option Bool) (m101 : ((Int × ((List (Int × (Int × (Int × (Int × Bool))))) × (List (Int × (Int × (Int × (List Int))))))) × Int) → Option Int) : Env cxT := { Kc := kcOf [(99, c99 m99), (100, c100 m100), (101, c101 m101)], Kw := kwOf [], lv := fun i => if i = 0 then [(0, [none, some 35, some 114]), (3, [])] else if i = 2 then [(0, [none, some 35, some 114]), (4, [])] else [], xv := fun i => if i = 0 then some [(0, [none, some 35, some 114])] else if i = 2 then some [] else none }
def S52_0 (a0 : (Int × ((List (Int × (Int × (Int × (Int × Bool))))) × (List (Int × (Int × (Int × (List Int)))))))) (v0_3 : Int) : St cxT.ty := { slots := [(.inr (.inr { kind := 2, nm := 0, cells := [], s := { own := 0, nm := 0, e := 27, o := false, xs := (List.cons a0 []) }, i := 0, off := 0 })), junk, junk, (.inl (.inl (lv (.int .i64 v0_3))))] ++ List.replicate 77 junk, D := [], F := [], ctr := 1 }
def X52_0 (a0 : (Int × ((List (Int × (Int × (Int × (Int × Bool))))) × (List (Int × (Int × (Int × (List Int)))))))) : St cxT.ty := { slots := [(.inr (.inr { kind := 2, nm := 0, cells := [], s := { own := 0, nm := 0, e := 27, o := false, xs := (List.cons a0 []) }, i := 0, off := 0 }))] ++ List.replicate 80 junk, D := [], F := [], ctr := 1 }
def S52_2 (a0 : (Int × ((List (Int × (Int × (Int × (Int × Bool))))) × (List (Int × (Int × (Int × (List Int)))))))) (v2_4 : Int) : St cxT.ty := { slots := [(.inr (.inr { kind := 2, nm := 0, cells := [], s := { own := 0, nm := 0, e := 27, o := false, xs := (List.cons a0 []) }, i := 0, off := 0 })), junk, junk, junk, (.inl (.inl (lv (.int .i64 v2_4))))] ++ List.replicate 76 junk, D := [], F := [], ctr := 1 }
def X52_2 (a0 : (Int × ((List (Int × (Int × (Int × (Int × Bool))))) × (List (Int × (Int × (Int × (List Int)))))))) : St cxT.ty := { slots := [] ++ List.replicate 81 junk, D := [], F := [], ctr := 1 }
theorem i52 (m99 : Int → Option Bool) (m100 : (Int × Int × Int × Int × Bool) → Option Bool) (m101 : ((Int × ((List (Int × (Int × (Int × (Int × Bool))))) × (List (Int × (Int × (Int × (List Int))))))) × Int) → Option Int) (L : Nat) (a0 : (Int × ((List (Int × (Int × (Int × (Int × Bool))))) × (List (Int × (Int × (Int × (List Int)))))))) : evF prog (ev52 m99 m100 m101) (loopN L) f52 (a52.enc a0) =
  tst (m99 a0.1) false fun (q1 : Bool) => bif (!q1) then some (n52 (3 : Int))
    else bif (decide ((Nat.cast (List.length a0.2.1) : Int) > (8 : Int))) then some (n52 (2 : Int))
    else bif (decide ((Nat.cast (List.length a0.2.2) : Int) > (4 : Int))) then some (n52 (2 : Int))
    else headF prog (ev52 m99 m100 m101) L f52 0 [1, 1, 1, 0, 1, 0, 0] (outK (outV prog f52) (topK prog (ev52 m99 m100 m101) L f52 [1, 1, 1, 0, 1] (outV prog f52)).n (topK prog (ev52 m99 m100 m101) L f52 [1, 1, 1, 0, 1] (outV prog f52)).x) L (S52_0 a0 (0 : Int)) := by kernel_rfl
theorem r52_0 (m99 : Int → Option Bool) (m100 : (Int × Int × Int × Int × Bool) → Option Bool) (m101 : ((Int × ((List (Int × (Int × (Int × (Int × Bool))))) × (List (Int × (Int × (Int × (List Int))))))) × Int) → Option Int) (L : Nat) (a0 : (Int × ((List (Int × (Int × (Int × (Int × Bool))))) × (List (Int × (Int × (Int × (List Int)))))))) (k : St cxT.ty → Option (V cxT.ty)) (xk : Nat → St cxT.ty → Option (V cxT.ty)) (g : St cxT.ty → Option (V cxT.ty)) (v0_3 : Int) : roundF prog (ev52 m99 m100 m101) L f52 0 [1, 1, 1, 0, 1, 0, 0] (outK (outV prog f52) k xk) g (S52_0 a0 v0_3) =
  bif (decide (v0_3 < (Nat.cast (List.length a0.2.1) : Int))) then bif ((decide ((0 : Int) ≤ v0_3)) && (decide (v0_3 < (Nat.cast (List.length a0.2.1) : Int)))) then tst (m100 ((List.getD a0.2.1 (Int.toNat v0_3) ((0 : Int), ((0 : Int), ((0 : Int), ((0 : Int), Bool.false))))).1, ((List.getD a0.2.1 (Int.toNat v0_3) ((0 : Int), ((0 : Int), ((0 : Int), ((0 : Int), Bool.false))))).2.1, ((List.getD a0.2.1 (Int.toNat v0_3) ((0 : Int), ((0 : Int), ((0 : Int), ((0 : Int), Bool.false))))).2.2.1, ((List.getD a0.2.1 (Int.toNat v0_3) ((0 : Int), ((0 : Int), ((0 : Int), ((0 : Int), Bool.false))))).2.2.2.1, (List.getD a0.2.1 (Int.toNat v0_3) ((0 : Int), ((0 : Int), ((0 : Int), ((0 : Int), Bool.false))))).2.2.2.2))))) false fun (q3 : Bool) => bif (!q3) then some (n52 (3 : Int))
        else bif (decide (v0_3 > (0 : Int))) then bif ((decide ((0 : Int) ≤ v0_3)) && (decide (v0_3 < (Nat.cast (List.length a0.2.1) : Int)))) then bif ((decide ((0 : Int) ≤ (Go.IntKind.wrap Go.IntKind.i64 (v0_3 - (1 : Int))))) && (decide ((Go.IntKind.wrap Go.IntKind.i64 (v0_3 - (1 : Int))) < (Nat.cast (List.length a0.2.1) : Int)))) then bif (decide ((List.getD a0.2.1 (Int.toNat v0_3) ((0 : Int), ((0 : Int), ((0 : Int), ((0 : Int), Bool.false))))).1 ≤ (List.getD a0.2.1 (Int.toNat (Go.IntKind.wrap Go.IntKind.i64 (v0_3 - (1 : Int)))) ((0 : Int), ((0 : Int), ((0 : Int), ((0 : Int), Bool.false))))).1)) then some (n52 (1 : Int))
              else g (S52_0 a0 (Go.IntKind.wrap Go.IntKind.i64 (v0_3 + (1 : Int))))
            else none
          else none
        else g (S52_0 a0 (Go.IntKind.wrap Go.IntKind.i64 (v0_3 + (1 : Int))))
    else none
  else k (X52_0 a0) := by kernel_rfl
theorem t52_0 (m99 : Int → Option Bool) (m100 : (Int × Int × Int × Int × Bool) → Option Bool) (m101 : ((Int × ((List (Int × (Int × (Int × (Int × Bool))))) × (List (Int × (Int × (Int × (List Int))))))) × Int) → Option Int) (L : Nat) (a0 : (Int × ((List (Int × (Int × (Int × (Int × Bool))))) × (List (Int × (Int × (Int × (List Int)))))))) : (topK prog (ev52 m99 m100 m101) L f52 [1, 1, 1, 0, 1] (outV prog f52)).n (X52_0 a0) =
  headF prog (ev52 m99 m100 m101) L f52 2 [1, 1, 1, 1, 0, 1, 0, 0] (outK (outV prog f52) (topK prog (ev52 m99 m100 m101) L f52 [1, 1, 1, 1, 0, 1] (outV prog f52)).n (topK prog (ev52 m99 m100 m101) L f52 [1, 1, 1, 1, 0, 1] (outV prog f52)).x) L (S52_2 a0 (0 : Int)) := by kernel_rfl
theorem r52_2 (m99 : Int → Option Bool) (m100 : (Int × Int × Int × Int × Bool) → Option Bool) (m101 : ((Int × ((List (Int × (Int × (Int × (Int × Bool))))) × (List (Int × (Int × (Int × (List Int))))))) × Int) → Option Int) (L : Nat) (a0 : (Int × ((List (Int × (Int × (Int × (Int × Bool))))) × (List (Int × (Int × (Int × (List Int)))))))) (k : St cxT.ty → Option (V cxT.ty)) (xk : Nat → St cxT.ty → Option (V cxT.ty)) (g : St cxT.ty → Option (V cxT.ty)) (v2_4 : Int) : roundF prog (ev52 m99 m100 m101) L f52 2 [1, 1, 1, 1, 0, 1, 0, 0] (outK (outV prog f52) k xk) g (S52_2 a0 v2_4) =
  bif (decide (v2_4 < (Nat.cast (List.length a0.2.2) : Int))) then tst (m101 (a0, v2_4)) (0 : Int) fun (q2 : Int) => bif (q2 != (0 : Int)) then some (n52 q2)
      else g (S52_2 a0 (Go.IntKind.wrap Go.IntKind.i64 (v2_4 + (1 : Int))))
  else k (X52_2 a0) := by kernel_rfl
theorem t52_2 (m99 : Int → Option Bool) (m100 : (Int × Int × Int × Int × Bool) → Option Bool) (m101 : ((Int × ((List (Int × (Int × (Int × (Int × Bool))))) × (List (Int × (Int × (Int × (List Int))))))) × Int) → Option Int) (L : Nat) (a0 : (Int × ((List (Int × (Int × (Int × (Int × Bool))))) × (List (Int × (Int × (Int × (List Int)))))))) : (topK prog (ev52 m99 m100 m101) L f52 [1, 1, 1, 1, 0, 1] (outV prog f52)).n (X52_2 a0) =
  some (n52 (0 : Int)) := by kernel_rfl
def l52_2 (m99 : Int → Option Bool) (m100 : (Int × Int × Int × Int × Bool) → Option Bool) (m101 : ((Int × ((List (Int × (Int × (Int × (Int × Bool))))) × (List (Int × (Int × (Int × (List Int))))))) × Int) → Option Int) (L : Nat) (a0 : (Int × ((List (Int × (Int × (Int × (Int × Bool))))) × (List (Int × (Int × (Int × (List Int)))))))) : Nat → Int → (Option Int) → Option Int
  | 0, _, _ => none
  | n + 1, v2_4, k =>
    bif (decide (v2_4 < (Nat.cast (List.length a0.2.2) : Int))) then tst (m101 (a0, v2_4)) (0 : Int) fun (q3 : Int) => bif (q3 != (0 : Int)) then some q3
        else l52_2 m99 m100 m101 L a0 n (Go.IntKind.wrap Go.IntKind.i64 (v2_4 + (1 : Int))) k
    else k
theorem h52_2 (m99 : Int → Option Bool) (m100 : (Int × Int × Int × Int × Bool) → Option Bool) (m101 : ((Int × ((List (Int × (Int × (Int × (Int × Bool))))) × (List (Int × (Int × (Int × (List Int))))))) × Int) → Option Int) (L : Nat) (a0 : (Int × ((List (Int × (Int × (Int × (Int × Bool))))) × (List (Int × (Int × (Int × (List Int)))))))) (k : St cxT.ty → Option (V cxT.ty)) (xk : Nat → St cxT.ty → Option (V cxT.ty)) (k' : Option Int) (hk : k (X52_2 a0) = (k').map n52) : ∀ (n : Nat) (v2_4 : Int), headF prog (ev52 m99 m100 m101) L f52 2 [1, 1, 1, 1, 0, 1, 0, 0] (outK (outV prog f52) k xk) n (S52_2 a0 v2_4) = (l52_2 m99 m100 m101 L a0 n v2_4 k').map n52
  | 0, _ => rfl
  | n + 1, v2_4 => by
    rw [headF_round, r52_2]
    have ih := h52_2 m99 m100 m101 L a0 k xk k' hk n
    simp only [l52_2, map_bif, map_tst, map_bnd, Option.map_some, Option.map_none, ih, hk]
def l52_0 (m99 : Int → Option Bool) (m100 : (Int × Int × Int × Int × Bool) → Option Bool) (m101 : ((Int × ((List (Int × (Int × (Int × (Int × Bool))))) × (List (Int × (Int × (Int × (List Int))))))) × Int) → Option Int) (L : Nat) (a0 : (Int × ((List (Int × (Int × (Int × (Int × Bool))))) × (List (Int × (Int × (Int × (List Int)))))))) : Nat → Int → (Option Int) → Option Int
  | 0, _, _ => none
  | n + 1, v0_3, k =>
    bif (decide (v0_3 < (Nat.cast (List.length a0.2.1) : Int))) then bif ((decide ((0 : Int) ≤ v0_3)) && (decide (v0_3 < (Nat.cast (List.length a0.2.1) : Int)))) then tst (m100 ((List.getD a0.2.1 (Int.toNat v0_3) ((0 : Int), ((0 : Int), ((0 : Int), ((0 : Int), Bool.false))))).1, ((List.getD a0.2.1 (Int.toNat v0_3) ((0 : Int), ((0 : Int), ((0 : Int), ((0 : Int), Bool.false))))).2.1, ((List.getD a0.2.1 (Int.toNat v0_3) ((0 : Int), ((0 : Int), ((0 : Int), ((0 : Int), Bool.false))))).2.2.1, ((List.getD a0.2.1 (Int.toNat v0_3) ((0 : Int), ((0 : Int), ((0 : Int), ((0 : Int), Bool.false))))).2.2.2.1, (List.getD a0.2.1 (Int.toNat v0_3) ((0 : Int), ((0 : Int), ((0 : Int), ((0 : Int), Bool.false))))).2.2.2.2))))) false fun (q4 : Bool) => bif (!q4) then some (3 : Int)
          else bif (decide (v0_3 > (0 : Int))) then bif ((decide ((0 : Int) ≤ v0_3)) && (decide (v0_3 < (Nat.cast (List.length a0.2.1) : Int)))) then bif ((decide ((0 : Int) ≤ (Go.IntKind.wrap Go.IntKind.i64 (v0_3 - (1 : Int))))) && (decide ((Go.IntKind.wrap Go.IntKind.i64 (v0_3 - (1 : Int))) < (Nat.cast (List.length a0.2.1) : Int)))) then bif (decide ((List.getD a0.2.1 (Int.toNat v0_3) ((0 : Int), ((0 : Int), ((0 : Int), ((0 : Int), Bool.false))))).1 ≤ (List.getD a0.2.1 (Int.toNat (Go.IntKind.wrap Go.IntKind.i64 (v0_3 - (1 : Int)))) ((0 : Int), ((0 : Int), ((0 : Int), ((0 : Int), Bool.false))))).1)) then some (1 : Int)
                else l52_0 m99 m100 m101 L a0 n (Go.IntKind.wrap Go.IntKind.i64 (v0_3 + (1 : Int))) k
              else none
            else none
          else l52_0 m99 m100 m101 L a0 n (Go.IntKind.wrap Go.IntKind.i64 (v0_3 + (1 : Int))) k
      else none
    else k
theorem h52_0 (m99 : Int → Option Bool) (m100 : (Int × Int × Int × Int × Bool) → Option Bool) (m101 : ((Int × ((List (Int × (Int × (Int × (Int × Bool))))) × (List (Int × (Int × (Int × (List Int))))))) × Int) → Option Int) (L : Nat) (a0 : (Int × ((List (Int × (Int × (Int × (Int × Bool))))) × (List (Int × (Int × (Int × (List Int)))))))) (k : St cxT.ty → Option (V cxT.ty)) (xk : Nat → St cxT.ty → Option (V cxT.ty)) (k' : Option Int) (hk : k (X52_0 a0) = (k').map n52) : ∀ (n : Nat) (v0_3 : Int), headF prog (ev52 m99 m100 m101) L f52 0 [1, 1, 1, 0, 1, 0, 0] (outK (outV prog f52) k xk) n (S52_0 a0 v0_3) = (l52_0 m99 m100 m101 L a0 n v0_3 k').map n52
  | 0, _ => rfl
  | n + 1, v0_3 => by
    rw [headF_round, r52_0]
    have ih := h52_0 m99 m100 m101 L a0 k xk k' hk n
    simp only [l52_0, map_bif, map_tst, map_bnd, Option.map_some, Option.map_none, ih, hk]
def g52 (m99 : Int → Option Bool) (m100 : (Int × Int × Int × Int × Bool) → Option Bool) (m101 : ((Int × ((List (Int × (Int × (Int × (Int × Bool))))) × (List (Int × (Int × (Int × (List Int))))))) × Int) → Option Int) (L : Nat) (a0 : (Int × ((List (Int × (Int × (Int × (Int × Bool))))) × (List (Int × (Int × (Int × (List Int)))))))) : Option Int :=
  tst (m99 a0.1) false fun (q1 : Bool) => bif (!q1) then some (3 : Int)
    else bif (decide ((Nat.cast (List.length a0.2.1) : Int) > (8 : Int))) then some (2 : Int)
    else bif (decide ((Nat.cast (List.length a0.2.2) : Int) > (4 : Int))) then some (2 : Int)
    else l52_0 m99 m100 m101 L a0 L (0 : Int) (l52_2 m99 m100 m101 L a0 L (0 : Int) (some (0 : Int)))
theorem e52 (m99 : Int → Option Bool) (m100 : (Int × Int × Int × Int × Bool) → Option Bool) (m101 : ((Int × ((List (Int × (Int × (Int × (Int × Bool))))) × (List (Int × (Int × (Int × (List Int))))))) × Int) → Option Int) (L : Nat) (a0 : (Int × ((List (Int × (Int × (Int × (Int × Bool))))) × (List (Int × (Int × (Int × (List Int)))))))) : evF prog (ev52 m99 m100 m101) (loopN L) f52 (a52.enc a0) = (g52 m99 m100 m101 L a0).map n52 := by
  let K'2 : Option Int := (some (0 : Int))
  have hin2 : ∀ (v2_4 : Int), headF prog (ev52 m99 m100 m101) L f52 2 [1, 1, 1, 1, 0, 1, 0, 0] (outK (outV prog f52) (topK prog (ev52 m99 m100 m101) L f52 [1, 1, 1, 1, 0, 1] (outV prog f52)).n (topK prog (ev52 m99 m100 m101) L f52 [1, 1, 1, 1, 0, 1] (outV prog f52)).x) L (S52_2 a0 v2_4) = (l52_2 m99 m100 m101 L a0 L v2_4 K'2).map n52 := fun v2_4 => h52_2 m99 m100 m101 L a0 _ _ K'2 (by rw [t52_2]; simp only [K'2, map_bif, map_tst, map_bnd, Option.map_some, Option.map_none]) L v2_4
  let K'0 : Option Int := (l52_2 m99 m100 m101 L a0 L (0 : Int) (some (0 : Int)))
  have hin0 : ∀ (v0_3 : Int), headF prog (ev52 m99 m100 m101) L f52 0 [1, 1, 1, 0, 1, 0, 0] (outK (outV prog f52) (topK prog (ev52 m99 m100 m101) L f52 [1, 1, 1, 0, 1] (outV prog f52)).n (topK prog (ev52 m99 m100 m101) L f52 [1, 1, 1, 0, 1] (outV prog f52)).x) L (S52_0 a0 v0_3) = (l52_0 m99 m100 m101 L a0 L v0_3 K'0).map n52 := fun v0_3 => h52_0 m99 m100 m101 L a0 _ _ K'0 (by rw [t52_0]; simp only [K'0, map_bif, map_tst, map_bnd, Option.map_some, Option.map_none, hin2, K'2]) L v0_3
  rw [i52]; simp only [g52, map_bif, map_tst, map_bnd, Option.map_some, Option.map_none, hin2, K'2, hin0, K'0]
theorem s52 (m99 : Int → Option Bool) (m100 : (Int × Int × Int × Int × Bool) → Option Bool) (m101 : ((Int × ((List (Int × (Int × (Int × (Int × Bool))))) × (List (Int × (Int × (Int × (List Int))))))) × Int) → Option Int) (h99 : Sat prog cxT 99 (c99 m99)) (h100 : Sat prog cxT 100 (c100 m100)) (h101 : Sat prog cxT 101 (c101 m101)) (m : (Int × ((List (Int × (Int × (Int × (Int × Bool))))) × (List (Int × (Int × (Int × (List Int))))))) → Option Int) (hm : ∀ (x : (Int × ((List (Int × (Int × (Int × (Int × Bool))))) × (List (Int × (Int × (Int × (List Int)))))))) t, m x = some t → ∃ L, g52 m99 m100 m101 L x = some t) : Sat prog cxT 52 (c52 m) :=
  sat_t cxT_ok cxT_pok (by rfl) (fn := f52) rfl a52 n52 dd52 m (ev52 m99 m100 m101) (kok_cons h99 (kok_cons h100 (kok_cons h101 kok_nil))) kwok_nil (fun L x => g52 m99 m100 m101 L x) (fun L x => e52 m99 m100 m101 L x) hm hs52
/-! loop.example/g00222/impl.isName -/
def ev131 : Env cxT := { Kc := kcOf [], Kw := kwOf [], lv := fun i => [], xv := fun i => none }
theorem i131 (L : Nat) (a0 : Int) : evF prog ev131 (loopN L) f131 (a131.enc a0) =
  bif (decide (a0 ≥ (1 : Int))) then some (n131 (decide (a0 ≤ (999 : Int))))
  else some (n131 Bool.false) := by kernel_rfl
def g131 (L : Nat) (a0 : Int) : Option Bool :=
  bif (decide (a0 ≥ (1 : Int))) then some (decide (a0 ≤ (999 : Int)))
  else some Bool.false
theorem e131 (L : Nat) (a0 : Int) : evF prog ev131 (loopN L) f131 (a131.enc a0) = (g131 L a0).map n131 := by
  rw [i131]; simp only [g131, map_bif, map_tst, map_bnd, Option.map_some, Option.map_none]
theorem s131 (m : Int → Option Bool) (hm : ∀ (x : Int) t, m x = some t → ∃ L, g131 L x = some t) : Sat prog cxT 131 (c131 m) :=
  sat_t cxT_ok cxT_pok (by rfl) (fn := f131) rfl a131 n131 dd131 m ev131 kok_nil kwok_nil (fun L x => g131 L x) (fun L x => e131 L x) hm hs131
/-! loop.example/g00222/impl.isAddress -/
def ev132 : Env cxT := { Kc := kcOf [], Kw := kwOf [], lv := fun i => [], xv := fun i => none }
theorem i132 (L : Nat) (a0 : Int) : evF prog ev132 (loopN L) f132 (a132.enc a0) =
  bif (decide (a0 ≥ (0 : Int))) then some (n132 (decide (a0 ≤ (4294967295 : Int))))
  else some (n132 Bool.false) := by kernel_rfl
def g132 (L : Nat) (a0 : Int) : Option Bool :=
  bif (decide (a0 ≥ (0 : Int))) then some (decide (a0 ≤ (4294967295 : Int)))
  else some Bool.false
theorem e132 (L : Nat) (a0 : Int) : evF prog ev132 (loopN L) f132 (a132.enc a0) = (g132 L a0).map n132 := by
  rw [i132]; simp only [g132, map_bif, map_tst, map_bnd, Option.map_some, Option.map_none]
theorem s132 (m : Int → Option Bool) (hm : ∀ (x : Int) t, m x = some t → ∃ L, g132 L x = some t) : Sat prog cxT 132 (c132 m) :=
  sat_t cxT_ok cxT_pok (by rfl) (fn := f132) rfl a132 n132 dd132 m ev132 kok_nil kwok_nil (fun L x => g132 L x) (fun L x => e132 L x) hm hs132
/-! loop.example/g00222/impl.isWeight -/
def ev133 : Env cxT := { Kc := kcOf [], Kw := kwOf [], lv := fun i => [], xv := fun i => none }
theorem i133 (L : Nat) (a0 : Int) : evF prog ev133 (loopN L) f133 (a133.enc a0) =
  bif (decide (a0 ≥ (0 : Int))) then some (n133 (decide (a0 ≤ (9 : Int))))
  else some (n133 Bool.false) := by kernel_rfl
def g133 (L : Nat) (a0 : Int) : Option Bool :=
  bif (decide (a0 ≥ (0 : Int))) then some (decide (a0 ≤ (9 : Int)))
  else some Bool.false
theorem e133 (L : Nat) (a0 : Int) : evF prog ev133 (loopN L) f133 (a133.enc a0) = (g133 L a0).map n133 := by
  rw [i133]; simp only [g133, map_bif, map_tst, map_bnd, Option.map_some, Option.map_none]
theorem s133 (m : Int → Option Bool) (hm : ∀ (x : Int) t, m x = some t → ∃ L, g133 L x = some t) : Sat prog cxT 133 (c133 m) :=
  sat_t cxT_ok cxT_pok (by rfl) (fn := f133) rfl a133 n133 dd133 m ev133 kok_nil kwok_nil (fun L x => g133 L x) (fun L x => e133 L x) hm hs133
/-! loop.example/g00222/impl.isStage -/
def ev134 : Env cxT := { Kc := kcOf [], Kw := kwOf [], lv := fun i => [], xv := fun i => none }
theorem i134 (L : Nat) (a0 : Int) : evF prog ev134 (loopN L) f134 (a134.enc a0) =
  bif (decide (a0 ≥ (1 : Int))) then some (n134 (decide (a0 ≤ (3 : Int))))
  else some (n134 Bool.false) := by kernel_rfl
def g134 (L : Nat) (a0 : Int) : Option Bool :=
  bif (decide (a0 ≥ (1 : Int))) then some (decide (a0 ≤ (3 : Int)))
  else some Bool.false
theorem e134 (L : Nat) (a0 : Int) : evF prog ev134 (loopN L) f134 (a134.enc a0) = (g134 L a0).map n134 := by
  rw [i134]; simp only [g134, map_bif, map_tst, map_bnd, Option.map_some, Option.map_none]
theorem s134 (m : Int → Option Bool) (hm : ∀ (x : Int) t, m x = some t → ∃ L, g134 L x = some t) : Sat prog cxT 134 (c134 m) :=
  sat_t cxT_ok cxT_pok (by rfl) (fn := f134) rfl a134 n134 dd134 m ev134 kok_nil kwok_nil (fun L x => g134 L x) (fun L x => e134 L x) hm hs134
/-! loop.example/g00222/impl.isPort -/
def ev135 : Env cxT := { Kc := kcOf [], Kw := kwOf [], lv := fun i => [], xv := fun i => none }
theorem i135 (L : Nat) (a0 : Int) : evF prog ev135 (loopN L) f135 (a135.enc a0) =
  bif (decide (a0 ≥ (0 : Int))) then some (n135 (decide (a0 ≤ (65535 : Int))))
  else some (n135 Bool.false) := by kernel_rfl
def g135 (L : Nat) (a0 : Int) : Option Bool :=
  bif (decide (a0 ≥ (0 : Int))) then some (decide (a0 ≤ (65535 : Int)))
  else some Bool.false
theorem e135 (L : Nat) (a0 : Int) : evF prog ev135 (loopN L) f135 (a135.enc a0) = (g135 L a0).map n135 := by
  rw [i135]; simp only [g135, map_bif, map_tst, map_bnd, Option.map_some, Option.map_none]
theorem s135 (m : Int → Option Bool) (hm : ∀ (x : Int) t, m x = some t → ∃ L, g135 L x = some t) : Sat prog cxT 135 (c135 m) :=
  sat_t cxT_ok cxT_pok (by rfl) (fn := f135) rfl a135 n135 dd135 m ev135 kok_nil kwok_nil (fun L x => g135 L x) (fun L x => e135 L x) hm hs135
/-! loop.example/g00222/impl.isProto -/
def ev136 : Env cxT := { Kc := kcOf [], Kw := kwOf [], lv := fun i => [], xv := fun i => none }
theorem i136 (L : Nat) (a0 : Int) : evF prog ev136 (loopN L) f136 (a136.enc a0) =
  bif (a0 == (6 : Int)) then some (n136 Bool.true)
  else some (n136 (a0 == (17 : Int))) := by kernel_rfl
def g136 (L : Nat) (a0 : Int) : Option Bool :=
  bif (a0 == (6 : Int)) then some Bool.true
  else some (a0 == (17 : Int))
theorem e136 (L : Nat) (a0 : Int) : evF prog ev136 (loopN L) f136 (a136.enc a0) = (g136 L a0).map n136 := by
  rw [i136]; simp only [g136, map_bif, map_tst, map_bnd, Option.map_some, Option.map_none]
theorem s136 (m : Int → Option Bool) (hm : ∀ (x : Int) t, m x = some t → ∃ L, g136 L x = some t) : Sat prog cxT 136 (c136 m) :=
  sat_t cxT_ok cxT_pok (by rfl) (fn := f136) rfl a136 n136 dd136 m ev136 kok_nil kwok_nil (fun L x => g136 L x) (fun L x => e136 L x) hm hs136
/-! loop.example/g00222/impl.isVersion -/
def ev91 : Env cxT := { Kc := kcOf [], Kw := kwOf [], lv := fun i => [], xv := fun i => none }
theorem i91 (L : Nat) (a0 : Int) : evF prog ev91 (loopN L) f91 (a91.enc a0) =
  bif (decide (a0 ≥ (0 : Int))) then some (n91 (decide (a0 ≤ (1000000 : Int))))
  else some (n91 Bool.false) := by kernel_rfl
def g91 (L : Nat) (a0 : Int) : Option Bool :=
  bif (decide (a0 ≥ (0 : Int))) then some (decide (a0 ≤ (1000000 : Int)))
  else some Bool.false
theorem e91 (L : Nat) (a0 : Int) : evF prog ev91 (loopN L) f91 (a91.enc a0) = (g91 L a0).map n91 := by
  rw [i91]; simp only [g91, map_bif, map_tst, map_bnd, Option.map_some, Option.map_none]
theorem s91 (m : Int → Option Bool) (hm : ∀ (x : Int) t, m x = some t → ∃ L, g91 L x = some t) : Sat prog cxT 91 (c91 m) :=
  sat_t cxT_ok cxT_pok (by rfl) (fn := f91) rfl a91 n91 dd91 m ev91 kok_nil kwok_nil (fun L x => g91 L x) (fun L x => e91 L x) hm hs91
/-! loop.example/g00222/impl.isBackend -/
def ev92 (m131 : Int → Option Bool) (m132 : Int → Option Bool) (m133 : Int → Option Bool) (m134 : Int → Option Bool) : Env cxT := { Kc := kcOf [(131, c131 m131), (132, c132 m132), (133, c133 m133), (134, c134 m134)], Kw := kwOf [], lv := fun i => [], xv := fun i => none }
theorem i92 (m131 : Int → Option Bool) (m132 : Int → Option Bool) (m133 : Int → Option Bool) (m134 : Int → Option Bool) (L : Nat) (a0_0 : Int) (a0_1 : Int) (a0_2 : Int) (a0_3 : Int) (a0_4 : Bool) : evF prog (ev92 m131 m132 m133 m134) (loopN L) f92 (a92.enc (a0_0, a0_1, a0_2, a0_3, a0_4)) =
  tst (m131 a0_0) false fun (q1 : Bool) => bif q1 then tst (m132 a0_1) false fun (q3 : Bool) => bif q3 then tst (m133 a0_2) false fun (q5 : Bool) => bif q5 then tst (m134 a0_3) false fun (q7 : Bool) => some (n92 q7)
            else some (n92 Bool.false)
        else some (n92 Bool.false)
    else some (n92 Bool.false) := by kernel_rfl
def g92 (m131 : Int → Option Bool) (m132 : Int → Option Bool) (m133 : Int → Option Bool) (m134 : Int → Option Bool) (L : Nat) (a0_0 : Int) (a0_1 : Int) (a0_2 : Int) (a0_3 : Int) (a0_4 : Bool) : Option Bool :=
  tst (m131 a0_0) false fun (q1 : Bool) => bif q1 then tst (m132 a0_1) false fun (q3 : Bool) => bif q3 then tst (m133 a0_2) false fun (q5 : Bool) => bif q5 then tst (m134 a0_3) false fun (q7 : Bool) => some q7
            else some Bool.false
        else some Bool.false
    else some Bool.false
theorem e92 (m131 : Int → Option Bool) (m132 : Int → Option Bool) (m133 : Int → Option Bool) (m134 : Int → Option Bool) (L : Nat) (a0_0 : Int) (a0_1 : Int) (a0_2 : Int) (a0_3 : Int) (a0_4 : Bool) : evF prog (ev92 m131 m132 m133 m134) (loopN L) f92 (a92.enc (a0_0, a0_1, a0_2, a0_3, a0_4)) = (g92 m131 m132 m133 m134 L a0_0 a0_1 a0_2 a0_3 a0_4).map n92 := by
  rw [i92]; simp only [g92, map_bif, map_tst, map_bnd, Option.map_some, Option.map_none]
theorem s92 (m131 : Int → Option Bool) (m132 : Int → Option Bool) (m133 : Int → Option Bool) (m134 : Int → Option Bool) (h131 : Sat prog cxT 131 (c131 m131)) (h132 : Sat prog cxT 132 (c132 m132)) (h133 : Sat prog cxT 133 (c133 m133)) (h134 : Sat prog cxT 134 (c134 m134)) (m : (Int × Int × Int × Int × Bool) → Option Bool) (hm : ∀ (x : (Int × Int × Int × Int × Bool)) t, m x = some t → ∃ L, g92 m131 m132 m133 m134 L x.1 x.2.1 x.2.2.1 x.2.2.2.1 x.2.2.2.2 = some t) : Sat prog cxT 92 (c92 m) :=
  sat_t cxT_ok cxT_pok (by rfl) (fn := f92) rfl a92 n92 dd92 m (ev92 m131 m132 m133 m134) (kok_cons h131 (kok_cons h132 (kok_cons h133 (kok_cons h134 kok_nil)))) kwok_nil (fun L x => g92 m131 m132 m133 m134 L x.1 x.2.1 x.2.2.1 x.2.2.2.1 x.2.2.2.2) (fun L x => e92 m131 m132 m133 m134 L x.1 x.2.1 x.2.2.1 x.2.2.2.1 x.2.2.2.2) hm hs92
/-! loop.example/g00222/impl.isServed -/
def ev93 (m132 : Int → Option Bool) (m135 : Int → Option Bool) (m136 : Int → Option Bool) : Env cxT := { Kc := kcOf [(132, c132 m132), (135, c135 m135), (136, c136 m136)], Kw := kwOf [], lv := fun i => [], xv := fun i => none }
theorem i93 (m132 : Int → Option Bool) (m135 : Int → Option Bool) (m136 : Int → Option Bool) (L : Nat) (a0_0 : Int) (a0_1 : Int) (a0_2 : Int) (a0_3 : (List Int)) : evF prog (ev93 m132 m135 m136) (loopN L) f93 (a93.enc (a0_0, a0_1, a0_2, a0_3)) =
  tst (m132 a0_0) false fun (q1 : Bool) => bif q1 then tst (m135 a0_1) false fun (q3 : Bool) => bif q3 then tst (m136 a0_2) false fun (q5 : Bool) => some (n93 q5)
        else some (n93 Bool.false)
    else some (n93 Bool.false) := by kernel_rfl
def g93 (m132 : Int → Option Bool) (m135 : Int → Option Bool) (m136 : Int → Option Bool) (L : Nat) (a0_0 : Int) (a0_1 : Int) (a0_2 : Int) (a0_3 : (List Int)) : Option Bool :=
  tst (m132 a0_0) false fun (q1 : Bool) => bif q1 then tst (m135 a0_1) false fun (q3 : Bool) => bif q3 then tst (m136 a0_2) false fun (q5 : Bool) => some q5
        else some Bool.false
    else some Bool.false
theorem e93 (m132 : Int → Option Bool) (m135 : Int → Option Bool) (m136 : Int → Option Bool) (L : Nat) (a0_0 : Int) (a0_1 : Int) (a0_2 : Int) (a0_3 : (List Int)) : evF prog (ev93 m132 m135 m136) (loopN L) f93 (a93.enc (a0_0, a0_1, a0_2, a0_3)) = (g93 m132 m135 m136 L a0_0 a0_1 a0_2 a0_3).map n93 := by
  rw [i93]; simp only [g93, map_bif, map_tst, map_bnd, Option.map_some, Option.map_none]
theorem s93 (m132 : Int → Option Bool) (m135 : Int → Option Bool) (m136 : Int → Option Bool) (h132 : Sat prog cxT 132 (c132 m132)) (h135 : Sat prog cxT 135 (c135 m135)) (h136 : Sat prog cxT 136 (c136 m136)) (m : (Int × Int × Int × (List Int)) → Option Bool) (hm : ∀ (x : (Int × Int × Int × (List Int))) t, m x = some t → ∃ L, g93 m132 m135 m136 L x.1 x.2.1 x.2.2.1 x.2.2.2 = some t) : Sat prog cxT 93 (c93 m) :=
  sat_t cxT_ok cxT_pok (by rfl) (fn := f93) rfl a93 n93 dd93 m (ev93 m132 m135 m136) (kok_cons h132 (kok_cons h135 (kok_cons h136 kok_nil))) kwok_nil (fun L x => g93 m132 m135 m136 L x.1 x.2.1 x.2.2.1 x.2.2.2) (fun L x => e93 m132 m135 m136 L x.1 x.2.1 x.2.2.1 x.2.2.2) hm hs93
/-! cmp.isNaN[int64] -/
def ev152 : Env cxT := { Kc := kcOf [], Kw := kwOf [], lv := fun i => [], xv := fun i => none }
theorem i152 (L : Nat) (a0 : Int) : evF prog ev152 (loopN L) f152 (a152.enc a0) =
  some (n152 (a0 != a0)) := by kernel_rfl
def g152 (L : Nat) (a0 : Int) : Option Bool :=
  some (a0 != a0)
theorem e152 (L : Nat) (a0 : Int) : evF prog ev152 (loopN L) f152 (a152.enc a0) = (g152 L a0).map n152 := by
  rw [i152]; simp only [g152, map_bif, map_tst, map_bnd, Option.map_some, Option.map_none]
theorem s152 (m : Int → Option Bool) (hm : ∀ (x : Int) t, m x = some t → ∃ L, g152 L x = some t) : Sat prog cxT 152 (c152 m) :=
  sat_t cxT_ok cxT_pok (by rfl) (fn := f152) rfl a152 n152 dd152 m ev152 kok_nil kwok_nil (fun L x => g152 L x) (fun L x => e152 L x) hm hs152
/-! cmp.Compare[int64] -/
def ev104 (m152 : Int → Option Bool) : Env cxT := { Kc := kcOf [(152, c152 m152)], Kw := kwOf [], lv := fun i => [], xv := fun i => none }
theorem i104 (m152 : Int → Option Bool) (L : Nat) (a0 : Int) (a1 : Int) : evF prog (ev104 m152) (loopN L) f104 (a104.enc (a0, a1)) =
  tst (m152 a0) false fun (q1 : Bool) => tst (m152 a1) false fun (q2 : Bool) => bif q1 then bif q2 then some (n104 (0 : Int))
        else some (n104 (-(1 : Int)))
      else bif q2 then some (n104 (1 : Int))
      else bif (decide (a0 < a1)) then some (n104 (-(1 : Int)))
      else bif (decide (a0 > a1)) then some (n104 (1 : Int))
      else some (n104 (0 : Int)) := by kernel_rfl
def g104 (m152 : Int → Option Bool) (L : Nat) (a0 : Int) (a1 : Int) : Option Int :=
  tst (m152 a0) false fun (q1 : Bool) => tst (m152 a1) false fun (q2 : Bool) => bif q1 then bif q2 then some (0 : Int)
        else some (-(1 : Int))
      else bif q2 then some (1 : Int)
      else bif (decide (a0 < a1)) then some (-(1 : Int))
      else bif (decide (a0 > a1)) then some (1 : Int)
      else some (0 : Int)
theorem e104 (m152 : Int → Option Bool) (L : Nat) (a0 : Int) (a1 : Int) : evF prog (ev104 m152) (loopN L) f104 (a104.enc (a0, a1)) = (g104 m152 L a0 a1).map n104 := by
  rw [i104]; simp only [g104, map_bif, map_tst, map_bnd, Option.map_some, Option.map_none]
theorem s104 (m152 : Int → Option Bool) (h152 : Sat prog cxT 152 (c152 m152)) (m : (Int × Int) → Option Int) (hm : ∀ (x : (Int × Int)) t, m x = some t → ∃ L, g104 m152 L x.1 x.2 = some t) : Sat prog cxT 104 (c104 m) :=
  sat_t cxT_ok cxT_pok (by rfl) (fn := f104) rfl a104 n104 dd104 m (ev104 m152) (kok_cons h152 kok_nil) kwok_nil (fun L x => g104 m152 L x.1 x.2) (fun L x => e104 m152 L x.1 x.2) hm hs104
/-! cmp.Or[int] -/
def ev137 : Env cxT := { Kc := kcOf [], Kw := kwOf [], lv := fun i => if i = 0 then [(3, []), (6, [some 3]), (7, []), (8, [])] else [], xv := fun i => if i = 0 then some [(3, [])] else none }
def S137_0 (a0 : (List Int)) (v0_8 : Int) : St cxT.ty := { slots := [junk, junk, junk, (.inl (.inl (lv (.int .i64 (0 : Int))))), junk, junk, (.inl (.inl (ls { own := 0, nm := 0, e := 3, o := false, xs := a0 }))), (.inl (.inl (lv (.int .i64 (Nat.cast (List.length a0) : Int))))), (.inl (.inl (lv (.int .i64 v0_8))))] ++ List.replicate 9 junk, D := [], F := [], ctr := 1 }
def X137_0 (a0 : (List Int)) : St cxT.ty := { slots := [junk, junk, junk, (.inl (.inl (lv (.int .i64 (0 : Int)))))] ++ List.replicate 14 junk, D := [], F := [], ctr := 1 }
theorem i137 (L : Nat) (a0 : (List Int)) : evF prog ev137 (loopN L) f137 (a137.enc a0) =
  headF prog ev137 L f137 0 [1, 1, 0, 1, 0, 0] (outK (outV prog f137) (topK prog ev137 L f137 [1, 1, 0, 1] (outV prog f137)).n (topK prog ev137 L f137 [1, 1, 0, 1] (outV prog f137)).x) L (S137_0 a0 (0 : Int)) := by kernel_rfl
theorem r137_0 (L : Nat) (a0 : (List Int)) (k : St cxT.ty → Option (V cxT.ty)) (xk : Nat → St cxT.ty → Option (V cxT.ty)) (g : St cxT.ty → Option (V cxT.ty)) (v0_8 : Int) : roundF prog ev137 L f137 0 [1, 1, 0, 1, 0, 0] (outK (outV prog f137) k xk) g (S137_0 a0 v0_8) =
  bif (decide (v0_8 < (Nat.cast (List.length a0) : Int))) then bif ((decide ((0 : Int) ≤ v0_8)) && (decide (v0_8 < (Nat.cast (List.length a0) : Int)))) then bif ((List.getD a0 (Int.toNat v0_8) (0 : Int)) != (0 : Int)) then some (n137 (List.getD a0 (Int.toNat v0_8) (0 : Int)))
      else g (S137_0 a0 (Go.IntKind.wrap Go.IntKind.i64 (v0_8 + (1 : Int))))
    else none
  else k (X137_0 a0) := by kernel_rfl
theorem t137_0 (L : Nat) (a0 : (List Int)) : (topK prog ev137 L f137 [1, 1, 0, 1] (outV prog f137)).n (X137_0 a0) =
  some (n137 (0 : Int)) := by kernel_rfl
def l137_0 (L : Nat) (a0 : (List Int)) : Nat → Int → (Option Int) → Option Int
  | 0, _, _ => none
  | n + 1, v0_8, k =>
    bif (decide (v0_8 < (Nat.cast (List.length a0) : Int))) then bif ((decide ((0 : Int) ≤ v0_8)) && (decide (v0_8 < (Nat.cast (List.length a0) : Int)))) then bif ((List.getD a0 (Int.toNat v0_8) (0 : Int)) != (0 : Int)) then some (List.getD a0 (Int.toNat v0_8) (0 : Int))
        else l137_0 L a0 n (Go.IntKind.wrap Go.IntKind.i64 (v0_8 + (1 : Int))) k
      else none
    else k
theorem h137_0 (L : Nat) (a0 : (List Int)) (k : St cxT.ty → Option (V cxT.ty)) (xk : Nat → St cxT.ty → Option (V cxT.ty)) (k' : Option Int) (hk : k (X137_0 a0) = (k').map n137) : ∀ (n : Nat) (v0_8 : Int), headF prog ev137 L f137 0 [1, 1, 0, 1, 0, 0] (outK (outV prog f137) k xk) n (S137_0 a0 v0_8) = (l137_0 L a0 n v0_8 k').map n137
  | 0, _ => rfl
  | n + 1, v0_8 => by
    rw [headF_round, r137_0]
    have ih := h137_0 L a0 k xk k' hk n
    simp only [l137_0, map_bif, map_tst, map_bnd, Option.map_some, Option.map_none, ih, hk]
def g137 (L : Nat) (a0 : (List Int)) : Option Int :=
  l137_0 L a0 L (0 : Int) (some (0 : Int))
theorem e137 (L : Nat) (a0 : (List Int)) : evF prog ev137 (loopN L) f137 (a137.enc a0) = (g137 L a0).map n137 := by
  let K'0 : Option Int := (some (0 : Int))
  have hin0 : ∀ (v0_8 : Int), headF prog ev137 L f137 0 [1, 1, 0, 1, 0, 0] (outK (outV prog f137) (topK prog ev137 L f137 [1, 1, 0, 1] (outV prog f137)).n (topK prog ev137 L f137 [1, 1, 0, 1] (outV prog f137)).x) L (S137_0 a0 v0_8) = (l137_0 L a0 L v0_8 K'0).map n137 := fun v0_8 => h137_0 L a0 _ _ K'0 (by rw [t137_0]; simp only [K'0, map_bif, map_tst, map_bnd, Option.map_some, Option.map_none]) L v0_8
  rw [i137]; simp only [g137, map_bif, map_tst, map_bnd, Option.map_some, Option.map_none, hin0, K'0]
theorem s137 (m : (List Int) → Option Int) (hm : ∀ (x : (List Int)) t, m x = some t → ∃ L, g137 L x = some t) : Sat prog cxT 137 (c137 m) :=
  sat_t cxT_ok cxT_pok (by rfl) (fn := f137) rfl a137 n137 dd137 m ev137 kok_nil kwok_nil (fun L x => g137 L x) (fun L x => e137 L x) hm hs137
/-! loop.example/g00222/impl.compareVips -/
def ev94 (m104 : (Int × Int) → Option Int) (m137 : (List Int) → Option Int) : Env cxT := { Kc := kcOf [(104, c104 m104), (137, c137 m137)], Kw := kwOf [], lv := fun i => [], xv := fun i => none }
theorem i94 (m104 : (Int × Int) → Option Int) (m137 : (List Int) → Option Int) (L : Nat) (a0_0 : Int) (a0_1 : Int) (a0_2 : Int) (a0_3 : (List Int)) (a1_0 : Int) (a1_1 : Int) (a1_2 : Int) (a1_3 : (List Int)) : evF prog (ev94 m104 m137) (loopN L) f94 (a94.enc ((a0_0, a0_1, a0_2, a0_3), (a1_0, a1_1, a1_2, a1_3))) =
  tst (m104 (a0_0, a1_0)) (0 : Int) fun (q1 : Int) => tst (m104 (a0_1, a1_1)) (0 : Int) fun (q2 : Int) => tst (m104 (a0_2, a1_2)) (0 : Int) fun (q3 : Int) => tst (m137 (List.cons q1 (List.cons q2 (List.cons q3 ([] : List (Int)))))) (0 : Int) fun (q4 : Int) => some (n94 q4) := by kernel_rfl
def g94 (m104 : (Int × Int) → Option Int) (m137 : (List Int) → Option Int) (L : Nat) (a0_0 : Int) (a0_1 : Int) (a0_2 : Int) (a0_3 : (List Int)) (a1_0 : Int) (a1_1 : Int) (a1_2 : Int) (a1_3 : (List Int)) : Option Int :=
  tst (m104 (a0_0, a1_0)) (0 : Int) fun (q1 : Int) => tst (m104 (a0_1, a1_1)) (0 : Int) fun (q2 : Int) => tst (m104 (a0_2, a1_2)) (0 : Int) fun (q3 : Int) => tst (m137 (List.cons q1 (List.cons q2 (List.cons q3 ([] : List (Int)))))) (0 : Int) fun (q4 : Int) => some q4
theorem e94 (m104 : (Int × Int) → Option Int) (m137 : (List Int) → Option Int) (L : Nat) (a0_0 : Int) (a0_1 : Int) (a0_2 : Int) (a0_3 : (List Int)) (a1_0 : Int) (a1_1 : Int) (a1_2 : Int) (a1_3 : (List Int)) : evF prog (ev94 m104 m137) (loopN L) f94 (a94.enc ((a0_0, a0_1, a0_2, a0_3), (a1_0, a1_1, a1_2, a1_3))) = (g94 m104 m137 L a0_0 a0_1 a0_2 a0_3 a1_0 a1_1 a1_2 a1_3).map n94 := by
  rw [i94]; simp only [g94, map_bif, map_tst, map_bnd, Option.map_some, Option.map_none]
theorem s94 (m104 : (Int × Int) → Option Int) (m137 : (List Int) → Option Int) (h104 : Sat prog cxT 104 (c104 m104)) (h137 : Sat prog cxT 137 (c137 m137)) (m : ((Int × Int × Int × (List Int)) × (Int × Int × Int × (List Int))) → Option Int) (hm : ∀ (x : ((Int × Int × Int × (List Int)) × (Int × Int × Int × (List Int)))) t, m x = some t → ∃ L, g94 m104 m137 L x.1.1 x.1.2.1 x.1.2.2.1 x.1.2.2.2 x.2.1 x.2.2.1 x.2.2.2.1 x.2.2.2.2 = some t) : Sat prog cxT 94 (c94 m) :=
  sat_t cxT_ok cxT_pok (by rfl) (fn := f94) rfl a94 n94 dd94 m (ev94 m104 m137) (kok_cons h104 (kok_cons h137 kok_nil)) kwok_nil (fun L x => g94 m104 m137 L x.1.1 x.1.2.1 x.1.2.2.1 x.1.2.2.2 x.2.1 x.2.2.1 x.2.2.2.1 x.2.2.2.2) (fun L x => e94 m104 m137 L x.1.1 x.1.2.1 x.1.2.2.1 x.1.2.2.2 x.2.1 x.2.2.1 x.2.2.2.1 x.2.2.2.2) hm hs94
/-! loop.example/g00222/impl.backendPlace$1 -/
def ev103 (m104 : (Int × Int) → Option Int) : Env cxT := { Kc := kcOf [(104, c104 m104)], Kw := kwOf [], lv := fun i => [], xv := fun i => none }
theorem i103 (m104 : (Int × Int) → Option Int) (L : Nat) (a0_0 : Int) (a0_1 : Int) (a0_2 : Int) (a0_3 : Int) (a0_4 : Bool) (a1 : Int) : evF prog (ev103 m104) (loopN L) f103 (a103.enc ((a0_0, a0_1, a0_2, a0_3, a0_4), a1)) =
  tst (m104 (a0_0, a1)) (0 : Int) fun (q1 : Int) => some (n103 q1) := by kernel_rfl
def g103 (m104 : (Int × Int) → Option Int) (L : Nat) (a0_0 : Int) (a0_1 : Int) (a0_2 : Int) (a0_3 : Int) (a0_4 : Bool) (a1 : Int) : Option Int :=
  tst (m104 (a0_0, a1)) (0 : Int) fun (q1 : Int) => some q1
theorem e103 (m104 : (Int × Int) → Option Int) (L : Nat) (a0_0 : Int) (a0_1 : Int) (a0_2 : Int) (a0_3 : Int) (a0_4 : Bool) (a1 : Int) : evF prog (ev103 m104) (loopN L) f103 (a103.enc ((a0_0, a0_1, a0_2, a0_3, a0_4), a1)) = (g103 m104 L a0_0 a0_1 a0_2 a0_3 a0_4 a1).map n103 := by
  rw [i103]; simp only [g103, map_bif, map_tst, map_bnd, Option.map_some, Option.map_none]
theorem s103 (m104 : (Int × Int) → Option Int) (h104 : Sat prog cxT 104 (c104 m104)) (m : ((Int × Int × Int × Int × Bool) × Int) → Option Int) (hm : ∀ (x : ((Int × Int × Int × Int × Bool) × Int)) t, m x = some t → ∃ L, g103 m104 L x.1.1 x.1.2.1 x.1.2.2.1 x.1.2.2.2.1 x.1.2.2.2.2 x.2 = some t) : Sat prog cxT 103 (c103 m) :=
  sat_t cxT_ok cxT_pok (by rfl) (fn := f103) rfl a103 n103 dd103 m (ev103 m104) (kok_cons h104 kok_nil) kwok_nil (fun L x => g103 m104 L x.1.1 x.1.2.1 x.1.2.2.1 x.1.2.2.2.1 x.1.2.2.2.2 x.2) (fun L x => e103 m104 L x.1.1 x.1.2.1 x.1.2.2.1 x.1.2.2.2.1 x.1.2.2.2.2 x.2) hm hs103
/-! slices.BinarySearchFunc[[]loop.example/g00222/impl.Backend,loop.example/g00222/impl.Backend,int64] -/
def ev102 (m103 : ((Int × Int × Int × Int × Bool) × Int) → Option Int) : Env cxT := { Kc := kcOf [(103, c103 m103)], Kw := kwOf [], lv := fun i => if i = 0 then [(0, [some 35]), (1, []), (2, []), (8, []), (9, []), (10, [])] else [], xv := fun i => if i = 0 then some [(0, [some 35]), (1, []), (2, []), (8, []), (9, [])] else none }
def S102_0 (a0 : (List (Int × (Int × (Int × (Int × Bool)))))) (a1 : Int) (a2 : Unit) (v0_9 : Int) (v0_10 : Int) : St cxT.ty := { slots := [(.inl (.inl (ls { own := 0, nm := 0, e := 35, o := false, xs := a0 }))), (.inl (.inl (lv (.int .i64 a1)))), (.inl (.inl (lv (.func (.func (103 : Nat)) #[] #[])))), junk, junk, junk, junk, junk, (.inl (.inl (lv (.int .i64 (Nat.cast (List.length a0) : Int))))), (.inl (.inl (lv (.int .i64 v0_9)))), (.inl (.inl (lv (.int .i64 v0_10))))] ++ List.replicate 38 junk, D := [], F := [], ctr := 1 }
def X102_0 (a0 : (List (Int × (Int × (Int × (Int × Bool)))))) (a1 : Int) (a2 : Unit) (w0_9 : Int) : St cxT.ty := { slots := [(.inl (.inl (ls { own := 0, nm := 0, e := 35, o := false, xs := a0 }))), (.inl (.inl (lv (.int .i64 a1)))), (.inl (.inl (lv (.func (.func (103 : Nat)) #[] #[])))), junk, junk, junk, junk, junk, (.inl (.inl (lv (.int .i64 (Nat.cast (List.length a0) : Int))))), (.inl (.inl (lv (.int .i64 w0_9))))] ++ List.replicate 39 junk, D := [], F := [], ctr := 1 }
theorem i102 (m103 : ((Int × Int × Int × Int × Bool) × Int) → Option Int) (L : Nat) (a0 : (List (Int × (Int × (Int × (Int × Bool)))))) (a1 : Int) (a2 : Unit) : evF prog (ev102 m103) (loopN L) f102 (a102.enc (a0, a1, a2)) =
  headF prog (ev102 m103) L f102 0 [1, 1, 1, 0, 0, 0] (outK (outV prog f102) (topK prog (ev102 m103) L f102 [1, 1, 1, 0] (outV prog f102)).n (topK prog (ev102 m103) L f102 [1, 1, 1, 0] (outV prog f102)).x) L (S102_0 a0 a1 a2 (0 : Int) (Nat.cast (List.length a0) : Int)) := by kernel_rfl
theorem r102_0 (m103 : ((Int × Int × Int × Int × Bool) × Int) → Option Int) (L : Nat) (a0 : (List (Int × (Int × (Int × (Int × Bool)))))) (a1 : Int) (a2 : Unit) (k : St cxT.ty → Option (V cxT.ty)) (xk : Nat → St cxT.ty → Option (V cxT.ty)) (g : St cxT.ty → Option (V cxT.ty)) (v0_9 : Int) (v0_10 : Int) : roundF prog (ev102 m103) L f102 0 [1, 1, 1, 0, 0, 0] (outK (outV prog f102) k xk) g (S102_0 a0 a1 a2 v0_9 v0_10) =
  bif (decide (v0_9 < v0_10)) then bif ((decide ((0 : Int) ≤ (Go.IntKind.wrap Go.IntKind.i64 (Int.fdiv (Go.IntKind.wrap Go.IntKind.u64 (Go.IntKind.wrap Go.IntKind.i64 (v0_9 + v0_10))) ((2 : Int) ^ (min (Int.toNat (1 : Int)) (Go.IntKind.bits Go.IntKind.u64))))))) && (decide ((Go.IntKind.wrap Go.IntKind.i64 (Int.fdiv (Go.IntKind.wrap Go.IntKind.u64 (Go.IntKind.wrap Go.IntKind.i64 (v0_9 + v0_10))) ((2 : Int) ^ (min (Int.toNat (1 : Int)) (Go.IntKind.bits Go.IntKind.u64))))) < (Nat.cast (List.length a0) : Int)))) then tst (m103 (((List.getD a0 (Int.toNat (Go.IntKind.wrap Go.IntKind.i64 (Int.fdiv (Go.IntKind.wrap Go.IntKind.u64 (Go.IntKind.wrap Go.IntKind.i64 (v0_9 + v0_10))) ((2 : Int) ^ (min (Int.toNat (1 : Int)) (Go.IntKind.bits Go.IntKind.u64)))))) ((0 : Int), ((0 : Int), ((0 : Int), ((0 : Int), Bool.false))))).1, ((List.getD a0 (Int.toNat (Go.IntKind.wrap Go.IntKind.i64 (Int.fdiv (Go.IntKind.wrap Go.IntKind.u64 (Go.IntKind.wrap Go.IntKind.i64 (v0_9 + v0_10))) ((2 : Int) ^ (min (Int.toNat (1 : Int)) (Go.IntKind.bits Go.IntKind.u64)))))) ((0 : Int), ((0 : Int), ((0 : Int), ((0 : Int), Bool.false))))).2.1, ((List.getD a0 (Int.toNat (Go.IntKind.wrap Go.IntKind.i64 (Int.fdiv (Go.IntKind.wrap Go.IntKind.u64 (Go.IntKind.wrap Go.IntKind.i64 (v0_9 + v0_10))) ((2 : Int) ^ (min (Int.toNat (1 : Int)) (Go.IntKind.bits Go.IntKind.u64)))))) ((0 : Int), ((0 : Int), ((0 : Int), ((0 : Int), Bool.false))))).2.2.1, ((List.getD a0 (Int.toNat (Go.IntKind.wrap Go.IntKind.i64 (Int.fdiv (Go.IntKind.wrap Go.IntKind.u64 (Go.IntKind.wrap Go.IntKind.i64 (v0_9 + v0_10))) ((2 : Int) ^ (min (Int.toNat (1 : Int)) (Go.IntKind.bits Go.IntKind.u64)))))) ((0 : Int), ((0 : Int), ((0 : Int), ((0 : Int), Bool.false))))).2.2.2.1, (List.getD a0 (Int.toNat (Go.IntKind.wrap Go.IntKind.i64 (Int.fdiv (Go.IntKind.wrap Go.IntKind.u64 (Go.IntKind.wrap Go.IntKind.i64 (v0_9 + v0_10))) ((2 : Int) ^ (min (Int.toNat (1 : Int)) (Go.IntKind.bits Go.IntKind.u64)))))) ((0 : Int), ((0 : Int), ((0 : Int), ((0 : Int), Bool.false))))).2.2.2.2)))), a1)) (0 : Int) fun (q3 : Int) => bif (decide (q3 < (0 : Int))) then g (S102_0 a0 a1 a2 (Go.IntKind.wrap Go.IntKind.i64 ((Go.IntKind.wrap Go.IntKind.i64 (Int.fdiv (Go.IntKind.wrap Go.IntKind.u64 (Go.IntKind.wrap Go.IntKind.i64 (v0_9 + v0_10))) ((2 : Int) ^ (min (Int.toNat (1 : Int)) (Go.IntKind.bits Go.IntKind.u64))))) + (1 : Int))) v0_10)
        else g (S102_0 a0 a1 a2 v0_9 (Go.IntKind.wrap Go.IntKind.i64 (Int.fdiv (Go.IntKind.wrap Go.IntKind.u64 (Go.IntKind.wrap Go.IntKind.i64 (v0_9 + v0_10))) ((2 : Int) ^ (min (Int.toNat (1 : Int)) (Go.IntKind.bits Go.IntKind.u64))))))
    else none
  else k (X102_0 a0 a1 a2 v0_9) := by kernel_rfl
theorem t102_0 (m103 : ((Int × Int × Int × Int × Bool) × Int) → Option Int) (L : Nat) (a0 : (List (Int × (Int × (Int × (Int × Bool)))))) (a1 : Int) (a2 : Unit) (w0_9 : Int) : (topK prog (ev102 m103) L f102 [1, 1, 1, 0] (outV prog f102)).n (X102_0 a0 a1 a2 w0_9) =
  bif (decide (w0_9 < (Nat.cast (List.length a0) : Int))) then bif ((decide ((0 : Int) ≤ w0_9)) && (decide (w0_9 < (Nat.cast (List.length a0) : Int)))) then tst (m103 (((List.getD a0 (Int.toNat w0_9) ((0 : Int), ((0 : Int), ((0 : Int), ((0 : Int), Bool.false))))).1, ((List.getD a0 (Int.toNat w0_9) ((0 : Int), ((0 : Int), ((0 : Int), ((0 : Int), Bool.false))))).2.1, ((List.getD a0 (Int.toNat w0_9) ((0 : Int), ((0 : Int), ((0 : Int), ((0 : Int), Bool.false))))).2.2.1, ((List.getD a0 (Int.toNat w0_9) ((0 : Int), ((0 : Int), ((0 : Int), ((0 : Int), Bool.false))))).2.2.2.1, (List.getD a0 (Int.toNat w0_9) ((0 : Int), ((0 : Int), ((0 : Int), ((0 : Int), Bool.false))))).2.2.2.2)))), a1)) (0 : Int) fun (q3 : Int) => some (n102 (w0_9, (q3 == (0 : Int))))
    else none
  else some (n102 (w0_9, Bool.false)) := by kernel_rfl
def l102_0 (m103 : ((Int × Int × Int × Int × Bool) × Int) → Option Int) (L : Nat) (a0 : (List (Int × (Int × (Int × (Int × Bool)))))) (a1 : Int) (a2 : Unit) : Nat → Int → Int → (Int → Option (Int × Bool)) → Option (Int × Bool)
  | 0, _, _, _ => none
  | n + 1, v0_9, v0_10, k =>
    bif (decide (v0_9 < v0_10)) then bif ((decide ((0 : Int) ≤ (Go.IntKind.wrap Go.IntKind.i64 (Int.fdiv (Go.IntKind.wrap Go.IntKind.u64 (Go.IntKind.wrap Go.IntKind.i64 (v0_9 + v0_10))) ((2 : Int) ^ (min (Int.toNat (1 : Int)) (Go.IntKind.bits Go.IntKind.u64))))))) && (decide ((Go.IntKind.wrap Go.IntKind.i64 (Int.fdiv (Go.IntKind.wrap Go.IntKind.u64 (Go.IntKind.wrap Go.IntKind.i64 (v0_9 + v0_10))) ((2 : Int) ^ (min (Int.toNat (1 : Int)) (Go.IntKind.bits Go.IntKind.u64))))) < (Nat.cast (List.length a0) : Int)))) then tst (m103 (((List.getD a0 (Int.toNat (Go.IntKind.wrap Go.IntKind.i64 (Int.fdiv (Go.IntKind.wrap Go.IntKind.u64 (Go.IntKind.wrap Go.IntKind.i64 (v0_9 + v0_10))) ((2 : Int) ^ (min (Int.toNat (1 : Int)) (Go.IntKind.bits Go.IntKind.u64)))))) ((0 : Int), ((0 : Int), ((0 : Int), ((0 : Int), Bool.false))))).1, ((List.getD a0 (Int.toNat (Go.IntKind.wrap Go.IntKind.i64 (Int.fdiv (Go.IntKind.wrap Go.IntKind.u64 (Go.IntKind.wrap Go.IntKind.i64 (v0_9 + v0_10))) ((2 : Int) ^ (min (Int.toNat (1 : Int)) (Go.IntKind.bits Go.IntKind.u64)))))) ((0 : Int), ((0 : Int), ((0 : Int), ((0 : Int), Bool.false))))).2.1, ((List.getD a0 (Int.toNat (Go.IntKind.wrap Go.IntKind.i64 (Int.fdiv (Go.IntKind.wrap Go.IntKind.u64 (Go.IntKind.wrap Go.IntKind.i64 (v0_9 + v0_10))) ((2 : Int) ^ (min (Int.toNat (1 : Int)) (Go.IntKind.bits Go.IntKind.u64)))))) ((0 : Int), ((0 : Int), ((0 : Int), ((0 : Int), Bool.false))))).2.2.1, ((List.getD a0 (Int.toNat (Go.IntKind.wrap Go.IntKind.i64 (Int.fdiv (Go.IntKind.wrap Go.IntKind.u64 (Go.IntKind.wrap Go.IntKind.i64 (v0_9 + v0_10))) ((2 : Int) ^ (min (Int.toNat (1 : Int)) (Go.IntKind.bits Go.IntKind.u64)))))) ((0 : Int), ((0 : Int), ((0 : Int), ((0 : Int), Bool.false))))).2.2.2.1, (List.getD a0 (Int.toNat (Go.IntKind.wrap Go.IntKind.i64 (Int.fdiv (Go.IntKind.wrap Go.IntKind.u64 (Go.IntKind.wrap Go.IntKind.i64 (v0_9 + v0_10))) ((2 : Int) ^ (min (Int.toNat (1 : Int)) (Go.IntKind.bits Go.IntKind.u64)))))) ((0 : Int), ((0 : Int), ((0 : Int), ((0 : Int), Bool.false))))).2.2.2.2)))), a1)) (0 : Int) fun (q4 : Int) => bif (decide (q4 < (0 : Int))) then l102_0 m103 L a0 a1 a2 n (Go.IntKind.wrap Go.IntKind.i64 ((Go.IntKind.wrap Go.IntKind.i64 (Int.fdiv (Go.IntKind.wrap Go.IntKind.u64 (Go.IntKind.wrap Go.IntKind.i64 (v0_9 + v0_10))) ((2 : Int) ^ (min (Int.toNat (1 : Int)) (Go.IntKind.bits Go.IntKind.u64))))) + (1 : Int))) v0_10 k
          else l102_0 m103 L a0 a1 a2 n v0_9 (Go.IntKind.wrap Go.IntKind.i64 (Int.fdiv (Go.IntKind.wrap Go.IntKind.u64 (Go.IntKind.wrap Go.IntKind.i64 (v0_9 + v0_10))) ((2 : Int) ^ (min (Int.toNat (1 : Int)) (Go.IntKind.bits Go.IntKind.u64))))) k
      else none
    else k v0_9
theorem h102_0 (m103 : ((Int × Int × Int × Int × Bool) × Int) → Option Int) (L : Nat) (a0 : (List (Int × (Int × (Int × (Int × Bool)))))) (a1 : Int) (a2 : Unit) (k : St cxT.ty → Option (V cxT.ty)) (xk : Nat → St cxT.ty → Option (V cxT.ty)) (k' : Int → Option (Int × Bool)) (hk : ∀ (w0_9 : Int), k (X102_0 a0 a1 a2 w0_9) = (k' w0_9).map n102) : ∀ (n : Nat) (v0_9 : Int) (v0_10 : Int), headF prog (ev102 m103) L f102 0 [1, 1, 1, 0, 0, 0] (outK (outV prog f102) k xk) n (S102_0 a0 a1 a2 v0_9 v0_10) = (l102_0 m103 L a0 a1 a2 n v0_9 v0_10 k').map n102
  | 0, _, _ => rfl
  | n + 1, v0_9, v0_10 => by
    rw [headF_round, r102_0]
    have ih := h102_0 m103 L a0 a1 a2 k xk k' hk n
    simp only [l102_0, map_bif, map_tst, map_bnd, Option.map_some, Option.map_none, ih, hk]
def g102 (m103 : ((Int × Int × Int × Int × Bool) × Int) → Option Int) (L : Nat) (a0 : (List (Int × (Int × (Int × (Int × Bool)))))) (a1 : Int) (a2 : Unit) : Option (Int × Bool) :=
  l102_0 m103 L a0 a1 a2 L (0 : Int) (Nat.cast (List.length a0) : Int) (fun (w0_9 : Int) => bif (decide (w0_9 < (Nat.cast (List.length a0) : Int))) then bif ((decide ((0 : Int) ≤ w0_9)) && (decide (w0_9 < (Nat.cast (List.length a0) : Int)))) then tst (m103 (((List.getD a0 (Int.toNat w0_9) ((0 : Int), ((0 : Int), ((0 : Int), ((0 : Int), Bool.false))))).1, ((List.getD a0 (Int.toNat w0_9) ((0 : Int), ((0 : Int), ((0 : Int), ((0 : Int), Bool.false))))).2.1, ((List.getD a0 (Int.toNat w0_9) ((0 : Int), ((0 : Int), ((0 : Int), ((0 : Int), Bool.false))))).2.2.1, ((List.getD a0 (Int.toNat w0_9) ((0 : Int), ((0 : Int), ((0 : Int), ((0 : Int), Bool.false))))).2.2.2.1, (List.getD a0 (Int.toNat w0_9) ((0 : Int), ((0 : Int), ((0 : Int), ((0 : Int), Bool.false))))).2.2.2.2)))), a1)) (0 : Int) fun (q4 : Int) => some (w0_9, (q4 == (0 : Int)))
      else none
    else some (w0_9, Bool.false))
theorem e102 (m103 : ((Int × Int × Int × Int × Bool) × Int) → Option Int) (L : Nat) (a0 : (List (Int × (Int × (Int × (Int × Bool)))))) (a1 : Int) (a2 : Unit) : evF prog (ev102 m103) (loopN L) f102 (a102.enc (a0, a1, a2)) = (g102 m103 L a0 a1 a2).map n102 := by
  let K'0 : Int → Option (Int × Bool) := (fun (w0_9 : Int) => bif (decide (w0_9 < (Nat.cast (List.length a0) : Int))) then bif ((decide ((0 : Int) ≤ w0_9)) && (decide (w0_9 < (Nat.cast (List.length a0) : Int)))) then tst (m103 (((List.getD a0 (Int.toNat w0_9) ((0 : Int), ((0 : Int), ((0 : Int), ((0 : Int), Bool.false))))).1, ((List.getD a0 (Int.toNat w0_9) ((0 : Int), ((0 : Int), ((0 : Int), ((0 : Int), Bool.false))))).2.1, ((List.getD a0 (Int.toNat w0_9) ((0 : Int), ((0 : Int), ((0 : Int), ((0 : Int), Bool.false))))).2.2.1, ((List.getD a0 (Int.toNat w0_9) ((0 : Int), ((0 : Int), ((0 : Int), ((0 : Int), Bool.false))))).2.2.2.1, (List.getD a0 (Int.toNat w0_9) ((0 : Int), ((0 : Int), ((0 : Int), ((0 : Int), Bool.false))))).2.2.2.2)))), a1)) (0 : Int) fun (q5 : Int) => some (w0_9, (q5 == (0 : Int)))
        else none
      else some (w0_9, Bool.false))
  have hin0 : ∀ (v0_9 : Int) (v0_10 : Int), headF prog (ev102 m103) L f102 0 [1, 1, 1, 0, 0, 0] (outK (outV prog f102) (topK prog (ev102 m103) L f102 [1, 1, 1, 0] (outV prog f102)).n (topK prog (ev102 m103) L f102 [1, 1, 1, 0] (outV prog f102)).x) L (S102_0 a0 a1 a2 v0_9 v0_10) = (l102_0 m103 L a0 a1 a2 L v0_9 v0_10 K'0).map n102 := fun v0_9 v0_10 => h102_0 m103 L a0 a1 a2 _ _ K'0 (fun w0_9 => by rw [t102_0]; simp only [K'0, map_bif, map_tst, map_bnd, Option.map_some, Option.map_none]) L v0_9 v0_10
  rw [i102]; simp only [g102, map_bif, map_tst, map_bnd, Option.map_some, Option.map_none, hin0, K'0]
theorem s102 (m103 : ((Int × Int × Int × Int × Bool) × Int) → Option Int) (h103 : Sat prog cxT 103 (c103 m103)) (m : ((List (Int × (Int × (Int × (Int × Bool))))) × Int × Unit) → Option (Int × Bool)) (hm : ∀ (x : ((List (Int × (Int × (Int × (Int × Bool))))) × Int × Unit)) t, m x = some t → ∃ L, g102 m103 L x.1 x.2.1 x.2.2 = some t) : Sat prog cxT 102 (c102 m) :=
  sat_t cxT_ok cxT_pok (by rfl) (fn := f102) rfl a102 n102 dd102 m (ev102 m103) (kok_cons h103 kok_nil) kwok_nil (fun L x => g102 m103 L x.1 x.2.1 x.2.2) (fun L x => e102 m103 L x.1 x.2.1 x.2.2) hm hs102
/-! loop.example/g00222/impl.backendPlace -/
def ev55 (m102 : ((List (Int × (Int × (Int × (Int × Bool))))) × Int × Unit) → Option (Int × Bool)) : Env cxT := { Kc := kcOf [(102, c102 m102)], Kw := kwOf [], lv := fun i => [], xv := fun i => none }
theorem i55 (m102 : ((List (Int × (Int × (Int × (Int × Bool))))) × Int × Unit) → Option (Int × Bool)) (L : Nat) (a0 : (List (Int × (Int × (Int × (Int × Bool)))))) (a1 : Int) : evF prog (ev55 m102) (loopN L) f55 (a55.enc (a0, a1)) =
  tst (m102 (a0, (a1, PUnit.unit))) ((0 : Int), false) fun (q1 : (Int × Bool)) => some (n55 (q1.1, q1.2)) := by kernel_rfl
def g55 (m102 : ((List (Int × (Int × (Int × (Int × Bool))))) × Int × Unit) → Option (Int × Bool)) (L : Nat) (a0 : (List (Int × (Int × (Int × (Int × Bool)))))) (a1 : Int) : Option (Int × Bool) :=
  tst (m102 (a0, (a1, PUnit.unit))) ((0 : Int), false) fun (q1 : (Int × Bool)) => some (q1.1, q1.2)
theorem e55 (m102 : ((List (Int × (Int × (Int × (Int × Bool))))) × Int × Unit) → Option (Int × Bool)) (L : Nat) (a0 : (List (Int × (Int × (Int × (Int × Bool)))))) (a1 : Int) : evF prog (ev55 m102) (loopN L) f55 (a55.enc (a0, a1)) = (g55 m102 L a0 a1).map n55 := by
  rw [i55]; simp only [g55, map_bif, map_tst, map_bnd, Option.map_some, Option.map_none]
theorem s55 (m102 : ((List (Int × (Int × (Int × (Int × Bool))))) × Int × Unit) → Option (Int × Bool)) (h102 : Sat prog cxT 102 (c102 m102)) (m : ((List (Int × (Int × (Int × (Int × Bool))))) × Int) → Option (Int × Bool)) (hm : ∀ (x : ((List (Int × (Int × (Int × (Int × Bool))))) × Int)) t, m x = some t → ∃ L, g55 m102 L x.1 x.2 = some t) : Sat prog cxT 55 (c55 m) :=
  sat_t cxT_ok cxT_pok (by rfl) (fn := f55) rfl a55 n55 dd55 m (ev55 m102) (kok_cons h102 kok_nil) kwok_nil (fun L x => g55 m102 L x.1 x.2) (fun L x => e55 m102 L x.1 x.2) hm hs55
/-! loop.example/g00222/impl.vipPlace -/
/-! slices.BinarySearchFunc[[]loop.example/g00222/impl.Vip,loop.example/g00222/impl.Vip,loop.example/g00222/impl.Vip] -/
/-! loop.example/g00222/impl.namesFault -/
def ev95 (m55 : ((List (Int × (Int × (Int × (Int × Bool))))) × Int) → Option (Int × Bool)) : Env cxT := { Kc := kcOf [(55, c55 m55)], Kw := kwOf [], lv := fun i => if i = 0 then [(0, [some 2]), (1, [some 35]), (11, [some 2]), (12, []), (13, [])] else if i = 2 then [(0, [some 2]), (26, [some 2]), (27, []), (28, [])] else [], xv := fun i => if i = 0 then some [(0, [some 2])] else if i = 2 then some [] else none }
def S95_0 (a0 : (List Int)) (a1 : (List (Int × (Int × (Int × (Int × Bool)))))) (v0_13 : Int) : St cxT.ty := { slots := [(.inl (.inl (ls { own := 0, nm := 0, e := 2, o := false, xs := a0 }))), (.inl (.inl (ls { own := 0, nm := 0, e := 35, o := false, xs := a1 }))), junk, junk, junk, junk, junk, junk, junk, junk, junk, (.inl (.inl (ls { own := 0, nm := 0, e := 2, o := false, xs := a0 }))), (.inl (.inl (lv (.int .i64 (Nat.cast (List.length a0) : Int))))), (.inl (.inl (lv (.int .i64 v0_13))))] ++ List.replicate 31 junk, D := [], F := [], ctr := 1 }
def X95_0 (a0 : (List Int)) (a1 : (List (Int × (Int × (Int × (Int × Bool)))))) : St cxT.ty := { slots := [(.inl (.inl (ls { own := 0, nm := 0, e := 2, o := false, xs := a0 })))] ++ List.replicate 44 junk, D := [], F := [], ctr := 1 }
def S95_2 (a0 : (List Int)) (a1 : (List (Int × (Int × (Int × (Int × Bool)))))) (v2_28 : Int) : St cxT.ty := { slots := [(.inl (.inl (ls { own := 0, nm := 0, e := 2, o := false, xs := a0 }))), junk, junk, junk, junk, junk, junk, junk, junk, junk, junk, junk, junk, junk, junk, junk, junk, junk, junk, junk, junk, junk, junk, junk, junk, junk, (.inl (.inl (ls { own := 0, nm := 0, e := 2, o := false, xs := a0 }))), (.inl (.inl (lv (.int .i64 (Nat.cast (List.length a0) : Int))))), (.inl (.inl (lv (.int .i64 v2_28))))] ++ List.replicate 16 junk, D := [], F := [], ctr := 1 }
def X95_2 (a0 : (List Int)) (a1 : (List (Int × (Int × (Int × (Int × Bool)))))) : St cxT.ty := { slots := [] ++ List.replicate 45 junk, D := [], F := [], ctr := 1 }
theorem i95 (m55 : ((List (Int × (Int × (Int × (Int × Bool))))) × Int) → Option (Int × Bool)) (L : Nat) (a0 : (List Int)) (a1 : (List (Int × (Int × (Int × (Int × Bool)))))) : evF prog (ev95 m55) (loopN L) f95 (a95.enc (a0, a1)) =
  headF prog (ev95 m55) L f95 0 [1, 0, 1, 0, 0] (outK (outV prog f95) (topK prog (ev95 m55) L f95 [1, 0, 1] (outV prog f95)).n (topK prog (ev95 m55) L f95 [1, 0, 1] (outV prog f95)).x) L (S95_0 a0 a1 (0 : Int)) := by kernel_rfl
theorem r95_0 (m55 : ((List (Int × (Int × (Int × (Int × Bool))))) × Int) → Option (Int × Bool)) (L : Nat) (a0 : (List Int)) (a1 : (List (Int × (Int × (Int × (Int × Bool)))))) (k : St cxT.ty → Option (V cxT.ty)) (xk : Nat → St cxT.ty → Option (V cxT.ty)) (g : St cxT.ty → Option (V cxT.ty)) (v0_13 : Int) : roundF prog (ev95 m55) L f95 0 [1, 0, 1, 0, 0] (outK (outV prog f95) k xk) g (S95_0 a0 a1 v0_13) =
  bif (decide (v0_13 < (Nat.cast (List.length a0) : Int))) then bif ((decide ((0 : Int) ≤ v0_13)) && (decide (v0_13 < (Nat.cast (List.length a0) : Int)))) then tst (m55 (a1, (List.getD a0 (Int.toNat v0_13) (0 : Int)))) ((0 : Int), false) fun (q3 : (Int × Bool)) => bif (!q3.2) then some (n95 (4 : Int))
        else g (S95_0 a0 a1 (Go.IntKind.wrap Go.IntKind.i64 (v0_13 + (1 : Int))))
    else none
  else k (X95_0 a0 a1) := by kernel_rfl
theorem t95_0 (m55 : ((List (Int × (Int × (Int × (Int × Bool))))) × Int) → Option (Int × Bool)) (L : Nat) (a0 : (List Int)) (a1 : (List (Int × (Int × (Int × (Int × Bool)))))) : (topK prog (ev95 m55) L f95 [1, 0, 1] (outV prog f95)).n (X95_0 a0 a1) =
  headF prog (ev95 m55) L f95 2 [1, 1, 0, 1, 0, 0] (outK (outV prog f95) (topK prog (ev95 m55) L f95 [1, 1, 0, 1] (outV prog f95)).n (topK prog (ev95 m55) L f95 [1, 1, 0, 1] (outV prog f95)).x) L (S95_2 a0 a1 (0 : Int)) := by kernel_rfl
theorem r95_2 (m55 : ((List (Int × (Int × (Int × (Int × Bool))))) × Int) → Option (Int × Bool)) (L : Nat) (a0 : (List Int)) (a1 : (List (Int × (Int × (Int × (Int × Bool)))))) (k : St cxT.ty → Option (V cxT.ty)) (xk : Nat → St cxT.ty → Option (V cxT.ty)) (g : St cxT.ty → Option (V cxT.ty)) (v2_28 : Int) : roundF prog (ev95 m55) L f95 2 [1, 1, 0, 1, 0, 0] (outK (outV prog f95) k xk) g (S95_2 a0 a1 v2_28) =
  bif (decide (v2_28 < (Nat.cast (List.length a0) : Int))) then bif ((decide ((0 : Int) ≤ v2_28)) && (decide (v2_28 < (Nat.cast (List.length a0) : Int)))) then bif (decide (v2_28 > (0 : Int))) then bif ((decide ((0 : Int) ≤ (Go.IntKind.wrap Go.IntKind.i64 (v2_28 - (1 : Int))))) && (decide ((Go.IntKind.wrap Go.IntKind.i64 (v2_28 - (1 : Int))) < (Nat.cast (List.length a0) : Int)))) then bif (decide ((List.getD a0 (Int.toNat v2_28) (0 : Int)) ≤ (List.getD a0 (Int.toNat (Go.IntKind.wrap Go.IntKind.i64 (v2_28 - (1 : Int)))) (0 : Int)))) then some (n95 (1 : Int))
          else g (S95_2 a0 a1 (Go.IntKind.wrap Go.IntKind.i64 (v2_28 + (1 : Int))))
        else none
      else g (S95_2 a0 a1 (Go.IntKind.wrap Go.IntKind.i64 (v2_28 + (1 : Int))))
    else none
  else k (X95_2 a0 a1) := by kernel_rfl
theorem t95_2 (m55 : ((List (Int × (Int × (Int × (Int × Bool))))) × Int) → Option (Int × Bool)) (L : Nat) (a0 : (List Int)) (a1 : (List (Int × (Int × (Int × (Int × Bool)))))) : (topK prog (ev95 m55) L f95 [1, 1, 0, 1] (outV prog f95)).n (X95_2 a0 a1) =
  some (n95 (0 : Int)) := by kernel_rfl
def l95_2 (m55 : ((List (Int × (Int × (Int × (Int × Bool))))) × Int) → Option (Int × Bool)) (L : Nat) (a0 : (List Int)) (a1 : (List (Int × (Int × (Int × (Int × Bool)))))) : Nat → Int → (Option Int) → Option Int
  | 0, _, _ => none
  | n + 1, v2_28, k =>
    bif (decide (v2_28 < (Nat.cast (List.length a0) : Int))) then bif ((decide ((0 : Int) ≤ v2_28)) && (decide (v2_28 < (Nat.cast (List.length a0) : Int)))) then bif (decide (v2_28 > (0 : Int))) then bif ((decide ((0 : Int) ≤ (Go.IntKind.wrap Go.IntKind.i64 (v2_28 - (1 : Int))))) && (decide ((Go.IntKind.wrap Go.IntKind.i64 (v2_28 - (1 : Int))) < (Nat.cast (List.length a0) : Int)))) then bif (decide ((List.getD a0 (Int.toNat v2_28) (0 : Int)) ≤ (List.getD a0 (Int.toNat (Go.IntKind.wrap Go.IntKind.i64 (v2_28 - (1 : Int)))) (0 : Int)))) then some (1 : Int)
            else l95_2 m55 L a0 a1 n (Go.IntKind.wrap Go.IntKind.i64 (v2_28 + (1 : Int))) k
          else none
        else l95_2 m55 L a0 a1 n (Go.IntKind.wrap Go.IntKind.i64 (v2_28 + (1 : Int))) k
      else none
    else k
theorem h95_2 (m55 : ((List (Int × (Int × (Int × (Int × Bool))))) × Int) → Option (Int × Bool)) (L : Nat) (a0 : (List Int)) (a1 : (List (Int × (Int × (Int × (Int × Bool)))))) (k : St cxT.ty → Option (V cxT.ty)) (xk : Nat → St cxT.ty → Option (V cxT.ty)) (k' : Option Int) (hk : k (X95_2 a0 a1) = (k').map n95) : ∀ (n : Nat) (v2_28 : Int), headF prog (ev95 m55) L f95 2 [1, 1, 0, 1, 0, 0] (outK (outV prog f95) k xk) n (S95_2 a0 a1 v2_28) = (l95_2 m55 L a0 a1 n v2_28 k').map n95
  | 0, _ => rfl
  | n + 1, v2_28 => by
    rw [headF_round, r95_2]
    have ih := h95_2 m55 L a0 a1 k xk k' hk n
    simp only [l95_2, map_bif, map_tst, map_bnd, Option.map_some, Option.map_none, ih, hk]
def l95_0 (m55 : ((List (Int × (Int × (Int × (Int × Bool))))) × Int) → Option (Int × Bool)) (L : Nat) (a0 : (List Int)) (a1 : (List (Int × (Int × (Int × (Int × Bool)))))) : Nat → Int → (Option Int) → Option Int
  | 0, _, _ => none
  | n + 1, v0_13, k =>
    bif (decide (v0_13 < (Nat.cast (List.length a0) : Int))) then bif ((decide ((0 : Int) ≤ v0_13)) && (decide (v0_13 < (Nat.cast (List.length a0) : Int)))) then tst (m55 (a1, (List.getD a0 (Int.toNat v0_13) (0 : Int)))) ((0 : Int), false) fun (q4 : (Int × Bool)) => bif (!q4.2) then some (4 : Int)
          else l95_0 m55 L a0 a1 n (Go.IntKind.wrap Go.IntKind.i64 (v0_13 + (1 : Int))) k
      else none
    else k
theorem h95_0 (m55 : ((List (Int × (Int × (Int × (Int × Bool))))) × Int) → Option (Int × Bool)) (L : Nat) (a0 : (List Int)) (a1 : (List (Int × (Int × (Int × (Int × Bool)))))) (k : St cxT.ty → Option (V cxT.ty)) (xk : Nat → St cxT.ty → Option (V cxT.ty)) (k' : Option Int) (hk : k (X95_0 a0 a1) = (k').map n95) : ∀ (n : Nat) (v0_13 : Int), headF prog (ev95 m55) L f95 0 [1, 0, 1, 0, 0] (outK (outV prog f95) k xk) n (S95_0 a0 a1 v0_13) = (l95_0 m55 L a0 a1 n v0_13 k').map n95
  | 0, _ => rfl
  | n + 1, v0_13 => by
    rw [headF_round, r95_0]
    have ih := h95_0 m55 L a0 a1 k xk k' hk n
    simp only [l95_0, map_bif, map_tst, map_bnd, Option.map_some, Option.map_none, ih, hk]
def g95 (m55 : ((List (Int × (Int × (Int × (Int × Bool))))) × Int) → Option (Int × Bool)) (L : Nat) (a0 : (List Int)) (a1 : (List (Int × (Int × (Int × (Int × Bool)))))) : Option Int :=
  l95_0 m55 L a0 a1 L (0 : Int) (l95_2 m55 L a0 a1 L (0 : Int) (some (0 : Int)))
theorem e95 (m55 : ((List (Int × (Int × (Int × (Int × Bool))))) × Int) → Option (Int × Bool)) (L : Nat) (a0 : (List Int)) (a1 : (List (Int × (Int × (Int × (Int × Bool)))))) : evF prog (ev95 m55) (loopN L) f95 (a95.enc (a0, a1)) = (g95 m55 L a0 a1).map n95 := by
  let K'2 : Option Int := (some (0 : Int))
  have hin2 : ∀ (v2_28 : Int), headF prog (ev95 m55) L f95 2 [1, 1, 0, 1, 0, 0] (outK (outV prog f95) (topK prog (ev95 m55) L f95 [1, 1, 0, 1] (outV prog f95)).n (topK prog (ev95 m55) L f95 [1, 1, 0, 1] (outV prog f95)).x) L (S95_2 a0 a1 v2_28) = (l95_2 m55 L a0 a1 L v2_28 K'2).map n95 := fun v2_28 => h95_2 m55 L a0 a1 _ _ K'2 (by rw [t95_2]; simp only [K'2, map_bif, map_tst, map_bnd, Option.map_some, Option.map_none]) L v2_28
  let K'0 : Option Int := (l95_2 m55 L a0 a1 L (0 : Int) (some (0 : Int)))
  have hin0 : ∀ (v0_13 : Int), headF prog (ev95 m55) L f95 0 [1, 0, 1, 0, 0] (outK (outV prog f95) (topK prog (ev95 m55) L f95 [1, 0, 1] (outV prog f95)).n (topK prog (ev95 m55) L f95 [1, 0, 1] (outV prog f95)).x) L (S95_0 a0 a1 v0_13) = (l95_0 m55 L a0 a1 L v0_13 K'0).map n95 := fun v0_13 => h95_0 m55 L a0 a1 _ _ K'0 (by rw [t95_0]; simp only [K'0, map_bif, map_tst, map_bnd, Option.map_some, Option.map_none, hin2, K'2]) L v0_13
  rw [i95]; simp only [g95, map_bif, map_tst, map_bnd, Option.map_some, Option.map_none, hin2, K'2, hin0, K'0]
theorem s95 (m55 : ((List (Int × (Int × (Int × (Int × Bool))))) × Int) → Option (Int × Bool)) (h55 : Sat prog cxT 55 (c55 m55)) (m : ((List Int) × (List (Int × (Int × (Int × (Int × Bool)))))) → Option Int) (hm : ∀ (x : ((List Int) × (List (Int × (Int × (Int × (Int × Bool))))))) t, m x = some t → ∃ L, g95 m55 L x.1 x.2 = some t) : Sat prog cxT 95 (c95 m) :=
  sat_t cxT_ok cxT_pok (by rfl) (fn := f95) rfl a95 n95 dd95 m (ev95 m55) (kok_cons h55 kok_nil) kwok_nil (fun L x => g95 m55 L x.1 x.2) (fun L x => e95 m55 L x.1 x.2) hm hs95
/-! loop.example/g00222/impl.ConfigFault -/
def ev48 (m91 : Int → Option Bool) (m92 : (Int × Int × Int × Int × Bool) → Option Bool) (m93 : (Int × Int × Int × (List Int)) → Option Bool) (m94 : ((Int × Int × Int × (List Int)) × (Int × Int × Int × (List Int))) → Option Int) (m95 : ((List Int) × (List (Int × (Int × (Int × (Int × Bool)))))) → Option Int) : Env cxT := { Kc := kcOf [(91, c91 m91), (92, c92 m92), (93, c93 m93), (94, c94 m94), (95, c95 m95)], Kw := kwOf [], lv := fun i => if i = 0 then [(1, [none, some 35, some 114]), (23, [some 35]), (24, []), (25, [])] else if i = 2 then [(1, [none, some 35, some 114]), (49, [some 114]), (50, []), (51, [])] else [], xv := fun i => if i = 0 then some [(1, [none, some 35, some 114])] else if i = 2 then some [] else none }
def S48_0 (a0_0 : Int) (a0_1 : (List (Int × (Int × (Int × (Int × Bool)))))) (a0_2 : (List (Int × (Int × (Int × (List Int)))))) (v0_1_0 : Int) (v0_1_1 : (List (Int × (Int × (Int × (Int × Bool)))))) (v0_1_2 : (List (Int × (Int × (Int × (List Int)))))) (v0_25 : Int) : St cxT.ty := { slots := [junk, (.inr (.inr { kind := 0, nm := 64, cells := [(lv (.int .i64 v0_1_0)), (ls { own := 0, nm := 0, e := 35, o := false, xs := v0_1_1 }), (ls { own := 0, nm := 0, e := 114, o := false, xs := v0_1_2 })], s := { own := 0, nm := 0, e := 0, o := false, xs := ([] : List (PUnit)) }, i := 0, off := 0 })), junk, junk, junk, junk, junk, junk, junk, junk, junk, junk, junk, junk, junk, junk, junk, junk, junk, junk, junk, junk, junk, (.inl (.inl (ls { own := 0, nm := 0, e := 35, o := false, xs := a0_1 }))), (.inl (.inl (lv (.int .i64 (Nat.cast (List.length a0_1) : Int))))), (.inl (.inl (lv (.int .i64 v0_25))))] ++ List.replicate 55 junk, D := [], F := [], ctr := 1 }
def X48_0 (a0_0 : Int) (a0_1 : (List (Int × (Int × (Int × (Int × Bool)))))) (a0_2 : (List (Int × (Int × (Int × (List Int)))))) (w0_1_0 : Int) (w0_1_1 : (List (Int × (Int × (Int × (Int × Bool)))))) (w0_1_2 : (List (Int × (Int × (Int × (List Int)))))) : St cxT.ty := { slots := [junk, (.inr (.inr { kind := 0, nm := 64, cells := [(lv (.int .i64 w0_1_0)), (ls { own := 0, nm := 0, e := 35, o := false, xs := w0_1_1 }), (ls { own := 0, nm := 0, e := 114, o := false, xs := w0_1_2 })], s := { own := 0, nm := 0, e := 0, o := false, xs := ([] : List (PUnit)) }, i := 0, off := 0 }))] ++ List.replicate 79 junk, D := [], F := [], ctr := 1 }
def S48_2 (a0_0 : Int) (a0_1 : (List (Int × (Int × (Int × (Int × Bool)))))) (a0_2 : (List (Int × (Int × (Int × (List Int)))))) (v2_1_0 : Int) (v2_1_1 : (List (Int × (Int × (Int × (Int × Bool)))))) (v2_1_2 : (List (Int × (Int × (Int × (List Int)))))) (v2_49 : (List (Int × (Int × (Int × (List Int)))))) (v2_50 : Int) (v2_51 : Int) : St cxT.ty := { slots := [junk, (.inr (.inr { kind := 0, nm := 64, cells := [(lv (.int .i64 v2_1_0)), (ls { own := 0, nm := 0, e := 35, o := false, xs := v2_1_1 }), (ls { own := 0, nm := 0, e := 114, o := false, xs := v2_1_2 })], s := { own := 0, nm := 0, e := 0, o := false, xs := ([] : List (PUnit)) }, i := 0, off := 0 })), junk, junk, junk, junk, junk, junk, junk, junk, junk, junk, junk, junk, junk, junk, junk, junk, junk, junk, junk, junk, junk, junk, junk, junk, junk, junk, junk, junk, junk, junk, junk, junk, junk, junk, junk, junk, junk, junk, junk, junk, junk, junk, junk, junk, junk, junk, junk, (.inl (.inl (ls { own := 0, nm := 0, e := 114, o := false, xs := v2_49 }))), (.inl (.inl (lv (.int .i64 v2_50)))), (.inl (.inl (lv (.int .i64 v2_51))))] ++ List.replicate 29 junk, D := [], F := [], ctr := 1 }
def X48_2 (a0_0 : Int) (a0_1 : (List (Int × (Int × (Int × (Int × Bool)))))) (a0_2 : (List (Int × (Int × (Int × (List Int)))))) : St cxT.ty := { slots := [] ++ List.replicate 81 junk, D := [], F := [], ctr := 1 }
theorem i48 (m91 : Int → Option Bool) (m92 : (Int × Int × Int × Int × Bool) → Option Bool) (m93 : (Int × Int × Int × (List Int)) → Option Bool) (m94 : ((Int × Int × Int × (List Int)) × (Int × Int × Int × (List Int))) → Option Int) (m95 : ((List Int) × (List (Int × (Int × (Int × (Int × Bool)))))) → Option Int) (L : Nat) (a0_0 : Int) (a0_1 : (List (Int × (Int × (Int × (Int × Bool)))))) (a0_2 : (List (Int × (Int × (Int × (List Int)))))) : evF prog (ev48 m91 m92 m93 m94 m95) (loopN L) f48 (a48.enc (a0_0, a0_1, a0_2)) =
  tst (m91 a0_0) false fun (q1 : Bool) => bif (!q1) then some (n48 (3 : Int))
    else bif (decide ((Nat.cast (List.length a0_1) : Int) > (8 : Int))) then some (n48 (2 : Int))
    else bif (decide ((Nat.cast (List.length a0_2) : Int) > (4 : Int))) then some (n48 (2 : Int))
    else headF prog (ev48 m91 m92 m93 m94 m95) L f48 0 [1, 1, 1, 0, 1, 0, 0] (outK (outV prog f48) (topK prog (ev48 m91 m92 m93 m94 m95) L f48 [1, 1, 1, 0, 1] (outV prog f48)).n (topK prog (ev48 m91 m92 m93 m94 m95) L f48 [1, 1, 1, 0, 1] (outV prog f48)).x) L (S48_0 a0_0 a0_1 a0_2 a0_0 a0_1 a0_2 (0 : Int)) := by kernel_rfl
theorem r48_0 (m91 : Int → Option Bool) (m92 : (Int × Int × Int × Int × Bool) → Option Bool) (m93 : (Int × Int × Int × (List Int)) → Option Bool) (m94 : ((Int × Int × Int × (List Int)) × (Int × Int × Int × (List Int))) → Option Int) (m95 : ((List Int) × (List (Int × (Int × (Int × (Int × Bool)))))) → Option Int) (L : Nat) (a0_0 : Int) (a0_1 : (List (Int × (Int × (Int × (Int × Bool)))))) (a0_2 : (List (Int × (Int × (Int × (List Int)))))) (k : St cxT.ty → Option (V cxT.ty)) (xk : Nat → St cxT.ty → Option (V cxT.ty)) (g : St cxT.ty → Option (V cxT.ty)) (v0_1_0 : Int) (v0_1_1 : (List (Int × (Int × (Int × (Int × Bool)))))) (v0_1_2 : (List (Int × (Int × (Int × (List Int)))))) (v0_25 : Int) : roundF prog (ev48 m91 m92 m93 m94 m95) L f48 0 [1, 1, 1, 0, 1, 0, 0] (outK (outV prog f48) k xk) g (S48_0 a0_0 a0_1 a0_2 v0_1_0 v0_1_1 v0_1_2 v0_25) =
  bif (decide (v0_25 < (Nat.cast (List.length a0_1) : Int))) then bif ((decide ((0 : Int) ≤ v0_25)) && (decide (v0_25 < (Nat.cast (List.length a0_1) : Int)))) then tst (m92 ((List.getD a0_1 (Int.toNat v0_25) ((0 : Int), ((0 : Int), ((0 : Int), ((0 : Int), Bool.false))))).1, ((List.getD a0_1 (Int.toNat v0_25) ((0 : Int), ((0 : Int), ((0 : Int), ((0 : Int), Bool.false))))).2.1, ((List.getD a0_1 (Int.toNat v0_25) ((0 : Int), ((0 : Int), ((0 : Int), ((0 : Int), Bool.false))))).2.2.1, ((List.getD a0_1 (Int.toNat v0_25) ((0 : Int), ((0 : Int), ((0 : Int), ((0 : Int), Bool.false))))).2.2.2.1, (List.getD a0_1 (Int.toNat v0_25) ((0 : Int), ((0 : Int), ((0 : Int), ((0 : Int), Bool.false))))).2.2.2.2))))) false fun (q3 : Bool) => bif (!q3) then some (n48 (3 : Int))
        else bif (decide (v0_25 > (0 : Int))) then bif ((decide ((0 : Int) ≤ (Go.IntKind.wrap Go.IntKind.i64 (v0_25 - (1 : Int))))) && (decide ((Go.IntKind.wrap Go.IntKind.i64 (v0_25 - (1 : Int))) < (Nat.cast (List.length v0_1_1) : Int)))) then bif (decide ((List.getD a0_1 (Int.toNat v0_25) ((0 : Int), ((0 : Int), ((0 : Int), ((0 : Int), Bool.false))))).1 ≤ (List.getD v0_1_1 (Int.toNat (Go.IntKind.wrap Go.IntKind.i64 (v0_25 - (1 : Int)))) ((0 : Int), ((0 : Int), ((0 : Int), ((0 : Int), Bool.false))))).1)) then some (n48 (1 : Int))
            else g (S48_0 a0_0 a0_1 a0_2 v0_1_0 v0_1_1 v0_1_2 (Go.IntKind.wrap Go.IntKind.i64 (v0_25 + (1 : Int))))
          else none
        else g (S48_0 a0_0 a0_1 a0_2 v0_1_0 v0_1_1 v0_1_2 (Go.IntKind.wrap Go.IntKind.i64 (v0_25 + (1 : Int))))
    else none
  else k (X48_0 a0_0 a0_1 a0_2 v0_1_0 v0_1_1 v0_1_2) := by kernel_rfl
theorem t48_0 (m91 : Int → Option Bool) (m92 : (Int × Int × Int × Int × Bool) → Option Bool) (m93 : (Int × Int × Int × (List Int)) → Option Bool) (m94 : ((Int × Int × Int × (List Int)) × (Int × Int × Int × (List Int))) → Option Int) (m95 : ((List Int) × (List (Int × (Int × (Int × (Int × Bool)))))) → Option Int) (L : Nat) (a0_0 : Int) (a0_1 : (List (Int × (Int × (Int × (Int × Bool)))))) (a0_2 : (List (Int × (Int × (Int × (List Int)))))) (w0_1_0 : Int) (w0_1_1 : (List (Int × (Int × (Int × (Int × Bool)))))) (w0_1_2 : (List (Int × (Int × (Int × (List Int)))))) : (topK prog (ev48 m91 m92 m93 m94 m95) L f48 [1, 1, 1, 0, 1] (outV prog f48)).n (X48_0 a0_0 a0_1 a0_2 w0_1_0 w0_1_1 w0_1_2) =
  headF prog (ev48 m91 m92 m93 m94 m95) L f48 2 [1, 1, 1, 1, 0, 1, 0, 0] (outK (outV prog f48) (topK prog (ev48 m91 m92 m93 m94 m95) L f48 [1, 1, 1, 1, 0, 1] (outV prog f48)).n (topK prog (ev48 m91 m92 m93 m94 m95) L f48 [1, 1, 1, 1, 0, 1] (outV prog f48)).x) L (S48_2 a0_0 a0_1 a0_2 w0_1_0 w0_1_1 w0_1_2 w0_1_2 (Nat.cast (List.length w0_1_2) : Int) (0 : Int)) := by kernel_rfl
theorem r48_2 (m91 : Int → Option Bool) (m92 : (Int × Int × Int × Int × Bool) → Option Bool) (m93 : (Int × Int × Int × (List Int)) → Option Bool) (m94 : ((Int × Int × Int × (List Int)) × (Int × Int × Int × (List Int))) → Option Int) (m95 : ((List Int) × (List (Int × (Int × (Int × (Int × Bool)))))) → Option Int) (L : Nat) (a0_0 : Int) (a0_1 : (List (Int × (Int × (Int × (Int × Bool)))))) (a0_2 : (List (Int × (Int × (Int × (List Int)))))) (k : St cxT.ty → Option (V cxT.ty)) (xk : Nat → St cxT.ty → Option (V cxT.ty)) (g : St cxT.ty → Option (V cxT.ty)) (v2_1_0 : Int) (v2_1_1 : (List (Int × (Int × (Int × (Int × Bool)))))) (v2_1_2 : (List (Int × (Int × (Int × (List Int)))))) (v2_49 : (List (Int × (Int × (Int × (List Int)))))) (v2_50 : Int) (v2_51 : Int) : roundF prog (ev48 m91 m92 m93 m94 m95) L f48 2 [1, 1, 1, 1, 0, 1, 0, 0] (outK (outV prog f48) k xk) g (S48_2 a0_0 a0_1 a0_2 v2_1_0 v2_1_1 v2_1_2 v2_49 v2_50 v2_51) =
  bif (decide (v2_51 < v2_50)) then bif ((decide ((0 : Int) ≤ v2_51)) && (decide (v2_51 < (Nat.cast (List.length v2_49) : Int)))) then tst (m93 ((List.getD v2_49 (Int.toNat v2_51) ((0 : Int), ((0 : Int), ((0 : Int), ([] : List (Int)))))).1, ((List.getD v2_49 (Int.toNat v2_51) ((0 : Int), ((0 : Int), ((0 : Int), ([] : List (Int)))))).2.1, ((List.getD v2_49 (Int.toNat v2_51) ((0 : Int), ((0 : Int), ((0 : Int), ([] : List (Int)))))).2.2.1, (List.getD v2_49 (Int.toNat v2_51) ((0 : Int), ((0 : Int), ((0 : Int), ([] : List (Int)))))).2.2.2)))) false fun (q3 : Bool) => bif (!q3) then some (n48 (3 : Int))
        else bif (decide (v2_51 > (0 : Int))) then bif ((decide ((0 : Int) ≤ (Go.IntKind.wrap Go.IntKind.i64 (v2_51 - (1 : Int))))) && (decide ((Go.IntKind.wrap Go.IntKind.i64 (v2_51 - (1 : Int))) < (Nat.cast (List.length v2_1_2) : Int)))) then tst (m94 (((List.getD v2_49 (Int.toNat v2_51) ((0 : Int), ((0 : Int), ((0 : Int), ([] : List (Int)))))).1, ((List.getD v2_49 (Int.toNat v2_51) ((0 : Int), ((0 : Int), ((0 : Int), ([] : List (Int)))))).2.1, ((List.getD v2_49 (Int.toNat v2_51) ((0 : Int), ((0 : Int), ((0 : Int), ([] : List (Int)))))).2.2.1, (List.getD v2_49 (Int.toNat v2_51) ((0 : Int), ((0 : Int), ((0 : Int), ([] : List (Int)))))).2.2.2))), ((List.getD v2_1_2 (Int.toNat (Go.IntKind.wrap Go.IntKind.i64 (v2_51 - (1 : Int)))) ((0 : Int), ((0 : Int), ((0 : Int), ([] : List (Int)))))).1, ((List.getD v2_1_2 (Int.toNat (Go.IntKind.wrap Go.IntKind.i64 (v2_51 - (1 : Int)))) ((0 : Int), ((0 : Int), ((0 : Int), ([] : List (Int)))))).2.1, ((List.getD v2_1_2 (Int.toNat (Go.IntKind.wrap Go.IntKind.i64 (v2_51 - (1 : Int)))) ((0 : Int), ((0 : Int), ((0 : Int), ([] : List (Int)))))).2.2.1, (List.getD v2_1_2 (Int.toNat (Go.IntKind.wrap Go.IntKind.i64 (v2_51 - (1 : Int)))) ((0 : Int), ((0 : Int), ((0 : Int), ([] : List (Int)))))).2.2.2))))) (0 : Int) fun (q6 : Int) => bif (decide (q6 ≤ (0 : Int))) then some (n48 (1 : Int))
              else tst (m95 ((List.getD v2_49 (Int.toNat v2_51) ((0 : Int), ((0 : Int), ((0 : Int), ([] : List (Int)))))).2.2.2, v2_1_1)) (0 : Int) fun (q7 : Int) => bif (q7 != (0 : Int)) then some (n48 q7)
                else g (S48_2 a0_0 a0_1 a0_2 v2_1_0 v2_1_1 v2_1_2 v2_49 v2_50 (Go.IntKind.wrap Go.IntKind.i64 (v2_51 + (1 : Int))))
          else none
        else tst (m95 ((List.getD v2_49 (Int.toNat v2_51) ((0 : Int), ((0 : Int), ((0 : Int), ([] : List (Int)))))).2.2.2, v2_1_1)) (0 : Int) fun (q4 : Int) => bif (q4 != (0 : Int)) then some (n48 q4)
          else g (S48_2 a0_0 a0_1 a0_2 v2_1_0 v2_1_1 v2_1_2 v2_49 v2_50 (Go.IntKind.wrap Go.IntKind.i64 (v2_51 + (1 : Int))))
    else none
  else k (X48_2 a0_0 a0_1 a0_2) := by kernel_rfl
theorem t48_2 (m91 : Int → Option Bool) (m92 : (Int × Int × Int × Int × Bool) → Option Bool) (m93 : (Int × Int × Int × (List Int)) → Option Bool) (m94 : ((Int × Int × Int × (List Int)) × (Int × Int × Int × (List Int))) → Option Int) (m95 : ((List Int) × (List (Int × (Int × (Int × (Int × Bool)))))) → Option Int) (L : Nat) (a0_0 : Int) (a0_1 : (List (Int × (Int × (Int × (Int × Bool)))))) (a0_2 : (List (Int × (Int × (Int × (List Int)))))) : (topK prog (ev48 m91 m92 m93 m94 m95) L f48 [1, 1, 1, 1, 0, 1] (outV prog f48)).n (X48_2 a0_0 a0_1 a0_2) =
  some (n48 (0 : Int)) := by kernel_rfl
def l48_2 (m91 : Int → Option Bool) (m92 : (Int × Int × Int × Int × Bool) → Option Bool) (m93 : (Int × Int × Int × (List Int)) → Option Bool) (m94 : ((Int × Int × Int × (List Int)) × (Int × Int × Int × (List Int))) → Option Int) (m95 : ((List Int) × (List (Int × (Int × (Int × (Int × Bool)))))) → Option Int) (L : Nat) (a0_0 : Int) (a0_1 : (List (Int × (Int × (Int × (Int × Bool)))))) (a0_2 : (List (Int × (Int × (Int × (List Int)))))) : Nat → Int → (List (Int × (Int × (Int × (Int × Bool))))) → (List (Int × (Int × (Int × (List Int))))) → (List (Int × (Int × (Int × (List Int))))) → Int → Int → (Option Int) → Option Int
  | 0, _, _, _, _, _, _, _ => none
  | n + 1, v2_1_0, v2_1_1, v2_1_2, v2_49, v2_50, v2_51, k =>
    bif (decide (v2_51 < v2_50)) then bif ((decide ((0 : Int) ≤ v2_51)) && (decide (v2_51 < (Nat.cast (List.length v2_49) : Int)))) then tst (m93 ((List.getD v2_49 (Int.toNat v2_51) ((0 : Int), ((0 : Int), ((0 : Int), ([] : List (Int)))))).1, ((List.getD v2_49 (Int.toNat v2_51) ((0 : Int), ((0 : Int), ((0 : Int), ([] : List (Int)))))).2.1, ((List.getD v2_49 (Int.toNat v2_51) ((0 : Int), ((0 : Int), ((0 : Int), ([] : List (Int)))))).2.2.1, (List.getD v2_49 (Int.toNat v2_51) ((0 : Int), ((0 : Int), ((0 : Int), ([] : List (Int)))))).2.2.2)))) false fun (q4 : Bool) => bif (!q4) then some (3 : Int)
          else bif (decide (v2_51 > (0 : Int))) then bif ((decide ((0 : Int) ≤ (Go.IntKind.wrap Go.IntKind.i64 (v2_51 - (1 : Int))))) && (decide ((Go.IntKind.wrap Go.IntKind.i64 (v2_51 - (1 : Int))) < (Nat.cast (List.length v2_1_2) : Int)))) then tst (m94 (((List.getD v2_49 (Int.toNat v2_51) ((0 : Int), ((0 : Int), ((0 : Int), ([] : List (Int)))))).1, ((List.getD v2_49 (Int.toNat v2_51) ((0 : Int), ((0 : Int), ((0 : Int), ([] : List (Int)))))).2.1, ((List.getD v2_49 (Int.toNat v2_51) ((0 : Int), ((0 : Int), ((0 : Int), ([] : List (Int)))))).2.2.1, (List.getD v2_49 (Int.toNat v2_51) ((0 : Int), ((0 : Int), ((0 : Int), ([] : List (Int)))))).2.2.2))), ((List.getD v2_1_2 (Int.toNat (Go.IntKind.wrap Go.IntKind.i64 (v2_51 - (1 : Int)))) ((0 : Int), ((0 : Int), ((0 : Int), ([] : List (Int)))))).1, ((List.getD v2_1_2 (Int.toNat (Go.IntKind.wrap Go.IntKind.i64 (v2_51 - (1 : Int)))) ((0 : Int), ((0 : Int), ((0 : Int), ([] : List (Int)))))).2.1, ((List.getD v2_1_2 (Int.toNat (Go.IntKind.wrap Go.IntKind.i64 (v2_51 - (1 : Int)))) ((0 : Int), ((0 : Int), ((0 : Int), ([] : List (Int)))))).2.2.1, (List.getD v2_1_2 (Int.toNat (Go.IntKind.wrap Go.IntKind.i64 (v2_51 - (1 : Int)))) ((0 : Int), ((0 : Int), ((0 : Int), ([] : List (Int)))))).2.2.2))))) (0 : Int) fun (q7 : Int) => bif (decide (q7 ≤ (0 : Int))) then some (1 : Int)
                else tst (m95 ((List.getD v2_49 (Int.toNat v2_51) ((0 : Int), ((0 : Int), ((0 : Int), ([] : List (Int)))))).2.2.2, v2_1_1)) (0 : Int) fun (q8 : Int) => bif (q8 != (0 : Int)) then some q8
                  else l48_2 m91 m92 m93 m94 m95 L a0_0 a0_1 a0_2 n v2_1_0 v2_1_1 v2_1_2 v2_49 v2_50 (Go.IntKind.wrap Go.IntKind.i64 (v2_51 + (1 : Int))) k
            else none
          else tst (m95 ((List.getD v2_49 (Int.toNat v2_51) ((0 : Int), ((0 : Int), ((0 : Int), ([] : List (Int)))))).2.2.2, v2_1_1)) (0 : Int) fun (q5 : Int) => bif (q5 != (0 : Int)) then some q5
            else l48_2 m91 m92 m93 m94 m95 L a0_0 a0_1 a0_2 n v2_1_0 v2_1_1 v2_1_2 v2_49 v2_50 (Go.IntKind.wrap Go.IntKind.i64 (v2_51 + (1 : Int))) k
      else none
    else k
theorem h48_2 (m91 : Int → Option Bool) (m92 : (Int × Int × Int × Int × Bool) → Option Bool) (m93 : (Int × Int × Int × (List Int)) → Option Bool) (m94 : ((Int × Int × Int × (List Int)) × (Int × Int × Int × (List Int))) → Option Int) (m95 : ((List Int) × (List (Int × (Int × (Int × (Int × Bool)))))) → Option Int) (L : Nat) (a0_0 : Int) (a0_1 : (List (Int × (Int × (Int × (Int × Bool)))))) (a0_2 : (List (Int × (Int × (Int × (List Int)))))) (k : St cxT.ty → Option (V cxT.ty)) (xk : Nat → St cxT.ty → Option (V cxT.ty)) (k' : Option Int) (hk : k (X48_2 a0_0 a0_1 a0_2) = (k').map n48) : ∀ (n : Nat) (v2_1_0 : Int) (v2_1_1 : (List (Int × (Int × (Int × (Int × Bool)))))) (v2_1_2 : (List (Int × (Int × (Int × (List Int)))))) (v2_49 : (List (Int × (Int × (Int × (List Int)))))) (v2_50 : Int) (v2_51 : Int), headF prog (ev48 m91 m92 m93 m94 m95) L f48 2 [1, 1, 1, 1, 0, 1, 0, 0] (outK (outV prog f48) k xk) n (S48_2 a0_0 a0_1 a0_2 v2_1_0 v2_1_1 v2_1_2 v2_49 v2_50 v2_51) = (l48_2 m91 m92 m93 m94 m95 L a0_0 a0_1 a0_2 n v2_1_0 v2_1_1 v2_1_2 v2_49 v2_50 v2_51 k').map n48
  | 0, _, _, _, _, _, _ => rfl
  | n + 1, v2_1_0, v2_1_1, v2_1_2, v2_49, v2_50, v2_51 => by
    rw [headF_round, r48_2]
    have ih := h48_2 m91 m92 m93 m94 m95 L a0_0 a0_1 a0_2 k xk k' hk n
    simp only [l48_2, map_bif, map_tst, map_bnd, Option.map_some, Option.map_none, ih, hk]
def l48_0 (m91 : Int → Option Bool) (m92 : (Int × Int × Int × Int × Bool) → Option Bool) (m93 : (Int × Int × Int × (List Int)) → Option Bool) (m94 : ((Int × Int × Int × (List Int)) × (Int × Int × Int × (List Int))) → Option Int) (m95 : ((List Int) × (List (Int × (Int × (Int × (Int × Bool)))))) → Option Int) (L : Nat) (a0_0 : Int) (a0_1 : (List (Int × (Int × (Int × (Int × Bool)))))) (a0_2 : (List (Int × (Int × (Int × (List Int)))))) : Nat → Int → (List (Int × (Int × (Int × (Int × Bool))))) → (List (Int × (Int × (Int × (List Int))))) → Int → (Int → (List (Int × (Int × (Int × (Int × Bool))))) → (List (Int × (Int × (Int × (List Int))))) → Option Int) → Option Int
  | 0, _, _, _, _, _ => none
  | n + 1, v0_1_0, v0_1_1, v0_1_2, v0_25, k =>
    bif (decide (v0_25 < (Nat.cast (List.length a0_1) : Int))) then bif ((decide ((0 : Int) ≤ v0_25)) && (decide (v0_25 < (Nat.cast (List.length a0_1) : Int)))) then tst (m92 ((List.getD a0_1 (Int.toNat v0_25) ((0 : Int), ((0 : Int), ((0 : Int), ((0 : Int), Bool.false))))).1, ((List.getD a0_1 (Int.toNat v0_25) ((0 : Int), ((0 : Int), ((0 : Int), ((0 : Int), Bool.false))))).2.1, ((List.getD a0_1 (Int.toNat v0_25) ((0 : Int), ((0 : Int), ((0 : Int), ((0 : Int), Bool.false))))).2.2.1, ((List.getD a0_1 (Int.toNat v0_25) ((0 : Int), ((0 : Int), ((0 : Int), ((0 : Int), Bool.false))))).2.2.2.1, (List.getD a0_1 (Int.toNat v0_25) ((0 : Int), ((0 : Int), ((0 : Int), ((0 : Int), Bool.false))))).2.2.2.2))))) false fun (q4 : Bool) => bif (!q4) then some (3 : Int)
          else bif (decide (v0_25 > (0 : Int))) then bif ((decide ((0 : Int) ≤ (Go.IntKind.wrap Go.IntKind.i64 (v0_25 - (1 : Int))))) && (decide ((Go.IntKind.wrap Go.IntKind.i64 (v0_25 - (1 : Int))) < (Nat.cast (List.length v0_1_1) : Int)))) then bif (decide ((List.getD a0_1 (Int.toNat v0_25) ((0 : Int), ((0 : Int), ((0 : Int), ((0 : Int), Bool.false))))).1 ≤ (List.getD v0_1_1 (Int.toNat (Go.IntKind.wrap Go.IntKind.i64 (v0_25 - (1 : Int)))) ((0 : Int), ((0 : Int), ((0 : Int), ((0 : Int), Bool.false))))).1)) then some (1 : Int)
              else l48_0 m91 m92 m93 m94 m95 L a0_0 a0_1 a0_2 n v0_1_0 v0_1_1 v0_1_2 (Go.IntKind.wrap Go.IntKind.i64 (v0_25 + (1 : Int))) k
            else none
          else l48_0 m91 m92 m93 m94 m95 L a0_0 a0_1 a0_2 n v0_1_0 v0_1_1 v0_1_2 (Go.IntKind.wrap Go.IntKind.i64 (v0_25 + (1 : Int))) k
      else none
    else k v0_1_0 v0_1_1 v0_1_2
theorem h48_0 (m91 : Int → Option Bool) (m92 : (Int × Int × Int × Int × Bool) → Option Bool) (m93 : (Int × Int × Int × (List Int)) → Option Bool) (m94 : ((Int × Int × Int × (List Int)) × (Int × Int × Int × (List Int))) → Option Int) (m95 : ((List Int) × (List (Int × (Int × (Int × (Int × Bool)))))) → Option Int) (L : Nat) (a0_0 : Int) (a0_1 : (List (Int × (Int × (Int × (Int × Bool)))))) (a0_2 : (List (Int × (Int × (Int × (List Int)))))) (k : St cxT.ty → Option (V cxT.ty)) (xk : Nat → St cxT.ty → Option (V cxT.ty)) (k' : Int → (List (Int × (Int × (Int × (Int × Bool))))) → (List (Int × (Int × (Int × (List Int))))) → Option Int) (hk : ∀ (w0_1_0 : Int) (w0_1_1 : (List (Int × (Int × (Int × (Int × Bool)))))) (w0_1_2 : (List (Int × (Int × (Int × (List Int)))))), k (X48_0 a0_0 a0_1 a0_2 w0_1_0 w0_1_1 w0_1_2) = (k' w0_1_0 w0_1_1 w0_1_2).map n48) : ∀ (n : Nat) (v0_1_0 : Int) (v0_1_1 : (List (Int × (Int × (Int × (Int × Bool)))))) (v0_1_2 : (List (Int × (Int × (Int × (List Int)))))) (v0_25 : Int), headF prog (ev48 m91 m92 m93 m94 m95) L f48 0 [1, 1, 1, 0, 1, 0, 0] (outK (outV prog f48) k xk) n (S48_0 a0_0 a0_1 a0_2 v0_1_0 v0_1_1 v0_1_2 v0_25) = (l48_0 m91 m92 m93 m94 m95 L a0_0 a0_1 a0_2 n v0_1_0 v0_1_1 v0_1_2 v0_25 k').map n48
  | 0, _, _, _, _ => rfl
  | n + 1, v0_1_0, v0_1_1, v0_1_2, v0_25 => by
    rw [headF_round, r48_0]
    have ih := h48_0 m91 m92 m93 m94 m95 L a0_0 a0_1 a0_2 k xk k' hk n
    simp only [l48_0, map_bif, map_tst, map_bnd, Option.map_some, Option.map_none, ih, hk]
def g48 (m91 : Int → Option Bool) (m92 : (Int × Int × Int × Int × Bool) → Option Bool) (m93 : (Int × Int × Int × (List Int)) → Option Bool) (m94 : ((Int × Int × Int × (List Int)) × (Int × Int × Int × (List Int))) → Option Int) (m95 : ((List Int) × (List (Int × (Int × (Int × (Int × Bool)))))) → Option Int) (L : Nat) (a0_0 : Int) (a0_1 : (List (Int × (Int × (Int × (Int × Bool)))))) (a0_2 : (List (Int × (Int × (Int × (List Int)))))) : Option Int :=
  tst (m91 a0_0) false fun (q1 : Bool) => bif (!q1) then some (3 : Int)
    else bif (decide ((Nat.cast (List.length a0_1) : Int) > (8 : Int))) then some (2 : Int)
    else bif (decide ((Nat.cast (List.length a0_2) : Int) > (4 : Int))) then some (2 : Int)
    else l48_0 m91 m92 m93 m94 m95 L a0_0 a0_1 a0_2 L a0_0 a0_1 a0_2 (0 : Int) (fun (w0_1_0 : Int) (w0_1_1 : (List (Int × (Int × (Int × (Int × Bool)))))) (w0_1_2 : (List (Int × (Int × (Int × (List Int)))))) => l48_2 m91 m92 m93 m94 m95 L a0_0 a0_1 a0_2 L w0_1_0 w0_1_1 w0_1_2 w0_1_2 (Nat.cast (List.length w0_1_2) : Int) (0 : Int) (some (0 : Int)))
theorem e48 (m91 : Int → Option Bool) (m92 : (Int × Int × Int × Int × Bool) → Option Bool) (m93 : (Int × Int × Int × (List Int)) → Option Bool) (m94 : ((Int × Int × Int × (List Int)) × (Int × Int × Int × (List Int))) → Option Int) (m95 : ((List Int) × (List (Int × (Int × (Int × (Int × Bool)))))) → Option Int) (L : Nat) (a0_0 : Int) (a0_1 : (List (Int × (Int × (Int × (Int × Bool)))))) (a0_2 : (List (Int × (Int × (Int × (List Int)))))) : evF prog (ev48 m91 m92 m93 m94 m95) (loopN L) f48 (a48.enc (a0_0, a0_1, a0_2)) = (g48 m91 m92 m93 m94 m95 L a0_0 a0_1 a0_2).map n48 := by
  let K'2 : Option Int := (some (0 : Int))
  have hin2 : ∀ (v2_1_0 : Int) (v2_1_1 : (List (Int × (Int × (Int × (Int × Bool)))))) (v2_1_2 : (List (Int × (Int × (Int × (List Int)))))) (v2_49 : (List (Int × (Int × (Int × (List Int)))))) (v2_50 : Int) (v2_51 : Int), headF prog (ev48 m91 m92 m93 m94 m95) L f48 2 [1, 1, 1, 1, 0, 1, 0, 0] (outK (outV prog f48) (topK prog (ev48 m91 m92 m93 m94 m95) L f48 [1, 1, 1, 1, 0, 1] (outV prog f48)).n (topK prog (ev48 m91 m92 m93 m94 m95) L f48 [1, 1, 1, 1, 0, 1] (outV prog f48)).x) L (S48_2 a0_0 a0_1 a0_2 v2_1_0 v2_1_1 v2_1_2 v2_49 v2_50 v2_51) = (l48_2 m91 m92 m93 m94 m95 L a0_0 a0_1 a0_2 L v2_1_0 v2_1_1 v2_1_2 v2_49 v2_50 v2_51 K'2).map n48 := fun v2_1_0 v2_1_1 v2_1_2 v2_49 v2_50 v2_51 => h48_2 m91 m92 m93 m94 m95 L a0_0 a0_1 a0_2 _ _ K'2 (by rw [t48_2]; simp only [K'2, map_bif, map_tst, map_bnd, Option.map_some, Option.map_none]) L v2_1_0 v2_1_1 v2_1_2 v2_49 v2_50 v2_51
  let K'0 : Int → (List (Int × (Int × (Int × (Int × Bool))))) → (List (Int × (Int × (Int × (List Int))))) → Option Int := (fun (w0_1_0 : Int) (w0_1_1 : (List (Int × (Int × (Int × (Int × Bool)))))) (w0_1_2 : (List (Int × (Int × (Int × (List Int)))))) => l48_2 m91 m92 m93 m94 m95 L a0_0 a0_1 a0_2 L w0_1_0 w0_1_1 w0_1_2 w0_1_2 (Nat.cast (List.length w0_1_2) : Int) (0 : Int) (some (0 : Int)))
  have hin0 : ∀ (v0_1_0 : Int) (v0_1_1 : (List (Int × (Int × (Int × (Int × Bool)))))) (v0_1_2 : (List (Int × (Int × (Int × (List Int)))))) (v0_25 : Int), headF prog (ev48 m91 m92 m93 m94 m95) L f48 0 [1, 1, 1, 0, 1, 0, 0] (outK (outV prog f48) (topK prog (ev48 m91 m92 m93 m94 m95) L f48 [1, 1, 1, 0, 1] (outV prog f48)).n (topK prog (ev48 m91 m92 m93 m94 m95) L f48 [1, 1, 1, 0, 1] (outV prog f48)).x) L (S48_0 a0_0 a0_1 a0_2 v0_1_0 v0_1_1 v0_1_2 v0_25) = (l48_0 m91 m92 m93 m94 m95 L a0_0 a0_1 a0_2 L v0_1_0 v0_1_1 v0_1_2 v0_25 K'0).map n48 := fun v0_1_0 v0_1_1 v0_1_2 v0_25 => h48_0 m91 m92 m93 m94 m95 L a0_0 a0_1 a0_2 _ _ K'0 (fun w0_1_0 w0_1_1 w0_1_2 => by rw [t48_0]; simp only [K'0, map_bif, map_tst, map_bnd, Option.map_some, Option.map_none, hin2, K'2]) L v0_1_0 v0_1_1 v0_1_2 v0_25
  rw [i48]; simp only [g48, map_bif, map_tst, map_bnd, Option.map_some, Option.map_none, hin2, K'2, hin0, K'0]
theorem s48 (m91 : Int → Option Bool) (m92 : (Int × Int × Int × Int × Bool) → Option Bool) (m93 : (Int × Int × Int × (List Int)) → Option Bool) (m94 : ((Int × Int × Int × (List Int)) × (Int × Int × Int × (List Int))) → Option Int) (m95 : ((List Int) × (List (Int × (Int × (Int × (Int × Bool)))))) → Option Int) (h91 : Sat prog cxT 91 (c91 m91)) (h92 : Sat prog cxT 92 (c92 m92)) (h93 : Sat prog cxT 93 (c93 m93)) (h94 : Sat prog cxT 94 (c94 m94)) (h95 : Sat prog cxT 95 (c95 m95)) (m : (Int × (List (Int × (Int × (Int × (Int × Bool))))) × (List (Int × (Int × (Int × (List Int)))))) → Option Int) (hm : ∀ (x : (Int × (List (Int × (Int × (Int × (Int × Bool))))) × (List (Int × (Int × (Int × (List Int))))))) t, m x = some t → ∃ L, g48 m91 m92 m93 m94 m95 L x.1 x.2.1 x.2.2 = some t) : Sat prog cxT 48 (c48 m) :=
  sat_t cxT_ok cxT_pok (by rfl) (fn := f48) rfl a48 n48 dd48 m (ev48 m91 m92 m93 m94 m95) (kok_cons h91 (kok_cons h92 (kok_cons h93 (kok_cons h94 (kok_cons h95 kok_nil))))) kwok_nil (fun L x => g48 m91 m92 m93 m94 m95 L x.1 x.2.1 x.2.2) (fun L x => e48 m91 m92 m93 m94 m95 L x.1 x.2.1 x.2.2) hm hs48
end Go.Proofs.Try
