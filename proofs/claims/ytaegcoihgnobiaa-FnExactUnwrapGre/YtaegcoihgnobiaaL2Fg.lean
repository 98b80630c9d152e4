/- A part of the proof of FnExactUnwrapGre: L2Fg, L2Pg. -/
import Derived.Test.YtaegcoihgnobiaaL2Base
import Derived.Test.YtaegcoihgnobiaaL2Pf
set_option maxHeartbeats 0
set_option linter.unusedVariables false
set_option linter.unusedSimpArgs false
namespace Go.Proofs.Try
open Go Go.VM Go.RowKit
/-! loop.example/g00222/impl.TakeNumber -/
def ev75 (m82 : Int → Option Bool) : Env cxT := { Kc := kcOf [(82, c82 m82)], Kw := kwOf [], lv := fun i => if i = 0 then [(6, []), (7, []), (31, [some 5]), (32, []), (33, [])] else [], xv := fun i => if i = 0 then some [(6, []), (7, [])] else none }
def S75_0 (a0 : (List Int)) (a1 : Int) (a2 : Int) (v0_6_0 : Int) (v0_6_1 : Int) (v0_7 : Int) (v0_33 : Int) : St cxT.ty := { slots := [junk, junk, junk, junk, junk, junk, (.inr (.inr { kind := 0, nm := 384, cells := [(lv (.int .i64 v0_6_0)), (lv (.int .i64 v0_6_1))], s := { own := 0, nm := 0, e := 0, o := false, xs := ([] : List (PUnit)) }, i := 0, off := 0 })), (.inl (.inl (lv (.int .u64 v0_7)))), junk, junk, junk, junk, junk, junk, junk, junk, junk, junk, junk, junk, junk, junk, junk, junk, junk, junk, junk, junk, junk, junk, junk, (.inl (.inl (ls { own := 0, nm := 0, e := 5, o := false, xs := (List.drop (Int.toNat a1) (List.take (Int.toNat (Go.IntKind.wrap Go.IntKind.i64 (a1 + a2))) a0)) }))), (.inl (.inl (lv (.int .i64 (Nat.cast (List.length (List.drop (Int.toNat a1) (List.take (Int.toNat (Go.IntKind.wrap Go.IntKind.i64 (a1 + a2))) a0))) : Int))))), (.inl (.inl (lv (.int .i64 v0_33))))] ++ List.replicate 12 junk, D := [], F := [], ctr := 1 }
def X75_0 (a0 : (List Int)) (a1 : Int) (a2 : Int) (w0_6_0 : Int) (w0_6_1 : Int) (w0_7 : Int) : St cxT.ty := { slots := [junk, junk, junk, junk, junk, junk, (.inr (.inr { kind := 0, nm := 384, cells := [(lv (.int .i64 w0_6_0)), (lv (.int .i64 w0_6_1))], s := { own := 0, nm := 0, e := 0, o := false, xs := ([] : List (PUnit)) }, i := 0, off := 0 })), (.inl (.inl (lv (.int .u64 w0_7))))] ++ List.replicate 38 junk, D := [], F := [], ctr := 1 }
theorem i75 (m82 : Int → Option Bool) (L : Nat) (a0 : (List Int)) (a1 : Int) (a2 : Int) : evF prog (ev75 m82) (loopN L) f75 (a75.enc (a0, a1, a2)) =
  bif (Option.isSome (m82 a2)) then bif (!(Option.getD (m82 a2) Bool.false)) then some (n75 ((3 : Int), (0 : Int)))
    else bif (decide (a1 < (0 : Int))) then some (n75 ((3 : Int), (0 : Int)))
    else bif (decide (a1 > (Go.IntKind.wrap Go.IntKind.i64 ((Nat.cast (List.length a0) : Int) - a2)))) then some (n75 ((3 : Int), (0 : Int)))
    else bif (((decide ((0 : Int) ≤ a1)) && (decide (a1 ≤ (Go.IntKind.wrap Go.IntKind.i64 (a1 + a2))))) && (decide ((Go.IntKind.wrap Go.IntKind.i64 (a1 + a2)) ≤ (Nat.cast (List.length a0) : Int)))) then headF prog (ev75 m82) L f75 0 [1, 1, 1, 0, 1, 0, 0] (outK (outV prog f75) (topK prog (ev75 m82) L f75 [1, 1, 1, 0, 1] (outV prog f75)).n (topK prog (ev75 m82) L f75 [1, 1, 1, 0, 1] (outV prog f75)).x) L (S75_0 a0 a1 a2 (0 : Int) (0 : Int) (0 : Int) (0 : Int))
    else none
  else none := by kernel_rfl
theorem r75_0 (m82 : Int → Option Bool) (L : Nat) (a0 : (List Int)) (a1 : Int) (a2 : Int) (k : St cxT.ty → Option (V cxT.ty)) (xk : Nat → St cxT.ty → Option (V cxT.ty)) (g : St cxT.ty → Option (V cxT.ty)) (v0_6_0 : Int) (v0_6_1 : Int) (v0_7 : Int) (v0_33 : Int) : roundF prog (ev75 m82) L f75 0 [1, 1, 1, 0, 1, 0, 0] (outK (outV prog f75) k xk) g (S75_0 a0 a1 a2 v0_6_0 v0_6_1 v0_7 v0_33) =
  bif (decide (v0_33 < (Nat.cast (List.length (List.drop (Int.toNat a1) (List.take (Int.toNat (Go.IntKind.wrap Go.IntKind.i64 (a1 + a2))) a0))) : Int))) then bif ((decide ((0 : Int) ≤ v0_33)) && (decide (v0_33 < (Nat.cast (List.length (List.drop (Int.toNat a1) (List.take (Int.toNat (Go.IntKind.wrap Go.IntKind.i64 (a1 + a2))) a0))) : Int)))) then g (S75_0 a0 a1 a2 v0_6_0 v0_6_1 (Go.IntKind.wrap Go.IntKind.u64 (Nat.cast (BitVec.toNat (HOr.hOr (BitVec.ofInt (Go.IntKind.bits Go.IntKind.u64) (Go.IntKind.wrap Go.IntKind.u64 (v0_7 * ((2 : Int) ^ (min (Int.toNat (8 : Int)) (Go.IntKind.bits Go.IntKind.u64)))))) (BitVec.ofInt (Go.IntKind.bits Go.IntKind.u64) (Go.IntKind.wrap Go.IntKind.u64 (List.getD (List.drop (Int.toNat a1) (List.take (Int.toNat (Go.IntKind.wrap Go.IntKind.i64 (a1 + a2))) a0)) (Int.toNat v0_33) (0 : Int)))))) : Int)) (Go.IntKind.wrap Go.IntKind.i64 (v0_33 + (1 : Int))))
    else none
  else k (X75_0 a0 a1 a2 v0_6_0 v0_6_1 v0_7) := by kernel_rfl
theorem t75_0 (m82 : Int → Option Bool) (L : Nat) (a0 : (List Int)) (a1 : Int) (a2 : Int) (w0_6_0 : Int) (w0_6_1 : Int) (w0_7 : Int) : (topK prog (ev75 m82) L f75 [1, 1, 1, 0, 1] (outV prog f75)).n (X75_0 a0 a1 a2 w0_6_0 w0_6_1 w0_7) =
  some (n75 ((0 : Int), (Go.IntKind.wrap Go.IntKind.i64 w0_7))) := by kernel_rfl
def l75_0 (m82 : Int → Option Bool) (L : Nat) (a0 : (List Int)) (a1 : Int) (a2 : Int) : Nat → Int → Int → Int → Int → (Int → Int → Int → Option (Int × Int)) → Option (Int × Int)
  | 0, _, _, _, _, _ => none
  | n + 1, v0_6_0, v0_6_1, v0_7, v0_33, k =>
    bif (decide (v0_33 < (Nat.cast (List.length (List.drop (Int.toNat a1) (List.take (Int.toNat (Go.IntKind.wrap Go.IntKind.i64 (a1 + a2))) a0))) : Int))) then bif ((decide ((0 : Int) ≤ v0_33)) && (decide (v0_33 < (Nat.cast (List.length (List.drop (Int.toNat a1) (List.take (Int.toNat (Go.IntKind.wrap Go.IntKind.i64 (a1 + a2))) a0))) : Int)))) then l75_0 m82 L a0 a1 a2 n v0_6_0 v0_6_1 (Go.IntKind.wrap Go.IntKind.u64 (Nat.cast (BitVec.toNat (HOr.hOr (BitVec.ofInt (Go.IntKind.bits Go.IntKind.u64) (Go.IntKind.wrap Go.IntKind.u64 (v0_7 * ((2 : Int) ^ (min (Int.toNat (8 : Int)) (Go.IntKind.bits Go.IntKind.u64)))))) (BitVec.ofInt (Go.IntKind.bits Go.IntKind.u64) (Go.IntKind.wrap Go.IntKind.u64 (List.getD (List.drop (Int.toNat a1) (List.take (Int.toNat (Go.IntKind.wrap Go.IntKind.i64 (a1 + a2))) a0)) (Int.toNat v0_33) (0 : Int)))))) : Int)) (Go.IntKind.wrap Go.IntKind.i64 (v0_33 + (1 : Int))) k
      else none
    else k v0_6_0 v0_6_1 v0_7
theorem h75_0 (m82 : Int → Option Bool) (L : Nat) (a0 : (List Int)) (a1 : Int) (a2 : Int) (k : St cxT.ty → Option (V cxT.ty)) (xk : Nat → St cxT.ty → Option (V cxT.ty)) (k' : Int → Int → Int → Option (Int × Int)) (hk : ∀ (w0_6_0 : Int) (w0_6_1 : Int) (w0_7 : Int), k (X75_0 a0 a1 a2 w0_6_0 w0_6_1 w0_7) = (k' w0_6_0 w0_6_1 w0_7).map n75) : ∀ (n : Nat) (v0_6_0 : Int) (v0_6_1 : Int) (v0_7 : Int) (v0_33 : Int), headF prog (ev75 m82) L f75 0 [1, 1, 1, 0, 1, 0, 0] (outK (outV prog f75) k xk) n (S75_0 a0 a1 a2 v0_6_0 v0_6_1 v0_7 v0_33) = (l75_0 m82 L a0 a1 a2 n v0_6_0 v0_6_1 v0_7 v0_33 k').map n75
  | 0, _, _, _, _ => rfl
  | n + 1, v0_6_0, v0_6_1, v0_7, v0_33 => by
    rw [headF_round, r75_0]
    have ih := h75_0 m82 L a0 a1 a2 k xk k' hk n
    simp only [l75_0, map_bif, Option.map_some, Option.map_none, ih, hk]
def g75 (m82 : Int → Option Bool) (L : Nat) (a0 : (List Int)) (a1 : Int) (a2 : Int) : Option (Int × Int) :=
  bif (Option.isSome (m82 a2)) then bif (!(Option.getD (m82 a2) Bool.false)) then some ((3 : Int), (0 : Int))
    else bif (decide (a1 < (0 : Int))) then some ((3 : Int), (0 : Int))
    else bif (decide (a1 > (Go.IntKind.wrap Go.IntKind.i64 ((Nat.cast (List.length a0) : Int) - a2)))) then some ((3 : Int), (0 : Int))
    else bif (((decide ((0 : Int) ≤ a1)) && (decide (a1 ≤ (Go.IntKind.wrap Go.IntKind.i64 (a1 + a2))))) && (decide ((Go.IntKind.wrap Go.IntKind.i64 (a1 + a2)) ≤ (Nat.cast (List.length a0) : Int)))) then l75_0 m82 L a0 a1 a2 L (0 : Int) (0 : Int) (0 : Int) (0 : Int) (fun (w0_6_0 : Int) (w0_6_1 : Int) (w0_7 : Int) => some ((0 : Int), (Go.IntKind.wrap Go.IntKind.i64 w0_7)))
    else none
  else none
theorem e75 (m82 : Int → Option Bool) (L : Nat) (a0 : (List Int)) (a1 : Int) (a2 : Int) : evF prog (ev75 m82) (loopN L) f75 (a75.enc (a0, a1, a2)) = (g75 m82 L a0 a1 a2).map n75 := by
  let K'0 : Int → Int → Int → Option (Int × Int) := (fun (w0_6_0 : Int) (w0_6_1 : Int) (w0_7 : Int) => some ((0 : Int), (Go.IntKind.wrap Go.IntKind.i64 w0_7)))
  have hin0 : ∀ (v0_6_0 : Int) (v0_6_1 : Int) (v0_7 : Int) (v0_33 : Int), headF prog (ev75 m82) L f75 0 [1, 1, 1, 0, 1, 0, 0] (outK (outV prog f75) (topK prog (ev75 m82) L f75 [1, 1, 1, 0, 1] (outV prog f75)).n (topK prog (ev75 m82) L f75 [1, 1, 1, 0, 1] (outV prog f75)).x) L (S75_0 a0 a1 a2 v0_6_0 v0_6_1 v0_7 v0_33) = (l75_0 m82 L a0 a1 a2 L v0_6_0 v0_6_1 v0_7 v0_33 K'0).map n75 := fun v0_6_0 v0_6_1 v0_7 v0_33 => h75_0 m82 L a0 a1 a2 _ _ K'0 (fun w0_6_0 w0_6_1 w0_7 => by rw [t75_0]; simp only [K'0, map_bif, Option.map_some, Option.map_none]) L v0_6_0 v0_6_1 v0_7 v0_33
  rw [i75]; simp only [g75, map_bif, Option.map_some, Option.map_none, hin0, K'0]
theorem s75 (m82 : Int → Option Bool) (h82 : Sat prog cxT 82 (c82 m82)) (m : ((List Int) × Int × Int) → Option (Int × Int)) (hm : ∀ (x : ((List Int) × Int × Int)) t, m x = some t → ∃ L, g75 m82 L x.1 x.2.1 x.2.2 = some t) : Sat prog cxT 75 (c75 m) :=
  sat_t cxT_ok cxT_pok (by rfl) (fn := f75) rfl a75 n75 dd75 m (ev75 m82) (kok_cons h82 kok_nil) kwok_nil (fun L x => g75 m82 L x.1 x.2.1 x.2.2) (fun L x => e75 m82 L x.1 x.2.1 x.2.2) hm hs75
/-! loop.example/g00222/impl.isNumberSize -/
def ev82 : Env cxT := { Kc := kcOf [], Kw := kwOf [], lv := fun i => [], xv := fun i => none }
theorem i82 (L : Nat) (a0 : Int) : evF prog ev82 (loopN L) f82 (a82.enc a0) =
  bif (decide (a0 ≥ (1 : Int))) then some (n82 (decide (a0 ≤ (6 : Int))))
  else some (n82 Bool.false) := by kernel_rfl
def g82 (L : Nat) (a0 : Int) : Option Bool :=
  bif (decide (a0 ≥ (1 : Int))) then some (decide (a0 ≤ (6 : Int)))
  else some Bool.false
theorem e82 (L : Nat) (a0 : Int) : evF prog ev82 (loopN L) f82 (a82.enc a0) = (g82 L a0).map n82 := by
  rw [i82]; simp only [g82, map_bif, Option.map_some, Option.map_none]
theorem s82 (m : Int → Option Bool) (hm : ∀ (x : Int) t, m x = some t → ∃ L, g82 L x = some t) : Sat prog cxT 82 (c82 m) :=
  sat_t cxT_ok cxT_pok (by rfl) (fn := f82) rfl a82 n82 dd82 m ev82 kok_nil kwok_nil (fun L x => g82 L x) (fun L x => e82 L x) hm hs82
/-! loop.example/g00222/spec.l1Take -/
def ev50 : Env cxT := { Kc := kcOf [], Kw := kwOf [], lv := fun i => if i = 0 then [(0, [some 5]), (1, []), (2, []), (7, []), (8, [])] else [], xv := fun i => if i = 0 then some [(7, [])] else none }
def S50_0 (a0 : (List Int)) (a1 : Int) (a2 : Int) (v0_7 : Int) (v0_8 : Int) : St cxT.ty := { slots := [(.inl (.inl (ls { own := 0, nm := 0, e := 5, o := false, xs := a0 }))), (.inl (.inl (lv (.int .i64 a1)))), (.inl (.inl (lv (.int .i64 a2)))), junk, junk, junk, junk, (.inl (.inl (lv (.int .i64 v0_7)))), (.inl (.inl (lv (.int .i64 v0_8))))] ++ List.replicate 16 junk, D := [], F := [], ctr := 1 }
def X50_0 (a0 : (List Int)) (a1 : Int) (a2 : Int) (w0_7 : Int) : St cxT.ty := { slots := [junk, junk, junk, junk, junk, junk, junk, (.inl (.inl (lv (.int .i64 w0_7))))] ++ List.replicate 17 junk, D := [], F := [], ctr := 1 }
theorem i50 (L : Nat) (a0 : (List Int)) (a1 : Int) (a2 : Int) : evF prog ev50 (loopN L) f50 (a50.enc (a0, a1, a2)) =
  headF prog ev50 L f50 0 [1, 1, 0, 1, 0, 0] (outK (outV prog f50) (topK prog ev50 L f50 [1, 1, 0, 1] (outV prog f50)).n (topK prog ev50 L f50 [1, 1, 0, 1] (outV prog f50)).x) L (S50_0 a0 a1 a2 (0 : Int) (0 : Int)) := by kernel_rfl
theorem r50_0 (L : Nat) (a0 : (List Int)) (a1 : Int) (a2 : Int) (k : St cxT.ty → Option (V cxT.ty)) (xk : Nat → St cxT.ty → Option (V cxT.ty)) (g : St cxT.ty → Option (V cxT.ty)) (v0_7 : Int) (v0_8 : Int) : roundF prog ev50 L f50 0 [1, 1, 0, 1, 0, 0] (outK (outV prog f50) k xk) g (S50_0 a0 a1 a2 v0_7 v0_8) =
  bif (decide (v0_8 < a2)) then bif ((decide ((0 : Int) ≤ (Go.IntKind.wrap Go.IntKind.i64 (a1 + v0_8)))) && (decide ((Go.IntKind.wrap Go.IntKind.i64 (a1 + v0_8)) < (Nat.cast (List.length a0) : Int)))) then g (S50_0 a0 a1 a2 (Go.IntKind.wrap Go.IntKind.i64 ((Go.IntKind.wrap Go.IntKind.i64 (v0_7 * (256 : Int))) + (Go.IntKind.wrap Go.IntKind.i64 (List.getD a0 (Int.toNat (Go.IntKind.wrap Go.IntKind.i64 (a1 + v0_8))) (0 : Int))))) (Go.IntKind.wrap Go.IntKind.i64 (v0_8 + (1 : Int))))
    else none
  else k (X50_0 a0 a1 a2 v0_7) := by kernel_rfl
theorem t50_0 (L : Nat) (a0 : (List Int)) (a1 : Int) (a2 : Int) (w0_7 : Int) : (topK prog ev50 L f50 [1, 1, 0, 1] (outV prog f50)).n (X50_0 a0 a1 a2 w0_7) =
  some (n50 w0_7) := by kernel_rfl
def l50_0 (L : Nat) (a0 : (List Int)) (a1 : Int) (a2 : Int) : Nat → Int → Int → (Int → Option Int) → Option Int
  | 0, _, _, _ => none
  | n + 1, v0_7, v0_8, k =>
    bif (decide (v0_8 < a2)) then bif ((decide ((0 : Int) ≤ (Go.IntKind.wrap Go.IntKind.i64 (a1 + v0_8)))) && (decide ((Go.IntKind.wrap Go.IntKind.i64 (a1 + v0_8)) < (Nat.cast (List.length a0) : Int)))) then l50_0 L a0 a1 a2 n (Go.IntKind.wrap Go.IntKind.i64 ((Go.IntKind.wrap Go.IntKind.i64 (v0_7 * (256 : Int))) + (Go.IntKind.wrap Go.IntKind.i64 (List.getD a0 (Int.toNat (Go.IntKind.wrap Go.IntKind.i64 (a1 + v0_8))) (0 : Int))))) (Go.IntKind.wrap Go.IntKind.i64 (v0_8 + (1 : Int))) k
      else none
    else k v0_7
theorem h50_0 (L : Nat) (a0 : (List Int)) (a1 : Int) (a2 : Int) (k : St cxT.ty → Option (V cxT.ty)) (xk : Nat → St cxT.ty → Option (V cxT.ty)) (k' : Int → Option Int) (hk : ∀ (w0_7 : Int), k (X50_0 a0 a1 a2 w0_7) = (k' w0_7).map n50) : ∀ (n : Nat) (v0_7 : Int) (v0_8 : Int), headF prog ev50 L f50 0 [1, 1, 0, 1, 0, 0] (outK (outV prog f50) k xk) n (S50_0 a0 a1 a2 v0_7 v0_8) = (l50_0 L a0 a1 a2 n v0_7 v0_8 k').map n50
  | 0, _, _ => rfl
  | n + 1, v0_7, v0_8 => by
    rw [headF_round, r50_0]
    have ih := h50_0 L a0 a1 a2 k xk k' hk n
    simp only [l50_0, map_bif, Option.map_some, Option.map_none, ih, hk]
def g50 (L : Nat) (a0 : (List Int)) (a1 : Int) (a2 : Int) : Option Int :=
  l50_0 L a0 a1 a2 L (0 : Int) (0 : Int) (fun (w0_7 : Int) => some w0_7)
theorem e50 (L : Nat) (a0 : (List Int)) (a1 : Int) (a2 : Int) : evF prog ev50 (loopN L) f50 (a50.enc (a0, a1, a2)) = (g50 L a0 a1 a2).map n50 := by
  let K'0 : Int → Option Int := (fun (w0_7 : Int) => some w0_7)
  have hin0 : ∀ (v0_7 : Int) (v0_8 : Int), headF prog ev50 L f50 0 [1, 1, 0, 1, 0, 0] (outK (outV prog f50) (topK prog ev50 L f50 [1, 1, 0, 1] (outV prog f50)).n (topK prog ev50 L f50 [1, 1, 0, 1] (outV prog f50)).x) L (S50_0 a0 a1 a2 v0_7 v0_8) = (l50_0 L a0 a1 a2 L v0_7 v0_8 K'0).map n50 := fun v0_7 v0_8 => h50_0 L a0 a1 a2 _ _ K'0 (fun w0_7 => by rw [t50_0]; simp only [K'0, map_bif, Option.map_some, Option.map_none]) L v0_7 v0_8
  rw [i50]; simp only [g50, map_bif, Option.map_some, Option.map_none, hin0, K'0]
theorem s50 (m : ((List Int) × Int × Int) → Option Int) (hm : ∀ (x : ((List Int) × Int × Int)) t, m x = some t → ∃ L, g50 L x.1 x.2.1 x.2.2 = some t) : Sat prog cxT 50 (c50 m) :=
  sat_t cxT_ok cxT_pok (by rfl) (fn := f50) rfl a50 n50 dd50 m ev50 kok_nil kwok_nil (fun L x => g50 L x.1 x.2.1 x.2.2) (fun L x => e50 L x.1 x.2.1 x.2.2) hm hs50
end Go.Proofs.Try

set_option maxHeartbeats 0
set_option linter.unusedVariables false
set_option linter.unusedSimpArgs false
namespace Go.Proofs.Try
open Go Go.VM Go.RowKit

def m82 (x : Int) : Option Bool := some (decide (1 ≤ x ∧ x ≤ 6))
theorem sat82 : Sat prog cxT 82 (c82 m82) := s82 m82 fun x t h => by
  cases h
  refine ⟨0, ?_⟩
  unfold g82
  by_cases h1 : 1 ≤ x <;> simp [h1]
/-! numbers in bytes -/
def num (a : List Int) (h : Int) : Int := a.foldl (fun h x => h * 256 + x) h
theorem num_nil (h : Int) : num [] h = h := rfl
theorem num_cons (x : Int) (a : List Int) (h : Int) : num (x :: a) h = num a (h * 256 + x) := rfl
theorem pow256 {i : Nat} (h : i < 6) : (256 : Int) ^ i ≤ 1099511627776 := by
  have : i = 0 ∨ i = 1 ∨ i = 2 ∨ i = 3 ∨ i = 4 ∨ i = 5 := by omega
  rcases this with rfl | rfl | rfl | rfl | rfl | rfl <;> decide
theorem num_bound : ∀ (a : List Int) (h : Int) (i : Nat), okB a = true → 0 ≤ h → h < 256 ^ i → 0 ≤ num a h ∧ num a h < 256 ^ (i + a.length)
  | [], h, i, _, h0, h1 => ⟨h0, h1⟩
  | x :: a, h, i, hb, h0, h1 => by
    obtain ⟨hx, hb⟩ := okB_cons.1 hb
    have hp : (256 : Int) ^ (i + 1) = 256 ^ i * 256 := Int.pow_succ ..
    have := num_bound a (h * 256 + x) (i + 1) hb (by omega) (by omega)
    rw [num_cons, List.length_cons, show i + (a.length + 1) = i + 1 + a.length by omega]
    exact this

def m50 (x : List Int × Int × Int) : Option Int :=
  if okB x.1 = true ∧ x.1.length ≤ 1000000000000 ∧ 0 ≤ x.2.1 ∧ 0 ≤ x.2.2 ∧ x.2.2 ≤ 6 ∧ x.2.1 + x.2.2 ≤ x.1.length then some (num ((x.1.drop x.2.1.toNat).take x.2.2.toNat) 0) else none
theorem p50 (L : Nat) (a : List Int) (p z : Nat) (hb : okB a = true) (hl : a.length ≤ 1000000000000) (hz : z ≤ 6) (hp : p + z ≤ a.length) (k : Int → Option Int) : ∀ (n i : Nat) (h : Int), i ≤ z → z < n + i → 0 ≤ h → h < 256 ^ i →
    l50_0 L a p z n h i k = k (num ((a.drop (p + i)).take (z - i)) h)
  | 0, i, h, h2, h3, _, _ => by omega
  | n + 1, i, h, h2, h3, h4, h5 => by
    unfold l50_0
    by_cases hi : i < z
    · have hx := okB_get hb (show p + i < a.length by omega)
      have hq := pow256 (show i < 6 by omega)
      have e1 : ((p : Int) + (i : Int)) = ((p + i : Nat) : Int) := by simp
      simp (disch := omega) only [dt, df, wi, cond_true, Bool.and_self]
      rw [e1]
      simp (disch := omega) only [dt, wi, cond_true, Bool.and_self, Int.toNat_natCast]
      have hp2 : (256 : Int) ^ (i + 1) = 256 ^ i * 256 := Int.pow_succ ..
      have := p50 L a p z hb hl hz hp k n (i + 1) (h * 256 + a.getD (p + i) 0) (by omega) (by omega) (by omega) (by omega)
      simp only [Int.natCast_add, Int.cast_ofNat_Int] at this
      rw [this, drop_cons 0 (show p + i < a.length by omega), show z - i = (z - (i + 1)) + 1 by omega, List.take_succ_cons, num_cons]
      rfl
    · simp (disch := omega) only [df, cond_false]
      rw [show z - i = 0 by omega, List.take_zero, num_nil]
theorem sat50 : Sat prog cxT 50 (c50 m50) := s50 m50 fun x t h => by
  obtain ⟨a, p, z⟩ := x
  unfold m50 at h
  split at h
  · rename_i hc
    obtain ⟨h1, h2, h3, h4, h5, h6⟩ := hc
    simp only at h1 h2 h3 h4 h5 h6 h
    cases h
    refine ⟨7, ?_⟩
    obtain ⟨p, rfl⟩ := Int.eq_ofNat_of_zero_le h3
    obtain ⟨z, rfl⟩ := Int.eq_ofNat_of_zero_le h4
    have := p50 7 a p z h1 h2 (by omega) (by omega) some 7 0 0 (by omega) (by omega) (by omega) (by decide)
    unfold g50
    simpa using this
  · cases h

def takeN (a : List Int) (p z : Int) : Int × Int := if 1 ≤ z ∧ z ≤ 6 ∧ 0 ≤ p ∧ p ≤ a.length - z then (0, num ((a.drop p.toNat).take z.toNat) 0) else (3, 0)
theorem takeN_in {a : List Int} {p z : Int} (h : 1 ≤ z ∧ z ≤ 6 ∧ 0 ≤ p ∧ p ≤ a.length - z) : takeN a p z = (0, num ((a.drop p.toNat).take z.toNat) 0) := if_pos h
theorem takeN_out {a : List Int} {p z : Int} (h : ¬ (1 ≤ z ∧ z ≤ 6 ∧ 0 ≤ p ∧ p ≤ a.length - z)) : takeN a p z = (3, 0) := if_neg h
/-! impl.TakeNumber -/
def m75 (x : List Int × Int × Int) : Option (Int × Int) := if okB x.1 = true ∧ x.1.length ≤ 1000000000000 ∧ iv x.2.2 = true then some (takeN x.1 x.2.1 x.2.2) else none
theorem p75 (mm : Int → Option Bool) (L : Nat) (a : List Int) (q z : Int) (b : List Int) (u v : Int) (hab : List.drop (Int.toNat q) (List.take (Int.toNat (IntKind.wrap IntKind.i64 (q + z))) a) = b) (hb : okB b = true) (hl : b.length ≤ 6) (k : Int → Int → Int → Option (Int × Int)) : ∀ (n i : Nat) (h : Int), i ≤ b.length → b.length < n + i → 0 ≤ h → h < 256 ^ i →
    l75_0 mm L a q z n u v h i k = k u v (num (b.drop i) h)
  | 0, i, h, h2, h3, _, _ => by omega
  | n + 1, i, h, h2, h3, h4, h5 => by
    unfold l75_0
    rw [hab]
    by_cases hi : i < b.length
    · have hx := okB_get hb hi
      have hq := pow256 (show i < 6 by omega)
      have hp2 : (256 : Int) ^ (i + 1) = 256 ^ i * 256 := Int.pow_succ ..
      simp (disch := omega) only [dt, df, wi, cond_true, Bool.and_self, Int.toNat_natCast]
      simp (disch := omega) only [shl8, wu, or_byte]
      have := p75 mm L a q z b u v hab hb hl k n (i + 1) (h * 256 + b.getD i 0) (by omega) (by omega) (by omega) (by omega)
      simp only [Int.natCast_add, Int.cast_ofNat_Int] at this
      rw [this, drop_cons 0 hi, num_cons]
    · simp (disch := omega) only [df, cond_false]
      rw [List.drop_eq_nil_of_le (by omega), num_nil]
theorem sat75 : Sat prog cxT 75 (c75 m75) := s75 m82 sat82 m75 fun x t h => by
  obtain ⟨a, p, z⟩ := x
  unfold m75 at h
  split at h
  · rename_i hc
    obtain ⟨h1, h2, h3⟩ := hc
    simp only [iv, Bool.and_eq_true, decide_eq_true_eq] at h1 h2 h3 h
    cases h
    refine ⟨7, ?_⟩
    unfold g75 m82
    simp only [Option.isSome_some, Option.getD_some, cond_true]
    by_cases hz : 1 ≤ z ∧ z ≤ 6
    · simp (disch := omega) only [dt, wi, Bool.not_true, cond_false]
      by_cases hp0 : p < 0
      · rw [takeN_out (by omega), dt hp0]
        rfl
      · by_cases hp1 : p > (a.length : Int) - z
        · rw [takeN_out (by omega), df hp0, dt hp1]
          rfl
        · simp (disch := omega) only [dt, df, wi, cond_false, cond_true, Bool.and_self]
          rw [takeN_in (by omega)]
          obtain ⟨q, rfl⟩ := Int.eq_ofNat_of_zero_le (show 0 ≤ p by omega)
          obtain ⟨y, rfl⟩ := Int.eq_ofNat_of_zero_le (show 0 ≤ z by omega)
          have hab : List.drop (Int.toNat (q : Int)) (List.take (Int.toNat (IntKind.wrap IntKind.i64 ((q : Int) + (y : Int)))) a) = (a.drop q).take y := by
            rw [wi (by omega) (by omega), ← Int.natCast_add, Int.toNat_natCast, Int.toNat_natCast, List.drop_take, Nat.add_sub_cancel_left]
          have hlen : ((a.drop q).take y).length ≤ 6 := by simp; omega
          have hbb := okB_sub h1 (b := (a.drop q).take y) (fun x hx => List.mem_of_mem_drop (List.mem_of_mem_take hx))
          have := p75 (fun x => some (decide (1 ≤ x ∧ x ≤ 6))) 7 a q y ((a.drop q).take y) 0 0 hab hbb hlen (fun _ _ h => some (0, IntKind.wrap .i64 h)) 7 0 0 (by omega) (by omega) (by omega) (by decide)
          refine this.trans ?_
          have hbd := num_bound ((a.drop q).take y) 0 0 hbb (by omega) (by decide)
          have hbd2 : (256 : Int) ^ (0 + ((a.drop q).take y).length) ≤ 281474976710656 := by
            have : ((a.drop q).take y).length = 0 ∨ ((a.drop q).take y).length = 1 ∨ ((a.drop q).take y).length = 2 ∨ ((a.drop q).take y).length = 3 ∨ ((a.drop q).take y).length = 4 ∨ ((a.drop q).take y).length = 5 ∨ ((a.drop q).take y).length = 6 := by omega
            rcases this with h | h | h | h | h | h | h <;> rw [h] <;> decide
          simp only [List.drop_zero, Int.toNat_natCast]
          rw [wi (by omega) (by omega)]
    · rw [takeN_out (fun h => hz ⟨h.1, h.2.1⟩), df hz]
      rfl
  · cases h

end Go.Proofs.Try
