/- A part of the proof of FnExactSameConfigs: L5Fa, L5Fb. -/
import Derived.Test.YtfncedbejffggaaL5Base
set_option maxHeartbeats 0
set_option maxRecDepth 100000
set_option linter.unusedVariables false
set_option linter.unusedSimpArgs false
namespace Go.Proofs.Try
open Go Go.VM Go.RowKit
/-! loop.example/g00222/spec.l1In -/
/-! loop.example/g00222/impl.isName -/
/-! loop.example/g00222/impl.isWeight -/
/-! loop.example/g00222/laws.szBackendS -/
def ev46 : Env cxT := { Kc := kcOf [], Kw := kwOf [], lv := fun i => [], xv := fun i => none }
theorem i46 (L : Nat) (a0 : (List (Int × (Int × (Int × (Int × Bool)))))) (a1 : Int) : evF prog ev46 (loopN L) f46 (a46.enc (a0, a1)) =
  bif (decide ((Go.IntKind.wrap Go.IntKind.i64 (a1 - (Nat.cast (List.length a0) : Int))) < (0 : Int))) then some (n46 (-(1 : Int)))
  else some (n46 (Go.IntKind.wrap Go.IntKind.i64 (a1 - (Nat.cast (List.length a0) : Int)))) := by kernel_rfl
def g46 (L : Nat) (a0 : (List (Int × (Int × (Int × (Int × Bool)))))) (a1 : Int) : Option Int :=
  bif (decide ((Go.IntKind.wrap Go.IntKind.i64 (a1 - (Nat.cast (List.length a0) : Int))) < (0 : Int))) then some (-(1 : Int))
  else some (Go.IntKind.wrap Go.IntKind.i64 (a1 - (Nat.cast (List.length a0) : Int)))
theorem e46 (L : Nat) (a0 : (List (Int × (Int × (Int × (Int × Bool)))))) (a1 : Int) : evF prog ev46 (loopN L) f46 (a46.enc (a0, a1)) = (g46 L a0 a1).map n46 := by
  rw [i46]; simp only [g46, map_bif, map_tst, Option.map_some, Option.map_none]
theorem s46 (m : ((List (Int × (Int × (Int × (Int × Bool))))) × Int) → Option Int) (hm : ∀ (x : ((List (Int × (Int × (Int × (Int × Bool))))) × Int)) t, m x = some t → ∃ L, g46 L x.1 x.2 = some t) : Sat prog cxT 46 (c46 m) :=
  sat_t cxT_ok cxT_pok (by rfl) (fn := f46) rfl a46 n46 dd46 m ev46 kok_nil kwok_nil (fun L x => g46 L x.1 x.2) (fun L x => e46 L x.1 x.2) hm hs46
/-! loop.example/g00222/laws.szVipS -/
def ev47 (m86 : ((Int × Int × Int × (List Int)) × Int) → Option Int) : Env cxT := { Kc := kcOf [(86, c86 m86)], Kw := kwOf [], lv := fun i => if i = 0 then [(0, [some 127]), (1, []), (5, [])] else [], xv := fun i => if i = 0 then some [(1, [])] else none }
def S47_0 (a0 : (List (Int × (Int × (Int × (List Int)))))) (a1 : Int) (v0_1 : Int) (v0_5 : Int) : St cxT.ty := { slots := [(.inl (.inl (ls { own := 0, nm := 0, e := 127, o := false, xs := a0 }))), (.inl (.inl (lv (.int .i64 v0_1)))), junk, junk, junk, (.inl (.inl (lv (.int .i64 v0_5))))] ++ List.replicate 21 junk, D := [], F := [], ctr := 1 }
def X47_0 (a0 : (List (Int × (Int × (Int × (List Int)))))) (a1 : Int) (w0_1 : Int) : St cxT.ty := { slots := [junk, (.inl (.inl (lv (.int .i64 w0_1))))] ++ List.replicate 25 junk, D := [], F := [], ctr := 1 }
theorem i47 (m86 : ((Int × Int × Int × (List Int)) × Int) → Option Int) (L : Nat) (a0 : (List (Int × (Int × (Int × (List Int)))))) (a1 : Int) : evF prog (ev47 m86) (loopN L) f47 (a47.enc (a0, a1)) =
  bif (decide ((Go.IntKind.wrap Go.IntKind.i64 (a1 - (Nat.cast (List.length a0) : Int))) < (0 : Int))) then some (n47 (-(1 : Int)))
  else headF prog (ev47 m86) L f47 0 [1, 1, 1, 0, 1, 0, 0] (outK (outV prog f47) (topK prog (ev47 m86) L f47 [1, 1, 1, 0, 1] (outV prog f47)).n (topK prog (ev47 m86) L f47 [1, 1, 1, 0, 1] (outV prog f47)).x) L (S47_0 a0 a1 (Go.IntKind.wrap Go.IntKind.i64 (a1 - (Nat.cast (List.length a0) : Int))) (0 : Int)) := by kernel_rfl
theorem r47_0 (m86 : ((Int × Int × Int × (List Int)) × Int) → Option Int) (L : Nat) (a0 : (List (Int × (Int × (Int × (List Int)))))) (a1 : Int) (k : St cxT.ty → Option (V cxT.ty)) (xk : Nat → St cxT.ty → Option (V cxT.ty)) (g : St cxT.ty → Option (V cxT.ty)) (v0_1 : Int) (v0_5 : Int) : roundF prog (ev47 m86) L f47 0 [1, 1, 1, 0, 1, 0, 0] (outK (outV prog f47) k xk) g (S47_0 a0 a1 v0_1 v0_5) =
  bif (decide (v0_5 < (Nat.cast (List.length a0) : Int))) then bif ((decide ((0 : Int) ≤ v0_5)) && (decide (v0_5 < (Nat.cast (List.length a0) : Int)))) then tst (m86 (((List.getD a0 (Int.toNat v0_5) ((0 : Int), ((0 : Int), ((0 : Int), ([] : List (Int)))))).1, ((List.getD a0 (Int.toNat v0_5) ((0 : Int), ((0 : Int), ((0 : Int), ([] : List (Int)))))).2.1, ((List.getD a0 (Int.toNat v0_5) ((0 : Int), ((0 : Int), ((0 : Int), ([] : List (Int)))))).2.2.1, (List.getD a0 (Int.toNat v0_5) ((0 : Int), ((0 : Int), ((0 : Int), ([] : List (Int)))))).2.2.2))), v0_1)) (0 : Int) fun (q3 : Int) => bif (decide (q3 < (0 : Int))) then some (n47 (-(1 : Int)))
        else g (S47_0 a0 a1 q3 (Go.IntKind.wrap Go.IntKind.i64 (v0_5 + (1 : Int))))
    else none
  else k (X47_0 a0 a1 v0_1) := by kernel_rfl
theorem t47_0 (m86 : ((Int × Int × Int × (List Int)) × Int) → Option Int) (L : Nat) (a0 : (List (Int × (Int × (Int × (List Int)))))) (a1 : Int) (w0_1 : Int) : (topK prog (ev47 m86) L f47 [1, 1, 1, 0, 1] (outV prog f47)).n (X47_0 a0 a1 w0_1) =
  some (n47 w0_1) := by kernel_rfl
def l47_0 (m86 : ((Int × Int × Int × (List Int)) × Int) → Option Int) (L : Nat) (a0 : (List (Int × (Int × (Int × (List Int)))))) (a1 : Int) : Nat → Int → Int → (Int → Option Int) → Option Int
  | 0, _, _, _ => none
  | n + 1, v0_1, v0_5, k =>
    bif (decide (v0_5 < (Nat.cast (List.length a0) : Int))) then bif ((decide ((0 : Int) ≤ v0_5)) && (decide (v0_5 < (Nat.cast (List.length a0) : Int)))) then tst (m86 (((List.getD a0 (Int.toNat v0_5) ((0 : Int), ((0 : Int), ((0 : Int), ([] : List (Int)))))).1, ((List.getD a0 (Int.toNat v0_5) ((0 : Int), ((0 : Int), ((0 : Int), ([] : List (Int)))))).2.1, ((List.getD a0 (Int.toNat v0_5) ((0 : Int), ((0 : Int), ((0 : Int), ([] : List (Int)))))).2.2.1, (List.getD a0 (Int.toNat v0_5) ((0 : Int), ((0 : Int), ((0 : Int), ([] : List (Int)))))).2.2.2))), v0_1)) (0 : Int) fun (q4 : Int) => bif (decide (q4 < (0 : Int))) then some (-(1 : Int))
          else l47_0 m86 L a0 a1 n q4 (Go.IntKind.wrap Go.IntKind.i64 (v0_5 + (1 : Int))) k
      else none
    else k v0_1
theorem h47_0 (m86 : ((Int × Int × Int × (List Int)) × Int) → Option Int) (L : Nat) (a0 : (List (Int × (Int × (Int × (List Int)))))) (a1 : Int) (k : St cxT.ty → Option (V cxT.ty)) (xk : Nat → St cxT.ty → Option (V cxT.ty)) (k' : Int → Option Int) (hk : ∀ (w0_1 : Int), k (X47_0 a0 a1 w0_1) = (k' w0_1).map n47) : ∀ (n : Nat) (v0_1 : Int) (v0_5 : Int), headF prog (ev47 m86) L f47 0 [1, 1, 1, 0, 1, 0, 0] (outK (outV prog f47) k xk) n (S47_0 a0 a1 v0_1 v0_5) = (l47_0 m86 L a0 a1 n v0_1 v0_5 k').map n47
  | 0, _, _ => rfl
  | n + 1, v0_1, v0_5 => by
    rw [headF_round, r47_0]
    have ih := h47_0 m86 L a0 a1 k xk k' hk n
    simp only [l47_0, map_bif, map_tst, Option.map_some, Option.map_none, ih, hk]
def g47 (m86 : ((Int × Int × Int × (List Int)) × Int) → Option Int) (L : Nat) (a0 : (List (Int × (Int × (Int × (List Int)))))) (a1 : Int) : Option Int :=
  bif (decide ((Go.IntKind.wrap Go.IntKind.i64 (a1 - (Nat.cast (List.length a0) : Int))) < (0 : Int))) then some (-(1 : Int))
  else l47_0 m86 L a0 a1 L (Go.IntKind.wrap Go.IntKind.i64 (a1 - (Nat.cast (List.length a0) : Int))) (0 : Int) (fun (w0_1 : Int) => some w0_1)
theorem e47 (m86 : ((Int × Int × Int × (List Int)) × Int) → Option Int) (L : Nat) (a0 : (List (Int × (Int × (Int × (List Int)))))) (a1 : Int) : evF prog (ev47 m86) (loopN L) f47 (a47.enc (a0, a1)) = (g47 m86 L a0 a1).map n47 := by
  let K'0 : Int → Option Int := (fun (w0_1 : Int) => some w0_1)
  have hin0 : ∀ (v0_1 : Int) (v0_5 : Int), headF prog (ev47 m86) L f47 0 [1, 1, 1, 0, 1, 0, 0] (outK (outV prog f47) (topK prog (ev47 m86) L f47 [1, 1, 1, 0, 1] (outV prog f47)).n (topK prog (ev47 m86) L f47 [1, 1, 1, 0, 1] (outV prog f47)).x) L (S47_0 a0 a1 v0_1 v0_5) = (l47_0 m86 L a0 a1 L v0_1 v0_5 K'0).map n47 := fun v0_1 v0_5 => h47_0 m86 L a0 a1 _ _ K'0 (fun w0_1 => by rw [t47_0]; simp only [K'0, map_bif, map_tst, Option.map_some, Option.map_none]) L v0_1 v0_5
  rw [i47]; simp only [g47, map_bif, map_tst, Option.map_some, Option.map_none, hin0, K'0]
theorem s47 (m86 : ((Int × Int × Int × (List Int)) × Int) → Option Int) (h86 : Sat prog cxT 86 (c86 m86)) (m : ((List (Int × (Int × (Int × (List Int))))) × Int) → Option Int) (hm : ∀ (x : ((List (Int × (Int × (Int × (List Int))))) × Int)) t, m x = some t → ∃ L, g47 m86 L x.1 x.2 = some t) : Sat prog cxT 47 (c47 m) :=
  sat_t cxT_ok cxT_pok (by rfl) (fn := f47) rfl a47 n47 dd47 m (ev47 m86) (kok_cons h86 kok_nil) kwok_nil (fun L x => g47 m86 L x.1 x.2) (fun L x => e47 m86 L x.1 x.2) hm hs47
/-! loop.example/g00222/laws.toBackendS -/
def ev48 (m87 : (Int × Int × Int × Int × Bool) → Option (Int × Int × Int × Int × Bool)) : Env cxT := { Kc := kcOf [(87, c87 m87)], Kw := kwOf [], lv := fun i => if i = 0 then [(0, [some 129]), (3, [some 38]), (4, [])] else [], xv := fun i => if i = 0 then some [(3, [some 38])] else none }
def S48_0 (a0 : (List (Int × (Int × (Int × (Int × Bool)))))) (v0_3 : (List (Int × (Int × (Int × (Int × Bool)))))) (v0_4 : Int) : St cxT.ty := { slots := [(.inl (.inl (ls { own := 0, nm := 0, e := 129, o := false, xs := a0 }))), junk, junk, (.inl (.inl (ls { own := 1, nm := 192, e := 38, o := true, xs := v0_3 }))), (.inl (.inl (lv (.int .i64 v0_4))))] ++ List.replicate 18 junk, D := [], F := [], ctr := 1 }
def X48_0 (a0 : (List (Int × (Int × (Int × (Int × Bool)))))) (w0_3 : (List (Int × (Int × (Int × (Int × Bool)))))) : St cxT.ty := { slots := [junk, junk, junk, (.inl (.inl (ls { own := 1, nm := 192, e := 38, o := true, xs := w0_3 })))] ++ List.replicate 19 junk, D := [], F := [], ctr := 1 }
theorem i48 (m87 : (Int × Int × Int × Int × Bool) → Option (Int × Int × Int × Int × Bool)) (L : Nat) (a0 : (List (Int × (Int × (Int × (Int × Bool)))))) : evF prog (ev48 m87) (loopN L) f48 (a48.enc a0) =
  bif (((decide ((0 : Int) ≤ (Nat.cast (List.length a0) : Int))) && (decide ((Nat.cast (List.length a0) : Int) ≤ (Nat.cast (List.length a0) : Int)))) && (decide ((Nat.cast (List.length a0) : Int) ≤ (1000000000 : Int)))) then headF prog (ev48 m87) L f48 0 [1, 1, 0, 1, 0, 0] (outK (outV prog f48) (topK prog (ev48 m87) L f48 [1, 1, 0, 1] (outV prog f48)).n (topK prog (ev48 m87) L f48 [1, 1, 0, 1] (outV prog f48)).x) L (S48_0 a0 (List.replicate (Int.toNat (Nat.cast (List.length a0) : Int)) ((0 : Int), ((0 : Int), ((0 : Int), ((0 : Int), Bool.false))))) (0 : Int))
  else none := by kernel_rfl
theorem r48_0 (m87 : (Int × Int × Int × Int × Bool) → Option (Int × Int × Int × Int × Bool)) (L : Nat) (a0 : (List (Int × (Int × (Int × (Int × Bool)))))) (k : St cxT.ty → Option (V cxT.ty)) (xk : Nat → St cxT.ty → Option (V cxT.ty)) (g : St cxT.ty → Option (V cxT.ty)) (v0_3 : (List (Int × (Int × (Int × (Int × Bool)))))) (v0_4 : Int) : roundF prog (ev48 m87) L f48 0 [1, 1, 0, 1, 0, 0] (outK (outV prog f48) k xk) g (S48_0 a0 v0_3 v0_4) =
  bif (decide (v0_4 < (Nat.cast (List.length a0) : Int))) then bif ((decide ((0 : Int) ≤ v0_4)) && (decide (v0_4 < (Nat.cast (List.length a0) : Int)))) then tst (m87 ((List.getD a0 (Int.toNat v0_4) ((0 : Int), ((0 : Int), ((0 : Int), ((0 : Int), Bool.false))))).1, ((List.getD a0 (Int.toNat v0_4) ((0 : Int), ((0 : Int), ((0 : Int), ((0 : Int), Bool.false))))).2.1, ((List.getD a0 (Int.toNat v0_4) ((0 : Int), ((0 : Int), ((0 : Int), ((0 : Int), Bool.false))))).2.2.1, ((List.getD a0 (Int.toNat v0_4) ((0 : Int), ((0 : Int), ((0 : Int), ((0 : Int), Bool.false))))).2.2.2.1, (List.getD a0 (Int.toNat v0_4) ((0 : Int), ((0 : Int), ((0 : Int), ((0 : Int), Bool.false))))).2.2.2.2))))) ((0 : Int), (0 : Int), (0 : Int), (0 : Int), false) fun (q3 : (Int × Int × Int × Int × Bool)) => bif ((decide ((0 : Int) ≤ v0_4)) && (decide (v0_4 < (Nat.cast (List.length v0_3) : Int)))) then g (S48_0 a0 (List.set v0_3 (Int.toNat v0_4) (q3.1, (q3.2.1, (q3.2.2.1, (q3.2.2.2.1, q3.2.2.2.2))))) (Go.IntKind.wrap Go.IntKind.i64 (v0_4 + (1 : Int))))
        else none
    else none
  else k (X48_0 a0 v0_3) := by kernel_rfl
theorem t48_0 (m87 : (Int × Int × Int × Int × Bool) → Option (Int × Int × Int × Int × Bool)) (L : Nat) (a0 : (List (Int × (Int × (Int × (Int × Bool)))))) (w0_3 : (List (Int × (Int × (Int × (Int × Bool)))))) : (topK prog (ev48 m87) L f48 [1, 1, 0, 1] (outV prog f48)).n (X48_0 a0 w0_3) =
  some (n48 w0_3) := by kernel_rfl
def l48_0 (m87 : (Int × Int × Int × Int × Bool) → Option (Int × Int × Int × Int × Bool)) (L : Nat) (a0 : (List (Int × (Int × (Int × (Int × Bool)))))) : Nat → (List (Int × (Int × (Int × (Int × Bool))))) → Int → ((List (Int × (Int × (Int × (Int × Bool))))) → Option (List (Int × (Int × (Int × (Int × Bool)))))) → Option (List (Int × (Int × (Int × (Int × Bool)))))
  | 0, _, _, _ => none
  | n + 1, v0_3, v0_4, k =>
    bif (decide (v0_4 < (Nat.cast (List.length a0) : Int))) then bif ((decide ((0 : Int) ≤ v0_4)) && (decide (v0_4 < (Nat.cast (List.length a0) : Int)))) then tst (m87 ((List.getD a0 (Int.toNat v0_4) ((0 : Int), ((0 : Int), ((0 : Int), ((0 : Int), Bool.false))))).1, ((List.getD a0 (Int.toNat v0_4) ((0 : Int), ((0 : Int), ((0 : Int), ((0 : Int), Bool.false))))).2.1, ((List.getD a0 (Int.toNat v0_4) ((0 : Int), ((0 : Int), ((0 : Int), ((0 : Int), Bool.false))))).2.2.1, ((List.getD a0 (Int.toNat v0_4) ((0 : Int), ((0 : Int), ((0 : Int), ((0 : Int), Bool.false))))).2.2.2.1, (List.getD a0 (Int.toNat v0_4) ((0 : Int), ((0 : Int), ((0 : Int), ((0 : Int), Bool.false))))).2.2.2.2))))) ((0 : Int), (0 : Int), (0 : Int), (0 : Int), false) fun (q4 : (Int × Int × Int × Int × Bool)) => bif ((decide ((0 : Int) ≤ v0_4)) && (decide (v0_4 < (Nat.cast (List.length v0_3) : Int)))) then l48_0 m87 L a0 n (List.set v0_3 (Int.toNat v0_4) (q4.1, (q4.2.1, (q4.2.2.1, (q4.2.2.2.1, q4.2.2.2.2))))) (Go.IntKind.wrap Go.IntKind.i64 (v0_4 + (1 : Int))) k
          else none
      else none
    else k v0_3
theorem h48_0 (m87 : (Int × Int × Int × Int × Bool) → Option (Int × Int × Int × Int × Bool)) (L : Nat) (a0 : (List (Int × (Int × (Int × (Int × Bool)))))) (k : St cxT.ty → Option (V cxT.ty)) (xk : Nat → St cxT.ty → Option (V cxT.ty)) (k' : (List (Int × (Int × (Int × (Int × Bool))))) → Option (List (Int × (Int × (Int × (Int × Bool)))))) (hk : ∀ (w0_3 : (List (Int × (Int × (Int × (Int × Bool)))))), k (X48_0 a0 w0_3) = (k' w0_3).map n48) : ∀ (n : Nat) (v0_3 : (List (Int × (Int × (Int × (Int × Bool)))))) (v0_4 : Int), headF prog (ev48 m87) L f48 0 [1, 1, 0, 1, 0, 0] (outK (outV prog f48) k xk) n (S48_0 a0 v0_3 v0_4) = (l48_0 m87 L a0 n v0_3 v0_4 k').map n48
  | 0, _, _ => rfl
  | n + 1, v0_3, v0_4 => by
    rw [headF_round, r48_0]
    have ih := h48_0 m87 L a0 k xk k' hk n
    simp only [l48_0, map_bif, map_tst, Option.map_some, Option.map_none, ih, hk]
def g48 (m87 : (Int × Int × Int × Int × Bool) → Option (Int × Int × Int × Int × Bool)) (L : Nat) (a0 : (List (Int × (Int × (Int × (Int × Bool)))))) : Option (List (Int × (Int × (Int × (Int × Bool))))) :=
  bif (((decide ((0 : Int) ≤ (Nat.cast (List.length a0) : Int))) && (decide ((Nat.cast (List.length a0) : Int) ≤ (Nat.cast (List.length a0) : Int)))) && (decide ((Nat.cast (List.length a0) : Int) ≤ (1000000000 : Int)))) then l48_0 m87 L a0 L (List.replicate (Int.toNat (Nat.cast (List.length a0) : Int)) ((0 : Int), ((0 : Int), ((0 : Int), ((0 : Int), Bool.false))))) (0 : Int) (fun (w0_3 : (List (Int × (Int × (Int × (Int × Bool)))))) => some w0_3)
  else none
theorem e48 (m87 : (Int × Int × Int × Int × Bool) → Option (Int × Int × Int × Int × Bool)) (L : Nat) (a0 : (List (Int × (Int × (Int × (Int × Bool)))))) : evF prog (ev48 m87) (loopN L) f48 (a48.enc a0) = (g48 m87 L a0).map n48 := by
  let K'0 : (List (Int × (Int × (Int × (Int × Bool))))) → Option (List (Int × (Int × (Int × (Int × Bool))))) := (fun (w0_3 : (List (Int × (Int × (Int × (Int × Bool)))))) => some w0_3)
  have hin0 : ∀ (v0_3 : (List (Int × (Int × (Int × (Int × Bool)))))) (v0_4 : Int), headF prog (ev48 m87) L f48 0 [1, 1, 0, 1, 0, 0] (outK (outV prog f48) (topK prog (ev48 m87) L f48 [1, 1, 0, 1] (outV prog f48)).n (topK prog (ev48 m87) L f48 [1, 1, 0, 1] (outV prog f48)).x) L (S48_0 a0 v0_3 v0_4) = (l48_0 m87 L a0 L v0_3 v0_4 K'0).map n48 := fun v0_3 v0_4 => h48_0 m87 L a0 _ _ K'0 (fun w0_3 => by rw [t48_0]; simp only [K'0, map_bif, map_tst, Option.map_some, Option.map_none]) L v0_3 v0_4
  rw [i48]; simp only [g48, map_bif, map_tst, Option.map_some, Option.map_none, hin0, K'0]
theorem s48 (m87 : (Int × Int × Int × Int × Bool) → Option (Int × Int × Int × Int × Bool)) (h87 : Sat prog cxT 87 (c87 m87)) (m : (List (Int × (Int × (Int × (Int × Bool))))) → Option (List (Int × (Int × (Int × (Int × Bool)))))) (hm : ∀ (x : (List (Int × (Int × (Int × (Int × Bool)))))) t, m x = some t → ∃ L, g48 m87 L x = some t) : Sat prog cxT 48 (c48 m) :=
  sat_t cxT_ok cxT_pok (by rfl) (fn := f48) rfl a48 n48 dd48 m (ev48 m87) (kok_cons h87 kok_nil) kwok_nil (fun L x => g48 m87 L x) (fun L x => e48 m87 L x) hm hs48
/-! loop.example/g00222/impl.isVersion -/
/-! loop.example/g00222/impl.isBackend -/
/-! loop.example/g00222/spec.l5Version -/
/-! loop.example/g00222/spec.l3Name -/
/-! loop.example/g00222/spec.l2Address -/
/-! loop.example/g00222/spec.l5Proto -/
/-! loop.example/g00222/laws.eqBackend -/
def ev65 : Env cxT := { Kc := kcOf [], Kw := kwOf [], lv := fun i => [], xv := fun i => none }
theorem i65 (L : Nat) (a0_0 : Int) (a0_1 : Int) (a0_2 : Int) (a0_3 : Int) (a0_4 : Bool) (a1_0 : Int) (a1_1 : Int) (a1_2 : Int) (a1_3 : Int) (a1_4 : Bool) : evF prog ev65 (loopN L) f65 (a65.enc ((a0_0, a0_1, a0_2, a0_3, a0_4), (a1_0, a1_1, a1_2, a1_3, a1_4))) =
  bif (a0_0 != a1_0) then some (n65 Bool.false)
  else bif (a0_1 != a1_1) then some (n65 Bool.false)
  else bif (a0_2 != a1_2) then some (n65 Bool.false)
  else bif (a0_3 != a1_3) then some (n65 Bool.false)
  else bif (!(a0_4 == a1_4)) then some (n65 Bool.false)
  else some (n65 Bool.true) := by kernel_rfl
def g65 (L : Nat) (a0_0 : Int) (a0_1 : Int) (a0_2 : Int) (a0_3 : Int) (a0_4 : Bool) (a1_0 : Int) (a1_1 : Int) (a1_2 : Int) (a1_3 : Int) (a1_4 : Bool) : Option Bool :=
  bif (a0_0 != a1_0) then some Bool.false
  else bif (a0_1 != a1_1) then some Bool.false
  else bif (a0_2 != a1_2) then some Bool.false
  else bif (a0_3 != a1_3) then some Bool.false
  else bif (!(a0_4 == a1_4)) then some Bool.false
  else some Bool.true
theorem e65 (L : Nat) (a0_0 : Int) (a0_1 : Int) (a0_2 : Int) (a0_3 : Int) (a0_4 : Bool) (a1_0 : Int) (a1_1 : Int) (a1_2 : Int) (a1_3 : Int) (a1_4 : Bool) : evF prog ev65 (loopN L) f65 (a65.enc ((a0_0, a0_1, a0_2, a0_3, a0_4), (a1_0, a1_1, a1_2, a1_3, a1_4))) = (g65 L a0_0 a0_1 a0_2 a0_3 a0_4 a1_0 a1_1 a1_2 a1_3 a1_4).map n65 := by
  rw [i65]; simp only [g65, map_bif, map_tst, Option.map_some, Option.map_none]
theorem s65 (m : ((Int × Int × Int × Int × Bool) × (Int × Int × Int × Int × Bool)) → Option Bool) (hm : ∀ (x : ((Int × Int × Int × Int × Bool) × (Int × Int × Int × Int × Bool))) t, m x = some t → ∃ L, g65 L x.1.1 x.1.2.1 x.1.2.2.1 x.1.2.2.2.1 x.1.2.2.2.2 x.2.1 x.2.2.1 x.2.2.2.1 x.2.2.2.2.1 x.2.2.2.2.2 = some t) : Sat prog cxT 65 (c65 m) :=
  sat_t cxT_ok cxT_pok (by rfl) (fn := f65) rfl a65 n65 dd65 m ev65 kok_nil kwok_nil (fun L x => g65 L x.1.1 x.1.2.1 x.1.2.2.1 x.1.2.2.2.1 x.1.2.2.2.2 x.2.1 x.2.2.1 x.2.2.2.1 x.2.2.2.2.1 x.2.2.2.2.2) (fun L x => e65 L x.1.1 x.1.2.1 x.1.2.2.1 x.1.2.2.2.1 x.1.2.2.2.2 x.2.1 x.2.2.1 x.2.2.2.1 x.2.2.2.2.1 x.2.2.2.2.2) hm hs65
/-! loop.example/g00222/spec.l5Backend -/
/-! loop.example/g00222/impl.backendPlace$1 -/
/-! cmp.Compare[int64] -/
def ev85 (m114 : Int → Option Bool) : Env cxT := { Kc := kcOf [(114, c114 m114)], Kw := kwOf [], lv := fun i => [], xv := fun i => none }
theorem i85 (m114 : Int → Option Bool) (L : Nat) (a0 : Int) (a1 : Int) : evF prog (ev85 m114) (loopN L) f85 (a85.enc (a0, a1)) =
  tst (m114 a0) false fun (q1 : Bool) => tst (m114 a1) false fun (q2 : Bool) => bif q1 then bif q2 then some (n85 (0 : Int))
        else some (n85 (-(1 : Int)))
      else bif q2 then some (n85 (1 : Int))
      else bif (decide (a0 < a1)) then some (n85 (-(1 : Int)))
      else bif (decide (a0 > a1)) then some (n85 (1 : Int))
      else some (n85 (0 : Int)) := by kernel_rfl
def g85 (m114 : Int → Option Bool) (L : Nat) (a0 : Int) (a1 : Int) : Option Int :=
  tst (m114 a0) false fun (q1 : Bool) => tst (m114 a1) false fun (q2 : Bool) => bif q1 then bif q2 then some (0 : Int)
        else some (-(1 : Int))
      else bif q2 then some (1 : Int)
      else bif (decide (a0 < a1)) then some (-(1 : Int))
      else bif (decide (a0 > a1)) then some (1 : Int)
      else some (0 : Int)
theorem e85 (m114 : Int → Option Bool) (L : Nat) (a0 : Int) (a1 : Int) : evF prog (ev85 m114) (loopN L) f85 (a85.enc (a0, a1)) = (g85 m114 L a0 a1).map n85 := by
  rw [i85]; simp only [g85, map_bif, map_tst, Option.map_some, Option.map_none]
theorem s85 (m114 : Int → Option Bool) (h114 : Sat prog cxT 114 (c114 m114)) (m : (Int × Int) → Option Int) (hm : ∀ (x : (Int × Int)) t, m x = some t → ∃ L, g85 m114 L x.1 x.2 = some t) : Sat prog cxT 85 (c85 m) :=
  sat_t cxT_ok cxT_pok (by rfl) (fn := f85) rfl a85 n85 dd85 m (ev85 m114) (kok_cons h114 kok_nil) kwok_nil (fun L x => g85 m114 L x.1 x.2) (fun L x => e85 m114 L x.1 x.2) hm hs85
/-! loop.example/g00222/laws.szVip -/
def ev86 (m115 : ((List Int) × Int) → Option Int) : Env cxT := { Kc := kcOf [(115, c115 m115)], Kw := kwOf [], lv := fun i => [], xv := fun i => none }
theorem i86 (m115 : ((List Int) × Int) → Option Int) (L : Nat) (a0_0 : Int) (a0_1 : Int) (a0_2 : Int) (a0_3 : (List Int)) (a1 : Int) : evF prog (ev86 m115) (loopN L) f86 (a86.enc ((a0_0, a0_1, a0_2, a0_3), a1)) =
  tst (m115 (a0_3, a1)) (0 : Int) fun (q1 : Int) => bif (decide (q1 < (0 : Int))) then some (n86 (-(1 : Int)))
    else some (n86 q1) := by kernel_rfl
def g86 (m115 : ((List Int) × Int) → Option Int) (L : Nat) (a0_0 : Int) (a0_1 : Int) (a0_2 : Int) (a0_3 : (List Int)) (a1 : Int) : Option Int :=
  tst (m115 (a0_3, a1)) (0 : Int) fun (q1 : Int) => bif (decide (q1 < (0 : Int))) then some (-(1 : Int))
    else some q1
theorem e86 (m115 : ((List Int) × Int) → Option Int) (L : Nat) (a0_0 : Int) (a0_1 : Int) (a0_2 : Int) (a0_3 : (List Int)) (a1 : Int) : evF prog (ev86 m115) (loopN L) f86 (a86.enc ((a0_0, a0_1, a0_2, a0_3), a1)) = (g86 m115 L a0_0 a0_1 a0_2 a0_3 a1).map n86 := by
  rw [i86]; simp only [g86, map_bif, map_tst, Option.map_some, Option.map_none]
theorem s86 (m115 : ((List Int) × Int) → Option Int) (h115 : Sat prog cxT 115 (c115 m115)) (m : ((Int × Int × Int × (List Int)) × Int) → Option Int) (hm : ∀ (x : ((Int × Int × Int × (List Int)) × Int)) t, m x = some t → ∃ L, g86 m115 L x.1.1 x.1.2.1 x.1.2.2.1 x.1.2.2.2 x.2 = some t) : Sat prog cxT 86 (c86 m) :=
  sat_t cxT_ok cxT_pok (by rfl) (fn := f86) rfl a86 n86 dd86 m (ev86 m115) (kok_cons h115 kok_nil) kwok_nil (fun L x => g86 m115 L x.1.1 x.1.2.1 x.1.2.2.1 x.1.2.2.2 x.2) (fun L x => e86 m115 L x.1.1 x.1.2.1 x.1.2.2.1 x.1.2.2.2 x.2) hm hs86
/-! loop.example/g00222/laws.toBackend -/
def ev87 : Env cxT := { Kc := kcOf [], Kw := kwOf [], lv := fun i => [], xv := fun i => none }
theorem i87 (L : Nat) (a0_0 : Int) (a0_1 : Int) (a0_2 : Int) (a0_3 : Int) (a0_4 : Bool) : evF prog ev87 (loopN L) f87 (a87.enc (a0_0, a0_1, a0_2, a0_3, a0_4)) =
  some (n87 (a0_0, a0_1, a0_2, a0_3, a0_4)) := by kernel_rfl
def g87 (L : Nat) (a0_0 : Int) (a0_1 : Int) (a0_2 : Int) (a0_3 : Int) (a0_4 : Bool) : Option (Int × Int × Int × Int × Bool) :=
  some (a0_0, a0_1, a0_2, a0_3, a0_4)
theorem e87 (L : Nat) (a0_0 : Int) (a0_1 : Int) (a0_2 : Int) (a0_3 : Int) (a0_4 : Bool) : evF prog ev87 (loopN L) f87 (a87.enc (a0_0, a0_1, a0_2, a0_3, a0_4)) = (g87 L a0_0 a0_1 a0_2 a0_3 a0_4).map n87 := by
  rw [i87]; simp only [g87, map_bif, map_tst, Option.map_some, Option.map_none]
theorem s87 (m : (Int × Int × Int × Int × Bool) → Option (Int × Int × Int × Int × Bool)) (hm : ∀ (x : (Int × Int × Int × Int × Bool)) t, m x = some t → ∃ L, g87 L x.1 x.2.1 x.2.2.1 x.2.2.2.1 x.2.2.2.2 = some t) : Sat prog cxT 87 (c87 m) :=
  sat_t cxT_ok cxT_pok (by rfl) (fn := f87) rfl a87 n87 dd87 m ev87 kok_nil kwok_nil (fun L x => g87 L x.1 x.2.1 x.2.2.1 x.2.2.2.1 x.2.2.2.2) (fun L x => e87 L x.1 x.2.1 x.2.2.1 x.2.2.2.1 x.2.2.2.2) hm hs87
/-! loop.example/g00222/laws.toVip -/
def ev88 (m116 : (List Int) → Option (List Int)) : Env cxT := { Kc := kcOf [(116, c116 m116)], Kw := kwOf [], lv := fun i => [], xv := fun i => none }
theorem i88 (m116 : (List Int) → Option (List Int)) (L : Nat) (a0_0 : Int) (a0_1 : Int) (a0_2 : Int) (a0_3 : (List Int)) : evF prog (ev88 m116) (loopN L) f88 (a88.enc (a0_0, a0_1, a0_2, a0_3)) =
  tst (m116 a0_3) [] fun (q1 : (List Int)) => some (n88 (a0_0, a0_1, a0_2, q1)) := by kernel_rfl
def g88 (m116 : (List Int) → Option (List Int)) (L : Nat) (a0_0 : Int) (a0_1 : Int) (a0_2 : Int) (a0_3 : (List Int)) : Option (Int × Int × Int × (List Int)) :=
  tst (m116 a0_3) [] fun (q1 : (List Int)) => some (a0_0, a0_1, a0_2, q1)
theorem e88 (m116 : (List Int) → Option (List Int)) (L : Nat) (a0_0 : Int) (a0_1 : Int) (a0_2 : Int) (a0_3 : (List Int)) : evF prog (ev88 m116) (loopN L) f88 (a88.enc (a0_0, a0_1, a0_2, a0_3)) = (g88 m116 L a0_0 a0_1 a0_2 a0_3).map n88 := by
  rw [i88]; simp only [g88, map_bif, map_tst, Option.map_some, Option.map_none]
theorem s88 (m116 : (List Int) → Option (List Int)) (h116 : Sat prog cxT 116 (c116 m116)) (m : (Int × Int × Int × (List Int)) → Option (Int × Int × Int × (List Int))) (hm : ∀ (x : (Int × Int × Int × (List Int))) t, m x = some t → ∃ L, g88 m116 L x.1 x.2.1 x.2.2.1 x.2.2.2 = some t) : Sat prog cxT 88 (c88 m) :=
  sat_t cxT_ok cxT_pok (by rfl) (fn := f88) rfl a88 n88 dd88 m (ev88 m116) (kok_cons h116 kok_nil) kwok_nil (fun L x => g88 m116 L x.1 x.2.1 x.2.2.1 x.2.2.2) (fun L x => e88 m116 L x.1 x.2.1 x.2.2.1 x.2.2.2) hm hs88
/-! loop.example/g00222/impl.isAddress -/
/-! loop.example/g00222/impl.isStage -/
/-! loop.example/g00222/impl.isPort -/
/-! loop.example/g00222/impl.isProto -/
/-! cmp.Or[int] -/
def ev93 : Env cxT := { Kc := kcOf [], Kw := kwOf [], lv := fun i => if i = 0 then [(3, []), (6, [some 3]), (7, []), (8, [])] else [], xv := fun i => if i = 0 then some [(3, [])] else none }
def S93_0 (a0 : (List Int)) (v0_8 : Int) : St cxT.ty := { slots := [junk, junk, junk, (.inl (.inl (lv (.int .i64 (0 : Int))))), junk, junk, (.inl (.inl (ls { own := 0, nm := 0, e := 3, o := false, xs := a0 }))), (.inl (.inl (lv (.int .i64 (Nat.cast (List.length a0) : Int))))), (.inl (.inl (lv (.int .i64 v0_8))))] ++ List.replicate 9 junk, D := [], F := [], ctr := 1 }
def X93_0 (a0 : (List Int)) : St cxT.ty := { slots := [junk, junk, junk, (.inl (.inl (lv (.int .i64 (0 : Int)))))] ++ List.replicate 14 junk, D := [], F := [], ctr := 1 }
theorem i93 (L : Nat) (a0 : (List Int)) : evF prog ev93 (loopN L) f93 (a93.enc a0) =
  headF prog ev93 L f93 0 [1, 1, 0, 1, 0, 0] (outK (outV prog f93) (topK prog ev93 L f93 [1, 1, 0, 1] (outV prog f93)).n (topK prog ev93 L f93 [1, 1, 0, 1] (outV prog f93)).x) L (S93_0 a0 (0 : Int)) := by kernel_rfl
theorem r93_0 (L : Nat) (a0 : (List Int)) (k : St cxT.ty → Option (V cxT.ty)) (xk : Nat → St cxT.ty → Option (V cxT.ty)) (g : St cxT.ty → Option (V cxT.ty)) (v0_8 : Int) : roundF prog ev93 L f93 0 [1, 1, 0, 1, 0, 0] (outK (outV prog f93) k xk) g (S93_0 a0 v0_8) =
  bif (decide (v0_8 < (Nat.cast (List.length a0) : Int))) then bif ((decide ((0 : Int) ≤ v0_8)) && (decide (v0_8 < (Nat.cast (List.length a0) : Int)))) then bif ((List.getD a0 (Int.toNat v0_8) (0 : Int)) != (0 : Int)) then some (n93 (List.getD a0 (Int.toNat v0_8) (0 : Int)))
      else g (S93_0 a0 (Go.IntKind.wrap Go.IntKind.i64 (v0_8 + (1 : Int))))
    else none
  else k (X93_0 a0) := by kernel_rfl
theorem t93_0 (L : Nat) (a0 : (List Int)) : (topK prog ev93 L f93 [1, 1, 0, 1] (outV prog f93)).n (X93_0 a0) =
  some (n93 (0 : Int)) := by kernel_rfl
def l93_0 (L : Nat) (a0 : (List Int)) : Nat → Int → (Option Int) → Option Int
  | 0, _, _ => none
  | n + 1, v0_8, k =>
    bif (decide (v0_8 < (Nat.cast (List.length a0) : Int))) then bif ((decide ((0 : Int) ≤ v0_8)) && (decide (v0_8 < (Nat.cast (List.length a0) : Int)))) then bif ((List.getD a0 (Int.toNat v0_8) (0 : Int)) != (0 : Int)) then some (List.getD a0 (Int.toNat v0_8) (0 : Int))
        else l93_0 L a0 n (Go.IntKind.wrap Go.IntKind.i64 (v0_8 + (1 : Int))) k
      else none
    else k
theorem h93_0 (L : Nat) (a0 : (List Int)) (k : St cxT.ty → Option (V cxT.ty)) (xk : Nat → St cxT.ty → Option (V cxT.ty)) (k' : Option Int) (hk : k (X93_0 a0) = (k').map n93) : ∀ (n : Nat) (v0_8 : Int), headF prog ev93 L f93 0 [1, 1, 0, 1, 0, 0] (outK (outV prog f93) k xk) n (S93_0 a0 v0_8) = (l93_0 L a0 n v0_8 k').map n93
  | 0, _ => rfl
  | n + 1, v0_8 => by
    rw [headF_round, r93_0]
    have ih := h93_0 L a0 k xk k' hk n
    simp only [l93_0, map_bif, map_tst, Option.map_some, Option.map_none, ih, hk]
def g93 (L : Nat) (a0 : (List Int)) : Option Int :=
  l93_0 L a0 L (0 : Int) (some (0 : Int))
theorem e93 (L : Nat) (a0 : (List Int)) : evF prog ev93 (loopN L) f93 (a93.enc a0) = (g93 L a0).map n93 := by
  let K'0 : Option Int := (some (0 : Int))
  have hin0 : ∀ (v0_8 : Int), headF prog ev93 L f93 0 [1, 1, 0, 1, 0, 0] (outK (outV prog f93) (topK prog ev93 L f93 [1, 1, 0, 1] (outV prog f93)).n (topK prog ev93 L f93 [1, 1, 0, 1] (outV prog f93)).x) L (S93_0 a0 v0_8) = (l93_0 L a0 L v0_8 K'0).map n93 := fun v0_8 => h93_0 L a0 _ _ K'0 (by rw [t93_0]; simp only [K'0, map_bif, map_tst, Option.map_some, Option.map_none]) L v0_8
  rw [i93]; simp only [g93, map_bif, map_tst, Option.map_some, Option.map_none, hin0, K'0]
theorem s93 (m : (List Int) → Option Int) (hm : ∀ (x : (List Int)) t, m x = some t → ∃ L, g93 L x = some t) : Sat prog cxT 93 (c93 m) :=
  sat_t cxT_ok cxT_pok (by rfl) (fn := f93) rfl a93 n93 dd93 m ev93 kok_nil kwok_nil (fun L x => g93 L x) (fun L x => e93 L x) hm hs93
/-! loop.example/g00222/spec.l2Port -/
/-! cmp.isNaN[int64] -/
def ev114 : Env cxT := { Kc := kcOf [], Kw := kwOf [], lv := fun i => [], xv := fun i => none }
theorem i114 (L : Nat) (a0 : Int) : evF prog ev114 (loopN L) f114 (a114.enc a0) =
  some (n114 (a0 != a0)) := by kernel_rfl
def g114 (L : Nat) (a0 : Int) : Option Bool :=
  some (a0 != a0)
theorem e114 (L : Nat) (a0 : Int) : evF prog ev114 (loopN L) f114 (a114.enc a0) = (g114 L a0).map n114 := by
  rw [i114]; simp only [g114, map_bif, map_tst, Option.map_some, Option.map_none]
theorem s114 (m : Int → Option Bool) (hm : ∀ (x : Int) t, m x = some t → ∃ L, g114 L x = some t) : Sat prog cxT 114 (c114 m) :=
  sat_t cxT_ok cxT_pok (by rfl) (fn := f114) rfl a114 n114 dd114 m ev114 kok_nil kwok_nil (fun L x => g114 L x) (fun L x => e114 L x) hm hs114
/-! loop.example/g00222/laws.szInt64S -/
def ev115 : Env cxT := { Kc := kcOf [], Kw := kwOf [], lv := fun i => [], xv := fun i => none }
theorem i115 (L : Nat) (a0 : (List Int)) (a1 : Int) : evF prog ev115 (loopN L) f115 (a115.enc (a0, a1)) =
  bif (decide ((Go.IntKind.wrap Go.IntKind.i64 (a1 - (Nat.cast (List.length a0) : Int))) < (0 : Int))) then some (n115 (-(1 : Int)))
  else some (n115 (Go.IntKind.wrap Go.IntKind.i64 (a1 - (Nat.cast (List.length a0) : Int)))) := by kernel_rfl
def g115 (L : Nat) (a0 : (List Int)) (a1 : Int) : Option Int :=
  bif (decide ((Go.IntKind.wrap Go.IntKind.i64 (a1 - (Nat.cast (List.length a0) : Int))) < (0 : Int))) then some (-(1 : Int))
  else some (Go.IntKind.wrap Go.IntKind.i64 (a1 - (Nat.cast (List.length a0) : Int)))
theorem e115 (L : Nat) (a0 : (List Int)) (a1 : Int) : evF prog ev115 (loopN L) f115 (a115.enc (a0, a1)) = (g115 L a0 a1).map n115 := by
  rw [i115]; simp only [g115, map_bif, map_tst, Option.map_some, Option.map_none]
theorem s115 (m : ((List Int) × Int) → Option Int) (hm : ∀ (x : ((List Int) × Int)) t, m x = some t → ∃ L, g115 L x.1 x.2 = some t) : Sat prog cxT 115 (c115 m) :=
  sat_t cxT_ok cxT_pok (by rfl) (fn := f115) rfl a115 n115 dd115 m ev115 kok_nil kwok_nil (fun L x => g115 L x.1 x.2) (fun L x => e115 L x.1 x.2) hm hs115
/-! loop.example/g00222/laws.toInt64S -/
def ev116 : Env cxT := { Kc := kcOf [], Kw := kwOf [], lv := fun i => if i = 0 then [(0, [some 2]), (3, [some 2]), (4, [])] else [], xv := fun i => if i = 0 then some [(3, [some 2])] else none }
def S116_0 (a0 : (List Int)) (v0_3 : (List Int)) (v0_4 : Int) : St cxT.ty := { slots := [(.inl (.inl (ls { own := 0, nm := 0, e := 2, o := false, xs := a0 }))), junk, junk, (.inl (.inl (ls { own := 1, nm := 192, e := 2, o := true, xs := v0_3 }))), (.inl (.inl (lv (.int .i64 v0_4))))] ++ List.replicate 17 junk, D := [], F := [], ctr := 1 }
def X116_0 (a0 : (List Int)) (w0_3 : (List Int)) : St cxT.ty := { slots := [junk, junk, junk, (.inl (.inl (ls { own := 1, nm := 192, e := 2, o := true, xs := w0_3 })))] ++ List.replicate 18 junk, D := [], F := [], ctr := 1 }
theorem i116 (L : Nat) (a0 : (List Int)) : evF prog ev116 (loopN L) f116 (a116.enc a0) =
  bif (((decide ((0 : Int) ≤ (Nat.cast (List.length a0) : Int))) && (decide ((Nat.cast (List.length a0) : Int) ≤ (Nat.cast (List.length a0) : Int)))) && (decide ((Nat.cast (List.length a0) : Int) ≤ (1000000000 : Int)))) then headF prog ev116 L f116 0 [1, 1, 0, 1, 0, 0] (outK (outV prog f116) (topK prog ev116 L f116 [1, 1, 0, 1] (outV prog f116)).n (topK prog ev116 L f116 [1, 1, 0, 1] (outV prog f116)).x) L (S116_0 a0 (List.replicate (Int.toNat (Nat.cast (List.length a0) : Int)) (0 : Int)) (0 : Int))
  else none := by kernel_rfl
theorem r116_0 (L : Nat) (a0 : (List Int)) (k : St cxT.ty → Option (V cxT.ty)) (xk : Nat → St cxT.ty → Option (V cxT.ty)) (g : St cxT.ty → Option (V cxT.ty)) (v0_3 : (List Int)) (v0_4 : Int) : roundF prog ev116 L f116 0 [1, 1, 0, 1, 0, 0] (outK (outV prog f116) k xk) g (S116_0 a0 v0_3 v0_4) =
  bif (decide (v0_4 < (Nat.cast (List.length a0) : Int))) then bif ((decide ((0 : Int) ≤ v0_4)) && (decide (v0_4 < (Nat.cast (List.length a0) : Int)))) then bif ((decide ((0 : Int) ≤ v0_4)) && (decide (v0_4 < (Nat.cast (List.length v0_3) : Int)))) then g (S116_0 a0 (List.set v0_3 (Int.toNat v0_4) (List.getD a0 (Int.toNat v0_4) (0 : Int))) (Go.IntKind.wrap Go.IntKind.i64 (v0_4 + (1 : Int))))
      else none
    else none
  else k (X116_0 a0 v0_3) := by kernel_rfl
theorem t116_0 (L : Nat) (a0 : (List Int)) (w0_3 : (List Int)) : (topK prog ev116 L f116 [1, 1, 0, 1] (outV prog f116)).n (X116_0 a0 w0_3) =
  some (n116 w0_3) := by kernel_rfl
def l116_0 (L : Nat) (a0 : (List Int)) : Nat → (List Int) → Int → ((List Int) → Option (List Int)) → Option (List Int)
  | 0, _, _, _ => none
  | n + 1, v0_3, v0_4, k =>
    bif (decide (v0_4 < (Nat.cast (List.length a0) : Int))) then bif ((decide ((0 : Int) ≤ v0_4)) && (decide (v0_4 < (Nat.cast (List.length a0) : Int)))) then bif ((decide ((0 : Int) ≤ v0_4)) && (decide (v0_4 < (Nat.cast (List.length v0_3) : Int)))) then l116_0 L a0 n (List.set v0_3 (Int.toNat v0_4) (List.getD a0 (Int.toNat v0_4) (0 : Int))) (Go.IntKind.wrap Go.IntKind.i64 (v0_4 + (1 : Int))) k
        else none
      else none
    else k v0_3
theorem h116_0 (L : Nat) (a0 : (List Int)) (k : St cxT.ty → Option (V cxT.ty)) (xk : Nat → St cxT.ty → Option (V cxT.ty)) (k' : (List Int) → Option (List Int)) (hk : ∀ (w0_3 : (List Int)), k (X116_0 a0 w0_3) = (k' w0_3).map n116) : ∀ (n : Nat) (v0_3 : (List Int)) (v0_4 : Int), headF prog ev116 L f116 0 [1, 1, 0, 1, 0, 0] (outK (outV prog f116) k xk) n (S116_0 a0 v0_3 v0_4) = (l116_0 L a0 n v0_3 v0_4 k').map n116
  | 0, _, _ => rfl
  | n + 1, v0_3, v0_4 => by
    rw [headF_round, r116_0]
    have ih := h116_0 L a0 k xk k' hk n
    simp only [l116_0, map_bif, map_tst, Option.map_some, Option.map_none, ih, hk]
def g116 (L : Nat) (a0 : (List Int)) : Option (List Int) :=
  bif (((decide ((0 : Int) ≤ (Nat.cast (List.length a0) : Int))) && (decide ((Nat.cast (List.length a0) : Int) ≤ (Nat.cast (List.length a0) : Int)))) && (decide ((Nat.cast (List.length a0) : Int) ≤ (1000000000 : Int)))) then l116_0 L a0 L (List.replicate (Int.toNat (Nat.cast (List.length a0) : Int)) (0 : Int)) (0 : Int) (fun (w0_3 : (List Int)) => some w0_3)
  else none
theorem e116 (L : Nat) (a0 : (List Int)) : evF prog ev116 (loopN L) f116 (a116.enc a0) = (g116 L a0).map n116 := by
  let K'0 : (List Int) → Option (List Int) := (fun (w0_3 : (List Int)) => some w0_3)
  have hin0 : ∀ (v0_3 : (List Int)) (v0_4 : Int), headF prog ev116 L f116 0 [1, 1, 0, 1, 0, 0] (outK (outV prog f116) (topK prog ev116 L f116 [1, 1, 0, 1] (outV prog f116)).n (topK prog ev116 L f116 [1, 1, 0, 1] (outV prog f116)).x) L (S116_0 a0 v0_3 v0_4) = (l116_0 L a0 L v0_3 v0_4 K'0).map n116 := fun v0_3 v0_4 => h116_0 L a0 _ _ K'0 (fun w0_3 => by rw [t116_0]; simp only [K'0, map_bif, map_tst, Option.map_some, Option.map_none]) L v0_3 v0_4
  rw [i116]; simp only [g116, map_bif, map_tst, Option.map_some, Option.map_none, hin0, K'0]
theorem s116 (m : (List Int) → Option (List Int)) (hm : ∀ (x : (List Int)) t, m x = some t → ∃ L, g116 L x = some t) : Sat prog cxT 116 (c116 m) :=
  sat_t cxT_ok cxT_pok (by rfl) (fn := f116) rfl a116 n116 dd116 m ev116 kok_nil kwok_nil (fun L x => g116 L x) (fun L x => e116 L x) hm hs116
/-! loop.example/g00222/laws.eqInt64S -/
def ev117 : Env cxT := { Kc := kcOf [], Kw := kwOf [], lv := fun i => if i = 0 then [(0, [some 2]), (1, [some 2]), (5, [])] else [], xv := fun i => if i = 0 then some [] else none }
def S117_0 (a0 : (List Int)) (a1 : (List Int)) (v0_5 : Int) : St cxT.ty := { slots := [(.inl (.inl (ls { own := 0, nm := 0, e := 2, o := false, xs := a0 }))), (.inl (.inl (ls { own := 0, nm := 0, e := 2, o := false, xs := a1 }))), junk, junk, junk, (.inl (.inl (lv (.int .i64 v0_5))))] ++ List.replicate 20 junk, D := [], F := [], ctr := 1 }
def X117_0 (a0 : (List Int)) (a1 : (List Int)) : St cxT.ty := { slots := [] ++ List.replicate 26 junk, D := [], F := [], ctr := 1 }
theorem i117 (L : Nat) (a0 : (List Int)) (a1 : (List Int)) : evF prog ev117 (loopN L) f117 (a117.enc (a0, a1)) =
  bif ((Nat.cast (List.length a0) : Int) != (Nat.cast (List.length a1) : Int)) then some (n117 Bool.false)
  else headF prog ev117 L f117 0 [1, 1, 0, 1, 0, 0] (outK (outV prog f117) (topK prog ev117 L f117 [1, 1, 0, 1] (outV prog f117)).n (topK prog ev117 L f117 [1, 1, 0, 1] (outV prog f117)).x) L (S117_0 a0 a1 (0 : Int)) := by kernel_rfl
theorem r117_0 (L : Nat) (a0 : (List Int)) (a1 : (List Int)) (k : St cxT.ty → Option (V cxT.ty)) (xk : Nat → St cxT.ty → Option (V cxT.ty)) (g : St cxT.ty → Option (V cxT.ty)) (v0_5 : Int) : roundF prog ev117 L f117 0 [1, 1, 0, 1, 0, 0] (outK (outV prog f117) k xk) g (S117_0 a0 a1 v0_5) =
  bif (decide (v0_5 < (Nat.cast (List.length a0) : Int))) then bif ((decide ((0 : Int) ≤ v0_5)) && (decide (v0_5 < (Nat.cast (List.length a0) : Int)))) then bif ((decide ((0 : Int) ≤ v0_5)) && (decide (v0_5 < (Nat.cast (List.length a1) : Int)))) then bif ((List.getD a0 (Int.toNat v0_5) (0 : Int)) != (List.getD a1 (Int.toNat v0_5) (0 : Int))) then some (n117 Bool.false)
        else g (S117_0 a0 a1 (Go.IntKind.wrap Go.IntKind.i64 (v0_5 + (1 : Int))))
      else none
    else none
  else k (X117_0 a0 a1) := by kernel_rfl
theorem t117_0 (L : Nat) (a0 : (List Int)) (a1 : (List Int)) : (topK prog ev117 L f117 [1, 1, 0, 1] (outV prog f117)).n (X117_0 a0 a1) =
  some (n117 Bool.true) := by kernel_rfl
def l117_0 (L : Nat) (a0 : (List Int)) (a1 : (List Int)) : Nat → Int → (Option Bool) → Option Bool
  | 0, _, _ => none
  | n + 1, v0_5, k =>
    bif (decide (v0_5 < (Nat.cast (List.length a0) : Int))) then bif ((decide ((0 : Int) ≤ v0_5)) && (decide (v0_5 < (Nat.cast (List.length a0) : Int)))) then bif ((decide ((0 : Int) ≤ v0_5)) && (decide (v0_5 < (Nat.cast (List.length a1) : Int)))) then bif ((List.getD a0 (Int.toNat v0_5) (0 : Int)) != (List.getD a1 (Int.toNat v0_5) (0 : Int))) then some Bool.false
          else l117_0 L a0 a1 n (Go.IntKind.wrap Go.IntKind.i64 (v0_5 + (1 : Int))) k
        else none
      else none
    else k
theorem h117_0 (L : Nat) (a0 : (List Int)) (a1 : (List Int)) (k : St cxT.ty → Option (V cxT.ty)) (xk : Nat → St cxT.ty → Option (V cxT.ty)) (k' : Option Bool) (hk : k (X117_0 a0 a1) = (k').map n117) : ∀ (n : Nat) (v0_5 : Int), headF prog ev117 L f117 0 [1, 1, 0, 1, 0, 0] (outK (outV prog f117) k xk) n (S117_0 a0 a1 v0_5) = (l117_0 L a0 a1 n v0_5 k').map n117
  | 0, _ => rfl
  | n + 1, v0_5 => by
    rw [headF_round, r117_0]
    have ih := h117_0 L a0 a1 k xk k' hk n
    simp only [l117_0, map_bif, map_tst, Option.map_some, Option.map_none, ih, hk]
def g117 (L : Nat) (a0 : (List Int)) (a1 : (List Int)) : Option Bool :=
  bif ((Nat.cast (List.length a0) : Int) != (Nat.cast (List.length a1) : Int)) then some Bool.false
  else l117_0 L a0 a1 L (0 : Int) (some Bool.true)
theorem e117 (L : Nat) (a0 : (List Int)) (a1 : (List Int)) : evF prog ev117 (loopN L) f117 (a117.enc (a0, a1)) = (g117 L a0 a1).map n117 := by
  let K'0 : Option Bool := (some Bool.true)
  have hin0 : ∀ (v0_5 : Int), headF prog ev117 L f117 0 [1, 1, 0, 1, 0, 0] (outK (outV prog f117) (topK prog ev117 L f117 [1, 1, 0, 1] (outV prog f117)).n (topK prog ev117 L f117 [1, 1, 0, 1] (outV prog f117)).x) L (S117_0 a0 a1 v0_5) = (l117_0 L a0 a1 L v0_5 K'0).map n117 := fun v0_5 => h117_0 L a0 a1 _ _ K'0 (by rw [t117_0]; simp only [K'0, map_bif, map_tst, Option.map_some, Option.map_none]) L v0_5
  rw [i117]; simp only [g117, map_bif, map_tst, Option.map_some, Option.map_none, hin0, K'0]
theorem s117 (m : ((List Int) × (List Int)) → Option Bool) (hm : ∀ (x : ((List Int) × (List Int))) t, m x = some t → ∃ L, g117 L x.1 x.2 = some t) : Sat prog cxT 117 (c117 m) :=
  sat_t cxT_ok cxT_pok (by rfl) (fn := f117) rfl a117 n117 dd117 m ev117 kok_nil kwok_nil (fun L x => g117 L x.1 x.2) (fun L x => e117 L x.1 x.2) hm hs117
/-! loop.example/g00222/impl.compareVips -/
def ev53 (m85 : (Int × Int) → Option Int) (m93 : (List Int) → Option Int) : Env cxT := { Kc := kcOf [(85, c85 m85), (93, c93 m93)], Kw := kwOf [], lv := fun i => [], xv := fun i => none }
theorem i53 (m85 : (Int × Int) → Option Int) (m93 : (List Int) → Option Int) (L : Nat) (a0_0 : Int) (a0_1 : Int) (a0_2 : Int) (a0_3 : (List Int)) (a1_0 : Int) (a1_1 : Int) (a1_2 : Int) (a1_3 : (List Int)) : evF prog (ev53 m85 m93) (loopN L) f53 (a53.enc ((a0_0, a0_1, a0_2, a0_3), (a1_0, a1_1, a1_2, a1_3))) =
  tst (m85 (a0_0, a1_0)) (0 : Int) fun (q1 : Int) => tst (m85 (a0_1, a1_1)) (0 : Int) fun (q2 : Int) => tst (m85 (a0_2, a1_2)) (0 : Int) fun (q3 : Int) => tst (m93 (List.cons q1 (List.cons q2 (List.cons q3 ([] : List (Int)))))) (0 : Int) fun (q4 : Int) => some (n53 q4) := by kernel_rfl
def g53 (m85 : (Int × Int) → Option Int) (m93 : (List Int) → Option Int) (L : Nat) (a0_0 : Int) (a0_1 : Int) (a0_2 : Int) (a0_3 : (List Int)) (a1_0 : Int) (a1_1 : Int) (a1_2 : Int) (a1_3 : (List Int)) : Option Int :=
  tst (m85 (a0_0, a1_0)) (0 : Int) fun (q1 : Int) => tst (m85 (a0_1, a1_1)) (0 : Int) fun (q2 : Int) => tst (m85 (a0_2, a1_2)) (0 : Int) fun (q3 : Int) => tst (m93 (List.cons q1 (List.cons q2 (List.cons q3 ([] : List (Int)))))) (0 : Int) fun (q4 : Int) => some q4
theorem e53 (m85 : (Int × Int) → Option Int) (m93 : (List Int) → Option Int) (L : Nat) (a0_0 : Int) (a0_1 : Int) (a0_2 : Int) (a0_3 : (List Int)) (a1_0 : Int) (a1_1 : Int) (a1_2 : Int) (a1_3 : (List Int)) : evF prog (ev53 m85 m93) (loopN L) f53 (a53.enc ((a0_0, a0_1, a0_2, a0_3), (a1_0, a1_1, a1_2, a1_3))) = (g53 m85 m93 L a0_0 a0_1 a0_2 a0_3 a1_0 a1_1 a1_2 a1_3).map n53 := by
  rw [i53]; simp only [g53, map_bif, map_tst, Option.map_some, Option.map_none]
theorem s53 (m85 : (Int × Int) → Option Int) (m93 : (List Int) → Option Int) (h85 : Sat prog cxT 85 (c85 m85)) (h93 : Sat prog cxT 93 (c93 m93)) (m : ((Int × Int × Int × (List Int)) × (Int × Int × Int × (List Int))) → Option Int) (hm : ∀ (x : ((Int × Int × Int × (List Int)) × (Int × Int × Int × (List Int)))) t, m x = some t → ∃ L, g53 m85 m93 L x.1.1 x.1.2.1 x.1.2.2.1 x.1.2.2.2 x.2.1 x.2.2.1 x.2.2.2.1 x.2.2.2.2 = some t) : Sat prog cxT 53 (c53 m) :=
  sat_t cxT_ok cxT_pok (by rfl) (fn := f53) rfl a53 n53 dd53 m (ev53 m85 m93) (kok_cons h85 (kok_cons h93 kok_nil)) kwok_nil (fun L x => g53 m85 m93 L x.1.1 x.1.2.1 x.1.2.2.1 x.1.2.2.2 x.2.1 x.2.2.1 x.2.2.2.1 x.2.2.2.2) (fun L x => e53 m85 m93 L x.1.1 x.1.2.1 x.1.2.2.1 x.1.2.2.2 x.2.1 x.2.2.1 x.2.2.2.1 x.2.2.2.2) hm hs53
end Go.Proofs.Try

set_option maxHeartbeats 0
set_option maxRecDepth 100000
set_option linter.unusedVariables false
set_option linter.unusedSimpArgs false
namespace Go.Proofs.Try
open Go Go.VM Go.RowKit
/-! loop.example/g00222/laws.szConfig -/
def ev17 (m46 : ((List (Int × (Int × (Int × (Int × Bool))))) × Int) → Option Int) (m47 : ((List (Int × (Int × (Int × (List Int))))) × Int) → Option Int) : Env cxT := { Kc := kcOf [(46, c46 m46), (47, c47 m47)], Kw := kwOf [], lv := fun i => [], xv := fun i => none }
theorem i17 (m46 : ((List (Int × (Int × (Int × (Int × Bool))))) × Int) → Option Int) (m47 : ((List (Int × (Int × (Int × (List Int))))) × Int) → Option Int) (L : Nat) (a0_0 : Int) (a0_1 : (List (Int × (Int × (Int × (Int × Bool)))))) (a0_2 : (List (Int × (Int × (Int × (List Int)))))) (a1 : Int) : evF prog (ev17 m46 m47) (loopN L) f17 (a17.enc ((a0_0, a0_1, a0_2), a1)) =
  tst (m46 (a0_1, a1)) (0 : Int) fun (q1 : Int) => bif (decide (q1 < (0 : Int))) then some (n17 (-(1 : Int)))
    else tst (m47 (a0_2, q1)) (0 : Int) fun (q2 : Int) => bif (decide (q2 < (0 : Int))) then some (n17 (-(1 : Int)))
      else some (n17 q2) := by kernel_rfl
def g17 (m46 : ((List (Int × (Int × (Int × (Int × Bool))))) × Int) → Option Int) (m47 : ((List (Int × (Int × (Int × (List Int))))) × Int) → Option Int) (L : Nat) (a0_0 : Int) (a0_1 : (List (Int × (Int × (Int × (Int × Bool)))))) (a0_2 : (List (Int × (Int × (Int × (List Int)))))) (a1 : Int) : Option Int :=
  tst (m46 (a0_1, a1)) (0 : Int) fun (q1 : Int) => bif (decide (q1 < (0 : Int))) then some (-(1 : Int))
    else tst (m47 (a0_2, q1)) (0 : Int) fun (q2 : Int) => bif (decide (q2 < (0 : Int))) then some (-(1 : Int))
      else some q2
theorem e17 (m46 : ((List (Int × (Int × (Int × (Int × Bool))))) × Int) → Option Int) (m47 : ((List (Int × (Int × (Int × (List Int))))) × Int) → Option Int) (L : Nat) (a0_0 : Int) (a0_1 : (List (Int × (Int × (Int × (Int × Bool)))))) (a0_2 : (List (Int × (Int × (Int × (List Int)))))) (a1 : Int) : evF prog (ev17 m46 m47) (loopN L) f17 (a17.enc ((a0_0, a0_1, a0_2), a1)) = (g17 m46 m47 L a0_0 a0_1 a0_2 a1).map n17 := by
  rw [i17]; simp only [g17, map_bif, map_tst, Option.map_some, Option.map_none]
theorem s17 (m46 : ((List (Int × (Int × (Int × (Int × Bool))))) × Int) → Option Int) (m47 : ((List (Int × (Int × (Int × (List Int))))) × Int) → Option Int) (h46 : Sat prog cxT 46 (c46 m46)) (h47 : Sat prog cxT 47 (c47 m47)) (m : ((Int × (List (Int × (Int × (Int × (Int × Bool))))) × (List (Int × (Int × (Int × (List Int)))))) × Int) → Option Int) (hm : ∀ (x : ((Int × (List (Int × (Int × (Int × (Int × Bool))))) × (List (Int × (Int × (Int × (List Int)))))) × Int)) t, m x = some t → ∃ L, g17 m46 m47 L x.1.1 x.1.2.1 x.1.2.2 x.2 = some t) : Sat prog cxT 17 (c17 m) :=
  sat_t cxT_ok cxT_pok (by rfl) (fn := f17) rfl a17 n17 dd17 m (ev17 m46 m47) (kok_cons h46 (kok_cons h47 kok_nil)) kwok_nil (fun L x => g17 m46 m47 L x.1.1 x.1.2.1 x.1.2.2 x.2) (fun L x => e17 m46 m47 L x.1.1 x.1.2.1 x.1.2.2 x.2) hm hs17
/-! loop.example/g00222/spec.ConfigFault -/
/-! loop.example/g00222/laws.toConfig -/
def ev19 (m48 : (List (Int × (Int × (Int × (Int × Bool))))) → Option (List (Int × (Int × (Int × (Int × Bool)))))) (m49 : (List (Int × (Int × (Int × (List Int))))) → Option (List (Int × (Int × (Int × (List Int)))))) : Env cxT := { Kc := kcOf [(48, c48 m48), (49, c49 m49)], Kw := kwOf [], lv := fun i => [], xv := fun i => none }
theorem i19 (m48 : (List (Int × (Int × (Int × (Int × Bool))))) → Option (List (Int × (Int × (Int × (Int × Bool)))))) (m49 : (List (Int × (Int × (Int × (List Int))))) → Option (List (Int × (Int × (Int × (List Int)))))) (L : Nat) (a0_0 : Int) (a0_1 : (List (Int × (Int × (Int × (Int × Bool)))))) (a0_2 : (List (Int × (Int × (Int × (List Int)))))) : evF prog (ev19 m48 m49) (loopN L) f19 (a19.enc (a0_0, a0_1, a0_2)) =
  tst (m48 a0_1) [] fun (q1 : (List (Int × (Int × (Int × (Int × Bool)))))) => tst (m49 a0_2) [] fun (q2 : (List (Int × (Int × (Int × (List Int)))))) => some (n19 (a0_0, q1, q2)) := by kernel_rfl
def g19 (m48 : (List (Int × (Int × (Int × (Int × Bool))))) → Option (List (Int × (Int × (Int × (Int × Bool)))))) (m49 : (List (Int × (Int × (Int × (List Int))))) → Option (List (Int × (Int × (Int × (List Int)))))) (L : Nat) (a0_0 : Int) (a0_1 : (List (Int × (Int × (Int × (Int × Bool)))))) (a0_2 : (List (Int × (Int × (Int × (List Int)))))) : Option (Int × (List (Int × (Int × (Int × (Int × Bool))))) × (List (Int × (Int × (Int × (List Int)))))) :=
  tst (m48 a0_1) [] fun (q1 : (List (Int × (Int × (Int × (Int × Bool)))))) => tst (m49 a0_2) [] fun (q2 : (List (Int × (Int × (Int × (List Int)))))) => some (a0_0, q1, q2)
theorem e19 (m48 : (List (Int × (Int × (Int × (Int × Bool))))) → Option (List (Int × (Int × (Int × (Int × Bool)))))) (m49 : (List (Int × (Int × (Int × (List Int))))) → Option (List (Int × (Int × (Int × (List Int)))))) (L : Nat) (a0_0 : Int) (a0_1 : (List (Int × (Int × (Int × (Int × Bool)))))) (a0_2 : (List (Int × (Int × (Int × (List Int)))))) : evF prog (ev19 m48 m49) (loopN L) f19 (a19.enc (a0_0, a0_1, a0_2)) = (g19 m48 m49 L a0_0 a0_1 a0_2).map n19 := by
  rw [i19]; simp only [g19, map_bif, map_tst, Option.map_some, Option.map_none]
theorem s19 (m48 : (List (Int × (Int × (Int × (Int × Bool))))) → Option (List (Int × (Int × (Int × (Int × Bool)))))) (m49 : (List (Int × (Int × (Int × (List Int))))) → Option (List (Int × (Int × (Int × (List Int)))))) (h48 : Sat prog cxT 48 (c48 m48)) (h49 : Sat prog cxT 49 (c49 m49)) (m : (Int × (List (Int × (Int × (Int × (Int × Bool))))) × (List (Int × (Int × (Int × (List Int)))))) → Option (Int × (List (Int × (Int × (Int × (Int × Bool))))) × (List (Int × (Int × (Int × (List Int))))))) (hm : ∀ (x : (Int × (List (Int × (Int × (Int × (Int × Bool))))) × (List (Int × (Int × (Int × (List Int))))))) t, m x = some t → ∃ L, g19 m48 m49 L x.1 x.2.1 x.2.2 = some t) : Sat prog cxT 19 (c19 m) :=
  sat_t cxT_ok cxT_pok (by rfl) (fn := f19) rfl a19 n19 dd19 m (ev19 m48 m49) (kok_cons h48 (kok_cons h49 kok_nil)) kwok_nil (fun L x => g19 m48 m49 L x.1 x.2.1 x.2.2) (fun L x => e19 m48 m49 L x.1 x.2.1 x.2.2) hm hs19
/-! loop.example/g00222/impl.ConfigFault -/
/-! loop.example/g00222/laws.eqConfig -/
def ev21 (m55 : ((List (Int × (Int × (Int × (Int × Bool))))) × (List (Int × (Int × (Int × (Int × Bool)))))) → Option Bool) (m56 : ((List (Int × (Int × (Int × (List Int))))) × (List (Int × (Int × (Int × (List Int)))))) → Option Bool) : Env cxT := { Kc := kcOf [(55, c55 m55), (56, c56 m56)], Kw := kwOf [], lv := fun i => [], xv := fun i => none }
theorem i21 (m55 : ((List (Int × (Int × (Int × (Int × Bool))))) × (List (Int × (Int × (Int × (Int × Bool)))))) → Option Bool) (m56 : ((List (Int × (Int × (Int × (List Int))))) × (List (Int × (Int × (Int × (List Int)))))) → Option Bool) (L : Nat) (a0_0 : Int) (a0_1 : (List (Int × (Int × (Int × (Int × Bool)))))) (a0_2 : (List (Int × (Int × (Int × (List Int)))))) (a1_0 : Int) (a1_1 : (List (Int × (Int × (Int × (Int × Bool)))))) (a1_2 : (List (Int × (Int × (Int × (List Int)))))) : evF prog (ev21 m55 m56) (loopN L) f21 (a21.enc ((a0_0, a0_1, a0_2), (a1_0, a1_1, a1_2))) =
  bif (a0_0 != a1_0) then some (n21 Bool.false)
  else tst (m55 (a0_1, a1_1)) false fun (q1 : Bool) => bif (!q1) then some (n21 Bool.false)
    else tst (m56 (a0_2, a1_2)) false fun (q2 : Bool) => bif (!q2) then some (n21 Bool.false)
      else some (n21 Bool.true) := by kernel_rfl
def g21 (m55 : ((List (Int × (Int × (Int × (Int × Bool))))) × (List (Int × (Int × (Int × (Int × Bool)))))) → Option Bool) (m56 : ((List (Int × (Int × (Int × (List Int))))) × (List (Int × (Int × (Int × (List Int)))))) → Option Bool) (L : Nat) (a0_0 : Int) (a0_1 : (List (Int × (Int × (Int × (Int × Bool)))))) (a0_2 : (List (Int × (Int × (Int × (List Int)))))) (a1_0 : Int) (a1_1 : (List (Int × (Int × (Int × (Int × Bool)))))) (a1_2 : (List (Int × (Int × (Int × (List Int)))))) : Option Bool :=
  bif (a0_0 != a1_0) then some Bool.false
  else tst (m55 (a0_1, a1_1)) false fun (q1 : Bool) => bif (!q1) then some Bool.false
    else tst (m56 (a0_2, a1_2)) false fun (q2 : Bool) => bif (!q2) then some Bool.false
      else some Bool.true
theorem e21 (m55 : ((List (Int × (Int × (Int × (Int × Bool))))) × (List (Int × (Int × (Int × (Int × Bool)))))) → Option Bool) (m56 : ((List (Int × (Int × (Int × (List Int))))) × (List (Int × (Int × (Int × (List Int)))))) → Option Bool) (L : Nat) (a0_0 : Int) (a0_1 : (List (Int × (Int × (Int × (Int × Bool)))))) (a0_2 : (List (Int × (Int × (Int × (List Int)))))) (a1_0 : Int) (a1_1 : (List (Int × (Int × (Int × (Int × Bool)))))) (a1_2 : (List (Int × (Int × (Int × (List Int)))))) : evF prog (ev21 m55 m56) (loopN L) f21 (a21.enc ((a0_0, a0_1, a0_2), (a1_0, a1_1, a1_2))) = (g21 m55 m56 L a0_0 a0_1 a0_2 a1_0 a1_1 a1_2).map n21 := by
  rw [i21]; simp only [g21, map_bif, map_tst, Option.map_some, Option.map_none]
theorem s21 (m55 : ((List (Int × (Int × (Int × (Int × Bool))))) × (List (Int × (Int × (Int × (Int × Bool)))))) → Option Bool) (m56 : ((List (Int × (Int × (Int × (List Int))))) × (List (Int × (Int × (Int × (List Int)))))) → Option Bool) (h55 : Sat prog cxT 55 (c55 m55)) (h56 : Sat prog cxT 56 (c56 m56)) (m : ((Int × (List (Int × (Int × (Int × (Int × Bool))))) × (List (Int × (Int × (Int × (List Int)))))) × (Int × (List (Int × (Int × (Int × (Int × Bool))))) × (List (Int × (Int × (Int × (List Int))))))) → Option Bool) (hm : ∀ (x : ((Int × (List (Int × (Int × (Int × (Int × Bool))))) × (List (Int × (Int × (Int × (List Int)))))) × (Int × (List (Int × (Int × (Int × (Int × Bool))))) × (List (Int × (Int × (Int × (List Int)))))))) t, m x = some t → ∃ L, g21 m55 m56 L x.1.1 x.1.2.1 x.1.2.2 x.2.1 x.2.2.1 x.2.2.2 = some t) : Sat prog cxT 21 (c21 m) :=
  sat_t cxT_ok cxT_pok (by rfl) (fn := f21) rfl a21 n21 dd21 m (ev21 m55 m56) (kok_cons h55 (kok_cons h56 kok_nil)) kwok_nil (fun L x => g21 m55 m56 L x.1.1 x.1.2.1 x.1.2.2 x.2.1 x.2.2.1 x.2.2.2) (fun L x => e21 m55 m56 L x.1.1 x.1.2.1 x.1.2.2 x.2.1 x.2.2.1 x.2.2.2) hm hs21
/-! loop.example/g00222/impl.backendPlace -/
/-! loop.example/g00222/impl.isServed -/
/-! loop.example/g00222/impl.namesFault -/
/-! loop.example/g00222/laws.eqBackendS -/
def ev55 (m65 : ((Int × Int × Int × Int × Bool) × (Int × Int × Int × Int × Bool)) → Option Bool) : Env cxT := { Kc := kcOf [(65, c65 m65)], Kw := kwOf [], lv := fun i => if i = 0 then [(0, [some 38]), (1, [some 38]), (5, [])] else [], xv := fun i => if i = 0 then some [] else none }
def S55_0 (a0 : (List (Int × (Int × (Int × (Int × Bool)))))) (a1 : (List (Int × (Int × (Int × (Int × Bool)))))) (v0_5 : Int) : St cxT.ty := { slots := [(.inl (.inl (ls { own := 0, nm := 0, e := 38, o := false, xs := a0 }))), (.inl (.inl (ls { own := 0, nm := 0, e := 38, o := false, xs := a1 }))), junk, junk, junk, (.inl (.inl (lv (.int .i64 v0_5))))] ++ List.replicate 21 junk, D := [], F := [], ctr := 1 }
def X55_0 (a0 : (List (Int × (Int × (Int × (Int × Bool)))))) (a1 : (List (Int × (Int × (Int × (Int × Bool)))))) : St cxT.ty := { slots := [] ++ List.replicate 27 junk, D := [], F := [], ctr := 1 }
theorem i55 (m65 : ((Int × Int × Int × Int × Bool) × (Int × Int × Int × Int × Bool)) → Option Bool) (L : Nat) (a0 : (List (Int × (Int × (Int × (Int × Bool)))))) (a1 : (List (Int × (Int × (Int × (Int × Bool)))))) : evF prog (ev55 m65) (loopN L) f55 (a55.enc (a0, a1)) =
  bif ((Nat.cast (List.length a0) : Int) != (Nat.cast (List.length a1) : Int)) then some (n55 Bool.false)
  else headF prog (ev55 m65) L f55 0 [1, 1, 0, 1, 0, 0] (outK (outV prog f55) (topK prog (ev55 m65) L f55 [1, 1, 0, 1] (outV prog f55)).n (topK prog (ev55 m65) L f55 [1, 1, 0, 1] (outV prog f55)).x) L (S55_0 a0 a1 (0 : Int)) := by kernel_rfl
theorem r55_0 (m65 : ((Int × Int × Int × Int × Bool) × (Int × Int × Int × Int × Bool)) → Option Bool) (L : Nat) (a0 : (List (Int × (Int × (Int × (Int × Bool)))))) (a1 : (List (Int × (Int × (Int × (Int × Bool)))))) (k : St cxT.ty → Option (V cxT.ty)) (xk : Nat → St cxT.ty → Option (V cxT.ty)) (g : St cxT.ty → Option (V cxT.ty)) (v0_5 : Int) : roundF prog (ev55 m65) L f55 0 [1, 1, 0, 1, 0, 0] (outK (outV prog f55) k xk) g (S55_0 a0 a1 v0_5) =
  bif (decide (v0_5 < (Nat.cast (List.length a0) : Int))) then bif ((decide ((0 : Int) ≤ v0_5)) && (decide (v0_5 < (Nat.cast (List.length a0) : Int)))) then bif ((decide ((0 : Int) ≤ v0_5)) && (decide (v0_5 < (Nat.cast (List.length a1) : Int)))) then tst (m65 (((List.getD a0 (Int.toNat v0_5) ((0 : Int), ((0 : Int), ((0 : Int), ((0 : Int), Bool.false))))).1, ((List.getD a0 (Int.toNat v0_5) ((0 : Int), ((0 : Int), ((0 : Int), ((0 : Int), Bool.false))))).2.1, ((List.getD a0 (Int.toNat v0_5) ((0 : Int), ((0 : Int), ((0 : Int), ((0 : Int), Bool.false))))).2.2.1, ((List.getD a0 (Int.toNat v0_5) ((0 : Int), ((0 : Int), ((0 : Int), ((0 : Int), Bool.false))))).2.2.2.1, (List.getD a0 (Int.toNat v0_5) ((0 : Int), ((0 : Int), ((0 : Int), ((0 : Int), Bool.false))))).2.2.2.2)))), ((List.getD a1 (Int.toNat v0_5) ((0 : Int), ((0 : Int), ((0 : Int), ((0 : Int), Bool.false))))).1, ((List.getD a1 (Int.toNat v0_5) ((0 : Int), ((0 : Int), ((0 : Int), ((0 : Int), Bool.false))))).2.1, ((List.getD a1 (Int.toNat v0_5) ((0 : Int), ((0 : Int), ((0 : Int), ((0 : Int), Bool.false))))).2.2.1, ((List.getD a1 (Int.toNat v0_5) ((0 : Int), ((0 : Int), ((0 : Int), ((0 : Int), Bool.false))))).2.2.2.1, (List.getD a1 (Int.toNat v0_5) ((0 : Int), ((0 : Int), ((0 : Int), ((0 : Int), Bool.false))))).2.2.2.2)))))) false fun (q4 : Bool) => bif (!q4) then some (n55 Bool.false)
          else g (S55_0 a0 a1 (Go.IntKind.wrap Go.IntKind.i64 (v0_5 + (1 : Int))))
      else none
    else none
  else k (X55_0 a0 a1) := by kernel_rfl
theorem t55_0 (m65 : ((Int × Int × Int × Int × Bool) × (Int × Int × Int × Int × Bool)) → Option Bool) (L : Nat) (a0 : (List (Int × (Int × (Int × (Int × Bool)))))) (a1 : (List (Int × (Int × (Int × (Int × Bool)))))) : (topK prog (ev55 m65) L f55 [1, 1, 0, 1] (outV prog f55)).n (X55_0 a0 a1) =
  some (n55 Bool.true) := by kernel_rfl
def l55_0 (m65 : ((Int × Int × Int × Int × Bool) × (Int × Int × Int × Int × Bool)) → Option Bool) (L : Nat) (a0 : (List (Int × (Int × (Int × (Int × Bool)))))) (a1 : (List (Int × (Int × (Int × (Int × Bool)))))) : Nat → Int → (Option Bool) → Option Bool
  | 0, _, _ => none
  | n + 1, v0_5, k =>
    bif (decide (v0_5 < (Nat.cast (List.length a0) : Int))) then bif ((decide ((0 : Int) ≤ v0_5)) && (decide (v0_5 < (Nat.cast (List.length a0) : Int)))) then bif ((decide ((0 : Int) ≤ v0_5)) && (decide (v0_5 < (Nat.cast (List.length a1) : Int)))) then tst (m65 (((List.getD a0 (Int.toNat v0_5) ((0 : Int), ((0 : Int), ((0 : Int), ((0 : Int), Bool.false))))).1, ((List.getD a0 (Int.toNat v0_5) ((0 : Int), ((0 : Int), ((0 : Int), ((0 : Int), Bool.false))))).2.1, ((List.getD a0 (Int.toNat v0_5) ((0 : Int), ((0 : Int), ((0 : Int), ((0 : Int), Bool.false))))).2.2.1, ((List.getD a0 (Int.toNat v0_5) ((0 : Int), ((0 : Int), ((0 : Int), ((0 : Int), Bool.false))))).2.2.2.1, (List.getD a0 (Int.toNat v0_5) ((0 : Int), ((0 : Int), ((0 : Int), ((0 : Int), Bool.false))))).2.2.2.2)))), ((List.getD a1 (Int.toNat v0_5) ((0 : Int), ((0 : Int), ((0 : Int), ((0 : Int), Bool.false))))).1, ((List.getD a1 (Int.toNat v0_5) ((0 : Int), ((0 : Int), ((0 : Int), ((0 : Int), Bool.false))))).2.1, ((List.getD a1 (Int.toNat v0_5) ((0 : Int), ((0 : Int), ((0 : Int), ((0 : Int), Bool.false))))).2.2.1, ((List.getD a1 (Int.toNat v0_5) ((0 : Int), ((0 : Int), ((0 : Int), ((0 : Int), Bool.false))))).2.2.2.1, (List.getD a1 (Int.toNat v0_5) ((0 : Int), ((0 : Int), ((0 : Int), ((0 : Int), Bool.false))))).2.2.2.2)))))) false fun (q5 : Bool) => bif (!q5) then some Bool.false
            else l55_0 m65 L a0 a1 n (Go.IntKind.wrap Go.IntKind.i64 (v0_5 + (1 : Int))) k
        else none
      else none
    else k
theorem h55_0 (m65 : ((Int × Int × Int × Int × Bool) × (Int × Int × Int × Int × Bool)) → Option Bool) (L : Nat) (a0 : (List (Int × (Int × (Int × (Int × Bool)))))) (a1 : (List (Int × (Int × (Int × (Int × Bool)))))) (k : St cxT.ty → Option (V cxT.ty)) (xk : Nat → St cxT.ty → Option (V cxT.ty)) (k' : Option Bool) (hk : k (X55_0 a0 a1) = (k').map n55) : ∀ (n : Nat) (v0_5 : Int), headF prog (ev55 m65) L f55 0 [1, 1, 0, 1, 0, 0] (outK (outV prog f55) k xk) n (S55_0 a0 a1 v0_5) = (l55_0 m65 L a0 a1 n v0_5 k').map n55
  | 0, _ => rfl
  | n + 1, v0_5 => by
    rw [headF_round, r55_0]
    have ih := h55_0 m65 L a0 a1 k xk k' hk n
    simp only [l55_0, map_bif, map_tst, Option.map_some, Option.map_none, ih, hk]
def g55 (m65 : ((Int × Int × Int × Int × Bool) × (Int × Int × Int × Int × Bool)) → Option Bool) (L : Nat) (a0 : (List (Int × (Int × (Int × (Int × Bool)))))) (a1 : (List (Int × (Int × (Int × (Int × Bool)))))) : Option Bool :=
  bif ((Nat.cast (List.length a0) : Int) != (Nat.cast (List.length a1) : Int)) then some Bool.false
  else l55_0 m65 L a0 a1 L (0 : Int) (some Bool.true)
theorem e55 (m65 : ((Int × Int × Int × Int × Bool) × (Int × Int × Int × Int × Bool)) → Option Bool) (L : Nat) (a0 : (List (Int × (Int × (Int × (Int × Bool)))))) (a1 : (List (Int × (Int × (Int × (Int × Bool)))))) : evF prog (ev55 m65) (loopN L) f55 (a55.enc (a0, a1)) = (g55 m65 L a0 a1).map n55 := by
  let K'0 : Option Bool := (some Bool.true)
  have hin0 : ∀ (v0_5 : Int), headF prog (ev55 m65) L f55 0 [1, 1, 0, 1, 0, 0] (outK (outV prog f55) (topK prog (ev55 m65) L f55 [1, 1, 0, 1] (outV prog f55)).n (topK prog (ev55 m65) L f55 [1, 1, 0, 1] (outV prog f55)).x) L (S55_0 a0 a1 v0_5) = (l55_0 m65 L a0 a1 L v0_5 K'0).map n55 := fun v0_5 => h55_0 m65 L a0 a1 _ _ K'0 (by rw [t55_0]; simp only [K'0, map_bif, map_tst, Option.map_some, Option.map_none]) L v0_5
  rw [i55]; simp only [g55, map_bif, map_tst, Option.map_some, Option.map_none, hin0, K'0]
theorem s55 (m65 : ((Int × Int × Int × Int × Bool) × (Int × Int × Int × Int × Bool)) → Option Bool) (h65 : Sat prog cxT 65 (c65 m65)) (m : ((List (Int × (Int × (Int × (Int × Bool))))) × (List (Int × (Int × (Int × (Int × Bool)))))) → Option Bool) (hm : ∀ (x : ((List (Int × (Int × (Int × (Int × Bool))))) × (List (Int × (Int × (Int × (Int × Bool))))))) t, m x = some t → ∃ L, g55 m65 L x.1 x.2 = some t) : Sat prog cxT 55 (c55 m) :=
  sat_t cxT_ok cxT_pok (by rfl) (fn := f55) rfl a55 n55 dd55 m (ev55 m65) (kok_cons h65 kok_nil) kwok_nil (fun L x => g55 m65 L x.1 x.2) (fun L x => e55 m65 L x.1 x.2) hm hs55
/-! loop.example/g00222/laws.eqVipS -/
def ev56 (m94 : ((Int × Int × Int × (List Int)) × (Int × Int × Int × (List Int))) → Option Bool) : Env cxT := { Kc := kcOf [(94, c94 m94)], Kw := kwOf [], lv := fun i => if i = 0 then [(0, [some 36]), (1, [some 36]), (5, [])] else [], xv := fun i => if i = 0 then some [] else none }
def S56_0 (a0 : (List (Int × (Int × (Int × (List Int)))))) (a1 : (List (Int × (Int × (Int × (List Int)))))) (v0_5 : Int) : St cxT.ty := { slots := [(.inl (.inl (ls { own := 0, nm := 0, e := 36, o := false, xs := a0 }))), (.inl (.inl (ls { own := 0, nm := 0, e := 36, o := false, xs := a1 }))), junk, junk, junk, (.inl (.inl (lv (.int .i64 v0_5))))] ++ List.replicate 21 junk, D := [], F := [], ctr := 1 }
def X56_0 (a0 : (List (Int × (Int × (Int × (List Int)))))) (a1 : (List (Int × (Int × (Int × (List Int)))))) : St cxT.ty := { slots := [] ++ List.replicate 27 junk, D := [], F := [], ctr := 1 }
theorem i56 (m94 : ((Int × Int × Int × (List Int)) × (Int × Int × Int × (List Int))) → Option Bool) (L : Nat) (a0 : (List (Int × (Int × (Int × (List Int)))))) (a1 : (List (Int × (Int × (Int × (List Int)))))) : evF prog (ev56 m94) (loopN L) f56 (a56.enc (a0, a1)) =
  bif ((Nat.cast (List.length a0) : Int) != (Nat.cast (List.length a1) : Int)) then some (n56 Bool.false)
  else headF prog (ev56 m94) L f56 0 [1, 1, 0, 1, 0, 0] (outK (outV prog f56) (topK prog (ev56 m94) L f56 [1, 1, 0, 1] (outV prog f56)).n (topK prog (ev56 m94) L f56 [1, 1, 0, 1] (outV prog f56)).x) L (S56_0 a0 a1 (0 : Int)) := by kernel_rfl
theorem r56_0 (m94 : ((Int × Int × Int × (List Int)) × (Int × Int × Int × (List Int))) → Option Bool) (L : Nat) (a0 : (List (Int × (Int × (Int × (List Int)))))) (a1 : (List (Int × (Int × (Int × (List Int)))))) (k : St cxT.ty → Option (V cxT.ty)) (xk : Nat → St cxT.ty → Option (V cxT.ty)) (g : St cxT.ty → Option (V cxT.ty)) (v0_5 : Int) : roundF prog (ev56 m94) L f56 0 [1, 1, 0, 1, 0, 0] (outK (outV prog f56) k xk) g (S56_0 a0 a1 v0_5) =
  bif (decide (v0_5 < (Nat.cast (List.length a0) : Int))) then bif ((decide ((0 : Int) ≤ v0_5)) && (decide (v0_5 < (Nat.cast (List.length a0) : Int)))) then bif ((decide ((0 : Int) ≤ v0_5)) && (decide (v0_5 < (Nat.cast (List.length a1) : Int)))) then tst (m94 (((List.getD a0 (Int.toNat v0_5) ((0 : Int), ((0 : Int), ((0 : Int), ([] : List (Int)))))).1, ((List.getD a0 (Int.toNat v0_5) ((0 : Int), ((0 : Int), ((0 : Int), ([] : List (Int)))))).2.1, ((List.getD a0 (Int.toNat v0_5) ((0 : Int), ((0 : Int), ((0 : Int), ([] : List (Int)))))).2.2.1, (List.getD a0 (Int.toNat v0_5) ((0 : Int), ((0 : Int), ((0 : Int), ([] : List (Int)))))).2.2.2))), ((List.getD a1 (Int.toNat v0_5) ((0 : Int), ((0 : Int), ((0 : Int), ([] : List (Int)))))).1, ((List.getD a1 (Int.toNat v0_5) ((0 : Int), ((0 : Int), ((0 : Int), ([] : List (Int)))))).2.1, ((List.getD a1 (Int.toNat v0_5) ((0 : Int), ((0 : Int), ((0 : Int), ([] : List (Int)))))).2.2.1, (List.getD a1 (Int.toNat v0_5) ((0 : Int), ((0 : Int), ((0 : Int), ([] : List (Int)))))).2.2.2))))) false fun (q4 : Bool) => bif (!q4) then some (n56 Bool.false)
          else g (S56_0 a0 a1 (Go.IntKind.wrap Go.IntKind.i64 (v0_5 + (1 : Int))))
      else none
    else none
  else k (X56_0 a0 a1) := by kernel_rfl
theorem t56_0 (m94 : ((Int × Int × Int × (List Int)) × (Int × Int × Int × (List Int))) → Option Bool) (L : Nat) (a0 : (List (Int × (Int × (Int × (List Int)))))) (a1 : (List (Int × (Int × (Int × (List Int)))))) : (topK prog (ev56 m94) L f56 [1, 1, 0, 1] (outV prog f56)).n (X56_0 a0 a1) =
  some (n56 Bool.true) := by kernel_rfl
def l56_0 (m94 : ((Int × Int × Int × (List Int)) × (Int × Int × Int × (List Int))) → Option Bool) (L : Nat) (a0 : (List (Int × (Int × (Int × (List Int)))))) (a1 : (List (Int × (Int × (Int × (List Int)))))) : Nat → Int → (Option Bool) → Option Bool
  | 0, _, _ => none
  | n + 1, v0_5, k =>
    bif (decide (v0_5 < (Nat.cast (List.length a0) : Int))) then bif ((decide ((0 : Int) ≤ v0_5)) && (decide (v0_5 < (Nat.cast (List.length a0) : Int)))) then bif ((decide ((0 : Int) ≤ v0_5)) && (decide (v0_5 < (Nat.cast (List.length a1) : Int)))) then tst (m94 (((List.getD a0 (Int.toNat v0_5) ((0 : Int), ((0 : Int), ((0 : Int), ([] : List (Int)))))).1, ((List.getD a0 (Int.toNat v0_5) ((0 : Int), ((0 : Int), ((0 : Int), ([] : List (Int)))))).2.1, ((List.getD a0 (Int.toNat v0_5) ((0 : Int), ((0 : Int), ((0 : Int), ([] : List (Int)))))).2.2.1, (List.getD a0 (Int.toNat v0_5) ((0 : Int), ((0 : Int), ((0 : Int), ([] : List (Int)))))).2.2.2))), ((List.getD a1 (Int.toNat v0_5) ((0 : Int), ((0 : Int), ((0 : Int), ([] : List (Int)))))).1, ((List.getD a1 (Int.toNat v0_5) ((0 : Int), ((0 : Int), ((0 : Int), ([] : List (Int)))))).2.1, ((List.getD a1 (Int.toNat v0_5) ((0 : Int), ((0 : Int), ((0 : Int), ([] : List (Int)))))).2.2.1, (List.getD a1 (Int.toNat v0_5) ((0 : Int), ((0 : Int), ((0 : Int), ([] : List (Int)))))).2.2.2))))) false fun (q5 : Bool) => bif (!q5) then some Bool.false
            else l56_0 m94 L a0 a1 n (Go.IntKind.wrap Go.IntKind.i64 (v0_5 + (1 : Int))) k
        else none
      else none
    else k
theorem h56_0 (m94 : ((Int × Int × Int × (List Int)) × (Int × Int × Int × (List Int))) → Option Bool) (L : Nat) (a0 : (List (Int × (Int × (Int × (List Int)))))) (a1 : (List (Int × (Int × (Int × (List Int)))))) (k : St cxT.ty → Option (V cxT.ty)) (xk : Nat → St cxT.ty → Option (V cxT.ty)) (k' : Option Bool) (hk : k (X56_0 a0 a1) = (k').map n56) : ∀ (n : Nat) (v0_5 : Int), headF prog (ev56 m94) L f56 0 [1, 1, 0, 1, 0, 0] (outK (outV prog f56) k xk) n (S56_0 a0 a1 v0_5) = (l56_0 m94 L a0 a1 n v0_5 k').map n56
  | 0, _ => rfl
  | n + 1, v0_5 => by
    rw [headF_round, r56_0]
    have ih := h56_0 m94 L a0 a1 k xk k' hk n
    simp only [l56_0, map_bif, map_tst, Option.map_some, Option.map_none, ih, hk]
def g56 (m94 : ((Int × Int × Int × (List Int)) × (Int × Int × Int × (List Int))) → Option Bool) (L : Nat) (a0 : (List (Int × (Int × (Int × (List Int)))))) (a1 : (List (Int × (Int × (Int × (List Int)))))) : Option Bool :=
  bif ((Nat.cast (List.length a0) : Int) != (Nat.cast (List.length a1) : Int)) then some Bool.false
  else l56_0 m94 L a0 a1 L (0 : Int) (some Bool.true)
theorem e56 (m94 : ((Int × Int × Int × (List Int)) × (Int × Int × Int × (List Int))) → Option Bool) (L : Nat) (a0 : (List (Int × (Int × (Int × (List Int)))))) (a1 : (List (Int × (Int × (Int × (List Int)))))) : evF prog (ev56 m94) (loopN L) f56 (a56.enc (a0, a1)) = (g56 m94 L a0 a1).map n56 := by
  let K'0 : Option Bool := (some Bool.true)
  have hin0 : ∀ (v0_5 : Int), headF prog (ev56 m94) L f56 0 [1, 1, 0, 1, 0, 0] (outK (outV prog f56) (topK prog (ev56 m94) L f56 [1, 1, 0, 1] (outV prog f56)).n (topK prog (ev56 m94) L f56 [1, 1, 0, 1] (outV prog f56)).x) L (S56_0 a0 a1 v0_5) = (l56_0 m94 L a0 a1 L v0_5 K'0).map n56 := fun v0_5 => h56_0 m94 L a0 a1 _ _ K'0 (by rw [t56_0]; simp only [K'0, map_bif, map_tst, Option.map_some, Option.map_none]) L v0_5
  rw [i56]; simp only [g56, map_bif, map_tst, Option.map_some, Option.map_none, hin0, K'0]
theorem s56 (m94 : ((Int × Int × Int × (List Int)) × (Int × Int × Int × (List Int))) → Option Bool) (h94 : Sat prog cxT 94 (c94 m94)) (m : ((List (Int × (Int × (Int × (List Int))))) × (List (Int × (Int × (Int × (List Int)))))) → Option Bool) (hm : ∀ (x : ((List (Int × (Int × (Int × (List Int))))) × (List (Int × (Int × (Int × (List Int))))))) t, m x = some t → ∃ L, g56 m94 L x.1 x.2 = some t) : Sat prog cxT 56 (c56 m) :=
  sat_t cxT_ok cxT_pok (by rfl) (fn := f56) rfl a56 n56 dd56 m (ev56 m94) (kok_cons h94 kok_nil) kwok_nil (fun L x => g56 m94 L x.1 x.2) (fun L x => e56 m94 L x.1 x.2) hm hs56
/-! loop.example/g00222/spec.l5At -/
def ev64 : Env cxT := { Kc := kcOf [], Kw := kwOf [], lv := fun i => if i = 0 then [(0, [none, some 38, some 36]), (1, []), (5, [])] else [], xv := fun i => if i = 0 then some [(0, [none, some 38, some 36])] else none }
def S64_0 (a0_0 : Int) (a0_1 : (List (Int × (Int × (Int × (Int × Bool)))))) (a0_2 : (List (Int × (Int × (Int × (List Int)))))) (a1 : Int) (v0_0_0 : Int) (v0_0_1 : (List (Int × (Int × (Int × (Int × Bool)))))) (v0_0_2 : (List (Int × (Int × (Int × (List Int)))))) (v0_5 : Int) : St cxT.ty := { slots := [(.inr (.inr { kind := 0, nm := 0, cells := [(lv (.int .i64 v0_0_0)), (ls { own := 0, nm := 0, e := 38, o := false, xs := v0_0_1 }), (ls { own := 0, nm := 0, e := 36, o := false, xs := v0_0_2 })], s := { own := 0, nm := 0, e := 0, o := false, xs := ([] : List (PUnit)) }, i := 0, off := 0 })), (.inl (.inl (lv (.int .i64 a1)))), junk, junk, junk, (.inl (.inl (lv (.int .i64 v0_5))))] ++ List.replicate 20 junk, D := [], F := [], ctr := 1, lo := 1 }
theorem i64 (L : Nat) (a0_0 : Int) (a0_1 : (List (Int × (Int × (Int × (Int × Bool)))))) (a0_2 : (List (Int × (Int × (Int × (List Int)))))) (a1 : Int) : evFP prog ev64 (loopN L) f64 (a64.enc ((a0_0, a0_1, a0_2), a1)) =
  headF prog ev64 L f64 0 [1, 0, 1, 0, 0] (outK (outP prog f64) (topK prog ev64 L f64 [1, 0, 1] (outP prog f64)).n (topK prog ev64 L f64 [1, 0, 1] (outP prog f64)).x) L (S64_0 a0_0 a0_1 a0_2 a1 a0_0 a0_1 a0_2 (0 : Int)) := by kernel_rfl
/-! slices.BinarySearchFunc[[]loop.example/g00222/impl.Backend,loop.example/g00222/impl.Backend,int64] -/
/-! loop.example/g00222/laws.eqVip -/
def ev94 (m117 : ((List Int) × (List Int)) → Option Bool) : Env cxT := { Kc := kcOf [(117, c117 m117)], Kw := kwOf [], lv := fun i => [], xv := fun i => none }
theorem i94 (m117 : ((List Int) × (List Int)) → Option Bool) (L : Nat) (a0_0 : Int) (a0_1 : Int) (a0_2 : Int) (a0_3 : (List Int)) (a1_0 : Int) (a1_1 : Int) (a1_2 : Int) (a1_3 : (List Int)) : evF prog (ev94 m117) (loopN L) f94 (a94.enc ((a0_0, a0_1, a0_2, a0_3), (a1_0, a1_1, a1_2, a1_3))) =
  bif (a0_0 != a1_0) then some (n94 Bool.false)
  else bif (a0_1 != a1_1) then some (n94 Bool.false)
  else bif (a0_2 != a1_2) then some (n94 Bool.false)
  else tst (m117 (a0_3, a1_3)) false fun (q1 : Bool) => bif (!q1) then some (n94 Bool.false)
    else some (n94 Bool.true) := by kernel_rfl
def g94 (m117 : ((List Int) × (List Int)) → Option Bool) (L : Nat) (a0_0 : Int) (a0_1 : Int) (a0_2 : Int) (a0_3 : (List Int)) (a1_0 : Int) (a1_1 : Int) (a1_2 : Int) (a1_3 : (List Int)) : Option Bool :=
  bif (a0_0 != a1_0) then some Bool.false
  else bif (a0_1 != a1_1) then some Bool.false
  else bif (a0_2 != a1_2) then some Bool.false
  else tst (m117 (a0_3, a1_3)) false fun (q1 : Bool) => bif (!q1) then some Bool.false
    else some Bool.true
theorem e94 (m117 : ((List Int) × (List Int)) → Option Bool) (L : Nat) (a0_0 : Int) (a0_1 : Int) (a0_2 : Int) (a0_3 : (List Int)) (a1_0 : Int) (a1_1 : Int) (a1_2 : Int) (a1_3 : (List Int)) : evF prog (ev94 m117) (loopN L) f94 (a94.enc ((a0_0, a0_1, a0_2, a0_3), (a1_0, a1_1, a1_2, a1_3))) = (g94 m117 L a0_0 a0_1 a0_2 a0_3 a1_0 a1_1 a1_2 a1_3).map n94 := by
  rw [i94]; simp only [g94, map_bif, map_tst, Option.map_some, Option.map_none]
theorem s94 (m117 : ((List Int) × (List Int)) → Option Bool) (h117 : Sat prog cxT 117 (c117 m117)) (m : ((Int × Int × Int × (List Int)) × (Int × Int × Int × (List Int))) → Option Bool) (hm : ∀ (x : ((Int × Int × Int × (List Int)) × (Int × Int × Int × (List Int)))) t, m x = some t → ∃ L, g94 m117 L x.1.1 x.1.2.1 x.1.2.2.1 x.1.2.2.2 x.2.1 x.2.2.1 x.2.2.2.1 x.2.2.2.2 = some t) : Sat prog cxT 94 (c94 m) :=
  sat_t cxT_ok cxT_pok (by rfl) (fn := f94) rfl a94 n94 dd94 m (ev94 m117) (kok_cons h117 kok_nil) kwok_nil (fun L x => g94 m117 L x.1.1 x.1.2.1 x.1.2.2.1 x.1.2.2.2 x.2.1 x.2.2.1 x.2.2.2.1 x.2.2.2.2) (fun L x => e94 m117 L x.1.1 x.1.2.1 x.1.2.2.1 x.1.2.2.2 x.2.1 x.2.2.1 x.2.2.2.1 x.2.2.2.2) hm hs94
/-! loop.example/g00222/spec.l5Behind -/
end Go.Proofs.Try
