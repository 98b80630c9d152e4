/- A part of the proof of FnExactUnpackCmd: L6Fc. -/
import Derived.Test.YthfopihmealhkaaL6Base
set_option maxHeartbeats 0
set_option maxRecDepth 100000
set_option linter.unusedVariables false
set_option linter.unusedSimpArgs false
namespace Go.Proofs.Try
open Go Go.VM Go.RowKit
/-! loop.example/g00222/impl.numberBytes -/
def ev112 : Env cxT := { Kc := kcOf [], Kw := kwOf [], lv := fun i => if i = 0 then [(0, []), (5, [some 5]), (11, []), (12, [])] else [], xv := fun i => if i = 0 then some [(5, [some 5])] else none }
def S112_0 (a0 : Int) (a1 : Int) (v0_5 : (List Int)) (v0_12 : Int) : St cxT.ty := { slots := [(.inl (.inl (lv (.int .u64 a0)))), junk, junk, junk, junk, (.inl (.inl (ls { own := 1, nm := 320, e := 5, o := true, xs := v0_5 }))), junk, junk, junk, junk, junk, (.inl (.inl (lv (.int .i64 (Nat.cast (List.length (List.replicate (Int.toNat a1) (0 : Int))) : Int))))), (.inl (.inl (lv (.int .i64 v0_12))))] ++ List.replicate 18 junk, D := [], F := [], ctr := 1 }
def X112_0 (a0 : Int) (a1 : Int) (w0_5 : (List Int)) : St cxT.ty := { slots := [junk, junk, junk, junk, junk, (.inl (.inl (ls { own := 1, nm := 320, e := 5, o := true, xs := w0_5 })))] ++ List.replicate 25 junk, D := [], F := [], ctr := 1 }
theorem i112 (L : Nat) (a0 : Int) (a1 : Int) : evF prog ev112 (loopN L) f112 (a112.enc (a0, a1)) =
  bif (((decide ((0 : Int) ≤ a1)) && (decide (a1 ≤ a1))) && (decide (a1 ≤ (1000000000 : Int)))) then headF prog ev112 L f112 0 [1, 1, 0, 1, 0, 0] (outK (outV prog f112) (topK prog ev112 L f112 [1, 1, 0, 1] (outV prog f112)).n (topK prog ev112 L f112 [1, 1, 0, 1] (outV prog f112)).x) L (S112_0 a0 a1 (List.replicate (Int.toNat a1) (0 : Int)) (0 : Int))
  else none := by kernel_rfl
theorem r112_0 (L : Nat) (a0 : Int) (a1 : Int) (k : St cxT.ty → Option (V cxT.ty)) (xk : Nat → St cxT.ty → Option (V cxT.ty)) (g : St cxT.ty → Option (V cxT.ty)) (v0_5 : (List Int)) (v0_12 : Int) : roundF prog ev112 L f112 0 [1, 1, 0, 1, 0, 0] (outK (outV prog f112) k xk) g (S112_0 a0 a1 v0_5 v0_12) =
  bif (decide (v0_12 < (Nat.cast (List.length (List.replicate (Int.toNat a1) (0 : Int))) : Int))) then bif (decide ((Go.IntKind.wrap Go.IntKind.u64 ((8 : Int) * (Go.IntKind.wrap Go.IntKind.u64 (Go.IntKind.wrap Go.IntKind.i64 ((Go.IntKind.wrap Go.IntKind.i64 ((Nat.cast (List.length v0_5) : Int) - (1 : Int))) - v0_12))))) < (0 : Int))) then none
    else bif ((decide ((0 : Int) ≤ v0_12)) && (decide (v0_12 < (Nat.cast (List.length v0_5) : Int)))) then g (S112_0 a0 a1 (List.set v0_5 (Int.toNat v0_12) (Go.IntKind.wrap Go.IntKind.u8 (Int.fdiv a0 ((2 : Int) ^ (min (Int.toNat (Go.IntKind.wrap Go.IntKind.u64 ((8 : Int) * (Go.IntKind.wrap Go.IntKind.u64 (Go.IntKind.wrap Go.IntKind.i64 ((Go.IntKind.wrap Go.IntKind.i64 ((Nat.cast (List.length v0_5) : Int) - (1 : Int))) - v0_12)))))) (Go.IntKind.bits Go.IntKind.u64)))))) (Go.IntKind.wrap Go.IntKind.i64 (v0_12 + (1 : Int))))
    else none
  else k (X112_0 a0 a1 v0_5) := by kernel_rfl
theorem t112_0 (L : Nat) (a0 : Int) (a1 : Int) (w0_5 : (List Int)) : (topK prog ev112 L f112 [1, 1, 0, 1] (outV prog f112)).n (X112_0 a0 a1 w0_5) =
  some (n112 w0_5) := by kernel_rfl
def l112_0 (L : Nat) (a0 : Int) (a1 : Int) : Nat → (List Int) → Int → ((List Int) → Option (List Int)) → Option (List Int)
  | 0, _, _, _ => none
  | n + 1, v0_5, v0_12, k =>
    bif (decide (v0_12 < (Nat.cast (List.length (List.replicate (Int.toNat a1) (0 : Int))) : Int))) then bif (decide ((Go.IntKind.wrap Go.IntKind.u64 ((8 : Int) * (Go.IntKind.wrap Go.IntKind.u64 (Go.IntKind.wrap Go.IntKind.i64 ((Go.IntKind.wrap Go.IntKind.i64 ((Nat.cast (List.length v0_5) : Int) - (1 : Int))) - v0_12))))) < (0 : Int))) then none
      else bif ((decide ((0 : Int) ≤ v0_12)) && (decide (v0_12 < (Nat.cast (List.length v0_5) : Int)))) then l112_0 L a0 a1 n (List.set v0_5 (Int.toNat v0_12) (Go.IntKind.wrap Go.IntKind.u8 (Int.fdiv a0 ((2 : Int) ^ (min (Int.toNat (Go.IntKind.wrap Go.IntKind.u64 ((8 : Int) * (Go.IntKind.wrap Go.IntKind.u64 (Go.IntKind.wrap Go.IntKind.i64 ((Go.IntKind.wrap Go.IntKind.i64 ((Nat.cast (List.length v0_5) : Int) - (1 : Int))) - v0_12)))))) (Go.IntKind.bits Go.IntKind.u64)))))) (Go.IntKind.wrap Go.IntKind.i64 (v0_12 + (1 : Int))) k
      else none
    else k v0_5
theorem h112_0 (L : Nat) (a0 : Int) (a1 : Int) (k : St cxT.ty → Option (V cxT.ty)) (xk : Nat → St cxT.ty → Option (V cxT.ty)) (k' : (List Int) → Option (List Int)) (hk : ∀ (w0_5 : (List Int)), k (X112_0 a0 a1 w0_5) = (k' w0_5).map n112) : ∀ (n : Nat) (v0_5 : (List Int)) (v0_12 : Int), headF prog ev112 L f112 0 [1, 1, 0, 1, 0, 0] (outK (outV prog f112) k xk) n (S112_0 a0 a1 v0_5 v0_12) = (l112_0 L a0 a1 n v0_5 v0_12 k').map n112
  | 0, _, _ => rfl
  | n + 1, v0_5, v0_12 => by
    rw [headF_round, r112_0]
    have ih := h112_0 L a0 a1 k xk k' hk n
    simp only [l112_0, map_bif, map_tst, map_bnd, Option.map_some, Option.map_none, ih, hk]
def g112 (L : Nat) (a0 : Int) (a1 : Int) : Option (List Int) :=
  bif (((decide ((0 : Int) ≤ a1)) && (decide (a1 ≤ a1))) && (decide (a1 ≤ (1000000000 : Int)))) then l112_0 L a0 a1 L (List.replicate (Int.toNat a1) (0 : Int)) (0 : Int) (fun (w0_5 : (List Int)) => some w0_5)
  else none
theorem e112 (L : Nat) (a0 : Int) (a1 : Int) : evF prog ev112 (loopN L) f112 (a112.enc (a0, a1)) = (g112 L a0 a1).map n112 := by
  let K'0 : (List Int) → Option (List Int) := (fun (w0_5 : (List Int)) => some w0_5)
  have hin0 : ∀ (v0_5 : (List Int)) (v0_12 : Int), headF prog ev112 L f112 0 [1, 1, 0, 1, 0, 0] (outK (outV prog f112) (topK prog ev112 L f112 [1, 1, 0, 1] (outV prog f112)).n (topK prog ev112 L f112 [1, 1, 0, 1] (outV prog f112)).x) L (S112_0 a0 a1 v0_5 v0_12) = (l112_0 L a0 a1 L v0_5 v0_12 K'0).map n112 := fun v0_5 v0_12 => h112_0 L a0 a1 _ _ K'0 (fun w0_5 => by rw [t112_0]; simp only [K'0, map_bif, map_tst, map_bnd, Option.map_some, Option.map_none]) L v0_5 v0_12
  rw [i112]; simp only [g112, map_bif, map_tst, map_bnd, Option.map_some, Option.map_none, hin0, K'0]
theorem s112 (m : (Int × Int) → Option (List Int)) (hm : ∀ (x : (Int × Int)) t, m x = some t → ∃ L, g112 L x.1 x.2 = some t) : Sat prog cxT 112 (c112 m) :=
  sat_t cxT_ok cxT_pok (by rfl) (fn := f112) rfl a112 n112 dd112 m ev112 kok_nil kwok_nil (fun L x => g112 L x.1 x.2) (fun L x => e112 L x.1 x.2) hm hs112
/-! loop.example/g00222/impl.packNumber -/
def ev60 (m112 : (Int × Int) → Option (List Int)) : Env cxT := { Kc := kcOf [(112, c112 m112)], Kw := kwOf [], lv := fun i => [], xv := fun i => none }
theorem i60 (m112 : (Int × Int) → Option (List Int)) (L : Nat) (a0 : Int) (a1 : Int) : evF prog (ev60 m112) (loopN L) f60 (a60.enc (a0, a1)) =
  tst (m112 ((Go.IntKind.wrap Go.IntKind.u64 a0), a1)) [] fun (q1 : (List Int)) => some (n60 q1) := by kernel_rfl
def g60 (m112 : (Int × Int) → Option (List Int)) (L : Nat) (a0 : Int) (a1 : Int) : Option (List Int) :=
  tst (m112 ((Go.IntKind.wrap Go.IntKind.u64 a0), a1)) [] fun (q1 : (List Int)) => some q1
theorem e60 (m112 : (Int × Int) → Option (List Int)) (L : Nat) (a0 : Int) (a1 : Int) : evF prog (ev60 m112) (loopN L) f60 (a60.enc (a0, a1)) = (g60 m112 L a0 a1).map n60 := by
  rw [i60]; simp only [g60, map_bif, map_tst, map_bnd, Option.map_some, Option.map_none]
theorem s60 (m112 : (Int × Int) → Option (List Int)) (h112 : Sat prog cxT 112 (c112 m112)) (m : (Int × Int) → Option (List Int)) (hm : ∀ (x : (Int × Int)) t, m x = some t → ∃ L, g60 m112 L x.1 x.2 = some t) : Sat prog cxT 60 (c60 m) :=
  sat_t cxT_ok cxT_pok (by rfl) (fn := f60) rfl a60 n60 dd60 m (ev60 m112) (kok_cons h112 kok_nil) kwok_nil (fun L x => g60 m112 L x.1 x.2) (fun L x => e60 m112 L x.1 x.2) hm hs60
/-! loop.example/g00222/impl.packName -/
def ev61 (m60 : (Int × Int) → Option (List Int)) : Env cxT := { Kc := kcOf [(60, c60 m60)], Kw := kwOf [], lv := fun i => [], xv := fun i => none }
theorem i61 (m60 : (Int × Int) → Option (List Int)) (L : Nat) (a0 : Int) : evF prog (ev61 m60) (loopN L) f61 (a61.enc a0) =
  tst (m60 (a0, (2 : Int))) [] fun (q1 : (List Int)) => some (n61 q1) := by kernel_rfl
def g61 (m60 : (Int × Int) → Option (List Int)) (L : Nat) (a0 : Int) : Option (List Int) :=
  tst (m60 (a0, (2 : Int))) [] fun (q1 : (List Int)) => some q1
theorem e61 (m60 : (Int × Int) → Option (List Int)) (L : Nat) (a0 : Int) : evF prog (ev61 m60) (loopN L) f61 (a61.enc a0) = (g61 m60 L a0).map n61 := by
  rw [i61]; simp only [g61, map_bif, map_tst, map_bnd, Option.map_some, Option.map_none]
theorem s61 (m60 : (Int × Int) → Option (List Int)) (h60 : Sat prog cxT 60 (c60 m60)) (m : Int → Option (List Int)) (hm : ∀ (x : Int) t, m x = some t → ∃ L, g61 m60 L x = some t) : Sat prog cxT 61 (c61 m) :=
  sat_t cxT_ok cxT_pok (by rfl) (fn := f61) rfl a61 n61 dd61 m (ev61 m60) (kok_cons h60 kok_nil) kwok_nil (fun L x => g61 m60 L x) (fun L x => e61 m60 L x) hm hs61
/-! loop.example/g00222/impl.joinPieces -/
def ev59 : Env cxT := { Kc := kcOf [], Kw := kwOf [], lv := fun i => if i = 0 then [(3, [some 5]), (6, [some 22]), (7, []), (8, [])] else [], xv := fun i => if i = 0 then some [(3, [some 5])] else none }
def S59_0 (a0 : (List (List Int))) (v0_3 : (List Int)) (v0_8 : Int) : St cxT.ty := { slots := [junk, junk, junk, (.inl (.inl (ls { own := 1, nm := 192, e := 5, o := true, xs := v0_3 }))), junk, junk, (.inl (.inl (ls { own := 0, nm := 0, e := 22, o := false, xs := a0 }))), (.inl (.inl (lv (.int .i64 (Nat.cast (List.length a0) : Int))))), (.inl (.inl (lv (.int .i64 v0_8))))] ++ List.replicate 8 junk, D := [], F := [], ctr := 1 }
def X59_0 (a0 : (List (List Int))) (w0_3 : (List Int)) : St cxT.ty := { slots := [junk, junk, junk, (.inl (.inl (ls { own := 1, nm := 192, e := 5, o := true, xs := w0_3 })))] ++ List.replicate 13 junk, D := [], F := [], ctr := 1 }
theorem i59 (L : Nat) (a0 : (List (List Int))) : evF prog ev59 (loopN L) f59 (a59.enc a0) =
  headF prog ev59 L f59 0 [1, 1, 0, 1, 0, 0] (outK (outV prog f59) (topK prog ev59 L f59 [1, 1, 0, 1] (outV prog f59)).n (topK prog ev59 L f59 [1, 1, 0, 1] (outV prog f59)).x) L (S59_0 a0 ([] : List (Int)) (0 : Int)) := by kernel_rfl
theorem r59_0 (L : Nat) (a0 : (List (List Int))) (k : St cxT.ty → Option (V cxT.ty)) (xk : Nat → St cxT.ty → Option (V cxT.ty)) (g : St cxT.ty → Option (V cxT.ty)) (v0_3 : (List Int)) (v0_8 : Int) : roundF prog ev59 L f59 0 [1, 1, 0, 1, 0, 0] (outK (outV prog f59) k xk) g (S59_0 a0 v0_3 v0_8) =
  bif (decide (v0_8 < (Nat.cast (List.length a0) : Int))) then bif ((decide ((0 : Int) ≤ v0_8)) && (decide (v0_8 < (Nat.cast (List.length a0) : Int)))) then bif (decide (((List.length v0_3) + (List.length (List.getD a0 (Int.toNat v0_8) ([] : List (Int))))) ≤ (1000000000 : Nat))) then g (S59_0 a0 (v0_3 ++ (List.getD a0 (Int.toNat v0_8) ([] : List (Int)))) (Go.IntKind.wrap Go.IntKind.i64 (v0_8 + (1 : Int))))
      else none
    else none
  else k (X59_0 a0 v0_3) := by kernel_rfl
theorem t59_0 (L : Nat) (a0 : (List (List Int))) (w0_3 : (List Int)) : (topK prog ev59 L f59 [1, 1, 0, 1] (outV prog f59)).n (X59_0 a0 w0_3) =
  some (n59 w0_3) := by kernel_rfl
def l59_0 (L : Nat) (a0 : (List (List Int))) : Nat → (List Int) → Int → ((List Int) → Option (List Int)) → Option (List Int)
  | 0, _, _, _ => none
  | n + 1, v0_3, v0_8, k =>
    bif (decide (v0_8 < (Nat.cast (List.length a0) : Int))) then bif ((decide ((0 : Int) ≤ v0_8)) && (decide (v0_8 < (Nat.cast (List.length a0) : Int)))) then bif (decide (((List.length v0_3) + (List.length (List.getD a0 (Int.toNat v0_8) ([] : List (Int))))) ≤ (1000000000 : Nat))) then l59_0 L a0 n (v0_3 ++ (List.getD a0 (Int.toNat v0_8) ([] : List (Int)))) (Go.IntKind.wrap Go.IntKind.i64 (v0_8 + (1 : Int))) k
        else none
      else none
    else k v0_3
theorem h59_0 (L : Nat) (a0 : (List (List Int))) (k : St cxT.ty → Option (V cxT.ty)) (xk : Nat → St cxT.ty → Option (V cxT.ty)) (k' : (List Int) → Option (List Int)) (hk : ∀ (w0_3 : (List Int)), k (X59_0 a0 w0_3) = (k' w0_3).map n59) : ∀ (n : Nat) (v0_3 : (List Int)) (v0_8 : Int), headF prog ev59 L f59 0 [1, 1, 0, 1, 0, 0] (outK (outV prog f59) k xk) n (S59_0 a0 v0_3 v0_8) = (l59_0 L a0 n v0_3 v0_8 k').map n59
  | 0, _, _ => rfl
  | n + 1, v0_3, v0_8 => by
    rw [headF_round, r59_0]
    have ih := h59_0 L a0 k xk k' hk n
    simp only [l59_0, map_bif, map_tst, map_bnd, Option.map_some, Option.map_none, ih, hk]
def g59 (L : Nat) (a0 : (List (List Int))) : Option (List Int) :=
  l59_0 L a0 L ([] : List (Int)) (0 : Int) (fun (w0_3 : (List Int)) => some w0_3)
theorem e59 (L : Nat) (a0 : (List (List Int))) : evF prog ev59 (loopN L) f59 (a59.enc a0) = (g59 L a0).map n59 := by
  let K'0 : (List Int) → Option (List Int) := (fun (w0_3 : (List Int)) => some w0_3)
  have hin0 : ∀ (v0_3 : (List Int)) (v0_8 : Int), headF prog ev59 L f59 0 [1, 1, 0, 1, 0, 0] (outK (outV prog f59) (topK prog ev59 L f59 [1, 1, 0, 1] (outV prog f59)).n (topK prog ev59 L f59 [1, 1, 0, 1] (outV prog f59)).x) L (S59_0 a0 v0_3 v0_8) = (l59_0 L a0 L v0_3 v0_8 K'0).map n59 := fun v0_3 v0_8 => h59_0 L a0 _ _ K'0 (fun w0_3 => by rw [t59_0]; simp only [K'0, map_bif, map_tst, map_bnd, Option.map_some, Option.map_none]) L v0_3 v0_8
  rw [i59]; simp only [g59, map_bif, map_tst, map_bnd, Option.map_some, Option.map_none, hin0, K'0]
theorem s59 (m : (List (List Int)) → Option (List Int)) (hm : ∀ (x : (List (List Int))) t, m x = some t → ∃ L, g59 L x = some t) : Sat prog cxT 59 (c59 m) :=
  sat_t cxT_ok cxT_pok (by rfl) (fn := f59) rfl a59 n59 dd59 m ev59 kok_nil kwok_nil (fun L x => g59 L x) (fun L x => e59 L x) hm hs59
/-! loop.example/g00222/impl.stateNumber -/
/-! loop.example/g00222/impl.packBackend -/
/-! loop.example/g00222/impl.packList[int64] -/
/-! loop.example/g00222/impl.packVip -/
/-! loop.example/g00222/impl.packList[loop.example/g00222/impl.Backend] -/
/-! loop.example/g00222/impl.packList[loop.example/g00222/impl.Vip] -/
/-! loop.example/g00222/impl.PackConfig -/
/-! loop.example/g00222/spec.l1Bytes -/
/-! loop.example/g00222/spec.l6Config -/
/-! loop.example/g00222/spec.PackConfig -/
/-! loop.example/g00222/laws.FnExactPackConfig -/
def ev6 (m27 : ((Int × (List (Int × (Int × (Int × (Int × Bool))))) × (List (Int × (Int × (Int × (List Int)))))) × Int) → Option Int) (m29 : (Int × (List (Int × (Int × (Int × (Int × Bool))))) × (List (Int × (Int × (Int × (List Int)))))) → Option (Int × (List (Int × (Int × (Int × (Int × Bool))))) × (List (Int × (Int × (Int × (List Int))))))) (m28 : (Int × (List (Int × (Int × (Int × (Int × Bool))))) × (List (Int × (Int × (Int × (List Int)))))) → Option (Int × (List Int))) (m30 : (Int × (List (Int × (Int × (Int × (Int × Bool))))) × (List (Int × (Int × (Int × (List Int)))))) → Option (Int × (List Int))) (m19 : ((Int × (List Int)) × (Int × (List Int))) → Option Bool) (m31 : ((Int × (List (Int × (Int × (Int × (Int × Bool))))) × (List (Int × (Int × (Int × (List Int)))))) × (Int × (List (Int × (Int × (Int × (Int × Bool))))) × (List (Int × (Int × (Int × (List Int))))))) → Option Bool) (m32 : ((Int × (List (Int × (Int × (Int × (Int × Bool))))) × (List (Int × (Int × (Int × (List Int)))))) × Int) → Option (Int × Int × (List (Int × (Int × (Int × (Int × Bool))))) × (List (Int × (Int × (Int × (List Int))))))) (m20 : ((Int × (List Int)) × Int) → Option (Int × Int × (List Int))) (m21 : ((Int × (List Int)) × Int) → Option Int) : Env cxT := { Kc := kcOf [(27, c27 m27), (29, c29 m29), (28, c28 m28), (30, c30 m30), (19, c19 m19), (31, c31 m31), (21, c21 m21)], Kw := kwOf [(32, c32 m32), (20, c20 m20)], lv := fun i => [], xv := fun i => none }
theorem i6 (m27 : ((Int × (List (Int × (Int × (Int × (Int × Bool))))) × (List (Int × (Int × (Int × (List Int)))))) × Int) → Option Int) (m29 : (Int × (List (Int × (Int × (Int × (Int × Bool))))) × (List (Int × (Int × (Int × (List Int)))))) → Option (Int × (List (Int × (Int × (Int × (Int × Bool))))) × (List (Int × (Int × (Int × (List Int))))))) (m28 : (Int × (List (Int × (Int × (Int × (Int × Bool))))) × (List (Int × (Int × (Int × (List Int)))))) → Option (Int × (List Int))) (m30 : (Int × (List (Int × (Int × (Int × (Int × Bool))))) × (List (Int × (Int × (Int × (List Int)))))) → Option (Int × (List Int))) (m19 : ((Int × (List Int)) × (Int × (List Int))) → Option Bool) (m31 : ((Int × (List (Int × (Int × (Int × (Int × Bool))))) × (List (Int × (Int × (Int × (List Int)))))) × (Int × (List (Int × (Int × (Int × (Int × Bool))))) × (List (Int × (Int × (Int × (List Int))))))) → Option Bool) (m32 : ((Int × (List (Int × (Int × (Int × (Int × Bool))))) × (List (Int × (Int × (Int × (List Int)))))) × Int) → Option (Int × Int × (List (Int × (Int × (Int × (Int × Bool))))) × (List (Int × (Int × (Int × (List Int))))))) (m20 : ((Int × (List Int)) × Int) → Option (Int × Int × (List Int))) (m21 : ((Int × (List Int)) × Int) → Option Int) (L : Nat) (a0_0 : Int) (a0_1 : (List (Int × (Int × (Int × (Int × Bool)))))) (a0_2 : (List (Int × (Int × (Int × (List Int)))))) : evFL prog (ev6 m27 m29 m28 m30 m19 m31 m32 m20 m21) (loopN L) f6 (a6.enc (a0_0, a0_1, a0_2)) =
  tst (m27 (((a0_0, (a0_1, a0_2)).1, ((a0_0, (a0_1, a0_2)).2.1, (a0_0, (a0_1, a0_2)).2.2)), (1048576 : Int))) (0 : Int) fun (q1 : Int) => bif (decide (q1 < (0 : Int))) then some (n6 Bool.true)
    else tst (m29 ((a0_0, (a0_1, a0_2)).1, ((a0_0, (a0_1, a0_2)).2.1, (a0_0, (a0_1, a0_2)).2.2))) ((0 : Int), [], []) fun (q2 : (Int × (List (Int × (Int × (Int × (Int × Bool))))) × (List (Int × (Int × (Int × (List Int))))))) => tst (m28 (q2.1, (q2.2.1, q2.2.2))) ((0 : Int), []) fun (q3 : (Int × (List Int))) => tst (m29 ((a0_0, (a0_1, a0_2)).1, ((a0_0, (a0_1, a0_2)).2.1, (a0_0, (a0_1, a0_2)).2.2))) ((0 : Int), [], []) fun (q4 : (Int × (List (Int × (Int × (Int × (Int × Bool))))) × (List (Int × (Int × (Int × (List Int))))))) => tst (m30 (q2.1, (q2.2.1, q2.2.2))) ((0 : Int), []) fun (q5 : (Int × (List Int))) => tst (m19 ((q5.1, q5.2), (q3.1, q3.2))) false fun (q6 : Bool) => bif (!q6) then some (n6 Bool.false)
              else tst (m29 ((a0_0, (a0_1, a0_2)).1, ((a0_0, (a0_1, a0_2)).2.1, (a0_0, (a0_1, a0_2)).2.2))) ((0 : Int), [], []) fun (q7 : (Int × (List (Int × (Int × (Int × (Int × Bool))))) × (List (Int × (Int × (Int × (List Int))))))) => tst (m31 ((q2.1, (q2.2.1, q2.2.2)), (q2.1, (q2.2.1, q2.2.2)))) false fun (q8 : Bool) => bif (!q8) then some (n6 Bool.false)
                  else tst (m32 ((q2.1, (q2.2.1, q2.2.2)), (1 : Int))) ((0 : Int), (0 : Int), [], []) fun (q9 : (Int × Int × (List (Int × (Int × (Int × (Int × Bool))))) × (List (Int × (Int × (Int × (List Int))))))) => bif (decide (q9.1 < (0 : Int))) then some (n6 Bool.false)
                    else tst (m19 ((q5.1, q5.2), (q3.1, q3.2))) false fun (q10 : Bool) => bif (!q6) then some (n6 Bool.false)
                      else tst (m20 ((q5.1, q5.2), (1 : Int))) ((0 : Int), (0 : Int), []) fun (q11 : (Int × Int × (List Int))) => tst (m21 ((q5.1, q11.2.2), (1 : Int))) (0 : Int) fun (q12 : Int) => bif (decide (q12 < (0 : Int))) then some (n6 Bool.false)
                          else bif (q12 != q11.1) then some (n6 Bool.false)
                          else tst (m29 ((a0_0, (a0_1, a0_2)).1, ((a0_0, (a0_1, a0_2)).2.1, (a0_0, (a0_1, a0_2)).2.2))) ((0 : Int), [], []) fun (q13 : (Int × (List (Int × (Int × (Int × (Int × Bool))))) × (List (Int × (Int × (Int × (List Int))))))) => tst (m30 (q2.1, (q2.2.1, q2.2.2))) ((0 : Int), []) fun (q14 : (Int × (List Int))) => tst (m19 ((q5.1, q5.2), (q3.1, q3.2))) false fun (q15 : Bool) => bif (!q6) then some (n6 Bool.false)
                                else tst (m21 ((q5.1, q11.2.2), (1 : Int))) (0 : Int) fun (q16 : Int) => bif (decide (q12 < (0 : Int))) then some (n6 Bool.false)
                                  else bif (q12 != q11.1) then some (n6 Bool.false)
                                  else some (n6 Bool.true) := by kernel_rfl
def g6 (m27 : ((Int × (List (Int × (Int × (Int × (Int × Bool))))) × (List (Int × (Int × (Int × (List Int)))))) × Int) → Option Int) (m29 : (Int × (List (Int × (Int × (Int × (Int × Bool))))) × (List (Int × (Int × (Int × (List Int)))))) → Option (Int × (List (Int × (Int × (Int × (Int × Bool))))) × (List (Int × (Int × (Int × (List Int))))))) (m28 : (Int × (List (Int × (Int × (Int × (Int × Bool))))) × (List (Int × (Int × (Int × (List Int)))))) → Option (Int × (List Int))) (m30 : (Int × (List (Int × (Int × (Int × (Int × Bool))))) × (List (Int × (Int × (Int × (List Int)))))) → Option (Int × (List Int))) (m19 : ((Int × (List Int)) × (Int × (List Int))) → Option Bool) (m31 : ((Int × (List (Int × (Int × (Int × (Int × Bool))))) × (List (Int × (Int × (Int × (List Int)))))) × (Int × (List (Int × (Int × (Int × (Int × Bool))))) × (List (Int × (Int × (Int × (List Int))))))) → Option Bool) (m32 : ((Int × (List (Int × (Int × (Int × (Int × Bool))))) × (List (Int × (Int × (Int × (List Int)))))) × Int) → Option (Int × Int × (List (Int × (Int × (Int × (Int × Bool))))) × (List (Int × (Int × (Int × (List Int))))))) (m20 : ((Int × (List Int)) × Int) → Option (Int × Int × (List Int))) (m21 : ((Int × (List Int)) × Int) → Option Int) (L : Nat) (a0_0 : Int) (a0_1 : (List (Int × (Int × (Int × (Int × Bool)))))) (a0_2 : (List (Int × (Int × (Int × (List Int)))))) : Option Bool :=
  tst (m27 (((a0_0, (a0_1, a0_2)).1, ((a0_0, (a0_1, a0_2)).2.1, (a0_0, (a0_1, a0_2)).2.2)), (1048576 : Int))) (0 : Int) fun (q1 : Int) => bif (decide (q1 < (0 : Int))) then some Bool.true
    else tst (m29 ((a0_0, (a0_1, a0_2)).1, ((a0_0, (a0_1, a0_2)).2.1, (a0_0, (a0_1, a0_2)).2.2))) ((0 : Int), [], []) fun (q2 : (Int × (List (Int × (Int × (Int × (Int × Bool))))) × (List (Int × (Int × (Int × (List Int))))))) => tst (m28 (q2.1, (q2.2.1, q2.2.2))) ((0 : Int), []) fun (q3 : (Int × (List Int))) => tst (m29 ((a0_0, (a0_1, a0_2)).1, ((a0_0, (a0_1, a0_2)).2.1, (a0_0, (a0_1, a0_2)).2.2))) ((0 : Int), [], []) fun (q4 : (Int × (List (Int × (Int × (Int × (Int × Bool))))) × (List (Int × (Int × (Int × (List Int))))))) => tst (m30 (q2.1, (q2.2.1, q2.2.2))) ((0 : Int), []) fun (q5 : (Int × (List Int))) => tst (m19 ((q5.1, q5.2), (q3.1, q3.2))) false fun (q6 : Bool) => bif (!q6) then some Bool.false
              else tst (m29 ((a0_0, (a0_1, a0_2)).1, ((a0_0, (a0_1, a0_2)).2.1, (a0_0, (a0_1, a0_2)).2.2))) ((0 : Int), [], []) fun (q7 : (Int × (List (Int × (Int × (Int × (Int × Bool))))) × (List (Int × (Int × (Int × (List Int))))))) => tst (m31 ((q2.1, (q2.2.1, q2.2.2)), (q2.1, (q2.2.1, q2.2.2)))) false fun (q8 : Bool) => bif (!q8) then some Bool.false
                  else tst (m32 ((q2.1, (q2.2.1, q2.2.2)), (1 : Int))) ((0 : Int), (0 : Int), [], []) fun (q9 : (Int × Int × (List (Int × (Int × (Int × (Int × Bool))))) × (List (Int × (Int × (Int × (List Int))))))) => bif (decide (q9.1 < (0 : Int))) then some Bool.false
                    else tst (m19 ((q5.1, q5.2), (q3.1, q3.2))) false fun (q10 : Bool) => bif (!q6) then some Bool.false
                      else tst (m20 ((q5.1, q5.2), (1 : Int))) ((0 : Int), (0 : Int), []) fun (q11 : (Int × Int × (List Int))) => tst (m21 ((q5.1, q11.2.2), (1 : Int))) (0 : Int) fun (q12 : Int) => bif (decide (q12 < (0 : Int))) then some Bool.false
                          else bif (q12 != q11.1) then some Bool.false
                          else tst (m29 ((a0_0, (a0_1, a0_2)).1, ((a0_0, (a0_1, a0_2)).2.1, (a0_0, (a0_1, a0_2)).2.2))) ((0 : Int), [], []) fun (q13 : (Int × (List (Int × (Int × (Int × (Int × Bool))))) × (List (Int × (Int × (Int × (List Int))))))) => tst (m30 (q2.1, (q2.2.1, q2.2.2))) ((0 : Int), []) fun (q14 : (Int × (List Int))) => tst (m19 ((q5.1, q5.2), (q3.1, q3.2))) false fun (q15 : Bool) => bif (!q6) then some Bool.false
                                else tst (m21 ((q5.1, q11.2.2), (1 : Int))) (0 : Int) fun (q16 : Int) => bif (decide (q12 < (0 : Int))) then some Bool.false
                                  else bif (q12 != q11.1) then some Bool.false
                                  else some Bool.true
theorem e6 (m27 : ((Int × (List (Int × (Int × (Int × (Int × Bool))))) × (List (Int × (Int × (Int × (List Int)))))) × Int) → Option Int) (m29 : (Int × (List (Int × (Int × (Int × (Int × Bool))))) × (List (Int × (Int × (Int × (List Int)))))) → Option (Int × (List (Int × (Int × (Int × (Int × Bool))))) × (List (Int × (Int × (Int × (List Int))))))) (m28 : (Int × (List (Int × (Int × (Int × (Int × Bool))))) × (List (Int × (Int × (Int × (List Int)))))) → Option (Int × (List Int))) (m30 : (Int × (List (Int × (Int × (Int × (Int × Bool))))) × (List (Int × (Int × (Int × (List Int)))))) → Option (Int × (List Int))) (m19 : ((Int × (List Int)) × (Int × (List Int))) → Option Bool) (m31 : ((Int × (List (Int × (Int × (Int × (Int × Bool))))) × (List (Int × (Int × (Int × (List Int)))))) × (Int × (List (Int × (Int × (Int × (Int × Bool))))) × (List (Int × (Int × (Int × (List Int))))))) → Option Bool) (m32 : ((Int × (List (Int × (Int × (Int × (Int × Bool))))) × (List (Int × (Int × (Int × (List Int)))))) × Int) → Option (Int × Int × (List (Int × (Int × (Int × (Int × Bool))))) × (List (Int × (Int × (Int × (List Int))))))) (m20 : ((Int × (List Int)) × Int) → Option (Int × Int × (List Int))) (m21 : ((Int × (List Int)) × Int) → Option Int) (L : Nat) (a0_0 : Int) (a0_1 : (List (Int × (Int × (Int × (Int × Bool)))))) (a0_2 : (List (Int × (Int × (Int × (List Int)))))) : evFL prog (ev6 m27 m29 m28 m30 m19 m31 m32 m20 m21) (loopN L) f6 (a6.enc (a0_0, a0_1, a0_2)) = (g6 m27 m29 m28 m30 m19 m31 m32 m20 m21 L a0_0 a0_1 a0_2).map n6 := by
  rw [i6]; simp only [g6, map_bif, map_tst, map_bnd, Option.map_some, Option.map_none]
end Go.Proofs.Try
