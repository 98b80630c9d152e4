/- A part of the proof of FnExactSharesFor: L5Fa, L5Fb, L5Fc. -/
import Derived.Test.YtfncedbejffggaaL5Base
set_option maxHeartbeats 0
set_option maxRecDepth 100000
set_option linter.unusedVariables false
set_option linter.unusedSimpArgs false
namespace Go.Proofs.Try
open Go Go.VM Go.RowKit
/-! loop.example/g00222/spec.l1In -/
def ev41 : Env cxT := { Kc := kcOf [], Kw := kwOf [], lv := fun i => [], xv := fun i => none }
theorem i41 (L : Nat) (a0 : Int) (a1 : Int) (a2 : Int) : evF prog ev41 (loopN L) f41 (a41.enc (a0, a1, a2)) =
  bif (decide (a0 ≥ a1)) then some (n41 (decide (a0 ≤ a2)))
  else some (n41 Bool.false) := by kernel_rfl
def g41 (L : Nat) (a0 : Int) (a1 : Int) (a2 : Int) : Option Bool :=
  bif (decide (a0 ≥ a1)) then some (decide (a0 ≤ a2))
  else some Bool.false
theorem e41 (L : Nat) (a0 : Int) (a1 : Int) (a2 : Int) : evF prog ev41 (loopN L) f41 (a41.enc (a0, a1, a2)) = (g41 L a0 a1 a2).map n41 := by
  rw [i41]; simp only [g41, map_bif, map_tst, Option.map_some, Option.map_none]
theorem s41 (m : (Int × Int × Int) → Option Bool) (hm : ∀ (x : (Int × Int × Int)) t, m x = some t → ∃ L, g41 L x.1 x.2.1 x.2.2 = some t) : Sat prog cxT 41 (c41 m) :=
  sat_t cxT_ok cxT_pok (by rfl) (fn := f41) rfl a41 n41 dd41 m ev41 kok_nil kwok_nil (fun L x => g41 L x.1 x.2.1 x.2.2) (fun L x => e41 L x.1 x.2.1 x.2.2) hm hs41
/-! loop.example/g00222/impl.isName -/
def ev44 : Env cxT := { Kc := kcOf [], Kw := kwOf [], lv := fun i => [], xv := fun i => none }
theorem i44 (L : Nat) (a0 : Int) : evF prog ev44 (loopN L) f44 (a44.enc a0) =
  bif (decide (a0 ≥ (1 : Int))) then some (n44 (decide (a0 ≤ (999 : Int))))
  else some (n44 Bool.false) := by kernel_rfl
def g44 (L : Nat) (a0 : Int) : Option Bool :=
  bif (decide (a0 ≥ (1 : Int))) then some (decide (a0 ≤ (999 : Int)))
  else some Bool.false
theorem e44 (L : Nat) (a0 : Int) : evF prog ev44 (loopN L) f44 (a44.enc a0) = (g44 L a0).map n44 := by
  rw [i44]; simp only [g44, map_bif, map_tst, Option.map_some, Option.map_none]
theorem s44 (m : Int → Option Bool) (hm : ∀ (x : Int) t, m x = some t → ∃ L, g44 L x = some t) : Sat prog cxT 44 (c44 m) :=
  sat_t cxT_ok cxT_pok (by rfl) (fn := f44) rfl a44 n44 dd44 m ev44 kok_nil kwok_nil (fun L x => g44 L x) (fun L x => e44 L x) hm hs44
/-! loop.example/g00222/impl.isWeight -/
def ev45 : Env cxT := { Kc := kcOf [], Kw := kwOf [], lv := fun i => [], xv := fun i => none }
theorem i45 (L : Nat) (a0 : Int) : evF prog ev45 (loopN L) f45 (a45.enc a0) =
  bif (decide (a0 ≥ (0 : Int))) then some (n45 (decide (a0 ≤ (9 : Int))))
  else some (n45 Bool.false) := by kernel_rfl
def g45 (L : Nat) (a0 : Int) : Option Bool :=
  bif (decide (a0 ≥ (0 : Int))) then some (decide (a0 ≤ (9 : Int)))
  else some Bool.false
theorem e45 (L : Nat) (a0 : Int) : evF prog ev45 (loopN L) f45 (a45.enc a0) = (g45 L a0).map n45 := by
  rw [i45]; simp only [g45, map_bif, map_tst, Option.map_some, Option.map_none]
theorem s45 (m : Int → Option Bool) (hm : ∀ (x : Int) t, m x = some t → ∃ L, g45 L x = some t) : Sat prog cxT 45 (c45 m) :=
  sat_t cxT_ok cxT_pok (by rfl) (fn := f45) rfl a45 n45 dd45 m ev45 kok_nil kwok_nil (fun L x => g45 L x) (fun L x => e45 L x) hm hs45
/-! loop.example/g00222/laws.szBackendS -/
def ev46 : Env cxT := { Kc := kcOf [], Kw := kwOf [], lv := fun i => [], xv := fun i => none }
theorem i46 (L : Nat) (a0 : (List (Int × (Int × (Int × (Int × Bool)))))) (a1 : Int) : evF prog ev46 (loopN L) f46 (a46.enc (a0, a1)) =
  bif (decide ((Go.IntKind.wrap Go.IntKind.i64 (a1 - (Nat.cast (List.length a0) : Int))) < (0 : Int))) then some (n46 (-(1 : Int)))
  else some (n46 (Go.IntKind.wrap Go.IntKind.i64 (a1 - (Nat.cast (List.length a0) : Int)))) := by kernel_rfl
def g46 (L : Nat) (a0 : (List (Int × (Int × (Int × (Int × Bool)))))) (a1 : Int) : Option Int :=
  bif (decide ((Go.IntKind.wrap Go.IntKind.i64 (a1 - (Nat.cast (List.length a0) : Int))) < (0 : Int))) then some (-(1 : Int))
  else some (Go.IntKind.wrap Go.IntKind.i64 (a1 - (Nat.cast (List.length a0) : Int)))
theorem e46 (L : Nat) (a0 : (List (Int × (Int × (Int × (Int × Bool)))))) (a1 : Int) : evF prog ev46 (loopN L) f46 (a46.enc (a0, a1)) = (g46 L a0 a1).map n46 := by
  rw [i46]; simp only [g46, map_bif, map_tst, Option.map_some, Option.map_none]
theorem s46 (m : ((List (Int × (Int × (Int × (Int × Bool))))) × Int) → Option Int) (hm : ∀ (x : ((List (Int × (Int × (Int × (Int × Bool))))) × Int)) t, m x = some t → ∃ L, g46 L x.1 x.2 = some t) : Sat prog cxT 46 (c46 m) :=
  sat_t cxT_ok cxT_pok (by rfl) (fn := f46) rfl a46 n46 dd46 m ev46 kok_nil kwok_nil (fun L x => g46 L x.1 x.2) (fun L x => e46 L x.1 x.2) hm hs46
/-! loop.example/g00222/laws.szVipS -/
def ev47 (m86 : ((Int × Int × Int × (List Int)) × Int) → Option Int) : Env cxT := { Kc := kcOf [(86, c86 m86)], Kw := kwOf [], lv := fun i => if i = 0 then [(0, [some 127]), (1, []), (5, [])] else [], xv := fun i => if i = 0 then some [(1, [])] else none }
def S47_0 (a0 : (List (Int × (Int × (Int × (List Int)))))) (a1 : Int) (v0_1 : Int) (v0_5 : Int) : St cxT.ty := { slots := [(.inl (.inl (ls { own := 0, nm := 0, e := 127, o := false, xs := a0 }))), (.inl (.inl (lv (.int .i64 v0_1)))), junk, junk, junk, (.inl (.inl (lv (.int .i64 v0_5))))] ++ List.replicate 21 junk, D := [], F := [], ctr := 1 }
def X47_0 (a0 : (List (Int × (Int × (Int × (List Int)))))) (a1 : Int) (w0_1 : Int) : St cxT.ty := { slots := [junk, (.inl (.inl (lv (.int .i64 w0_1))))] ++ List.replicate 25 junk, D := [], F := [], ctr := 1 }
theorem i47 (m86 : ((Int × Int × Int × (List Int)) × Int) → Option Int) (L : Nat) (a0 : (List (Int × (Int × (Int × (List Int)))))) (a1 : Int) : evF prog (ev47 m86) (loopN L) f47 (a47.enc (a0, a1)) =
  bif (decide ((Go.IntKind.wrap Go.IntKind.i64 (a1 - (Nat.cast (List.length a0) : Int))) < (0 : Int))) then some (n47 (-(1 : Int)))
  else headF prog (ev47 m86) L f47 0 [1, 1, 1, 0, 1, 0, 0] (outK (outV prog f47) (topK prog (ev47 m86) L f47 [1, 1, 1, 0, 1] (outV prog f47)).n (topK prog (ev47 m86) L f47 [1, 1, 1, 0, 1] (outV prog f47)).x) L (S47_0 a0 a1 (Go.IntKind.wrap Go.IntKind.i64 (a1 - (Nat.cast (List.length a0) : Int))) (0 : Int)) := by kernel_rfl
theorem r47_0 (m86 : ((Int × Int × Int × (List Int)) × Int) → Option Int) (L : Nat) (a0 : (List (Int × (Int × (Int × (List Int)))))) (a1 : Int) (k : St cxT.ty → Option (V cxT.ty)) (xk : Nat → St cxT.ty → Option (V cxT.ty)) (g : St cxT.ty → Option (V cxT.ty)) (v0_1 : Int) (v0_5 : Int) : roundF prog (ev47 m86) L f47 0 [1, 1, 1, 0, 1, 0, 0] (outK (outV prog f47) k xk) g (S47_0 a0 a1 v0_1 v0_5) =
  bif (decide (v0_5 < (Nat.cast (List.length a0) : Int))) then bif ((decide ((0 : Int) ≤ v0_5)) && (decide (v0_5 < (Nat.cast (List.length a0) : Int)))) then tst (m86 (((List.getD a0 (Int.toNat v0_5) ((0 : Int), ((0 : Int), ((0 : Int), ([] : List (Int)))))).1, ((List.getD a0 (Int.toNat v0_5) ((0 : Int), ((0 : Int), ((0 : Int), ([] : List (Int)))))).2.1, ((List.getD a0 (Int.toNat v0_5) ((0 : Int), ((0 : Int), ((0 : Int), ([] : List (Int)))))).2.2.1, (List.getD a0 (Int.toNat v0_5) ((0 : Int), ((0 : Int), ((0 : Int), ([] : List (Int)))))).2.2.2))), v0_1)) (0 : Int) fun (q3 : Int) => bif (decide (q3 < (0 : Int))) then some (n47 (-(1 : Int)))
        else g (S47_0 a0 a1 q3 (Go.IntKind.wrap Go.IntKind.i64 (v0_5 + (1 : Int))))
    else none
  else k (X47_0 a0 a1 v0_1) := by kernel_rfl
theorem t47_0 (m86 : ((Int × Int × Int × (List Int)) × Int) → Option Int) (L : Nat) (a0 : (List (Int × (Int × (Int × (List Int)))))) (a1 : Int) (w0_1 : Int) : (topK prog (ev47 m86) L f47 [1, 1, 1, 0, 1] (outV prog f47)).n (X47_0 a0 a1 w0_1) =
  some (n47 w0_1) := by kernel_rfl
def l47_0 (m86 : ((Int × Int × Int × (List Int)) × Int) → Option Int) (L : Nat) (a0 : (List (Int × (Int × (Int × (List Int)))))) (a1 : Int) : Nat → Int → Int → (Int → Option Int) → Option Int
  | 0, _, _, _ => none
  | n + 1, v0_1, v0_5, k =>
    bif (decide (v0_5 < (Nat.cast (List.length a0) : Int))) then bif ((decide ((0 : Int) ≤ v0_5)) && (decide (v0_5 < (Nat.cast (List.length a0) : Int)))) then tst (m86 (((List.getD a0 (Int.toNat v0_5) ((0 : Int), ((0 : Int), ((0 : Int), ([] : List (Int)))))).1, ((List.getD a0 (Int.toNat v0_5) ((0 : Int), ((0 : Int), ((0 : Int), ([] : List (Int)))))).2.1, ((List.getD a0 (Int.toNat v0_5) ((0 : Int), ((0 : Int), ((0 : Int), ([] : List (Int)))))).2.2.1, (List.getD a0 (Int.toNat v0_5) ((0 : Int), ((0 : Int), ((0 : Int), ([] : List (Int)))))).2.2.2))), v0_1)) (0 : Int) fun (q4 : Int) => bif (decide (q4 < (0 : Int))) then some (-(1 : Int))
          else l47_0 m86 L a0 a1 n q4 (Go.IntKind.wrap Go.IntKind.i64 (v0_5 + (1 : Int))) k
      else none
    else k v0_1
theorem h47_0 (m86 : ((Int × Int × Int × (List Int)) × Int) → Option Int) (L : Nat) (a0 : (List (Int × (Int × (Int × (List Int)))))) (a1 : Int) (k : St cxT.ty → Option (V cxT.ty)) (xk : Nat → St cxT.ty → Option (V cxT.ty)) (k' : Int → Option Int) (hk : ∀ (w0_1 : Int), k (X47_0 a0 a1 w0_1) = (k' w0_1).map n47) : ∀ (n : Nat) (v0_1 : Int) (v0_5 : Int), headF prog (ev47 m86) L f47 0 [1, 1, 1, 0, 1, 0, 0] (outK (outV prog f47) k xk) n (S47_0 a0 a1 v0_1 v0_5) = (l47_0 m86 L a0 a1 n v0_1 v0_5 k').map n47
  | 0, _, _ => rfl
  | n + 1, v0_1, v0_5 => by
    rw [headF_round, r47_0]
    have ih := h47_0 m86 L a0 a1 k xk k' hk n
    simp only [l47_0, map_bif, map_tst, Option.map_some, Option.map_none, ih, hk]
def g47 (m86 : ((Int × Int × Int × (List Int)) × Int) → Option Int) (L : Nat) (a0 : (List (Int × (Int × (Int × (List Int)))))) (a1 : Int) : Option Int :=
  bif (decide ((Go.IntKind.wrap Go.IntKind.i64 (a1 - (Nat.cast (List.length a0) : Int))) < (0 : Int))) then some (-(1 : Int))
  else l47_0 m86 L a0 a1 L (Go.IntKind.wrap Go.IntKind.i64 (a1 - (Nat.cast (List.length a0) : Int))) (0 : Int) (fun (w0_1 : Int) => some w0_1)
theorem e47 (m86 : ((Int × Int × Int × (List Int)) × Int) → Option Int) (L : Nat) (a0 : (List (Int × (Int × (Int × (List Int)))))) (a1 : Int) : evF prog (ev47 m86) (loopN L) f47 (a47.enc (a0, a1)) = (g47 m86 L a0 a1).map n47 := by
  let K'0 : Int → Option Int := (fun (w0_1 : Int) => some w0_1)
  have hin0 : ∀ (v0_1 : Int) (v0_5 : Int), headF prog (ev47 m86) L f47 0 [1, 1, 1, 0, 1, 0, 0] (outK (outV prog f47) (topK prog (ev47 m86) L f47 [1, 1, 1, 0, 1] (outV prog f47)).n (topK prog (ev47 m86) L f47 [1, 1, 1, 0, 1] (outV prog f47)).x) L (S47_0 a0 a1 v0_1 v0_5) = (l47_0 m86 L a0 a1 L v0_1 v0_5 K'0).map n47 := fun v0_1 v0_5 => h47_0 m86 L a0 a1 _ _ K'0 (fun w0_1 => by rw [t47_0]; simp only [K'0, map_bif, map_tst, Option.map_some, Option.map_none]) L v0_1 v0_5
  rw [i47]; simp only [g47, map_bif, map_tst, Option.map_some, Option.map_none, hin0, K'0]
theorem s47 (m86 : ((Int × Int × Int × (List Int)) × Int) → Option Int) (h86 : Sat prog cxT 86 (c86 m86)) (m : ((List (Int × (Int × (Int × (List Int))))) × Int) → Option Int) (hm : ∀ (x : ((List (Int × (Int × (Int × (List Int))))) × Int)) t, m x = some t → ∃ L, g47 m86 L x.1 x.2 = some t) : Sat prog cxT 47 (c47 m) :=
  sat_t cxT_ok cxT_pok (by rfl) (fn := f47) rfl a47 n47 dd47 m (ev47 m86) (kok_cons h86 kok_nil) kwok_nil (fun L x => g47 m86 L x.1 x.2) (fun L x => e47 m86 L x.1 x.2) hm hs47
/-! loop.example/g00222/laws.toBackendS -/
def ev48 (m87 : (Int × Int × Int × Int × Bool) → Option (Int × Int × Int × Int × Bool)) : Env cxT := { Kc := kcOf [(87, c87 m87)], Kw := kwOf [], lv := fun i => if i = 0 then [(0, [some 129]), (3, [some 38]), (4, [])] else [], xv := fun i => if i = 0 then some [(3, [some 38])] else none }
def S48_0 (a0 : (List (Int × (Int × (Int × (Int × Bool)))))) (v0_3 : (List (Int × (Int × (Int × (Int × Bool)))))) (v0_4 : Int) : St cxT.ty := { slots := [(.inl (.inl (ls { own := 0, nm := 0, e := 129, o := false, xs := a0 }))), junk, junk, (.inl (.inl (ls { own := 1, nm := 192, e := 38, o := true, xs := v0_3 }))), (.inl (.inl (lv (.int .i64 v0_4))))] ++ List.replicate 18 junk, D := [], F := [], ctr := 1 }
def X48_0 (a0 : (List (Int × (Int × (Int × (Int × Bool)))))) (w0_3 : (List (Int × (Int × (Int × (Int × Bool)))))) : St cxT.ty := { slots := [junk, junk, junk, (.inl (.inl (ls { own := 1, nm := 192, e := 38, o := true, xs := w0_3 })))] ++ List.replicate 19 junk, D := [], F := [], ctr := 1 }
theorem i48 (m87 : (Int × Int × Int × Int × Bool) → Option (Int × Int × Int × Int × Bool)) (L : Nat) (a0 : (List (Int × (Int × (Int × (Int × Bool)))))) : evF prog (ev48 m87) (loopN L) f48 (a48.enc a0) =
  bif (((decide ((0 : Int) ≤ (Nat.cast (List.length a0) : Int))) && (decide ((Nat.cast (List.length a0) : Int) ≤ (Nat.cast (List.length a0) : Int)))) && (decide ((Nat.cast (List.length a0) : Int) ≤ (1000000000 : Int)))) then headF prog (ev48 m87) L f48 0 [1, 1, 0, 1, 0, 0] (outK (outV prog f48) (topK prog (ev48 m87) L f48 [1, 1, 0, 1] (outV prog f48)).n (topK prog (ev48 m87) L f48 [1, 1, 0, 1] (outV prog f48)).x) L (S48_0 a0 (List.replicate (Int.toNat (Nat.cast (List.length a0) : Int)) ((0 : Int), ((0 : Int), ((0 : Int), ((0 : Int), Bool.false))))) (0 : Int))
  else none := by kernel_rfl
theorem r48_0 (m87 : (Int × Int × Int × Int × Bool) → Option (Int × Int × Int × Int × Bool)) (L : Nat) (a0 : (List (Int × (Int × (Int × (Int × Bool)))))) (k : St cxT.ty → Option (V cxT.ty)) (xk : Nat → St cxT.ty → Option (V cxT.ty)) (g : St cxT.ty → Option (V cxT.ty)) (v0_3 : (List (Int × (Int × (Int × (Int × Bool)))))) (v0_4 : Int) : roundF prog (ev48 m87) L f48 0 [1, 1, 0, 1, 0, 0] (outK (outV prog f48) k xk) g (S48_0 a0 v0_3 v0_4) =
  bif (decide (v0_4 < (Nat.cast (List.length a0) : Int))) then bif ((decide ((0 : Int) ≤ v0_4)) && (decide (v0_4 < (Nat.cast (List.length a0) : Int)))) then tst (m87 ((List.getD a0 (Int.toNat v0_4) ((0 : Int), ((0 : Int), ((0 : Int), ((0 : Int), Bool.false))))).1, ((List.getD a0 (Int.toNat v0_4) ((0 : Int), ((0 : Int), ((0 : Int), ((0 : Int), Bool.false))))).2.1, ((List.getD a0 (Int.toNat v0_4) ((0 : Int), ((0 : Int), ((0 : Int), ((0 : Int), Bool.false))))).2.2.1, ((List.getD a0 (Int.toNat v0_4) ((0 : Int), ((0 : Int), ((0 : Int), ((0 : Int), Bool.false))))).2.2.2.1, (List.getD a0 (Int.toNat v0_4) ((0 : Int), ((0 : Int), ((0 : Int), ((0 : Int), Bool.false))))).2.2.2.2))))) ((0 : Int), (0 : Int), (0 : Int), (0 : Int), false) fun (q3 : (Int × Int × Int × Int × Bool)) => bif ((decide ((0 : Int) ≤ v0_4)) && (decide (v0_4 < (Nat.cast (List.length v0_3) : Int)))) then g (S48_0 a0 (List.set v0_3 (Int.toNat v0_4) (q3.1, (q3.2.1, (q3.2.2.1, (q3.2.2.2.1, q3.2.2.2.2))))) (Go.IntKind.wrap Go.IntKind.i64 (v0_4 + (1 : Int))))
        else none
    else none
  else k (X48_0 a0 v0_3) := by kernel_rfl
theorem t48_0 (m87 : (Int × Int × Int × Int × Bool) → Option (Int × Int × Int × Int × Bool)) (L : Nat) (a0 : (List (Int × (Int × (Int × (Int × Bool)))))) (w0_3 : (List (Int × (Int × (Int × (Int × Bool)))))) : (topK prog (ev48 m87) L f48 [1, 1, 0, 1] (outV prog f48)).n (X48_0 a0 w0_3) =
  some (n48 w0_3) := by kernel_rfl
def l48_0 (m87 : (Int × Int × Int × Int × Bool) → Option (Int × Int × Int × Int × Bool)) (L : Nat) (a0 : (List (Int × (Int × (Int × (Int × Bool)))))) : Nat → (List (Int × (Int × (Int × (Int × Bool))))) → Int → ((List (Int × (Int × (Int × (Int × Bool))))) → Option (List (Int × (Int × (Int × (Int × Bool)))))) → Option (List (Int × (Int × (Int × (Int × Bool)))))
  | 0, _, _, _ => none
  | n + 1, v0_3, v0_4, k =>
    bif (decide (v0_4 < (Nat.cast (List.length a0) : Int))) then bif ((decide ((0 : Int) ≤ v0_4)) && (decide (v0_4 < (Nat.cast (List.length a0) : Int)))) then tst (m87 ((List.getD a0 (Int.toNat v0_4) ((0 : Int), ((0 : Int), ((0 : Int), ((0 : Int), Bool.false))))).1, ((List.getD a0 (Int.toNat v0_4) ((0 : Int), ((0 : Int), ((0 : Int), ((0 : Int), Bool.false))))).2.1, ((List.getD a0 (Int.toNat v0_4) ((0 : Int), ((0 : Int), ((0 : Int), ((0 : Int), Bool.false))))).2.2.1, ((List.getD a0 (Int.toNat v0_4) ((0 : Int), ((0 : Int), ((0 : Int), ((0 : Int), Bool.false))))).2.2.2.1, (List.getD a0 (Int.toNat v0_4) ((0 : Int), ((0 : Int), ((0 : Int), ((0 : Int), Bool.false))))).2.2.2.2))))) ((0 : Int), (0 : Int), (0 : Int), (0 : Int), false) fun (q4 : (Int × Int × Int × Int × Bool)) => bif ((decide ((0 : Int) ≤ v0_4)) && (decide (v0_4 < (Nat.cast (List.length v0_3) : Int)))) then l48_0 m87 L a0 n (List.set v0_3 (Int.toNat v0_4) (q4.1, (q4.2.1, (q4.2.2.1, (q4.2.2.2.1, q4.2.2.2.2))))) (Go.IntKind.wrap Go.IntKind.i64 (v0_4 + (1 : Int))) k
          else none
      else none
    else k v0_3
theorem h48_0 (m87 : (Int × Int × Int × Int × Bool) → Option (Int × Int × Int × Int × Bool)) (L : Nat) (a0 : (List (Int × (Int × (Int × (Int × Bool)))))) (k : St cxT.ty → Option (V cxT.ty)) (xk : Nat → St cxT.ty → Option (V cxT.ty)) (k' : (List (Int × (Int × (Int × (Int × Bool))))) → Option (List (Int × (Int × (Int × (Int × Bool)))))) (hk : ∀ (w0_3 : (List (Int × (Int × (Int × (Int × Bool)))))), k (X48_0 a0 w0_3) = (k' w0_3).map n48) : ∀ (n : Nat) (v0_3 : (List (Int × (Int × (Int × (Int × Bool)))))) (v0_4 : Int), headF prog (ev48 m87) L f48 0 [1, 1, 0, 1, 0, 0] (outK (outV prog f48) k xk) n (S48_0 a0 v0_3 v0_4) = (l48_0 m87 L a0 n v0_3 v0_4 k').map n48
  | 0, _, _ => rfl
  | n + 1, v0_3, v0_4 => by
    rw [headF_round, r48_0]
    have ih := h48_0 m87 L a0 k xk k' hk n
    simp only [l48_0, map_bif, map_tst, Option.map_some, Option.map_none, ih, hk]
def g48 (m87 : (Int × Int × Int × Int × Bool) → Option (Int × Int × Int × Int × Bool)) (L : Nat) (a0 : (List (Int × (Int × (Int × (Int × Bool)))))) : Option (List (Int × (Int × (Int × (Int × Bool))))) :=
  bif (((decide ((0 : Int) ≤ (Nat.cast (List.length a0) : Int))) && (decide ((Nat.cast (List.length a0) : Int) ≤ (Nat.cast (List.length a0) : Int)))) && (decide ((Nat.cast (List.length a0) : Int) ≤ (1000000000 : Int)))) then l48_0 m87 L a0 L (List.replicate (Int.toNat (Nat.cast (List.length a0) : Int)) ((0 : Int), ((0 : Int), ((0 : Int), ((0 : Int), Bool.false))))) (0 : Int) (fun (w0_3 : (List (Int × (Int × (Int × (Int × Bool)))))) => some w0_3)
  else none
theorem e48 (m87 : (Int × Int × Int × Int × Bool) → Option (Int × Int × Int × Int × Bool)) (L : Nat) (a0 : (List (Int × (Int × (Int × (Int × Bool)))))) : evF prog (ev48 m87) (loopN L) f48 (a48.enc a0) = (g48 m87 L a0).map n48 := by
  let K'0 : (List (Int × (Int × (Int × (Int × Bool))))) → Option (List (Int × (Int × (Int × (Int × Bool))))) := (fun (w0_3 : (List (Int × (Int × (Int × (Int × Bool)))))) => some w0_3)
  have hin0 : ∀ (v0_3 : (List (Int × (Int × (Int × (Int × Bool)))))) (v0_4 : Int), headF prog (ev48 m87) L f48 0 [1, 1, 0, 1, 0, 0] (outK (outV prog f48) (topK prog (ev48 m87) L f48 [1, 1, 0, 1] (outV prog f48)).n (topK prog (ev48 m87) L f48 [1, 1, 0, 1] (outV prog f48)).x) L (S48_0 a0 v0_3 v0_4) = (l48_0 m87 L a0 L v0_3 v0_4 K'0).map n48 := fun v0_3 v0_4 => h48_0 m87 L a0 _ _ K'0 (fun w0_3 => by rw [t48_0]; simp only [K'0, map_bif, map_tst, Option.map_some, Option.map_none]) L v0_3 v0_4
  rw [i48]; simp only [g48, map_bif, map_tst, Option.map_some, Option.map_none, hin0, K'0]
theorem s48 (m87 : (Int × Int × Int × Int × Bool) → Option (Int × Int × Int × Int × Bool)) (h87 : Sat prog cxT 87 (c87 m87)) (m : (List (Int × (Int × (Int × (Int × Bool))))) → Option (List (Int × (Int × (Int × (Int × Bool)))))) (hm : ∀ (x : (List (Int × (Int × (Int × (Int × Bool)))))) t, m x = some t → ∃ L, g48 m87 L x = some t) : Sat prog cxT 48 (c48 m) :=
  sat_t cxT_ok cxT_pok (by rfl) (fn := f48) rfl a48 n48 dd48 m (ev48 m87) (kok_cons h87 kok_nil) kwok_nil (fun L x => g48 m87 L x) (fun L x => e48 m87 L x) hm hs48
/-! loop.example/g00222/impl.isVersion -/
def ev50 : Env cxT := { Kc := kcOf [], Kw := kwOf [], lv := fun i => [], xv := fun i => none }
theorem i50 (L : Nat) (a0 : Int) : evF prog ev50 (loopN L) f50 (a50.enc a0) =
  bif (decide (a0 ≥ (0 : Int))) then some (n50 (decide (a0 ≤ (1000000 : Int))))
  else some (n50 Bool.false) := by kernel_rfl
def g50 (L : Nat) (a0 : Int) : Option Bool :=
  bif (decide (a0 ≥ (0 : Int))) then some (decide (a0 ≤ (1000000 : Int)))
  else some Bool.false
theorem e50 (L : Nat) (a0 : Int) : evF prog ev50 (loopN L) f50 (a50.enc a0) = (g50 L a0).map n50 := by
  rw [i50]; simp only [g50, map_bif, map_tst, Option.map_some, Option.map_none]
theorem s50 (m : Int → Option Bool) (hm : ∀ (x : Int) t, m x = some t → ∃ L, g50 L x = some t) : Sat prog cxT 50 (c50 m) :=
  sat_t cxT_ok cxT_pok (by rfl) (fn := f50) rfl a50 n50 dd50 m ev50 kok_nil kwok_nil (fun L x => g50 L x) (fun L x => e50 L x) hm hs50
/-! loop.example/g00222/impl.isBackend -/
def ev51 (m44 : Int → Option Bool) (m89 : Int → Option Bool) (m45 : Int → Option Bool) (m90 : Int → Option Bool) : Env cxT := { Kc := kcOf [(44, c44 m44), (89, c89 m89), (45, c45 m45), (90, c90 m90)], Kw := kwOf [], lv := fun i => [], xv := fun i => none }
theorem i51 (m44 : Int → Option Bool) (m89 : Int → Option Bool) (m45 : Int → Option Bool) (m90 : Int → Option Bool) (L : Nat) (a0_0 : Int) (a0_1 : Int) (a0_2 : Int) (a0_3 : Int) (a0_4 : Bool) : evF prog (ev51 m44 m89 m45 m90) (loopN L) f51 (a51.enc (a0_0, a0_1, a0_2, a0_3, a0_4)) =
  tst (m44 a0_0) false fun (q1 : Bool) => bif q1 then tst (m89 a0_1) false fun (q3 : Bool) => bif q3 then tst (m45 a0_2) false fun (q5 : Bool) => bif q5 then tst (m90 a0_3) false fun (q7 : Bool) => some (n51 q7)
            else some (n51 Bool.false)
        else some (n51 Bool.false)
    else some (n51 Bool.false) := by kernel_rfl
def g51 (m44 : Int → Option Bool) (m89 : Int → Option Bool) (m45 : Int → Option Bool) (m90 : Int → Option Bool) (L : Nat) (a0_0 : Int) (a0_1 : Int) (a0_2 : Int) (a0_3 : Int) (a0_4 : Bool) : Option Bool :=
  tst (m44 a0_0) false fun (q1 : Bool) => bif q1 then tst (m89 a0_1) false fun (q3 : Bool) => bif q3 then tst (m45 a0_2) false fun (q5 : Bool) => bif q5 then tst (m90 a0_3) false fun (q7 : Bool) => some q7
            else some Bool.false
        else some Bool.false
    else some Bool.false
theorem e51 (m44 : Int → Option Bool) (m89 : Int → Option Bool) (m45 : Int → Option Bool) (m90 : Int → Option Bool) (L : Nat) (a0_0 : Int) (a0_1 : Int) (a0_2 : Int) (a0_3 : Int) (a0_4 : Bool) : evF prog (ev51 m44 m89 m45 m90) (loopN L) f51 (a51.enc (a0_0, a0_1, a0_2, a0_3, a0_4)) = (g51 m44 m89 m45 m90 L a0_0 a0_1 a0_2 a0_3 a0_4).map n51 := by
  rw [i51]; simp only [g51, map_bif, map_tst, Option.map_some, Option.map_none]
theorem s51 (m44 : Int → Option Bool) (m89 : Int → Option Bool) (m45 : Int → Option Bool) (m90 : Int → Option Bool) (h44 : Sat prog cxT 44 (c44 m44)) (h89 : Sat prog cxT 89 (c89 m89)) (h45 : Sat prog cxT 45 (c45 m45)) (h90 : Sat prog cxT 90 (c90 m90)) (m : (Int × Int × Int × Int × Bool) → Option Bool) (hm : ∀ (x : (Int × Int × Int × Int × Bool)) t, m x = some t → ∃ L, g51 m44 m89 m45 m90 L x.1 x.2.1 x.2.2.1 x.2.2.2.1 x.2.2.2.2 = some t) : Sat prog cxT 51 (c51 m) :=
  sat_t cxT_ok cxT_pok (by rfl) (fn := f51) rfl a51 n51 dd51 m (ev51 m44 m89 m45 m90) (kok_cons h44 (kok_cons h89 (kok_cons h45 (kok_cons h90 kok_nil)))) kwok_nil (fun L x => g51 m44 m89 m45 m90 L x.1 x.2.1 x.2.2.1 x.2.2.2.1 x.2.2.2.2) (fun L x => e51 m44 m89 m45 m90 L x.1 x.2.1 x.2.2.1 x.2.2.2.1 x.2.2.2.2) hm hs51
/-! loop.example/g00222/spec.l5Version -/
def ev58 (m41 : (Int × Int × Int) → Option Bool) : Env cxT := { Kc := kcOf [(41, c41 m41)], Kw := kwOf [], lv := fun i => [], xv := fun i => none }
theorem i58 (m41 : (Int × Int × Int) → Option Bool) (L : Nat) (a0 : Int) : evF prog (ev58 m41) (loopN L) f58 (a58.enc a0) =
  tst (m41 (a0, ((0 : Int), (1000000 : Int)))) false fun (q1 : Bool) => some (n58 q1) := by kernel_rfl
def g58 (m41 : (Int × Int × Int) → Option Bool) (L : Nat) (a0 : Int) : Option Bool :=
  tst (m41 (a0, ((0 : Int), (1000000 : Int)))) false fun (q1 : Bool) => some q1
theorem e58 (m41 : (Int × Int × Int) → Option Bool) (L : Nat) (a0 : Int) : evF prog (ev58 m41) (loopN L) f58 (a58.enc a0) = (g58 m41 L a0).map n58 := by
  rw [i58]; simp only [g58, map_bif, map_tst, Option.map_some, Option.map_none]
theorem s58 (m41 : (Int × Int × Int) → Option Bool) (h41 : Sat prog cxT 41 (c41 m41)) (m : Int → Option Bool) (hm : ∀ (x : Int) t, m x = some t → ∃ L, g58 m41 L x = some t) : Sat prog cxT 58 (c58 m) :=
  sat_t cxT_ok cxT_pok (by rfl) (fn := f58) rfl a58 n58 dd58 m (ev58 m41) (kok_cons h41 kok_nil) kwok_nil (fun L x => g58 m41 L x) (fun L x => e58 m41 L x) hm hs58
/-! loop.example/g00222/spec.l3Name -/
def ev59 (m41 : (Int × Int × Int) → Option Bool) : Env cxT := { Kc := kcOf [(41, c41 m41)], Kw := kwOf [], lv := fun i => [], xv := fun i => none }
theorem i59 (m41 : (Int × Int × Int) → Option Bool) (L : Nat) (a0 : Int) : evF prog (ev59 m41) (loopN L) f59 (a59.enc a0) =
  tst (m41 (a0, ((1 : Int), (999 : Int)))) false fun (q1 : Bool) => some (n59 q1) := by kernel_rfl
def g59 (m41 : (Int × Int × Int) → Option Bool) (L : Nat) (a0 : Int) : Option Bool :=
  tst (m41 (a0, ((1 : Int), (999 : Int)))) false fun (q1 : Bool) => some q1
theorem e59 (m41 : (Int × Int × Int) → Option Bool) (L : Nat) (a0 : Int) : evF prog (ev59 m41) (loopN L) f59 (a59.enc a0) = (g59 m41 L a0).map n59 := by
  rw [i59]; simp only [g59, map_bif, map_tst, Option.map_some, Option.map_none]
theorem s59 (m41 : (Int × Int × Int) → Option Bool) (h41 : Sat prog cxT 41 (c41 m41)) (m : Int → Option Bool) (hm : ∀ (x : Int) t, m x = some t → ∃ L, g59 m41 L x = some t) : Sat prog cxT 59 (c59 m) :=
  sat_t cxT_ok cxT_pok (by rfl) (fn := f59) rfl a59 n59 dd59 m (ev59 m41) (kok_cons h41 kok_nil) kwok_nil (fun L x => g59 m41 L x) (fun L x => e59 m41 L x) hm hs59
/-! loop.example/g00222/spec.l2Address -/
def ev60 (m41 : (Int × Int × Int) → Option Bool) : Env cxT := { Kc := kcOf [(41, c41 m41)], Kw := kwOf [], lv := fun i => [], xv := fun i => none }
theorem i60 (m41 : (Int × Int × Int) → Option Bool) (L : Nat) (a0 : Int) : evF prog (ev60 m41) (loopN L) f60 (a60.enc a0) =
  tst (m41 (a0, ((0 : Int), (4294967295 : Int)))) false fun (q1 : Bool) => some (n60 q1) := by kernel_rfl
def g60 (m41 : (Int × Int × Int) → Option Bool) (L : Nat) (a0 : Int) : Option Bool :=
  tst (m41 (a0, ((0 : Int), (4294967295 : Int)))) false fun (q1 : Bool) => some q1
theorem e60 (m41 : (Int × Int × Int) → Option Bool) (L : Nat) (a0 : Int) : evF prog (ev60 m41) (loopN L) f60 (a60.enc a0) = (g60 m41 L a0).map n60 := by
  rw [i60]; simp only [g60, map_bif, map_tst, Option.map_some, Option.map_none]
theorem s60 (m41 : (Int × Int × Int) → Option Bool) (h41 : Sat prog cxT 41 (c41 m41)) (m : Int → Option Bool) (hm : ∀ (x : Int) t, m x = some t → ∃ L, g60 m41 L x = some t) : Sat prog cxT 60 (c60 m) :=
  sat_t cxT_ok cxT_pok (by rfl) (fn := f60) rfl a60 n60 dd60 m (ev60 m41) (kok_cons h41 kok_nil) kwok_nil (fun L x => g60 m41 L x) (fun L x => e60 m41 L x) hm hs60
/-! loop.example/g00222/spec.l5Proto -/
def ev62 : Env cxT := { Kc := kcOf [], Kw := kwOf [], lv := fun i => [], xv := fun i => none }
theorem i62 (L : Nat) (a0 : Int) : evF prog ev62 (loopN L) f62 (a62.enc a0) =
  bif (a0 == (6 : Int)) then some (n62 Bool.true)
  else some (n62 (a0 == (17 : Int))) := by kernel_rfl
def g62 (L : Nat) (a0 : Int) : Option Bool :=
  bif (a0 == (6 : Int)) then some Bool.true
  else some (a0 == (17 : Int))
theorem e62 (L : Nat) (a0 : Int) : evF prog ev62 (loopN L) f62 (a62.enc a0) = (g62 L a0).map n62 := by
  rw [i62]; simp only [g62, map_bif, map_tst, Option.map_some, Option.map_none]
theorem s62 (m : Int → Option Bool) (hm : ∀ (x : Int) t, m x = some t → ∃ L, g62 L x = some t) : Sat prog cxT 62 (c62 m) :=
  sat_t cxT_ok cxT_pok (by rfl) (fn := f62) rfl a62 n62 dd62 m ev62 kok_nil kwok_nil (fun L x => g62 L x) (fun L x => e62 L x) hm hs62
/-! loop.example/g00222/laws.eqBackend -/
def ev65 : Env cxT := { Kc := kcOf [], Kw := kwOf [], lv := fun i => [], xv := fun i => none }
theorem i65 (L : Nat) (a0_0 : Int) (a0_1 : Int) (a0_2 : Int) (a0_3 : Int) (a0_4 : Bool) (a1_0 : Int) (a1_1 : Int) (a1_2 : Int) (a1_3 : Int) (a1_4 : Bool) : evF prog ev65 (loopN L) f65 (a65.enc ((a0_0, a0_1, a0_2, a0_3, a0_4), (a1_0, a1_1, a1_2, a1_3, a1_4))) =
  bif (a0_0 != a1_0) then some (n65 Bool.false)
  else bif (a0_1 != a1_1) then some (n65 Bool.false)
  else bif (a0_2 != a1_2) then some (n65 Bool.false)
  else bif (a0_3 != a1_3) then some (n65 Bool.false)
  else bif (!(a0_4 == a1_4)) then some (n65 Bool.false)
  else some (n65 Bool.true) := by kernel_rfl
def g65 (L : Nat) (a0_0 : Int) (a0_1 : Int) (a0_2 : Int) (a0_3 : Int) (a0_4 : Bool) (a1_0 : Int) (a1_1 : Int) (a1_2 : Int) (a1_3 : Int) (a1_4 : Bool) : Option Bool :=
  bif (a0_0 != a1_0) then some Bool.false
  else bif (a0_1 != a1_1) then some Bool.false
  else bif (a0_2 != a1_2) then some Bool.false
  else bif (a0_3 != a1_3) then some Bool.false
  else bif (!(a0_4 == a1_4)) then some Bool.false
  else some Bool.true
theorem e65 (L : Nat) (a0_0 : Int) (a0_1 : Int) (a0_2 : Int) (a0_3 : Int) (a0_4 : Bool) (a1_0 : Int) (a1_1 : Int) (a1_2 : Int) (a1_3 : Int) (a1_4 : Bool) : evF prog ev65 (loopN L) f65 (a65.enc ((a0_0, a0_1, a0_2, a0_3, a0_4), (a1_0, a1_1, a1_2, a1_3, a1_4))) = (g65 L a0_0 a0_1 a0_2 a0_3 a0_4 a1_0 a1_1 a1_2 a1_3 a1_4).map n65 := by
  rw [i65]; simp only [g65, map_bif, map_tst, Option.map_some, Option.map_none]
theorem s65 (m : ((Int × Int × Int × Int × Bool) × (Int × Int × Int × Int × Bool)) → Option Bool) (hm : ∀ (x : ((Int × Int × Int × Int × Bool) × (Int × Int × Int × Int × Bool))) t, m x = some t → ∃ L, g65 L x.1.1 x.1.2.1 x.1.2.2.1 x.1.2.2.2.1 x.1.2.2.2.2 x.2.1 x.2.2.1 x.2.2.2.1 x.2.2.2.2.1 x.2.2.2.2.2 = some t) : Sat prog cxT 65 (c65 m) :=
  sat_t cxT_ok cxT_pok (by rfl) (fn := f65) rfl a65 n65 dd65 m ev65 kok_nil kwok_nil (fun L x => g65 L x.1.1 x.1.2.1 x.1.2.2.1 x.1.2.2.2.1 x.1.2.2.2.2 x.2.1 x.2.2.1 x.2.2.2.1 x.2.2.2.2.1 x.2.2.2.2.2) (fun L x => e65 L x.1.1 x.1.2.1 x.1.2.2.1 x.1.2.2.2.1 x.1.2.2.2.2 x.2.1 x.2.2.1 x.2.2.2.1 x.2.2.2.2.1 x.2.2.2.2.2) hm hs65
/-! loop.example/g00222/spec.l5Backend -/
def ev81 (m59 : Int → Option Bool) (m60 : Int → Option Bool) (m41 : (Int × Int × Int) → Option Bool) : Env cxT := { Kc := kcOf [(59, c59 m59), (60, c60 m60), (41, c41 m41)], Kw := kwOf [], lv := fun i => [], xv := fun i => none }
theorem i81 (m59 : Int → Option Bool) (m60 : Int → Option Bool) (m41 : (Int × Int × Int) → Option Bool) (L : Nat) (a0_0 : Int) (a0_1 : Int) (a0_2 : Int) (a0_3 : Int) (a0_4 : Bool) : evF prog (ev81 m59 m60 m41) (loopN L) f81 (a81.enc (a0_0, a0_1, a0_2, a0_3, a0_4)) =
  tst (m59 a0_0) false fun (q1 : Bool) => bif q1 then tst (m60 a0_1) false fun (q3 : Bool) => bif q3 then tst (m41 (a0_2, ((0 : Int), (9 : Int)))) false fun (q5 : Bool) => bif q5 then tst (m41 (a0_3, ((1 : Int), (3 : Int)))) false fun (q7 : Bool) => some (n81 q7)
            else some (n81 Bool.false)
        else some (n81 Bool.false)
    else some (n81 Bool.false) := by kernel_rfl
def g81 (m59 : Int → Option Bool) (m60 : Int → Option Bool) (m41 : (Int × Int × Int) → Option Bool) (L : Nat) (a0_0 : Int) (a0_1 : Int) (a0_2 : Int) (a0_3 : Int) (a0_4 : Bool) : Option Bool :=
  tst (m59 a0_0) false fun (q1 : Bool) => bif q1 then tst (m60 a0_1) false fun (q3 : Bool) => bif q3 then tst (m41 (a0_2, ((0 : Int), (9 : Int)))) false fun (q5 : Bool) => bif q5 then tst (m41 (a0_3, ((1 : Int), (3 : Int)))) false fun (q7 : Bool) => some q7
            else some Bool.false
        else some Bool.false
    else some Bool.false
theorem e81 (m59 : Int → Option Bool) (m60 : Int → Option Bool) (m41 : (Int × Int × Int) → Option Bool) (L : Nat) (a0_0 : Int) (a0_1 : Int) (a0_2 : Int) (a0_3 : Int) (a0_4 : Bool) : evF prog (ev81 m59 m60 m41) (loopN L) f81 (a81.enc (a0_0, a0_1, a0_2, a0_3, a0_4)) = (g81 m59 m60 m41 L a0_0 a0_1 a0_2 a0_3 a0_4).map n81 := by
  rw [i81]; simp only [g81, map_bif, map_tst, Option.map_some, Option.map_none]
theorem s81 (m59 : Int → Option Bool) (m60 : Int → Option Bool) (m41 : (Int × Int × Int) → Option Bool) (h59 : Sat prog cxT 59 (c59 m59)) (h60 : Sat prog cxT 60 (c60 m60)) (h41 : Sat prog cxT 41 (c41 m41)) (m : (Int × Int × Int × Int × Bool) → Option Bool) (hm : ∀ (x : (Int × Int × Int × Int × Bool)) t, m x = some t → ∃ L, g81 m59 m60 m41 L x.1 x.2.1 x.2.2.1 x.2.2.2.1 x.2.2.2.2 = some t) : Sat prog cxT 81 (c81 m) :=
  sat_t cxT_ok cxT_pok (by rfl) (fn := f81) rfl a81 n81 dd81 m (ev81 m59 m60 m41) (kok_cons h59 (kok_cons h60 (kok_cons h41 kok_nil))) kwok_nil (fun L x => g81 m59 m60 m41 L x.1 x.2.1 x.2.2.1 x.2.2.2.1 x.2.2.2.2) (fun L x => e81 m59 m60 m41 L x.1 x.2.1 x.2.2.1 x.2.2.2.1 x.2.2.2.2) hm hs81
/-! loop.example/g00222/impl.backendPlace$1 -/
def ev84 (m85 : (Int × Int) → Option Int) : Env cxT := { Kc := kcOf [(85, c85 m85)], Kw := kwOf [], lv := fun i => [], xv := fun i => none }
theorem i84 (m85 : (Int × Int) → Option Int) (L : Nat) (a0_0 : Int) (a0_1 : Int) (a0_2 : Int) (a0_3 : Int) (a0_4 : Bool) (a1 : Int) : evF prog (ev84 m85) (loopN L) f84 (a84.enc ((a0_0, a0_1, a0_2, a0_3, a0_4), a1)) =
  tst (m85 (a0_0, a1)) (0 : Int) fun (q1 : Int) => some (n84 q1) := by kernel_rfl
def g84 (m85 : (Int × Int) → Option Int) (L : Nat) (a0_0 : Int) (a0_1 : Int) (a0_2 : Int) (a0_3 : Int) (a0_4 : Bool) (a1 : Int) : Option Int :=
  tst (m85 (a0_0, a1)) (0 : Int) fun (q1 : Int) => some q1
theorem e84 (m85 : (Int × Int) → Option Int) (L : Nat) (a0_0 : Int) (a0_1 : Int) (a0_2 : Int) (a0_3 : Int) (a0_4 : Bool) (a1 : Int) : evF prog (ev84 m85) (loopN L) f84 (a84.enc ((a0_0, a0_1, a0_2, a0_3, a0_4), a1)) = (g84 m85 L a0_0 a0_1 a0_2 a0_3 a0_4 a1).map n84 := by
  rw [i84]; simp only [g84, map_bif, map_tst, Option.map_some, Option.map_none]
theorem s84 (m85 : (Int × Int) → Option Int) (h85 : Sat prog cxT 85 (c85 m85)) (m : ((Int × Int × Int × Int × Bool) × Int) → Option Int) (hm : ∀ (x : ((Int × Int × Int × Int × Bool) × Int)) t, m x = some t → ∃ L, g84 m85 L x.1.1 x.1.2.1 x.1.2.2.1 x.1.2.2.2.1 x.1.2.2.2.2 x.2 = some t) : Sat prog cxT 84 (c84 m) :=
  sat_t cxT_ok cxT_pok (by rfl) (fn := f84) rfl a84 n84 dd84 m (ev84 m85) (kok_cons h85 kok_nil) kwok_nil (fun L x => g84 m85 L x.1.1 x.1.2.1 x.1.2.2.1 x.1.2.2.2.1 x.1.2.2.2.2 x.2) (fun L x => e84 m85 L x.1.1 x.1.2.1 x.1.2.2.1 x.1.2.2.2.1 x.1.2.2.2.2 x.2) hm hs84
/-! cmp.Compare[int64] -/
def ev85 (m114 : Int → Option Bool) : Env cxT := { Kc := kcOf [(114, c114 m114)], Kw := kwOf [], lv := fun i => [], xv := fun i => none }
theorem i85 (m114 : Int → Option Bool) (L : Nat) (a0 : Int) (a1 : Int) : evF prog (ev85 m114) (loopN L) f85 (a85.enc (a0, a1)) =
  tst (m114 a0) false fun (q1 : Bool) => tst (m114 a1) false fun (q2 : Bool) => bif q1 then bif q2 then some (n85 (0 : Int))
        else some (n85 (-(1 : Int)))
      else bif q2 then some (n85 (1 : Int))
      else bif (decide (a0 < a1)) then some (n85 (-(1 : Int)))
      else bif (decide (a0 > a1)) then some (n85 (1 : Int))
      else some (n85 (0 : Int)) := by kernel_rfl
def g85 (m114 : Int → Option Bool) (L : Nat) (a0 : Int) (a1 : Int) : Option Int :=
  tst (m114 a0) false fun (q1 : Bool) => tst (m114 a1) false fun (q2 : Bool) => bif q1 then bif q2 then some (0 : Int)
        else some (-(1 : Int))
      else bif q2 then some (1 : Int)
      else bif (decide (a0 < a1)) then some (-(1 : Int))
      else bif (decide (a0 > a1)) then some (1 : Int)
      else some (0 : Int)
theorem e85 (m114 : Int → Option Bool) (L : Nat) (a0 : Int) (a1 : Int) : evF prog (ev85 m114) (loopN L) f85 (a85.enc (a0, a1)) = (g85 m114 L a0 a1).map n85 := by
  rw [i85]; simp only [g85, map_bif, map_tst, Option.map_some, Option.map_none]
theorem s85 (m114 : Int → Option Bool) (h114 : Sat prog cxT 114 (c114 m114)) (m : (Int × Int) → Option Int) (hm : ∀ (x : (Int × Int)) t, m x = some t → ∃ L, g85 m114 L x.1 x.2 = some t) : Sat prog cxT 85 (c85 m) :=
  sat_t cxT_ok cxT_pok (by rfl) (fn := f85) rfl a85 n85 dd85 m (ev85 m114) (kok_cons h114 kok_nil) kwok_nil (fun L x => g85 m114 L x.1 x.2) (fun L x => e85 m114 L x.1 x.2) hm hs85
/-! loop.example/g00222/laws.szVip -/
def ev86 (m115 : ((List Int) × Int) → Option Int) : Env cxT := { Kc := kcOf [(115, c115 m115)], Kw := kwOf [], lv := fun i => [], xv := fun i => none }
theorem i86 (m115 : ((List Int) × Int) → Option Int) (L : Nat) (a0_0 : Int) (a0_1 : Int) (a0_2 : Int) (a0_3 : (List Int)) (a1 : Int) : evF prog (ev86 m115) (loopN L) f86 (a86.enc ((a0_0, a0_1, a0_2, a0_3), a1)) =
  tst (m115 (a0_3, a1)) (0 : Int) fun (q1 : Int) => bif (decide (q1 < (0 : Int))) then some (n86 (-(1 : Int)))
    else some (n86 q1) := by kernel_rfl
def g86 (m115 : ((List Int) × Int) → Option Int) (L : Nat) (a0_0 : Int) (a0_1 : Int) (a0_2 : Int) (a0_3 : (List Int)) (a1 : Int) : Option Int :=
  tst (m115 (a0_3, a1)) (0 : Int) fun (q1 : Int) => bif (decide (q1 < (0 : Int))) then some (-(1 : Int))
    else some q1
theorem e86 (m115 : ((List Int) × Int) → Option Int) (L : Nat) (a0_0 : Int) (a0_1 : Int) (a0_2 : Int) (a0_3 : (List Int)) (a1 : Int) : evF prog (ev86 m115) (loopN L) f86 (a86.enc ((a0_0, a0_1, a0_2, a0_3), a1)) = (g86 m115 L a0_0 a0_1 a0_2 a0_3 a1).map n86 := by
  rw [i86]; simp only [g86, map_bif, map_tst, Option.map_some, Option.map_none]
theorem s86 (m115 : ((List Int) × Int) → Option Int) (h115 : Sat prog cxT 115 (c115 m115)) (m : ((Int × Int × Int × (List Int)) × Int) → Option Int) (hm : ∀ (x : ((Int × Int × Int × (List Int)) × Int)) t, m x = some t → ∃ L, g86 m115 L x.1.1 x.1.2.1 x.1.2.2.1 x.1.2.2.2 x.2 = some t) : Sat prog cxT 86 (c86 m) :=
  sat_t cxT_ok cxT_pok (by rfl) (fn := f86) rfl a86 n86 dd86 m (ev86 m115) (kok_cons h115 kok_nil) kwok_nil (fun L x => g86 m115 L x.1.1 x.1.2.1 x.1.2.2.1 x.1.2.2.2 x.2) (fun L x => e86 m115 L x.1.1 x.1.2.1 x.1.2.2.1 x.1.2.2.2 x.2) hm hs86
/-! loop.example/g00222/laws.toBackend -/
def ev87 : Env cxT := { Kc := kcOf [], Kw := kwOf [], lv := fun i => [], xv := fun i => none }
theorem i87 (L : Nat) (a0_0 : Int) (a0_1 : Int) (a0_2 : Int) (a0_3 : Int) (a0_4 : Bool) : evF prog ev87 (loopN L) f87 (a87.enc (a0_0, a0_1, a0_2, a0_3, a0_4)) =
  some (n87 (a0_0, a0_1, a0_2, a0_3, a0_4)) := by kernel_rfl
def g87 (L : Nat) (a0_0 : Int) (a0_1 : Int) (a0_2 : Int) (a0_3 : Int) (a0_4 : Bool) : Option (Int × Int × Int × Int × Bool) :=
  some (a0_0, a0_1, a0_2, a0_3, a0_4)
theorem e87 (L : Nat) (a0_0 : Int) (a0_1 : Int) (a0_2 : Int) (a0_3 : Int) (a0_4 : Bool) : evF prog ev87 (loopN L) f87 (a87.enc (a0_0, a0_1, a0_2, a0_3, a0_4)) = (g87 L a0_0 a0_1 a0_2 a0_3 a0_4).map n87 := by
  rw [i87]; simp only [g87, map_bif, map_tst, Option.map_some, Option.map_none]
theorem s87 (m : (Int × Int × Int × Int × Bool) → Option (Int × Int × Int × Int × Bool)) (hm : ∀ (x : (Int × Int × Int × Int × Bool)) t, m x = some t → ∃ L, g87 L x.1 x.2.1 x.2.2.1 x.2.2.2.1 x.2.2.2.2 = some t) : Sat prog cxT 87 (c87 m) :=
  sat_t cxT_ok cxT_pok (by rfl) (fn := f87) rfl a87 n87 dd87 m ev87 kok_nil kwok_nil (fun L x => g87 L x.1 x.2.1 x.2.2.1 x.2.2.2.1 x.2.2.2.2) (fun L x => e87 L x.1 x.2.1 x.2.2.1 x.2.2.2.1 x.2.2.2.2) hm hs87
/-! loop.example/g00222/laws.toVip -/
def ev88 (m116 : (List Int) → Option (List Int)) : Env cxT := { Kc := kcOf [(116, c116 m116)], Kw := kwOf [], lv := fun i => [], xv := fun i => none }
theorem i88 (m116 : (List Int) → Option (List Int)) (L : Nat) (a0_0 : Int) (a0_1 : Int) (a0_2 : Int) (a0_3 : (List Int)) : evF prog (ev88 m116) (loopN L) f88 (a88.enc (a0_0, a0_1, a0_2, a0_3)) =
  tst (m116 a0_3) [] fun (q1 : (List Int)) => some (n88 (a0_0, a0_1, a0_2, q1)) := by kernel_rfl
def g88 (m116 : (List Int) → Option (List Int)) (L : Nat) (a0_0 : Int) (a0_1 : Int) (a0_2 : Int) (a0_3 : (List Int)) : Option (Int × Int × Int × (List Int)) :=
  tst (m116 a0_3) [] fun (q1 : (List Int)) => some (a0_0, a0_1, a0_2, q1)
theorem e88 (m116 : (List Int) → Option (List Int)) (L : Nat) (a0_0 : Int) (a0_1 : Int) (a0_2 : Int) (a0_3 : (List Int)) : evF prog (ev88 m116) (loopN L) f88 (a88.enc (a0_0, a0_1, a0_2, a0_3)) = (g88 m116 L a0_0 a0_1 a0_2 a0_3).map n88 := by
  rw [i88]; simp only [g88, map_bif, map_tst, Option.map_some, Option.map_none]
theorem s88 (m116 : (List Int) → Option (List Int)) (h116 : Sat prog cxT 116 (c116 m116)) (m : (Int × Int × Int × (List Int)) → Option (Int × Int × Int × (List Int))) (hm : ∀ (x : (Int × Int × Int × (List Int))) t, m x = some t → ∃ L, g88 m116 L x.1 x.2.1 x.2.2.1 x.2.2.2 = some t) : Sat prog cxT 88 (c88 m) :=
  sat_t cxT_ok cxT_pok (by rfl) (fn := f88) rfl a88 n88 dd88 m (ev88 m116) (kok_cons h116 kok_nil) kwok_nil (fun L x => g88 m116 L x.1 x.2.1 x.2.2.1 x.2.2.2) (fun L x => e88 m116 L x.1 x.2.1 x.2.2.1 x.2.2.2) hm hs88
/-! loop.example/g00222/impl.isAddress -/
def ev89 : Env cxT := { Kc := kcOf [], Kw := kwOf [], lv := fun i => [], xv := fun i => none }
theorem i89 (L : Nat) (a0 : Int) : evF prog ev89 (loopN L) f89 (a89.enc a0) =
  bif (decide (a0 ≥ (0 : Int))) then some (n89 (decide (a0 ≤ (4294967295 : Int))))
  else some (n89 Bool.false) := by kernel_rfl
def g89 (L : Nat) (a0 : Int) : Option Bool :=
  bif (decide (a0 ≥ (0 : Int))) then some (decide (a0 ≤ (4294967295 : Int)))
  else some Bool.false
theorem e89 (L : Nat) (a0 : Int) : evF prog ev89 (loopN L) f89 (a89.enc a0) = (g89 L a0).map n89 := by
  rw [i89]; simp only [g89, map_bif, map_tst, Option.map_some, Option.map_none]
theorem s89 (m : Int → Option Bool) (hm : ∀ (x : Int) t, m x = some t → ∃ L, g89 L x = some t) : Sat prog cxT 89 (c89 m) :=
  sat_t cxT_ok cxT_pok (by rfl) (fn := f89) rfl a89 n89 dd89 m ev89 kok_nil kwok_nil (fun L x => g89 L x) (fun L x => e89 L x) hm hs89
/-! loop.example/g00222/impl.isStage -/
def ev90 : Env cxT := { Kc := kcOf [], Kw := kwOf [], lv := fun i => [], xv := fun i => none }
theorem i90 (L : Nat) (a0 : Int) : evF prog ev90 (loopN L) f90 (a90.enc a0) =
  bif (decide (a0 ≥ (1 : Int))) then some (n90 (decide (a0 ≤ (3 : Int))))
  else some (n90 Bool.false) := by kernel_rfl
def g90 (L : Nat) (a0 : Int) : Option Bool :=
  bif (decide (a0 ≥ (1 : Int))) then some (decide (a0 ≤ (3 : Int)))
  else some Bool.false
theorem e90 (L : Nat) (a0 : Int) : evF prog ev90 (loopN L) f90 (a90.enc a0) = (g90 L a0).map n90 := by
  rw [i90]; simp only [g90, map_bif, map_tst, Option.map_some, Option.map_none]
theorem s90 (m : Int → Option Bool) (hm : ∀ (x : Int) t, m x = some t → ∃ L, g90 L x = some t) : Sat prog cxT 90 (c90 m) :=
  sat_t cxT_ok cxT_pok (by rfl) (fn := f90) rfl a90 n90 dd90 m ev90 kok_nil kwok_nil (fun L x => g90 L x) (fun L x => e90 L x) hm hs90
/-! loop.example/g00222/impl.isPort -/
def ev91 : Env cxT := { Kc := kcOf [], Kw := kwOf [], lv := fun i => [], xv := fun i => none }
theorem i91 (L : Nat) (a0 : Int) : evF prog ev91 (loopN L) f91 (a91.enc a0) =
  bif (decide (a0 ≥ (0 : Int))) then some (n91 (decide (a0 ≤ (65535 : Int))))
  else some (n91 Bool.false) := by kernel_rfl
def g91 (L : Nat) (a0 : Int) : Option Bool :=
  bif (decide (a0 ≥ (0 : Int))) then some (decide (a0 ≤ (65535 : Int)))
  else some Bool.false
theorem e91 (L : Nat) (a0 : Int) : evF prog ev91 (loopN L) f91 (a91.enc a0) = (g91 L a0).map n91 := by
  rw [i91]; simp only [g91, map_bif, map_tst, Option.map_some, Option.map_none]
theorem s91 (m : Int → Option Bool) (hm : ∀ (x : Int) t, m x = some t → ∃ L, g91 L x = some t) : Sat prog cxT 91 (c91 m) :=
  sat_t cxT_ok cxT_pok (by rfl) (fn := f91) rfl a91 n91 dd91 m ev91 kok_nil kwok_nil (fun L x => g91 L x) (fun L x => e91 L x) hm hs91
/-! loop.example/g00222/impl.isProto -/
def ev92 : Env cxT := { Kc := kcOf [], Kw := kwOf [], lv := fun i => [], xv := fun i => none }
theorem i92 (L : Nat) (a0 : Int) : evF prog ev92 (loopN L) f92 (a92.enc a0) =
  bif (a0 == (6 : Int)) then some (n92 Bool.true)
  else some (n92 (a0 == (17 : Int))) := by kernel_rfl
def g92 (L : Nat) (a0 : Int) : Option Bool :=
  bif (a0 == (6 : Int)) then some Bool.true
  else some (a0 == (17 : Int))
theorem e92 (L : Nat) (a0 : Int) : evF prog ev92 (loopN L) f92 (a92.enc a0) = (g92 L a0).map n92 := by
  rw [i92]; simp only [g92, map_bif, map_tst, Option.map_some, Option.map_none]
theorem s92 (m : Int → Option Bool) (hm : ∀ (x : Int) t, m x = some t → ∃ L, g92 L x = some t) : Sat prog cxT 92 (c92 m) :=
  sat_t cxT_ok cxT_pok (by rfl) (fn := f92) rfl a92 n92 dd92 m ev92 kok_nil kwok_nil (fun L x => g92 L x) (fun L x => e92 L x) hm hs92
/-! cmp.Or[int] -/
def ev93 : Env cxT := { Kc := kcOf [], Kw := kwOf [], lv := fun i => if i = 0 then [(3, []), (6, [some 3]), (7, []), (8, [])] else [], xv := fun i => if i = 0 then some [(3, [])] else none }
def S93_0 (a0 : (List Int)) (v0_8 : Int) : St cxT.ty := { slots := [junk, junk, junk, (.inl (.inl (lv (.int .i64 (0 : Int))))), junk, junk, (.inl (.inl (ls { own := 0, nm := 0, e := 3, o := false, xs := a0 }))), (.inl (.inl (lv (.int .i64 (Nat.cast (List.length a0) : Int))))), (.inl (.inl (lv (.int .i64 v0_8))))] ++ List.replicate 9 junk, D := [], F := [], ctr := 1 }
def X93_0 (a0 : (List Int)) : St cxT.ty := { slots := [junk, junk, junk, (.inl (.inl (lv (.int .i64 (0 : Int)))))] ++ List.replicate 14 junk, D := [], F := [], ctr := 1 }
theorem i93 (L : Nat) (a0 : (List Int)) : evF prog ev93 (loopN L) f93 (a93.enc a0) =
  headF prog ev93 L f93 0 [1, 1, 0, 1, 0, 0] (outK (outV prog f93) (topK prog ev93 L f93 [1, 1, 0, 1] (outV prog f93)).n (topK prog ev93 L f93 [1, 1, 0, 1] (outV prog f93)).x) L (S93_0 a0 (0 : Int)) := by kernel_rfl
theorem r93_0 (L : Nat) (a0 : (List Int)) (k : St cxT.ty → Option (V cxT.ty)) (xk : Nat → St cxT.ty → Option (V cxT.ty)) (g : St cxT.ty → Option (V cxT.ty)) (v0_8 : Int) : roundF prog ev93 L f93 0 [1, 1, 0, 1, 0, 0] (outK (outV prog f93) k xk) g (S93_0 a0 v0_8) =
  bif (decide (v0_8 < (Nat.cast (List.length a0) : Int))) then bif ((decide ((0 : Int) ≤ v0_8)) && (decide (v0_8 < (Nat.cast (List.length a0) : Int)))) then bif ((List.getD a0 (Int.toNat v0_8) (0 : Int)) != (0 : Int)) then some (n93 (List.getD a0 (Int.toNat v0_8) (0 : Int)))
      else g (S93_0 a0 (Go.IntKind.wrap Go.IntKind.i64 (v0_8 + (1 : Int))))
    else none
  else k (X93_0 a0) := by kernel_rfl
theorem t93_0 (L : Nat) (a0 : (List Int)) : (topK prog ev93 L f93 [1, 1, 0, 1] (outV prog f93)).n (X93_0 a0) =
  some (n93 (0 : Int)) := by kernel_rfl
def l93_0 (L : Nat) (a0 : (List Int)) : Nat → Int → (Option Int) → Option Int
  | 0, _, _ => none
  | n + 1, v0_8, k =>
    bif (decide (v0_8 < (Nat.cast (List.length a0) : Int))) then bif ((decide ((0 : Int) ≤ v0_8)) && (decide (v0_8 < (Nat.cast (List.length a0) : Int)))) then bif ((List.getD a0 (Int.toNat v0_8) (0 : Int)) != (0 : Int)) then some (List.getD a0 (Int.toNat v0_8) (0 : Int))
        else l93_0 L a0 n (Go.IntKind.wrap Go.IntKind.i64 (v0_8 + (1 : Int))) k
      else none
    else k
theorem h93_0 (L : Nat) (a0 : (List Int)) (k : St cxT.ty → Option (V cxT.ty)) (xk : Nat → St cxT.ty → Option (V cxT.ty)) (k' : Option Int) (hk : k (X93_0 a0) = (k').map n93) : ∀ (n : Nat) (v0_8 : Int), headF prog ev93 L f93 0 [1, 1, 0, 1, 0, 0] (outK (outV prog f93) k xk) n (S93_0 a0 v0_8) = (l93_0 L a0 n v0_8 k').map n93
  | 0, _ => rfl
  | n + 1, v0_8 => by
    rw [headF_round, r93_0]
    have ih := h93_0 L a0 k xk k' hk n
    simp only [l93_0, map_bif, map_tst, Option.map_some, Option.map_none, ih, hk]
def g93 (L : Nat) (a0 : (List Int)) : Option Int :=
  l93_0 L a0 L (0 : Int) (some (0 : Int))
theorem e93 (L : Nat) (a0 : (List Int)) : evF prog ev93 (loopN L) f93 (a93.enc a0) = (g93 L a0).map n93 := by
  let K'0 : Option Int := (some (0 : Int))
  have hin0 : ∀ (v0_8 : Int), headF prog ev93 L f93 0 [1, 1, 0, 1, 0, 0] (outK (outV prog f93) (topK prog ev93 L f93 [1, 1, 0, 1] (outV prog f93)).n (topK prog ev93 L f93 [1, 1, 0, 1] (outV prog f93)).x) L (S93_0 a0 v0_8) = (l93_0 L a0 L v0_8 K'0).map n93 := fun v0_8 => h93_0 L a0 _ _ K'0 (by rw [t93_0]; simp only [K'0, map_bif, map_tst, Option.map_some, Option.map_none]) L v0_8
  rw [i93]; simp only [g93, map_bif, map_tst, Option.map_some, Option.map_none, hin0, K'0]
theorem s93 (m : (List Int) → Option Int) (hm : ∀ (x : (List Int)) t, m x = some t → ∃ L, g93 L x = some t) : Sat prog cxT 93 (c93 m) :=
  sat_t cxT_ok cxT_pok (by rfl) (fn := f93) rfl a93 n93 dd93 m ev93 kok_nil kwok_nil (fun L x => g93 L x) (fun L x => e93 L x) hm hs93
/-! loop.example/g00222/spec.l2Port -/
def ev95 (m41 : (Int × Int × Int) → Option Bool) : Env cxT := { Kc := kcOf [(41, c41 m41)], Kw := kwOf [], lv := fun i => [], xv := fun i => none }
theorem i95 (m41 : (Int × Int × Int) → Option Bool) (L : Nat) (a0 : Int) : evF prog (ev95 m41) (loopN L) f95 (a95.enc a0) =
  tst (m41 (a0, ((0 : Int), (65535 : Int)))) false fun (q1 : Bool) => some (n95 q1) := by kernel_rfl
def g95 (m41 : (Int × Int × Int) → Option Bool) (L : Nat) (a0 : Int) : Option Bool :=
  tst (m41 (a0, ((0 : Int), (65535 : Int)))) false fun (q1 : Bool) => some q1
theorem e95 (m41 : (Int × Int × Int) → Option Bool) (L : Nat) (a0 : Int) : evF prog (ev95 m41) (loopN L) f95 (a95.enc a0) = (g95 m41 L a0).map n95 := by
  rw [i95]; simp only [g95, map_bif, map_tst, Option.map_some, Option.map_none]
theorem s95 (m41 : (Int × Int × Int) → Option Bool) (h41 : Sat prog cxT 41 (c41 m41)) (m : Int → Option Bool) (hm : ∀ (x : Int) t, m x = some t → ∃ L, g95 m41 L x = some t) : Sat prog cxT 95 (c95 m) :=
  sat_t cxT_ok cxT_pok (by rfl) (fn := f95) rfl a95 n95 dd95 m (ev95 m41) (kok_cons h41 kok_nil) kwok_nil (fun L x => g95 m41 L x) (fun L x => e95 m41 L x) hm hs95
/-! cmp.isNaN[int64] -/
def ev114 : Env cxT := { Kc := kcOf [], Kw := kwOf [], lv := fun i => [], xv := fun i => none }
theorem i114 (L : Nat) (a0 : Int) : evF prog ev114 (loopN L) f114 (a114.enc a0) =
  some (n114 (a0 != a0)) := by kernel_rfl
def g114 (L : Nat) (a0 : Int) : Option Bool :=
  some (a0 != a0)
theorem e114 (L : Nat) (a0 : Int) : evF prog ev114 (loopN L) f114 (a114.enc a0) = (g114 L a0).map n114 := by
  rw [i114]; simp only [g114, map_bif, map_tst, Option.map_some, Option.map_none]
theorem s114 (m : Int → Option Bool) (hm : ∀ (x : Int) t, m x = some t → ∃ L, g114 L x = some t) : Sat prog cxT 114 (c114 m) :=
  sat_t cxT_ok cxT_pok (by rfl) (fn := f114) rfl a114 n114 dd114 m ev114 kok_nil kwok_nil (fun L x => g114 L x) (fun L x => e114 L x) hm hs114
/-! loop.example/g00222/laws.szInt64S -/
def ev115 : Env cxT := { Kc := kcOf [], Kw := kwOf [], lv := fun i => [], xv := fun i => none }
theorem i115 (L : Nat) (a0 : (List Int)) (a1 : Int) : evF prog ev115 (loopN L) f115 (a115.enc (a0, a1)) =
  bif (decide ((Go.IntKind.wrap Go.IntKind.i64 (a1 - (Nat.cast (List.length a0) : Int))) < (0 : Int))) then some (n115 (-(1 : Int)))
  else some (n115 (Go.IntKind.wrap Go.IntKind.i64 (a1 - (Nat.cast (List.length a0) : Int)))) := by kernel_rfl
def g115 (L : Nat) (a0 : (List Int)) (a1 : Int) : Option Int :=
  bif (decide ((Go.IntKind.wrap Go.IntKind.i64 (a1 - (Nat.cast (List.length a0) : Int))) < (0 : Int))) then some (-(1 : Int))
  else some (Go.IntKind.wrap Go.IntKind.i64 (a1 - (Nat.cast (List.length a0) : Int)))
theorem e115 (L : Nat) (a0 : (List Int)) (a1 : Int) : evF prog ev115 (loopN L) f115 (a115.enc (a0, a1)) = (g115 L a0 a1).map n115 := by
  rw [i115]; simp only [g115, map_bif, map_tst, Option.map_some, Option.map_none]
theorem s115 (m : ((List Int) × Int) → Option Int) (hm : ∀ (x : ((List Int) × Int)) t, m x = some t → ∃ L, g115 L x.1 x.2 = some t) : Sat prog cxT 115 (c115 m) :=
  sat_t cxT_ok cxT_pok (by rfl) (fn := f115) rfl a115 n115 dd115 m ev115 kok_nil kwok_nil (fun L x => g115 L x.1 x.2) (fun L x => e115 L x.1 x.2) hm hs115
/-! loop.example/g00222/laws.toInt64S -/
def ev116 : Env cxT := { Kc := kcOf [], Kw := kwOf [], lv := fun i => if i = 0 then [(0, [some 2]), (3, [some 2]), (4, [])] else [], xv := fun i => if i = 0 then some [(3, [some 2])] else none }
def S116_0 (a0 : (List Int)) (v0_3 : (List Int)) (v0_4 : Int) : St cxT.ty := { slots := [(.inl (.inl (ls { own := 0, nm := 0, e := 2, o := false, xs := a0 }))), junk, junk, (.inl (.inl (ls { own := 1, nm := 192, e := 2, o := true, xs := v0_3 }))), (.inl (.inl (lv (.int .i64 v0_4))))] ++ List.replicate 17 junk, D := [], F := [], ctr := 1 }
def X116_0 (a0 : (List Int)) (w0_3 : (List Int)) : St cxT.ty := { slots := [junk, junk, junk, (.inl (.inl (ls { own := 1, nm := 192, e := 2, o := true, xs := w0_3 })))] ++ List.replicate 18 junk, D := [], F := [], ctr := 1 }
theorem i116 (L : Nat) (a0 : (List Int)) : evF prog ev116 (loopN L) f116 (a116.enc a0) =
  bif (((decide ((0 : Int) ≤ (Nat.cast (List.length a0) : Int))) && (decide ((Nat.cast (List.length a0) : Int) ≤ (Nat.cast (List.length a0) : Int)))) && (decide ((Nat.cast (List.length a0) : Int) ≤ (1000000000 : Int)))) then headF prog ev116 L f116 0 [1, 1, 0, 1, 0, 0] (outK (outV prog f116) (topK prog ev116 L f116 [1, 1, 0, 1] (outV prog f116)).n (topK prog ev116 L f116 [1, 1, 0, 1] (outV prog f116)).x) L (S116_0 a0 (List.replicate (Int.toNat (Nat.cast (List.length a0) : Int)) (0 : Int)) (0 : Int))
  else none := by kernel_rfl
theorem r116_0 (L : Nat) (a0 : (List Int)) (k : St cxT.ty → Option (V cxT.ty)) (xk : Nat → St cxT.ty → Option (V cxT.ty)) (g : St cxT.ty → Option (V cxT.ty)) (v0_3 : (List Int)) (v0_4 : Int) : roundF prog ev116 L f116 0 [1, 1, 0, 1, 0, 0] (outK (outV prog f116) k xk) g (S116_0 a0 v0_3 v0_4) =
  bif (decide (v0_4 < (Nat.cast (List.length a0) : Int))) then bif ((decide ((0 : Int) ≤ v0_4)) && (decide (v0_4 < (Nat.cast (List.length a0) : Int)))) then bif ((decide ((0 : Int) ≤ v0_4)) && (decide (v0_4 < (Nat.cast (List.length v0_3) : Int)))) then g (S116_0 a0 (List.set v0_3 (Int.toNat v0_4) (List.getD a0 (Int.toNat v0_4) (0 : Int))) (Go.IntKind.wrap Go.IntKind.i64 (v0_4 + (1 : Int))))
      else none
    else none
  else k (X116_0 a0 v0_3) := by kernel_rfl
theorem t116_0 (L : Nat) (a0 : (List Int)) (w0_3 : (List Int)) : (topK prog ev116 L f116 [1, 1, 0, 1] (outV prog f116)).n (X116_0 a0 w0_3) =
  some (n116 w0_3) := by kernel_rfl
def l116_0 (L : Nat) (a0 : (List Int)) : Nat → (List Int) → Int → ((List Int) → Option (List Int)) → Option (List Int)
  | 0, _, _, _ => none
  | n + 1, v0_3, v0_4, k =>
    bif (decide (v0_4 < (Nat.cast (List.length a0) : Int))) then bif ((decide ((0 : Int) ≤ v0_4)) && (decide (v0_4 < (Nat.cast (List.length a0) : Int)))) then bif ((decide ((0 : Int) ≤ v0_4)) && (decide (v0_4 < (Nat.cast (List.length v0_3) : Int)))) then l116_0 L a0 n (List.set v0_3 (Int.toNat v0_4) (List.getD a0 (Int.toNat v0_4) (0 : Int))) (Go.IntKind.wrap Go.IntKind.i64 (v0_4 + (1 : Int))) k
        else none
      else none
    else k v0_3
theorem h116_0 (L : Nat) (a0 : (List Int)) (k : St cxT.ty → Option (V cxT.ty)) (xk : Nat → St cxT.ty → Option (V cxT.ty)) (k' : (List Int) → Option (List Int)) (hk : ∀ (w0_3 : (List Int)), k (X116_0 a0 w0_3) = (k' w0_3).map n116) : ∀ (n : Nat) (v0_3 : (List Int)) (v0_4 : Int), headF prog ev116 L f116 0 [1, 1, 0, 1, 0, 0] (outK (outV prog f116) k xk) n (S116_0 a0 v0_3 v0_4) = (l116_0 L a0 n v0_3 v0_4 k').map n116
  | 0, _, _ => rfl
  | n + 1, v0_3, v0_4 => by
    rw [headF_round, r116_0]
    have ih := h116_0 L a0 k xk k' hk n
    simp only [l116_0, map_bif, map_tst, Option.map_some, Option.map_none, ih, hk]
def g116 (L : Nat) (a0 : (List Int)) : Option (List Int) :=
  bif (((decide ((0 : Int) ≤ (Nat.cast (List.length a0) : Int))) && (decide ((Nat.cast (List.length a0) : Int) ≤ (Nat.cast (List.length a0) : Int)))) && (decide ((Nat.cast (List.length a0) : Int) ≤ (1000000000 : Int)))) then l116_0 L a0 L (List.replicate (Int.toNat (Nat.cast (List.length a0) : Int)) (0 : Int)) (0 : Int) (fun (w0_3 : (List Int)) => some w0_3)
  else none
theorem e116 (L : Nat) (a0 : (List Int)) : evF prog ev116 (loopN L) f116 (a116.enc a0) = (g116 L a0).map n116 := by
  let K'0 : (List Int) → Option (List Int) := (fun (w0_3 : (List Int)) => some w0_3)
  have hin0 : ∀ (v0_3 : (List Int)) (v0_4 : Int), headF prog ev116 L f116 0 [1, 1, 0, 1, 0, 0] (outK (outV prog f116) (topK prog ev116 L f116 [1, 1, 0, 1] (outV prog f116)).n (topK prog ev116 L f116 [1, 1, 0, 1] (outV prog f116)).x) L (S116_0 a0 v0_3 v0_4) = (l116_0 L a0 L v0_3 v0_4 K'0).map n116 := fun v0_3 v0_4 => h116_0 L a0 _ _ K'0 (fun w0_3 => by rw [t116_0]; simp only [K'0, map_bif, map_tst, Option.map_some, Option.map_none]) L v0_3 v0_4
  rw [i116]; simp only [g116, map_bif, map_tst, Option.map_some, Option.map_none, hin0, K'0]
theorem s116 (m : (List Int) → Option (List Int)) (hm : ∀ (x : (List Int)) t, m x = some t → ∃ L, g116 L x = some t) : Sat prog cxT 116 (c116 m) :=
  sat_t cxT_ok cxT_pok (by rfl) (fn := f116) rfl a116 n116 dd116 m ev116 kok_nil kwok_nil (fun L x => g116 L x) (fun L x => e116 L x) hm hs116
/-! loop.example/g00222/laws.eqInt64S -/
def ev117 : Env cxT := { Kc := kcOf [], Kw := kwOf [], lv := fun i => if i = 0 then [(0, [some 2]), (1, [some 2]), (5, [])] else [], xv := fun i => if i = 0 then some [] else none }
def S117_0 (a0 : (List Int)) (a1 : (List Int)) (v0_5 : Int) : St cxT.ty := { slots := [(.inl (.inl (ls { own := 0, nm := 0, e := 2, o := false, xs := a0 }))), (.inl (.inl (ls { own := 0, nm := 0, e := 2, o := false, xs := a1 }))), junk, junk, junk, (.inl (.inl (lv (.int .i64 v0_5))))] ++ List.replicate 20 junk, D := [], F := [], ctr := 1 }
def X117_0 (a0 : (List Int)) (a1 : (List Int)) : St cxT.ty := { slots := [] ++ List.replicate 26 junk, D := [], F := [], ctr := 1 }
theorem i117 (L : Nat) (a0 : (List Int)) (a1 : (List Int)) : evF prog ev117 (loopN L) f117 (a117.enc (a0, a1)) =
  bif ((Nat.cast (List.length a0) : Int) != (Nat.cast (List.length a1) : Int)) then some (n117 Bool.false)
  else headF prog ev117 L f117 0 [1, 1, 0, 1, 0, 0] (outK (outV prog f117) (topK prog ev117 L f117 [1, 1, 0, 1] (outV prog f117)).n (topK prog ev117 L f117 [1, 1, 0, 1] (outV prog f117)).x) L (S117_0 a0 a1 (0 : Int)) := by kernel_rfl
theorem r117_0 (L : Nat) (a0 : (List Int)) (a1 : (List Int)) (k : St cxT.ty → Option (V cxT.ty)) (xk : Nat → St cxT.ty → Option (V cxT.ty)) (g : St cxT.ty → Option (V cxT.ty)) (v0_5 : Int) : roundF prog ev117 L f117 0 [1, 1, 0, 1, 0, 0] (outK (outV prog f117) k xk) g (S117_0 a0 a1 v0_5) =
  bif (decide (v0_5 < (Nat.cast (List.length a0) : Int))) then bif ((decide ((0 : Int) ≤ v0_5)) && (decide (v0_5 < (Nat.cast (List.length a0) : Int)))) then bif ((decide ((0 : Int) ≤ v0_5)) && (decide (v0_5 < (Nat.cast (List.length a1) : Int)))) then bif ((List.getD a0 (Int.toNat v0_5) (0 : Int)) != (List.getD a1 (Int.toNat v0_5) (0 : Int))) then some (n117 Bool.false)
        else g (S117_0 a0 a1 (Go.IntKind.wrap Go.IntKind.i64 (v0_5 + (1 : Int))))
      else none
    else none
  else k (X117_0 a0 a1) := by kernel_rfl
theorem t117_0 (L : Nat) (a0 : (List Int)) (a1 : (List Int)) : (topK prog ev117 L f117 [1, 1, 0, 1] (outV prog f117)).n (X117_0 a0 a1) =
  some (n117 Bool.true) := by kernel_rfl
def l117_0 (L : Nat) (a0 : (List Int)) (a1 : (List Int)) : Nat → Int → (Option Bool) → Option Bool
  | 0, _, _ => none
  | n + 1, v0_5, k =>
    bif (decide (v0_5 < (Nat.cast (List.length a0) : Int))) then bif ((decide ((0 : Int) ≤ v0_5)) && (decide (v0_5 < (Nat.cast (List.length a0) : Int)))) then bif ((decide ((0 : Int) ≤ v0_5)) && (decide (v0_5 < (Nat.cast (List.length a1) : Int)))) then bif ((List.getD a0 (Int.toNat v0_5) (0 : Int)) != (List.getD a1 (Int.toNat v0_5) (0 : Int))) then some Bool.false
          else l117_0 L a0 a1 n (Go.IntKind.wrap Go.IntKind.i64 (v0_5 + (1 : Int))) k
        else none
      else none
    else k
theorem h117_0 (L : Nat) (a0 : (List Int)) (a1 : (List Int)) (k : St cxT.ty → Option (V cxT.ty)) (xk : Nat → St cxT.ty → Option (V cxT.ty)) (k' : Option Bool) (hk : k (X117_0 a0 a1) = (k').map n117) : ∀ (n : Nat) (v0_5 : Int), headF prog ev117 L f117 0 [1, 1, 0, 1, 0, 0] (outK (outV prog f117) k xk) n (S117_0 a0 a1 v0_5) = (l117_0 L a0 a1 n v0_5 k').map n117
  | 0, _ => rfl
  | n + 1, v0_5 => by
    rw [headF_round, r117_0]
    have ih := h117_0 L a0 a1 k xk k' hk n
    simp only [l117_0, map_bif, map_tst, Option.map_some, Option.map_none, ih, hk]
def g117 (L : Nat) (a0 : (List Int)) (a1 : (List Int)) : Option Bool :=
  bif ((Nat.cast (List.length a0) : Int) != (Nat.cast (List.length a1) : Int)) then some Bool.false
  else l117_0 L a0 a1 L (0 : Int) (some Bool.true)
theorem e117 (L : Nat) (a0 : (List Int)) (a1 : (List Int)) : evF prog ev117 (loopN L) f117 (a117.enc (a0, a1)) = (g117 L a0 a1).map n117 := by
  let K'0 : Option Bool := (some Bool.true)
  have hin0 : ∀ (v0_5 : Int), headF prog ev117 L f117 0 [1, 1, 0, 1, 0, 0] (outK (outV prog f117) (topK prog ev117 L f117 [1, 1, 0, 1] (outV prog f117)).n (topK prog ev117 L f117 [1, 1, 0, 1] (outV prog f117)).x) L (S117_0 a0 a1 v0_5) = (l117_0 L a0 a1 L v0_5 K'0).map n117 := fun v0_5 => h117_0 L a0 a1 _ _ K'0 (by rw [t117_0]; simp only [K'0, map_bif, map_tst, Option.map_some, Option.map_none]) L v0_5
  rw [i117]; simp only [g117, map_bif, map_tst, Option.map_some, Option.map_none, hin0, K'0]
theorem s117 (m : ((List Int) × (List Int)) → Option Bool) (hm : ∀ (x : ((List Int) × (List Int))) t, m x = some t → ∃ L, g117 L x.1 x.2 = some t) : Sat prog cxT 117 (c117 m) :=
  sat_t cxT_ok cxT_pok (by rfl) (fn := f117) rfl a117 n117 dd117 m ev117 kok_nil kwok_nil (fun L x => g117 L x.1 x.2) (fun L x => e117 L x.1 x.2) hm hs117
/-! loop.example/g00222/impl.compareVips -/
def ev53 (m85 : (Int × Int) → Option Int) (m93 : (List Int) → Option Int) : Env cxT := { Kc := kcOf [(85, c85 m85), (93, c93 m93)], Kw := kwOf [], lv := fun i => [], xv := fun i => none }
theorem i53 (m85 : (Int × Int) → Option Int) (m93 : (List Int) → Option Int) (L : Nat) (a0_0 : Int) (a0_1 : Int) (a0_2 : Int) (a0_3 : (List Int)) (a1_0 : Int) (a1_1 : Int) (a1_2 : Int) (a1_3 : (List Int)) : evF prog (ev53 m85 m93) (loopN L) f53 (a53.enc ((a0_0, a0_1, a0_2, a0_3), (a1_0, a1_1, a1_2, a1_3))) =
  tst (m85 (a0_0, a1_0)) (0 : Int) fun (q1 : Int) => tst (m85 (a0_1, a1_1)) (0 : Int) fun (q2 : Int) => tst (m85 (a0_2, a1_2)) (0 : Int) fun (q3 : Int) => tst (m93 (List.cons q1 (List.cons q2 (List.cons q3 ([] : List (Int)))))) (0 : Int) fun (q4 : Int) => some (n53 q4) := by kernel_rfl
def g53 (m85 : (Int × Int) → Option Int) (m93 : (List Int) → Option Int) (L : Nat) (a0_0 : Int) (a0_1 : Int) (a0_2 : Int) (a0_3 : (List Int)) (a1_0 : Int) (a1_1 : Int) (a1_2 : Int) (a1_3 : (List Int)) : Option Int :=
  tst (m85 (a0_0, a1_0)) (0 : Int) fun (q1 : Int) => tst (m85 (a0_1, a1_1)) (0 : Int) fun (q2 : Int) => tst (m85 (a0_2, a1_2)) (0 : Int) fun (q3 : Int) => tst (m93 (List.cons q1 (List.cons q2 (List.cons q3 ([] : List (Int)))))) (0 : Int) fun (q4 : Int) => some q4
theorem e53 (m85 : (Int × Int) → Option Int) (m93 : (List Int) → Option Int) (L : Nat) (a0_0 : Int) (a0_1 : Int) (a0_2 : Int) (a0_3 : (List Int)) (a1_0 : Int) (a1_1 : Int) (a1_2 : Int) (a1_3 : (List Int)) : evF prog (ev53 m85 m93) (loopN L) f53 (a53.enc ((a0_0, a0_1, a0_2, a0_3), (a1_0, a1_1, a1_2, a1_3))) = (g53 m85 m93 L a0_0 a0_1 a0_2 a0_3 a1_0 a1_1 a1_2 a1_3).map n53 := by
  rw [i53]; simp only [g53, map_bif, map_tst, Option.map_some, Option.map_none]
theorem s53 (m85 : (Int × Int) → Option Int) (m93 : (List Int) → Option Int) (h85 : Sat prog cxT 85 (c85 m85)) (h93 : Sat prog cxT 93 (c93 m93)) (m : ((Int × Int × Int × (List Int)) × (Int × Int × Int × (List Int))) → Option Int) (hm : ∀ (x : ((Int × Int × Int × (List Int)) × (Int × Int × Int × (List Int)))) t, m x = some t → ∃ L, g53 m85 m93 L x.1.1 x.1.2.1 x.1.2.2.1 x.1.2.2.2 x.2.1 x.2.2.1 x.2.2.2.1 x.2.2.2.2 = some t) : Sat prog cxT 53 (c53 m) :=
  sat_t cxT_ok cxT_pok (by rfl) (fn := f53) rfl a53 n53 dd53 m (ev53 m85 m93) (kok_cons h85 (kok_cons h93 kok_nil)) kwok_nil (fun L x => g53 m85 m93 L x.1.1 x.1.2.1 x.1.2.2.1 x.1.2.2.2 x.2.1 x.2.2.1 x.2.2.2.1 x.2.2.2.2) (fun L x => e53 m85 m93 L x.1.1 x.1.2.1 x.1.2.2.1 x.1.2.2.2 x.2.1 x.2.2.1 x.2.2.2.1 x.2.2.2.2) hm hs53
end Go.Proofs.Try

set_option maxHeartbeats 0
set_option maxRecDepth 100000
set_option linter.unusedVariables false
set_option linter.unusedSimpArgs false
namespace Go.Proofs.Try
open Go Go.VM Go.RowKit
/-! loop.example/g00222/laws.szConfig -/
def ev17 (m46 : ((List (Int × (Int × (Int × (Int × Bool))))) × Int) → Option Int) (m47 : ((List (Int × (Int × (Int × (List Int))))) × Int) → Option Int) : Env cxT := { Kc := kcOf [(46, c46 m46), (47, c47 m47)], Kw := kwOf [], lv := fun i => [], xv := fun i => none }
theorem i17 (m46 : ((List (Int × (Int × (Int × (Int × Bool))))) × Int) → Option Int) (m47 : ((List (Int × (Int × (Int × (List Int))))) × Int) → Option Int) (L : Nat) (a0_0 : Int) (a0_1 : (List (Int × (Int × (Int × (Int × Bool)))))) (a0_2 : (List (Int × (Int × (Int × (List Int)))))) (a1 : Int) : evF prog (ev17 m46 m47) (loopN L) f17 (a17.enc ((a0_0, a0_1, a0_2), a1)) =
  tst (m46 (a0_1, a1)) (0 : Int) fun (q1 : Int) => bif (decide (q1 < (0 : Int))) then some (n17 (-(1 : Int)))
    else tst (m47 (a0_2, q1)) (0 : Int) fun (q2 : Int) => bif (decide (q2 < (0 : Int))) then some (n17 (-(1 : Int)))
      else some (n17 q2) := by kernel_rfl
def g17 (m46 : ((List (Int × (Int × (Int × (Int × Bool))))) × Int) → Option Int) (m47 : ((List (Int × (Int × (Int × (List Int))))) × Int) → Option Int) (L : Nat) (a0_0 : Int) (a0_1 : (List (Int × (Int × (Int × (Int × Bool)))))) (a0_2 : (List (Int × (Int × (Int × (List Int)))))) (a1 : Int) : Option Int :=
  tst (m46 (a0_1, a1)) (0 : Int) fun (q1 : Int) => bif (decide (q1 < (0 : Int))) then some (-(1 : Int))
    else tst (m47 (a0_2, q1)) (0 : Int) fun (q2 : Int) => bif (decide (q2 < (0 : Int))) then some (-(1 : Int))
      else some q2
theorem e17 (m46 : ((List (Int × (Int × (Int × (Int × Bool))))) × Int) → Option Int) (m47 : ((List (Int × (Int × (Int × (List Int))))) × Int) → Option Int) (L : Nat) (a0_0 : Int) (a0_1 : (List (Int × (Int × (Int × (Int × Bool)))))) (a0_2 : (List (Int × (Int × (Int × (List Int)))))) (a1 : Int) : evF prog (ev17 m46 m47) (loopN L) f17 (a17.enc ((a0_0, a0_1, a0_2), a1)) = (g17 m46 m47 L a0_0 a0_1 a0_2 a1).map n17 := by
  rw [i17]; simp only [g17, map_bif, map_tst, Option.map_some, Option.map_none]
theorem s17 (m46 : ((List (Int × (Int × (Int × (Int × Bool))))) × Int) → Option Int) (m47 : ((List (Int × (Int × (Int × (List Int))))) × Int) → Option Int) (h46 : Sat prog cxT 46 (c46 m46)) (h47 : Sat prog cxT 47 (c47 m47)) (m : ((Int × (List (Int × (Int × (Int × (Int × Bool))))) × (List (Int × (Int × (Int × (List Int)))))) × Int) → Option Int) (hm : ∀ (x : ((Int × (List (Int × (Int × (Int × (Int × Bool))))) × (List (Int × (Int × (Int × (List Int)))))) × Int)) t, m x = some t → ∃ L, g17 m46 m47 L x.1.1 x.1.2.1 x.1.2.2 x.2 = some t) : Sat prog cxT 17 (c17 m) :=
  sat_t cxT_ok cxT_pok (by rfl) (fn := f17) rfl a17 n17 dd17 m (ev17 m46 m47) (kok_cons h46 (kok_cons h47 kok_nil)) kwok_nil (fun L x => g17 m46 m47 L x.1.1 x.1.2.1 x.1.2.2 x.2) (fun L x => e17 m46 m47 L x.1.1 x.1.2.1 x.1.2.2 x.2) hm hs17
/-! loop.example/g00222/laws.toConfig -/
def ev19 (m48 : (List (Int × (Int × (Int × (Int × Bool))))) → Option (List (Int × (Int × (Int × (Int × Bool)))))) (m49 : (List (Int × (Int × (Int × (List Int))))) → Option (List (Int × (Int × (Int × (List Int)))))) : Env cxT := { Kc := kcOf [(48, c48 m48), (49, c49 m49)], Kw := kwOf [], lv := fun i => [], xv := fun i => none }
theorem i19 (m48 : (List (Int × (Int × (Int × (Int × Bool))))) → Option (List (Int × (Int × (Int × (Int × Bool)))))) (m49 : (List (Int × (Int × (Int × (List Int))))) → Option (List (Int × (Int × (Int × (List Int)))))) (L : Nat) (a0_0 : Int) (a0_1 : (List (Int × (Int × (Int × (Int × Bool)))))) (a0_2 : (List (Int × (Int × (Int × (List Int)))))) : evF prog (ev19 m48 m49) (loopN L) f19 (a19.enc (a0_0, a0_1, a0_2)) =
  tst (m48 a0_1) [] fun (q1 : (List (Int × (Int × (Int × (Int × Bool)))))) => tst (m49 a0_2) [] fun (q2 : (List (Int × (Int × (Int × (List Int)))))) => some (n19 (a0_0, q1, q2)) := by kernel_rfl
def g19 (m48 : (List (Int × (Int × (Int × (Int × Bool))))) → Option (List (Int × (Int × (Int × (Int × Bool)))))) (m49 : (List (Int × (Int × (Int × (List Int))))) → Option (List (Int × (Int × (Int × (List Int)))))) (L : Nat) (a0_0 : Int) (a0_1 : (List (Int × (Int × (Int × (Int × Bool)))))) (a0_2 : (List (Int × (Int × (Int × (List Int)))))) : Option (Int × (List (Int × (Int × (Int × (Int × Bool))))) × (List (Int × (Int × (Int × (List Int)))))) :=
  tst (m48 a0_1) [] fun (q1 : (List (Int × (Int × (Int × (Int × Bool)))))) => tst (m49 a0_2) [] fun (q2 : (List (Int × (Int × (Int × (List Int)))))) => some (a0_0, q1, q2)
theorem e19 (m48 : (List (Int × (Int × (Int × (Int × Bool))))) → Option (List (Int × (Int × (Int × (Int × Bool)))))) (m49 : (List (Int × (Int × (Int × (List Int))))) → Option (List (Int × (Int × (Int × (List Int)))))) (L : Nat) (a0_0 : Int) (a0_1 : (List (Int × (Int × (Int × (Int × Bool)))))) (a0_2 : (List (Int × (Int × (Int × (List Int)))))) : evF prog (ev19 m48 m49) (loopN L) f19 (a19.enc (a0_0, a0_1, a0_2)) = (g19 m48 m49 L a0_0 a0_1 a0_2).map n19 := by
  rw [i19]; simp only [g19, map_bif, map_tst, Option.map_some, Option.map_none]
theorem s19 (m48 : (List (Int × (Int × (Int × (Int × Bool))))) → Option (List (Int × (Int × (Int × (Int × Bool)))))) (m49 : (List (Int × (Int × (Int × (List Int))))) → Option (List (Int × (Int × (Int × (List Int)))))) (h48 : Sat prog cxT 48 (c48 m48)) (h49 : Sat prog cxT 49 (c49 m49)) (m : (Int × (List (Int × (Int × (Int × (Int × Bool))))) × (List (Int × (Int × (Int × (List Int)))))) → Option (Int × (List (Int × (Int × (Int × (Int × Bool))))) × (List (Int × (Int × (Int × (List Int))))))) (hm : ∀ (x : (Int × (List (Int × (Int × (Int × (Int × Bool))))) × (List (Int × (Int × (Int × (List Int))))))) t, m x = some t → ∃ L, g19 m48 m49 L x.1 x.2.1 x.2.2 = some t) : Sat prog cxT 19 (c19 m) :=
  sat_t cxT_ok cxT_pok (by rfl) (fn := f19) rfl a19 n19 dd19 m (ev19 m48 m49) (kok_cons h48 (kok_cons h49 kok_nil)) kwok_nil (fun L x => g19 m48 m49 L x.1 x.2.1 x.2.2) (fun L x => e19 m48 m49 L x.1 x.2.1 x.2.2) hm hs19
/-! loop.example/g00222/impl.ConfigFault -/
def ev20 (m50 : Int → Option Bool) (m51 : (Int × Int × Int × Int × Bool) → Option Bool) (m52 : (Int × Int × Int × (List Int)) → Option Bool) (m53 : ((Int × Int × Int × (List Int)) × (Int × Int × Int × (List Int))) → Option Int) (m54 : ((List Int) × (List (Int × (Int × (Int × (Int × Bool)))))) → Option Int) : Env cxT := { Kc := kcOf [(50, c50 m50), (51, c51 m51), (52, c52 m52), (53, c53 m53), (54, c54 m54)], Kw := kwOf [], lv := fun i => if i = 0 then [(1, [none, some 38, some 36]), (23, [some 38]), (24, []), (25, [])] else if i = 2 then [(1, [none, some 38, some 36]), (49, [some 36]), (50, []), (51, [])] else [], xv := fun i => if i = 0 then some [(1, [none, some 38, some 36])] else if i = 2 then some [] else none }
def S20_0 (a0_0 : Int) (a0_1 : (List (Int × (Int × (Int × (Int × Bool)))))) (a0_2 : (List (Int × (Int × (Int × (List Int)))))) (v0_1_0 : Int) (v0_1_1 : (List (Int × (Int × (Int × (Int × Bool)))))) (v0_1_2 : (List (Int × (Int × (Int × (List Int)))))) (v0_25 : Int) : St cxT.ty := { slots := [junk, (.inr (.inr { kind := 0, nm := 64, cells := [(lv (.int .i64 v0_1_0)), (ls { own := 0, nm := 0, e := 38, o := false, xs := v0_1_1 }), (ls { own := 0, nm := 0, e := 36, o := false, xs := v0_1_2 })], s := { own := 0, nm := 0, e := 0, o := false, xs := ([] : List (PUnit)) }, i := 0, off := 0 })), junk, junk, junk, junk, junk, junk, junk, junk, junk, junk, junk, junk, junk, junk, junk, junk, junk, junk, junk, junk, junk, (.inl (.inl (ls { own := 0, nm := 0, e := 38, o := false, xs := a0_1 }))), (.inl (.inl (lv (.int .i64 (Nat.cast (List.length a0_1) : Int))))), (.inl (.inl (lv (.int .i64 v0_25))))] ++ List.replicate 55 junk, D := [], F := [], ctr := 1 }
def X20_0 (a0_0 : Int) (a0_1 : (List (Int × (Int × (Int × (Int × Bool)))))) (a0_2 : (List (Int × (Int × (Int × (List Int)))))) (w0_1_0 : Int) (w0_1_1 : (List (Int × (Int × (Int × (Int × Bool)))))) (w0_1_2 : (List (Int × (Int × (Int × (List Int)))))) : St cxT.ty := { slots := [junk, (.inr (.inr { kind := 0, nm := 64, cells := [(lv (.int .i64 w0_1_0)), (ls { own := 0, nm := 0, e := 38, o := false, xs := w0_1_1 }), (ls { own := 0, nm := 0, e := 36, o := false, xs := w0_1_2 })], s := { own := 0, nm := 0, e := 0, o := false, xs := ([] : List (PUnit)) }, i := 0, off := 0 }))] ++ List.replicate 79 junk, D := [], F := [], ctr := 1 }
def S20_2 (a0_0 : Int) (a0_1 : (List (Int × (Int × (Int × (Int × Bool)))))) (a0_2 : (List (Int × (Int × (Int × (List Int)))))) (v2_1_0 : Int) (v2_1_1 : (List (Int × (Int × (Int × (Int × Bool)))))) (v2_1_2 : (List (Int × (Int × (Int × (List Int)))))) (v2_49 : (List (Int × (Int × (Int × (List Int)))))) (v2_50 : Int) (v2_51 : Int) : St cxT.ty := { slots := [junk, (.inr (.inr { kind := 0, nm := 64, cells := [(lv (.int .i64 v2_1_0)), (ls { own := 0, nm := 0, e := 38, o := false, xs := v2_1_1 }), (ls { own := 0, nm := 0, e := 36, o := false, xs := v2_1_2 })], s := { own := 0, nm := 0, e := 0, o := false, xs := ([] : List (PUnit)) }, i := 0, off := 0 })), junk, junk, junk, junk, junk, junk, junk, junk, junk, junk, junk, junk, junk, junk, junk, junk, junk, junk, junk, junk, junk, junk, junk, junk, junk, junk, junk, junk, junk, junk, junk, junk, junk, junk, junk, junk, junk, junk, junk, junk, junk, junk, junk, junk, junk, junk, junk, (.inl (.inl (ls { own := 0, nm := 0, e := 36, o := false, xs := v2_49 }))), (.inl (.inl (lv (.int .i64 v2_50)))), (.inl (.inl (lv (.int .i64 v2_51))))] ++ List.replicate 29 junk, D := [], F := [], ctr := 1 }
def X20_2 (a0_0 : Int) (a0_1 : (List (Int × (Int × (Int × (Int × Bool)))))) (a0_2 : (List (Int × (Int × (Int × (List Int)))))) : St cxT.ty := { slots := [] ++ List.replicate 81 junk, D := [], F := [], ctr := 1 }
theorem i20 (m50 : Int → Option Bool) (m51 : (Int × Int × Int × Int × Bool) → Option Bool) (m52 : (Int × Int × Int × (List Int)) → Option Bool) (m53 : ((Int × Int × Int × (List Int)) × (Int × Int × Int × (List Int))) → Option Int) (m54 : ((List Int) × (List (Int × (Int × (Int × (Int × Bool)))))) → Option Int) (L : Nat) (a0_0 : Int) (a0_1 : (List (Int × (Int × (Int × (Int × Bool)))))) (a0_2 : (List (Int × (Int × (Int × (List Int)))))) : evF prog (ev20 m50 m51 m52 m53 m54) (loopN L) f20 (a20.enc (a0_0, a0_1, a0_2)) =
  tst (m50 a0_0) false fun (q1 : Bool) => bif (!q1) then some (n20 (3 : Int))
    else bif (decide ((Nat.cast (List.length a0_1) : Int) > (8 : Int))) then some (n20 (2 : Int))
    else bif (decide ((Nat.cast (List.length a0_2) : Int) > (4 : Int))) then some (n20 (2 : Int))
    else headF prog (ev20 m50 m51 m52 m53 m54) L f20 0 [1, 1, 1, 0, 1, 0, 0] (outK (outV prog f20) (topK prog (ev20 m50 m51 m52 m53 m54) L f20 [1, 1, 1, 0, 1] (outV prog f20)).n (topK prog (ev20 m50 m51 m52 m53 m54) L f20 [1, 1, 1, 0, 1] (outV prog f20)).x) L (S20_0 a0_0 a0_1 a0_2 a0_0 a0_1 a0_2 (0 : Int)) := by kernel_rfl
theorem r20_0 (m50 : Int → Option Bool) (m51 : (Int × Int × Int × Int × Bool) → Option Bool) (m52 : (Int × Int × Int × (List Int)) → Option Bool) (m53 : ((Int × Int × Int × (List Int)) × (Int × Int × Int × (List Int))) → Option Int) (m54 : ((List Int) × (List (Int × (Int × (Int × (Int × Bool)))))) → Option Int) (L : Nat) (a0_0 : Int) (a0_1 : (List (Int × (Int × (Int × (Int × Bool)))))) (a0_2 : (List (Int × (Int × (Int × (List Int)))))) (k : St cxT.ty → Option (V cxT.ty)) (xk : Nat → St cxT.ty → Option (V cxT.ty)) (g : St cxT.ty → Option (V cxT.ty)) (v0_1_0 : Int) (v0_1_1 : (List (Int × (Int × (Int × (Int × Bool)))))) (v0_1_2 : (List (Int × (Int × (Int × (List Int)))))) (v0_25 : Int) : roundF prog (ev20 m50 m51 m52 m53 m54) L f20 0 [1, 1, 1, 0, 1, 0, 0] (outK (outV prog f20) k xk) g (S20_0 a0_0 a0_1 a0_2 v0_1_0 v0_1_1 v0_1_2 v0_25) =
  bif (decide (v0_25 < (Nat.cast (List.length a0_1) : Int))) then bif ((decide ((0 : Int) ≤ v0_25)) && (decide (v0_25 < (Nat.cast (List.length a0_1) : Int)))) then tst (m51 ((List.getD a0_1 (Int.toNat v0_25) ((0 : Int), ((0 : Int), ((0 : Int), ((0 : Int), Bool.false))))).1, ((List.getD a0_1 (Int.toNat v0_25) ((0 : Int), ((0 : Int), ((0 : Int), ((0 : Int), Bool.false))))).2.1, ((List.getD a0_1 (Int.toNat v0_25) ((0 : Int), ((0 : Int), ((0 : Int), ((0 : Int), Bool.false))))).2.2.1, ((List.getD a0_1 (Int.toNat v0_25) ((0 : Int), ((0 : Int), ((0 : Int), ((0 : Int), Bool.false))))).2.2.2.1, (List.getD a0_1 (Int.toNat v0_25) ((0 : Int), ((0 : Int), ((0 : Int), ((0 : Int), Bool.false))))).2.2.2.2))))) false fun (q3 : Bool) => bif (!q3) then some (n20 (3 : Int))
        else bif (decide (v0_25 > (0 : Int))) then bif ((decide ((0 : Int) ≤ (Go.IntKind.wrap Go.IntKind.i64 (v0_25 - (1 : Int))))) && (decide ((Go.IntKind.wrap Go.IntKind.i64 (v0_25 - (1 : Int))) < (Nat.cast (List.length v0_1_1) : Int)))) then bif (decide ((List.getD a0_1 (Int.toNat v0_25) ((0 : Int), ((0 : Int), ((0 : Int), ((0 : Int), Bool.false))))).1 ≤ (List.getD v0_1_1 (Int.toNat (Go.IntKind.wrap Go.IntKind.i64 (v0_25 - (1 : Int)))) ((0 : Int), ((0 : Int), ((0 : Int), ((0 : Int), Bool.false))))).1)) then some (n20 (1 : Int))
            else g (S20_0 a0_0 a0_1 a0_2 v0_1_0 v0_1_1 v0_1_2 (Go.IntKind.wrap Go.IntKind.i64 (v0_25 + (1 : Int))))
          else none
        else g (S20_0 a0_0 a0_1 a0_2 v0_1_0 v0_1_1 v0_1_2 (Go.IntKind.wrap Go.IntKind.i64 (v0_25 + (1 : Int))))
    else none
  else k (X20_0 a0_0 a0_1 a0_2 v0_1_0 v0_1_1 v0_1_2) := by kernel_rfl
theorem t20_0 (m50 : Int → Option Bool) (m51 : (Int × Int × Int × Int × Bool) → Option Bool) (m52 : (Int × Int × Int × (List Int)) → Option Bool) (m53 : ((Int × Int × Int × (List Int)) × (Int × Int × Int × (List Int))) → Option Int) (m54 : ((List Int) × (List (Int × (Int × (Int × (Int × Bool)))))) → Option Int) (L : Nat) (a0_0 : Int) (a0_1 : (List (Int × (Int × (Int × (Int × Bool)))))) (a0_2 : (List (Int × (Int × (Int × (List Int)))))) (w0_1_0 : Int) (w0_1_1 : (List (Int × (Int × (Int × (Int × Bool)))))) (w0_1_2 : (List (Int × (Int × (Int × (List Int)))))) : (topK prog (ev20 m50 m51 m52 m53 m54) L f20 [1, 1, 1, 0, 1] (outV prog f20)).n (X20_0 a0_0 a0_1 a0_2 w0_1_0 w0_1_1 w0_1_2) =
  headF prog (ev20 m50 m51 m52 m53 m54) L f20 2 [1, 1, 1, 1, 0, 1, 0, 0] (outK (outV prog f20) (topK prog (ev20 m50 m51 m52 m53 m54) L f20 [1, 1, 1, 1, 0, 1] (outV prog f20)).n (topK prog (ev20 m50 m51 m52 m53 m54) L f20 [1, 1, 1, 1, 0, 1] (outV prog f20)).x) L (S20_2 a0_0 a0_1 a0_2 w0_1_0 w0_1_1 w0_1_2 w0_1_2 (Nat.cast (List.length w0_1_2) : Int) (0 : Int)) := by kernel_rfl
theorem r20_2 (m50 : Int → Option Bool) (m51 : (Int × Int × Int × Int × Bool) → Option Bool) (m52 : (Int × Int × Int × (List Int)) → Option Bool) (m53 : ((Int × Int × Int × (List Int)) × (Int × Int × Int × (List Int))) → Option Int) (m54 : ((List Int) × (List (Int × (Int × (Int × (Int × Bool)))))) → Option Int) (L : Nat) (a0_0 : Int) (a0_1 : (List (Int × (Int × (Int × (Int × Bool)))))) (a0_2 : (List (Int × (Int × (Int × (List Int)))))) (k : St cxT.ty → Option (V cxT.ty)) (xk : Nat → St cxT.ty → Option (V cxT.ty)) (g : St cxT.ty → Option (V cxT.ty)) (v2_1_0 : Int) (v2_1_1 : (List (Int × (Int × (Int × (Int × Bool)))))) (v2_1_2 : (List (Int × (Int × (Int × (List Int)))))) (v2_49 : (List (Int × (Int × (Int × (List Int)))))) (v2_50 : Int) (v2_51 : Int) : roundF prog (ev20 m50 m51 m52 m53 m54) L f20 2 [1, 1, 1, 1, 0, 1, 0, 0] (outK (outV prog f20) k xk) g (S20_2 a0_0 a0_1 a0_2 v2_1_0 v2_1_1 v2_1_2 v2_49 v2_50 v2_51) =
  bif (decide (v2_51 < v2_50)) then bif ((decide ((0 : Int) ≤ v2_51)) && (decide (v2_51 < (Nat.cast (List.length v2_49) : Int)))) then tst (m52 ((List.getD v2_49 (Int.toNat v2_51) ((0 : Int), ((0 : Int), ((0 : Int), ([] : List (Int)))))).1, ((List.getD v2_49 (Int.toNat v2_51) ((0 : Int), ((0 : Int), ((0 : Int), ([] : List (Int)))))).2.1, ((List.getD v2_49 (Int.toNat v2_51) ((0 : Int), ((0 : Int), ((0 : Int), ([] : List (Int)))))).2.2.1, (List.getD v2_49 (Int.toNat v2_51) ((0 : Int), ((0 : Int), ((0 : Int), ([] : List (Int)))))).2.2.2)))) false fun (q3 : Bool) => bif (!q3) then some (n20 (3 : Int))
        else bif (decide (v2_51 > (0 : Int))) then bif ((decide ((0 : Int) ≤ (Go.IntKind.wrap Go.IntKind.i64 (v2_51 - (1 : Int))))) && (decide ((Go.IntKind.wrap Go.IntKind.i64 (v2_51 - (1 : Int))) < (Nat.cast (List.length v2_1_2) : Int)))) then tst (m53 (((List.getD v2_49 (Int.toNat v2_51) ((0 : Int), ((0 : Int), ((0 : Int), ([] : List (Int)))))).1, ((List.getD v2_49 (Int.toNat v2_51) ((0 : Int), ((0 : Int), ((0 : Int), ([] : List (Int)))))).2.1, ((List.getD v2_49 (Int.toNat v2_51) ((0 : Int), ((0 : Int), ((0 : Int), ([] : List (Int)))))).2.2.1, (List.getD v2_49 (Int.toNat v2_51) ((0 : Int), ((0 : Int), ((0 : Int), ([] : List (Int)))))).2.2.2))), ((List.getD v2_1_2 (Int.toNat (Go.IntKind.wrap Go.IntKind.i64 (v2_51 - (1 : Int)))) ((0 : Int), ((0 : Int), ((0 : Int), ([] : List (Int)))))).1, ((List.getD v2_1_2 (Int.toNat (Go.IntKind.wrap Go.IntKind.i64 (v2_51 - (1 : Int)))) ((0 : Int), ((0 : Int), ((0 : Int), ([] : List (Int)))))).2.1, ((List.getD v2_1_2 (Int.toNat (Go.IntKind.wrap Go.IntKind.i64 (v2_51 - (1 : Int)))) ((0 : Int), ((0 : Int), ((0 : Int), ([] : List (Int)))))).2.2.1, (List.getD v2_1_2 (Int.toNat (Go.IntKind.wrap Go.IntKind.i64 (v2_51 - (1 : Int)))) ((0 : Int), ((0 : Int), ((0 : Int), ([] : List (Int)))))).2.2.2))))) (0 : Int) fun (q6 : Int) => bif (decide (q6 ≤ (0 : Int))) then some (n20 (1 : Int))
              else tst (m54 ((List.getD v2_49 (Int.toNat v2_51) ((0 : Int), ((0 : Int), ((0 : Int), ([] : List (Int)))))).2.2.2, v2_1_1)) (0 : Int) fun (q7 : Int) => bif (q7 != (0 : Int)) then some (n20 q7)
                else g (S20_2 a0_0 a0_1 a0_2 v2_1_0 v2_1_1 v2_1_2 v2_49 v2_50 (Go.IntKind.wrap Go.IntKind.i64 (v2_51 + (1 : Int))))
          else none
        else tst (m54 ((List.getD v2_49 (Int.toNat v2_51) ((0 : Int), ((0 : Int), ((0 : Int), ([] : List (Int)))))).2.2.2, v2_1_1)) (0 : Int) fun (q4 : Int) => bif (q4 != (0 : Int)) then some (n20 q4)
          else g (S20_2 a0_0 a0_1 a0_2 v2_1_0 v2_1_1 v2_1_2 v2_49 v2_50 (Go.IntKind.wrap Go.IntKind.i64 (v2_51 + (1 : Int))))
    else none
  else k (X20_2 a0_0 a0_1 a0_2) := by kernel_rfl
theorem t20_2 (m50 : Int → Option Bool) (m51 : (Int × Int × Int × Int × Bool) → Option Bool) (m52 : (Int × Int × Int × (List Int)) → Option Bool) (m53 : ((Int × Int × Int × (List Int)) × (Int × Int × Int × (List Int))) → Option Int) (m54 : ((List Int) × (List (Int × (Int × (Int × (Int × Bool)))))) → Option Int) (L : Nat) (a0_0 : Int) (a0_1 : (List (Int × (Int × (Int × (Int × Bool)))))) (a0_2 : (List (Int × (Int × (Int × (List Int)))))) : (topK prog (ev20 m50 m51 m52 m53 m54) L f20 [1, 1, 1, 1, 0, 1] (outV prog f20)).n (X20_2 a0_0 a0_1 a0_2) =
  some (n20 (0 : Int)) := by kernel_rfl
def l20_2 (m50 : Int → Option Bool) (m51 : (Int × Int × Int × Int × Bool) → Option Bool) (m52 : (Int × Int × Int × (List Int)) → Option Bool) (m53 : ((Int × Int × Int × (List Int)) × (Int × Int × Int × (List Int))) → Option Int) (m54 : ((List Int) × (List (Int × (Int × (Int × (Int × Bool)))))) → Option Int) (L : Nat) (a0_0 : Int) (a0_1 : (List (Int × (Int × (Int × (Int × Bool)))))) (a0_2 : (List (Int × (Int × (Int × (List Int)))))) : Nat → Int → (List (Int × (Int × (Int × (Int × Bool))))) → (List (Int × (Int × (Int × (List Int))))) → (List (Int × (Int × (Int × (List Int))))) → Int → Int → (Option Int) → Option Int
  | 0, _, _, _, _, _, _, _ => none
  | n + 1, v2_1_0, v2_1_1, v2_1_2, v2_49, v2_50, v2_51, k =>
    bif (decide (v2_51 < v2_50)) then bif ((decide ((0 : Int) ≤ v2_51)) && (decide (v2_51 < (Nat.cast (List.length v2_49) : Int)))) then tst (m52 ((List.getD v2_49 (Int.toNat v2_51) ((0 : Int), ((0 : Int), ((0 : Int), ([] : List (Int)))))).1, ((List.getD v2_49 (Int.toNat v2_51) ((0 : Int), ((0 : Int), ((0 : Int), ([] : List (Int)))))).2.1, ((List.getD v2_49 (Int.toNat v2_51) ((0 : Int), ((0 : Int), ((0 : Int), ([] : List (Int)))))).2.2.1, (List.getD v2_49 (Int.toNat v2_51) ((0 : Int), ((0 : Int), ((0 : Int), ([] : List (Int)))))).2.2.2)))) false fun (q4 : Bool) => bif (!q4) then some (3 : Int)
          else bif (decide (v2_51 > (0 : Int))) then bif ((decide ((0 : Int) ≤ (Go.IntKind.wrap Go.IntKind.i64 (v2_51 - (1 : Int))))) && (decide ((Go.IntKind.wrap Go.IntKind.i64 (v2_51 - (1 : Int))) < (Nat.cast (List.length v2_1_2) : Int)))) then tst (m53 (((List.getD v2_49 (Int.toNat v2_51) ((0 : Int), ((0 : Int), ((0 : Int), ([] : List (Int)))))).1, ((List.getD v2_49 (Int.toNat v2_51) ((0 : Int), ((0 : Int), ((0 : Int), ([] : List (Int)))))).2.1, ((List.getD v2_49 (Int.toNat v2_51) ((0 : Int), ((0 : Int), ((0 : Int), ([] : List (Int)))))).2.2.1, (List.getD v2_49 (Int.toNat v2_51) ((0 : Int), ((0 : Int), ((0 : Int), ([] : List (Int)))))).2.2.2))), ((List.getD v2_1_2 (Int.toNat (Go.IntKind.wrap Go.IntKind.i64 (v2_51 - (1 : Int)))) ((0 : Int), ((0 : Int), ((0 : Int), ([] : List (Int)))))).1, ((List.getD v2_1_2 (Int.toNat (Go.IntKind.wrap Go.IntKind.i64 (v2_51 - (1 : Int)))) ((0 : Int), ((0 : Int), ((0 : Int), ([] : List (Int)))))).2.1, ((List.getD v2_1_2 (Int.toNat (Go.IntKind.wrap Go.IntKind.i64 (v2_51 - (1 : Int)))) ((0 : Int), ((0 : Int), ((0 : Int), ([] : List (Int)))))).2.2.1, (List.getD v2_1_2 (Int.toNat (Go.IntKind.wrap Go.IntKind.i64 (v2_51 - (1 : Int)))) ((0 : Int), ((0 : Int), ((0 : Int), ([] : List (Int)))))).2.2.2))))) (0 : Int) fun (q7 : Int) => bif (decide (q7 ≤ (0 : Int))) then some (1 : Int)
                else tst (m54 ((List.getD v2_49 (Int.toNat v2_51) ((0 : Int), ((0 : Int), ((0 : Int), ([] : List (Int)))))).2.2.2, v2_1_1)) (0 : Int) fun (q8 : Int) => bif (q8 != (0 : Int)) then some q8
                  else l20_2 m50 m51 m52 m53 m54 L a0_0 a0_1 a0_2 n v2_1_0 v2_1_1 v2_1_2 v2_49 v2_50 (Go.IntKind.wrap Go.IntKind.i64 (v2_51 + (1 : Int))) k
            else none
          else tst (m54 ((List.getD v2_49 (Int.toNat v2_51) ((0 : Int), ((0 : Int), ((0 : Int), ([] : List (Int)))))).2.2.2, v2_1_1)) (0 : Int) fun (q5 : Int) => bif (q5 != (0 : Int)) then some q5
            else l20_2 m50 m51 m52 m53 m54 L a0_0 a0_1 a0_2 n v2_1_0 v2_1_1 v2_1_2 v2_49 v2_50 (Go.IntKind.wrap Go.IntKind.i64 (v2_51 + (1 : Int))) k
      else none
    else k
theorem h20_2 (m50 : Int → Option Bool) (m51 : (Int × Int × Int × Int × Bool) → Option Bool) (m52 : (Int × Int × Int × (List Int)) → Option Bool) (m53 : ((Int × Int × Int × (List Int)) × (Int × Int × Int × (List Int))) → Option Int) (m54 : ((List Int) × (List (Int × (Int × (Int × (Int × Bool)))))) → Option Int) (L : Nat) (a0_0 : Int) (a0_1 : (List (Int × (Int × (Int × (Int × Bool)))))) (a0_2 : (List (Int × (Int × (Int × (List Int)))))) (k : St cxT.ty → Option (V cxT.ty)) (xk : Nat → St cxT.ty → Option (V cxT.ty)) (k' : Option Int) (hk : k (X20_2 a0_0 a0_1 a0_2) = (k').map n20) : ∀ (n : Nat) (v2_1_0 : Int) (v2_1_1 : (List (Int × (Int × (Int × (Int × Bool)))))) (v2_1_2 : (List (Int × (Int × (Int × (List Int)))))) (v2_49 : (List (Int × (Int × (Int × (List Int)))))) (v2_50 : Int) (v2_51 : Int), headF prog (ev20 m50 m51 m52 m53 m54) L f20 2 [1, 1, 1, 1, 0, 1, 0, 0] (outK (outV prog f20) k xk) n (S20_2 a0_0 a0_1 a0_2 v2_1_0 v2_1_1 v2_1_2 v2_49 v2_50 v2_51) = (l20_2 m50 m51 m52 m53 m54 L a0_0 a0_1 a0_2 n v2_1_0 v2_1_1 v2_1_2 v2_49 v2_50 v2_51 k').map n20
  | 0, _, _, _, _, _, _ => rfl
  | n + 1, v2_1_0, v2_1_1, v2_1_2, v2_49, v2_50, v2_51 => by
    rw [headF_round, r20_2]
    have ih := h20_2 m50 m51 m52 m53 m54 L a0_0 a0_1 a0_2 k xk k' hk n
    simp only [l20_2, map_bif, map_tst, Option.map_some, Option.map_none, ih, hk]
def l20_0 (m50 : Int → Option Bool) (m51 : (Int × Int × Int × Int × Bool) → Option Bool) (m52 : (Int × Int × Int × (List Int)) → Option Bool) (m53 : ((Int × Int × Int × (List Int)) × (Int × Int × Int × (List Int))) → Option Int) (m54 : ((List Int) × (List (Int × (Int × (Int × (Int × Bool)))))) → Option Int) (L : Nat) (a0_0 : Int) (a0_1 : (List (Int × (Int × (Int × (Int × Bool)))))) (a0_2 : (List (Int × (Int × (Int × (List Int)))))) : Nat → Int → (List (Int × (Int × (Int × (Int × Bool))))) → (List (Int × (Int × (Int × (List Int))))) → Int → (Int → (List (Int × (Int × (Int × (Int × Bool))))) → (List (Int × (Int × (Int × (List Int))))) → Option Int) → Option Int
  | 0, _, _, _, _, _ => none
  | n + 1, v0_1_0, v0_1_1, v0_1_2, v0_25, k =>
    bif (decide (v0_25 < (Nat.cast (List.length a0_1) : Int))) then bif ((decide ((0 : Int) ≤ v0_25)) && (decide (v0_25 < (Nat.cast (List.length a0_1) : Int)))) then tst (m51 ((List.getD a0_1 (Int.toNat v0_25) ((0 : Int), ((0 : Int), ((0 : Int), ((0 : Int), Bool.false))))).1, ((List.getD a0_1 (Int.toNat v0_25) ((0 : Int), ((0 : Int), ((0 : Int), ((0 : Int), Bool.false))))).2.1, ((List.getD a0_1 (Int.toNat v0_25) ((0 : Int), ((0 : Int), ((0 : Int), ((0 : Int), Bool.false))))).2.2.1, ((List.getD a0_1 (Int.toNat v0_25) ((0 : Int), ((0 : Int), ((0 : Int), ((0 : Int), Bool.false))))).2.2.2.1, (List.getD a0_1 (Int.toNat v0_25) ((0 : Int), ((0 : Int), ((0 : Int), ((0 : Int), Bool.false))))).2.2.2.2))))) false fun (q4 : Bool) => bif (!q4) then some (3 : Int)
          else bif (decide (v0_25 > (0 : Int))) then bif ((decide ((0 : Int) ≤ (Go.IntKind.wrap Go.IntKind.i64 (v0_25 - (1 : Int))))) && (decide ((Go.IntKind.wrap Go.IntKind.i64 (v0_25 - (1 : Int))) < (Nat.cast (List.length v0_1_1) : Int)))) then bif (decide ((List.getD a0_1 (Int.toNat v0_25) ((0 : Int), ((0 : Int), ((0 : Int), ((0 : Int), Bool.false))))).1 ≤ (List.getD v0_1_1 (Int.toNat (Go.IntKind.wrap Go.IntKind.i64 (v0_25 - (1 : Int)))) ((0 : Int), ((0 : Int), ((0 : Int), ((0 : Int), Bool.false))))).1)) then some (1 : Int)
              else l20_0 m50 m51 m52 m53 m54 L a0_0 a0_1 a0_2 n v0_1_0 v0_1_1 v0_1_2 (Go.IntKind.wrap Go.IntKind.i64 (v0_25 + (1 : Int))) k
            else none
          else l20_0 m50 m51 m52 m53 m54 L a0_0 a0_1 a0_2 n v0_1_0 v0_1_1 v0_1_2 (Go.IntKind.wrap Go.IntKind.i64 (v0_25 + (1 : Int))) k
      else none
    else k v0_1_0 v0_1_1 v0_1_2
theorem h20_0 (m50 : Int → Option Bool) (m51 : (Int × Int × Int × Int × Bool) → Option Bool) (m52 : (Int × Int × Int × (List Int)) → Option Bool) (m53 : ((Int × Int × Int × (List Int)) × (Int × Int × Int × (List Int))) → Option Int) (m54 : ((List Int) × (List (Int × (Int × (Int × (Int × Bool)))))) → Option Int) (L : Nat) (a0_0 : Int) (a0_1 : (List (Int × (Int × (Int × (Int × Bool)))))) (a0_2 : (List (Int × (Int × (Int × (List Int)))))) (k : St cxT.ty → Option (V cxT.ty)) (xk : Nat → St cxT.ty → Option (V cxT.ty)) (k' : Int → (List (Int × (Int × (Int × (Int × Bool))))) → (List (Int × (Int × (Int × (List Int))))) → Option Int) (hk : ∀ (w0_1_0 : Int) (w0_1_1 : (List (Int × (Int × (Int × (Int × Bool)))))) (w0_1_2 : (List (Int × (Int × (Int × (List Int)))))), k (X20_0 a0_0 a0_1 a0_2 w0_1_0 w0_1_1 w0_1_2) = (k' w0_1_0 w0_1_1 w0_1_2).map n20) : ∀ (n : Nat) (v0_1_0 : Int) (v0_1_1 : (List (Int × (Int × (Int × (Int × Bool)))))) (v0_1_2 : (List (Int × (Int × (Int × (List Int)))))) (v0_25 : Int), headF prog (ev20 m50 m51 m52 m53 m54) L f20 0 [1, 1, 1, 0, 1, 0, 0] (outK (outV prog f20) k xk) n (S20_0 a0_0 a0_1 a0_2 v0_1_0 v0_1_1 v0_1_2 v0_25) = (l20_0 m50 m51 m52 m53 m54 L a0_0 a0_1 a0_2 n v0_1_0 v0_1_1 v0_1_2 v0_25 k').map n20
  | 0, _, _, _, _ => rfl
  | n + 1, v0_1_0, v0_1_1, v0_1_2, v0_25 => by
    rw [headF_round, r20_0]
    have ih := h20_0 m50 m51 m52 m53 m54 L a0_0 a0_1 a0_2 k xk k' hk n
    simp only [l20_0, map_bif, map_tst, Option.map_some, Option.map_none, ih, hk]
def g20 (m50 : Int → Option Bool) (m51 : (Int × Int × Int × Int × Bool) → Option Bool) (m52 : (Int × Int × Int × (List Int)) → Option Bool) (m53 : ((Int × Int × Int × (List Int)) × (Int × Int × Int × (List Int))) → Option Int) (m54 : ((List Int) × (List (Int × (Int × (Int × (Int × Bool)))))) → Option Int) (L : Nat) (a0_0 : Int) (a0_1 : (List (Int × (Int × (Int × (Int × Bool)))))) (a0_2 : (List (Int × (Int × (Int × (List Int)))))) : Option Int :=
  tst (m50 a0_0) false fun (q1 : Bool) => bif (!q1) then some (3 : Int)
    else bif (decide ((Nat.cast (List.length a0_1) : Int) > (8 : Int))) then some (2 : Int)
    else bif (decide ((Nat.cast (List.length a0_2) : Int) > (4 : Int))) then some (2 : Int)
    else l20_0 m50 m51 m52 m53 m54 L a0_0 a0_1 a0_2 L a0_0 a0_1 a0_2 (0 : Int) (fun (w0_1_0 : Int) (w0_1_1 : (List (Int × (Int × (Int × (Int × Bool)))))) (w0_1_2 : (List (Int × (Int × (Int × (List Int)))))) => l20_2 m50 m51 m52 m53 m54 L a0_0 a0_1 a0_2 L w0_1_0 w0_1_1 w0_1_2 w0_1_2 (Nat.cast (List.length w0_1_2) : Int) (0 : Int) (some (0 : Int)))
theorem e20 (m50 : Int → Option Bool) (m51 : (Int × Int × Int × Int × Bool) → Option Bool) (m52 : (Int × Int × Int × (List Int)) → Option Bool) (m53 : ((Int × Int × Int × (List Int)) × (Int × Int × Int × (List Int))) → Option Int) (m54 : ((List Int) × (List (Int × (Int × (Int × (Int × Bool)))))) → Option Int) (L : Nat) (a0_0 : Int) (a0_1 : (List (Int × (Int × (Int × (Int × Bool)))))) (a0_2 : (List (Int × (Int × (Int × (List Int)))))) : evF prog (ev20 m50 m51 m52 m53 m54) (loopN L) f20 (a20.enc (a0_0, a0_1, a0_2)) = (g20 m50 m51 m52 m53 m54 L a0_0 a0_1 a0_2).map n20 := by
  let K'2 : Option Int := (some (0 : Int))
  have hin2 : ∀ (v2_1_0 : Int) (v2_1_1 : (List (Int × (Int × (Int × (Int × Bool)))))) (v2_1_2 : (List (Int × (Int × (Int × (List Int)))))) (v2_49 : (List (Int × (Int × (Int × (List Int)))))) (v2_50 : Int) (v2_51 : Int), headF prog (ev20 m50 m51 m52 m53 m54) L f20 2 [1, 1, 1, 1, 0, 1, 0, 0] (outK (outV prog f20) (topK prog (ev20 m50 m51 m52 m53 m54) L f20 [1, 1, 1, 1, 0, 1] (outV prog f20)).n (topK prog (ev20 m50 m51 m52 m53 m54) L f20 [1, 1, 1, 1, 0, 1] (outV prog f20)).x) L (S20_2 a0_0 a0_1 a0_2 v2_1_0 v2_1_1 v2_1_2 v2_49 v2_50 v2_51) = (l20_2 m50 m51 m52 m53 m54 L a0_0 a0_1 a0_2 L v2_1_0 v2_1_1 v2_1_2 v2_49 v2_50 v2_51 K'2).map n20 := fun v2_1_0 v2_1_1 v2_1_2 v2_49 v2_50 v2_51 => h20_2 m50 m51 m52 m53 m54 L a0_0 a0_1 a0_2 _ _ K'2 (by rw [t20_2]; simp only [K'2, map_bif, map_tst, Option.map_some, Option.map_none]) L v2_1_0 v2_1_1 v2_1_2 v2_49 v2_50 v2_51
  let K'0 : Int → (List (Int × (Int × (Int × (Int × Bool))))) → (List (Int × (Int × (Int × (List Int))))) → Option Int := (fun (w0_1_0 : Int) (w0_1_1 : (List (Int × (Int × (Int × (Int × Bool)))))) (w0_1_2 : (List (Int × (Int × (Int × (List Int)))))) => l20_2 m50 m51 m52 m53 m54 L a0_0 a0_1 a0_2 L w0_1_0 w0_1_1 w0_1_2 w0_1_2 (Nat.cast (List.length w0_1_2) : Int) (0 : Int) (some (0 : Int)))
  have hin0 : ∀ (v0_1_0 : Int) (v0_1_1 : (List (Int × (Int × (Int × (Int × Bool)))))) (v0_1_2 : (List (Int × (Int × (Int × (List Int)))))) (v0_25 : Int), headF prog (ev20 m50 m51 m52 m53 m54) L f20 0 [1, 1, 1, 0, 1, 0, 0] (outK (outV prog f20) (topK prog (ev20 m50 m51 m52 m53 m54) L f20 [1, 1, 1, 0, 1] (outV prog f20)).n (topK prog (ev20 m50 m51 m52 m53 m54) L f20 [1, 1, 1, 0, 1] (outV prog f20)).x) L (S20_0 a0_0 a0_1 a0_2 v0_1_0 v0_1_1 v0_1_2 v0_25) = (l20_0 m50 m51 m52 m53 m54 L a0_0 a0_1 a0_2 L v0_1_0 v0_1_1 v0_1_2 v0_25 K'0).map n20 := fun v0_1_0 v0_1_1 v0_1_2 v0_25 => h20_0 m50 m51 m52 m53 m54 L a0_0 a0_1 a0_2 _ _ K'0 (fun w0_1_0 w0_1_1 w0_1_2 => by rw [t20_0]; simp only [K'0, map_bif, map_tst, Option.map_some, Option.map_none, hin2, K'2]) L v0_1_0 v0_1_1 v0_1_2 v0_25
  rw [i20]; simp only [g20, map_bif, map_tst, Option.map_some, Option.map_none, hin2, K'2, hin0, K'0]
theorem s20 (m50 : Int → Option Bool) (m51 : (Int × Int × Int × Int × Bool) → Option Bool) (m52 : (Int × Int × Int × (List Int)) → Option Bool) (m53 : ((Int × Int × Int × (List Int)) × (Int × Int × Int × (List Int))) → Option Int) (m54 : ((List Int) × (List (Int × (Int × (Int × (Int × Bool)))))) → Option Int) (h50 : Sat prog cxT 50 (c50 m50)) (h51 : Sat prog cxT 51 (c51 m51)) (h52 : Sat prog cxT 52 (c52 m52)) (h53 : Sat prog cxT 53 (c53 m53)) (h54 : Sat prog cxT 54 (c54 m54)) (m : (Int × (List (Int × (Int × (Int × (Int × Bool))))) × (List (Int × (Int × (Int × (List Int)))))) → Option Int) (hm : ∀ (x : (Int × (List (Int × (Int × (Int × (Int × Bool))))) × (List (Int × (Int × (Int × (List Int))))))) t, m x = some t → ∃ L, g20 m50 m51 m52 m53 m54 L x.1 x.2.1 x.2.2 = some t) : Sat prog cxT 20 (c20 m) :=
  sat_t cxT_ok cxT_pok (by rfl) (fn := f20) rfl a20 n20 dd20 m (ev20 m50 m51 m52 m53 m54) (kok_cons h50 (kok_cons h51 (kok_cons h52 (kok_cons h53 (kok_cons h54 kok_nil))))) kwok_nil (fun L x => g20 m50 m51 m52 m53 m54 L x.1 x.2.1 x.2.2) (fun L x => e20 m50 m51 m52 m53 m54 L x.1 x.2.1 x.2.2) hm hs20
/-! loop.example/g00222/laws.eqConfig -/
def ev21 (m55 : ((List (Int × (Int × (Int × (Int × Bool))))) × (List (Int × (Int × (Int × (Int × Bool)))))) → Option Bool) (m56 : ((List (Int × (Int × (Int × (List Int))))) × (List (Int × (Int × (Int × (List Int)))))) → Option Bool) : Env cxT := { Kc := kcOf [(55, c55 m55), (56, c56 m56)], Kw := kwOf [], lv := fun i => [], xv := fun i => none }
theorem i21 (m55 : ((List (Int × (Int × (Int × (Int × Bool))))) × (List (Int × (Int × (Int × (Int × Bool)))))) → Option Bool) (m56 : ((List (Int × (Int × (Int × (List Int))))) × (List (Int × (Int × (Int × (List Int)))))) → Option Bool) (L : Nat) (a0_0 : Int) (a0_1 : (List (Int × (Int × (Int × (Int × Bool)))))) (a0_2 : (List (Int × (Int × (Int × (List Int)))))) (a1_0 : Int) (a1_1 : (List (Int × (Int × (Int × (Int × Bool)))))) (a1_2 : (List (Int × (Int × (Int × (List Int)))))) : evF prog (ev21 m55 m56) (loopN L) f21 (a21.enc ((a0_0, a0_1, a0_2), (a1_0, a1_1, a1_2))) =
  bif (a0_0 != a1_0) then some (n21 Bool.false)
  else tst (m55 (a0_1, a1_1)) false fun (q1 : Bool) => bif (!q1) then some (n21 Bool.false)
    else tst (m56 (a0_2, a1_2)) false fun (q2 : Bool) => bif (!q2) then some (n21 Bool.false)
      else some (n21 Bool.true) := by kernel_rfl
def g21 (m55 : ((List (Int × (Int × (Int × (Int × Bool))))) × (List (Int × (Int × (Int × (Int × Bool)))))) → Option Bool) (m56 : ((List (Int × (Int × (Int × (List Int))))) × (List (Int × (Int × (Int × (List Int)))))) → Option Bool) (L : Nat) (a0_0 : Int) (a0_1 : (List (Int × (Int × (Int × (Int × Bool)))))) (a0_2 : (List (Int × (Int × (Int × (List Int)))))) (a1_0 : Int) (a1_1 : (List (Int × (Int × (Int × (Int × Bool)))))) (a1_2 : (List (Int × (Int × (Int × (List Int)))))) : Option Bool :=
  bif (a0_0 != a1_0) then some Bool.false
  else tst (m55 (a0_1, a1_1)) false fun (q1 : Bool) => bif (!q1) then some Bool.false
    else tst (m56 (a0_2, a1_2)) false fun (q2 : Bool) => bif (!q2) then some Bool.false
      else some Bool.true
theorem e21 (m55 : ((List (Int × (Int × (Int × (Int × Bool))))) × (List (Int × (Int × (Int × (Int × Bool)))))) → Option Bool) (m56 : ((List (Int × (Int × (Int × (List Int))))) × (List (Int × (Int × (Int × (List Int)))))) → Option Bool) (L : Nat) (a0_0 : Int) (a0_1 : (List (Int × (Int × (Int × (Int × Bool)))))) (a0_2 : (List (Int × (Int × (Int × (List Int)))))) (a1_0 : Int) (a1_1 : (List (Int × (Int × (Int × (Int × Bool)))))) (a1_2 : (List (Int × (Int × (Int × (List Int)))))) : evF prog (ev21 m55 m56) (loopN L) f21 (a21.enc ((a0_0, a0_1, a0_2), (a1_0, a1_1, a1_2))) = (g21 m55 m56 L a0_0 a0_1 a0_2 a1_0 a1_1 a1_2).map n21 := by
  rw [i21]; simp only [g21, map_bif, map_tst, Option.map_some, Option.map_none]
theorem s21 (m55 : ((List (Int × (Int × (Int × (Int × Bool))))) × (List (Int × (Int × (Int × (Int × Bool)))))) → Option Bool) (m56 : ((List (Int × (Int × (Int × (List Int))))) × (List (Int × (Int × (Int × (List Int)))))) → Option Bool) (h55 : Sat prog cxT 55 (c55 m55)) (h56 : Sat prog cxT 56 (c56 m56)) (m : ((Int × (List (Int × (Int × (Int × (Int × Bool))))) × (List (Int × (Int × (Int × (List Int)))))) × (Int × (List (Int × (Int × (Int × (Int × Bool))))) × (List (Int × (Int × (Int × (List Int))))))) → Option Bool) (hm : ∀ (x : ((Int × (List (Int × (Int × (Int × (Int × Bool))))) × (List (Int × (Int × (Int × (List Int)))))) × (Int × (List (Int × (Int × (Int × (Int × Bool))))) × (List (Int × (Int × (Int × (List Int)))))))) t, m x = some t → ∃ L, g21 m55 m56 L x.1.1 x.1.2.1 x.1.2.2 x.2.1 x.2.2.1 x.2.2.2 = some t) : Sat prog cxT 21 (c21 m) :=
  sat_t cxT_ok cxT_pok (by rfl) (fn := f21) rfl a21 n21 dd21 m (ev21 m55 m56) (kok_cons h55 (kok_cons h56 kok_nil)) kwok_nil (fun L x => g21 m55 m56 L x.1.1 x.1.2.1 x.1.2.2 x.2.1 x.2.2.1 x.2.2.2) (fun L x => e21 m55 m56 L x.1.1 x.1.2.1 x.1.2.2 x.2.1 x.2.2.1 x.2.2.2) hm hs21
/-! loop.example/g00222/impl.backendPlace -/
def ev43 (m83 : ((List (Int × (Int × (Int × (Int × Bool))))) × Int × Unit) → Option (Int × Bool)) : Env cxT := { Kc := kcOf [(83, c83 m83)], Kw := kwOf [], lv := fun i => [], xv := fun i => none }
theorem i43 (m83 : ((List (Int × (Int × (Int × (Int × Bool))))) × Int × Unit) → Option (Int × Bool)) (L : Nat) (a0 : (List (Int × (Int × (Int × (Int × Bool)))))) (a1 : Int) : evF prog (ev43 m83) (loopN L) f43 (a43.enc (a0, a1)) =
  tst (m83 (a0, (a1, PUnit.unit))) ((0 : Int), false) fun (q1 : (Int × Bool)) => some (n43 (q1.1, q1.2)) := by kernel_rfl
def g43 (m83 : ((List (Int × (Int × (Int × (Int × Bool))))) × Int × Unit) → Option (Int × Bool)) (L : Nat) (a0 : (List (Int × (Int × (Int × (Int × Bool)))))) (a1 : Int) : Option (Int × Bool) :=
  tst (m83 (a0, (a1, PUnit.unit))) ((0 : Int), false) fun (q1 : (Int × Bool)) => some (q1.1, q1.2)
theorem e43 (m83 : ((List (Int × (Int × (Int × (Int × Bool))))) × Int × Unit) → Option (Int × Bool)) (L : Nat) (a0 : (List (Int × (Int × (Int × (Int × Bool)))))) (a1 : Int) : evF prog (ev43 m83) (loopN L) f43 (a43.enc (a0, a1)) = (g43 m83 L a0 a1).map n43 := by
  rw [i43]; simp only [g43, map_bif, map_tst, Option.map_some, Option.map_none]
theorem s43 (m83 : ((List (Int × (Int × (Int × (Int × Bool))))) × Int × Unit) → Option (Int × Bool)) (h83 : Sat prog cxT 83 (c83 m83)) (m : ((List (Int × (Int × (Int × (Int × Bool))))) × Int) → Option (Int × Bool)) (hm : ∀ (x : ((List (Int × (Int × (Int × (Int × Bool))))) × Int)) t, m x = some t → ∃ L, g43 m83 L x.1 x.2 = some t) : Sat prog cxT 43 (c43 m) :=
  sat_t cxT_ok cxT_pok (by rfl) (fn := f43) rfl a43 n43 dd43 m (ev43 m83) (kok_cons h83 kok_nil) kwok_nil (fun L x => g43 m83 L x.1 x.2) (fun L x => e43 m83 L x.1 x.2) hm hs43
/-! loop.example/g00222/impl.isServed -/
def ev52 (m89 : Int → Option Bool) (m91 : Int → Option Bool) (m92 : Int → Option Bool) : Env cxT := { Kc := kcOf [(89, c89 m89), (91, c91 m91), (92, c92 m92)], Kw := kwOf [], lv := fun i => [], xv := fun i => none }
theorem i52 (m89 : Int → Option Bool) (m91 : Int → Option Bool) (m92 : Int → Option Bool) (L : Nat) (a0_0 : Int) (a0_1 : Int) (a0_2 : Int) (a0_3 : (List Int)) : evF prog (ev52 m89 m91 m92) (loopN L) f52 (a52.enc (a0_0, a0_1, a0_2, a0_3)) =
  tst (m89 a0_0) false fun (q1 : Bool) => bif q1 then tst (m91 a0_1) false fun (q3 : Bool) => bif q3 then tst (m92 a0_2) false fun (q5 : Bool) => some (n52 q5)
        else some (n52 Bool.false)
    else some (n52 Bool.false) := by kernel_rfl
def g52 (m89 : Int → Option Bool) (m91 : Int → Option Bool) (m92 : Int → Option Bool) (L : Nat) (a0_0 : Int) (a0_1 : Int) (a0_2 : Int) (a0_3 : (List Int)) : Option Bool :=
  tst (m89 a0_0) false fun (q1 : Bool) => bif q1 then tst (m91 a0_1) false fun (q3 : Bool) => bif q3 then tst (m92 a0_2) false fun (q5 : Bool) => some q5
        else some Bool.false
    else some Bool.false
theorem e52 (m89 : Int → Option Bool) (m91 : Int → Option Bool) (m92 : Int → Option Bool) (L : Nat) (a0_0 : Int) (a0_1 : Int) (a0_2 : Int) (a0_3 : (List Int)) : evF prog (ev52 m89 m91 m92) (loopN L) f52 (a52.enc (a0_0, a0_1, a0_2, a0_3)) = (g52 m89 m91 m92 L a0_0 a0_1 a0_2 a0_3).map n52 := by
  rw [i52]; simp only [g52, map_bif, map_tst, Option.map_some, Option.map_none]
theorem s52 (m89 : Int → Option Bool) (m91 : Int → Option Bool) (m92 : Int → Option Bool) (h89 : Sat prog cxT 89 (c89 m89)) (h91 : Sat prog cxT 91 (c91 m91)) (h92 : Sat prog cxT 92 (c92 m92)) (m : (Int × Int × Int × (List Int)) → Option Bool) (hm : ∀ (x : (Int × Int × Int × (List Int))) t, m x = some t → ∃ L, g52 m89 m91 m92 L x.1 x.2.1 x.2.2.1 x.2.2.2 = some t) : Sat prog cxT 52 (c52 m) :=
  sat_t cxT_ok cxT_pok (by rfl) (fn := f52) rfl a52 n52 dd52 m (ev52 m89 m91 m92) (kok_cons h89 (kok_cons h91 (kok_cons h92 kok_nil))) kwok_nil (fun L x => g52 m89 m91 m92 L x.1 x.2.1 x.2.2.1 x.2.2.2) (fun L x => e52 m89 m91 m92 L x.1 x.2.1 x.2.2.1 x.2.2.2) hm hs52
/-! loop.example/g00222/impl.namesFault -/
def ev54 (m43 : ((List (Int × (Int × (Int × (Int × Bool))))) × Int) → Option (Int × Bool)) : Env cxT := { Kc := kcOf [(43, c43 m43)], Kw := kwOf [], lv := fun i => if i = 0 then [(0, [some 2]), (1, [some 38]), (11, [some 2]), (12, []), (13, [])] else if i = 2 then [(0, [some 2]), (26, [some 2]), (27, []), (28, [])] else [], xv := fun i => if i = 0 then some [(0, [some 2])] else if i = 2 then some [] else none }
def S54_0 (a0 : (List Int)) (a1 : (List (Int × (Int × (Int × (Int × Bool)))))) (v0_13 : Int) : St cxT.ty := { slots := [(.inl (.inl (ls { own := 0, nm := 0, e := 2, o := false, xs := a0 }))), (.inl (.inl (ls { own := 0, nm := 0, e := 38, o := false, xs := a1 }))), junk, junk, junk, junk, junk, junk, junk, junk, junk, (.inl (.inl (ls { own := 0, nm := 0, e := 2, o := false, xs := a0 }))), (.inl (.inl (lv (.int .i64 (Nat.cast (List.length a0) : Int))))), (.inl (.inl (lv (.int .i64 v0_13))))] ++ List.replicate 31 junk, D := [], F := [], ctr := 1 }
def X54_0 (a0 : (List Int)) (a1 : (List (Int × (Int × (Int × (Int × Bool)))))) : St cxT.ty := { slots := [(.inl (.inl (ls { own := 0, nm := 0, e := 2, o := false, xs := a0 })))] ++ List.replicate 44 junk, D := [], F := [], ctr := 1 }
def S54_2 (a0 : (List Int)) (a1 : (List (Int × (Int × (Int × (Int × Bool)))))) (v2_28 : Int) : St cxT.ty := { slots := [(.inl (.inl (ls { own := 0, nm := 0, e := 2, o := false, xs := a0 }))), junk, junk, junk, junk, junk, junk, junk, junk, junk, junk, junk, junk, junk, junk, junk, junk, junk, junk, junk, junk, junk, junk, junk, junk, junk, (.inl (.inl (ls { own := 0, nm := 0, e := 2, o := false, xs := a0 }))), (.inl (.inl (lv (.int .i64 (Nat.cast (List.length a0) : Int))))), (.inl (.inl (lv (.int .i64 v2_28))))] ++ List.replicate 16 junk, D := [], F := [], ctr := 1 }
def X54_2 (a0 : (List Int)) (a1 : (List (Int × (Int × (Int × (Int × Bool)))))) : St cxT.ty := { slots := [] ++ List.replicate 45 junk, D := [], F := [], ctr := 1 }
theorem i54 (m43 : ((List (Int × (Int × (Int × (Int × Bool))))) × Int) → Option (Int × Bool)) (L : Nat) (a0 : (List Int)) (a1 : (List (Int × (Int × (Int × (Int × Bool)))))) : evF prog (ev54 m43) (loopN L) f54 (a54.enc (a0, a1)) =
  headF prog (ev54 m43) L f54 0 [1, 0, 1, 0, 0] (outK (outV prog f54) (topK prog (ev54 m43) L f54 [1, 0, 1] (outV prog f54)).n (topK prog (ev54 m43) L f54 [1, 0, 1] (outV prog f54)).x) L (S54_0 a0 a1 (0 : Int)) := by kernel_rfl
theorem r54_0 (m43 : ((List (Int × (Int × (Int × (Int × Bool))))) × Int) → Option (Int × Bool)) (L : Nat) (a0 : (List Int)) (a1 : (List (Int × (Int × (Int × (Int × Bool)))))) (k : St cxT.ty → Option (V cxT.ty)) (xk : Nat → St cxT.ty → Option (V cxT.ty)) (g : St cxT.ty → Option (V cxT.ty)) (v0_13 : Int) : roundF prog (ev54 m43) L f54 0 [1, 0, 1, 0, 0] (outK (outV prog f54) k xk) g (S54_0 a0 a1 v0_13) =
  bif (decide (v0_13 < (Nat.cast (List.length a0) : Int))) then bif ((decide ((0 : Int) ≤ v0_13)) && (decide (v0_13 < (Nat.cast (List.length a0) : Int)))) then tst (m43 (a1, (List.getD a0 (Int.toNat v0_13) (0 : Int)))) ((0 : Int), false) fun (q3 : (Int × Bool)) => bif (!q3.2) then some (n54 (4 : Int))
        else g (S54_0 a0 a1 (Go.IntKind.wrap Go.IntKind.i64 (v0_13 + (1 : Int))))
    else none
  else k (X54_0 a0 a1) := by kernel_rfl
theorem t54_0 (m43 : ((List (Int × (Int × (Int × (Int × Bool))))) × Int) → Option (Int × Bool)) (L : Nat) (a0 : (List Int)) (a1 : (List (Int × (Int × (Int × (Int × Bool)))))) : (topK prog (ev54 m43) L f54 [1, 0, 1] (outV prog f54)).n (X54_0 a0 a1) =
  headF prog (ev54 m43) L f54 2 [1, 1, 0, 1, 0, 0] (outK (outV prog f54) (topK prog (ev54 m43) L f54 [1, 1, 0, 1] (outV prog f54)).n (topK prog (ev54 m43) L f54 [1, 1, 0, 1] (outV prog f54)).x) L (S54_2 a0 a1 (0 : Int)) := by kernel_rfl
theorem r54_2 (m43 : ((List (Int × (Int × (Int × (Int × Bool))))) × Int) → Option (Int × Bool)) (L : Nat) (a0 : (List Int)) (a1 : (List (Int × (Int × (Int × (Int × Bool)))))) (k : St cxT.ty → Option (V cxT.ty)) (xk : Nat → St cxT.ty → Option (V cxT.ty)) (g : St cxT.ty → Option (V cxT.ty)) (v2_28 : Int) : roundF prog (ev54 m43) L f54 2 [1, 1, 0, 1, 0, 0] (outK (outV prog f54) k xk) g (S54_2 a0 a1 v2_28) =
  bif (decide (v2_28 < (Nat.cast (List.length a0) : Int))) then bif ((decide ((0 : Int) ≤ v2_28)) && (decide (v2_28 < (Nat.cast (List.length a0) : Int)))) then bif (decide (v2_28 > (0 : Int))) then bif ((decide ((0 : Int) ≤ (Go.IntKind.wrap Go.IntKind.i64 (v2_28 - (1 : Int))))) && (decide ((Go.IntKind.wrap Go.IntKind.i64 (v2_28 - (1 : Int))) < (Nat.cast (List.length a0) : Int)))) then bif (decide ((List.getD a0 (Int.toNat v2_28) (0 : Int)) ≤ (List.getD a0 (Int.toNat (Go.IntKind.wrap Go.IntKind.i64 (v2_28 - (1 : Int)))) (0 : Int)))) then some (n54 (1 : Int))
          else g (S54_2 a0 a1 (Go.IntKind.wrap Go.IntKind.i64 (v2_28 + (1 : Int))))
        else none
      else g (S54_2 a0 a1 (Go.IntKind.wrap Go.IntKind.i64 (v2_28 + (1 : Int))))
    else none
  else k (X54_2 a0 a1) := by kernel_rfl
theorem t54_2 (m43 : ((List (Int × (Int × (Int × (Int × Bool))))) × Int) → Option (Int × Bool)) (L : Nat) (a0 : (List Int)) (a1 : (List (Int × (Int × (Int × (Int × Bool)))))) : (topK prog (ev54 m43) L f54 [1, 1, 0, 1] (outV prog f54)).n (X54_2 a0 a1) =
  some (n54 (0 : Int)) := by kernel_rfl
def l54_2 (m43 : ((List (Int × (Int × (Int × (Int × Bool))))) × Int) → Option (Int × Bool)) (L : Nat) (a0 : (List Int)) (a1 : (List (Int × (Int × (Int × (Int × Bool)))))) : Nat → Int → (Option Int) → Option Int
  | 0, _, _ => none
  | n + 1, v2_28, k =>
    bif (decide (v2_28 < (Nat.cast (List.length a0) : Int))) then bif ((decide ((0 : Int) ≤ v2_28)) && (decide (v2_28 < (Nat.cast (List.length a0) : Int)))) then bif (decide (v2_28 > (0 : Int))) then bif ((decide ((0 : Int) ≤ (Go.IntKind.wrap Go.IntKind.i64 (v2_28 - (1 : Int))))) && (decide ((Go.IntKind.wrap Go.IntKind.i64 (v2_28 - (1 : Int))) < (Nat.cast (List.length a0) : Int)))) then bif (decide ((List.getD a0 (Int.toNat v2_28) (0 : Int)) ≤ (List.getD a0 (Int.toNat (Go.IntKind.wrap Go.IntKind.i64 (v2_28 - (1 : Int)))) (0 : Int)))) then some (1 : Int)
            else l54_2 m43 L a0 a1 n (Go.IntKind.wrap Go.IntKind.i64 (v2_28 + (1 : Int))) k
          else none
        else l54_2 m43 L a0 a1 n (Go.IntKind.wrap Go.IntKind.i64 (v2_28 + (1 : Int))) k
      else none
    else k
theorem h54_2 (m43 : ((List (Int × (Int × (Int × (Int × Bool))))) × Int) → Option (Int × Bool)) (L : Nat) (a0 : (List Int)) (a1 : (List (Int × (Int × (Int × (Int × Bool)))))) (k : St cxT.ty → Option (V cxT.ty)) (xk : Nat → St cxT.ty → Option (V cxT.ty)) (k' : Option Int) (hk : k (X54_2 a0 a1) = (k').map n54) : ∀ (n : Nat) (v2_28 : Int), headF prog (ev54 m43) L f54 2 [1, 1, 0, 1, 0, 0] (outK (outV prog f54) k xk) n (S54_2 a0 a1 v2_28) = (l54_2 m43 L a0 a1 n v2_28 k').map n54
  | 0, _ => rfl
  | n + 1, v2_28 => by
    rw [headF_round, r54_2]
    have ih := h54_2 m43 L a0 a1 k xk k' hk n
    simp only [l54_2, map_bif, map_tst, Option.map_some, Option.map_none, ih, hk]
def l54_0 (m43 : ((List (Int × (Int × (Int × (Int × Bool))))) × Int) → Option (Int × Bool)) (L : Nat) (a0 : (List Int)) (a1 : (List (Int × (Int × (Int × (Int × Bool)))))) : Nat → Int → (Option Int) → Option Int
  | 0, _, _ => none
  | n + 1, v0_13, k =>
    bif (decide (v0_13 < (Nat.cast (List.length a0) : Int))) then bif ((decide ((0 : Int) ≤ v0_13)) && (decide (v0_13 < (Nat.cast (List.length a0) : Int)))) then tst (m43 (a1, (List.getD a0 (Int.toNat v0_13) (0 : Int)))) ((0 : Int), false) fun (q4 : (Int × Bool)) => bif (!q4.2) then some (4 : Int)
          else l54_0 m43 L a0 a1 n (Go.IntKind.wrap Go.IntKind.i64 (v0_13 + (1 : Int))) k
      else none
    else k
theorem h54_0 (m43 : ((List (Int × (Int × (Int × (Int × Bool))))) × Int) → Option (Int × Bool)) (L : Nat) (a0 : (List Int)) (a1 : (List (Int × (Int × (Int × (Int × Bool)))))) (k : St cxT.ty → Option (V cxT.ty)) (xk : Nat → St cxT.ty → Option (V cxT.ty)) (k' : Option Int) (hk : k (X54_0 a0 a1) = (k').map n54) : ∀ (n : Nat) (v0_13 : Int), headF prog (ev54 m43) L f54 0 [1, 0, 1, 0, 0] (outK (outV prog f54) k xk) n (S54_0 a0 a1 v0_13) = (l54_0 m43 L a0 a1 n v0_13 k').map n54
  | 0, _ => rfl
  | n + 1, v0_13 => by
    rw [headF_round, r54_0]
    have ih := h54_0 m43 L a0 a1 k xk k' hk n
    simp only [l54_0, map_bif, map_tst, Option.map_some, Option.map_none, ih, hk]
def g54 (m43 : ((List (Int × (Int × (Int × (Int × Bool))))) × Int) → Option (Int × Bool)) (L : Nat) (a0 : (List Int)) (a1 : (List (Int × (Int × (Int × (Int × Bool)))))) : Option Int :=
  l54_0 m43 L a0 a1 L (0 : Int) (l54_2 m43 L a0 a1 L (0 : Int) (some (0 : Int)))
theorem e54 (m43 : ((List (Int × (Int × (Int × (Int × Bool))))) × Int) → Option (Int × Bool)) (L : Nat) (a0 : (List Int)) (a1 : (List (Int × (Int × (Int × (Int × Bool)))))) : evF prog (ev54 m43) (loopN L) f54 (a54.enc (a0, a1)) = (g54 m43 L a0 a1).map n54 := by
  let K'2 : Option Int := (some (0 : Int))
  have hin2 : ∀ (v2_28 : Int), headF prog (ev54 m43) L f54 2 [1, 1, 0, 1, 0, 0] (outK (outV prog f54) (topK prog (ev54 m43) L f54 [1, 1, 0, 1] (outV prog f54)).n (topK prog (ev54 m43) L f54 [1, 1, 0, 1] (outV prog f54)).x) L (S54_2 a0 a1 v2_28) = (l54_2 m43 L a0 a1 L v2_28 K'2).map n54 := fun v2_28 => h54_2 m43 L a0 a1 _ _ K'2 (by rw [t54_2]; simp only [K'2, map_bif, map_tst, Option.map_some, Option.map_none]) L v2_28
  let K'0 : Option Int := (l54_2 m43 L a0 a1 L (0 : Int) (some (0 : Int)))
  have hin0 : ∀ (v0_13 : Int), headF prog (ev54 m43) L f54 0 [1, 0, 1, 0, 0] (outK (outV prog f54) (topK prog (ev54 m43) L f54 [1, 0, 1] (outV prog f54)).n (topK prog (ev54 m43) L f54 [1, 0, 1] (outV prog f54)).x) L (S54_0 a0 a1 v0_13) = (l54_0 m43 L a0 a1 L v0_13 K'0).map n54 := fun v0_13 => h54_0 m43 L a0 a1 _ _ K'0 (by rw [t54_0]; simp only [K'0, map_bif, map_tst, Option.map_some, Option.map_none, hin2, K'2]) L v0_13
  rw [i54]; simp only [g54, map_bif, map_tst, Option.map_some, Option.map_none, hin2, K'2, hin0, K'0]
theorem s54 (m43 : ((List (Int × (Int × (Int × (Int × Bool))))) × Int) → Option (Int × Bool)) (h43 : Sat prog cxT 43 (c43 m43)) (m : ((List Int) × (List (Int × (Int × (Int × (Int × Bool)))))) → Option Int) (hm : ∀ (x : ((List Int) × (List (Int × (Int × (Int × (Int × Bool))))))) t, m x = some t → ∃ L, g54 m43 L x.1 x.2 = some t) : Sat prog cxT 54 (c54 m) :=
  sat_t cxT_ok cxT_pok (by rfl) (fn := f54) rfl a54 n54 dd54 m (ev54 m43) (kok_cons h43 kok_nil) kwok_nil (fun L x => g54 m43 L x.1 x.2) (fun L x => e54 m43 L x.1 x.2) hm hs54
/-! loop.example/g00222/laws.eqBackendS -/
def ev55 (m65 : ((Int × Int × Int × Int × Bool) × (Int × Int × Int × Int × Bool)) → Option Bool) : Env cxT := { Kc := kcOf [(65, c65 m65)], Kw := kwOf [], lv := fun i => if i = 0 then [(0, [some 38]), (1, [some 38]), (5, [])] else [], xv := fun i => if i = 0 then some [] else none }
def S55_0 (a0 : (List (Int × (Int × (Int × (Int × Bool)))))) (a1 : (List (Int × (Int × (Int × (Int × Bool)))))) (v0_5 : Int) : St cxT.ty := { slots := [(.inl (.inl (ls { own := 0, nm := 0, e := 38, o := false, xs := a0 }))), (.inl (.inl (ls { own := 0, nm := 0, e := 38, o := false, xs := a1 }))), junk, junk, junk, (.inl (.inl (lv (.int .i64 v0_5))))] ++ List.replicate 21 junk, D := [], F := [], ctr := 1 }
def X55_0 (a0 : (List (Int × (Int × (Int × (Int × Bool)))))) (a1 : (List (Int × (Int × (Int × (Int × Bool)))))) : St cxT.ty := { slots := [] ++ List.replicate 27 junk, D := [], F := [], ctr := 1 }
theorem i55 (m65 : ((Int × Int × Int × Int × Bool) × (Int × Int × Int × Int × Bool)) → Option Bool) (L : Nat) (a0 : (List (Int × (Int × (Int × (Int × Bool)))))) (a1 : (List (Int × (Int × (Int × (Int × Bool)))))) : evF prog (ev55 m65) (loopN L) f55 (a55.enc (a0, a1)) =
  bif ((Nat.cast (List.length a0) : Int) != (Nat.cast (List.length a1) : Int)) then some (n55 Bool.false)
  else headF prog (ev55 m65) L f55 0 [1, 1, 0, 1, 0, 0] (outK (outV prog f55) (topK prog (ev55 m65) L f55 [1, 1, 0, 1] (outV prog f55)).n (topK prog (ev55 m65) L f55 [1, 1, 0, 1] (outV prog f55)).x) L (S55_0 a0 a1 (0 : Int)) := by kernel_rfl
theorem r55_0 (m65 : ((Int × Int × Int × Int × Bool) × (Int × Int × Int × Int × Bool)) → Option Bool) (L : Nat) (a0 : (List (Int × (Int × (Int × (Int × Bool)))))) (a1 : (List (Int × (Int × (Int × (Int × Bool)))))) (k : St cxT.ty → Option (V cxT.ty)) (xk : Nat → St cxT.ty → Option (V cxT.ty)) (g : St cxT.ty → Option (V cxT.ty)) (v0_5 : Int) : roundF prog (ev55 m65) L f55 0 [1, 1, 0, 1, 0, 0] (outK (outV prog f55) k xk) g (S55_0 a0 a1 v0_5) =
  bif (decide (v0_5 < (Nat.cast (List.length a0) : Int))) then bif ((decide ((0 : Int) ≤ v0_5)) && (decide (v0_5 < (Nat.cast (List.length a0) : Int)))) then bif ((decide ((0 : Int) ≤ v0_5)) && (decide (v0_5 < (Nat.cast (List.length a1) : Int)))) then tst (m65 (((List.getD a0 (Int.toNat v0_5) ((0 : Int), ((0 : Int), ((0 : Int), ((0 : Int), Bool.false))))).1, ((List.getD a0 (Int.toNat v0_5) ((0 : Int), ((0 : Int), ((0 : Int), ((0 : Int), Bool.false))))).2.1, ((List.getD a0 (Int.toNat v0_5) ((0 : Int), ((0 : Int), ((0 : Int), ((0 : Int), Bool.false))))).2.2.1, ((List.getD a0 (Int.toNat v0_5) ((0 : Int), ((0 : Int), ((0 : Int), ((0 : Int), Bool.false))))).2.2.2.1, (List.getD a0 (Int.toNat v0_5) ((0 : Int), ((0 : Int), ((0 : Int), ((0 : Int), Bool.false))))).2.2.2.2)))), ((List.getD a1 (Int.toNat v0_5) ((0 : Int), ((0 : Int), ((0 : Int), ((0 : Int), Bool.false))))).1, ((List.getD a1 (Int.toNat v0_5) ((0 : Int), ((0 : Int), ((0 : Int), ((0 : Int), Bool.false))))).2.1, ((List.getD a1 (Int.toNat v0_5) ((0 : Int), ((0 : Int), ((0 : Int), ((0 : Int), Bool.false))))).2.2.1, ((List.getD a1 (Int.toNat v0_5) ((0 : Int), ((0 : Int), ((0 : Int), ((0 : Int), Bool.false))))).2.2.2.1, (List.getD a1 (Int.toNat v0_5) ((0 : Int), ((0 : Int), ((0 : Int), ((0 : Int), Bool.false))))).2.2.2.2)))))) false fun (q4 : Bool) => bif (!q4) then some (n55 Bool.false)
          else g (S55_0 a0 a1 (Go.IntKind.wrap Go.IntKind.i64 (v0_5 + (1 : Int))))
      else none
    else none
  else k (X55_0 a0 a1) := by kernel_rfl
theorem t55_0 (m65 : ((Int × Int × Int × Int × Bool) × (Int × Int × Int × Int × Bool)) → Option Bool) (L : Nat) (a0 : (List (Int × (Int × (Int × (Int × Bool)))))) (a1 : (List (Int × (Int × (Int × (Int × Bool)))))) : (topK prog (ev55 m65) L f55 [1, 1, 0, 1] (outV prog f55)).n (X55_0 a0 a1) =
  some (n55 Bool.true) := by kernel_rfl
def l55_0 (m65 : ((Int × Int × Int × Int × Bool) × (Int × Int × Int × Int × Bool)) → Option Bool) (L : Nat) (a0 : (List (Int × (Int × (Int × (Int × Bool)))))) (a1 : (List (Int × (Int × (Int × (Int × Bool)))))) : Nat → Int → (Option Bool) → Option Bool
  | 0, _, _ => none
  | n + 1, v0_5, k =>
    bif (decide (v0_5 < (Nat.cast (List.length a0) : Int))) then bif ((decide ((0 : Int) ≤ v0_5)) && (decide (v0_5 < (Nat.cast (List.length a0) : Int)))) then bif ((decide ((0 : Int) ≤ v0_5)) && (decide (v0_5 < (Nat.cast (List.length a1) : Int)))) then tst (m65 (((List.getD a0 (Int.toNat v0_5) ((0 : Int), ((0 : Int), ((0 : Int), ((0 : Int), Bool.false))))).1, ((List.getD a0 (Int.toNat v0_5) ((0 : Int), ((0 : Int), ((0 : Int), ((0 : Int), Bool.false))))).2.1, ((List.getD a0 (Int.toNat v0_5) ((0 : Int), ((0 : Int), ((0 : Int), ((0 : Int), Bool.false))))).2.2.1, ((List.getD a0 (Int.toNat v0_5) ((0 : Int), ((0 : Int), ((0 : Int), ((0 : Int), Bool.false))))).2.2.2.1, (List.getD a0 (Int.toNat v0_5) ((0 : Int), ((0 : Int), ((0 : Int), ((0 : Int), Bool.false))))).2.2.2.2)))), ((List.getD a1 (Int.toNat v0_5) ((0 : Int), ((0 : Int), ((0 : Int), ((0 : Int), Bool.false))))).1, ((List.getD a1 (Int.toNat v0_5) ((0 : Int), ((0 : Int), ((0 : Int), ((0 : Int), Bool.false))))).2.1, ((List.getD a1 (Int.toNat v0_5) ((0 : Int), ((0 : Int), ((0 : Int), ((0 : Int), Bool.false))))).2.2.1, ((List.getD a1 (Int.toNat v0_5) ((0 : Int), ((0 : Int), ((0 : Int), ((0 : Int), Bool.false))))).2.2.2.1, (List.getD a1 (Int.toNat v0_5) ((0 : Int), ((0 : Int), ((0 : Int), ((0 : Int), Bool.false))))).2.2.2.2)))))) false fun (q5 : Bool) => bif (!q5) then some Bool.false
            else l55_0 m65 L a0 a1 n (Go.IntKind.wrap Go.IntKind.i64 (v0_5 + (1 : Int))) k
        else none
      else none
    else k
theorem h55_0 (m65 : ((Int × Int × Int × Int × Bool) × (Int × Int × Int × Int × Bool)) → Option Bool) (L : Nat) (a0 : (List (Int × (Int × (Int × (Int × Bool)))))) (a1 : (List (Int × (Int × (Int × (Int × Bool)))))) (k : St cxT.ty → Option (V cxT.ty)) (xk : Nat → St cxT.ty → Option (V cxT.ty)) (k' : Option Bool) (hk : k (X55_0 a0 a1) = (k').map n55) : ∀ (n : Nat) (v0_5 : Int), headF prog (ev55 m65) L f55 0 [1, 1, 0, 1, 0, 0] (outK (outV prog f55) k xk) n (S55_0 a0 a1 v0_5) = (l55_0 m65 L a0 a1 n v0_5 k').map n55
  | 0, _ => rfl
  | n + 1, v0_5 => by
    rw [headF_round, r55_0]
    have ih := h55_0 m65 L a0 a1 k xk k' hk n
    simp only [l55_0, map_bif, map_tst, Option.map_some, Option.map_none, ih, hk]
def g55 (m65 : ((Int × Int × Int × Int × Bool) × (Int × Int × Int × Int × Bool)) → Option Bool) (L : Nat) (a0 : (List (Int × (Int × (Int × (Int × Bool)))))) (a1 : (List (Int × (Int × (Int × (Int × Bool)))))) : Option Bool :=
  bif ((Nat.cast (List.length a0) : Int) != (Nat.cast (List.length a1) : Int)) then some Bool.false
  else l55_0 m65 L a0 a1 L (0 : Int) (some Bool.true)
theorem e55 (m65 : ((Int × Int × Int × Int × Bool) × (Int × Int × Int × Int × Bool)) → Option Bool) (L : Nat) (a0 : (List (Int × (Int × (Int × (Int × Bool)))))) (a1 : (List (Int × (Int × (Int × (Int × Bool)))))) : evF prog (ev55 m65) (loopN L) f55 (a55.enc (a0, a1)) = (g55 m65 L a0 a1).map n55 := by
  let K'0 : Option Bool := (some Bool.true)
  have hin0 : ∀ (v0_5 : Int), headF prog (ev55 m65) L f55 0 [1, 1, 0, 1, 0, 0] (outK (outV prog f55) (topK prog (ev55 m65) L f55 [1, 1, 0, 1] (outV prog f55)).n (topK prog (ev55 m65) L f55 [1, 1, 0, 1] (outV prog f55)).x) L (S55_0 a0 a1 v0_5) = (l55_0 m65 L a0 a1 L v0_5 K'0).map n55 := fun v0_5 => h55_0 m65 L a0 a1 _ _ K'0 (by rw [t55_0]; simp only [K'0, map_bif, map_tst, Option.map_some, Option.map_none]) L v0_5
  rw [i55]; simp only [g55, map_bif, map_tst, Option.map_some, Option.map_none, hin0, K'0]
theorem s55 (m65 : ((Int × Int × Int × Int × Bool) × (Int × Int × Int × Int × Bool)) → Option Bool) (h65 : Sat prog cxT 65 (c65 m65)) (m : ((List (Int × (Int × (Int × (Int × Bool))))) × (List (Int × (Int × (Int × (Int × Bool)))))) → Option Bool) (hm : ∀ (x : ((List (Int × (Int × (Int × (Int × Bool))))) × (List (Int × (Int × (Int × (Int × Bool))))))) t, m x = some t → ∃ L, g55 m65 L x.1 x.2 = some t) : Sat prog cxT 55 (c55 m) :=
  sat_t cxT_ok cxT_pok (by rfl) (fn := f55) rfl a55 n55 dd55 m (ev55 m65) (kok_cons h65 kok_nil) kwok_nil (fun L x => g55 m65 L x.1 x.2) (fun L x => e55 m65 L x.1 x.2) hm hs55
/-! loop.example/g00222/laws.eqVipS -/
def ev56 (m94 : ((Int × Int × Int × (List Int)) × (Int × Int × Int × (List Int))) → Option Bool) : Env cxT := { Kc := kcOf [(94, c94 m94)], Kw := kwOf [], lv := fun i => if i = 0 then [(0, [some 36]), (1, [some 36]), (5, [])] else [], xv := fun i => if i = 0 then some [] else none }
def S56_0 (a0 : (List (Int × (Int × (Int × (List Int)))))) (a1 : (List (Int × (Int × (Int × (List Int)))))) (v0_5 : Int) : St cxT.ty := { slots := [(.inl (.inl (ls { own := 0, nm := 0, e := 36, o := false, xs := a0 }))), (.inl (.inl (ls { own := 0, nm := 0, e := 36, o := false, xs := a1 }))), junk, junk, junk, (.inl (.inl (lv (.int .i64 v0_5))))] ++ List.replicate 21 junk, D := [], F := [], ctr := 1 }
def X56_0 (a0 : (List (Int × (Int × (Int × (List Int)))))) (a1 : (List (Int × (Int × (Int × (List Int)))))) : St cxT.ty := { slots := [] ++ List.replicate 27 junk, D := [], F := [], ctr := 1 }
theorem i56 (m94 : ((Int × Int × Int × (List Int)) × (Int × Int × Int × (List Int))) → Option Bool) (L : Nat) (a0 : (List (Int × (Int × (Int × (List Int)))))) (a1 : (List (Int × (Int × (Int × (List Int)))))) : evF prog (ev56 m94) (loopN L) f56 (a56.enc (a0, a1)) =
  bif ((Nat.cast (List.length a0) : Int) != (Nat.cast (List.length a1) : Int)) then some (n56 Bool.false)
  else headF prog (ev56 m94) L f56 0 [1, 1, 0, 1, 0, 0] (outK (outV prog f56) (topK prog (ev56 m94) L f56 [1, 1, 0, 1] (outV prog f56)).n (topK prog (ev56 m94) L f56 [1, 1, 0, 1] (outV prog f56)).x) L (S56_0 a0 a1 (0 : Int)) := by kernel_rfl
theorem r56_0 (m94 : ((Int × Int × Int × (List Int)) × (Int × Int × Int × (List Int))) → Option Bool) (L : Nat) (a0 : (List (Int × (Int × (Int × (List Int)))))) (a1 : (List (Int × (Int × (Int × (List Int)))))) (k : St cxT.ty → Option (V cxT.ty)) (xk : Nat → St cxT.ty → Option (V cxT.ty)) (g : St cxT.ty → Option (V cxT.ty)) (v0_5 : Int) : roundF prog (ev56 m94) L f56 0 [1, 1, 0, 1, 0, 0] (outK (outV prog f56) k xk) g (S56_0 a0 a1 v0_5) =
  bif (decide (v0_5 < (Nat.cast (List.length a0) : Int))) then bif ((decide ((0 : Int) ≤ v0_5)) && (decide (v0_5 < (Nat.cast (List.length a0) : Int)))) then bif ((decide ((0 : Int) ≤ v0_5)) && (decide (v0_5 < (Nat.cast (List.length a1) : Int)))) then tst (m94 (((List.getD a0 (Int.toNat v0_5) ((0 : Int), ((0 : Int), ((0 : Int), ([] : List (Int)))))).1, ((List.getD a0 (Int.toNat v0_5) ((0 : Int), ((0 : Int), ((0 : Int), ([] : List (Int)))))).2.1, ((List.getD a0 (Int.toNat v0_5) ((0 : Int), ((0 : Int), ((0 : Int), ([] : List (Int)))))).2.2.1, (List.getD a0 (Int.toNat v0_5) ((0 : Int), ((0 : Int), ((0 : Int), ([] : List (Int)))))).2.2.2))), ((List.getD a1 (Int.toNat v0_5) ((0 : Int), ((0 : Int), ((0 : Int), ([] : List (Int)))))).1, ((List.getD a1 (Int.toNat v0_5) ((0 : Int), ((0 : Int), ((0 : Int), ([] : List (Int)))))).2.1, ((List.getD a1 (Int.toNat v0_5) ((0 : Int), ((0 : Int), ((0 : Int), ([] : List (Int)))))).2.2.1, (List.getD a1 (Int.toNat v0_5) ((0 : Int), ((0 : Int), ((0 : Int), ([] : List (Int)))))).2.2.2))))) false fun (q4 : Bool) => bif (!q4) then some (n56 Bool.false)
          else g (S56_0 a0 a1 (Go.IntKind.wrap Go.IntKind.i64 (v0_5 + (1 : Int))))
      else none
    else none
  else k (X56_0 a0 a1) := by kernel_rfl
theorem t56_0 (m94 : ((Int × Int × Int × (List Int)) × (Int × Int × Int × (List Int))) → Option Bool) (L : Nat) (a0 : (List (Int × (Int × (Int × (List Int)))))) (a1 : (List (Int × (Int × (Int × (List Int)))))) : (topK prog (ev56 m94) L f56 [1, 1, 0, 1] (outV prog f56)).n (X56_0 a0 a1) =
  some (n56 Bool.true) := by kernel_rfl
def l56_0 (m94 : ((Int × Int × Int × (List Int)) × (Int × Int × Int × (List Int))) → Option Bool) (L : Nat) (a0 : (List (Int × (Int × (Int × (List Int)))))) (a1 : (List (Int × (Int × (Int × (List Int)))))) : Nat → Int → (Option Bool) → Option Bool
  | 0, _, _ => none
  | n + 1, v0_5, k =>
    bif (decide (v0_5 < (Nat.cast (List.length a0) : Int))) then bif ((decide ((0 : Int) ≤ v0_5)) && (decide (v0_5 < (Nat.cast (List.length a0) : Int)))) then bif ((decide ((0 : Int) ≤ v0_5)) && (decide (v0_5 < (Nat.cast (List.length a1) : Int)))) then tst (m94 (((List.getD a0 (Int.toNat v0_5) ((0 : Int), ((0 : Int), ((0 : Int), ([] : List (Int)))))).1, ((List.getD a0 (Int.toNat v0_5) ((0 : Int), ((0 : Int), ((0 : Int), ([] : List (Int)))))).2.1, ((List.getD a0 (Int.toNat v0_5) ((0 : Int), ((0 : Int), ((0 : Int), ([] : List (Int)))))).2.2.1, (List.getD a0 (Int.toNat v0_5) ((0 : Int), ((0 : Int), ((0 : Int), ([] : List (Int)))))).2.2.2))), ((List.getD a1 (Int.toNat v0_5) ((0 : Int), ((0 : Int), ((0 : Int), ([] : List (Int)))))).1, ((List.getD a1 (Int.toNat v0_5) ((0 : Int), ((0 : Int), ((0 : Int), ([] : List (Int)))))).2.1, ((List.getD a1 (Int.toNat v0_5) ((0 : Int), ((0 : Int), ((0 : Int), ([] : List (Int)))))).2.2.1, (List.getD a1 (Int.toNat v0_5) ((0 : Int), ((0 : Int), ((0 : Int), ([] : List (Int)))))).2.2.2))))) false fun (q5 : Bool) => bif (!q5) then some Bool.false
            else l56_0 m94 L a0 a1 n (Go.IntKind.wrap Go.IntKind.i64 (v0_5 + (1 : Int))) k
        else none
      else none
    else k
theorem h56_0 (m94 : ((Int × Int × Int × (List Int)) × (Int × Int × Int × (List Int))) → Option Bool) (L : Nat) (a0 : (List (Int × (Int × (Int × (List Int)))))) (a1 : (List (Int × (Int × (Int × (List Int)))))) (k : St cxT.ty → Option (V cxT.ty)) (xk : Nat → St cxT.ty → Option (V cxT.ty)) (k' : Option Bool) (hk : k (X56_0 a0 a1) = (k').map n56) : ∀ (n : Nat) (v0_5 : Int), headF prog (ev56 m94) L f56 0 [1, 1, 0, 1, 0, 0] (outK (outV prog f56) k xk) n (S56_0 a0 a1 v0_5) = (l56_0 m94 L a0 a1 n v0_5 k').map n56
  | 0, _ => rfl
  | n + 1, v0_5 => by
    rw [headF_round, r56_0]
    have ih := h56_0 m94 L a0 a1 k xk k' hk n
    simp only [l56_0, map_bif, map_tst, Option.map_some, Option.map_none, ih, hk]
def g56 (m94 : ((Int × Int × Int × (List Int)) × (Int × Int × Int × (List Int))) → Option Bool) (L : Nat) (a0 : (List (Int × (Int × (Int × (List Int)))))) (a1 : (List (Int × (Int × (Int × (List Int)))))) : Option Bool :=
  bif ((Nat.cast (List.length a0) : Int) != (Nat.cast (List.length a1) : Int)) then some Bool.false
  else l56_0 m94 L a0 a1 L (0 : Int) (some Bool.true)
theorem e56 (m94 : ((Int × Int × Int × (List Int)) × (Int × Int × Int × (List Int))) → Option Bool) (L : Nat) (a0 : (List (Int × (Int × (Int × (List Int)))))) (a1 : (List (Int × (Int × (Int × (List Int)))))) : evF prog (ev56 m94) (loopN L) f56 (a56.enc (a0, a1)) = (g56 m94 L a0 a1).map n56 := by
  let K'0 : Option Bool := (some Bool.true)
  have hin0 : ∀ (v0_5 : Int), headF prog (ev56 m94) L f56 0 [1, 1, 0, 1, 0, 0] (outK (outV prog f56) (topK prog (ev56 m94) L f56 [1, 1, 0, 1] (outV prog f56)).n (topK prog (ev56 m94) L f56 [1, 1, 0, 1] (outV prog f56)).x) L (S56_0 a0 a1 v0_5) = (l56_0 m94 L a0 a1 L v0_5 K'0).map n56 := fun v0_5 => h56_0 m94 L a0 a1 _ _ K'0 (by rw [t56_0]; simp only [K'0, map_bif, map_tst, Option.map_some, Option.map_none]) L v0_5
  rw [i56]; simp only [g56, map_bif, map_tst, Option.map_some, Option.map_none, hin0, K'0]
theorem s56 (m94 : ((Int × Int × Int × (List Int)) × (Int × Int × Int × (List Int))) → Option Bool) (h94 : Sat prog cxT 94 (c94 m94)) (m : ((List (Int × (Int × (Int × (List Int))))) × (List (Int × (Int × (Int × (List Int)))))) → Option Bool) (hm : ∀ (x : ((List (Int × (Int × (Int × (List Int))))) × (List (Int × (Int × (Int × (List Int))))))) t, m x = some t → ∃ L, g56 m94 L x.1 x.2 = some t) : Sat prog cxT 56 (c56 m) :=
  sat_t cxT_ok cxT_pok (by rfl) (fn := f56) rfl a56 n56 dd56 m (ev56 m94) (kok_cons h94 kok_nil) kwok_nil (fun L x => g56 m94 L x.1 x.2) (fun L x => e56 m94 L x.1 x.2) hm hs56
/-! slices.BinarySearchFunc[[]loop.example/g00222/impl.Backend,loop.example/g00222/impl.Backend,int64] -/
def ev83 (m84 : ((Int × Int × Int × Int × Bool) × Int) → Option Int) : Env cxT := { Kc := kcOf [(84, c84 m84)], Kw := kwOf [], lv := fun i => if i = 0 then [(0, [some 38]), (1, []), (2, []), (8, []), (9, []), (10, [])] else [], xv := fun i => if i = 0 then some [(0, [some 38]), (1, []), (2, []), (8, []), (9, [])] else none }
def S83_0 (a0 : (List (Int × (Int × (Int × (Int × Bool)))))) (a1 : Int) (a2 : Unit) (v0_9 : Int) (v0_10 : Int) : St cxT.ty := { slots := [(.inl (.inl (ls { own := 0, nm := 0, e := 38, o := false, xs := a0 }))), (.inl (.inl (lv (.int .i64 a1)))), (.inl (.inl (lv (.func (.func (84 : Nat)) #[] #[])))), junk, junk, junk, junk, junk, (.inl (.inl (lv (.int .i64 (Nat.cast (List.length a0) : Int))))), (.inl (.inl (lv (.int .i64 v0_9)))), (.inl (.inl (lv (.int .i64 v0_10))))] ++ List.replicate 38 junk, D := [], F := [], ctr := 1 }
def X83_0 (a0 : (List (Int × (Int × (Int × (Int × Bool)))))) (a1 : Int) (a2 : Unit) (w0_9 : Int) : St cxT.ty := { slots := [(.inl (.inl (ls { own := 0, nm := 0, e := 38, o := false, xs := a0 }))), (.inl (.inl (lv (.int .i64 a1)))), (.inl (.inl (lv (.func (.func (84 : Nat)) #[] #[])))), junk, junk, junk, junk, junk, (.inl (.inl (lv (.int .i64 (Nat.cast (List.length a0) : Int))))), (.inl (.inl (lv (.int .i64 w0_9))))] ++ List.replicate 39 junk, D := [], F := [], ctr := 1 }
theorem i83 (m84 : ((Int × Int × Int × Int × Bool) × Int) → Option Int) (L : Nat) (a0 : (List (Int × (Int × (Int × (Int × Bool)))))) (a1 : Int) (a2 : Unit) : evF prog (ev83 m84) (loopN L) f83 (a83.enc (a0, a1, a2)) =
  headF prog (ev83 m84) L f83 0 [1, 1, 1, 0, 0, 0] (outK (outV prog f83) (topK prog (ev83 m84) L f83 [1, 1, 1, 0] (outV prog f83)).n (topK prog (ev83 m84) L f83 [1, 1, 1, 0] (outV prog f83)).x) L (S83_0 a0 a1 a2 (0 : Int) (Nat.cast (List.length a0) : Int)) := by kernel_rfl
theorem r83_0 (m84 : ((Int × Int × Int × Int × Bool) × Int) → Option Int) (L : Nat) (a0 : (List (Int × (Int × (Int × (Int × Bool)))))) (a1 : Int) (a2 : Unit) (k : St cxT.ty → Option (V cxT.ty)) (xk : Nat → St cxT.ty → Option (V cxT.ty)) (g : St cxT.ty → Option (V cxT.ty)) (v0_9 : Int) (v0_10 : Int) : roundF prog (ev83 m84) L f83 0 [1, 1, 1, 0, 0, 0] (outK (outV prog f83) k xk) g (S83_0 a0 a1 a2 v0_9 v0_10) =
  bif (decide (v0_9 < v0_10)) then bif ((decide ((0 : Int) ≤ (Go.IntKind.wrap Go.IntKind.i64 (Int.fdiv (Go.IntKind.wrap Go.IntKind.u64 (Go.IntKind.wrap Go.IntKind.i64 (v0_9 + v0_10))) ((2 : Int) ^ (min (Int.toNat (1 : Int)) (Go.IntKind.bits Go.IntKind.u64))))))) && (decide ((Go.IntKind.wrap Go.IntKind.i64 (Int.fdiv (Go.IntKind.wrap Go.IntKind.u64 (Go.IntKind.wrap Go.IntKind.i64 (v0_9 + v0_10))) ((2 : Int) ^ (min (Int.toNat (1 : Int)) (Go.IntKind.bits Go.IntKind.u64))))) < (Nat.cast (List.length a0) : Int)))) then tst (m84 (((List.getD a0 (Int.toNat (Go.IntKind.wrap Go.IntKind.i64 (Int.fdiv (Go.IntKind.wrap Go.IntKind.u64 (Go.IntKind.wrap Go.IntKind.i64 (v0_9 + v0_10))) ((2 : Int) ^ (min (Int.toNat (1 : Int)) (Go.IntKind.bits Go.IntKind.u64)))))) ((0 : Int), ((0 : Int), ((0 : Int), ((0 : Int), Bool.false))))).1, ((List.getD a0 (Int.toNat (Go.IntKind.wrap Go.IntKind.i64 (Int.fdiv (Go.IntKind.wrap Go.IntKind.u64 (Go.IntKind.wrap Go.IntKind.i64 (v0_9 + v0_10))) ((2 : Int) ^ (min (Int.toNat (1 : Int)) (Go.IntKind.bits Go.IntKind.u64)))))) ((0 : Int), ((0 : Int), ((0 : Int), ((0 : Int), Bool.false))))).2.1, ((List.getD a0 (Int.toNat (Go.IntKind.wrap Go.IntKind.i64 (Int.fdiv (Go.IntKind.wrap Go.IntKind.u64 (Go.IntKind.wrap Go.IntKind.i64 (v0_9 + v0_10))) ((2 : Int) ^ (min (Int.toNat (1 : Int)) (Go.IntKind.bits Go.IntKind.u64)))))) ((0 : Int), ((0 : Int), ((0 : Int), ((0 : Int), Bool.false))))).2.2.1, ((List.getD a0 (Int.toNat (Go.IntKind.wrap Go.IntKind.i64 (Int.fdiv (Go.IntKind.wrap Go.IntKind.u64 (Go.IntKind.wrap Go.IntKind.i64 (v0_9 + v0_10))) ((2 : Int) ^ (min (Int.toNat (1 : Int)) (Go.IntKind.bits Go.IntKind.u64)))))) ((0 : Int), ((0 : Int), ((0 : Int), ((0 : Int), Bool.false))))).2.2.2.1, (List.getD a0 (Int.toNat (Go.IntKind.wrap Go.IntKind.i64 (Int.fdiv (Go.IntKind.wrap Go.IntKind.u64 (Go.IntKind.wrap Go.IntKind.i64 (v0_9 + v0_10))) ((2 : Int) ^ (min (Int.toNat (1 : Int)) (Go.IntKind.bits Go.IntKind.u64)))))) ((0 : Int), ((0 : Int), ((0 : Int), ((0 : Int), Bool.false))))).2.2.2.2)))), a1)) (0 : Int) fun (q3 : Int) => bif (decide (q3 < (0 : Int))) then g (S83_0 a0 a1 a2 (Go.IntKind.wrap Go.IntKind.i64 ((Go.IntKind.wrap Go.IntKind.i64 (Int.fdiv (Go.IntKind.wrap Go.IntKind.u64 (Go.IntKind.wrap Go.IntKind.i64 (v0_9 + v0_10))) ((2 : Int) ^ (min (Int.toNat (1 : Int)) (Go.IntKind.bits Go.IntKind.u64))))) + (1 : Int))) v0_10)
        else g (S83_0 a0 a1 a2 v0_9 (Go.IntKind.wrap Go.IntKind.i64 (Int.fdiv (Go.IntKind.wrap Go.IntKind.u64 (Go.IntKind.wrap Go.IntKind.i64 (v0_9 + v0_10))) ((2 : Int) ^ (min (Int.toNat (1 : Int)) (Go.IntKind.bits Go.IntKind.u64))))))
    else none
  else k (X83_0 a0 a1 a2 v0_9) := by kernel_rfl
theorem t83_0 (m84 : ((Int × Int × Int × Int × Bool) × Int) → Option Int) (L : Nat) (a0 : (List (Int × (Int × (Int × (Int × Bool)))))) (a1 : Int) (a2 : Unit) (w0_9 : Int) : (topK prog (ev83 m84) L f83 [1, 1, 1, 0] (outV prog f83)).n (X83_0 a0 a1 a2 w0_9) =
  bif (decide (w0_9 < (Nat.cast (List.length a0) : Int))) then bif ((decide ((0 : Int) ≤ w0_9)) && (decide (w0_9 < (Nat.cast (List.length a0) : Int)))) then tst (m84 (((List.getD a0 (Int.toNat w0_9) ((0 : Int), ((0 : Int), ((0 : Int), ((0 : Int), Bool.false))))).1, ((List.getD a0 (Int.toNat w0_9) ((0 : Int), ((0 : Int), ((0 : Int), ((0 : Int), Bool.false))))).2.1, ((List.getD a0 (Int.toNat w0_9) ((0 : Int), ((0 : Int), ((0 : Int), ((0 : Int), Bool.false))))).2.2.1, ((List.getD a0 (Int.toNat w0_9) ((0 : Int), ((0 : Int), ((0 : Int), ((0 : Int), Bool.false))))).2.2.2.1, (List.getD a0 (Int.toNat w0_9) ((0 : Int), ((0 : Int), ((0 : Int), ((0 : Int), Bool.false))))).2.2.2.2)))), a1)) (0 : Int) fun (q3 : Int) => some (n83 (w0_9, (q3 == (0 : Int))))
    else none
  else some (n83 (w0_9, Bool.false)) := by kernel_rfl
def l83_0 (m84 : ((Int × Int × Int × Int × Bool) × Int) → Option Int) (L : Nat) (a0 : (List (Int × (Int × (Int × (Int × Bool)))))) (a1 : Int) (a2 : Unit) : Nat → Int → Int → (Int → Option (Int × Bool)) → Option (Int × Bool)
  | 0, _, _, _ => none
  | n + 1, v0_9, v0_10, k =>
    bif (decide (v0_9 < v0_10)) then bif ((decide ((0 : Int) ≤ (Go.IntKind.wrap Go.IntKind.i64 (Int.fdiv (Go.IntKind.wrap Go.IntKind.u64 (Go.IntKind.wrap Go.IntKind.i64 (v0_9 + v0_10))) ((2 : Int) ^ (min (Int.toNat (1 : Int)) (Go.IntKind.bits Go.IntKind.u64))))))) && (decide ((Go.IntKind.wrap Go.IntKind.i64 (Int.fdiv (Go.IntKind.wrap Go.IntKind.u64 (Go.IntKind.wrap Go.IntKind.i64 (v0_9 + v0_10))) ((2 : Int) ^ (min (Int.toNat (1 : Int)) (Go.IntKind.bits Go.IntKind.u64))))) < (Nat.cast (List.length a0) : Int)))) then tst (m84 (((List.getD a0 (Int.toNat (Go.IntKind.wrap Go.IntKind.i64 (Int.fdiv (Go.IntKind.wrap Go.IntKind.u64 (Go.IntKind.wrap Go.IntKind.i64 (v0_9 + v0_10))) ((2 : Int) ^ (min (Int.toNat (1 : Int)) (Go.IntKind.bits Go.IntKind.u64)))))) ((0 : Int), ((0 : Int), ((0 : Int), ((0 : Int), Bool.false))))).1, ((List.getD a0 (Int.toNat (Go.IntKind.wrap Go.IntKind.i64 (Int.fdiv (Go.IntKind.wrap Go.IntKind.u64 (Go.IntKind.wrap Go.IntKind.i64 (v0_9 + v0_10))) ((2 : Int) ^ (min (Int.toNat (1 : Int)) (Go.IntKind.bits Go.IntKind.u64)))))) ((0 : Int), ((0 : Int), ((0 : Int), ((0 : Int), Bool.false))))).2.1, ((List.getD a0 (Int.toNat (Go.IntKind.wrap Go.IntKind.i64 (Int.fdiv (Go.IntKind.wrap Go.IntKind.u64 (Go.IntKind.wrap Go.IntKind.i64 (v0_9 + v0_10))) ((2 : Int) ^ (min (Int.toNat (1 : Int)) (Go.IntKind.bits Go.IntKind.u64)))))) ((0 : Int), ((0 : Int), ((0 : Int), ((0 : Int), Bool.false))))).2.2.1, ((List.getD a0 (Int.toNat (Go.IntKind.wrap Go.IntKind.i64 (Int.fdiv (Go.IntKind.wrap Go.IntKind.u64 (Go.IntKind.wrap Go.IntKind.i64 (v0_9 + v0_10))) ((2 : Int) ^ (min (Int.toNat (1 : Int)) (Go.IntKind.bits Go.IntKind.u64)))))) ((0 : Int), ((0 : Int), ((0 : Int), ((0 : Int), Bool.false))))).2.2.2.1, (List.getD a0 (Int.toNat (Go.IntKind.wrap Go.IntKind.i64 (Int.fdiv (Go.IntKind.wrap Go.IntKind.u64 (Go.IntKind.wrap Go.IntKind.i64 (v0_9 + v0_10))) ((2 : Int) ^ (min (Int.toNat (1 : Int)) (Go.IntKind.bits Go.IntKind.u64)))))) ((0 : Int), ((0 : Int), ((0 : Int), ((0 : Int), Bool.false))))).2.2.2.2)))), a1)) (0 : Int) fun (q4 : Int) => bif (decide (q4 < (0 : Int))) then l83_0 m84 L a0 a1 a2 n (Go.IntKind.wrap Go.IntKind.i64 ((Go.IntKind.wrap Go.IntKind.i64 (Int.fdiv (Go.IntKind.wrap Go.IntKind.u64 (Go.IntKind.wrap Go.IntKind.i64 (v0_9 + v0_10))) ((2 : Int) ^ (min (Int.toNat (1 : Int)) (Go.IntKind.bits Go.IntKind.u64))))) + (1 : Int))) v0_10 k
          else l83_0 m84 L a0 a1 a2 n v0_9 (Go.IntKind.wrap Go.IntKind.i64 (Int.fdiv (Go.IntKind.wrap Go.IntKind.u64 (Go.IntKind.wrap Go.IntKind.i64 (v0_9 + v0_10))) ((2 : Int) ^ (min (Int.toNat (1 : Int)) (Go.IntKind.bits Go.IntKind.u64))))) k
      else none
    else k v0_9
theorem h83_0 (m84 : ((Int × Int × Int × Int × Bool) × Int) → Option Int) (L : Nat) (a0 : (List (Int × (Int × (Int × (Int × Bool)))))) (a1 : Int) (a2 : Unit) (k : St cxT.ty → Option (V cxT.ty)) (xk : Nat → St cxT.ty → Option (V cxT.ty)) (k' : Int → Option (Int × Bool)) (hk : ∀ (w0_9 : Int), k (X83_0 a0 a1 a2 w0_9) = (k' w0_9).map n83) : ∀ (n : Nat) (v0_9 : Int) (v0_10 : Int), headF prog (ev83 m84) L f83 0 [1, 1, 1, 0, 0, 0] (outK (outV prog f83) k xk) n (S83_0 a0 a1 a2 v0_9 v0_10) = (l83_0 m84 L a0 a1 a2 n v0_9 v0_10 k').map n83
  | 0, _, _ => rfl
  | n + 1, v0_9, v0_10 => by
    rw [headF_round, r83_0]
    have ih := h83_0 m84 L a0 a1 a2 k xk k' hk n
    simp only [l83_0, map_bif, map_tst, Option.map_some, Option.map_none, ih, hk]
def g83 (m84 : ((Int × Int × Int × Int × Bool) × Int) → Option Int) (L : Nat) (a0 : (List (Int × (Int × (Int × (Int × Bool)))))) (a1 : Int) (a2 : Unit) : Option (Int × Bool) :=
  l83_0 m84 L a0 a1 a2 L (0 : Int) (Nat.cast (List.length a0) : Int) (fun (w0_9 : Int) => bif (decide (w0_9 < (Nat.cast (List.length a0) : Int))) then bif ((decide ((0 : Int) ≤ w0_9)) && (decide (w0_9 < (Nat.cast (List.length a0) : Int)))) then tst (m84 (((List.getD a0 (Int.toNat w0_9) ((0 : Int), ((0 : Int), ((0 : Int), ((0 : Int), Bool.false))))).1, ((List.getD a0 (Int.toNat w0_9) ((0 : Int), ((0 : Int), ((0 : Int), ((0 : Int), Bool.false))))).2.1, ((List.getD a0 (Int.toNat w0_9) ((0 : Int), ((0 : Int), ((0 : Int), ((0 : Int), Bool.false))))).2.2.1, ((List.getD a0 (Int.toNat w0_9) ((0 : Int), ((0 : Int), ((0 : Int), ((0 : Int), Bool.false))))).2.2.2.1, (List.getD a0 (Int.toNat w0_9) ((0 : Int), ((0 : Int), ((0 : Int), ((0 : Int), Bool.false))))).2.2.2.2)))), a1)) (0 : Int) fun (q4 : Int) => some (w0_9, (q4 == (0 : Int)))
      else none
    else some (w0_9, Bool.false))
theorem e83 (m84 : ((Int × Int × Int × Int × Bool) × Int) → Option Int) (L : Nat) (a0 : (List (Int × (Int × (Int × (Int × Bool)))))) (a1 : Int) (a2 : Unit) : evF prog (ev83 m84) (loopN L) f83 (a83.enc (a0, a1, a2)) = (g83 m84 L a0 a1 a2).map n83 := by
  let K'0 : Int → Option (Int × Bool) := (fun (w0_9 : Int) => bif (decide (w0_9 < (Nat.cast (List.length a0) : Int))) then bif ((decide ((0 : Int) ≤ w0_9)) && (decide (w0_9 < (Nat.cast (List.length a0) : Int)))) then tst (m84 (((List.getD a0 (Int.toNat w0_9) ((0 : Int), ((0 : Int), ((0 : Int), ((0 : Int), Bool.false))))).1, ((List.getD a0 (Int.toNat w0_9) ((0 : Int), ((0 : Int), ((0 : Int), ((0 : Int), Bool.false))))).2.1, ((List.getD a0 (Int.toNat w0_9) ((0 : Int), ((0 : Int), ((0 : Int), ((0 : Int), Bool.false))))).2.2.1, ((List.getD a0 (Int.toNat w0_9) ((0 : Int), ((0 : Int), ((0 : Int), ((0 : Int), Bool.false))))).2.2.2.1, (List.getD a0 (Int.toNat w0_9) ((0 : Int), ((0 : Int), ((0 : Int), ((0 : Int), Bool.false))))).2.2.2.2)))), a1)) (0 : Int) fun (q5 : Int) => some (w0_9, (q5 == (0 : Int)))
        else none
      else some (w0_9, Bool.false))
  have hin0 : ∀ (v0_9 : Int) (v0_10 : Int), headF prog (ev83 m84) L f83 0 [1, 1, 1, 0, 0, 0] (outK (outV prog f83) (topK prog (ev83 m84) L f83 [1, 1, 1, 0] (outV prog f83)).n (topK prog (ev83 m84) L f83 [1, 1, 1, 0] (outV prog f83)).x) L (S83_0 a0 a1 a2 v0_9 v0_10) = (l83_0 m84 L a0 a1 a2 L v0_9 v0_10 K'0).map n83 := fun v0_9 v0_10 => h83_0 m84 L a0 a1 a2 _ _ K'0 (fun w0_9 => by rw [t83_0]; simp only [K'0, map_bif, map_tst, Option.map_some, Option.map_none]) L v0_9 v0_10
  rw [i83]; simp only [g83, map_bif, map_tst, Option.map_some, Option.map_none, hin0, K'0]
theorem s83 (m84 : ((Int × Int × Int × Int × Bool) × Int) → Option Int) (h84 : Sat prog cxT 84 (c84 m84)) (m : ((List (Int × (Int × (Int × (Int × Bool))))) × Int × Unit) → Option (Int × Bool)) (hm : ∀ (x : ((List (Int × (Int × (Int × (Int × Bool))))) × Int × Unit)) t, m x = some t → ∃ L, g83 m84 L x.1 x.2.1 x.2.2 = some t) : Sat prog cxT 83 (c83 m) :=
  sat_t cxT_ok cxT_pok (by rfl) (fn := f83) rfl a83 n83 dd83 m (ev83 m84) (kok_cons h84 kok_nil) kwok_nil (fun L x => g83 m84 L x.1 x.2.1 x.2.2) (fun L x => e83 m84 L x.1 x.2.1 x.2.2) hm hs83
/-! loop.example/g00222/laws.eqVip -/
def ev94 (m117 : ((List Int) × (List Int)) → Option Bool) : Env cxT := { Kc := kcOf [(117, c117 m117)], Kw := kwOf [], lv := fun i => [], xv := fun i => none }
theorem i94 (m117 : ((List Int) × (List Int)) → Option Bool) (L : Nat) (a0_0 : Int) (a0_1 : Int) (a0_2 : Int) (a0_3 : (List Int)) (a1_0 : Int) (a1_1 : Int) (a1_2 : Int) (a1_3 : (List Int)) : evF prog (ev94 m117) (loopN L) f94 (a94.enc ((a0_0, a0_1, a0_2, a0_3), (a1_0, a1_1, a1_2, a1_3))) =
  bif (a0_0 != a1_0) then some (n94 Bool.false)
  else bif (a0_1 != a1_1) then some (n94 Bool.false)
  else bif (a0_2 != a1_2) then some (n94 Bool.false)
  else tst (m117 (a0_3, a1_3)) false fun (q1 : Bool) => bif (!q1) then some (n94 Bool.false)
    else some (n94 Bool.true) := by kernel_rfl
def g94 (m117 : ((List Int) × (List Int)) → Option Bool) (L : Nat) (a0_0 : Int) (a0_1 : Int) (a0_2 : Int) (a0_3 : (List Int)) (a1_0 : Int) (a1_1 : Int) (a1_2 : Int) (a1_3 : (List Int)) : Option Bool :=
  bif (a0_0 != a1_0) then some Bool.false
  else bif (a0_1 != a1_1) then some Bool.false
  else bif (a0_2 != a1_2) then some Bool.false
  else tst (m117 (a0_3, a1_3)) false fun (q1 : Bool) => bif (!q1) then some Bool.false
    else some Bool.true
theorem e94 (m117 : ((List Int) × (List Int)) → Option Bool) (L : Nat) (a0_0 : Int) (a0_1 : Int) (a0_2 : Int) (a0_3 : (List Int)) (a1_0 : Int) (a1_1 : Int) (a1_2 : Int) (a1_3 : (List Int)) : evF prog (ev94 m117) (loopN L) f94 (a94.enc ((a0_0, a0_1, a0_2, a0_3), (a1_0, a1_1, a1_2, a1_3))) = (g94 m117 L a0_0 a0_1 a0_2 a0_3 a1_0 a1_1 a1_2 a1_3).map n94 := by
  rw [i94]; simp only [g94, map_bif, map_tst, Option.map_some, Option.map_none]
theorem s94 (m117 : ((List Int) × (List Int)) → Option Bool) (h117 : Sat prog cxT 117 (c117 m117)) (m : ((Int × Int × Int × (List Int)) × (Int × Int × Int × (List Int))) → Option Bool) (hm : ∀ (x : ((Int × Int × Int × (List Int)) × (Int × Int × Int × (List Int)))) t, m x = some t → ∃ L, g94 m117 L x.1.1 x.1.2.1 x.1.2.2.1 x.1.2.2.2 x.2.1 x.2.2.1 x.2.2.2.1 x.2.2.2.2 = some t) : Sat prog cxT 94 (c94 m) :=
  sat_t cxT_ok cxT_pok (by rfl) (fn := f94) rfl a94 n94 dd94 m (ev94 m117) (kok_cons h117 kok_nil) kwok_nil (fun L x => g94 m117 L x.1.1 x.1.2.1 x.1.2.2.1 x.1.2.2.2 x.2.1 x.2.2.1 x.2.2.2.1 x.2.2.2.2) (fun L x => e94 m117 L x.1.1 x.1.2.1 x.1.2.2.1 x.1.2.2.2 x.2.1 x.2.2.1 x.2.2.2.1 x.2.2.2.2) hm hs94
/-! loop.example/g00222/spec.l5Behind -/
def ev113 : Env cxT := { Kc := kcOf [], Kw := kwOf [], lv := fun i => [], xv := fun i => none }
theorem i113 (L : Nat) (a0_0 : Int) (a0_1 : Int) (a0_2 : Int) (a0_3 : (List Int)) (a1_0 : Int) (a1_1 : Int) (a1_2 : Int) (a1_3 : (List Int)) : evF prog ev113 (loopN L) f113 (a113.enc ((a0_0, a0_1, a0_2, a0_3), (a1_0, a1_1, a1_2, a1_3))) =
  bif (a0_0 != a1_0) then some (n113 (decide (a0_0 < a1_0)))
  else bif (a0_1 != a1_1) then some (n113 (decide (a0_1 < a1_1)))
  else some (n113 (decide (a0_2 < a1_2))) := by kernel_rfl
def g113 (L : Nat) (a0_0 : Int) (a0_1 : Int) (a0_2 : Int) (a0_3 : (List Int)) (a1_0 : Int) (a1_1 : Int) (a1_2 : Int) (a1_3 : (List Int)) : Option Bool :=
  bif (a0_0 != a1_0) then some (decide (a0_0 < a1_0))
  else bif (a0_1 != a1_1) then some (decide (a0_1 < a1_1))
  else some (decide (a0_2 < a1_2))
theorem e113 (L : Nat) (a0_0 : Int) (a0_1 : Int) (a0_2 : Int) (a0_3 : (List Int)) (a1_0 : Int) (a1_1 : Int) (a1_2 : Int) (a1_3 : (List Int)) : evF prog ev113 (loopN L) f113 (a113.enc ((a0_0, a0_1, a0_2, a0_3), (a1_0, a1_1, a1_2, a1_3))) = (g113 L a0_0 a0_1 a0_2 a0_3 a1_0 a1_1 a1_2 a1_3).map n113 := by
  rw [i113]; simp only [g113, map_bif, map_tst, Option.map_some, Option.map_none]
theorem s113 (m : ((Int × Int × Int × (List Int)) × (Int × Int × Int × (List Int))) → Option Bool) (hm : ∀ (x : ((Int × Int × Int × (List Int)) × (Int × Int × Int × (List Int)))) t, m x = some t → ∃ L, g113 L x.1.1 x.1.2.1 x.1.2.2.1 x.1.2.2.2 x.2.1 x.2.2.1 x.2.2.2.1 x.2.2.2.2 = some t) : Sat prog cxT 113 (c113 m) :=
  sat_t cxT_ok cxT_pok (by rfl) (fn := f113) rfl a113 n113 dd113 m ev113 kok_nil kwok_nil (fun L x => g113 L x.1.1 x.1.2.1 x.1.2.2.1 x.1.2.2.2 x.2.1 x.2.2.1 x.2.2.2.1 x.2.2.2.2) (fun L x => e113 L x.1.1 x.1.2.1 x.1.2.2.1 x.1.2.2.2 x.2.1 x.2.2.1 x.2.2.2.1 x.2.2.2.2) hm hs113
end Go.Proofs.Try

set_option maxHeartbeats 0
set_option maxRecDepth 100000
set_option linter.unusedVariables false
set_option linter.unusedSimpArgs false
namespace Go.Proofs.Try
open Go Go.VM Go.RowKit
/-! loop.example/g00222/spec.l5At -/
def ev64 : Env cxT := { Kc := kcOf [], Kw := kwOf [], lv := fun i => if i = 0 then [(0, [none, some 38, some 36]), (1, []), (5, [])] else [], xv := fun i => if i = 0 then some [] else none }
def S64_0 (a0 : (Int × ((List (Int × (Int × (Int × (Int × Bool))))) × (List (Int × (Int × (Int × (List Int)))))))) (a1 : Int) (v0_5 : Int) : St cxT.ty := { slots := [(.inr (.inr { kind := 2, nm := 0, cells := [], s := { own := 0, nm := 0, e := 27, o := false, xs := (List.cons a0 []) }, i := 0, off := 0 })), (.inl (.inl (lv (.int .i64 a1)))), junk, junk, junk, (.inl (.inl (lv (.int .i64 v0_5))))] ++ List.replicate 20 junk, D := [], F := [], ctr := 1 }
def X64_0 (a0 : (Int × ((List (Int × (Int × (Int × (Int × Bool))))) × (List (Int × (Int × (Int × (List Int)))))))) (a1 : Int) : St cxT.ty := { slots := [] ++ List.replicate 26 junk, D := [], F := [], ctr := 1 }
theorem i64 (L : Nat) (a0 : (Int × ((List (Int × (Int × (Int × (Int × Bool))))) × (List (Int × (Int × (Int × (List Int)))))))) (a1 : Int) : evF prog ev64 (loopN L) f64 (a64.enc (a0, a1)) =
  headF prog ev64 L f64 0 [1, 0, 1, 0, 0] (outK (outV prog f64) (topK prog ev64 L f64 [1, 0, 1] (outV prog f64)).n (topK prog ev64 L f64 [1, 0, 1] (outV prog f64)).x) L (S64_0 a0 a1 (0 : Int)) := by kernel_rfl
theorem r64_0 (L : Nat) (a0 : (Int × ((List (Int × (Int × (Int × (Int × Bool))))) × (List (Int × (Int × (Int × (List Int)))))))) (a1 : Int) (k : St cxT.ty → Option (V cxT.ty)) (xk : Nat → St cxT.ty → Option (V cxT.ty)) (g : St cxT.ty → Option (V cxT.ty)) (v0_5 : Int) : roundF prog ev64 L f64 0 [1, 0, 1, 0, 0] (outK (outV prog f64) k xk) g (S64_0 a0 a1 v0_5) =
  bif (decide (v0_5 < (Nat.cast (List.length a0.2.1) : Int))) then bif ((decide ((0 : Int) ≤ v0_5)) && (decide (v0_5 < (Nat.cast (List.length a0.2.1) : Int)))) then bif ((List.getD a0.2.1 (Int.toNat v0_5) ((0 : Int), ((0 : Int), ((0 : Int), ((0 : Int), Bool.false))))).1 == a1) then some (n64 v0_5)
      else g (S64_0 a0 a1 (Go.IntKind.wrap Go.IntKind.i64 (v0_5 + (1 : Int))))
    else none
  else k (X64_0 a0 a1) := by kernel_rfl
theorem t64_0 (L : Nat) (a0 : (Int × ((List (Int × (Int × (Int × (Int × Bool))))) × (List (Int × (Int × (Int × (List Int)))))))) (a1 : Int) : (topK prog ev64 L f64 [1, 0, 1] (outV prog f64)).n (X64_0 a0 a1) =
  some (n64 (-(1 : Int))) := by kernel_rfl
def l64_0 (L : Nat) (a0 : (Int × ((List (Int × (Int × (Int × (Int × Bool))))) × (List (Int × (Int × (Int × (List Int)))))))) (a1 : Int) : Nat → Int → (Option Int) → Option Int
  | 0, _, _ => none
  | n + 1, v0_5, k =>
    bif (decide (v0_5 < (Nat.cast (List.length a0.2.1) : Int))) then bif ((decide ((0 : Int) ≤ v0_5)) && (decide (v0_5 < (Nat.cast (List.length a0.2.1) : Int)))) then bif ((List.getD a0.2.1 (Int.toNat v0_5) ((0 : Int), ((0 : Int), ((0 : Int), ((0 : Int), Bool.false))))).1 == a1) then some v0_5
        else l64_0 L a0 a1 n (Go.IntKind.wrap Go.IntKind.i64 (v0_5 + (1 : Int))) k
      else none
    else k
theorem h64_0 (L : Nat) (a0 : (Int × ((List (Int × (Int × (Int × (Int × Bool))))) × (List (Int × (Int × (Int × (List Int)))))))) (a1 : Int) (k : St cxT.ty → Option (V cxT.ty)) (xk : Nat → St cxT.ty → Option (V cxT.ty)) (k' : Option Int) (hk : k (X64_0 a0 a1) = (k').map n64) : ∀ (n : Nat) (v0_5 : Int), headF prog ev64 L f64 0 [1, 0, 1, 0, 0] (outK (outV prog f64) k xk) n (S64_0 a0 a1 v0_5) = (l64_0 L a0 a1 n v0_5 k').map n64
  | 0, _ => rfl
  | n + 1, v0_5 => by
    rw [headF_round, r64_0]
    have ih := h64_0 L a0 a1 k xk k' hk n
    simp only [l64_0, map_bif, map_tst, map_bnd, Option.map_some, Option.map_none, ih, hk]
def g64 (L : Nat) (a0 : (Int × ((List (Int × (Int × (Int × (Int × Bool))))) × (List (Int × (Int × (Int × (List Int)))))))) (a1 : Int) : Option Int :=
  l64_0 L a0 a1 L (0 : Int) (some (-(1 : Int)))
theorem e64 (L : Nat) (a0 : (Int × ((List (Int × (Int × (Int × (Int × Bool))))) × (List (Int × (Int × (Int × (List Int)))))))) (a1 : Int) : evF prog ev64 (loopN L) f64 (a64.enc (a0, a1)) = (g64 L a0 a1).map n64 := by
  let K'0 : Option Int := (some (-(1 : Int)))
  have hin0 : ∀ (v0_5 : Int), headF prog ev64 L f64 0 [1, 0, 1, 0, 0] (outK (outV prog f64) (topK prog ev64 L f64 [1, 0, 1] (outV prog f64)).n (topK prog ev64 L f64 [1, 0, 1] (outV prog f64)).x) L (S64_0 a0 a1 v0_5) = (l64_0 L a0 a1 L v0_5 K'0).map n64 := fun v0_5 => h64_0 L a0 a1 _ _ K'0 (by rw [t64_0]; simp only [K'0, map_bif, map_tst, map_bnd, Option.map_some, Option.map_none]) L v0_5
  rw [i64]; simp only [g64, map_bif, map_tst, map_bnd, Option.map_some, Option.map_none, hin0, K'0]
theorem s64 (m : ((Int × ((List (Int × (Int × (Int × (Int × Bool))))) × (List (Int × (Int × (Int × (List Int))))))) × Int) → Option Int) (hm : ∀ (x : ((Int × ((List (Int × (Int × (Int × (Int × Bool))))) × (List (Int × (Int × (Int × (List Int))))))) × Int)) t, m x = some t → ∃ L, g64 L x.1 x.2 = some t) : Sat prog cxT 64 (c64 m) :=
  sat_t cxT_ok cxT_pok (by rfl) (fn := f64) rfl a64 n64 dd64 m ev64 kok_nil kwok_nil (fun L x => g64 L x.1 x.2) (fun L x => e64 L x.1 x.2) hm hs64
/-! loop.example/g00222/spec.l5Vip -/
def ev82 (m60 : Int → Option Bool) (m95 : Int → Option Bool) (m62 : Int → Option Bool) (m113 : ((Int × Int × Int × (List Int)) × (Int × Int × Int × (List Int))) → Option Bool) (m64 : ((Int × ((List (Int × (Int × (Int × (Int × Bool))))) × (List (Int × (Int × (Int × (List Int))))))) × Int) → Option Int) : Env cxT := { Kc := kcOf [(60, c60 m60), (95, c95 m95), (62, c62 m62), (113, c113 m113), (64, c64 m64)], Kw := kwOf [], lv := fun i => if i = 0 then [(0, [none, some 38, some 36]), (5, [none, none, none, some 2]), (6, [])] else if i = 2 then [(5, [none, none, none, some 2]), (7, [])] else [], xv := fun i => if i = 0 then some [(5, [none, none, none, some 2])] else if i = 2 then some [] else none }
def S82_0 (a0 : (Int × ((List (Int × (Int × (Int × (Int × Bool))))) × (List (Int × (Int × (Int × (List Int)))))))) (a1 : Int) (v0_5_0 : Int) (v0_5_1 : Int) (v0_5_2 : Int) (v0_5_3 : (List Int)) (v0_6 : Int) : St cxT.ty := { slots := [(.inr (.inr { kind := 2, nm := 0, cells := [], s := { own := 0, nm := 0, e := 27, o := false, xs := (List.cons a0 []) }, i := 0, off := 0 })), junk, junk, junk, junk, (.inr (.inr { kind := 0, nm := 320, cells := [(lv (.int .i64 v0_5_0)), (lv (.int .i64 v0_5_1)), (lv (.int .i64 v0_5_2)), (ls { own := 0, nm := 0, e := 2, o := false, xs := v0_5_3 })], s := { own := 0, nm := 0, e := 0, o := false, xs := ([] : List (PUnit)) }, i := 0, off := 0 })), (.inl (.inl (lv (.int .i64 v0_6))))] ++ List.replicate 73 junk, D := [], F := [], ctr := 1 }
def X82_0 (a0 : (Int × ((List (Int × (Int × (Int × (Int × Bool))))) × (List (Int × (Int × (Int × (List Int)))))))) (a1 : Int) (w0_5_0 : Int) (w0_5_1 : Int) (w0_5_2 : Int) (w0_5_3 : (List Int)) : St cxT.ty := { slots := [junk, junk, junk, junk, junk, (.inr (.inr { kind := 0, nm := 320, cells := [(lv (.int .i64 w0_5_0)), (lv (.int .i64 w0_5_1)), (lv (.int .i64 w0_5_2)), (ls { own := 0, nm := 0, e := 2, o := false, xs := w0_5_3 })], s := { own := 0, nm := 0, e := 0, o := false, xs := ([] : List (PUnit)) }, i := 0, off := 0 }))] ++ List.replicate 74 junk, D := [], F := [], ctr := 1 }
def S82_2 (a0 : (Int × ((List (Int × (Int × (Int × (Int × Bool))))) × (List (Int × (Int × (Int × (List Int)))))))) (a1 : Int) (v2_5_0 : Int) (v2_5_1 : Int) (v2_5_2 : Int) (v2_5_3 : (List Int)) (v2_7 : Int) : St cxT.ty := { slots := [junk, junk, junk, junk, junk, (.inr (.inr { kind := 0, nm := 320, cells := [(lv (.int .i64 v2_5_0)), (lv (.int .i64 v2_5_1)), (lv (.int .i64 v2_5_2)), (ls { own := 0, nm := 0, e := 2, o := false, xs := v2_5_3 })], s := { own := 0, nm := 0, e := 0, o := false, xs := ([] : List (PUnit)) }, i := 0, off := 0 })), junk, (.inl (.inl (lv (.int .i64 v2_7))))] ++ List.replicate 72 junk, D := [], F := [], ctr := 1 }
def X82_2 (a0 : (Int × ((List (Int × (Int × (Int × (Int × Bool))))) × (List (Int × (Int × (Int × (List Int)))))))) (a1 : Int) : St cxT.ty := { slots := [] ++ List.replicate 80 junk, D := [], F := [], ctr := 1 }
theorem i82 (m60 : Int → Option Bool) (m95 : Int → Option Bool) (m62 : Int → Option Bool) (m113 : ((Int × Int × Int × (List Int)) × (Int × Int × Int × (List Int))) → Option Bool) (m64 : ((Int × ((List (Int × (Int × (Int × (Int × Bool))))) × (List (Int × (Int × (Int × (List Int))))))) × Int) → Option Int) (L : Nat) (a0 : (Int × ((List (Int × (Int × (Int × (Int × Bool))))) × (List (Int × (Int × (Int × (List Int)))))))) (a1 : Int) : evF prog (ev82 m60 m95 m62 m113 m64) (loopN L) f82 (a82.enc (a0, a1)) =
  bif ((decide ((0 : Int) ≤ a1)) && (decide (a1 < (Nat.cast (List.length a0.2.2) : Int)))) then tst (m60 (List.getD a0.2.2 (Int.toNat a1) ((0 : Int), ((0 : Int), ((0 : Int), ([] : List (Int)))))).1) false fun (q2 : Bool) => bif (!q2) then some (n82 (3 : Int))
      else tst (m95 (List.getD a0.2.2 (Int.toNat a1) ((0 : Int), ((0 : Int), ((0 : Int), ([] : List (Int)))))).2.1) false fun (q3 : Bool) => bif (!q3) then some (n82 (3 : Int))
        else tst (m62 (List.getD a0.2.2 (Int.toNat a1) ((0 : Int), ((0 : Int), ((0 : Int), ([] : List (Int)))))).2.2.1) false fun (q4 : Bool) => bif (!q4) then some (n82 (3 : Int))
          else bif (decide (a1 > (0 : Int))) then bif ((decide ((0 : Int) ≤ (Go.IntKind.wrap Go.IntKind.i64 (a1 - (1 : Int))))) && (decide ((Go.IntKind.wrap Go.IntKind.i64 (a1 - (1 : Int))) < (Nat.cast (List.length a0.2.2) : Int)))) then tst (m113 (((List.getD a0.2.2 (Int.toNat (Go.IntKind.wrap Go.IntKind.i64 (a1 - (1 : Int)))) ((0 : Int), ((0 : Int), ((0 : Int), ([] : List (Int)))))).1, ((List.getD a0.2.2 (Int.toNat (Go.IntKind.wrap Go.IntKind.i64 (a1 - (1 : Int)))) ((0 : Int), ((0 : Int), ((0 : Int), ([] : List (Int)))))).2.1, ((List.getD a0.2.2 (Int.toNat (Go.IntKind.wrap Go.IntKind.i64 (a1 - (1 : Int)))) ((0 : Int), ((0 : Int), ((0 : Int), ([] : List (Int)))))).2.2.1, (List.getD a0.2.2 (Int.toNat (Go.IntKind.wrap Go.IntKind.i64 (a1 - (1 : Int)))) ((0 : Int), ((0 : Int), ((0 : Int), ([] : List (Int)))))).2.2.2))), ((List.getD a0.2.2 (Int.toNat a1) ((0 : Int), ((0 : Int), ((0 : Int), ([] : List (Int)))))).1, ((List.getD a0.2.2 (Int.toNat a1) ((0 : Int), ((0 : Int), ((0 : Int), ([] : List (Int)))))).2.1, ((List.getD a0.2.2 (Int.toNat a1) ((0 : Int), ((0 : Int), ((0 : Int), ([] : List (Int)))))).2.2.1, (List.getD a0.2.2 (Int.toNat a1) ((0 : Int), ((0 : Int), ((0 : Int), ([] : List (Int)))))).2.2.2))))) false fun (q7 : Bool) => bif (!q7) then some (n82 (1 : Int))
                else headF prog (ev82 m60 m95 m62 m113 m64) L f82 0 [1, 1, 1, 1, 0, 1, 0, 0] (outK (outV prog f82) (topK prog (ev82 m60 m95 m62 m113 m64) L f82 [1, 1, 1, 1, 0, 1] (outV prog f82)).n (topK prog (ev82 m60 m95 m62 m113 m64) L f82 [1, 1, 1, 1, 0, 1] (outV prog f82)).x) L (S82_0 a0 a1 (List.getD a0.2.2 (Int.toNat a1) ((0 : Int), ((0 : Int), ((0 : Int), ([] : List (Int)))))).1 (List.getD a0.2.2 (Int.toNat a1) ((0 : Int), ((0 : Int), ((0 : Int), ([] : List (Int)))))).2.1 (List.getD a0.2.2 (Int.toNat a1) ((0 : Int), ((0 : Int), ((0 : Int), ([] : List (Int)))))).2.2.1 (List.getD a0.2.2 (Int.toNat a1) ((0 : Int), ((0 : Int), ((0 : Int), ([] : List (Int)))))).2.2.2 (0 : Int))
            else none
          else headF prog (ev82 m60 m95 m62 m113 m64) L f82 0 [1, 1, 1, 1, 0, 1, 0, 0] (outK (outV prog f82) (topK prog (ev82 m60 m95 m62 m113 m64) L f82 [1, 1, 1, 1, 0, 1] (outV prog f82)).n (topK prog (ev82 m60 m95 m62 m113 m64) L f82 [1, 1, 1, 1, 0, 1] (outV prog f82)).x) L (S82_0 a0 a1 (List.getD a0.2.2 (Int.toNat a1) ((0 : Int), ((0 : Int), ((0 : Int), ([] : List (Int)))))).1 (List.getD a0.2.2 (Int.toNat a1) ((0 : Int), ((0 : Int), ((0 : Int), ([] : List (Int)))))).2.1 (List.getD a0.2.2 (Int.toNat a1) ((0 : Int), ((0 : Int), ((0 : Int), ([] : List (Int)))))).2.2.1 (List.getD a0.2.2 (Int.toNat a1) ((0 : Int), ((0 : Int), ((0 : Int), ([] : List (Int)))))).2.2.2 (0 : Int))
  else none := by kernel_rfl
theorem r82_0 (m60 : Int → Option Bool) (m95 : Int → Option Bool) (m62 : Int → Option Bool) (m113 : ((Int × Int × Int × (List Int)) × (Int × Int × Int × (List Int))) → Option Bool) (m64 : ((Int × ((List (Int × (Int × (Int × (Int × Bool))))) × (List (Int × (Int × (Int × (List Int))))))) × Int) → Option Int) (L : Nat) (a0 : (Int × ((List (Int × (Int × (Int × (Int × Bool))))) × (List (Int × (Int × (Int × (List Int)))))))) (a1 : Int) (k : St cxT.ty → Option (V cxT.ty)) (xk : Nat → St cxT.ty → Option (V cxT.ty)) (g : St cxT.ty → Option (V cxT.ty)) (v0_5_0 : Int) (v0_5_1 : Int) (v0_5_2 : Int) (v0_5_3 : (List Int)) (v0_6 : Int) : roundF prog (ev82 m60 m95 m62 m113 m64) L f82 0 [1, 1, 1, 1, 0, 1, 0, 0] (outK (outV prog f82) k xk) g (S82_0 a0 a1 v0_5_0 v0_5_1 v0_5_2 v0_5_3 v0_6) =
  bif (decide (v0_6 < (Nat.cast (List.length v0_5_3) : Int))) then bif ((decide ((0 : Int) ≤ v0_6)) && (decide (v0_6 < (Nat.cast (List.length v0_5_3) : Int)))) then tst (m64 (a0, (List.getD v0_5_3 (Int.toNat v0_6) (0 : Int)))) (0 : Int) fun (q3 : Int) => bif (decide (q3 < (0 : Int))) then some (n82 (4 : Int))
        else g (S82_0 a0 a1 v0_5_0 v0_5_1 v0_5_2 v0_5_3 (Go.IntKind.wrap Go.IntKind.i64 (v0_6 + (1 : Int))))
    else none
  else k (X82_0 a0 a1 v0_5_0 v0_5_1 v0_5_2 v0_5_3) := by kernel_rfl
theorem t82_0 (m60 : Int → Option Bool) (m95 : Int → Option Bool) (m62 : Int → Option Bool) (m113 : ((Int × Int × Int × (List Int)) × (Int × Int × Int × (List Int))) → Option Bool) (m64 : ((Int × ((List (Int × (Int × (Int × (Int × Bool))))) × (List (Int × (Int × (Int × (List Int))))))) × Int) → Option Int) (L : Nat) (a0 : (Int × ((List (Int × (Int × (Int × (Int × Bool))))) × (List (Int × (Int × (Int × (List Int)))))))) (a1 : Int) (w0_5_0 : Int) (w0_5_1 : Int) (w0_5_2 : Int) (w0_5_3 : (List Int)) : (topK prog (ev82 m60 m95 m62 m113 m64) L f82 [1, 1, 1, 1, 0, 1] (outV prog f82)).n (X82_0 a0 a1 w0_5_0 w0_5_1 w0_5_2 w0_5_3) =
  headF prog (ev82 m60 m95 m62 m113 m64) L f82 2 [1, 1, 1, 1, 1, 0, 1, 0, 0] (outK (outV prog f82) (topK prog (ev82 m60 m95 m62 m113 m64) L f82 [1, 1, 1, 1, 1, 0, 1] (outV prog f82)).n (topK prog (ev82 m60 m95 m62 m113 m64) L f82 [1, 1, 1, 1, 1, 0, 1] (outV prog f82)).x) L (S82_2 a0 a1 w0_5_0 w0_5_1 w0_5_2 w0_5_3 (1 : Int)) := by kernel_rfl
theorem r82_2 (m60 : Int → Option Bool) (m95 : Int → Option Bool) (m62 : Int → Option Bool) (m113 : ((Int × Int × Int × (List Int)) × (Int × Int × Int × (List Int))) → Option Bool) (m64 : ((Int × ((List (Int × (Int × (Int × (Int × Bool))))) × (List (Int × (Int × (Int × (List Int))))))) × Int) → Option Int) (L : Nat) (a0 : (Int × ((List (Int × (Int × (Int × (Int × Bool))))) × (List (Int × (Int × (Int × (List Int)))))))) (a1 : Int) (k : St cxT.ty → Option (V cxT.ty)) (xk : Nat → St cxT.ty → Option (V cxT.ty)) (g : St cxT.ty → Option (V cxT.ty)) (v2_5_0 : Int) (v2_5_1 : Int) (v2_5_2 : Int) (v2_5_3 : (List Int)) (v2_7 : Int) : roundF prog (ev82 m60 m95 m62 m113 m64) L f82 2 [1, 1, 1, 1, 1, 0, 1, 0, 0] (outK (outV prog f82) k xk) g (S82_2 a0 a1 v2_5_0 v2_5_1 v2_5_2 v2_5_3 v2_7) =
  bif (decide (v2_7 < (Nat.cast (List.length v2_5_3) : Int))) then bif ((decide ((0 : Int) ≤ v2_7)) && (decide (v2_7 < (Nat.cast (List.length v2_5_3) : Int)))) then bif ((decide ((0 : Int) ≤ (Go.IntKind.wrap Go.IntKind.i64 (v2_7 - (1 : Int))))) && (decide ((Go.IntKind.wrap Go.IntKind.i64 (v2_7 - (1 : Int))) < (Nat.cast (List.length v2_5_3) : Int)))) then bif (decide ((List.getD v2_5_3 (Int.toNat v2_7) (0 : Int)) ≤ (List.getD v2_5_3 (Int.toNat (Go.IntKind.wrap Go.IntKind.i64 (v2_7 - (1 : Int)))) (0 : Int)))) then some (n82 (1 : Int))
        else g (S82_2 a0 a1 v2_5_0 v2_5_1 v2_5_2 v2_5_3 (Go.IntKind.wrap Go.IntKind.i64 (v2_7 + (1 : Int))))
      else none
    else none
  else k (X82_2 a0 a1) := by kernel_rfl
theorem t82_2 (m60 : Int → Option Bool) (m95 : Int → Option Bool) (m62 : Int → Option Bool) (m113 : ((Int × Int × Int × (List Int)) × (Int × Int × Int × (List Int))) → Option Bool) (m64 : ((Int × ((List (Int × (Int × (Int × (Int × Bool))))) × (List (Int × (Int × (Int × (List Int))))))) × Int) → Option Int) (L : Nat) (a0 : (Int × ((List (Int × (Int × (Int × (Int × Bool))))) × (List (Int × (Int × (Int × (List Int)))))))) (a1 : Int) : (topK prog (ev82 m60 m95 m62 m113 m64) L f82 [1, 1, 1, 1, 1, 0, 1] (outV prog f82)).n (X82_2 a0 a1) =
  some (n82 (0 : Int)) := by kernel_rfl
def l82_2 (m60 : Int → Option Bool) (m95 : Int → Option Bool) (m62 : Int → Option Bool) (m113 : ((Int × Int × Int × (List Int)) × (Int × Int × Int × (List Int))) → Option Bool) (m64 : ((Int × ((List (Int × (Int × (Int × (Int × Bool))))) × (List (Int × (Int × (Int × (List Int))))))) × Int) → Option Int) (L : Nat) (a0 : (Int × ((List (Int × (Int × (Int × (Int × Bool))))) × (List (Int × (Int × (Int × (List Int)))))))) (a1 : Int) : Nat → Int → Int → Int → (List Int) → Int → (Option Int) → Option Int
  | 0, _, _, _, _, _, _ => none
  | n + 1, v2_5_0, v2_5_1, v2_5_2, v2_5_3, v2_7, k =>
    bif (decide (v2_7 < (Nat.cast (List.length v2_5_3) : Int))) then bif ((decide ((0 : Int) ≤ v2_7)) && (decide (v2_7 < (Nat.cast (List.length v2_5_3) : Int)))) then bif ((decide ((0 : Int) ≤ (Go.IntKind.wrap Go.IntKind.i64 (v2_7 - (1 : Int))))) && (decide ((Go.IntKind.wrap Go.IntKind.i64 (v2_7 - (1 : Int))) < (Nat.cast (List.length v2_5_3) : Int)))) then bif (decide ((List.getD v2_5_3 (Int.toNat v2_7) (0 : Int)) ≤ (List.getD v2_5_3 (Int.toNat (Go.IntKind.wrap Go.IntKind.i64 (v2_7 - (1 : Int)))) (0 : Int)))) then some (1 : Int)
          else l82_2 m60 m95 m62 m113 m64 L a0 a1 n v2_5_0 v2_5_1 v2_5_2 v2_5_3 (Go.IntKind.wrap Go.IntKind.i64 (v2_7 + (1 : Int))) k
        else none
      else none
    else k
theorem h82_2 (m60 : Int → Option Bool) (m95 : Int → Option Bool) (m62 : Int → Option Bool) (m113 : ((Int × Int × Int × (List Int)) × (Int × Int × Int × (List Int))) → Option Bool) (m64 : ((Int × ((List (Int × (Int × (Int × (Int × Bool))))) × (List (Int × (Int × (Int × (List Int))))))) × Int) → Option Int) (L : Nat) (a0 : (Int × ((List (Int × (Int × (Int × (Int × Bool))))) × (List (Int × (Int × (Int × (List Int)))))))) (a1 : Int) (k : St cxT.ty → Option (V cxT.ty)) (xk : Nat → St cxT.ty → Option (V cxT.ty)) (k' : Option Int) (hk : k (X82_2 a0 a1) = (k').map n82) : ∀ (n : Nat) (v2_5_0 : Int) (v2_5_1 : Int) (v2_5_2 : Int) (v2_5_3 : (List Int)) (v2_7 : Int), headF prog (ev82 m60 m95 m62 m113 m64) L f82 2 [1, 1, 1, 1, 1, 0, 1, 0, 0] (outK (outV prog f82) k xk) n (S82_2 a0 a1 v2_5_0 v2_5_1 v2_5_2 v2_5_3 v2_7) = (l82_2 m60 m95 m62 m113 m64 L a0 a1 n v2_5_0 v2_5_1 v2_5_2 v2_5_3 v2_7 k').map n82
  | 0, _, _, _, _, _ => rfl
  | n + 1, v2_5_0, v2_5_1, v2_5_2, v2_5_3, v2_7 => by
    rw [headF_round, r82_2]
    have ih := h82_2 m60 m95 m62 m113 m64 L a0 a1 k xk k' hk n
    simp only [l82_2, map_bif, map_tst, map_bnd, Option.map_some, Option.map_none, ih, hk]
def l82_0 (m60 : Int → Option Bool) (m95 : Int → Option Bool) (m62 : Int → Option Bool) (m113 : ((Int × Int × Int × (List Int)) × (Int × Int × Int × (List Int))) → Option Bool) (m64 : ((Int × ((List (Int × (Int × (Int × (Int × Bool))))) × (List (Int × (Int × (Int × (List Int))))))) × Int) → Option Int) (L : Nat) (a0 : (Int × ((List (Int × (Int × (Int × (Int × Bool))))) × (List (Int × (Int × (Int × (List Int)))))))) (a1 : Int) : Nat → Int → Int → Int → (List Int) → Int → (Int → Int → Int → (List Int) → Option Int) → Option Int
  | 0, _, _, _, _, _, _ => none
  | n + 1, v0_5_0, v0_5_1, v0_5_2, v0_5_3, v0_6, k =>
    bif (decide (v0_6 < (Nat.cast (List.length v0_5_3) : Int))) then bif ((decide ((0 : Int) ≤ v0_6)) && (decide (v0_6 < (Nat.cast (List.length v0_5_3) : Int)))) then tst (m64 (a0, (List.getD v0_5_3 (Int.toNat v0_6) (0 : Int)))) (0 : Int) fun (q4 : Int) => bif (decide (q4 < (0 : Int))) then some (4 : Int)
          else l82_0 m60 m95 m62 m113 m64 L a0 a1 n v0_5_0 v0_5_1 v0_5_2 v0_5_3 (Go.IntKind.wrap Go.IntKind.i64 (v0_6 + (1 : Int))) k
      else none
    else k v0_5_0 v0_5_1 v0_5_2 v0_5_3
theorem h82_0 (m60 : Int → Option Bool) (m95 : Int → Option Bool) (m62 : Int → Option Bool) (m113 : ((Int × Int × Int × (List Int)) × (Int × Int × Int × (List Int))) → Option Bool) (m64 : ((Int × ((List (Int × (Int × (Int × (Int × Bool))))) × (List (Int × (Int × (Int × (List Int))))))) × Int) → Option Int) (L : Nat) (a0 : (Int × ((List (Int × (Int × (Int × (Int × Bool))))) × (List (Int × (Int × (Int × (List Int)))))))) (a1 : Int) (k : St cxT.ty → Option (V cxT.ty)) (xk : Nat → St cxT.ty → Option (V cxT.ty)) (k' : Int → Int → Int → (List Int) → Option Int) (hk : ∀ (w0_5_0 : Int) (w0_5_1 : Int) (w0_5_2 : Int) (w0_5_3 : (List Int)), k (X82_0 a0 a1 w0_5_0 w0_5_1 w0_5_2 w0_5_3) = (k' w0_5_0 w0_5_1 w0_5_2 w0_5_3).map n82) : ∀ (n : Nat) (v0_5_0 : Int) (v0_5_1 : Int) (v0_5_2 : Int) (v0_5_3 : (List Int)) (v0_6 : Int), headF prog (ev82 m60 m95 m62 m113 m64) L f82 0 [1, 1, 1, 1, 0, 1, 0, 0] (outK (outV prog f82) k xk) n (S82_0 a0 a1 v0_5_0 v0_5_1 v0_5_2 v0_5_3 v0_6) = (l82_0 m60 m95 m62 m113 m64 L a0 a1 n v0_5_0 v0_5_1 v0_5_2 v0_5_3 v0_6 k').map n82
  | 0, _, _, _, _, _ => rfl
  | n + 1, v0_5_0, v0_5_1, v0_5_2, v0_5_3, v0_6 => by
    rw [headF_round, r82_0]
    have ih := h82_0 m60 m95 m62 m113 m64 L a0 a1 k xk k' hk n
    simp only [l82_0, map_bif, map_tst, map_bnd, Option.map_some, Option.map_none, ih, hk]
def g82 (m60 : Int → Option Bool) (m95 : Int → Option Bool) (m62 : Int → Option Bool) (m113 : ((Int × Int × Int × (List Int)) × (Int × Int × Int × (List Int))) → Option Bool) (m64 : ((Int × ((List (Int × (Int × (Int × (Int × Bool))))) × (List (Int × (Int × (Int × (List Int))))))) × Int) → Option Int) (L : Nat) (a0 : (Int × ((List (Int × (Int × (Int × (Int × Bool))))) × (List (Int × (Int × (Int × (List Int)))))))) (a1 : Int) : Option Int :=
  bif ((decide ((0 : Int) ≤ a1)) && (decide (a1 < (Nat.cast (List.length a0.2.2) : Int)))) then tst (m60 (List.getD a0.2.2 (Int.toNat a1) ((0 : Int), ((0 : Int), ((0 : Int), ([] : List (Int)))))).1) false fun (q2 : Bool) => bif (!q2) then some (3 : Int)
      else tst (m95 (List.getD a0.2.2 (Int.toNat a1) ((0 : Int), ((0 : Int), ((0 : Int), ([] : List (Int)))))).2.1) false fun (q3 : Bool) => bif (!q3) then some (3 : Int)
        else tst (m62 (List.getD a0.2.2 (Int.toNat a1) ((0 : Int), ((0 : Int), ((0 : Int), ([] : List (Int)))))).2.2.1) false fun (q4 : Bool) => bif (!q4) then some (3 : Int)
          else bif (decide (a1 > (0 : Int))) then bif ((decide ((0 : Int) ≤ (Go.IntKind.wrap Go.IntKind.i64 (a1 - (1 : Int))))) && (decide ((Go.IntKind.wrap Go.IntKind.i64 (a1 - (1 : Int))) < (Nat.cast (List.length a0.2.2) : Int)))) then tst (m113 (((List.getD a0.2.2 (Int.toNat (Go.IntKind.wrap Go.IntKind.i64 (a1 - (1 : Int)))) ((0 : Int), ((0 : Int), ((0 : Int), ([] : List (Int)))))).1, ((List.getD a0.2.2 (Int.toNat (Go.IntKind.wrap Go.IntKind.i64 (a1 - (1 : Int)))) ((0 : Int), ((0 : Int), ((0 : Int), ([] : List (Int)))))).2.1, ((List.getD a0.2.2 (Int.toNat (Go.IntKind.wrap Go.IntKind.i64 (a1 - (1 : Int)))) ((0 : Int), ((0 : Int), ((0 : Int), ([] : List (Int)))))).2.2.1, (List.getD a0.2.2 (Int.toNat (Go.IntKind.wrap Go.IntKind.i64 (a1 - (1 : Int)))) ((0 : Int), ((0 : Int), ((0 : Int), ([] : List (Int)))))).2.2.2))), ((List.getD a0.2.2 (Int.toNat a1) ((0 : Int), ((0 : Int), ((0 : Int), ([] : List (Int)))))).1, ((List.getD a0.2.2 (Int.toNat a1) ((0 : Int), ((0 : Int), ((0 : Int), ([] : List (Int)))))).2.1, ((List.getD a0.2.2 (Int.toNat a1) ((0 : Int), ((0 : Int), ((0 : Int), ([] : List (Int)))))).2.2.1, (List.getD a0.2.2 (Int.toNat a1) ((0 : Int), ((0 : Int), ((0 : Int), ([] : List (Int)))))).2.2.2))))) false fun (q7 : Bool) => bif (!q7) then some (1 : Int)
                else l82_0 m60 m95 m62 m113 m64 L a0 a1 L (List.getD a0.2.2 (Int.toNat a1) ((0 : Int), ((0 : Int), ((0 : Int), ([] : List (Int)))))).1 (List.getD a0.2.2 (Int.toNat a1) ((0 : Int), ((0 : Int), ((0 : Int), ([] : List (Int)))))).2.1 (List.getD a0.2.2 (Int.toNat a1) ((0 : Int), ((0 : Int), ((0 : Int), ([] : List (Int)))))).2.2.1 (List.getD a0.2.2 (Int.toNat a1) ((0 : Int), ((0 : Int), ((0 : Int), ([] : List (Int)))))).2.2.2 (0 : Int) (fun (w0_5_0 : Int) (w0_5_1 : Int) (w0_5_2 : Int) (w0_5_3 : (List Int)) => l82_2 m60 m95 m62 m113 m64 L a0 a1 L w0_5_0 w0_5_1 w0_5_2 w0_5_3 (1 : Int) (some (0 : Int)))
            else none
          else l82_0 m60 m95 m62 m113 m64 L a0 a1 L (List.getD a0.2.2 (Int.toNat a1) ((0 : Int), ((0 : Int), ((0 : Int), ([] : List (Int)))))).1 (List.getD a0.2.2 (Int.toNat a1) ((0 : Int), ((0 : Int), ((0 : Int), ([] : List (Int)))))).2.1 (List.getD a0.2.2 (Int.toNat a1) ((0 : Int), ((0 : Int), ((0 : Int), ([] : List (Int)))))).2.2.1 (List.getD a0.2.2 (Int.toNat a1) ((0 : Int), ((0 : Int), ((0 : Int), ([] : List (Int)))))).2.2.2 (0 : Int) (fun (w0_5_0 : Int) (w0_5_1 : Int) (w0_5_2 : Int) (w0_5_3 : (List Int)) => l82_2 m60 m95 m62 m113 m64 L a0 a1 L w0_5_0 w0_5_1 w0_5_2 w0_5_3 (1 : Int) (some (0 : Int)))
  else none
theorem e82 (m60 : Int → Option Bool) (m95 : Int → Option Bool) (m62 : Int → Option Bool) (m113 : ((Int × Int × Int × (List Int)) × (Int × Int × Int × (List Int))) → Option Bool) (m64 : ((Int × ((List (Int × (Int × (Int × (Int × Bool))))) × (List (Int × (Int × (Int × (List Int))))))) × Int) → Option Int) (L : Nat) (a0 : (Int × ((List (Int × (Int × (Int × (Int × Bool))))) × (List (Int × (Int × (Int × (List Int)))))))) (a1 : Int) : evF prog (ev82 m60 m95 m62 m113 m64) (loopN L) f82 (a82.enc (a0, a1)) = (g82 m60 m95 m62 m113 m64 L a0 a1).map n82 := by
  let K'2 : Option Int := (some (0 : Int))
  have hin2 : ∀ (v2_5_0 : Int) (v2_5_1 : Int) (v2_5_2 : Int) (v2_5_3 : (List Int)) (v2_7 : Int), headF prog (ev82 m60 m95 m62 m113 m64) L f82 2 [1, 1, 1, 1, 1, 0, 1, 0, 0] (outK (outV prog f82) (topK prog (ev82 m60 m95 m62 m113 m64) L f82 [1, 1, 1, 1, 1, 0, 1] (outV prog f82)).n (topK prog (ev82 m60 m95 m62 m113 m64) L f82 [1, 1, 1, 1, 1, 0, 1] (outV prog f82)).x) L (S82_2 a0 a1 v2_5_0 v2_5_1 v2_5_2 v2_5_3 v2_7) = (l82_2 m60 m95 m62 m113 m64 L a0 a1 L v2_5_0 v2_5_1 v2_5_2 v2_5_3 v2_7 K'2).map n82 := fun v2_5_0 v2_5_1 v2_5_2 v2_5_3 v2_7 => h82_2 m60 m95 m62 m113 m64 L a0 a1 _ _ K'2 (by rw [t82_2]; simp only [K'2, map_bif, map_tst, map_bnd, Option.map_some, Option.map_none]) L v2_5_0 v2_5_1 v2_5_2 v2_5_3 v2_7
  let K'0 : Int → Int → Int → (List Int) → Option Int := (fun (w0_5_0 : Int) (w0_5_1 : Int) (w0_5_2 : Int) (w0_5_3 : (List Int)) => l82_2 m60 m95 m62 m113 m64 L a0 a1 L w0_5_0 w0_5_1 w0_5_2 w0_5_3 (1 : Int) (some (0 : Int)))
  have hin0 : ∀ (v0_5_0 : Int) (v0_5_1 : Int) (v0_5_2 : Int) (v0_5_3 : (List Int)) (v0_6 : Int), headF prog (ev82 m60 m95 m62 m113 m64) L f82 0 [1, 1, 1, 1, 0, 1, 0, 0] (outK (outV prog f82) (topK prog (ev82 m60 m95 m62 m113 m64) L f82 [1, 1, 1, 1, 0, 1] (outV prog f82)).n (topK prog (ev82 m60 m95 m62 m113 m64) L f82 [1, 1, 1, 1, 0, 1] (outV prog f82)).x) L (S82_0 a0 a1 v0_5_0 v0_5_1 v0_5_2 v0_5_3 v0_6) = (l82_0 m60 m95 m62 m113 m64 L a0 a1 L v0_5_0 v0_5_1 v0_5_2 v0_5_3 v0_6 K'0).map n82 := fun v0_5_0 v0_5_1 v0_5_2 v0_5_3 v0_6 => h82_0 m60 m95 m62 m113 m64 L a0 a1 _ _ K'0 (fun w0_5_0 w0_5_1 w0_5_2 w0_5_3 => by rw [t82_0]; simp only [K'0, map_bif, map_tst, map_bnd, Option.map_some, Option.map_none, hin2, K'2]) L v0_5_0 v0_5_1 v0_5_2 v0_5_3 v0_6
  rw [i82]; simp only [g82, map_bif, map_tst, map_bnd, Option.map_some, Option.map_none, hin2, K'2, hin0, K'0]
theorem s82 (m60 : Int → Option Bool) (m95 : Int → Option Bool) (m62 : Int → Option Bool) (m113 : ((Int × Int × Int × (List Int)) × (Int × Int × Int × (List Int))) → Option Bool) (m64 : ((Int × ((List (Int × (Int × (Int × (Int × Bool))))) × (List (Int × (Int × (Int × (List Int))))))) × Int) → Option Int) (h60 : Sat prog cxT 60 (c60 m60)) (h95 : Sat prog cxT 95 (c95 m95)) (h62 : Sat prog cxT 62 (c62 m62)) (h113 : Sat prog cxT 113 (c113 m113)) (h64 : Sat prog cxT 64 (c64 m64)) (m : ((Int × ((List (Int × (Int × (Int × (Int × Bool))))) × (List (Int × (Int × (Int × (List Int))))))) × Int) → Option Int) (hm : ∀ (x : ((Int × ((List (Int × (Int × (Int × (Int × Bool))))) × (List (Int × (Int × (Int × (List Int))))))) × Int)) t, m x = some t → ∃ L, g82 m60 m95 m62 m113 m64 L x.1 x.2 = some t) : Sat prog cxT 82 (c82 m) :=
  sat_t cxT_ok cxT_pok (by rfl) (fn := f82) rfl a82 n82 dd82 m (ev82 m60 m95 m62 m113 m64) (kok_cons h60 (kok_cons h95 (kok_cons h62 (kok_cons h113 (kok_cons h64 kok_nil))))) kwok_nil (fun L x => g82 m60 m95 m62 m113 m64 L x.1 x.2) (fun L x => e82 m60 m95 m62 m113 m64 L x.1 x.2) hm hs82
/-! loop.example/g00222/spec.l5Fault -/
def ev40 (m58 : Int → Option Bool) (m81 : (Int × Int × Int × Int × Bool) → Option Bool) (m82 : ((Int × ((List (Int × (Int × (Int × (Int × Bool))))) × (List (Int × (Int × (Int × (List Int))))))) × Int) → Option Int) : Env cxT := { Kc := kcOf [(58, c58 m58), (81, c81 m81), (82, c82 m82)], Kw := kwOf [], lv := fun i => if i = 0 then [(0, [none, some 38, some 36]), (3, [])] else if i = 2 then [(0, [none, some 38, some 36]), (4, [])] else [], xv := fun i => if i = 0 then some [(0, [none, some 38, some 36])] else if i = 2 then some [] else none }
def S40_0 (a0 : (Int × ((List (Int × (Int × (Int × (Int × Bool))))) × (List (Int × (Int × (Int × (List Int)))))))) (v0_3 : Int) : St cxT.ty := { slots := [(.inr (.inr { kind := 2, nm := 0, cells := [], s := { own := 0, nm := 0, e := 27, o := false, xs := (List.cons a0 []) }, i := 0, off := 0 })), junk, junk, (.inl (.inl (lv (.int .i64 v0_3))))] ++ List.replicate 77 junk, D := [], F := [], ctr := 1 }
def X40_0 (a0 : (Int × ((List (Int × (Int × (Int × (Int × Bool))))) × (List (Int × (Int × (Int × (List Int)))))))) : St cxT.ty := { slots := [(.inr (.inr { kind := 2, nm := 0, cells := [], s := { own := 0, nm := 0, e := 27, o := false, xs := (List.cons a0 []) }, i := 0, off := 0 }))] ++ List.replicate 80 junk, D := [], F := [], ctr := 1 }
def S40_2 (a0 : (Int × ((List (Int × (Int × (Int × (Int × Bool))))) × (List (Int × (Int × (Int × (List Int)))))))) (v2_4 : Int) : St cxT.ty := { slots := [(.inr (.inr { kind := 2, nm := 0, cells := [], s := { own := 0, nm := 0, e := 27, o := false, xs := (List.cons a0 []) }, i := 0, off := 0 })), junk, junk, junk, (.inl (.inl (lv (.int .i64 v2_4))))] ++ List.replicate 76 junk, D := [], F := [], ctr := 1 }
def X40_2 (a0 : (Int × ((List (Int × (Int × (Int × (Int × Bool))))) × (List (Int × (Int × (Int × (List Int)))))))) : St cxT.ty := { slots := [] ++ List.replicate 81 junk, D := [], F := [], ctr := 1 }
theorem i40 (m58 : Int → Option Bool) (m81 : (Int × Int × Int × Int × Bool) → Option Bool) (m82 : ((Int × ((List (Int × (Int × (Int × (Int × Bool))))) × (List (Int × (Int × (Int × (List Int))))))) × Int) → Option Int) (L : Nat) (a0 : (Int × ((List (Int × (Int × (Int × (Int × Bool))))) × (List (Int × (Int × (Int × (List Int)))))))) : evF prog (ev40 m58 m81 m82) (loopN L) f40 (a40.enc a0) =
  tst (m58 a0.1) false fun (q1 : Bool) => bif (!q1) then some (n40 (3 : Int))
    else bif (decide ((Nat.cast (List.length a0.2.1) : Int) > (8 : Int))) then some (n40 (2 : Int))
    else bif (decide ((Nat.cast (List.length a0.2.2) : Int) > (4 : Int))) then some (n40 (2 : Int))
    else headF prog (ev40 m58 m81 m82) L f40 0 [1, 1, 1, 0, 1, 0, 0] (outK (outV prog f40) (topK prog (ev40 m58 m81 m82) L f40 [1, 1, 1, 0, 1] (outV prog f40)).n (topK prog (ev40 m58 m81 m82) L f40 [1, 1, 1, 0, 1] (outV prog f40)).x) L (S40_0 a0 (0 : Int)) := by kernel_rfl
theorem r40_0 (m58 : Int → Option Bool) (m81 : (Int × Int × Int × Int × Bool) → Option Bool) (m82 : ((Int × ((List (Int × (Int × (Int × (Int × Bool))))) × (List (Int × (Int × (Int × (List Int))))))) × Int) → Option Int) (L : Nat) (a0 : (Int × ((List (Int × (Int × (Int × (Int × Bool))))) × (List (Int × (Int × (Int × (List Int)))))))) (k : St cxT.ty → Option (V cxT.ty)) (xk : Nat → St cxT.ty → Option (V cxT.ty)) (g : St cxT.ty → Option (V cxT.ty)) (v0_3 : Int) : roundF prog (ev40 m58 m81 m82) L f40 0 [1, 1, 1, 0, 1, 0, 0] (outK (outV prog f40) k xk) g (S40_0 a0 v0_3) =
  bif (decide (v0_3 < (Nat.cast (List.length a0.2.1) : Int))) then bif ((decide ((0 : Int) ≤ v0_3)) && (decide (v0_3 < (Nat.cast (List.length a0.2.1) : Int)))) then tst (m81 ((List.getD a0.2.1 (Int.toNat v0_3) ((0 : Int), ((0 : Int), ((0 : Int), ((0 : Int), Bool.false))))).1, ((List.getD a0.2.1 (Int.toNat v0_3) ((0 : Int), ((0 : Int), ((0 : Int), ((0 : Int), Bool.false))))).2.1, ((List.getD a0.2.1 (Int.toNat v0_3) ((0 : Int), ((0 : Int), ((0 : Int), ((0 : Int), Bool.false))))).2.2.1, ((List.getD a0.2.1 (Int.toNat v0_3) ((0 : Int), ((0 : Int), ((0 : Int), ((0 : Int), Bool.false))))).2.2.2.1, (List.getD a0.2.1 (Int.toNat v0_3) ((0 : Int), ((0 : Int), ((0 : Int), ((0 : Int), Bool.false))))).2.2.2.2))))) false fun (q3 : Bool) => bif (!q3) then some (n40 (3 : Int))
        else bif (decide (v0_3 > (0 : Int))) then bif ((decide ((0 : Int) ≤ v0_3)) && (decide (v0_3 < (Nat.cast (List.length a0.2.1) : Int)))) then bif ((decide ((0 : Int) ≤ (Go.IntKind.wrap Go.IntKind.i64 (v0_3 - (1 : Int))))) && (decide ((Go.IntKind.wrap Go.IntKind.i64 (v0_3 - (1 : Int))) < (Nat.cast (List.length a0.2.1) : Int)))) then bif (decide ((List.getD a0.2.1 (Int.toNat v0_3) ((0 : Int), ((0 : Int), ((0 : Int), ((0 : Int), Bool.false))))).1 ≤ (List.getD a0.2.1 (Int.toNat (Go.IntKind.wrap Go.IntKind.i64 (v0_3 - (1 : Int)))) ((0 : Int), ((0 : Int), ((0 : Int), ((0 : Int), Bool.false))))).1)) then some (n40 (1 : Int))
              else g (S40_0 a0 (Go.IntKind.wrap Go.IntKind.i64 (v0_3 + (1 : Int))))
            else none
          else none
        else g (S40_0 a0 (Go.IntKind.wrap Go.IntKind.i64 (v0_3 + (1 : Int))))
    else none
  else k (X40_0 a0) := by kernel_rfl
theorem t40_0 (m58 : Int → Option Bool) (m81 : (Int × Int × Int × Int × Bool) → Option Bool) (m82 : ((Int × ((List (Int × (Int × (Int × (Int × Bool))))) × (List (Int × (Int × (Int × (List Int))))))) × Int) → Option Int) (L : Nat) (a0 : (Int × ((List (Int × (Int × (Int × (Int × Bool))))) × (List (Int × (Int × (Int × (List Int)))))))) : (topK prog (ev40 m58 m81 m82) L f40 [1, 1, 1, 0, 1] (outV prog f40)).n (X40_0 a0) =
  headF prog (ev40 m58 m81 m82) L f40 2 [1, 1, 1, 1, 0, 1, 0, 0] (outK (outV prog f40) (topK prog (ev40 m58 m81 m82) L f40 [1, 1, 1, 1, 0, 1] (outV prog f40)).n (topK prog (ev40 m58 m81 m82) L f40 [1, 1, 1, 1, 0, 1] (outV prog f40)).x) L (S40_2 a0 (0 : Int)) := by kernel_rfl
theorem r40_2 (m58 : Int → Option Bool) (m81 : (Int × Int × Int × Int × Bool) → Option Bool) (m82 : ((Int × ((List (Int × (Int × (Int × (Int × Bool))))) × (List (Int × (Int × (Int × (List Int))))))) × Int) → Option Int) (L : Nat) (a0 : (Int × ((List (Int × (Int × (Int × (Int × Bool))))) × (List (Int × (Int × (Int × (List Int)))))))) (k : St cxT.ty → Option (V cxT.ty)) (xk : Nat → St cxT.ty → Option (V cxT.ty)) (g : St cxT.ty → Option (V cxT.ty)) (v2_4 : Int) : roundF prog (ev40 m58 m81 m82) L f40 2 [1, 1, 1, 1, 0, 1, 0, 0] (outK (outV prog f40) k xk) g (S40_2 a0 v2_4) =
  bif (decide (v2_4 < (Nat.cast (List.length a0.2.2) : Int))) then tst (m82 (a0, v2_4)) (0 : Int) fun (q2 : Int) => bif (q2 != (0 : Int)) then some (n40 q2)
      else g (S40_2 a0 (Go.IntKind.wrap Go.IntKind.i64 (v2_4 + (1 : Int))))
  else k (X40_2 a0) := by kernel_rfl
theorem t40_2 (m58 : Int → Option Bool) (m81 : (Int × Int × Int × Int × Bool) → Option Bool) (m82 : ((Int × ((List (Int × (Int × (Int × (Int × Bool))))) × (List (Int × (Int × (Int × (List Int))))))) × Int) → Option Int) (L : Nat) (a0 : (Int × ((List (Int × (Int × (Int × (Int × Bool))))) × (List (Int × (Int × (Int × (List Int)))))))) : (topK prog (ev40 m58 m81 m82) L f40 [1, 1, 1, 1, 0, 1] (outV prog f40)).n (X40_2 a0) =
  some (n40 (0 : Int)) := by kernel_rfl
def l40_2 (m58 : Int → Option Bool) (m81 : (Int × Int × Int × Int × Bool) → Option Bool) (m82 : ((Int × ((List (Int × (Int × (Int × (Int × Bool))))) × (List (Int × (Int × (Int × (List Int))))))) × Int) → Option Int) (L : Nat) (a0 : (Int × ((List (Int × (Int × (Int × (Int × Bool))))) × (List (Int × (Int × (Int × (List Int)))))))) : Nat → Int → (Option Int) → Option Int
  | 0, _, _ => none
  | n + 1, v2_4, k =>
    bif (decide (v2_4 < (Nat.cast (List.length a0.2.2) : Int))) then tst (m82 (a0, v2_4)) (0 : Int) fun (q3 : Int) => bif (q3 != (0 : Int)) then some q3
        else l40_2 m58 m81 m82 L a0 n (Go.IntKind.wrap Go.IntKind.i64 (v2_4 + (1 : Int))) k
    else k
theorem h40_2 (m58 : Int → Option Bool) (m81 : (Int × Int × Int × Int × Bool) → Option Bool) (m82 : ((Int × ((List (Int × (Int × (Int × (Int × Bool))))) × (List (Int × (Int × (Int × (List Int))))))) × Int) → Option Int) (L : Nat) (a0 : (Int × ((List (Int × (Int × (Int × (Int × Bool))))) × (List (Int × (Int × (Int × (List Int)))))))) (k : St cxT.ty → Option (V cxT.ty)) (xk : Nat → St cxT.ty → Option (V cxT.ty)) (k' : Option Int) (hk : k (X40_2 a0) = (k').map n40) : ∀ (n : Nat) (v2_4 : Int), headF prog (ev40 m58 m81 m82) L f40 2 [1, 1, 1, 1, 0, 1, 0, 0] (outK (outV prog f40) k xk) n (S40_2 a0 v2_4) = (l40_2 m58 m81 m82 L a0 n v2_4 k').map n40
  | 0, _ => rfl
  | n + 1, v2_4 => by
    rw [headF_round, r40_2]
    have ih := h40_2 m58 m81 m82 L a0 k xk k' hk n
    simp only [l40_2, map_bif, map_tst, map_bnd, Option.map_some, Option.map_none, ih, hk]
def l40_0 (m58 : Int → Option Bool) (m81 : (Int × Int × Int × Int × Bool) → Option Bool) (m82 : ((Int × ((List (Int × (Int × (Int × (Int × Bool))))) × (List (Int × (Int × (Int × (List Int))))))) × Int) → Option Int) (L : Nat) (a0 : (Int × ((List (Int × (Int × (Int × (Int × Bool))))) × (List (Int × (Int × (Int × (List Int)))))))) : Nat → Int → (Option Int) → Option Int
  | 0, _, _ => none
  | n + 1, v0_3, k =>
    bif (decide (v0_3 < (Nat.cast (List.length a0.2.1) : Int))) then bif ((decide ((0 : Int) ≤ v0_3)) && (decide (v0_3 < (Nat.cast (List.length a0.2.1) : Int)))) then tst (m81 ((List.getD a0.2.1 (Int.toNat v0_3) ((0 : Int), ((0 : Int), ((0 : Int), ((0 : Int), Bool.false))))).1, ((List.getD a0.2.1 (Int.toNat v0_3) ((0 : Int), ((0 : Int), ((0 : Int), ((0 : Int), Bool.false))))).2.1, ((List.getD a0.2.1 (Int.toNat v0_3) ((0 : Int), ((0 : Int), ((0 : Int), ((0 : Int), Bool.false))))).2.2.1, ((List.getD a0.2.1 (Int.toNat v0_3) ((0 : Int), ((0 : Int), ((0 : Int), ((0 : Int), Bool.false))))).2.2.2.1, (List.getD a0.2.1 (Int.toNat v0_3) ((0 : Int), ((0 : Int), ((0 : Int), ((0 : Int), Bool.false))))).2.2.2.2))))) false fun (q4 : Bool) => bif (!q4) then some (3 : Int)
          else bif (decide (v0_3 > (0 : Int))) then bif ((decide ((0 : Int) ≤ v0_3)) && (decide (v0_3 < (Nat.cast (List.length a0.2.1) : Int)))) then bif ((decide ((0 : Int) ≤ (Go.IntKind.wrap Go.IntKind.i64 (v0_3 - (1 : Int))))) && (decide ((Go.IntKind.wrap Go.IntKind.i64 (v0_3 - (1 : Int))) < (Nat.cast (List.length a0.2.1) : Int)))) then bif (decide ((List.getD a0.2.1 (Int.toNat v0_3) ((0 : Int), ((0 : Int), ((0 : Int), ((0 : Int), Bool.false))))).1 ≤ (List.getD a0.2.1 (Int.toNat (Go.IntKind.wrap Go.IntKind.i64 (v0_3 - (1 : Int)))) ((0 : Int), ((0 : Int), ((0 : Int), ((0 : Int), Bool.false))))).1)) then some (1 : Int)
                else l40_0 m58 m81 m82 L a0 n (Go.IntKind.wrap Go.IntKind.i64 (v0_3 + (1 : Int))) k
              else none
            else none
          else l40_0 m58 m81 m82 L a0 n (Go.IntKind.wrap Go.IntKind.i64 (v0_3 + (1 : Int))) k
      else none
    else k
theorem h40_0 (m58 : Int → Option Bool) (m81 : (Int × Int × Int × Int × Bool) → Option Bool) (m82 : ((Int × ((List (Int × (Int × (Int × (Int × Bool))))) × (List (Int × (Int × (Int × (List Int))))))) × Int) → Option Int) (L : Nat) (a0 : (Int × ((List (Int × (Int × (Int × (Int × Bool))))) × (List (Int × (Int × (Int × (List Int)))))))) (k : St cxT.ty → Option (V cxT.ty)) (xk : Nat → St cxT.ty → Option (V cxT.ty)) (k' : Option Int) (hk : k (X40_0 a0) = (k').map n40) : ∀ (n : Nat) (v0_3 : Int), headF prog (ev40 m58 m81 m82) L f40 0 [1, 1, 1, 0, 1, 0, 0] (outK (outV prog f40) k xk) n (S40_0 a0 v0_3) = (l40_0 m58 m81 m82 L a0 n v0_3 k').map n40
  | 0, _ => rfl
  | n + 1, v0_3 => by
    rw [headF_round, r40_0]
    have ih := h40_0 m58 m81 m82 L a0 k xk k' hk n
    simp only [l40_0, map_bif, map_tst, map_bnd, Option.map_some, Option.map_none, ih, hk]
def g40 (m58 : Int → Option Bool) (m81 : (Int × Int × Int × Int × Bool) → Option Bool) (m82 : ((Int × ((List (Int × (Int × (Int × (Int × Bool))))) × (List (Int × (Int × (Int × (List Int))))))) × Int) → Option Int) (L : Nat) (a0 : (Int × ((List (Int × (Int × (Int × (Int × Bool))))) × (List (Int × (Int × (Int × (List Int)))))))) : Option Int :=
  tst (m58 a0.1) false fun (q1 : Bool) => bif (!q1) then some (3 : Int)
    else bif (decide ((Nat.cast (List.length a0.2.1) : Int) > (8 : Int))) then some (2 : Int)
    else bif (decide ((Nat.cast (List.length a0.2.2) : Int) > (4 : Int))) then some (2 : Int)
    else l40_0 m58 m81 m82 L a0 L (0 : Int) (l40_2 m58 m81 m82 L a0 L (0 : Int) (some (0 : Int)))
theorem e40 (m58 : Int → Option Bool) (m81 : (Int × Int × Int × Int × Bool) → Option Bool) (m82 : ((Int × ((List (Int × (Int × (Int × (Int × Bool))))) × (List (Int × (Int × (Int × (List Int))))))) × Int) → Option Int) (L : Nat) (a0 : (Int × ((List (Int × (Int × (Int × (Int × Bool))))) × (List (Int × (Int × (Int × (List Int)))))))) : evF prog (ev40 m58 m81 m82) (loopN L) f40 (a40.enc a0) = (g40 m58 m81 m82 L a0).map n40 := by
  let K'2 : Option Int := (some (0 : Int))
  have hin2 : ∀ (v2_4 : Int), headF prog (ev40 m58 m81 m82) L f40 2 [1, 1, 1, 1, 0, 1, 0, 0] (outK (outV prog f40) (topK prog (ev40 m58 m81 m82) L f40 [1, 1, 1, 1, 0, 1] (outV prog f40)).n (topK prog (ev40 m58 m81 m82) L f40 [1, 1, 1, 1, 0, 1] (outV prog f40)).x) L (S40_2 a0 v2_4) = (l40_2 m58 m81 m82 L a0 L v2_4 K'2).map n40 := fun v2_4 => h40_2 m58 m81 m82 L a0 _ _ K'2 (by rw [t40_2]; simp only [K'2, map_bif, map_tst, map_bnd, Option.map_some, Option.map_none]) L v2_4
  let K'0 : Option Int := (l40_2 m58 m81 m82 L a0 L (0 : Int) (some (0 : Int)))
  have hin0 : ∀ (v0_3 : Int), headF prog (ev40 m58 m81 m82) L f40 0 [1, 1, 1, 0, 1, 0, 0] (outK (outV prog f40) (topK prog (ev40 m58 m81 m82) L f40 [1, 1, 1, 0, 1] (outV prog f40)).n (topK prog (ev40 m58 m81 m82) L f40 [1, 1, 1, 0, 1] (outV prog f40)).x) L (S40_0 a0 v0_3) = (l40_0 m58 m81 m82 L a0 L v0_3 K'0).map n40 := fun v0_3 => h40_0 m58 m81 m82 L a0 _ _ K'0 (by rw [t40_0]; simp only [K'0, map_bif, map_tst, map_bnd, Option.map_some, Option.map_none, hin2, K'2]) L v0_3
  rw [i40]; simp only [g40, map_bif, map_tst, map_bnd, Option.map_some, Option.map_none, hin2, K'2, hin0, K'0]
theorem s40 (m58 : Int → Option Bool) (m81 : (Int × Int × Int × Int × Bool) → Option Bool) (m82 : ((Int × ((List (Int × (Int × (Int × (Int × Bool))))) × (List (Int × (Int × (Int × (List Int))))))) × Int) → Option Int) (h58 : Sat prog cxT 58 (c58 m58)) (h81 : Sat prog cxT 81 (c81 m81)) (h82 : Sat prog cxT 82 (c82 m82)) (m : (Int × ((List (Int × (Int × (Int × (Int × Bool))))) × (List (Int × (Int × (Int × (List Int))))))) → Option Int) (hm : ∀ (x : (Int × ((List (Int × (Int × (Int × (Int × Bool))))) × (List (Int × (Int × (Int × (List Int)))))))) t, m x = some t → ∃ L, g40 m58 m81 m82 L x = some t) : Sat prog cxT 40 (c40 m) :=
  sat_t cxT_ok cxT_pok (by rfl) (fn := f40) rfl a40 n40 dd40 m (ev40 m58 m81 m82) (kok_cons h58 (kok_cons h81 (kok_cons h82 kok_nil))) kwok_nil (fun L x => g40 m58 m81 m82 L x) (fun L x => e40 m58 m81 m82 L x) hm hs40
/-! loop.example/g00222/spec.ConfigFault -/
/-! loop.example/g00222/spec.l5Shares -/
def ev42 (m64 : ((Int × ((List (Int × (Int × (Int × (Int × Bool))))) × (List (Int × (Int × (Int × (List Int))))))) × Int) → Option Int) : Env cxT := { Kc := kcOf [(64, c64 m64)], Kw := kwOf [], lv := fun i => if i = 0 then [(0, [none, some 38, some 36]), (1, []), (5, [some 44]), (6, [])] else [], xv := fun i => if i = 0 then some [(5, [some 44])] else none }
def S42_0 (a0 : (Int × ((List (Int × (Int × (Int × (Int × Bool))))) × (List (Int × (Int × (Int × (List Int)))))))) (a1 : Int) (v0_5 : (List (Int × Int))) (v0_6 : Int) : St cxT.ty := { slots := [(.inr (.inr { kind := 2, nm := 0, cells := [], s := { own := 0, nm := 0, e := 27, o := false, xs := (List.cons a0 []) }, i := 0, off := 0 })), (.inl (.inl (lv (.int .i64 a1)))), junk, junk, junk, (.inl (.inl (ls { own := 1, nm := 320, e := 44, o := true, xs := v0_5 }))), (.inl (.inl (lv (.int .i64 v0_6))))] ++ List.replicate 50 junk, D := [], F := [], ctr := 1 }
def X42_0 (a0 : (Int × ((List (Int × (Int × (Int × (Int × Bool))))) × (List (Int × (Int × (Int × (List Int)))))))) (a1 : Int) (w0_5 : (List (Int × Int))) : St cxT.ty := { slots := [junk, junk, junk, junk, junk, (.inl (.inl (ls { own := 1, nm := 320, e := 44, o := true, xs := w0_5 })))] ++ List.replicate 51 junk, D := [], F := [], ctr := 1 }
theorem i42 (m64 : ((Int × ((List (Int × (Int × (Int × (Int × Bool))))) × (List (Int × (Int × (Int × (List Int))))))) × Int) → Option Int) (L : Nat) (a0 : (Int × ((List (Int × (Int × (Int × (Int × Bool))))) × (List (Int × (Int × (Int × (List Int)))))))) (a1 : Int) : evF prog (ev42 m64) (loopN L) f42 (a42.enc (a0, a1)) =
  headF prog (ev42 m64) L f42 0 [1, 1, 0, 1, 0, 0] (outK (outV prog f42) (topK prog (ev42 m64) L f42 [1, 1, 0, 1] (outV prog f42)).n (topK prog (ev42 m64) L f42 [1, 1, 0, 1] (outV prog f42)).x) L (S42_0 a0 a1 ([] : List (Int × Int)) (0 : Int)) := by kernel_rfl
theorem r42_0 (m64 : ((Int × ((List (Int × (Int × (Int × (Int × Bool))))) × (List (Int × (Int × (Int × (List Int))))))) × Int) → Option Int) (L : Nat) (a0 : (Int × ((List (Int × (Int × (Int × (Int × Bool))))) × (List (Int × (Int × (Int × (List Int)))))))) (a1 : Int) (k : St cxT.ty → Option (V cxT.ty)) (xk : Nat → St cxT.ty → Option (V cxT.ty)) (g : St cxT.ty → Option (V cxT.ty)) (v0_5 : (List (Int × Int))) (v0_6 : Int) : roundF prog (ev42 m64) L f42 0 [1, 1, 0, 1, 0, 0] (outK (outV prog f42) k xk) g (S42_0 a0 a1 v0_5 v0_6) =
  bif ((decide ((0 : Int) ≤ a1)) && (decide (a1 < (Nat.cast (List.length a0.2.2) : Int)))) then bif (decide (v0_6 < (Nat.cast (List.length (List.getD a0.2.2 (Int.toNat a1) ((0 : Int), ((0 : Int), ((0 : Int), ([] : List (Int)))))).2.2.2) : Int))) then bif ((decide ((0 : Int) ≤ a1)) && (decide (a1 < (Nat.cast (List.length a0.2.2) : Int)))) then bif ((decide ((0 : Int) ≤ v0_6)) && (decide (v0_6 < (Nat.cast (List.length (List.getD a0.2.2 (Int.toNat a1) ((0 : Int), ((0 : Int), ((0 : Int), ([] : List (Int)))))).2.2.2) : Int)))) then tst (m64 (a0, (List.getD (List.getD a0.2.2 (Int.toNat a1) ((0 : Int), ((0 : Int), ((0 : Int), ([] : List (Int)))))).2.2.2 (Int.toNat v0_6) (0 : Int)))) (0 : Int) fun (q5 : Int) => bif ((decide ((0 : Int) ≤ q5)) && (decide (q5 < (Nat.cast (List.length a0.2.1) : Int)))) then bif (List.getD a0.2.1 (Int.toNat q5) ((0 : Int), ((0 : Int), ((0 : Int), ((0 : Int), Bool.false))))).2.2.2.2 then bif ((List.getD a0.2.1 (Int.toNat q5) ((0 : Int), ((0 : Int), ((0 : Int), ((0 : Int), Bool.false))))).2.2.2.1 == (1 : Int)) then bif (decide (((List.length v0_5) + (List.length (List.cons ((List.getD a0.2.1 (Int.toNat q5) ((0 : Int), ((0 : Int), ((0 : Int), ((0 : Int), Bool.false))))).1, (List.getD a0.2.1 (Int.toNat q5) ((0 : Int), ((0 : Int), ((0 : Int), ((0 : Int), Bool.false))))).2.2.1) ([] : List (Int × Int))))) ≤ (1000000000 : Nat))) then g (S42_0 a0 a1 (v0_5 ++ (List.cons ((List.getD a0.2.1 (Int.toNat q5) ((0 : Int), ((0 : Int), ((0 : Int), ((0 : Int), Bool.false))))).1, (List.getD a0.2.1 (Int.toNat q5) ((0 : Int), ((0 : Int), ((0 : Int), ((0 : Int), Bool.false))))).2.2.1) ([] : List (Int × Int)))) (Go.IntKind.wrap Go.IntKind.i64 (v0_6 + (1 : Int))))
                  else none
                else g (S42_0 a0 a1 v0_5 (Go.IntKind.wrap Go.IntKind.i64 (v0_6 + (1 : Int))))
              else g (S42_0 a0 a1 v0_5 (Go.IntKind.wrap Go.IntKind.i64 (v0_6 + (1 : Int))))
            else none
        else none
      else none
    else k (X42_0 a0 a1 v0_5)
  else none := by kernel_rfl
theorem t42_0 (m64 : ((Int × ((List (Int × (Int × (Int × (Int × Bool))))) × (List (Int × (Int × (Int × (List Int))))))) × Int) → Option Int) (L : Nat) (a0 : (Int × ((List (Int × (Int × (Int × (Int × Bool))))) × (List (Int × (Int × (Int × (List Int)))))))) (a1 : Int) (w0_5 : (List (Int × Int))) : (topK prog (ev42 m64) L f42 [1, 1, 0, 1] (outV prog f42)).n (X42_0 a0 a1 w0_5) =
  some (n42 w0_5) := by kernel_rfl
def l42_0 (m64 : ((Int × ((List (Int × (Int × (Int × (Int × Bool))))) × (List (Int × (Int × (Int × (List Int))))))) × Int) → Option Int) (L : Nat) (a0 : (Int × ((List (Int × (Int × (Int × (Int × Bool))))) × (List (Int × (Int × (Int × (List Int)))))))) (a1 : Int) : Nat → (List (Int × Int)) → Int → ((List (Int × Int)) → Option (List (Int × Int))) → Option (List (Int × Int))
  | 0, _, _, _ => none
  | n + 1, v0_5, v0_6, k =>
    bif ((decide ((0 : Int) ≤ a1)) && (decide (a1 < (Nat.cast (List.length a0.2.2) : Int)))) then bif (decide (v0_6 < (Nat.cast (List.length (List.getD a0.2.2 (Int.toNat a1) ((0 : Int), ((0 : Int), ((0 : Int), ([] : List (Int)))))).2.2.2) : Int))) then bif ((decide ((0 : Int) ≤ a1)) && (decide (a1 < (Nat.cast (List.length a0.2.2) : Int)))) then bif ((decide ((0 : Int) ≤ v0_6)) && (decide (v0_6 < (Nat.cast (List.length (List.getD a0.2.2 (Int.toNat a1) ((0 : Int), ((0 : Int), ((0 : Int), ([] : List (Int)))))).2.2.2) : Int)))) then tst (m64 (a0, (List.getD (List.getD a0.2.2 (Int.toNat a1) ((0 : Int), ((0 : Int), ((0 : Int), ([] : List (Int)))))).2.2.2 (Int.toNat v0_6) (0 : Int)))) (0 : Int) fun (q6 : Int) => bif ((decide ((0 : Int) ≤ q6)) && (decide (q6 < (Nat.cast (List.length a0.2.1) : Int)))) then bif (List.getD a0.2.1 (Int.toNat q6) ((0 : Int), ((0 : Int), ((0 : Int), ((0 : Int), Bool.false))))).2.2.2.2 then bif ((List.getD a0.2.1 (Int.toNat q6) ((0 : Int), ((0 : Int), ((0 : Int), ((0 : Int), Bool.false))))).2.2.2.1 == (1 : Int)) then bif (decide (((List.length v0_5) + (List.length (List.cons ((List.getD a0.2.1 (Int.toNat q6) ((0 : Int), ((0 : Int), ((0 : Int), ((0 : Int), Bool.false))))).1, (List.getD a0.2.1 (Int.toNat q6) ((0 : Int), ((0 : Int), ((0 : Int), ((0 : Int), Bool.false))))).2.2.1) ([] : List (Int × Int))))) ≤ (1000000000 : Nat))) then l42_0 m64 L a0 a1 n (v0_5 ++ (List.cons ((List.getD a0.2.1 (Int.toNat q6) ((0 : Int), ((0 : Int), ((0 : Int), ((0 : Int), Bool.false))))).1, (List.getD a0.2.1 (Int.toNat q6) ((0 : Int), ((0 : Int), ((0 : Int), ((0 : Int), Bool.false))))).2.2.1) ([] : List (Int × Int)))) (Go.IntKind.wrap Go.IntKind.i64 (v0_6 + (1 : Int))) k
                    else none
                  else l42_0 m64 L a0 a1 n v0_5 (Go.IntKind.wrap Go.IntKind.i64 (v0_6 + (1 : Int))) k
                else l42_0 m64 L a0 a1 n v0_5 (Go.IntKind.wrap Go.IntKind.i64 (v0_6 + (1 : Int))) k
              else none
          else none
        else none
      else k v0_5
    else none
theorem h42_0 (m64 : ((Int × ((List (Int × (Int × (Int × (Int × Bool))))) × (List (Int × (Int × (Int × (List Int))))))) × Int) → Option Int) (L : Nat) (a0 : (Int × ((List (Int × (Int × (Int × (Int × Bool))))) × (List (Int × (Int × (Int × (List Int)))))))) (a1 : Int) (k : St cxT.ty → Option (V cxT.ty)) (xk : Nat → St cxT.ty → Option (V cxT.ty)) (k' : (List (Int × Int)) → Option (List (Int × Int))) (hk : ∀ (w0_5 : (List (Int × Int))), k (X42_0 a0 a1 w0_5) = (k' w0_5).map n42) : ∀ (n : Nat) (v0_5 : (List (Int × Int))) (v0_6 : Int), headF prog (ev42 m64) L f42 0 [1, 1, 0, 1, 0, 0] (outK (outV prog f42) k xk) n (S42_0 a0 a1 v0_5 v0_6) = (l42_0 m64 L a0 a1 n v0_5 v0_6 k').map n42
  | 0, _, _ => rfl
  | n + 1, v0_5, v0_6 => by
    rw [headF_round, r42_0]
    have ih := h42_0 m64 L a0 a1 k xk k' hk n
    simp only [l42_0, map_bif, map_tst, map_bnd, Option.map_some, Option.map_none, ih, hk]
def g42 (m64 : ((Int × ((List (Int × (Int × (Int × (Int × Bool))))) × (List (Int × (Int × (Int × (List Int))))))) × Int) → Option Int) (L : Nat) (a0 : (Int × ((List (Int × (Int × (Int × (Int × Bool))))) × (List (Int × (Int × (Int × (List Int)))))))) (a1 : Int) : Option (List (Int × Int)) :=
  l42_0 m64 L a0 a1 L ([] : List (Int × Int)) (0 : Int) (fun (w0_5 : (List (Int × Int))) => some w0_5)
theorem e42 (m64 : ((Int × ((List (Int × (Int × (Int × (Int × Bool))))) × (List (Int × (Int × (Int × (List Int))))))) × Int) → Option Int) (L : Nat) (a0 : (Int × ((List (Int × (Int × (Int × (Int × Bool))))) × (List (Int × (Int × (Int × (List Int)))))))) (a1 : Int) : evF prog (ev42 m64) (loopN L) f42 (a42.enc (a0, a1)) = (g42 m64 L a0 a1).map n42 := by
  let K'0 : (List (Int × Int)) → Option (List (Int × Int)) := (fun (w0_5 : (List (Int × Int))) => some w0_5)
  have hin0 : ∀ (v0_5 : (List (Int × Int))) (v0_6 : Int), headF prog (ev42 m64) L f42 0 [1, 1, 0, 1, 0, 0] (outK (outV prog f42) (topK prog (ev42 m64) L f42 [1, 1, 0, 1] (outV prog f42)).n (topK prog (ev42 m64) L f42 [1, 1, 0, 1] (outV prog f42)).x) L (S42_0 a0 a1 v0_5 v0_6) = (l42_0 m64 L a0 a1 L v0_5 v0_6 K'0).map n42 := fun v0_5 v0_6 => h42_0 m64 L a0 a1 _ _ K'0 (fun w0_5 => by rw [t42_0]; simp only [K'0, map_bif, map_tst, map_bnd, Option.map_some, Option.map_none]) L v0_5 v0_6
  rw [i42]; simp only [g42, map_bif, map_tst, map_bnd, Option.map_some, Option.map_none, hin0, K'0]
theorem s42 (m64 : ((Int × ((List (Int × (Int × (Int × (Int × Bool))))) × (List (Int × (Int × (Int × (List Int))))))) × Int) → Option Int) (h64 : Sat prog cxT 64 (c64 m64)) (m : ((Int × ((List (Int × (Int × (Int × (Int × Bool))))) × (List (Int × (Int × (Int × (List Int))))))) × Int) → Option (List (Int × Int))) (hm : ∀ (x : ((Int × ((List (Int × (Int × (Int × (Int × Bool))))) × (List (Int × (Int × (Int × (List Int))))))) × Int)) t, m x = some t → ∃ L, g42 m64 L x.1 x.2 = some t) : Sat prog cxT 42 (c42 m) :=
  sat_t cxT_ok cxT_pok (by rfl) (fn := f42) rfl a42 n42 dd42 m (ev42 m64) (kok_cons h64 kok_nil) kwok_nil (fun L x => g42 m64 L x.1 x.2) (fun L x => e42 m64 L x.1 x.2) hm hs42
/-! loop.example/g00222/spec.SharesFor -/
def ev13 (m40 : (Int × ((List (Int × (Int × (Int × (Int × Bool))))) × (List (Int × (Int × (Int × (List Int))))))) → Option Int) (m41 : (Int × Int × Int) → Option Bool) (m42 : ((Int × ((List (Int × (Int × (Int × (Int × Bool))))) × (List (Int × (Int × (Int × (List Int))))))) × Int) → Option (List (Int × Int))) : Env cxT := { Kc := kcOf [(40, c40 m40), (41, c41 m41), (42, c42 m42)], Kw := kwOf [], lv := fun i => [], xv := fun i => none }
theorem i13 (m40 : (Int × ((List (Int × (Int × (Int × (Int × Bool))))) × (List (Int × (Int × (Int × (List Int))))))) → Option Int) (m41 : (Int × Int × Int) → Option Bool) (m42 : ((Int × ((List (Int × (Int × (Int × (Int × Bool))))) × (List (Int × (Int × (Int × (List Int))))))) × Int) → Option (List (Int × Int))) (L : Nat) (a0_0 : Int) (a0_1 : (List (Int × (Int × (Int × (Int × Bool)))))) (a0_2 : (List (Int × (Int × (Int × (List Int)))))) (a1 : Int) : evF prog (ev13 m40 m41 m42) (loopN L) f13 (a13.enc ((a0_0, a0_1, a0_2), a1)) =
  tst (m40 (a0_0, (a0_1, a0_2))) (0 : Int) fun (q1 : Int) => bif (q1 != (0 : Int)) then some (n13 (q1, ([] : List (Int × Int))))
    else tst (m41 (a1, ((0 : Int), (Go.IntKind.wrap Go.IntKind.i64 ((Nat.cast (List.length a0_2) : Int) - (1 : Int)))))) false fun (q2 : Bool) => bif (!q2) then some (n13 ((3 : Int), ([] : List (Int × Int))))
      else tst (m42 ((a0_0, (a0_1, a0_2)), a1)) [] fun (q3 : (List (Int × Int))) => some (n13 ((0 : Int), q3)) := by kernel_rfl
def g13 (m40 : (Int × ((List (Int × (Int × (Int × (Int × Bool))))) × (List (Int × (Int × (Int × (List Int))))))) → Option Int) (m41 : (Int × Int × Int) → Option Bool) (m42 : ((Int × ((List (Int × (Int × (Int × (Int × Bool))))) × (List (Int × (Int × (Int × (List Int))))))) × Int) → Option (List (Int × Int))) (L : Nat) (a0_0 : Int) (a0_1 : (List (Int × (Int × (Int × (Int × Bool)))))) (a0_2 : (List (Int × (Int × (Int × (List Int)))))) (a1 : Int) : Option (Int × (List (Int × Int))) :=
  tst (m40 (a0_0, (a0_1, a0_2))) (0 : Int) fun (q1 : Int) => bif (q1 != (0 : Int)) then some (q1, ([] : List (Int × Int)))
    else tst (m41 (a1, ((0 : Int), (Go.IntKind.wrap Go.IntKind.i64 ((Nat.cast (List.length a0_2) : Int) - (1 : Int)))))) false fun (q2 : Bool) => bif (!q2) then some ((3 : Int), ([] : List (Int × Int)))
      else tst (m42 ((a0_0, (a0_1, a0_2)), a1)) [] fun (q3 : (List (Int × Int))) => some ((0 : Int), q3)
theorem e13 (m40 : (Int × ((List (Int × (Int × (Int × (Int × Bool))))) × (List (Int × (Int × (Int × (List Int))))))) → Option Int) (m41 : (Int × Int × Int) → Option Bool) (m42 : ((Int × ((List (Int × (Int × (Int × (Int × Bool))))) × (List (Int × (Int × (Int × (List Int))))))) × Int) → Option (List (Int × Int))) (L : Nat) (a0_0 : Int) (a0_1 : (List (Int × (Int × (Int × (Int × Bool)))))) (a0_2 : (List (Int × (Int × (Int × (List Int)))))) (a1 : Int) : evF prog (ev13 m40 m41 m42) (loopN L) f13 (a13.enc ((a0_0, a0_1, a0_2), a1)) = (g13 m40 m41 m42 L a0_0 a0_1 a0_2 a1).map n13 := by
  rw [i13]; simp only [g13, map_bif, map_tst, map_bnd, Option.map_some, Option.map_none]
theorem s13 (m40 : (Int × ((List (Int × (Int × (Int × (Int × Bool))))) × (List (Int × (Int × (Int × (List Int))))))) → Option Int) (m41 : (Int × Int × Int) → Option Bool) (m42 : ((Int × ((List (Int × (Int × (Int × (Int × Bool))))) × (List (Int × (Int × (Int × (List Int))))))) × Int) → Option (List (Int × Int))) (h40 : Sat prog cxT 40 (c40 m40)) (h41 : Sat prog cxT 41 (c41 m41)) (h42 : Sat prog cxT 42 (c42 m42)) (m : ((Int × (List (Int × (Int × (Int × (Int × Bool))))) × (List (Int × (Int × (Int × (List Int)))))) × Int) → Option (Int × (List (Int × Int)))) (hm : ∀ (x : ((Int × (List (Int × (Int × (Int × (Int × Bool))))) × (List (Int × (Int × (Int × (List Int)))))) × Int)) t, m x = some t → ∃ L, g13 m40 m41 m42 L x.1.1 x.1.2.1 x.1.2.2 x.2 = some t) : Sat prog cxT 13 (c13 m) :=
  sat_t cxT_ok cxT_pok (by rfl) (fn := f13) rfl a13 n13 dd13 m (ev13 m40 m41 m42) (kok_cons h40 (kok_cons h41 (kok_cons h42 kok_nil))) kwok_nil (fun L x => g13 m40 m41 m42 L x.1.1 x.1.2.1 x.1.2.2 x.2) (fun L x => e13 m40 m41 m42 L x.1.1 x.1.2.1 x.1.2.2 x.2) hm hs13
/-! loop.example/g00222/spec.BackendAt -/
/-! loop.example/g00222/spec.VipFor -/
/-! loop.example/g00222/spec.l5For -/
end Go.Proofs.Try
