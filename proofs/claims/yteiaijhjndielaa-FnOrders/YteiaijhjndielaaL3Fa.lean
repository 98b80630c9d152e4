/- A part of the proof of FnOrders: L3Fa. -/
import Derived.Test.YteiaijhjndielaaL3Con
set_option maxHeartbeats 0
set_option linter.unusedVariables false
set_option linter.unusedSimpArgs false
namespace Go.Proofs.Try
open Go Go.VM Go.RowKit
/-! loop.example/g00222/laws.FnExactMixNumber -/
def ev7 (m29 : (Int × Int) → Option Int) (m30 : (Int × Int) → Option Int) : Env cxT := { Kc := kcOf [(29, c29 m29), (30, c30 m30)], Kw := kwOf [], lv := fun i => [], xv := fun i => none }
theorem i7 (m29 : (Int × Int) → Option Int) (m30 : (Int × Int) → Option Int) (L : Nat) (a0 : Int) (a1 : Int) : evF prog (ev7 m29 m30) (loopN L) f7 (a7.enc (a0, a1)) =
  bif (Option.isSome (m29 (a0, a1))) then bif (Option.isSome (m30 (a0, a1))) then bif ((Option.getD (m30 (a0, a1)) (0 : Int)) != (Option.getD (m29 (a0, a1)) (0 : Int))) then some (n7 Bool.false)
      else some (n7 Bool.true)
    else none
  else none := by kernel_rfl
def g7 (m29 : (Int × Int) → Option Int) (m30 : (Int × Int) → Option Int) (L : Nat) (a0 : Int) (a1 : Int) : Option Bool :=
  bif (Option.isSome (m29 (a0, a1))) then bif (Option.isSome (m30 (a0, a1))) then bif ((Option.getD (m30 (a0, a1)) (0 : Int)) != (Option.getD (m29 (a0, a1)) (0 : Int))) then some Bool.false
      else some Bool.true
    else none
  else none
theorem e7 (m29 : (Int × Int) → Option Int) (m30 : (Int × Int) → Option Int) (L : Nat) (a0 : Int) (a1 : Int) : evF prog (ev7 m29 m30) (loopN L) f7 (a7.enc (a0, a1)) = (g7 m29 m30 L a0 a1).map n7 := by
  rw [i7]; simp only [g7, map_bif, Option.map_some, Option.map_none]
theorem s7 (m29 : (Int × Int) → Option Int) (m30 : (Int × Int) → Option Int) (h29 : Sat prog cxT 29 (c29 m29)) (h30 : Sat prog cxT 30 (c30 m30)) (m : (Int × Int) → Option Bool) (hm : ∀ (x : (Int × Int)) t, m x = some t → ∃ L, g7 m29 m30 L x.1 x.2 = some t) : Sat prog cxT 7 (c7 m) :=
  sat_t cxT_ok cxT_pok (by rfl) (fn := f7) rfl a7 n7 dd7 m (ev7 m29 m30) (kok_cons h29 (kok_cons h30 kok_nil)) kwok_nil (fun L x => g7 m29 m30 L x.1 x.2) (fun L x => e7 m29 m30 L x.1 x.2) hm hs7
/-! loop.example/g00222/laws.FnExactOffsetOf -/
def ev9 (m34 : Int → Option (Int × Int)) (m16 : Int → Option (Int × Int)) (m28 : ((Int × Int) × (Int × Int)) → Option Bool) : Env cxT := { Kc := kcOf [(34, c34 m34), (16, c16 m16), (28, c28 m28)], Kw := kwOf [], lv := fun i => [], xv := fun i => none }
theorem i9 (m34 : Int → Option (Int × Int)) (m16 : Int → Option (Int × Int)) (m28 : ((Int × Int) × (Int × Int)) → Option Bool) (L : Nat) (a0 : Int) : evF prog (ev9 m34 m16 m28) (loopN L) f9 (a9.enc a0) =
  bif (Option.isSome (m34 a0)) then bif (Option.isSome (m16 a0)) then bif (Option.isSome (m28 (((Option.getD (m16 a0) ((0 : Int), (0 : Int))).1, (Option.getD (m16 a0) ((0 : Int), (0 : Int))).2), ((Option.getD (m34 a0) ((0 : Int), (0 : Int))).1, (Option.getD (m34 a0) ((0 : Int), (0 : Int))).2)))) then bif (!(Option.getD (m28 (((Option.getD (m16 a0) ((0 : Int), (0 : Int))).1, (Option.getD (m16 a0) ((0 : Int), (0 : Int))).2), ((Option.getD (m34 a0) ((0 : Int), (0 : Int))).1, (Option.getD (m34 a0) ((0 : Int), (0 : Int))).2))) Bool.false)) then some (n9 Bool.false)
        else some (n9 Bool.true)
      else none
    else none
  else none := by kernel_rfl
def g9 (m34 : Int → Option (Int × Int)) (m16 : Int → Option (Int × Int)) (m28 : ((Int × Int) × (Int × Int)) → Option Bool) (L : Nat) (a0 : Int) : Option Bool :=
  bif (Option.isSome (m34 a0)) then bif (Option.isSome (m16 a0)) then bif (Option.isSome (m28 (((Option.getD (m16 a0) ((0 : Int), (0 : Int))).1, (Option.getD (m16 a0) ((0 : Int), (0 : Int))).2), ((Option.getD (m34 a0) ((0 : Int), (0 : Int))).1, (Option.getD (m34 a0) ((0 : Int), (0 : Int))).2)))) then bif (!(Option.getD (m28 (((Option.getD (m16 a0) ((0 : Int), (0 : Int))).1, (Option.getD (m16 a0) ((0 : Int), (0 : Int))).2), ((Option.getD (m34 a0) ((0 : Int), (0 : Int))).1, (Option.getD (m34 a0) ((0 : Int), (0 : Int))).2))) Bool.false)) then some Bool.false
        else some Bool.true
      else none
    else none
  else none
theorem e9 (m34 : Int → Option (Int × Int)) (m16 : Int → Option (Int × Int)) (m28 : ((Int × Int) × (Int × Int)) → Option Bool) (L : Nat) (a0 : Int) : evF prog (ev9 m34 m16 m28) (loopN L) f9 (a9.enc a0) = (g9 m34 m16 m28 L a0).map n9 := by
  rw [i9]; simp only [g9, map_bif, Option.map_some, Option.map_none]
theorem s9 (m34 : Int → Option (Int × Int)) (m16 : Int → Option (Int × Int)) (m28 : ((Int × Int) × (Int × Int)) → Option Bool) (h34 : Sat prog cxT 34 (c34 m34)) (h16 : Sat prog cxT 16 (c16 m16)) (h28 : Sat prog cxT 28 (c28 m28)) (m : Int → Option Bool) (hm : ∀ (x : Int) t, m x = some t → ∃ L, g9 m34 m16 m28 L x = some t) : Sat prog cxT 9 (c9 m) :=
  sat_t cxT_ok cxT_pok (by rfl) (fn := f9) rfl a9 n9 dd9 m (ev9 m34 m16 m28) (kok_cons h34 (kok_cons h16 (kok_cons h28 kok_nil))) kwok_nil (fun L x => g9 m34 m16 m28 L x) (fun L x => e9 m34 m16 m28 L x) hm hs9
/-! loop.example/g00222/laws.FnExactSkipOf -/
def ev10 (m35 : Int → Option (Int × Int)) (m17 : Int → Option (Int × Int)) (m28 : ((Int × Int) × (Int × Int)) → Option Bool) : Env cxT := { Kc := kcOf [(35, c35 m35), (17, c17 m17), (28, c28 m28)], Kw := kwOf [], lv := fun i => [], xv := fun i => none }
theorem i10 (m35 : Int → Option (Int × Int)) (m17 : Int → Option (Int × Int)) (m28 : ((Int × Int) × (Int × Int)) → Option Bool) (L : Nat) (a0 : Int) : evF prog (ev10 m35 m17 m28) (loopN L) f10 (a10.enc a0) =
  bif (Option.isSome (m35 a0)) then bif (Option.isSome (m17 a0)) then bif (Option.isSome (m28 (((Option.getD (m17 a0) ((0 : Int), (0 : Int))).1, (Option.getD (m17 a0) ((0 : Int), (0 : Int))).2), ((Option.getD (m35 a0) ((0 : Int), (0 : Int))).1, (Option.getD (m35 a0) ((0 : Int), (0 : Int))).2)))) then bif (!(Option.getD (m28 (((Option.getD (m17 a0) ((0 : Int), (0 : Int))).1, (Option.getD (m17 a0) ((0 : Int), (0 : Int))).2), ((Option.getD (m35 a0) ((0 : Int), (0 : Int))).1, (Option.getD (m35 a0) ((0 : Int), (0 : Int))).2))) Bool.false)) then some (n10 Bool.false)
        else some (n10 Bool.true)
      else none
    else none
  else none := by kernel_rfl
def g10 (m35 : Int → Option (Int × Int)) (m17 : Int → Option (Int × Int)) (m28 : ((Int × Int) × (Int × Int)) → Option Bool) (L : Nat) (a0 : Int) : Option Bool :=
  bif (Option.isSome (m35 a0)) then bif (Option.isSome (m17 a0)) then bif (Option.isSome (m28 (((Option.getD (m17 a0) ((0 : Int), (0 : Int))).1, (Option.getD (m17 a0) ((0 : Int), (0 : Int))).2), ((Option.getD (m35 a0) ((0 : Int), (0 : Int))).1, (Option.getD (m35 a0) ((0 : Int), (0 : Int))).2)))) then bif (!(Option.getD (m28 (((Option.getD (m17 a0) ((0 : Int), (0 : Int))).1, (Option.getD (m17 a0) ((0 : Int), (0 : Int))).2), ((Option.getD (m35 a0) ((0 : Int), (0 : Int))).1, (Option.getD (m35 a0) ((0 : Int), (0 : Int))).2))) Bool.false)) then some Bool.false
        else some Bool.true
      else none
    else none
  else none
theorem e10 (m35 : Int → Option (Int × Int)) (m17 : Int → Option (Int × Int)) (m28 : ((Int × Int) × (Int × Int)) → Option Bool) (L : Nat) (a0 : Int) : evF prog (ev10 m35 m17 m28) (loopN L) f10 (a10.enc a0) = (g10 m35 m17 m28 L a0).map n10 := by
  rw [i10]; simp only [g10, map_bif, Option.map_some, Option.map_none]
theorem s10 (m35 : Int → Option (Int × Int)) (m17 : Int → Option (Int × Int)) (m28 : ((Int × Int) × (Int × Int)) → Option Bool) (h35 : Sat prog cxT 35 (c35 m35)) (h17 : Sat prog cxT 17 (c17 m17)) (h28 : Sat prog cxT 28 (c28 m28)) (m : Int → Option Bool) (hm : ∀ (x : Int) t, m x = some t → ∃ L, g10 m35 m17 m28 L x = some t) : Sat prog cxT 10 (c10 m) :=
  sat_t cxT_ok cxT_pok (by rfl) (fn := f10) rfl a10 n10 dd10 m (ev10 m35 m17 m28) (kok_cons h35 (kok_cons h17 (kok_cons h28 kok_nil))) kwok_nil (fun L x => g10 m35 m17 m28 L x) (fun L x => e10 m35 m17 m28 L x) hm hs10
/-! loop.example/g00222/impl.OffsetOf -/
def ev16 (m37 : Int → Option Bool) (m30 : (Int × Int) → Option Int) : Env cxT := { Kc := kcOf [(37, c37 m37), (30, c30 m30)], Kw := kwOf [], lv := fun i => [], xv := fun i => none }
theorem i16 (m37 : Int → Option Bool) (m30 : (Int × Int) → Option Int) (L : Nat) (a0 : Int) : evF prog (ev16 m37 m30) (loopN L) f16 (a16.enc a0) =
  bif (Option.isSome (m37 a0)) then bif (!(Option.getD (m37 a0) Bool.false)) then some (n16 ((3 : Int), (0 : Int)))
    else bif (Option.isSome (m30 (a0, (3 : Int)))) then some (n16 ((0 : Int), (Int.tmod (Option.getD (m30 (a0, (3 : Int))) (0 : Int)) (31 : Int))))
    else none
  else none := by kernel_rfl
def g16 (m37 : Int → Option Bool) (m30 : (Int × Int) → Option Int) (L : Nat) (a0 : Int) : Option (Int × Int) :=
  bif (Option.isSome (m37 a0)) then bif (!(Option.getD (m37 a0) Bool.false)) then some ((3 : Int), (0 : Int))
    else bif (Option.isSome (m30 (a0, (3 : Int)))) then some ((0 : Int), (Int.tmod (Option.getD (m30 (a0, (3 : Int))) (0 : Int)) (31 : Int)))
    else none
  else none
theorem e16 (m37 : Int → Option Bool) (m30 : (Int × Int) → Option Int) (L : Nat) (a0 : Int) : evF prog (ev16 m37 m30) (loopN L) f16 (a16.enc a0) = (g16 m37 m30 L a0).map n16 := by
  rw [i16]; simp only [g16, map_bif, Option.map_some, Option.map_none]
theorem s16 (m37 : Int → Option Bool) (m30 : (Int × Int) → Option Int) (h37 : Sat prog cxT 37 (c37 m37)) (h30 : Sat prog cxT 30 (c30 m30)) (m : Int → Option (Int × Int)) (hm : ∀ (x : Int) t, m x = some t → ∃ L, g16 m37 m30 L x = some t) : Sat prog cxT 16 (c16 m) :=
  sat_t cxT_ok cxT_pok (by rfl) (fn := f16) rfl a16 n16 dd16 m (ev16 m37 m30) (kok_cons h37 (kok_cons h30 kok_nil)) kwok_nil (fun L x => g16 m37 m30 L x) (fun L x => e16 m37 m30 L x) hm hs16
/-! loop.example/g00222/impl.SkipOf -/
def ev17 (m37 : Int → Option Bool) (m30 : (Int × Int) → Option Int) : Env cxT := { Kc := kcOf [(37, c37 m37), (30, c30 m30)], Kw := kwOf [], lv := fun i => [], xv := fun i => none }
theorem i17 (m37 : Int → Option Bool) (m30 : (Int × Int) → Option Int) (L : Nat) (a0 : Int) : evF prog (ev17 m37 m30) (loopN L) f17 (a17.enc a0) =
  bif (Option.isSome (m37 a0)) then bif (!(Option.getD (m37 a0) Bool.false)) then some (n17 ((3 : Int), (0 : Int)))
    else bif (Option.isSome (m30 (a0, (5 : Int)))) then some (n17 ((0 : Int), (Go.IntKind.wrap Go.IntKind.i64 ((1 : Int) + (Int.tmod (Option.getD (m30 (a0, (5 : Int))) (0 : Int)) (30 : Int))))))
    else none
  else none := by kernel_rfl
def g17 (m37 : Int → Option Bool) (m30 : (Int × Int) → Option Int) (L : Nat) (a0 : Int) : Option (Int × Int) :=
  bif (Option.isSome (m37 a0)) then bif (!(Option.getD (m37 a0) Bool.false)) then some ((3 : Int), (0 : Int))
    else bif (Option.isSome (m30 (a0, (5 : Int)))) then some ((0 : Int), (Go.IntKind.wrap Go.IntKind.i64 ((1 : Int) + (Int.tmod (Option.getD (m30 (a0, (5 : Int))) (0 : Int)) (30 : Int)))))
    else none
  else none
theorem e17 (m37 : Int → Option Bool) (m30 : (Int × Int) → Option Int) (L : Nat) (a0 : Int) : evF prog (ev17 m37 m30) (loopN L) f17 (a17.enc a0) = (g17 m37 m30 L a0).map n17 := by
  rw [i17]; simp only [g17, map_bif, Option.map_some, Option.map_none]
theorem s17 (m37 : Int → Option Bool) (m30 : (Int × Int) → Option Int) (h37 : Sat prog cxT 37 (c37 m37)) (h30 : Sat prog cxT 30 (c30 m30)) (m : Int → Option (Int × Int)) (hm : ∀ (x : Int) t, m x = some t → ∃ L, g17 m37 m30 L x = some t) : Sat prog cxT 17 (c17 m) :=
  sat_t cxT_ok cxT_pok (by rfl) (fn := f17) rfl a17 n17 dd17 m (ev17 m37 m30) (kok_cons h37 (kok_cons h30 kok_nil)) kwok_nil (fun L x => g17 m37 m30 L x) (fun L x => e17 m37 m30 L x) hm hs17
/-! loop.example/g00222/laws.eqIntResult -/
def ev28 : Env cxT := { Kc := kcOf [], Kw := kwOf [], lv := fun i => [], xv := fun i => none }
theorem i28 (L : Nat) (a0_0 : Int) (a0_1 : Int) (a1_0 : Int) (a1_1 : Int) : evF prog ev28 (loopN L) f28 (a28.enc ((a0_0, a0_1), (a1_0, a1_1))) =
  bif (a0_0 != a1_0) then some (n28 Bool.false)
  else bif (a0_1 != a1_1) then some (n28 Bool.false)
  else some (n28 Bool.true) := by kernel_rfl
def g28 (L : Nat) (a0_0 : Int) (a0_1 : Int) (a1_0 : Int) (a1_1 : Int) : Option Bool :=
  bif (a0_0 != a1_0) then some Bool.false
  else bif (a0_1 != a1_1) then some Bool.false
  else some Bool.true
theorem e28 (L : Nat) (a0_0 : Int) (a0_1 : Int) (a1_0 : Int) (a1_1 : Int) : evF prog ev28 (loopN L) f28 (a28.enc ((a0_0, a0_1), (a1_0, a1_1))) = (g28 L a0_0 a0_1 a1_0 a1_1).map n28 := by
  rw [i28]; simp only [g28, map_bif, Option.map_some, Option.map_none]
theorem s28 (m : ((Int × Int) × (Int × Int)) → Option Bool) (hm : ∀ (x : ((Int × Int) × (Int × Int))) t, m x = some t → ∃ L, g28 L x.1.1 x.1.2 x.2.1 x.2.2 = some t) : Sat prog cxT 28 (c28 m) :=
  sat_t cxT_ok cxT_pok (by rfl) (fn := f28) rfl a28 n28 dd28 m ev28 kok_nil kwok_nil (fun L x => g28 L x.1.1 x.1.2 x.2.1 x.2.2) (fun L x => e28 L x.1.1 x.1.2 x.2.1 x.2.2) hm hs28
/-! loop.example/g00222/spec.MixNumber -/
def ev29 (m53 : (Int × Int) → Option Int) : Env cxT := { Kc := kcOf [(53, c53 m53)], Kw := kwOf [], lv := fun i => if i = 0 then [(0, []), (5, []), (6, [])] else [], xv := fun i => if i = 0 then some [(5, [])] else none }
def S29_0 (a0 : Int) (a1 : Int) (v0_0 : Int) (v0_5 : Int) (v0_6 : Int) : St cxT.ty := { slots := [(.inl (.inl (lv (.int .i64 v0_0)))), junk, junk, junk, junk, (.inl (.inl (lv (.int .i64 v0_5)))), (.inl (.inl (lv (.int .i64 v0_6))))] ++ List.replicate 19 junk, D := [], F := [], ctr := 1 }
def X29_0 (a0 : Int) (a1 : Int) (w0_5 : Int) : St cxT.ty := { slots := [junk, junk, junk, junk, junk, (.inl (.inl (lv (.int .i64 w0_5))))] ++ List.replicate 20 junk, D := [], F := [], ctr := 1 }
theorem i29 (m53 : (Int × Int) → Option Int) (L : Nat) (a0 : Int) (a1 : Int) : evF prog (ev29 m53) (loopN L) f29 (a29.enc (a0, a1)) =
  bif (Option.isSome (m53 (a1, (10007 : Int)))) then bif (Option.isSome (m53 (a0, (4294967296 : Int)))) then headF prog (ev29 m53) L f29 0 [1, 1, 1, 0, 1, 0, 0] (outK (outV prog f29) (topK prog (ev29 m53) L f29 [1, 1, 1, 0, 1] (outV prog f29)).n (topK prog (ev29 m53) L f29 [1, 1, 1, 0, 1] (outV prog f29)).x) L (S29_0 a0 a1 (Option.getD (m53 (a0, (4294967296 : Int))) (0 : Int)) (Go.IntKind.wrap Go.IntKind.i64 ((Option.getD (m53 (a1, (10007 : Int))) (0 : Int)) + (11 : Int))) (0 : Int))
    else none
  else none := by kernel_rfl
theorem r29_0 (m53 : (Int × Int) → Option Int) (L : Nat) (a0 : Int) (a1 : Int) (k : St cxT.ty → Option (V cxT.ty)) (xk : Nat → St cxT.ty → Option (V cxT.ty)) (g : St cxT.ty → Option (V cxT.ty)) (v0_0 : Int) (v0_5 : Int) (v0_6 : Int) : roundF prog (ev29 m53) L f29 0 [1, 1, 1, 0, 1, 0, 0] (outK (outV prog f29) k xk) g (S29_0 a0 a1 v0_0 v0_5 v0_6) =
  bif (decide (v0_6 < (4 : Int))) then g (S29_0 a0 a1 (Go.IntKind.wrap Go.IntKind.i64 (Int.tdiv v0_0 (256 : Int))) (Int.tmod (Go.IntKind.wrap Go.IntKind.i64 ((Go.IntKind.wrap Go.IntKind.i64 ((Go.IntKind.wrap Go.IntKind.i64 (v0_5 * (131 : Int))) + (Int.tmod v0_0 (256 : Int)))) + (1 : Int))) (1000003 : Int)) (Go.IntKind.wrap Go.IntKind.i64 (v0_6 + (1 : Int))))
  else k (X29_0 a0 a1 v0_5) := by kernel_rfl
theorem t29_0 (m53 : (Int × Int) → Option Int) (L : Nat) (a0 : Int) (a1 : Int) (w0_5 : Int) : (topK prog (ev29 m53) L f29 [1, 1, 1, 0, 1] (outV prog f29)).n (X29_0 a0 a1 w0_5) =
  some (n29 w0_5) := by kernel_rfl
def l29_0 (m53 : (Int × Int) → Option Int) (L : Nat) (a0 : Int) (a1 : Int) : Nat → Int → Int → Int → (Int → Option Int) → Option Int
  | 0, _, _, _, _ => none
  | n + 1, v0_0, v0_5, v0_6, k =>
    bif (decide (v0_6 < (4 : Int))) then l29_0 m53 L a0 a1 n (Go.IntKind.wrap Go.IntKind.i64 (Int.tdiv v0_0 (256 : Int))) (Int.tmod (Go.IntKind.wrap Go.IntKind.i64 ((Go.IntKind.wrap Go.IntKind.i64 ((Go.IntKind.wrap Go.IntKind.i64 (v0_5 * (131 : Int))) + (Int.tmod v0_0 (256 : Int)))) + (1 : Int))) (1000003 : Int)) (Go.IntKind.wrap Go.IntKind.i64 (v0_6 + (1 : Int))) k
    else k v0_5
theorem h29_0 (m53 : (Int × Int) → Option Int) (L : Nat) (a0 : Int) (a1 : Int) (k : St cxT.ty → Option (V cxT.ty)) (xk : Nat → St cxT.ty → Option (V cxT.ty)) (k' : Int → Option Int) (hk : ∀ (w0_5 : Int), k (X29_0 a0 a1 w0_5) = (k' w0_5).map n29) : ∀ (n : Nat) (v0_0 : Int) (v0_5 : Int) (v0_6 : Int), headF prog (ev29 m53) L f29 0 [1, 1, 1, 0, 1, 0, 0] (outK (outV prog f29) k xk) n (S29_0 a0 a1 v0_0 v0_5 v0_6) = (l29_0 m53 L a0 a1 n v0_0 v0_5 v0_6 k').map n29
  | 0, _, _, _ => rfl
  | n + 1, v0_0, v0_5, v0_6 => by
    rw [headF_round, r29_0]
    have ih := h29_0 m53 L a0 a1 k xk k' hk n
    simp only [l29_0, map_bif, Option.map_some, Option.map_none, ih, hk]
def g29 (m53 : (Int × Int) → Option Int) (L : Nat) (a0 : Int) (a1 : Int) : Option Int :=
  bif (Option.isSome (m53 (a1, (10007 : Int)))) then bif (Option.isSome (m53 (a0, (4294967296 : Int)))) then l29_0 m53 L a0 a1 L (Option.getD (m53 (a0, (4294967296 : Int))) (0 : Int)) (Go.IntKind.wrap Go.IntKind.i64 ((Option.getD (m53 (a1, (10007 : Int))) (0 : Int)) + (11 : Int))) (0 : Int) (fun (w0_5 : Int) => some w0_5)
    else none
  else none
theorem e29 (m53 : (Int × Int) → Option Int) (L : Nat) (a0 : Int) (a1 : Int) : evF prog (ev29 m53) (loopN L) f29 (a29.enc (a0, a1)) = (g29 m53 L a0 a1).map n29 := by
  let K'0 : Int → Option Int := (fun (w0_5 : Int) => some w0_5)
  have hin0 : ∀ (v0_0 : Int) (v0_5 : Int) (v0_6 : Int), headF prog (ev29 m53) L f29 0 [1, 1, 1, 0, 1, 0, 0] (outK (outV prog f29) (topK prog (ev29 m53) L f29 [1, 1, 1, 0, 1] (outV prog f29)).n (topK prog (ev29 m53) L f29 [1, 1, 1, 0, 1] (outV prog f29)).x) L (S29_0 a0 a1 v0_0 v0_5 v0_6) = (l29_0 m53 L a0 a1 L v0_0 v0_5 v0_6 K'0).map n29 := fun v0_0 v0_5 v0_6 => h29_0 m53 L a0 a1 _ _ K'0 (fun w0_5 => by rw [t29_0]; simp only [K'0, map_bif, Option.map_some, Option.map_none]) L v0_0 v0_5 v0_6
  rw [i29]; simp only [g29, map_bif, Option.map_some, Option.map_none, hin0, K'0]
theorem s29 (m53 : (Int × Int) → Option Int) (h53 : Sat prog cxT 53 (c53 m53)) (m : (Int × Int) → Option Int) (hm : ∀ (x : (Int × Int)) t, m x = some t → ∃ L, g29 m53 L x.1 x.2 = some t) : Sat prog cxT 29 (c29 m) :=
  sat_t cxT_ok cxT_pok (by rfl) (fn := f29) rfl a29 n29 dd29 m (ev29 m53) (kok_cons h53 kok_nil) kwok_nil (fun L x => g29 m53 L x.1 x.2) (fun L x => e29 m53 L x.1 x.2) hm hs29
/-! loop.example/g00222/impl.MixNumber -/
def ev30 (m54 : (Int × Int) → Option Int) : Env cxT := { Kc := kcOf [(54, c54 m54)], Kw := kwOf [], lv := fun i => if i = 0 then [(5, []), (6, []), (12, [])] else [], xv := fun i => if i = 0 then some [(5, [])] else none }
def S30_0 (a0 : Int) (a1 : Int) (v0_5 : Int) (v0_6 : Int) (v0_12 : Int) : St cxT.ty := { slots := [junk, junk, junk, junk, junk, (.inl (.inl (lv (.int .i64 v0_5)))), (.inl (.inl (lv (.int .i64 v0_6)))), junk, junk, junk, junk, junk, (.inl (.inl (lv (.int .i64 v0_12))))] ++ List.replicate 12 junk, D := [], F := [], ctr := 1 }
def X30_0 (a0 : Int) (a1 : Int) (w0_5 : Int) : St cxT.ty := { slots := [junk, junk, junk, junk, junk, (.inl (.inl (lv (.int .i64 w0_5))))] ++ List.replicate 19 junk, D := [], F := [], ctr := 1 }
theorem i30 (m54 : (Int × Int) → Option Int) (L : Nat) (a0 : Int) (a1 : Int) : evF prog (ev30 m54) (loopN L) f30 (a30.enc (a0, a1)) =
  bif (Option.isSome (m54 (a1, (10007 : Int)))) then bif (Option.isSome (m54 (a0, (4294967296 : Int)))) then headF prog (ev30 m54) L f30 0 [1, 1, 1, 0, 1, 0, 0] (outK (outV prog f30) (topK prog (ev30 m54) L f30 [1, 1, 1, 0, 1] (outV prog f30)).n (topK prog (ev30 m54) L f30 [1, 1, 1, 0, 1] (outV prog f30)).x) L (S30_0 a0 a1 (Go.IntKind.wrap Go.IntKind.i64 ((Option.getD (m54 (a1, (10007 : Int))) (0 : Int)) + (11 : Int))) (Option.getD (m54 (a0, (4294967296 : Int))) (0 : Int)) (0 : Int))
    else none
  else none := by kernel_rfl
theorem r30_0 (m54 : (Int × Int) → Option Int) (L : Nat) (a0 : Int) (a1 : Int) (k : St cxT.ty → Option (V cxT.ty)) (xk : Nat → St cxT.ty → Option (V cxT.ty)) (g : St cxT.ty → Option (V cxT.ty)) (v0_5 : Int) (v0_6 : Int) (v0_12 : Int) : roundF prog (ev30 m54) L f30 0 [1, 1, 1, 0, 1, 0, 0] (outK (outV prog f30) k xk) g (S30_0 a0 a1 v0_5 v0_6 v0_12) =
  bif (decide (v0_12 < (4 : Int))) then g (S30_0 a0 a1 (Int.tmod (Go.IntKind.wrap Go.IntKind.i64 ((Go.IntKind.wrap Go.IntKind.i64 ((Go.IntKind.wrap Go.IntKind.i64 (v0_5 * (131 : Int))) + (Int.tmod v0_6 (256 : Int)))) + (1 : Int))) (1000003 : Int)) (Go.IntKind.wrap Go.IntKind.i64 (Int.tdiv v0_6 (256 : Int))) (Go.IntKind.wrap Go.IntKind.i64 (v0_12 + (1 : Int))))
  else k (X30_0 a0 a1 v0_5) := by kernel_rfl
theorem t30_0 (m54 : (Int × Int) → Option Int) (L : Nat) (a0 : Int) (a1 : Int) (w0_5 : Int) : (topK prog (ev30 m54) L f30 [1, 1, 1, 0, 1] (outV prog f30)).n (X30_0 a0 a1 w0_5) =
  some (n30 w0_5) := by kernel_rfl
def l30_0 (m54 : (Int × Int) → Option Int) (L : Nat) (a0 : Int) (a1 : Int) : Nat → Int → Int → Int → (Int → Option Int) → Option Int
  | 0, _, _, _, _ => none
  | n + 1, v0_5, v0_6, v0_12, k =>
    bif (decide (v0_12 < (4 : Int))) then l30_0 m54 L a0 a1 n (Int.tmod (Go.IntKind.wrap Go.IntKind.i64 ((Go.IntKind.wrap Go.IntKind.i64 ((Go.IntKind.wrap Go.IntKind.i64 (v0_5 * (131 : Int))) + (Int.tmod v0_6 (256 : Int)))) + (1 : Int))) (1000003 : Int)) (Go.IntKind.wrap Go.IntKind.i64 (Int.tdiv v0_6 (256 : Int))) (Go.IntKind.wrap Go.IntKind.i64 (v0_12 + (1 : Int))) k
    else k v0_5
theorem h30_0 (m54 : (Int × Int) → Option Int) (L : Nat) (a0 : Int) (a1 : Int) (k : St cxT.ty → Option (V cxT.ty)) (xk : Nat → St cxT.ty → Option (V cxT.ty)) (k' : Int → Option Int) (hk : ∀ (w0_5 : Int), k (X30_0 a0 a1 w0_5) = (k' w0_5).map n30) : ∀ (n : Nat) (v0_5 : Int) (v0_6 : Int) (v0_12 : Int), headF prog (ev30 m54) L f30 0 [1, 1, 1, 0, 1, 0, 0] (outK (outV prog f30) k xk) n (S30_0 a0 a1 v0_5 v0_6 v0_12) = (l30_0 m54 L a0 a1 n v0_5 v0_6 v0_12 k').map n30
  | 0, _, _, _ => rfl
  | n + 1, v0_5, v0_6, v0_12 => by
    rw [headF_round, r30_0]
    have ih := h30_0 m54 L a0 a1 k xk k' hk n
    simp only [l30_0, map_bif, Option.map_some, Option.map_none, ih, hk]
def g30 (m54 : (Int × Int) → Option Int) (L : Nat) (a0 : Int) (a1 : Int) : Option Int :=
  bif (Option.isSome (m54 (a1, (10007 : Int)))) then bif (Option.isSome (m54 (a0, (4294967296 : Int)))) then l30_0 m54 L a0 a1 L (Go.IntKind.wrap Go.IntKind.i64 ((Option.getD (m54 (a1, (10007 : Int))) (0 : Int)) + (11 : Int))) (Option.getD (m54 (a0, (4294967296 : Int))) (0 : Int)) (0 : Int) (fun (w0_5 : Int) => some w0_5)
    else none
  else none
theorem e30 (m54 : (Int × Int) → Option Int) (L : Nat) (a0 : Int) (a1 : Int) : evF prog (ev30 m54) (loopN L) f30 (a30.enc (a0, a1)) = (g30 m54 L a0 a1).map n30 := by
  let K'0 : Int → Option Int := (fun (w0_5 : Int) => some w0_5)
  have hin0 : ∀ (v0_5 : Int) (v0_6 : Int) (v0_12 : Int), headF prog (ev30 m54) L f30 0 [1, 1, 1, 0, 1, 0, 0] (outK (outV prog f30) (topK prog (ev30 m54) L f30 [1, 1, 1, 0, 1] (outV prog f30)).n (topK prog (ev30 m54) L f30 [1, 1, 1, 0, 1] (outV prog f30)).x) L (S30_0 a0 a1 v0_5 v0_6 v0_12) = (l30_0 m54 L a0 a1 L v0_5 v0_6 v0_12 K'0).map n30 := fun v0_5 v0_6 v0_12 => h30_0 m54 L a0 a1 _ _ K'0 (fun w0_5 => by rw [t30_0]; simp only [K'0, map_bif, Option.map_some, Option.map_none]) L v0_5 v0_6 v0_12
  rw [i30]; simp only [g30, map_bif, Option.map_some, Option.map_none, hin0, K'0]
theorem s30 (m54 : (Int × Int) → Option Int) (h54 : Sat prog cxT 54 (c54 m54)) (m : (Int × Int) → Option Int) (hm : ∀ (x : (Int × Int)) t, m x = some t → ∃ L, g30 m54 L x.1 x.2 = some t) : Sat prog cxT 30 (c30 m) :=
  sat_t cxT_ok cxT_pok (by rfl) (fn := f30) rfl a30 n30 dd30 m (ev30 m54) (kok_cons h54 kok_nil) kwok_nil (fun L x => g30 m54 L x.1 x.2) (fun L x => e30 m54 L x.1 x.2) hm hs30
/-! loop.example/g00222/spec.OffsetOf -/
def ev34 (m39 : Int → Option Bool) (m58 : Int → Option Int) : Env cxT := { Kc := kcOf [(39, c39 m39), (58, c58 m58)], Kw := kwOf [], lv := fun i => [], xv := fun i => none }
theorem i34 (m39 : Int → Option Bool) (m58 : Int → Option Int) (L : Nat) (a0 : Int) : evF prog (ev34 m39 m58) (loopN L) f34 (a34.enc a0) =
  bif (Option.isSome (m39 a0)) then bif (!(Option.getD (m39 a0) Bool.false)) then some (n34 ((3 : Int), (0 : Int)))
    else bif (Option.isSome (m58 a0)) then some (n34 ((0 : Int), (Option.getD (m58 a0) (0 : Int))))
    else none
  else none := by kernel_rfl
def g34 (m39 : Int → Option Bool) (m58 : Int → Option Int) (L : Nat) (a0 : Int) : Option (Int × Int) :=
  bif (Option.isSome (m39 a0)) then bif (!(Option.getD (m39 a0) Bool.false)) then some ((3 : Int), (0 : Int))
    else bif (Option.isSome (m58 a0)) then some ((0 : Int), (Option.getD (m58 a0) (0 : Int)))
    else none
  else none
theorem e34 (m39 : Int → Option Bool) (m58 : Int → Option Int) (L : Nat) (a0 : Int) : evF prog (ev34 m39 m58) (loopN L) f34 (a34.enc a0) = (g34 m39 m58 L a0).map n34 := by
  rw [i34]; simp only [g34, map_bif, Option.map_some, Option.map_none]
theorem s34 (m39 : Int → Option Bool) (m58 : Int → Option Int) (h39 : Sat prog cxT 39 (c39 m39)) (h58 : Sat prog cxT 58 (c58 m58)) (m : Int → Option (Int × Int)) (hm : ∀ (x : Int) t, m x = some t → ∃ L, g34 m39 m58 L x = some t) : Sat prog cxT 34 (c34 m) :=
  sat_t cxT_ok cxT_pok (by rfl) (fn := f34) rfl a34 n34 dd34 m (ev34 m39 m58) (kok_cons h39 (kok_cons h58 kok_nil)) kwok_nil (fun L x => g34 m39 m58 L x) (fun L x => e34 m39 m58 L x) hm hs34
/-! loop.example/g00222/spec.SkipOf -/
def ev35 (m39 : Int → Option Bool) (m59 : Int → Option Int) : Env cxT := { Kc := kcOf [(39, c39 m39), (59, c59 m59)], Kw := kwOf [], lv := fun i => [], xv := fun i => none }
theorem i35 (m39 : Int → Option Bool) (m59 : Int → Option Int) (L : Nat) (a0 : Int) : evF prog (ev35 m39 m59) (loopN L) f35 (a35.enc a0) =
  bif (Option.isSome (m39 a0)) then bif (!(Option.getD (m39 a0) Bool.false)) then some (n35 ((3 : Int), (0 : Int)))
    else bif (Option.isSome (m59 a0)) then some (n35 ((0 : Int), (Option.getD (m59 a0) (0 : Int))))
    else none
  else none := by kernel_rfl
def g35 (m39 : Int → Option Bool) (m59 : Int → Option Int) (L : Nat) (a0 : Int) : Option (Int × Int) :=
  bif (Option.isSome (m39 a0)) then bif (!(Option.getD (m39 a0) Bool.false)) then some ((3 : Int), (0 : Int))
    else bif (Option.isSome (m59 a0)) then some ((0 : Int), (Option.getD (m59 a0) (0 : Int)))
    else none
  else none
theorem e35 (m39 : Int → Option Bool) (m59 : Int → Option Int) (L : Nat) (a0 : Int) : evF prog (ev35 m39 m59) (loopN L) f35 (a35.enc a0) = (g35 m39 m59 L a0).map n35 := by
  rw [i35]; simp only [g35, map_bif, Option.map_some, Option.map_none]
theorem s35 (m39 : Int → Option Bool) (m59 : Int → Option Int) (h39 : Sat prog cxT 39 (c39 m39)) (h59 : Sat prog cxT 59 (c59 m59)) (m : Int → Option (Int × Int)) (hm : ∀ (x : Int) t, m x = some t → ∃ L, g35 m39 m59 L x = some t) : Sat prog cxT 35 (c35 m) :=
  sat_t cxT_ok cxT_pok (by rfl) (fn := f35) rfl a35 n35 dd35 m (ev35 m39 m59) (kok_cons h39 (kok_cons h59 kok_nil)) kwok_nil (fun L x => g35 m39 m59 L x) (fun L x => e35 m39 m59 L x) hm hs35
/-! loop.example/g00222/impl.isName -/
def ev37 : Env cxT := { Kc := kcOf [], Kw := kwOf [], lv := fun i => [], xv := fun i => none }
theorem i37 (L : Nat) (a0 : Int) : evF prog ev37 (loopN L) f37 (a37.enc a0) =
  bif (decide (a0 ≥ (1 : Int))) then some (n37 (decide (a0 ≤ (999 : Int))))
  else some (n37 Bool.false) := by kernel_rfl
def g37 (L : Nat) (a0 : Int) : Option Bool :=
  bif (decide (a0 ≥ (1 : Int))) then some (decide (a0 ≤ (999 : Int)))
  else some Bool.false
theorem e37 (L : Nat) (a0 : Int) : evF prog ev37 (loopN L) f37 (a37.enc a0) = (g37 L a0).map n37 := by
  rw [i37]; simp only [g37, map_bif, Option.map_some, Option.map_none]
theorem s37 (m : Int → Option Bool) (hm : ∀ (x : Int) t, m x = some t → ∃ L, g37 L x = some t) : Sat prog cxT 37 (c37 m) :=
  sat_t cxT_ok cxT_pok (by rfl) (fn := f37) rfl a37 n37 dd37 m ev37 kok_nil kwok_nil (fun L x => g37 L x) (fun L x => e37 L x) hm hs37
/-! loop.example/g00222/spec.l3Name -/
def ev39 (m63 : (Int × Int × Int) → Option Bool) : Env cxT := { Kc := kcOf [(63, c63 m63)], Kw := kwOf [], lv := fun i => [], xv := fun i => none }
theorem i39 (m63 : (Int × Int × Int) → Option Bool) (L : Nat) (a0 : Int) : evF prog (ev39 m63) (loopN L) f39 (a39.enc a0) =
  bif (Option.isSome (m63 (a0, ((1 : Int), (999 : Int))))) then some (n39 (Option.getD (m63 (a0, ((1 : Int), (999 : Int)))) Bool.false))
  else none := by kernel_rfl
def g39 (m63 : (Int × Int × Int) → Option Bool) (L : Nat) (a0 : Int) : Option Bool :=
  bif (Option.isSome (m63 (a0, ((1 : Int), (999 : Int))))) then some (Option.getD (m63 (a0, ((1 : Int), (999 : Int)))) Bool.false)
  else none
theorem e39 (m63 : (Int × Int × Int) → Option Bool) (L : Nat) (a0 : Int) : evF prog (ev39 m63) (loopN L) f39 (a39.enc a0) = (g39 m63 L a0).map n39 := by
  rw [i39]; simp only [g39, map_bif, Option.map_some, Option.map_none]
theorem s39 (m63 : (Int × Int × Int) → Option Bool) (h63 : Sat prog cxT 63 (c63 m63)) (m : Int → Option Bool) (hm : ∀ (x : Int) t, m x = some t → ∃ L, g39 m63 L x = some t) : Sat prog cxT 39 (c39 m) :=
  sat_t cxT_ok cxT_pok (by rfl) (fn := f39) rfl a39 n39 dd39 m (ev39 m63) (kok_cons h63 kok_nil) kwok_nil (fun L x => g39 m63 L x) (fun L x => e39 m63 L x) hm hs39
/-! loop.example/g00222/spec.l3Mod -/
def ev53 : Env cxT := { Kc := kcOf [], Kw := kwOf [], lv := fun i => [], xv := fun i => none }
theorem i53 (L : Nat) (a0 : Int) (a1 : Int) : evF prog ev53 (loopN L) f53 (a53.enc (a0, a1)) =
  bif (a1 == (0 : Int)) then none
  else bif (a1 == (0 : Int)) then none
  else some (n53 (Int.tmod (Go.IntKind.wrap Go.IntKind.i64 ((Int.tmod a0 a1) + a1)) a1)) := by kernel_rfl
def g53 (L : Nat) (a0 : Int) (a1 : Int) : Option Int :=
  bif (a1 == (0 : Int)) then none
  else bif (a1 == (0 : Int)) then none
  else some (Int.tmod (Go.IntKind.wrap Go.IntKind.i64 ((Int.tmod a0 a1) + a1)) a1)
theorem e53 (L : Nat) (a0 : Int) (a1 : Int) : evF prog ev53 (loopN L) f53 (a53.enc (a0, a1)) = (g53 L a0 a1).map n53 := by
  rw [i53]; simp only [g53, map_bif, Option.map_some, Option.map_none]
theorem s53 (m : (Int × Int) → Option Int) (hm : ∀ (x : (Int × Int)) t, m x = some t → ∃ L, g53 L x.1 x.2 = some t) : Sat prog cxT 53 (c53 m) :=
  sat_t cxT_ok cxT_pok (by rfl) (fn := f53) rfl a53 n53 dd53 m ev53 kok_nil kwok_nil (fun L x => g53 L x.1 x.2) (fun L x => e53 L x.1 x.2) hm hs53
/-! loop.example/g00222/impl.leftBy -/
def ev54 : Env cxT := { Kc := kcOf [], Kw := kwOf [], lv := fun i => [], xv := fun i => none }
theorem i54 (L : Nat) (a0 : Int) (a1 : Int) : evF prog ev54 (loopN L) f54 (a54.enc (a0, a1)) =
  bif (a1 == (0 : Int)) then none
  else bif (decide ((Int.tmod a0 a1) < (0 : Int))) then some (n54 (Go.IntKind.wrap Go.IntKind.i64 ((Int.tmod a0 a1) + a1)))
  else some (n54 (Int.tmod a0 a1)) := by kernel_rfl
def g54 (L : Nat) (a0 : Int) (a1 : Int) : Option Int :=
  bif (a1 == (0 : Int)) then none
  else bif (decide ((Int.tmod a0 a1) < (0 : Int))) then some (Go.IntKind.wrap Go.IntKind.i64 ((Int.tmod a0 a1) + a1))
  else some (Int.tmod a0 a1)
theorem e54 (L : Nat) (a0 : Int) (a1 : Int) : evF prog ev54 (loopN L) f54 (a54.enc (a0, a1)) = (g54 L a0 a1).map n54 := by
  rw [i54]; simp only [g54, map_bif, Option.map_some, Option.map_none]
theorem s54 (m : (Int × Int) → Option Int) (hm : ∀ (x : (Int × Int)) t, m x = some t → ∃ L, g54 L x.1 x.2 = some t) : Sat prog cxT 54 (c54 m) :=
  sat_t cxT_ok cxT_pok (by rfl) (fn := f54) rfl a54 n54 dd54 m ev54 kok_nil kwok_nil (fun L x => g54 L x.1 x.2) (fun L x => e54 L x.1 x.2) hm hs54
/-! loop.example/g00222/spec.l3Offset -/
def ev58 (m29 : (Int × Int) → Option Int) : Env cxT := { Kc := kcOf [(29, c29 m29)], Kw := kwOf [], lv := fun i => [], xv := fun i => none }
theorem i58 (m29 : (Int × Int) → Option Int) (L : Nat) (a0 : Int) : evF prog (ev58 m29) (loopN L) f58 (a58.enc a0) =
  bif (Option.isSome (m29 (a0, (3 : Int)))) then some (n58 (Int.tmod (Option.getD (m29 (a0, (3 : Int))) (0 : Int)) (31 : Int)))
  else none := by kernel_rfl
def g58 (m29 : (Int × Int) → Option Int) (L : Nat) (a0 : Int) : Option Int :=
  bif (Option.isSome (m29 (a0, (3 : Int)))) then some (Int.tmod (Option.getD (m29 (a0, (3 : Int))) (0 : Int)) (31 : Int))
  else none
theorem e58 (m29 : (Int × Int) → Option Int) (L : Nat) (a0 : Int) : evF prog (ev58 m29) (loopN L) f58 (a58.enc a0) = (g58 m29 L a0).map n58 := by
  rw [i58]; simp only [g58, map_bif, Option.map_some, Option.map_none]
theorem s58 (m29 : (Int × Int) → Option Int) (h29 : Sat prog cxT 29 (c29 m29)) (m : Int → Option Int) (hm : ∀ (x : Int) t, m x = some t → ∃ L, g58 m29 L x = some t) : Sat prog cxT 58 (c58 m) :=
  sat_t cxT_ok cxT_pok (by rfl) (fn := f58) rfl a58 n58 dd58 m (ev58 m29) (kok_cons h29 kok_nil) kwok_nil (fun L x => g58 m29 L x) (fun L x => e58 m29 L x) hm hs58
/-! loop.example/g00222/spec.l3Skip -/
def ev59 (m29 : (Int × Int) → Option Int) : Env cxT := { Kc := kcOf [(29, c29 m29)], Kw := kwOf [], lv := fun i => [], xv := fun i => none }
theorem i59 (m29 : (Int × Int) → Option Int) (L : Nat) (a0 : Int) : evF prog (ev59 m29) (loopN L) f59 (a59.enc a0) =
  bif (Option.isSome (m29 (a0, (5 : Int)))) then some (n59 (Go.IntKind.wrap Go.IntKind.i64 ((1 : Int) + (Int.tmod (Option.getD (m29 (a0, (5 : Int))) (0 : Int)) (30 : Int)))))
  else none := by kernel_rfl
def g59 (m29 : (Int × Int) → Option Int) (L : Nat) (a0 : Int) : Option Int :=
  bif (Option.isSome (m29 (a0, (5 : Int)))) then some (Go.IntKind.wrap Go.IntKind.i64 ((1 : Int) + (Int.tmod (Option.getD (m29 (a0, (5 : Int))) (0 : Int)) (30 : Int))))
  else none
theorem e59 (m29 : (Int × Int) → Option Int) (L : Nat) (a0 : Int) : evF prog (ev59 m29) (loopN L) f59 (a59.enc a0) = (g59 m29 L a0).map n59 := by
  rw [i59]; simp only [g59, map_bif, Option.map_some, Option.map_none]
theorem s59 (m29 : (Int × Int) → Option Int) (h29 : Sat prog cxT 29 (c29 m29)) (m : Int → Option Int) (hm : ∀ (x : Int) t, m x = some t → ∃ L, g59 m29 L x = some t) : Sat prog cxT 59 (c59 m) :=
  sat_t cxT_ok cxT_pok (by rfl) (fn := f59) rfl a59 n59 dd59 m (ev59 m29) (kok_cons h29 kok_nil) kwok_nil (fun L x => g59 m29 L x) (fun L x => e59 m29 L x) hm hs59
/-! loop.example/g00222/spec.l1In -/
def ev63 : Env cxT := { Kc := kcOf [], Kw := kwOf [], lv := fun i => [], xv := fun i => none }
theorem i63 (L : Nat) (a0 : Int) (a1 : Int) (a2 : Int) : evF prog ev63 (loopN L) f63 (a63.enc (a0, a1, a2)) =
  bif (decide (a0 ≥ a1)) then some (n63 (decide (a0 ≤ a2)))
  else some (n63 Bool.false) := by kernel_rfl
def g63 (L : Nat) (a0 : Int) (a1 : Int) (a2 : Int) : Option Bool :=
  bif (decide (a0 ≥ a1)) then some (decide (a0 ≤ a2))
  else some Bool.false
theorem e63 (L : Nat) (a0 : Int) (a1 : Int) (a2 : Int) : evF prog ev63 (loopN L) f63 (a63.enc (a0, a1, a2)) = (g63 L a0 a1 a2).map n63 := by
  rw [i63]; simp only [g63, map_bif, Option.map_some, Option.map_none]
theorem s63 (m : (Int × Int × Int) → Option Bool) (hm : ∀ (x : (Int × Int × Int)) t, m x = some t → ∃ L, g63 L x.1 x.2.1 x.2.2 = some t) : Sat prog cxT 63 (c63 m) :=
  sat_t cxT_ok cxT_pok (by rfl) (fn := f63) rfl a63 n63 dd63 m ev63 kok_nil kwok_nil (fun L x => g63 L x.1 x.2.1 x.2.2) (fun L x => e63 L x.1 x.2.1 x.2.2) hm hs63
end Go.Proofs.Try
