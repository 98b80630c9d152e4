/- A part of the proof of FnExactSpreadNode: LgFc, LgFd. -/
import Derived.Test.YtdnjjhambjafoaaGreatLgBase
set_option linter.unusedVariables false
set_option maxHeartbeats 0
set_option maxRecDepth 100000
set_option linter.unusedSimpArgs false
namespace Go.Proofs.Tryz
open Go Go.VM Go.RowKit
def ev96 (m83 : E9 → Option Int) : Env cxT := { Kc := kcOf [(83, c83 m83)], Kw := kwOf [], lv := fun i => if i = 0 then [(0, [some 57]), (3, [])] else [], xv := fun i => if i = 0 then some [] else none }
def S96_0 (a0 : (List E9)) (x0 : Int) : St cxT.ty := { slots := [(.inl (.inl (ls { own := 0, nm := 0, e := 57, o := false, xs := a0 }))), junk, junk, (.inl (.inl (lv (.int .i64 x0))))] ++ List.replicate 34 junk, D := [], F := [], ctr := 1 }
def X96_0 (a0 : (List E9)) : St cxT.ty := { slots := [] ++ List.replicate 38 junk, D := [], F := [], ctr := 1 }
theorem i96 (m83 : E9 → Option Int) (L : Nat) (a0 : (List E9)) : evF prog (ev96 m83) (loopN L) f96 (a96.enc a0) =
  bif (decide ((a0.length : Int) > 40)) then some (n96 2)
  else headF prog (ev96 m83) L f96 0 [1, 1, 0, 1, 0, 0] (outK (outV prog f96) (topK prog (ev96 m83) L f96 [1, 1, 0, 1] (outV prog f96)).n (topK prog (ev96 m83) L f96 [1, 1, 0, 1] (outV prog f96)).x) L (S96_0 a0 0) := by kernel_rfl
theorem r96_0 (m83 : E9 → Option Int) (L : Nat) (a0 : (List E9)) (k : St cxT.ty → Option (V cxT.ty)) (xk : Nat → St cxT.ty → Option (V cxT.ty)) (g : St cxT.ty → Option (V cxT.ty)) (x0 : Int) : roundF prog (ev96 m83) L f96 0 [1, 1, 0, 1, 0, 0] (outK (outV prog f96) k xk) g (S96_0 a0 x0) =
  bif (decide (x0 < (a0.length : Int))) then bif ((decide (0 ≤ x0)) && (decide (x0 < (a0.length : Int)))) then tst (m83 ((List.getD a0 x0.toNat (0, (0, (0, (0, (0, (0, (0, (0, 0))))))))).1, ((List.getD a0 x0.toNat (0, (0, (0, (0, (0, (0, (0, (0, 0))))))))).2.1, ((List.getD a0 x0.toNat (0, (0, (0, (0, (0, (0, (0, (0, 0))))))))).2.2.1, ((List.getD a0 x0.toNat (0, (0, (0, (0, (0, (0, (0, (0, 0))))))))).2.2.2.1, ((List.getD a0 x0.toNat (0, (0, (0, (0, (0, (0, (0, (0, 0))))))))).2.2.2.2.1, ((List.getD a0 x0.toNat (0, (0, (0, (0, (0, (0, (0, (0, 0))))))))).2.2.2.2.2.1, ((List.getD a0 x0.toNat (0, (0, (0, (0, (0, (0, (0, (0, 0))))))))).2.2.2.2.2.2.1, ((List.getD a0 x0.toNat (0, (0, (0, (0, (0, (0, (0, (0, 0))))))))).2.2.2.2.2.2.2.1, (List.getD a0 x0.toNat (0, (0, (0, (0, (0, (0, (0, (0, 0))))))))).2.2.2.2.2.2.2.2))))))))) 0 fun (q3 : Int) => bif (q3 != 0) then some (n96 q3)
        else bif (decide (x0 > 0)) then bif ((decide (0 ≤ x0)) && (decide (x0 < (a0.length : Int)))) then bif ((decide (0 ≤ (IntKind.wrap .i64 (x0 - 1)))) && (decide ((IntKind.wrap .i64 (x0 - 1)) < (a0.length : Int)))) then bif (decide ((List.getD a0 x0.toNat (0, (0, (0, (0, (0, (0, (0, (0, 0))))))))).1 < (List.getD a0 (Int.toNat (IntKind.wrap .i64 (x0 - 1))) (0, (0, (0, (0, (0, (0, (0, (0, 0))))))))).1)) then some (n96 1)
              else g (S96_0 a0 (IntKind.wrap .i64 (x0 + 1)))
            else none
          else none
        else g (S96_0 a0 (IntKind.wrap .i64 (x0 + 1)))
    else none
  else k (X96_0 a0) := by kernel_rfl
theorem t96_0 (m83 : E9 → Option Int) (L : Nat) (a0 : (List E9)) : (topK prog (ev96 m83) L f96 [1, 1, 0, 1] (outV prog f96)).n (X96_0 a0) =
  some (n96 0) := by kernel_rfl
def l96_0 (m83 : E9 → Option Int) (L : Nat) (a0 : (List E9)) : Nat → Int → (Option Int) → Option Int
  | 0, _, _ => none
  | n + 1, x0, k =>
    bif (decide (x0 < (a0.length : Int))) then bif ((decide (0 ≤ x0)) && (decide (x0 < (a0.length : Int)))) then tst (m83 ((List.getD a0 x0.toNat (0, (0, (0, (0, (0, (0, (0, (0, 0))))))))).1, ((List.getD a0 x0.toNat (0, (0, (0, (0, (0, (0, (0, (0, 0))))))))).2.1, ((List.getD a0 x0.toNat (0, (0, (0, (0, (0, (0, (0, (0, 0))))))))).2.2.1, ((List.getD a0 x0.toNat (0, (0, (0, (0, (0, (0, (0, (0, 0))))))))).2.2.2.1, ((List.getD a0 x0.toNat (0, (0, (0, (0, (0, (0, (0, (0, 0))))))))).2.2.2.2.1, ((List.getD a0 x0.toNat (0, (0, (0, (0, (0, (0, (0, (0, 0))))))))).2.2.2.2.2.1, ((List.getD a0 x0.toNat (0, (0, (0, (0, (0, (0, (0, (0, 0))))))))).2.2.2.2.2.2.1, ((List.getD a0 x0.toNat (0, (0, (0, (0, (0, (0, (0, (0, 0))))))))).2.2.2.2.2.2.2.1, (List.getD a0 x0.toNat (0, (0, (0, (0, (0, (0, (0, (0, 0))))))))).2.2.2.2.2.2.2.2))))))))) 0 fun (q4 : Int) => bif (q4 != 0) then some q4
          else bif (decide (x0 > 0)) then bif ((decide (0 ≤ x0)) && (decide (x0 < (a0.length : Int)))) then bif ((decide (0 ≤ (IntKind.wrap .i64 (x0 - 1)))) && (decide ((IntKind.wrap .i64 (x0 - 1)) < (a0.length : Int)))) then bif (decide ((List.getD a0 x0.toNat (0, (0, (0, (0, (0, (0, (0, (0, 0))))))))).1 < (List.getD a0 (Int.toNat (IntKind.wrap .i64 (x0 - 1))) (0, (0, (0, (0, (0, (0, (0, (0, 0))))))))).1)) then some 1
                else l96_0 m83 L a0 n (IntKind.wrap .i64 (x0 + 1)) k
              else none
            else none
          else l96_0 m83 L a0 n (IntKind.wrap .i64 (x0 + 1)) k
      else none
    else k
theorem h96_0 (m83 : E9 → Option Int) (L : Nat) (a0 : (List E9)) (k : St cxT.ty → Option (V cxT.ty)) (xk : Nat → St cxT.ty → Option (V cxT.ty)) (k' : Option Int) (hk : k (X96_0 a0) = (k').map n96) : ∀ (n : Nat) (x0 : Int), headF prog (ev96 m83) L f96 0 [1, 1, 0, 1, 0, 0] (outK (outV prog f96) k xk) n (S96_0 a0 x0) = (l96_0 m83 L a0 n x0 k').map n96
  | 0, _ => rfl
  | n + 1, x0 => by
    rw [headF_round, r96_0]
    have ih := h96_0 m83 L a0 k xk k' hk n
    simp only [l96_0, map_bif, map_tst, map_bnd, Option.map_some, Option.map_none, ih, hk]
def g96 (m83 : E9 → Option Int) (L : Nat) (a0 : (List E9)) : Option Int :=
  bif (decide ((a0.length : Int) > 40)) then some 2
  else l96_0 m83 L a0 L 0 (some 0)
theorem e96 (m83 : E9 → Option Int) (L : Nat) (a0 : (List E9)) : evF prog (ev96 m83) (loopN L) f96 (a96.enc a0) = (g96 m83 L a0).map n96 := by
  let K'0 : Option Int := (some 0)
  have hin0 : ∀ (x0 : Int), headF prog (ev96 m83) L f96 0 [1, 1, 0, 1, 0, 0] (outK (outV prog f96) (topK prog (ev96 m83) L f96 [1, 1, 0, 1] (outV prog f96)).n (topK prog (ev96 m83) L f96 [1, 1, 0, 1] (outV prog f96)).x) L (S96_0 a0 x0) = (l96_0 m83 L a0 L x0 K'0).map n96 := fun x0 => h96_0 m83 L a0 _ _ K'0 (by rw [t96_0]; simp only [K'0, map_bif, map_tst, map_bnd, Option.map_some, Option.map_none]) L x0
  rw [i96]; simp only [g96, map_bif, map_tst, map_bnd, Option.map_some, Option.map_none, hin0, K'0]
theorem s96 (m83 : E9 → Option Int) (h83 : Sat prog cxT 83 (c83 m83)) (m : (List E9) → Option Int) (hm : ∀ (x : (List E9)) t, m x = some t → ∃ L, g96 m83 L x = some t) : Sat prog cxT 96 (c96 m) :=
  sat_t cxT_ok cxT_pok (by rfl) (fn := f96) rfl a96 n96 dd96 m (ev96 m83) (kok_cons h83 kok_nil) kwok_nil (fun L x => g96 m83 L x) (fun L x => e96 m83 L x) hm hs96
def ev50 (m86 : E9 → Option Int) : Env cxT := { Kc := kcOf [(86, c86 m86)], Kw := kwOf [], lv := fun i => if i = 0 then [(3, []), (10, [some 57]), (11, []), (12, [])] else [], xv := fun i => if i = 0 then some [] else none }
def S50_0 (a0 : (List E9)) (x0 x1 : Int) : St cxT.ty := { slots := [junk, junk, junk, (.inl (.inl (lv (.int .i64 x0)))), junk, junk, junk, junk, junk, junk, (.inl (.inl (ls { own := 0, nm := 0, e := 57, o := false, xs := a0 }))), (.inl (.inl (lv (.int .i64 (a0.length : Int))))), (.inl (.inl (lv (.int .i64 x1))))] ++ List.replicate 15 junk, D := [], F := [], ctr := 1 }
def X50_0 (a0 : (List E9)) : St cxT.ty := { slots := [] ++ List.replicate 28 junk, D := [], F := [], ctr := 1 }
theorem i50 (m86 : E9 → Option Int) (L : Nat) (a0 : (List E9)) : evF prog (ev50 m86) (loopN L) f50 (a50.enc a0) =
  bif (decide ((a0.length : Int) > 40)) then some (n50 2)
  else headF prog (ev50 m86) L f50 0 [1, 1, 1, 0, 1, 0, 0] (outK (outV prog f50) (topK prog (ev50 m86) L f50 [1, 1, 1, 0, 1] (outV prog f50)).n (topK prog (ev50 m86) L f50 [1, 1, 1, 0, 1] (outV prog f50)).x) L (S50_0 a0 0 0) := by kernel_rfl
theorem r50_0 (m86 : E9 → Option Int) (L : Nat) (a0 : (List E9)) (k : St cxT.ty → Option (V cxT.ty)) (xk : Nat → St cxT.ty → Option (V cxT.ty)) (g : St cxT.ty → Option (V cxT.ty)) (x1 x0 : Int) : roundF prog (ev50 m86) L f50 0 [1, 1, 1, 0, 1, 0, 0] (outK (outV prog f50) k xk) g (S50_0 a0 x1 x0) =
  bif (decide (x0 < (a0.length : Int))) then bif ((decide (0 ≤ x0)) && (decide (x0 < (a0.length : Int)))) then tst (m86 ((List.getD a0 x0.toNat (0, (0, (0, (0, (0, (0, (0, (0, 0))))))))).1, ((List.getD a0 x0.toNat (0, (0, (0, (0, (0, (0, (0, (0, 0))))))))).2.1, ((List.getD a0 x0.toNat (0, (0, (0, (0, (0, (0, (0, (0, 0))))))))).2.2.1, ((List.getD a0 x0.toNat (0, (0, (0, (0, (0, (0, (0, (0, 0))))))))).2.2.2.1, ((List.getD a0 x0.toNat (0, (0, (0, (0, (0, (0, (0, (0, 0))))))))).2.2.2.2.1, ((List.getD a0 x0.toNat (0, (0, (0, (0, (0, (0, (0, (0, 0))))))))).2.2.2.2.2.1, ((List.getD a0 x0.toNat (0, (0, (0, (0, (0, (0, (0, (0, 0))))))))).2.2.2.2.2.2.1, ((List.getD a0 x0.toNat (0, (0, (0, (0, (0, (0, (0, (0, 0))))))))).2.2.2.2.2.2.2.1, (List.getD a0 x0.toNat (0, (0, (0, (0, (0, (0, (0, (0, 0))))))))).2.2.2.2.2.2.2.2))))))))) 0 fun (q3 : Int) => bif (q3 != 0) then some (n50 q3)
        else bif (decide ((List.getD a0 x0.toNat (0, (0, (0, (0, (0, (0, (0, (0, 0))))))))).1 < x1)) then some (n50 1)
        else g (S50_0 a0 (List.getD a0 x0.toNat (0, (0, (0, (0, (0, (0, (0, (0, 0))))))))).1 (IntKind.wrap .i64 (x0 + 1)))
    else none
  else k (X50_0 a0) := by kernel_rfl
theorem t50_0 (m86 : E9 → Option Int) (L : Nat) (a0 : (List E9)) : (topK prog (ev50 m86) L f50 [1, 1, 1, 0, 1] (outV prog f50)).n (X50_0 a0) =
  some (n50 0) := by kernel_rfl
def l50_0 (m86 : E9 → Option Int) (L : Nat) (a0 : (List E9)) : Nat → Int → Int → (Option Int) → Option Int
  | 0, _, _, _ => none
  | n + 1, x1, x0, k =>
    bif (decide (x0 < (a0.length : Int))) then bif ((decide (0 ≤ x0)) && (decide (x0 < (a0.length : Int)))) then tst (m86 ((List.getD a0 x0.toNat (0, (0, (0, (0, (0, (0, (0, (0, 0))))))))).1, ((List.getD a0 x0.toNat (0, (0, (0, (0, (0, (0, (0, (0, 0))))))))).2.1, ((List.getD a0 x0.toNat (0, (0, (0, (0, (0, (0, (0, (0, 0))))))))).2.2.1, ((List.getD a0 x0.toNat (0, (0, (0, (0, (0, (0, (0, (0, 0))))))))).2.2.2.1, ((List.getD a0 x0.toNat (0, (0, (0, (0, (0, (0, (0, (0, 0))))))))).2.2.2.2.1, ((List.getD a0 x0.toNat (0, (0, (0, (0, (0, (0, (0, (0, 0))))))))).2.2.2.2.2.1, ((List.getD a0 x0.toNat (0, (0, (0, (0, (0, (0, (0, (0, 0))))))))).2.2.2.2.2.2.1, ((List.getD a0 x0.toNat (0, (0, (0, (0, (0, (0, (0, (0, 0))))))))).2.2.2.2.2.2.2.1, (List.getD a0 x0.toNat (0, (0, (0, (0, (0, (0, (0, (0, 0))))))))).2.2.2.2.2.2.2.2))))))))) 0 fun (q4 : Int) => bif (q4 != 0) then some q4
          else bif (decide ((List.getD a0 x0.toNat (0, (0, (0, (0, (0, (0, (0, (0, 0))))))))).1 < x1)) then some 1
          else l50_0 m86 L a0 n (List.getD a0 x0.toNat (0, (0, (0, (0, (0, (0, (0, (0, 0))))))))).1 (IntKind.wrap .i64 (x0 + 1)) k
      else none
    else k
theorem h50_0 (m86 : E9 → Option Int) (L : Nat) (a0 : (List E9)) (k : St cxT.ty → Option (V cxT.ty)) (xk : Nat → St cxT.ty → Option (V cxT.ty)) (k' : Option Int) (hk : k (X50_0 a0) = (k').map n50) : ∀ (n : Nat) (x0 x1 : Int), headF prog (ev50 m86) L f50 0 [1, 1, 1, 0, 1, 0, 0] (outK (outV prog f50) k xk) n (S50_0 a0 x0 x1) = (l50_0 m86 L a0 n x0 x1 k').map n50
  | 0, _, _ => rfl
  | n + 1, x0, x1 => by
    rw [headF_round, r50_0]
    have ih := h50_0 m86 L a0 k xk k' hk n
    simp only [l50_0, map_bif, map_tst, map_bnd, Option.map_some, Option.map_none, ih, hk]
def g50 (m86 : E9 → Option Int) (L : Nat) (a0 : (List E9)) : Option Int :=
  bif (decide ((a0.length : Int) > 40)) then some 2
  else l50_0 m86 L a0 L 0 0 (some 0)
theorem e50 (m86 : E9 → Option Int) (L : Nat) (a0 : (List E9)) : evF prog (ev50 m86) (loopN L) f50 (a50.enc a0) = (g50 m86 L a0).map n50 := by
  let K'0 : Option Int := (some 0)
  have hin0 : ∀ (x0 x1 : Int), headF prog (ev50 m86) L f50 0 [1, 1, 1, 0, 1, 0, 0] (outK (outV prog f50) (topK prog (ev50 m86) L f50 [1, 1, 1, 0, 1] (outV prog f50)).n (topK prog (ev50 m86) L f50 [1, 1, 1, 0, 1] (outV prog f50)).x) L (S50_0 a0 x0 x1) = (l50_0 m86 L a0 L x0 x1 K'0).map n50 := fun x0 x1 => h50_0 m86 L a0 _ _ K'0 (by rw [t50_0]; simp only [K'0, map_bif, map_tst, map_bnd, Option.map_some, Option.map_none]) L x0 x1
  rw [i50]; simp only [g50, map_bif, map_tst, map_bnd, Option.map_some, Option.map_none, hin0, K'0]
theorem s50 (m86 : E9 → Option Int) (h86 : Sat prog cxT 86 (c86 m86)) (m : (List E9) → Option Int) (hm : ∀ (x : (List E9)) t, m x = some t → ∃ L, g50 m86 L x = some t) : Sat prog cxT 50 (c50 m) :=
  sat_t cxT_ok cxT_pok (by rfl) (fn := f50) rfl a50 n50 dd50 m (ev50 m86) (kok_cons h86 kok_nil) kwok_nil (fun L x => g50 m86 L x) (fun L x => e50 m86 L x) hm hs50
def ev66 : Env cxT := { Kc := kcOf [], Kw := kwOf [], lv := fun i => [], xv := fun i => none }
theorem i66 (L : Nat) (a0 : (List E9)) : evF prog ev66 (loopN L) f66 (a66.enc a0) =
  bif ((a0.length : Int) == 0) then some (n66 (0, 0, 0, 0, 0, 0, 0, 0, 0))
  else bif ((decide (0 ≤ (IntKind.wrap .i64 ((a0.length : Int) - 1)))) && (decide ((IntKind.wrap .i64 ((a0.length : Int) - 1)) < (a0.length : Int)))) then some (n66 ((List.getD a0 (Int.toNat (IntKind.wrap .i64 ((a0.length : Int) - 1))) (0, (0, (0, (0, (0, (0, (0, (0, 0))))))))).1, (List.getD a0 (Int.toNat (IntKind.wrap .i64 ((a0.length : Int) - 1))) (0, (0, (0, (0, (0, (0, (0, (0, 0))))))))).2.1, (List.getD a0 (Int.toNat (IntKind.wrap .i64 ((a0.length : Int) - 1))) (0, (0, (0, (0, (0, (0, (0, (0, 0))))))))).2.2.1, (List.getD a0 (Int.toNat (IntKind.wrap .i64 ((a0.length : Int) - 1))) (0, (0, (0, (0, (0, (0, (0, (0, 0))))))))).2.2.2.1, (List.getD a0 (Int.toNat (IntKind.wrap .i64 ((a0.length : Int) - 1))) (0, (0, (0, (0, (0, (0, (0, (0, 0))))))))).2.2.2.2.1, (List.getD a0 (Int.toNat (IntKind.wrap .i64 ((a0.length : Int) - 1))) (0, (0, (0, (0, (0, (0, (0, (0, 0))))))))).2.2.2.2.2.1, (List.getD a0 (Int.toNat (IntKind.wrap .i64 ((a0.length : Int) - 1))) (0, (0, (0, (0, (0, (0, (0, (0, 0))))))))).2.2.2.2.2.2.1, (List.getD a0 (Int.toNat (IntKind.wrap .i64 ((a0.length : Int) - 1))) (0, (0, (0, (0, (0, (0, (0, (0, 0))))))))).2.2.2.2.2.2.2.1, (List.getD a0 (Int.toNat (IntKind.wrap .i64 ((a0.length : Int) - 1))) (0, (0, (0, (0, (0, (0, (0, (0, 0))))))))).2.2.2.2.2.2.2.2))
  else none := by kernel_rfl
def g66 (L : Nat) (a0 : (List E9)) : Option E9 :=
  bif ((a0.length : Int) == 0) then some (0, 0, 0, 0, 0, 0, 0, 0, 0)
  else bif ((decide (0 ≤ (IntKind.wrap .i64 ((a0.length : Int) - 1)))) && (decide ((IntKind.wrap .i64 ((a0.length : Int) - 1)) < (a0.length : Int)))) then some ((List.getD a0 (Int.toNat (IntKind.wrap .i64 ((a0.length : Int) - 1))) (0, (0, (0, (0, (0, (0, (0, (0, 0))))))))).1, (List.getD a0 (Int.toNat (IntKind.wrap .i64 ((a0.length : Int) - 1))) (0, (0, (0, (0, (0, (0, (0, (0, 0))))))))).2.1, (List.getD a0 (Int.toNat (IntKind.wrap .i64 ((a0.length : Int) - 1))) (0, (0, (0, (0, (0, (0, (0, (0, 0))))))))).2.2.1, (List.getD a0 (Int.toNat (IntKind.wrap .i64 ((a0.length : Int) - 1))) (0, (0, (0, (0, (0, (0, (0, (0, 0))))))))).2.2.2.1, (List.getD a0 (Int.toNat (IntKind.wrap .i64 ((a0.length : Int) - 1))) (0, (0, (0, (0, (0, (0, (0, (0, 0))))))))).2.2.2.2.1, (List.getD a0 (Int.toNat (IntKind.wrap .i64 ((a0.length : Int) - 1))) (0, (0, (0, (0, (0, (0, (0, (0, 0))))))))).2.2.2.2.2.1, (List.getD a0 (Int.toNat (IntKind.wrap .i64 ((a0.length : Int) - 1))) (0, (0, (0, (0, (0, (0, (0, (0, 0))))))))).2.2.2.2.2.2.1, (List.getD a0 (Int.toNat (IntKind.wrap .i64 ((a0.length : Int) - 1))) (0, (0, (0, (0, (0, (0, (0, (0, 0))))))))).2.2.2.2.2.2.2.1, (List.getD a0 (Int.toNat (IntKind.wrap .i64 ((a0.length : Int) - 1))) (0, (0, (0, (0, (0, (0, (0, (0, 0))))))))).2.2.2.2.2.2.2.2)
  else none
theorem e66 (L : Nat) (a0 : (List E9)) : evF prog ev66 (loopN L) f66 (a66.enc a0) = (g66 L a0).map n66 := by
  rw [i66]; simp only [g66, map_bif, map_tst, map_bnd, Option.map_some, Option.map_none]
theorem s66 (m : (List E9) → Option E9) (hm : ∀ (x : (List E9)) t, m x = some t → ∃ L, g66 L x = some t) : Sat prog cxT 66 (c66 m) :=
  sat_t cxT_ok cxT_pok (by rfl) (fn := f66) rfl a66 n66 dd66 m ev66 kok_nil kwok_nil (fun L x => g66 L x) (fun L x => e66 L x) hm hs66
def ev51 (m99 : (List E9) → Option Int) (m98 : ((List E9) × Int) → Option (Int × Int × Int × Int × Int × Int × Int × Int × Int × Bool)) : Env cxT := { Kc := kcOf [(99, c99 m99), (98, c98 m98)], Kw := kwOf [], lv := fun i => [], xv := fun i => none }
theorem i51 (m99 : (List E9) → Option Int) (m98 : ((List E9) × Int) → Option (Int × Int × Int × Int × Int × Int × Int × Int × Int × Bool)) (L : Nat) (a0 : (List E9)) : evF prog (ev51 m99 m98) (loopN L) f51 (a51.enc a0) =
  tst (m99 a0) 0 fun (q1 : Int) => tst (m98 (a0, q1)) (0, 0, 0, 0, 0, 0, 0, 0, 0, false) fun (q2 : (Int × Int × Int × Int × Int × Int × Int × Int × Int × Bool)) => some (n51 (q2.1, q2.2.1, q2.2.2.1, q2.2.2.2.1, q2.2.2.2.2.1, q2.2.2.2.2.2.1, q2.2.2.2.2.2.2.1, q2.2.2.2.2.2.2.2.1, q2.2.2.2.2.2.2.2.2.1)) := by kernel_rfl
def g51 (m99 : (List E9) → Option Int) (m98 : ((List E9) × Int) → Option (Int × Int × Int × Int × Int × Int × Int × Int × Int × Bool)) (L : Nat) (a0 : (List E9)) : Option E9 :=
  tst (m99 a0) 0 fun (q1 : Int) => tst (m98 (a0, q1)) (0, 0, 0, 0, 0, 0, 0, 0, 0, false) fun (q2 : (Int × Int × Int × Int × Int × Int × Int × Int × Int × Bool)) => some (q2.1, q2.2.1, q2.2.2.1, q2.2.2.2.1, q2.2.2.2.2.1, q2.2.2.2.2.2.1, q2.2.2.2.2.2.2.1, q2.2.2.2.2.2.2.2.1, q2.2.2.2.2.2.2.2.2.1)
theorem e51 (m99 : (List E9) → Option Int) (m98 : ((List E9) × Int) → Option (Int × Int × Int × Int × Int × Int × Int × Int × Int × Bool)) (L : Nat) (a0 : (List E9)) : evF prog (ev51 m99 m98) (loopN L) f51 (a51.enc a0) = (g51 m99 m98 L a0).map n51 := by
  rw [i51]; simp only [g51, map_bif, map_tst, map_bnd, Option.map_some, Option.map_none]
theorem s51 (m99 : (List E9) → Option Int) (m98 : ((List E9) × Int) → Option (Int × Int × Int × Int × Int × Int × Int × Int × Int × Bool)) (h99 : Sat prog cxT 99 (c99 m99)) (h98 : Sat prog cxT 98 (c98 m98)) (m : (List E9) → Option E9) (hm : ∀ (x : (List E9)) t, m x = some t → ∃ L, g51 m99 m98 L x = some t) : Sat prog cxT 51 (c51 m) :=
  sat_t cxT_ok cxT_pok (by rfl) (fn := f51) rfl a51 n51 dd51 m (ev51 m99 m98) (kok_cons h99 (kok_cons h98 kok_nil)) kwok_nil (fun L x => g51 m99 m98 L x) (fun L x => e51 m99 m98 L x) hm hs51
def ev99 : Env cxT := { Kc := kcOf [], Kw := kwOf [], lv := fun i => [], xv := fun i => none }
theorem i99 (L : Nat) (a0 : (List E9)) : evF prog ev99 (loopN L) f99 (a99.enc a0) =
  some (n99 (a0.length : Int)) := by kernel_rfl
def g99 (L : Nat) (a0 : (List E9)) : Option Int :=
  some (a0.length : Int)
theorem e99 (L : Nat) (a0 : (List E9)) : evF prog ev99 (loopN L) f99 (a99.enc a0) = (g99 L a0).map n99 := by
  rw [i99]; simp only [g99, map_bif, map_tst, map_bnd, Option.map_some, Option.map_none]
theorem s99 (m : (List E9) → Option Int) (hm : ∀ (x : (List E9)) t, m x = some t → ∃ L, g99 L x = some t) : Sat prog cxT 99 (c99 m) :=
  sat_t cxT_ok cxT_pok (by rfl) (fn := f99) rfl a99 n99 dd99 m ev99 kok_nil kwok_nil (fun L x => g99 L x) (fun L x => e99 L x) hm hs99
def ev98 (m99 : (List E9) → Option Int) : Env cxT := { Kc := kcOf [(99, c99 m99)], Kw := kwOf [], lv := fun i => [], xv := fun i => none }
theorem i98 (m99 : (List E9) → Option Int) (L : Nat) (a0 : (List E9)) (a1 : Int) : evF prog (ev98 m99) (loopN L) f98 (a98.enc (a0, a1)) =
  bif (decide (a1 < 1)) then some (n98 (0, 0, 0, 0, 0, 0, 0, 0, 0, false))
  else tst (m99 a0) 0 fun (q1 : Int) => bif (decide (a1 > q1)) then some (n98 (0, 0, 0, 0, 0, 0, 0, 0, 0, false))
    else bif ((decide (0 ≤ (IntKind.wrap .i64 (a1 - 1)))) && (decide ((IntKind.wrap .i64 (a1 - 1)) < (a0.length : Int)))) then some (n98 ((List.getD a0 (Int.toNat (IntKind.wrap .i64 (a1 - 1))) (0, (0, (0, (0, (0, (0, (0, (0, 0))))))))).1, (List.getD a0 (Int.toNat (IntKind.wrap .i64 (a1 - 1))) (0, (0, (0, (0, (0, (0, (0, (0, 0))))))))).2.1, (List.getD a0 (Int.toNat (IntKind.wrap .i64 (a1 - 1))) (0, (0, (0, (0, (0, (0, (0, (0, 0))))))))).2.2.1, (List.getD a0 (Int.toNat (IntKind.wrap .i64 (a1 - 1))) (0, (0, (0, (0, (0, (0, (0, (0, 0))))))))).2.2.2.1, (List.getD a0 (Int.toNat (IntKind.wrap .i64 (a1 - 1))) (0, (0, (0, (0, (0, (0, (0, (0, 0))))))))).2.2.2.2.1, (List.getD a0 (Int.toNat (IntKind.wrap .i64 (a1 - 1))) (0, (0, (0, (0, (0, (0, (0, (0, 0))))))))).2.2.2.2.2.1, (List.getD a0 (Int.toNat (IntKind.wrap .i64 (a1 - 1))) (0, (0, (0, (0, (0, (0, (0, (0, 0))))))))).2.2.2.2.2.2.1, (List.getD a0 (Int.toNat (IntKind.wrap .i64 (a1 - 1))) (0, (0, (0, (0, (0, (0, (0, (0, 0))))))))).2.2.2.2.2.2.2.1, (List.getD a0 (Int.toNat (IntKind.wrap .i64 (a1 - 1))) (0, (0, (0, (0, (0, (0, (0, (0, 0))))))))).2.2.2.2.2.2.2.2, true))
    else none := by kernel_rfl
def g98 (m99 : (List E9) → Option Int) (L : Nat) (a0 : (List E9)) (a1 : Int) : Option (Int × Int × Int × Int × Int × Int × Int × Int × Int × Bool) :=
  bif (decide (a1 < 1)) then some (0, 0, 0, 0, 0, 0, 0, 0, 0, false)
  else tst (m99 a0) 0 fun (q1 : Int) => bif (decide (a1 > q1)) then some (0, 0, 0, 0, 0, 0, 0, 0, 0, false)
    else bif ((decide (0 ≤ (IntKind.wrap .i64 (a1 - 1)))) && (decide ((IntKind.wrap .i64 (a1 - 1)) < (a0.length : Int)))) then some ((List.getD a0 (Int.toNat (IntKind.wrap .i64 (a1 - 1))) (0, (0, (0, (0, (0, (0, (0, (0, 0))))))))).1, (List.getD a0 (Int.toNat (IntKind.wrap .i64 (a1 - 1))) (0, (0, (0, (0, (0, (0, (0, (0, 0))))))))).2.1, (List.getD a0 (Int.toNat (IntKind.wrap .i64 (a1 - 1))) (0, (0, (0, (0, (0, (0, (0, (0, 0))))))))).2.2.1, (List.getD a0 (Int.toNat (IntKind.wrap .i64 (a1 - 1))) (0, (0, (0, (0, (0, (0, (0, (0, 0))))))))).2.2.2.1, (List.getD a0 (Int.toNat (IntKind.wrap .i64 (a1 - 1))) (0, (0, (0, (0, (0, (0, (0, (0, 0))))))))).2.2.2.2.1, (List.getD a0 (Int.toNat (IntKind.wrap .i64 (a1 - 1))) (0, (0, (0, (0, (0, (0, (0, (0, 0))))))))).2.2.2.2.2.1, (List.getD a0 (Int.toNat (IntKind.wrap .i64 (a1 - 1))) (0, (0, (0, (0, (0, (0, (0, (0, 0))))))))).2.2.2.2.2.2.1, (List.getD a0 (Int.toNat (IntKind.wrap .i64 (a1 - 1))) (0, (0, (0, (0, (0, (0, (0, (0, 0))))))))).2.2.2.2.2.2.2.1, (List.getD a0 (Int.toNat (IntKind.wrap .i64 (a1 - 1))) (0, (0, (0, (0, (0, (0, (0, (0, 0))))))))).2.2.2.2.2.2.2.2, true)
    else none
theorem e98 (m99 : (List E9) → Option Int) (L : Nat) (a0 : (List E9)) (a1 : Int) : evF prog (ev98 m99) (loopN L) f98 (a98.enc (a0, a1)) = (g98 m99 L a0 a1).map n98 := by
  rw [i98]; simp only [g98, map_bif, map_tst, map_bnd, Option.map_some, Option.map_none]
theorem s98 (m99 : (List E9) → Option Int) (h99 : Sat prog cxT 99 (c99 m99)) (m : ((List E9) × Int) → Option (Int × Int × Int × Int × Int × Int × Int × Int × Int × Bool)) (hm : ∀ (x : ((List E9) × Int)) t, m x = some t → ∃ L, g98 m99 L x.1 x.2 = some t) : Sat prog cxT 98 (c98 m) :=
  sat_t cxT_ok cxT_pok (by rfl) (fn := f98) rfl a98 n98 dd98 m (ev98 m99) (kok_cons h99 kok_nil) kwok_nil (fun L x => g98 m99 L x.1 x.2) (fun L x => e98 m99 L x.1 x.2) hm hs98
end Go.Proofs.Tryz

namespace Go.Proofs.Tryz
open Go Go.VM Go.RowKit
@[reducible] def p75_0 (e : Int) (y : E9) : E9 := (e, (y.2.1, (y.2.2.1, (y.2.2.2.1, y.2.2.2.2))))
@[reducible] def p75_1 (e : Int) (y : E9) : E9 := (y.1, (e, (y.2.2.1, (y.2.2.2.1, y.2.2.2.2))))
@[reducible] def p75_2 (e : Int) (y : E9) : E9 := (y.1, (y.2.1, (e, (y.2.2.2.1, y.2.2.2.2))))
@[reducible] def p75_3 (e : Int) (y : E9) : E9 := (y.1, (y.2.1, (y.2.2.1, (e, y.2.2.2.2))))
@[reducible] def p75_4 (e : Int) (y : E9) : E9 := (y.1, (y.2.1, (y.2.2.1, (y.2.2.2.1, (e, y.2.2.2.2.2)))))
@[reducible] def p75_5 (e : Int) (y : E9) : E9 := (y.1, (y.2.1, (y.2.2.1, (y.2.2.2.1, (y.2.2.2.2.1, (e, y.2.2.2.2.2.2))))))
@[reducible] def p75_6 (e : Int) (y : E9) : E9 := (y.1, (y.2.1, (y.2.2.1, (y.2.2.2.1, (y.2.2.2.2.1, (y.2.2.2.2.2.1, (e, y.2.2.2.2.2.2.2)))))))
@[reducible] def p75_7 (e : Int) (y : E9) : E9 := (y.1, (y.2.1, (y.2.2.1, (y.2.2.2.1, (y.2.2.2.2.1, (y.2.2.2.2.2.1, (y.2.2.2.2.2.2.1, (e, y.2.2.2.2.2.2.2.2))))))))
@[reducible] def p75_8 (e : Int) (y : E9) : E9 := (y.1, (y.2.1, (y.2.2.1, (y.2.2.2.1, (y.2.2.2.2.1, (y.2.2.2.2.2.1, (y.2.2.2.2.2.2.1, (y.2.2.2.2.2.2.2.1, e))))))))
def ev75 : Env cxT := { Kc := kcOf [], Kw := kwOf [], lv := fun i => if i = 0 then [(0, [some 57]), (1, []), (5, [])] else [], xv := fun i => if i = 0 then some [(0, [some 57]), (1, [])] else none }
def S75_0 (a0 : (List E9)) (a1 : Int) (x0 : (List E9)) (x1 x2 : Int) : St cxT.ty := { slots := [(.inl (.inl (ls { own := 1, nm := 0, e := 57, o := true, xs := x0 }))), (.inl (.inl (lv (.int .i64 x1)))), junk, junk, junk, (.inl (.inl (lv (.int .i64 x2))))] ++ List.replicate 76 junk, D := [], F := [], ctr := 1, lo := 1 }
def X75_0 (a0 : (List E9)) (a1 : Int) (x0 : (List E9)) (x1 : Int) : St cxT.ty := { slots := [(.inl (.inl (ls { own := 1, nm := 0, e := 57, o := true, xs := x0 }))), (.inl (.inl (lv (.int .i64 x1))))] ++ List.replicate 80 junk, D := [], F := [], ctr := 1, lo := 1 }
theorem i75 (L : Nat) (a0 : (List E9)) (a1 : Int) : evFW prog ev75 (loopN L) f75 1 (a75.enc (a0, a1)) =
  headF prog ev75 L f75 0 [1, 0, 1, 0, 0] (outK (outW prog f75 1) (topK prog ev75 L f75 [1, 0, 1] (outW prog f75 1)).n (topK prog ev75 L f75 [1, 0, 1] (outW prog f75 1)).x) L (S75_0 a0 a1 a0 a1 0) := by kernel_rfl
theorem r75_0 (L : Nat) (a0 : (List E9)) (a1 : Int) (k : St cxT.ty → Option (List (A cxT.ty))) (xk : Nat → St cxT.ty → Option (List (A cxT.ty))) (g : St cxT.ty → Option (List (A cxT.ty))) (x2 : (List E9)) (x1 x0 : Int) : roundF prog ev75 L f75 0 [1, 0, 1, 0, 0] (outK (outW prog f75 1) k xk) g (S75_0 a0 a1 x2 x1 x0) =
  bif (decide (x0 < (x2.length : Int))) then bif ((decide (0 ≤ x0)) && (decide (x0 < (x2.length : Int)))) then bif ((decide (0 ≤ x0)) && (decide (x0 < ((List.length (List.modify x2 x0.toNat (p75_0 x1))) : Int)))) then bif ((decide (0 ≤ x0)) && (decide (x0 < ((List.length (List.modify (List.modify x2 x0.toNat (p75_0 x1)) x0.toNat (p75_1 (IntKind.wrap .i64 (x1 + 1))))) : Int)))) then bif ((decide (0 ≤ x0)) && (decide (x0 < ((List.length (List.modify (List.modify (List.modify x2 x0.toNat (p75_0 x1)) x0.toNat (p75_1 (IntKind.wrap .i64 (x1 + 1)))) x0.toNat (p75_2 (IntKind.wrap .i64 ((IntKind.wrap .i64 (x1 + 1)) + 1))))) : Int)))) then bif ((decide (0 ≤ x0)) && (decide (x0 < ((List.length (List.modify (List.modify (List.modify (List.modify x2 x0.toNat (p75_0 x1)) x0.toNat (p75_1 (IntKind.wrap .i64 (x1 + 1)))) x0.toNat (p75_2 (IntKind.wrap .i64 ((IntKind.wrap .i64 (x1 + 1)) + 1)))) x0.toNat (p75_3 (IntKind.wrap .i64 ((IntKind.wrap .i64 ((IntKind.wrap .i64 (x1 + 1)) + 1)) + 1))))) : Int)))) then bif ((decide (0 ≤ x0)) && (decide (x0 < ((List.length (List.modify (List.modify (List.modify (List.modify (List.modify x2 x0.toNat (p75_0 x1)) x0.toNat (p75_1 (IntKind.wrap .i64 (x1 + 1)))) x0.toNat (p75_2 (IntKind.wrap .i64 ((IntKind.wrap .i64 (x1 + 1)) + 1)))) x0.toNat (p75_3 (IntKind.wrap .i64 ((IntKind.wrap .i64 ((IntKind.wrap .i64 (x1 + 1)) + 1)) + 1)))) x0.toNat (p75_4 (IntKind.wrap .i64 ((IntKind.wrap .i64 ((IntKind.wrap .i64 ((IntKind.wrap .i64 (x1 + 1)) + 1)) + 1)) + 1))))) : Int)))) then bif ((decide (0 ≤ x0)) && (decide (x0 < ((List.length (List.modify (List.modify (List.modify (List.modify (List.modify (List.modify x2 x0.toNat (p75_0 x1)) x0.toNat (p75_1 (IntKind.wrap .i64 (x1 + 1)))) x0.toNat (p75_2 (IntKind.wrap .i64 ((IntKind.wrap .i64 (x1 + 1)) + 1)))) x0.toNat (p75_3 (IntKind.wrap .i64 ((IntKind.wrap .i64 ((IntKind.wrap .i64 (x1 + 1)) + 1)) + 1)))) x0.toNat (p75_4 (IntKind.wrap .i64 ((IntKind.wrap .i64 ((IntKind.wrap .i64 ((IntKind.wrap .i64 (x1 + 1)) + 1)) + 1)) + 1)))) x0.toNat (p75_5 (IntKind.wrap .i64 ((IntKind.wrap .i64 ((IntKind.wrap .i64 ((IntKind.wrap .i64 ((IntKind.wrap .i64 (x1 + 1)) + 1)) + 1)) + 1)) + 1))))) : Int)))) then bif ((decide (0 ≤ x0)) && (decide (x0 < ((List.length (List.modify (List.modify (List.modify (List.modify (List.modify (List.modify (List.modify x2 x0.toNat (p75_0 x1)) x0.toNat (p75_1 (IntKind.wrap .i64 (x1 + 1)))) x0.toNat (p75_2 (IntKind.wrap .i64 ((IntKind.wrap .i64 (x1 + 1)) + 1)))) x0.toNat (p75_3 (IntKind.wrap .i64 ((IntKind.wrap .i64 ((IntKind.wrap .i64 (x1 + 1)) + 1)) + 1)))) x0.toNat (p75_4 (IntKind.wrap .i64 ((IntKind.wrap .i64 ((IntKind.wrap .i64 ((IntKind.wrap .i64 (x1 + 1)) + 1)) + 1)) + 1)))) x0.toNat (p75_5 (IntKind.wrap .i64 ((IntKind.wrap .i64 ((IntKind.wrap .i64 ((IntKind.wrap .i64 ((IntKind.wrap .i64 (x1 + 1)) + 1)) + 1)) + 1)) + 1)))) x0.toNat (p75_6 (IntKind.wrap .i64 ((IntKind.wrap .i64 ((IntKind.wrap .i64 ((IntKind.wrap .i64 ((IntKind.wrap .i64 ((IntKind.wrap .i64 (x1 + 1)) + 1)) + 1)) + 1)) + 1)) + 1))))) : Int)))) then bif ((decide (0 ≤ x0)) && (decide (x0 < ((List.length (List.modify (List.modify (List.modify (List.modify (List.modify (List.modify (List.modify (List.modify x2 x0.toNat (p75_0 x1)) x0.toNat (p75_1 (IntKind.wrap .i64 (x1 + 1)))) x0.toNat (p75_2 (IntKind.wrap .i64 ((IntKind.wrap .i64 (x1 + 1)) + 1)))) x0.toNat (p75_3 (IntKind.wrap .i64 ((IntKind.wrap .i64 ((IntKind.wrap .i64 (x1 + 1)) + 1)) + 1)))) x0.toNat (p75_4 (IntKind.wrap .i64 ((IntKind.wrap .i64 ((IntKind.wrap .i64 ((IntKind.wrap .i64 (x1 + 1)) + 1)) + 1)) + 1)))) x0.toNat (p75_5 (IntKind.wrap .i64 ((IntKind.wrap .i64 ((IntKind.wrap .i64 ((IntKind.wrap .i64 ((IntKind.wrap .i64 (x1 + 1)) + 1)) + 1)) + 1)) + 1)))) x0.toNat (p75_6 (IntKind.wrap .i64 ((IntKind.wrap .i64 ((IntKind.wrap .i64 ((IntKind.wrap .i64 ((IntKind.wrap .i64 ((IntKind.wrap .i64 (x1 + 1)) + 1)) + 1)) + 1)) + 1)) + 1)))) x0.toNat (p75_7 (IntKind.wrap .i64 ((IntKind.wrap .i64 ((IntKind.wrap .i64 ((IntKind.wrap .i64 ((IntKind.wrap .i64 ((IntKind.wrap .i64 ((IntKind.wrap .i64 (x1 + 1)) + 1)) + 1)) + 1)) + 1)) + 1)) + 1))))) : Int)))) then g (S75_0 a0 a1 (List.modify (List.modify (List.modify (List.modify (List.modify (List.modify (List.modify (List.modify (List.modify x2 x0.toNat (p75_0 x1)) x0.toNat (p75_1 (IntKind.wrap .i64 (x1 + 1)))) x0.toNat (p75_2 (IntKind.wrap .i64 ((IntKind.wrap .i64 (x1 + 1)) + 1)))) x0.toNat (p75_3 (IntKind.wrap .i64 ((IntKind.wrap .i64 ((IntKind.wrap .i64 (x1 + 1)) + 1)) + 1)))) x0.toNat (p75_4 (IntKind.wrap .i64 ((IntKind.wrap .i64 ((IntKind.wrap .i64 ((IntKind.wrap .i64 (x1 + 1)) + 1)) + 1)) + 1)))) x0.toNat (p75_5 (IntKind.wrap .i64 ((IntKind.wrap .i64 ((IntKind.wrap .i64 ((IntKind.wrap .i64 ((IntKind.wrap .i64 (x1 + 1)) + 1)) + 1)) + 1)) + 1)))) x0.toNat (p75_6 (IntKind.wrap .i64 ((IntKind.wrap .i64 ((IntKind.wrap .i64 ((IntKind.wrap .i64 ((IntKind.wrap .i64 ((IntKind.wrap .i64 (x1 + 1)) + 1)) + 1)) + 1)) + 1)) + 1)))) x0.toNat (p75_7 (IntKind.wrap .i64 ((IntKind.wrap .i64 ((IntKind.wrap .i64 ((IntKind.wrap .i64 ((IntKind.wrap .i64 ((IntKind.wrap .i64 ((IntKind.wrap .i64 (x1 + 1)) + 1)) + 1)) + 1)) + 1)) + 1)) + 1)))) x0.toNat (p75_8 (IntKind.wrap .i64 ((IntKind.wrap .i64 ((IntKind.wrap .i64 ((IntKind.wrap .i64 ((IntKind.wrap .i64 ((IntKind.wrap .i64 ((IntKind.wrap .i64 ((IntKind.wrap .i64 (x1 + 1)) + 1)) + 1)) + 1)) + 1)) + 1)) + 1)) + 1)))) (IntKind.wrap .i64 ((IntKind.wrap .i64 ((IntKind.wrap .i64 ((IntKind.wrap .i64 ((IntKind.wrap .i64 ((IntKind.wrap .i64 ((IntKind.wrap .i64 ((IntKind.wrap .i64 ((IntKind.wrap .i64 (x1 + 1)) + 1)) + 1)) + 1)) + 1)) + 1)) + 1)) + 1)) + 1)) (IntKind.wrap .i64 (x0 + 1)))
                    else none
                  else none
                else none
              else none
            else none
          else none
        else none
      else none
    else none
  else k (X75_0 a0 a1 x2 x1) := by kernel_rfl
theorem t75_0 (L : Nat) (a0 : (List E9)) (a1 : Int) (x0 : (List E9)) (x1 : Int) : (topK prog ev75 L f75 [1, 0, 1] (outW prog f75 1)).n (X75_0 a0 a1 x0 x1) =
  some (n75 (x1, x0)) := by kernel_rfl
def l75_0 (L : Nat) (a0 : (List E9)) (a1 : Int) : Nat → (List E9) → Int → Int → ((List E9) → Int → Option (Int × (List E9))) → Option (Int × (List E9))
  | 0, _, _, _, _ => none
  | n + 1, x2, x1, x0, k =>
    bif (decide (x0 < (x2.length : Int))) then bif ((decide (0 ≤ x0)) && (decide (x0 < (x2.length : Int)))) then bif ((decide (0 ≤ x0)) && (decide (x0 < ((List.length (List.modify x2 x0.toNat (p75_0 x1))) : Int)))) then bif ((decide (0 ≤ x0)) && (decide (x0 < ((List.length (List.modify (List.modify x2 x0.toNat (p75_0 x1)) x0.toNat (p75_1 (IntKind.wrap .i64 (x1 + 1))))) : Int)))) then bif ((decide (0 ≤ x0)) && (decide (x0 < ((List.length (List.modify (List.modify (List.modify x2 x0.toNat (p75_0 x1)) x0.toNat (p75_1 (IntKind.wrap .i64 (x1 + 1)))) x0.toNat (p75_2 (IntKind.wrap .i64 ((IntKind.wrap .i64 (x1 + 1)) + 1))))) : Int)))) then bif ((decide (0 ≤ x0)) && (decide (x0 < ((List.length (List.modify (List.modify (List.modify (List.modify x2 x0.toNat (p75_0 x1)) x0.toNat (p75_1 (IntKind.wrap .i64 (x1 + 1)))) x0.toNat (p75_2 (IntKind.wrap .i64 ((IntKind.wrap .i64 (x1 + 1)) + 1)))) x0.toNat (p75_3 (IntKind.wrap .i64 ((IntKind.wrap .i64 ((IntKind.wrap .i64 (x1 + 1)) + 1)) + 1))))) : Int)))) then bif ((decide (0 ≤ x0)) && (decide (x0 < ((List.length (List.modify (List.modify (List.modify (List.modify (List.modify x2 x0.toNat (p75_0 x1)) x0.toNat (p75_1 (IntKind.wrap .i64 (x1 + 1)))) x0.toNat (p75_2 (IntKind.wrap .i64 ((IntKind.wrap .i64 (x1 + 1)) + 1)))) x0.toNat (p75_3 (IntKind.wrap .i64 ((IntKind.wrap .i64 ((IntKind.wrap .i64 (x1 + 1)) + 1)) + 1)))) x0.toNat (p75_4 (IntKind.wrap .i64 ((IntKind.wrap .i64 ((IntKind.wrap .i64 ((IntKind.wrap .i64 (x1 + 1)) + 1)) + 1)) + 1))))) : Int)))) then bif ((decide (0 ≤ x0)) && (decide (x0 < ((List.length (List.modify (List.modify (List.modify (List.modify (List.modify (List.modify x2 x0.toNat (p75_0 x1)) x0.toNat (p75_1 (IntKind.wrap .i64 (x1 + 1)))) x0.toNat (p75_2 (IntKind.wrap .i64 ((IntKind.wrap .i64 (x1 + 1)) + 1)))) x0.toNat (p75_3 (IntKind.wrap .i64 ((IntKind.wrap .i64 ((IntKind.wrap .i64 (x1 + 1)) + 1)) + 1)))) x0.toNat (p75_4 (IntKind.wrap .i64 ((IntKind.wrap .i64 ((IntKind.wrap .i64 ((IntKind.wrap .i64 (x1 + 1)) + 1)) + 1)) + 1)))) x0.toNat (p75_5 (IntKind.wrap .i64 ((IntKind.wrap .i64 ((IntKind.wrap .i64 ((IntKind.wrap .i64 ((IntKind.wrap .i64 (x1 + 1)) + 1)) + 1)) + 1)) + 1))))) : Int)))) then bif ((decide (0 ≤ x0)) && (decide (x0 < ((List.length (List.modify (List.modify (List.modify (List.modify (List.modify (List.modify (List.modify x2 x0.toNat (p75_0 x1)) x0.toNat (p75_1 (IntKind.wrap .i64 (x1 + 1)))) x0.toNat (p75_2 (IntKind.wrap .i64 ((IntKind.wrap .i64 (x1 + 1)) + 1)))) x0.toNat (p75_3 (IntKind.wrap .i64 ((IntKind.wrap .i64 ((IntKind.wrap .i64 (x1 + 1)) + 1)) + 1)))) x0.toNat (p75_4 (IntKind.wrap .i64 ((IntKind.wrap .i64 ((IntKind.wrap .i64 ((IntKind.wrap .i64 (x1 + 1)) + 1)) + 1)) + 1)))) x0.toNat (p75_5 (IntKind.wrap .i64 ((IntKind.wrap .i64 ((IntKind.wrap .i64 ((IntKind.wrap .i64 ((IntKind.wrap .i64 (x1 + 1)) + 1)) + 1)) + 1)) + 1)))) x0.toNat (p75_6 (IntKind.wrap .i64 ((IntKind.wrap .i64 ((IntKind.wrap .i64 ((IntKind.wrap .i64 ((IntKind.wrap .i64 ((IntKind.wrap .i64 (x1 + 1)) + 1)) + 1)) + 1)) + 1)) + 1))))) : Int)))) then bif ((decide (0 ≤ x0)) && (decide (x0 < ((List.length (List.modify (List.modify (List.modify (List.modify (List.modify (List.modify (List.modify (List.modify x2 x0.toNat (p75_0 x1)) x0.toNat (p75_1 (IntKind.wrap .i64 (x1 + 1)))) x0.toNat (p75_2 (IntKind.wrap .i64 ((IntKind.wrap .i64 (x1 + 1)) + 1)))) x0.toNat (p75_3 (IntKind.wrap .i64 ((IntKind.wrap .i64 ((IntKind.wrap .i64 (x1 + 1)) + 1)) + 1)))) x0.toNat (p75_4 (IntKind.wrap .i64 ((IntKind.wrap .i64 ((IntKind.wrap .i64 ((IntKind.wrap .i64 (x1 + 1)) + 1)) + 1)) + 1)))) x0.toNat (p75_5 (IntKind.wrap .i64 ((IntKind.wrap .i64 ((IntKind.wrap .i64 ((IntKind.wrap .i64 ((IntKind.wrap .i64 (x1 + 1)) + 1)) + 1)) + 1)) + 1)))) x0.toNat (p75_6 (IntKind.wrap .i64 ((IntKind.wrap .i64 ((IntKind.wrap .i64 ((IntKind.wrap .i64 ((IntKind.wrap .i64 ((IntKind.wrap .i64 (x1 + 1)) + 1)) + 1)) + 1)) + 1)) + 1)))) x0.toNat (p75_7 (IntKind.wrap .i64 ((IntKind.wrap .i64 ((IntKind.wrap .i64 ((IntKind.wrap .i64 ((IntKind.wrap .i64 ((IntKind.wrap .i64 ((IntKind.wrap .i64 (x1 + 1)) + 1)) + 1)) + 1)) + 1)) + 1)) + 1))))) : Int)))) then l75_0 L a0 a1 n (List.modify (List.modify (List.modify (List.modify (List.modify (List.modify (List.modify (List.modify (List.modify x2 x0.toNat (p75_0 x1)) x0.toNat (p75_1 (IntKind.wrap .i64 (x1 + 1)))) x0.toNat (p75_2 (IntKind.wrap .i64 ((IntKind.wrap .i64 (x1 + 1)) + 1)))) x0.toNat (p75_3 (IntKind.wrap .i64 ((IntKind.wrap .i64 ((IntKind.wrap .i64 (x1 + 1)) + 1)) + 1)))) x0.toNat (p75_4 (IntKind.wrap .i64 ((IntKind.wrap .i64 ((IntKind.wrap .i64 ((IntKind.wrap .i64 (x1 + 1)) + 1)) + 1)) + 1)))) x0.toNat (p75_5 (IntKind.wrap .i64 ((IntKind.wrap .i64 ((IntKind.wrap .i64 ((IntKind.wrap .i64 ((IntKind.wrap .i64 (x1 + 1)) + 1)) + 1)) + 1)) + 1)))) x0.toNat (p75_6 (IntKind.wrap .i64 ((IntKind.wrap .i64 ((IntKind.wrap .i64 ((IntKind.wrap .i64 ((IntKind.wrap .i64 ((IntKind.wrap .i64 (x1 + 1)) + 1)) + 1)) + 1)) + 1)) + 1)))) x0.toNat (p75_7 (IntKind.wrap .i64 ((IntKind.wrap .i64 ((IntKind.wrap .i64 ((IntKind.wrap .i64 ((IntKind.wrap .i64 ((IntKind.wrap .i64 ((IntKind.wrap .i64 (x1 + 1)) + 1)) + 1)) + 1)) + 1)) + 1)) + 1)))) x0.toNat (p75_8 (IntKind.wrap .i64 ((IntKind.wrap .i64 ((IntKind.wrap .i64 ((IntKind.wrap .i64 ((IntKind.wrap .i64 ((IntKind.wrap .i64 ((IntKind.wrap .i64 ((IntKind.wrap .i64 (x1 + 1)) + 1)) + 1)) + 1)) + 1)) + 1)) + 1)) + 1)))) (IntKind.wrap .i64 ((IntKind.wrap .i64 ((IntKind.wrap .i64 ((IntKind.wrap .i64 ((IntKind.wrap .i64 ((IntKind.wrap .i64 ((IntKind.wrap .i64 ((IntKind.wrap .i64 ((IntKind.wrap .i64 (x1 + 1)) + 1)) + 1)) + 1)) + 1)) + 1)) + 1)) + 1)) + 1)) (IntKind.wrap .i64 (x0 + 1)) k
                      else none
                    else none
                  else none
                else none
              else none
            else none
          else none
        else none
      else none
    else k x2 x1
theorem h75_0 (L : Nat) (a0 : (List E9)) (a1 : Int) (k : St cxT.ty → Option (List (A cxT.ty))) (xk : Nat → St cxT.ty → Option (List (A cxT.ty))) (k' : (List E9) → Int → Option (Int × (List E9))) (hk : ∀ (x3 : (List E9)) (x4 : Int), k (X75_0 a0 a1 x3 x4) = (k' x3 x4).map n75) : ∀ (n : Nat) (x0 : (List E9)) (x1 x2 : Int), headF prog ev75 L f75 0 [1, 0, 1, 0, 0] (outK (outW prog f75 1) k xk) n (S75_0 a0 a1 x0 x1 x2) = (l75_0 L a0 a1 n x0 x1 x2 k').map n75
  | 0, _, _, _ => rfl
  | n + 1, x0, x1, x2 => by
    rw [headF_round, r75_0]
    have ih := h75_0 L a0 a1 k xk k' hk n
    simp only [l75_0, map_bif, map_tst, map_bnd, Option.map_some, Option.map_none, ih, hk]
def g75 (L : Nat) (a0 : (List E9)) (a1 : Int) : Option (Int × (List E9)) :=
  l75_0 L a0 a1 L a0 a1 0 (fun (x0 : (List E9)) (x1 : Int) => some (x1, x0))
theorem e75 (L : Nat) (a0 : (List E9)) (a1 : Int) : evFW prog ev75 (loopN L) f75 1 (a75.enc (a0, a1)) = (g75 L a0 a1).map n75 := by
  let K'0 : (List E9) → Int → Option (Int × (List E9)) := (fun (x3 : (List E9)) (x4 : Int) => some (x4, x3))
  have hin0 : ∀ (x0 : (List E9)) (x1 x2 : Int), headF prog ev75 L f75 0 [1, 0, 1, 0, 0] (outK (outW prog f75 1) (topK prog ev75 L f75 [1, 0, 1] (outW prog f75 1)).n (topK prog ev75 L f75 [1, 0, 1] (outW prog f75 1)).x) L (S75_0 a0 a1 x0 x1 x2) = (l75_0 L a0 a1 L x0 x1 x2 K'0).map n75 := fun x0 x1 x2 => h75_0 L a0 a1 _ _ K'0 (fun x3 x4 => by rw [t75_0]; simp only [K'0, map_bif, map_tst, map_bnd, Option.map_some, Option.map_none]) L x0 x1 x2
  rw [i75]; simp only [g75, map_bif, map_tst, map_bnd, Option.map_some, Option.map_none, hin0, K'0]
theorem s75 (m : ((List E9) × Int) → Option (Int × (List E9))) (hm : ∀ (x : ((List E9) × Int)) t, m x = some t → ∃ L, g75 L x.1 x.2 = some t) : SatW prog cxT 75 (c75 m).nres (c75 m).n (c75 m).F :=
  sat_w cxT_ok cxT_pok (by rfl) (fn := f75) rfl rfl a75 n75 dd75 m ev75 kok_nil kwok_nil (fun L x => g75 L x.1 x.2) (fun L x => e75 L x.1 x.2) hm hs75
def ev109 : Env cxT := { Kc := kcOf [], Kw := kwOf [], lv := fun i => if i = 0 then [(0, [some 57]), (1, []), (5, [])] else [], xv := fun i => if i = 0 then some [(1, [])] else none }
def S109_0 (a0 : (List E9)) (a1 x0 x1 : Int) : St cxT.ty := { slots := [(.inl (.inl (ls { own := 0, nm := 0, e := 57, o := false, xs := a0 }))), (.inl (.inl (lv (.int .i64 x0)))), junk, junk, junk, (.inl (.inl (lv (.int .i64 x1))))] ++ List.replicate 94 junk, D := [], F := [], ctr := 1 }
def X109_0 (a0 : (List E9)) (a1 x0 : Int) : St cxT.ty := { slots := [junk, (.inl (.inl (lv (.int .i64 x0))))] ++ List.replicate 98 junk, D := [], F := [], ctr := 1 }
theorem i109 (L : Nat) (a0 : (List E9)) (a1 : Int) : evF prog ev109 (loopN L) f109 (a109.enc (a0, a1)) =
  headF prog ev109 L f109 0 [1, 0, 1, 0, 0] (outK (outV prog f109) (topK prog ev109 L f109 [1, 0, 1] (outV prog f109)).n (topK prog ev109 L f109 [1, 0, 1] (outV prog f109)).x) L (S109_0 a0 a1 a1 0) := by kernel_rfl
theorem r109_0 (L : Nat) (a0 : (List E9)) (a1 : Int) (k : St cxT.ty → Option (V cxT.ty)) (xk : Nat → St cxT.ty → Option (V cxT.ty)) (g : St cxT.ty → Option (V cxT.ty)) (x1 x0 : Int) : roundF prog ev109 L f109 0 [1, 0, 1, 0, 0] (outK (outV prog f109) k xk) g (S109_0 a0 a1 x1 x0) =
  bif (decide (x0 < (a0.length : Int))) then bif ((decide (0 ≤ x0)) && (decide (x0 < (a0.length : Int)))) then bif ((List.getD a0 x0.toNat (0, (0, (0, (0, (0, (0, (0, (0, 0))))))))).1 != x1) then some (n109 (-1))
      else bif ((decide (0 ≤ x0)) && (decide (x0 < (a0.length : Int)))) then bif ((List.getD a0 x0.toNat (0, (0, (0, (0, (0, (0, (0, (0, 0))))))))).2.1 != (IntKind.wrap .i64 (x1 + 1))) then some (n109 (-1))
        else bif ((decide (0 ≤ x0)) && (decide (x0 < (a0.length : Int)))) then bif ((List.getD a0 x0.toNat (0, (0, (0, (0, (0, (0, (0, (0, 0))))))))).2.2.1 != (IntKind.wrap .i64 ((IntKind.wrap .i64 (x1 + 1)) + 1))) then some (n109 (-1))
          else bif ((decide (0 ≤ x0)) && (decide (x0 < (a0.length : Int)))) then bif ((List.getD a0 x0.toNat (0, (0, (0, (0, (0, (0, (0, (0, 0))))))))).2.2.2.1 != (IntKind.wrap .i64 ((IntKind.wrap .i64 ((IntKind.wrap .i64 (x1 + 1)) + 1)) + 1))) then some (n109 (-1))
            else bif ((decide (0 ≤ x0)) && (decide (x0 < (a0.length : Int)))) then bif ((List.getD a0 x0.toNat (0, (0, (0, (0, (0, (0, (0, (0, 0))))))))).2.2.2.2.1 != (IntKind.wrap .i64 ((IntKind.wrap .i64 ((IntKind.wrap .i64 ((IntKind.wrap .i64 (x1 + 1)) + 1)) + 1)) + 1))) then some (n109 (-1))
              else bif ((decide (0 ≤ x0)) && (decide (x0 < (a0.length : Int)))) then bif ((List.getD a0 x0.toNat (0, (0, (0, (0, (0, (0, (0, (0, 0))))))))).2.2.2.2.2.1 != (IntKind.wrap .i64 ((IntKind.wrap .i64 ((IntKind.wrap .i64 ((IntKind.wrap .i64 ((IntKind.wrap .i64 (x1 + 1)) + 1)) + 1)) + 1)) + 1))) then some (n109 (-1))
                else bif ((decide (0 ≤ x0)) && (decide (x0 < (a0.length : Int)))) then bif ((List.getD a0 x0.toNat (0, (0, (0, (0, (0, (0, (0, (0, 0))))))))).2.2.2.2.2.2.1 != (IntKind.wrap .i64 ((IntKind.wrap .i64 ((IntKind.wrap .i64 ((IntKind.wrap .i64 ((IntKind.wrap .i64 ((IntKind.wrap .i64 (x1 + 1)) + 1)) + 1)) + 1)) + 1)) + 1))) then some (n109 (-1))
                  else bif ((decide (0 ≤ x0)) && (decide (x0 < (a0.length : Int)))) then bif ((List.getD a0 x0.toNat (0, (0, (0, (0, (0, (0, (0, (0, 0))))))))).2.2.2.2.2.2.2.1 != (IntKind.wrap .i64 ((IntKind.wrap .i64 ((IntKind.wrap .i64 ((IntKind.wrap .i64 ((IntKind.wrap .i64 ((IntKind.wrap .i64 ((IntKind.wrap .i64 (x1 + 1)) + 1)) + 1)) + 1)) + 1)) + 1)) + 1))) then some (n109 (-1))
                    else bif ((decide (0 ≤ x0)) && (decide (x0 < (a0.length : Int)))) then bif ((List.getD a0 x0.toNat (0, (0, (0, (0, (0, (0, (0, (0, 0))))))))).2.2.2.2.2.2.2.2 != (IntKind.wrap .i64 ((IntKind.wrap .i64 ((IntKind.wrap .i64 ((IntKind.wrap .i64 ((IntKind.wrap .i64 ((IntKind.wrap .i64 ((IntKind.wrap .i64 ((IntKind.wrap .i64 (x1 + 1)) + 1)) + 1)) + 1)) + 1)) + 1)) + 1)) + 1))) then some (n109 (-1))
                      else g (S109_0 a0 a1 (IntKind.wrap .i64 ((IntKind.wrap .i64 ((IntKind.wrap .i64 ((IntKind.wrap .i64 ((IntKind.wrap .i64 ((IntKind.wrap .i64 ((IntKind.wrap .i64 ((IntKind.wrap .i64 ((IntKind.wrap .i64 (x1 + 1)) + 1)) + 1)) + 1)) + 1)) + 1)) + 1)) + 1)) + 1)) (IntKind.wrap .i64 (x0 + 1)))
                    else none
                  else none
                else none
              else none
            else none
          else none
        else none
      else none
    else none
  else k (X109_0 a0 a1 x1) := by kernel_rfl
theorem t109_0 (L : Nat) (a0 : (List E9)) (a1 x0 : Int) : (topK prog ev109 L f109 [1, 0, 1] (outV prog f109)).n (X109_0 a0 a1 x0) =
  some (n109 x0) := by kernel_rfl
def l109_0 (L : Nat) (a0 : (List E9)) (a1 : Int) : Nat → Int → Int → (Int → Option Int) → Option Int
  | 0, _, _, _ => none
  | n + 1, x1, x0, k =>
    bif (decide (x0 < (a0.length : Int))) then bif ((decide (0 ≤ x0)) && (decide (x0 < (a0.length : Int)))) then bif ((List.getD a0 x0.toNat (0, (0, (0, (0, (0, (0, (0, (0, 0))))))))).1 != x1) then some (-1)
        else bif ((decide (0 ≤ x0)) && (decide (x0 < (a0.length : Int)))) then bif ((List.getD a0 x0.toNat (0, (0, (0, (0, (0, (0, (0, (0, 0))))))))).2.1 != (IntKind.wrap .i64 (x1 + 1))) then some (-1)
          else bif ((decide (0 ≤ x0)) && (decide (x0 < (a0.length : Int)))) then bif ((List.getD a0 x0.toNat (0, (0, (0, (0, (0, (0, (0, (0, 0))))))))).2.2.1 != (IntKind.wrap .i64 ((IntKind.wrap .i64 (x1 + 1)) + 1))) then some (-1)
            else bif ((decide (0 ≤ x0)) && (decide (x0 < (a0.length : Int)))) then bif ((List.getD a0 x0.toNat (0, (0, (0, (0, (0, (0, (0, (0, 0))))))))).2.2.2.1 != (IntKind.wrap .i64 ((IntKind.wrap .i64 ((IntKind.wrap .i64 (x1 + 1)) + 1)) + 1))) then some (-1)
              else bif ((decide (0 ≤ x0)) && (decide (x0 < (a0.length : Int)))) then bif ((List.getD a0 x0.toNat (0, (0, (0, (0, (0, (0, (0, (0, 0))))))))).2.2.2.2.1 != (IntKind.wrap .i64 ((IntKind.wrap .i64 ((IntKind.wrap .i64 ((IntKind.wrap .i64 (x1 + 1)) + 1)) + 1)) + 1))) then some (-1)
                else bif ((decide (0 ≤ x0)) && (decide (x0 < (a0.length : Int)))) then bif ((List.getD a0 x0.toNat (0, (0, (0, (0, (0, (0, (0, (0, 0))))))))).2.2.2.2.2.1 != (IntKind.wrap .i64 ((IntKind.wrap .i64 ((IntKind.wrap .i64 ((IntKind.wrap .i64 ((IntKind.wrap .i64 (x1 + 1)) + 1)) + 1)) + 1)) + 1))) then some (-1)
                  else bif ((decide (0 ≤ x0)) && (decide (x0 < (a0.length : Int)))) then bif ((List.getD a0 x0.toNat (0, (0, (0, (0, (0, (0, (0, (0, 0))))))))).2.2.2.2.2.2.1 != (IntKind.wrap .i64 ((IntKind.wrap .i64 ((IntKind.wrap .i64 ((IntKind.wrap .i64 ((IntKind.wrap .i64 ((IntKind.wrap .i64 (x1 + 1)) + 1)) + 1)) + 1)) + 1)) + 1))) then some (-1)
                    else bif ((decide (0 ≤ x0)) && (decide (x0 < (a0.length : Int)))) then bif ((List.getD a0 x0.toNat (0, (0, (0, (0, (0, (0, (0, (0, 0))))))))).2.2.2.2.2.2.2.1 != (IntKind.wrap .i64 ((IntKind.wrap .i64 ((IntKind.wrap .i64 ((IntKind.wrap .i64 ((IntKind.wrap .i64 ((IntKind.wrap .i64 ((IntKind.wrap .i64 (x1 + 1)) + 1)) + 1)) + 1)) + 1)) + 1)) + 1))) then some (-1)
                      else bif ((decide (0 ≤ x0)) && (decide (x0 < (a0.length : Int)))) then bif ((List.getD a0 x0.toNat (0, (0, (0, (0, (0, (0, (0, (0, 0))))))))).2.2.2.2.2.2.2.2 != (IntKind.wrap .i64 ((IntKind.wrap .i64 ((IntKind.wrap .i64 ((IntKind.wrap .i64 ((IntKind.wrap .i64 ((IntKind.wrap .i64 ((IntKind.wrap .i64 ((IntKind.wrap .i64 (x1 + 1)) + 1)) + 1)) + 1)) + 1)) + 1)) + 1)) + 1))) then some (-1)
                        else l109_0 L a0 a1 n (IntKind.wrap .i64 ((IntKind.wrap .i64 ((IntKind.wrap .i64 ((IntKind.wrap .i64 ((IntKind.wrap .i64 ((IntKind.wrap .i64 ((IntKind.wrap .i64 ((IntKind.wrap .i64 ((IntKind.wrap .i64 (x1 + 1)) + 1)) + 1)) + 1)) + 1)) + 1)) + 1)) + 1)) + 1)) (IntKind.wrap .i64 (x0 + 1)) k
                      else none
                    else none
                  else none
                else none
              else none
            else none
          else none
        else none
      else none
    else k x1
theorem h109_0 (L : Nat) (a0 : (List E9)) (a1 : Int) (k : St cxT.ty → Option (V cxT.ty)) (xk : Nat → St cxT.ty → Option (V cxT.ty)) (k' : Int → Option Int) (hk : ∀ (x2 : Int), k (X109_0 a0 a1 x2) = (k' x2).map n109) : ∀ (n : Nat) (x0 x1 : Int), headF prog ev109 L f109 0 [1, 0, 1, 0, 0] (outK (outV prog f109) k xk) n (S109_0 a0 a1 x0 x1) = (l109_0 L a0 a1 n x0 x1 k').map n109
  | 0, _, _ => rfl
  | n + 1, x0, x1 => by
    rw [headF_round, r109_0]
    have ih := h109_0 L a0 a1 k xk k' hk n
    simp only [l109_0, map_bif, map_tst, map_bnd, Option.map_some, Option.map_none, ih, hk]
def g109 (L : Nat) (a0 : (List E9)) (a1 : Int) : Option Int :=
  l109_0 L a0 a1 L a1 0 (fun (x0 : Int) => some x0)
theorem e109 (L : Nat) (a0 : (List E9)) (a1 : Int) : evF prog ev109 (loopN L) f109 (a109.enc (a0, a1)) = (g109 L a0 a1).map n109 := by
  let K'0 : Int → Option Int := (fun (x2 : Int) => some x2)
  have hin0 : ∀ (x0 x1 : Int), headF prog ev109 L f109 0 [1, 0, 1, 0, 0] (outK (outV prog f109) (topK prog ev109 L f109 [1, 0, 1] (outV prog f109)).n (topK prog ev109 L f109 [1, 0, 1] (outV prog f109)).x) L (S109_0 a0 a1 x0 x1) = (l109_0 L a0 a1 L x0 x1 K'0).map n109 := fun x0 x1 => h109_0 L a0 a1 _ _ K'0 (fun x2 => by rw [t109_0]; simp only [K'0, map_bif, map_tst, map_bnd, Option.map_some, Option.map_none]) L x0 x1
  rw [i109]; simp only [g109, map_bif, map_tst, map_bnd, Option.map_some, Option.map_none, hin0, K'0]
theorem s109 (m : ((List E9) × Int) → Option Int) (hm : ∀ (x : ((List E9) × Int)) t, m x = some t → ∃ L, g109 L x.1 x.2 = some t) : Sat prog cxT 109 (c109 m) :=
  sat_t cxT_ok cxT_pok (by rfl) (fn := f109) rfl a109 n109 dd109 m ev109 kok_nil kwok_nil (fun L x => g109 L x.1 x.2) (fun L x => e109 L x.1 x.2) hm hs109
end Go.Proofs.Tryz
