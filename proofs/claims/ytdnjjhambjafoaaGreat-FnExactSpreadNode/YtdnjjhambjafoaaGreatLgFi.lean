/- A part of the proof of FnExactSpreadNode: LgFi, LgFj. -/
import Derived.Test.YtdnjjhambjafoaaGreatLgBase
set_option linter.unusedVariables false
set_option maxHeartbeats 0
set_option maxRecDepth 100000
set_option linter.unusedSimpArgs false
namespace Go.Proofs.Tryz
open Go Go.VM Go.RowKit
def ev42 (m94 : (Int × Int × Int) → Option Bool) (m95 : (N10 × Int) → Option Bool) (m96 : (List E9) → Option Int) (m66 : (List E9) → Option E9) (m97 : N10 → Option Bool) : Env cxT := { Kc := kcOf [(94, c94 m94), (95, c95 m95), (96, c96 m96), (66, c66 m66), (97, c97 m97)], Kw := kwOf [], lv := fun i => if i = 0 then [(0, [none, none, none, none, some 57, none, none, some 2, some 2, some 2]), (4, []), (5, [])] else [], xv := fun i => if i = 0 then some [(0, [none, none, none, none, some 57, none, none, some 2, some 2, some 2])] else none }
def S42_0 (a0 : N10) (x0 : Int) : St cxT.ty := { slots := [(.inr (.inr { kind := 2, nm := 0, cells := [], s := { own := 0, nm := 0, e := 30, o := false, xs := (List.cons a0 []) }, i := 0, off := 0 })), junk, junk, junk, (.inl (.inl (lv (.int .i64 ((List.length a0.2.2.2.2.1) : Int))))), (.inl (.inl (lv (.int .i64 x0))))] ++ List.replicate 133 junk, D := [], F := [], ctr := 1 }
def X42_0 (a0 : N10) : St cxT.ty := { slots := [(.inr (.inr { kind := 2, nm := 0, cells := [], s := { own := 0, nm := 0, e := 30, o := false, xs := (List.cons a0 []) }, i := 0, off := 0 }))] ++ List.replicate 138 junk, D := [], F := [], ctr := 1 }
theorem i42 (m94 : (Int × Int × Int) → Option Bool) (m95 : (N10 × Int) → Option Bool) (m96 : (List E9) → Option Int) (m66 : (List E9) → Option E9) (m97 : N10 → Option Bool) (L : Nat) (a0 : N10) : evF prog (ev42 m94 m95 m96 m66 m97) (loopN L) f42 (a42.enc a0) =
  tst (m94 (a0.2.1, (1, 5))) false fun (q1 : Bool) => bif (!q1) then some (n42 3)
    else tst (m95 (a0, a0.1)) false fun (q2 : Bool) => bif (!q2) then some (n42 3)
      else tst (m94 (a0.2.2.1, (0, 100000))) false fun (q3 : Bool) => bif (!q3) then some (n42 3)
        else tst (m94 (a0.2.2.2.1, ((-1), (IntKind.wrap .i64 (a0.2.1 - 1))))) false fun (q4 : Bool) => bif (!q4) then some (n42 3)
          else tst (m94 (a0.2.2.2.2.2.1, (0, 2))) false fun (q5 : Bool) => bif (!q5) then some (n42 3)
            else tst (m96 a0.2.2.2.2.1) 0 fun (q6 : Int) => bif (q6 != 0) then some (n42 q6)
              else tst (m66 a0.2.2.2.2.1) (0, 0, 0, 0, 0, 0, 0, 0, 0) fun (q7 : E9) => bif (decide (q7.1 > a0.2.2.1)) then some (n42 1)
                else tst (m94 (a0.2.2.2.2.2.2.1, (0, ((List.length a0.2.2.2.2.1) : Int)))) false fun (q8 : Bool) => bif (!q8) then some (n42 3)
                  else tst (m97 a0) false fun (q9 : Bool) => bif (!q9) then some (n42 1)
                    else headF prog (ev42 m94 m95 m96 m66 m97) L f42 0 [1, 1, 1, 1, 1, 1, 1, 0, 1, 0, 0] (outK (outV prog f42) (topK prog (ev42 m94 m95 m96 m66 m97) L f42 [1, 1, 1, 1, 1, 1, 1, 0, 1] (outV prog f42)).n (topK prog (ev42 m94 m95 m96 m66 m97) L f42 [1, 1, 1, 1, 1, 1, 1, 0, 1] (outV prog f42)).x) L (S42_0 a0 0) := by kernel_rfl
theorem r42_0 (m94 : (Int × Int × Int) → Option Bool) (m95 : (N10 × Int) → Option Bool) (m96 : (List E9) → Option Int) (m66 : (List E9) → Option E9) (m97 : N10 → Option Bool) (L : Nat) (a0 : N10) (k : St cxT.ty → Option (V cxT.ty)) (xk : Nat → St cxT.ty → Option (V cxT.ty)) (g : St cxT.ty → Option (V cxT.ty)) (x0 : Int) : roundF prog (ev42 m94 m95 m96 m66 m97) L f42 0 [1, 1, 1, 1, 1, 1, 1, 0, 1, 0, 0] (outK (outV prog f42) k xk) g (S42_0 a0 x0) =
  bif (decide (x0 < ((List.length a0.2.2.2.2.2.2.2.2.1) : Int))) then bif ((decide (0 ≤ x0)) && (decide (x0 < ((List.length a0.2.2.2.2.2.2.2.2.1) : Int)))) then tst (m94 ((List.getD a0.2.2.2.2.2.2.2.2.1 x0.toNat 0), (1, (IntKind.wrap .i64 (((List.length a0.2.2.2.2.1) : Int) + 1))))) false fun (q3 : Bool) => bif (!q3) then some (n42 3)
        else bif ((decide (0 ≤ x0)) && (decide (x0 < ((List.length a0.2.2.2.2.2.2.2.2.2) : Int)))) then tst (m94 ((List.getD a0.2.2.2.2.2.2.2.2.2 x0.toNat 0), (0, ((List.length a0.2.2.2.2.1) : Int)))) false fun (q5 : Bool) => bif (!q5) then some (n42 3)
            else g (S42_0 a0 (IntKind.wrap .i64 (x0 + 1)))
        else none
    else none
  else k (X42_0 a0) := by kernel_rfl
theorem t42_0 (m94 : (Int × Int × Int) → Option Bool) (m95 : (N10 × Int) → Option Bool) (m96 : (List E9) → Option Int) (m66 : (List E9) → Option E9) (m97 : N10 → Option Bool) (L : Nat) (a0 : N10) : (topK prog (ev42 m94 m95 m96 m66 m97) L f42 [1, 1, 1, 1, 1, 1, 1, 0, 1] (outV prog f42)).n (X42_0 a0) =
  bif (a0.2.2.2.2.2.1 != 0) then bif (a0.2.2.2.1 != a0.1) then some (n42 1)
    else bif (a0.2.2.1 == 0) then some (n42 1)
    else some (n42 0)
  else some (n42 0) := by kernel_rfl
def l42_0 (m94 : (Int × Int × Int) → Option Bool) (m95 : (N10 × Int) → Option Bool) (m96 : (List E9) → Option Int) (m66 : (List E9) → Option E9) (m97 : N10 → Option Bool) (L : Nat) (a0 : N10) : Nat → Int → (Option Int) → Option Int
  | 0, _, _ => none
  | n + 1, x0, k =>
    bif (decide (x0 < ((List.length a0.2.2.2.2.2.2.2.2.1) : Int))) then bif ((decide (0 ≤ x0)) && (decide (x0 < ((List.length a0.2.2.2.2.2.2.2.2.1) : Int)))) then tst (m94 ((List.getD a0.2.2.2.2.2.2.2.2.1 x0.toNat 0), (1, (IntKind.wrap .i64 (((List.length a0.2.2.2.2.1) : Int) + 1))))) false fun (q4 : Bool) => bif (!q4) then some 3
          else bif ((decide (0 ≤ x0)) && (decide (x0 < ((List.length a0.2.2.2.2.2.2.2.2.2) : Int)))) then tst (m94 ((List.getD a0.2.2.2.2.2.2.2.2.2 x0.toNat 0), (0, ((List.length a0.2.2.2.2.1) : Int)))) false fun (q6 : Bool) => bif (!q6) then some 3
              else l42_0 m94 m95 m96 m66 m97 L a0 n (IntKind.wrap .i64 (x0 + 1)) k
          else none
      else none
    else k
theorem h42_0 (m94 : (Int × Int × Int) → Option Bool) (m95 : (N10 × Int) → Option Bool) (m96 : (List E9) → Option Int) (m66 : (List E9) → Option E9) (m97 : N10 → Option Bool) (L : Nat) (a0 : N10) (k : St cxT.ty → Option (V cxT.ty)) (xk : Nat → St cxT.ty → Option (V cxT.ty)) (k' : Option Int) (hk : k (X42_0 a0) = (k').map n42) : ∀ (n : Nat) (x0 : Int), headF prog (ev42 m94 m95 m96 m66 m97) L f42 0 [1, 1, 1, 1, 1, 1, 1, 0, 1, 0, 0] (outK (outV prog f42) k xk) n (S42_0 a0 x0) = (l42_0 m94 m95 m96 m66 m97 L a0 n x0 k').map n42
  | 0, _ => rfl
  | n + 1, x0 => by
    rw [headF_round, r42_0]
    have ih := h42_0 m94 m95 m96 m66 m97 L a0 k xk k' hk n
    simp only [l42_0, map_bif, map_tst, map_bnd, Option.map_some, Option.map_none, ih, hk]
def g42 (m94 : (Int × Int × Int) → Option Bool) (m95 : (N10 × Int) → Option Bool) (m96 : (List E9) → Option Int) (m66 : (List E9) → Option E9) (m97 : N10 → Option Bool) (L : Nat) (a0 : N10) : Option Int :=
  tst (m94 (a0.2.1, (1, 5))) false fun (q1 : Bool) => bif (!q1) then some 3
    else tst (m95 (a0, a0.1)) false fun (q2 : Bool) => bif (!q2) then some 3
      else tst (m94 (a0.2.2.1, (0, 100000))) false fun (q3 : Bool) => bif (!q3) then some 3
        else tst (m94 (a0.2.2.2.1, ((-1), (IntKind.wrap .i64 (a0.2.1 - 1))))) false fun (q4 : Bool) => bif (!q4) then some 3
          else tst (m94 (a0.2.2.2.2.2.1, (0, 2))) false fun (q5 : Bool) => bif (!q5) then some 3
            else tst (m96 a0.2.2.2.2.1) 0 fun (q6 : Int) => bif (q6 != 0) then some q6
              else tst (m66 a0.2.2.2.2.1) (0, 0, 0, 0, 0, 0, 0, 0, 0) fun (q7 : E9) => bif (decide (q7.1 > a0.2.2.1)) then some 1
                else tst (m94 (a0.2.2.2.2.2.2.1, (0, ((List.length a0.2.2.2.2.1) : Int)))) false fun (q8 : Bool) => bif (!q8) then some 3
                  else tst (m97 a0) false fun (q9 : Bool) => bif (!q9) then some 1
                    else l42_0 m94 m95 m96 m66 m97 L a0 L 0 (bif (a0.2.2.2.2.2.1 != 0) then bif (a0.2.2.2.1 != a0.1) then some 1
                        else bif (a0.2.2.1 == 0) then some 1
                        else some 0
                      else some 0)
theorem e42 (m94 : (Int × Int × Int) → Option Bool) (m95 : (N10 × Int) → Option Bool) (m96 : (List E9) → Option Int) (m66 : (List E9) → Option E9) (m97 : N10 → Option Bool) (L : Nat) (a0 : N10) : evF prog (ev42 m94 m95 m96 m66 m97) (loopN L) f42 (a42.enc a0) = (g42 m94 m95 m96 m66 m97 L a0).map n42 := by
  let K'0 : Option Int := (bif (a0.2.2.2.2.2.1 != 0) then bif (a0.2.2.2.1 != a0.1) then some 1
        else bif (a0.2.2.1 == 0) then some 1
        else some 0
      else some 0)
  have hin0 : ∀ (x0 : Int), headF prog (ev42 m94 m95 m96 m66 m97) L f42 0 [1, 1, 1, 1, 1, 1, 1, 0, 1, 0, 0] (outK (outV prog f42) (topK prog (ev42 m94 m95 m96 m66 m97) L f42 [1, 1, 1, 1, 1, 1, 1, 0, 1] (outV prog f42)).n (topK prog (ev42 m94 m95 m96 m66 m97) L f42 [1, 1, 1, 1, 1, 1, 1, 0, 1] (outV prog f42)).x) L (S42_0 a0 x0) = (l42_0 m94 m95 m96 m66 m97 L a0 L x0 K'0).map n42 := fun x0 => h42_0 m94 m95 m96 m66 m97 L a0 _ _ K'0 (by rw [t42_0]; simp only [K'0, map_bif, map_tst, map_bnd, Option.map_some, Option.map_none]) L x0
  rw [i42]; simp only [g42, map_bif, map_tst, map_bnd, Option.map_some, Option.map_none, hin0, K'0]
theorem s42 (m94 : (Int × Int × Int) → Option Bool) (m95 : (N10 × Int) → Option Bool) (m96 : (List E9) → Option Int) (m66 : (List E9) → Option E9) (m97 : N10 → Option Bool) (h94 : Sat prog cxT 94 (c94 m94)) (h95 : Sat prog cxT 95 (c95 m95)) (h96 : Sat prog cxT 96 (c96 m96)) (h66 : Sat prog cxT 66 (c66 m66)) (h97 : Sat prog cxT 97 (c97 m97)) (m : N10 → Option Int) (hm : ∀ (x : N10) t, m x = some t → ∃ L, g42 m94 m95 m96 m66 m97 L x = some t) : Sat prog cxT 42 (c42 m) :=
  sat_t cxT_ok cxT_pok (by rfl) (fn := f42) rfl a42 n42 dd42 m (ev42 m94 m95 m96 m66 m97) (kok_cons h94 (kok_cons h95 (kok_cons h96 (kok_cons h66 (kok_cons h97 kok_nil))))) kwok_nil (fun L x => g42 m94 m95 m96 m66 m97 L x) (fun L x => e42 m94 m95 m96 m66 m97 L x) hm hs42
def ev97 (m128 : (List Int) → Option Bool) (m95 : (N10 × Int) → Option Bool) : Env cxT := { Kc := kcOf [(128, c128 m128), (95, c95 m95)], Kw := kwOf [], lv := fun i => if i = 0 then [(0, [none, none, none, none, some 57, none, none, some 2, some 2, some 2]), (3, [])] else [], xv := fun i => if i = 0 then some [(0, [none, none, none, none, some 57, none, none, some 2, some 2, some 2])] else none }
def S97_0 (a0 : N10) (x0 : Int) : St cxT.ty := { slots := [(.inr (.inr { kind := 2, nm := 0, cells := [], s := { own := 0, nm := 0, e := 30, o := false, xs := (List.cons a0 []) }, i := 0, off := 0 })), junk, junk, (.inl (.inl (lv (.int .i64 x0))))] ++ List.replicate 66 junk, D := [], F := [], ctr := 1 }
def X97_0 (a0 : N10) : St cxT.ty := { slots := [(.inr (.inr { kind := 2, nm := 0, cells := [], s := { own := 0, nm := 0, e := 30, o := false, xs := (List.cons a0 []) }, i := 0, off := 0 }))] ++ List.replicate 69 junk, D := [], F := [], ctr := 1 }
theorem i97 (m128 : (List Int) → Option Bool) (m95 : (N10 × Int) → Option Bool) (L : Nat) (a0 : N10) : evF prog (ev97 m128 m95) (loopN L) f97 (a97.enc a0) =
  tst (m128 a0.2.2.2.2.2.2.2.1) false fun (q1 : Bool) => bif (!q1) then some (n97 false)
    else bif (decide (((List.length a0.2.2.2.2.2.2.2.1) : Int) > 0)) then bif (a0.2.2.2.2.2.1 != 1) then some (n97 false)
      else headF prog (ev97 m128 m95) L f97 0 [1, 1, 0, 1, 0, 0] (outK (outV prog f97) (topK prog (ev97 m128 m95) L f97 [1, 1, 0, 1] (outV prog f97)).n (topK prog (ev97 m128 m95) L f97 [1, 1, 0, 1] (outV prog f97)).x) L (S97_0 a0 0)
    else headF prog (ev97 m128 m95) L f97 0 [1, 1, 0, 1, 0, 0] (outK (outV prog f97) (topK prog (ev97 m128 m95) L f97 [1, 1, 0, 1] (outV prog f97)).n (topK prog (ev97 m128 m95) L f97 [1, 1, 0, 1] (outV prog f97)).x) L (S97_0 a0 0) := by kernel_rfl
theorem r97_0 (m128 : (List Int) → Option Bool) (m95 : (N10 × Int) → Option Bool) (L : Nat) (a0 : N10) (k : St cxT.ty → Option (V cxT.ty)) (xk : Nat → St cxT.ty → Option (V cxT.ty)) (g : St cxT.ty → Option (V cxT.ty)) (x0 : Int) : roundF prog (ev97 m128 m95) L f97 0 [1, 1, 0, 1, 0, 0] (outK (outV prog f97) k xk) g (S97_0 a0 x0) =
  bif (decide (x0 < ((List.length a0.2.2.2.2.2.2.2.1) : Int))) then bif ((decide (0 ≤ x0)) && (decide (x0 < ((List.length a0.2.2.2.2.2.2.2.1) : Int)))) then tst (m95 (a0, (List.getD a0.2.2.2.2.2.2.2.1 x0.toNat 0))) false fun (q3 : Bool) => bif (!q3) then some (n97 false)
        else g (S97_0 a0 (IntKind.wrap .i64 (x0 + 1)))
    else none
  else k (X97_0 a0) := by kernel_rfl
theorem t97_0 (m128 : (List Int) → Option Bool) (m95 : (N10 × Int) → Option Bool) (L : Nat) (a0 : N10) : (topK prog (ev97 m128 m95) L f97 [1, 1, 0, 1] (outV prog f97)).n (X97_0 a0) =
  bif (a0.2.2.2.2.2.1 == 2) then bif (((List.length a0.2.2.2.2.2.2.2.2.1) : Int) == a0.2.1) then some (n97 (((List.length a0.2.2.2.2.2.2.2.2.2) : Int) == a0.2.1))
    else some (n97 false)
  else bif (((List.length a0.2.2.2.2.2.2.2.2.1) : Int) == 0) then some (n97 (((List.length a0.2.2.2.2.2.2.2.2.2) : Int) == 0))
  else some (n97 false) := by kernel_rfl
def l97_0 (m128 : (List Int) → Option Bool) (m95 : (N10 × Int) → Option Bool) (L : Nat) (a0 : N10) : Nat → Int → (Option Bool) → Option Bool
  | 0, _, _ => none
  | n + 1, x0, k =>
    bif (decide (x0 < ((List.length a0.2.2.2.2.2.2.2.1) : Int))) then bif ((decide (0 ≤ x0)) && (decide (x0 < ((List.length a0.2.2.2.2.2.2.2.1) : Int)))) then tst (m95 (a0, (List.getD a0.2.2.2.2.2.2.2.1 x0.toNat 0))) false fun (q4 : Bool) => bif (!q4) then some false
          else l97_0 m128 m95 L a0 n (IntKind.wrap .i64 (x0 + 1)) k
      else none
    else k
theorem h97_0 (m128 : (List Int) → Option Bool) (m95 : (N10 × Int) → Option Bool) (L : Nat) (a0 : N10) (k : St cxT.ty → Option (V cxT.ty)) (xk : Nat → St cxT.ty → Option (V cxT.ty)) (k' : Option Bool) (hk : k (X97_0 a0) = (k').map n97) : ∀ (n : Nat) (x0 : Int), headF prog (ev97 m128 m95) L f97 0 [1, 1, 0, 1, 0, 0] (outK (outV prog f97) k xk) n (S97_0 a0 x0) = (l97_0 m128 m95 L a0 n x0 k').map n97
  | 0, _ => rfl
  | n + 1, x0 => by
    rw [headF_round, r97_0]
    have ih := h97_0 m128 m95 L a0 k xk k' hk n
    simp only [l97_0, map_bif, map_tst, map_bnd, Option.map_some, Option.map_none, ih, hk]
def g97 (m128 : (List Int) → Option Bool) (m95 : (N10 × Int) → Option Bool) (L : Nat) (a0 : N10) : Option Bool :=
  tst (m128 a0.2.2.2.2.2.2.2.1) false fun (q1 : Bool) => bif (!q1) then some false
    else bif (decide (((List.length a0.2.2.2.2.2.2.2.1) : Int) > 0)) then bif (a0.2.2.2.2.2.1 != 1) then some false
      else l97_0 m128 m95 L a0 L 0 (bif (a0.2.2.2.2.2.1 == 2) then bif (((List.length a0.2.2.2.2.2.2.2.2.1) : Int) == a0.2.1) then some (((List.length a0.2.2.2.2.2.2.2.2.2) : Int) == a0.2.1)
          else some false
        else bif (((List.length a0.2.2.2.2.2.2.2.2.1) : Int) == 0) then some (((List.length a0.2.2.2.2.2.2.2.2.2) : Int) == 0)
        else some false)
    else l97_0 m128 m95 L a0 L 0 (bif (a0.2.2.2.2.2.1 == 2) then bif (((List.length a0.2.2.2.2.2.2.2.2.1) : Int) == a0.2.1) then some (((List.length a0.2.2.2.2.2.2.2.2.2) : Int) == a0.2.1)
        else some false
      else bif (((List.length a0.2.2.2.2.2.2.2.2.1) : Int) == 0) then some (((List.length a0.2.2.2.2.2.2.2.2.2) : Int) == 0)
      else some false)
theorem e97 (m128 : (List Int) → Option Bool) (m95 : (N10 × Int) → Option Bool) (L : Nat) (a0 : N10) : evF prog (ev97 m128 m95) (loopN L) f97 (a97.enc a0) = (g97 m128 m95 L a0).map n97 := by
  let K'0 : Option Bool := (bif (a0.2.2.2.2.2.1 == 2) then bif (((List.length a0.2.2.2.2.2.2.2.2.1) : Int) == a0.2.1) then some (((List.length a0.2.2.2.2.2.2.2.2.2) : Int) == a0.2.1)
        else some false
      else bif (((List.length a0.2.2.2.2.2.2.2.2.1) : Int) == 0) then some (((List.length a0.2.2.2.2.2.2.2.2.2) : Int) == 0)
      else some false)
  have hin0 : ∀ (x0 : Int), headF prog (ev97 m128 m95) L f97 0 [1, 1, 0, 1, 0, 0] (outK (outV prog f97) (topK prog (ev97 m128 m95) L f97 [1, 1, 0, 1] (outV prog f97)).n (topK prog (ev97 m128 m95) L f97 [1, 1, 0, 1] (outV prog f97)).x) L (S97_0 a0 x0) = (l97_0 m128 m95 L a0 L x0 K'0).map n97 := fun x0 => h97_0 m128 m95 L a0 _ _ K'0 (by rw [t97_0]; simp only [K'0, map_bif, map_tst, map_bnd, Option.map_some, Option.map_none]) L x0
  rw [i97]; simp only [g97, map_bif, map_tst, map_bnd, Option.map_some, Option.map_none, hin0, K'0]
theorem s97 (m128 : (List Int) → Option Bool) (m95 : (N10 × Int) → Option Bool) (h128 : Sat prog cxT 128 (c128 m128)) (h95 : Sat prog cxT 95 (c95 m95)) (m : N10 → Option Bool) (hm : ∀ (x : N10) t, m x = some t → ∃ L, g97 m128 m95 L x = some t) : Sat prog cxT 97 (c97 m) :=
  sat_t cxT_ok cxT_pok (by rfl) (fn := f97) rfl a97 n97 dd97 m (ev97 m128 m95) (kok_cons h128 (kok_cons h95 kok_nil)) kwok_nil (fun L x => g97 m128 m95 L x) (fun L x => e97 m128 m95 L x) hm hs97
def ev95 (m94 : (Int × Int × Int) → Option Bool) : Env cxT := { Kc := kcOf [(94, c94 m94)], Kw := kwOf [], lv := fun i => [], xv := fun i => none }
theorem i95 (m94 : (Int × Int × Int) → Option Bool) (L : Nat) (a0 : N10) (a1 : Int) : evF prog (ev95 m94) (loopN L) f95 (a95.enc (a0, a1)) =
  tst (m94 (a1, (0, (IntKind.wrap .i64 (a0.2.1 - 1))))) false fun (q1 : Bool) => some (n95 q1) := by kernel_rfl
def g95 (m94 : (Int × Int × Int) → Option Bool) (L : Nat) (a0 : N10) (a1 : Int) : Option Bool :=
  tst (m94 (a1, (0, (IntKind.wrap .i64 (a0.2.1 - 1))))) false fun (q1 : Bool) => some q1
theorem e95 (m94 : (Int × Int × Int) → Option Bool) (L : Nat) (a0 : N10) (a1 : Int) : evF prog (ev95 m94) (loopN L) f95 (a95.enc (a0, a1)) = (g95 m94 L a0 a1).map n95 := by
  rw [i95]; simp only [g95, map_bif, map_tst, map_bnd, Option.map_some, Option.map_none]
theorem s95 (m94 : (Int × Int × Int) → Option Bool) (h94 : Sat prog cxT 94 (c94 m94)) (m : (N10 × Int) → Option Bool) (hm : ∀ (x : (N10 × Int)) t, m x = some t → ∃ L, g95 m94 L x.1 x.2 = some t) : Sat prog cxT 95 (c95 m) :=
  sat_t cxT_ok cxT_pok (by rfl) (fn := f95) rfl a95 n95 dd95 m (ev95 m94) (kok_cons h94 kok_nil) kwok_nil (fun L x => g95 m94 L x.1 x.2) (fun L x => e95 m94 L x.1 x.2) hm hs95
end Go.Proofs.Tryz

namespace Go.Proofs.Tryz
open Go Go.VM Go.RowKit
def ev52 : Env cxT := { Kc := kcOf [], Kw := kwOf [], lv := fun i => [], xv := fun i => none }
theorem i52 (L : Nat) (a0 a1 a2 : Int) : evF prog ev52 (loopN L) f52 (a52.enc (a0, a1, a2)) =
  bif (decide (a0 ≥ a1)) then some (n52 (decide (a0 ≤ a2)))
  else some (n52 false) := by kernel_rfl
def g52 (L : Nat) (a0 a1 a2 : Int) : Option Bool :=
  bif (decide (a0 ≥ a1)) then some (decide (a0 ≤ a2))
  else some false
theorem e52 (L : Nat) (a0 a1 a2 : Int) : evF prog ev52 (loopN L) f52 (a52.enc (a0, a1, a2)) = (g52 L a0 a1 a2).map n52 := by
  rw [i52]; simp only [g52, map_bif, map_tst, map_bnd, Option.map_some, Option.map_none]
theorem s52 (m : (Int × Int × Int) → Option Bool) (hm : ∀ (x : (Int × Int × Int)) t, m x = some t → ∃ L, g52 L x.1 x.2.1 x.2.2 = some t) : Sat prog cxT 52 (c52 m) :=
  sat_t cxT_ok cxT_pok (by rfl) (fn := f52) rfl a52 n52 dd52 m ev52 kok_nil kwok_nil (fun L x => g52 L x.1 x.2.1 x.2.2) (fun L x => e52 L x.1 x.2.1 x.2.2) hm hs52
def ev45 (m52 : (Int × Int × Int) → Option Bool) : Env cxT := { Kc := kcOf [(52, c52 m52)], Kw := kwOf [], lv := fun i => [], xv := fun i => none }
theorem i45 (m52 : (Int × Int × Int) → Option Bool) (L : Nat) (a0 : Int) : evF prog (ev45 m52) (loopN L) f45 (a45.enc a0) =
  tst (m52 (a0, (1, 5))) false fun (q1 : Bool) => some (n45 q1) := by kernel_rfl
def g45 (m52 : (Int × Int × Int) → Option Bool) (L : Nat) (a0 : Int) : Option Bool :=
  tst (m52 (a0, (1, 5))) false fun (q1 : Bool) => some q1
theorem e45 (m52 : (Int × Int × Int) → Option Bool) (L : Nat) (a0 : Int) : evF prog (ev45 m52) (loopN L) f45 (a45.enc a0) = (g45 m52 L a0).map n45 := by
  rw [i45]; simp only [g45, map_bif, map_tst, map_bnd, Option.map_some, Option.map_none]
theorem s45 (m52 : (Int × Int × Int) → Option Bool) (h52 : Sat prog cxT 52 (c52 m52)) (m : Int → Option Bool) (hm : ∀ (x : Int) t, m x = some t → ∃ L, g45 m52 L x = some t) : Sat prog cxT 45 (c45 m) :=
  sat_t cxT_ok cxT_pok (by rfl) (fn := f45) rfl a45 n45 dd45 m (ev45 m52) (kok_cons h52 kok_nil) kwok_nil (fun L x => g45 m52 L x) (fun L x => e45 m52 L x) hm hs45
def ev46 : Env cxT := { Kc := kcOf [], Kw := kwOf [], lv := fun i => [], xv := fun i => none }
theorem i46 (L : Nat) (a0 a1 : Int) : evF prog ev46 (loopN L) f46 (a46.enc (a0, a1)) =
  bif (decide (a0 ≥ 0)) then some (n46 (decide (a0 < a1)))
  else some (n46 false) := by kernel_rfl
def g46 (L : Nat) (a0 a1 : Int) : Option Bool :=
  bif (decide (a0 ≥ 0)) then some (decide (a0 < a1))
  else some false
theorem e46 (L : Nat) (a0 a1 : Int) : evF prog ev46 (loopN L) f46 (a46.enc (a0, a1)) = (g46 L a0 a1).map n46 := by
  rw [i46]; simp only [g46, map_bif, map_tst, map_bnd, Option.map_some, Option.map_none]
theorem s46 (m : (Int × Int) → Option Bool) (hm : ∀ (x : (Int × Int)) t, m x = some t → ∃ L, g46 L x.1 x.2 = some t) : Sat prog cxT 46 (c46 m) :=
  sat_t cxT_ok cxT_pok (by rfl) (fn := f46) rfl a46 n46 dd46 m ev46 kok_nil kwok_nil (fun L x => g46 L x.1 x.2) (fun L x => e46 L x.1 x.2) hm hs46
def ev47 (m60 : Int → Option Bool) : Env cxT := { Kc := kcOf [(60, c60 m60)], Kw := kwOf [], lv := fun i => [], xv := fun i => none }
theorem i47 (m60 : Int → Option Bool) (L : Nat) (a0 : Int) : evF prog (ev47 m60) (loopN L) f47 (a47.enc a0) =
  bif (a0 == 0) then some (n47 true)
  else tst (m60 a0) false fun (q1 : Bool) => some (n47 q1) := by kernel_rfl
def g47 (m60 : Int → Option Bool) (L : Nat) (a0 : Int) : Option Bool :=
  bif (a0 == 0) then some true
  else tst (m60 a0) false fun (q1 : Bool) => some q1
theorem e47 (m60 : Int → Option Bool) (L : Nat) (a0 : Int) : evF prog (ev47 m60) (loopN L) f47 (a47.enc a0) = (g47 m60 L a0).map n47 := by
  rw [i47]; simp only [g47, map_bif, map_tst, map_bnd, Option.map_some, Option.map_none]
theorem s47 (m60 : Int → Option Bool) (h60 : Sat prog cxT 60 (c60 m60)) (m : Int → Option Bool) (hm : ∀ (x : Int) t, m x = some t → ∃ L, g47 m60 L x = some t) : Sat prog cxT 47 (c47 m) :=
  sat_t cxT_ok cxT_pok (by rfl) (fn := f47) rfl a47 n47 dd47 m (ev47 m60) (kok_cons h60 kok_nil) kwok_nil (fun L x => g47 m60 L x) (fun L x => e47 m60 L x) hm hs47
def ev48 (m46 : (Int × Int) → Option Bool) : Env cxT := { Kc := kcOf [(46, c46 m46)], Kw := kwOf [], lv := fun i => [], xv := fun i => none }
theorem i48 (m46 : (Int × Int) → Option Bool) (L : Nat) (a0 a1 : Int) : evF prog (ev48 m46) (loopN L) f48 (a48.enc (a0, a1)) =
  bif (a0 == (-1)) then some (n48 true)
  else tst (m46 (a0, a1)) false fun (q1 : Bool) => some (n48 q1) := by kernel_rfl
def g48 (m46 : (Int × Int) → Option Bool) (L : Nat) (a0 a1 : Int) : Option Bool :=
  bif (a0 == (-1)) then some true
  else tst (m46 (a0, a1)) false fun (q1 : Bool) => some q1
theorem e48 (m46 : (Int × Int) → Option Bool) (L : Nat) (a0 a1 : Int) : evF prog (ev48 m46) (loopN L) f48 (a48.enc (a0, a1)) = (g48 m46 L a0 a1).map n48 := by
  rw [i48]; simp only [g48, map_bif, map_tst, map_bnd, Option.map_some, Option.map_none]
theorem s48 (m46 : (Int × Int) → Option Bool) (h46 : Sat prog cxT 46 (c46 m46)) (m : (Int × Int) → Option Bool) (hm : ∀ (x : (Int × Int)) t, m x = some t → ∃ L, g48 m46 L x.1 x.2 = some t) : Sat prog cxT 48 (c48 m) :=
  sat_t cxT_ok cxT_pok (by rfl) (fn := f48) rfl a48 n48 dd48 m (ev48 m46) (kok_cons h46 kok_nil) kwok_nil (fun L x => g48 m46 L x.1 x.2) (fun L x => e48 m46 L x.1 x.2) hm hs48
def ev49 (m52 : (Int × Int × Int) → Option Bool) : Env cxT := { Kc := kcOf [(52, c52 m52)], Kw := kwOf [], lv := fun i => [], xv := fun i => none }
theorem i49 (m52 : (Int × Int × Int) → Option Bool) (L : Nat) (a0 : Int) : evF prog (ev49 m52) (loopN L) f49 (a49.enc a0) =
  tst (m52 (a0, (0, 2))) false fun (q1 : Bool) => some (n49 q1) := by kernel_rfl
def g49 (m52 : (Int × Int × Int) → Option Bool) (L : Nat) (a0 : Int) : Option Bool :=
  tst (m52 (a0, (0, 2))) false fun (q1 : Bool) => some q1
theorem e49 (m52 : (Int × Int × Int) → Option Bool) (L : Nat) (a0 : Int) : evF prog (ev49 m52) (loopN L) f49 (a49.enc a0) = (g49 m52 L a0).map n49 := by
  rw [i49]; simp only [g49, map_bif, map_tst, map_bnd, Option.map_some, Option.map_none]
theorem s49 (m52 : (Int × Int × Int) → Option Bool) (h52 : Sat prog cxT 52 (c52 m52)) (m : Int → Option Bool) (hm : ∀ (x : Int) t, m x = some t → ∃ L, g49 m52 L x = some t) : Sat prog cxT 49 (c49 m) :=
  sat_t cxT_ok cxT_pok (by rfl) (fn := f49) rfl a49 n49 dd49 m (ev49 m52) (kok_cons h52 kok_nil) kwok_nil (fun L x => g49 m52 L x) (fun L x => e49 m52 L x) hm hs49
def ev53 (m99 : (List E9) → Option Int) : Env cxT := { Kc := kcOf [(99, c99 m99)], Kw := kwOf [], lv := fun i => [], xv := fun i => none }
theorem i53 (m99 : (List E9) → Option Int) (L : Nat) (a0 : N10) : evF prog (ev53 m99) (loopN L) f53 (a53.enc a0) =
  tst (m99 a0.2.2.2.2.1) 0 fun (q1 : Int) => some (n53 q1) := by kernel_rfl
def g53 (m99 : (List E9) → Option Int) (L : Nat) (a0 : N10) : Option Int :=
  tst (m99 a0.2.2.2.2.1) 0 fun (q1 : Int) => some q1
theorem e53 (m99 : (List E9) → Option Int) (L : Nat) (a0 : N10) : evF prog (ev53 m99) (loopN L) f53 (a53.enc a0) = (g53 m99 L a0).map n53 := by
  rw [i53]; simp only [g53, map_bif, map_tst, map_bnd, Option.map_some, Option.map_none]
theorem s53 (m99 : (List E9) → Option Int) (h99 : Sat prog cxT 99 (c99 m99)) (m : N10 → Option Int) (hm : ∀ (x : N10) t, m x = some t → ∃ L, g53 m99 L x = some t) : Sat prog cxT 53 (c53 m) :=
  sat_t cxT_ok cxT_pok (by rfl) (fn := f53) rfl a53 n53 dd53 m (ev53 m99) (kok_cons h99 kok_nil) kwok_nil (fun L x => g53 m99 L x) (fun L x => e53 m99 L x) hm hs53
def ev54 (m46 : (Int × Int) → Option Bool) : Env cxT := { Kc := kcOf [(46, c46 m46)], Kw := kwOf [], lv := fun i => if i = 0 then [(0, [none, none, none, none, some 57, none, none, some 2, some 2, some 2]), (3, []), (22, [some 2]), (23, []), (24, [])] else [], xv := fun i => if i = 0 then some [] else none }
def S54_0 (a0 : N10) (x0 x1 : Int) : St cxT.ty := { slots := [(.inr (.inr { kind := 2, nm := 0, cells := [], s := { own := 0, nm := 0, e := 30, o := false, xs := (List.cons a0 []) }, i := 0, off := 0 })), junk, junk, (.inl (.inl (lv (.int .i64 x0)))), junk, junk, junk, junk, junk, junk, junk, junk, junk, junk, junk, junk, junk, junk, junk, junk, junk, junk, (.inl (.inl (ls { own := 0, nm := 0, e := 2, o := false, xs := a0.2.2.2.2.2.2.2.1 }))), (.inl (.inl (lv (.int .i64 ((List.length a0.2.2.2.2.2.2.2.1) : Int))))), (.inl (.inl (lv (.int .i64 x1))))] ++ List.replicate 17 junk, D := [], F := [], ctr := 1 }
def X54_0 (a0 : N10) : St cxT.ty := { slots := [] ++ List.replicate 42 junk, D := [], F := [], ctr := 1 }
theorem i54 (m46 : (Int × Int) → Option Bool) (L : Nat) (a0 : N10) : evF prog (ev54 m46) (loopN L) f54 (a54.enc a0) =
  bif (a0.2.2.2.2.2.1 != 1) then bif (decide (((List.length a0.2.2.2.2.2.2.2.1) : Int) > 0)) then some (n54 false)
    else headF prog (ev54 m46) L f54 0 [1, 1, 1, 0, 1, 0, 0] (outK (outV prog f54) (topK prog (ev54 m46) L f54 [1, 1, 1, 0, 1] (outV prog f54)).n (topK prog (ev54 m46) L f54 [1, 1, 1, 0, 1] (outV prog f54)).x) L (S54_0 a0 (-1) 0)
  else headF prog (ev54 m46) L f54 0 [1, 1, 1, 0, 1, 0, 0] (outK (outV prog f54) (topK prog (ev54 m46) L f54 [1, 1, 1, 0, 1] (outV prog f54)).n (topK prog (ev54 m46) L f54 [1, 1, 1, 0, 1] (outV prog f54)).x) L (S54_0 a0 (-1) 0) := by kernel_rfl
theorem r54_0 (m46 : (Int × Int) → Option Bool) (L : Nat) (a0 : N10) (k : St cxT.ty → Option (V cxT.ty)) (xk : Nat → St cxT.ty → Option (V cxT.ty)) (g : St cxT.ty → Option (V cxT.ty)) (x1 x0 : Int) : roundF prog (ev54 m46) L f54 0 [1, 1, 1, 0, 1, 0, 0] (outK (outV prog f54) k xk) g (S54_0 a0 x1 x0) =
  bif (decide (x0 < ((List.length a0.2.2.2.2.2.2.2.1) : Int))) then bif ((decide (0 ≤ x0)) && (decide (x0 < ((List.length a0.2.2.2.2.2.2.2.1) : Int)))) then tst (m46 ((List.getD a0.2.2.2.2.2.2.2.1 x0.toNat 0), a0.2.1)) false fun (q3 : Bool) => bif (!q3) then some (n54 false)
        else bif (decide ((List.getD a0.2.2.2.2.2.2.2.1 x0.toNat 0) ≤ x1)) then some (n54 false)
        else g (S54_0 a0 (List.getD a0.2.2.2.2.2.2.2.1 x0.toNat 0) (IntKind.wrap .i64 (x0 + 1)))
    else none
  else k (X54_0 a0) := by kernel_rfl
theorem t54_0 (m46 : (Int × Int) → Option Bool) (L : Nat) (a0 : N10) : (topK prog (ev54 m46) L f54 [1, 1, 1, 0, 1] (outV prog f54)).n (X54_0 a0) =
  some (n54 true) := by kernel_rfl
def l54_0 (m46 : (Int × Int) → Option Bool) (L : Nat) (a0 : N10) : Nat → Int → Int → (Option Bool) → Option Bool
  | 0, _, _, _ => none
  | n + 1, x1, x0, k =>
    bif (decide (x0 < ((List.length a0.2.2.2.2.2.2.2.1) : Int))) then bif ((decide (0 ≤ x0)) && (decide (x0 < ((List.length a0.2.2.2.2.2.2.2.1) : Int)))) then tst (m46 ((List.getD a0.2.2.2.2.2.2.2.1 x0.toNat 0), a0.2.1)) false fun (q4 : Bool) => bif (!q4) then some false
          else bif (decide ((List.getD a0.2.2.2.2.2.2.2.1 x0.toNat 0) ≤ x1)) then some false
          else l54_0 m46 L a0 n (List.getD a0.2.2.2.2.2.2.2.1 x0.toNat 0) (IntKind.wrap .i64 (x0 + 1)) k
      else none
    else k
theorem h54_0 (m46 : (Int × Int) → Option Bool) (L : Nat) (a0 : N10) (k : St cxT.ty → Option (V cxT.ty)) (xk : Nat → St cxT.ty → Option (V cxT.ty)) (k' : Option Bool) (hk : k (X54_0 a0) = (k').map n54) : ∀ (n : Nat) (x0 x1 : Int), headF prog (ev54 m46) L f54 0 [1, 1, 1, 0, 1, 0, 0] (outK (outV prog f54) k xk) n (S54_0 a0 x0 x1) = (l54_0 m46 L a0 n x0 x1 k').map n54
  | 0, _, _ => rfl
  | n + 1, x0, x1 => by
    rw [headF_round, r54_0]
    have ih := h54_0 m46 L a0 k xk k' hk n
    simp only [l54_0, map_bif, map_tst, map_bnd, Option.map_some, Option.map_none, ih, hk]
def g54 (m46 : (Int × Int) → Option Bool) (L : Nat) (a0 : N10) : Option Bool :=
  bif (a0.2.2.2.2.2.1 != 1) then bif (decide (((List.length a0.2.2.2.2.2.2.2.1) : Int) > 0)) then some false
    else l54_0 m46 L a0 L (-1) 0 (some true)
  else l54_0 m46 L a0 L (-1) 0 (some true)
theorem e54 (m46 : (Int × Int) → Option Bool) (L : Nat) (a0 : N10) : evF prog (ev54 m46) (loopN L) f54 (a54.enc a0) = (g54 m46 L a0).map n54 := by
  let K'0 : Option Bool := (some true)
  have hin0 : ∀ (x0 x1 : Int), headF prog (ev54 m46) L f54 0 [1, 1, 1, 0, 1, 0, 0] (outK (outV prog f54) (topK prog (ev54 m46) L f54 [1, 1, 1, 0, 1] (outV prog f54)).n (topK prog (ev54 m46) L f54 [1, 1, 1, 0, 1] (outV prog f54)).x) L (S54_0 a0 x0 x1) = (l54_0 m46 L a0 L x0 x1 K'0).map n54 := fun x0 x1 => h54_0 m46 L a0 _ _ K'0 (by rw [t54_0]; simp only [K'0, map_bif, map_tst, map_bnd, Option.map_some, Option.map_none]) L x0 x1
  rw [i54]; simp only [g54, map_bif, map_tst, map_bnd, Option.map_some, Option.map_none, hin0, K'0]
theorem s54 (m46 : (Int × Int) → Option Bool) (h46 : Sat prog cxT 46 (c46 m46)) (m : N10 → Option Bool) (hm : ∀ (x : N10) t, m x = some t → ∃ L, g54 m46 L x = some t) : Sat prog cxT 54 (c54 m) :=
  sat_t cxT_ok cxT_pok (by rfl) (fn := f54) rfl a54 n54 dd54 m (ev54 m46) (kok_cons h46 kok_nil) kwok_nil (fun L x => g54 m46 L x) (fun L x => e54 m46 L x) hm hs54
def ev55 : Env cxT := { Kc := kcOf [], Kw := kwOf [], lv := fun i => [], xv := fun i => none }
theorem i55 (L : Nat) (a0 : N10) : evF prog ev55 (loopN L) f55 (a55.enc a0) =
  bif (a0.2.2.2.2.2.1 != 2) then bif (((List.length a0.2.2.2.2.2.2.2.2.1) : Int) == 0) then some (n55 (((List.length a0.2.2.2.2.2.2.2.2.2) : Int) == 0))
    else some (n55 false)
  else bif (((List.length a0.2.2.2.2.2.2.2.2.1) : Int) == a0.2.1) then some (n55 (((List.length a0.2.2.2.2.2.2.2.2.2) : Int) == a0.2.1))
  else some (n55 false) := by kernel_rfl
def g55 (L : Nat) (a0 : N10) : Option Bool :=
  bif (a0.2.2.2.2.2.1 != 2) then bif (((List.length a0.2.2.2.2.2.2.2.2.1) : Int) == 0) then some (((List.length a0.2.2.2.2.2.2.2.2.2) : Int) == 0)
    else some false
  else bif (((List.length a0.2.2.2.2.2.2.2.2.1) : Int) == a0.2.1) then some (((List.length a0.2.2.2.2.2.2.2.2.2) : Int) == a0.2.1)
  else some false
theorem e55 (L : Nat) (a0 : N10) : evF prog ev55 (loopN L) f55 (a55.enc a0) = (g55 L a0).map n55 := by
  rw [i55]; simp only [g55, map_bif, map_tst, map_bnd, Option.map_some, Option.map_none]
theorem s55 (m : N10 → Option Bool) (hm : ∀ (x : N10) t, m x = some t → ∃ L, g55 L x = some t) : Sat prog cxT 55 (c55 m) :=
  sat_t cxT_ok cxT_pok (by rfl) (fn := f55) rfl a55 n55 dd55 m ev55 kok_nil kwok_nil (fun L x => g55 L x) (fun L x => e55 L x) hm hs55
def ev56 (m52 : (Int × Int × Int) → Option Bool) : Env cxT := { Kc := kcOf [(52, c52 m52)], Kw := kwOf [], lv := fun i => if i = 0 then [(1, []), (2, []), (9, [some 2]), (10, []), (11, [])] else [], xv := fun i => if i = 0 then some [] else none }
def S56_0 (a0 : (List Int)) (a1 a2 x0 : Int) : St cxT.ty := { slots := [junk, (.inl (.inl (lv (.int .i64 a1)))), (.inl (.inl (lv (.int .i64 a2)))), junk, junk, junk, junk, junk, junk, (.inl (.inl (ls { own := 0, nm := 0, e := 2, o := false, xs := a0 }))), (.inl (.inl (lv (.int .i64 (a0.length : Int))))), (.inl (.inl (lv (.int .i64 x0))))] ++ List.replicate 9 junk, D := [], F := [], ctr := 1 }
def X56_0 (a0 : (List Int)) (a1 a2 : Int) : St cxT.ty := { slots := [] ++ List.replicate 21 junk, D := [], F := [], ctr := 1 }
theorem i56 (m52 : (Int × Int × Int) → Option Bool) (L : Nat) (a0 : (List Int)) (a1 a2 : Int) : evF prog (ev56 m52) (loopN L) f56 (a56.enc (a0, a1, a2)) =
  headF prog (ev56 m52) L f56 0 [1, 0, 1, 0, 0] (outK (outV prog f56) (topK prog (ev56 m52) L f56 [1, 0, 1] (outV prog f56)).n (topK prog (ev56 m52) L f56 [1, 0, 1] (outV prog f56)).x) L (S56_0 a0 a1 a2 0) := by kernel_rfl
theorem r56_0 (m52 : (Int × Int × Int) → Option Bool) (L : Nat) (a0 : (List Int)) (a1 a2 : Int) (k : St cxT.ty → Option (V cxT.ty)) (xk : Nat → St cxT.ty → Option (V cxT.ty)) (g : St cxT.ty → Option (V cxT.ty)) (x0 : Int) : roundF prog (ev56 m52) L f56 0 [1, 0, 1, 0, 0] (outK (outV prog f56) k xk) g (S56_0 a0 a1 a2 x0) =
  bif (decide (x0 < (a0.length : Int))) then bif ((decide (0 ≤ x0)) && (decide (x0 < (a0.length : Int)))) then tst (m52 ((List.getD a0 x0.toNat 0), (a1, a2))) false fun (q3 : Bool) => bif (!q3) then some (n56 false)
        else g (S56_0 a0 a1 a2 (IntKind.wrap .i64 (x0 + 1)))
    else none
  else k (X56_0 a0 a1 a2) := by kernel_rfl
theorem t56_0 (m52 : (Int × Int × Int) → Option Bool) (L : Nat) (a0 : (List Int)) (a1 a2 : Int) : (topK prog (ev56 m52) L f56 [1, 0, 1] (outV prog f56)).n (X56_0 a0 a1 a2) =
  some (n56 true) := by kernel_rfl
def l56_0 (m52 : (Int × Int × Int) → Option Bool) (L : Nat) (a0 : (List Int)) (a1 a2 : Int) : Nat → Int → (Option Bool) → Option Bool
  | 0, _, _ => none
  | n + 1, x0, k =>
    bif (decide (x0 < (a0.length : Int))) then bif ((decide (0 ≤ x0)) && (decide (x0 < (a0.length : Int)))) then tst (m52 ((List.getD a0 x0.toNat 0), (a1, a2))) false fun (q4 : Bool) => bif (!q4) then some false
          else l56_0 m52 L a0 a1 a2 n (IntKind.wrap .i64 (x0 + 1)) k
      else none
    else k
theorem h56_0 (m52 : (Int × Int × Int) → Option Bool) (L : Nat) (a0 : (List Int)) (a1 a2 : Int) (k : St cxT.ty → Option (V cxT.ty)) (xk : Nat → St cxT.ty → Option (V cxT.ty)) (k' : Option Bool) (hk : k (X56_0 a0 a1 a2) = (k').map n56) : ∀ (n : Nat) (x0 : Int), headF prog (ev56 m52) L f56 0 [1, 0, 1, 0, 0] (outK (outV prog f56) k xk) n (S56_0 a0 a1 a2 x0) = (l56_0 m52 L a0 a1 a2 n x0 k').map n56
  | 0, _ => rfl
  | n + 1, x0 => by
    rw [headF_round, r56_0]
    have ih := h56_0 m52 L a0 a1 a2 k xk k' hk n
    simp only [l56_0, map_bif, map_tst, map_bnd, Option.map_some, Option.map_none, ih, hk]
def g56 (m52 : (Int × Int × Int) → Option Bool) (L : Nat) (a0 : (List Int)) (a1 a2 : Int) : Option Bool :=
  l56_0 m52 L a0 a1 a2 L 0 (some true)
theorem e56 (m52 : (Int × Int × Int) → Option Bool) (L : Nat) (a0 : (List Int)) (a1 a2 : Int) : evF prog (ev56 m52) (loopN L) f56 (a56.enc (a0, a1, a2)) = (g56 m52 L a0 a1 a2).map n56 := by
  let K'0 : Option Bool := (some true)
  have hin0 : ∀ (x0 : Int), headF prog (ev56 m52) L f56 0 [1, 0, 1, 0, 0] (outK (outV prog f56) (topK prog (ev56 m52) L f56 [1, 0, 1] (outV prog f56)).n (topK prog (ev56 m52) L f56 [1, 0, 1] (outV prog f56)).x) L (S56_0 a0 a1 a2 x0) = (l56_0 m52 L a0 a1 a2 L x0 K'0).map n56 := fun x0 => h56_0 m52 L a0 a1 a2 _ _ K'0 (by rw [t56_0]; simp only [K'0, map_bif, map_tst, map_bnd, Option.map_some, Option.map_none]) L x0
  rw [i56]; simp only [g56, map_bif, map_tst, map_bnd, Option.map_some, Option.map_none, hin0, K'0]
theorem s56 (m52 : (Int × Int × Int) → Option Bool) (h52 : Sat prog cxT 52 (c52 m52)) (m : ((List Int) × Int × Int) → Option Bool) (hm : ∀ (x : ((List Int) × Int × Int)) t, m x = some t → ∃ L, g56 m52 L x.1 x.2.1 x.2.2 = some t) : Sat prog cxT 56 (c56 m) :=
  sat_t cxT_ok cxT_pok (by rfl) (fn := f56) rfl a56 n56 dd56 m (ev56 m52) (kok_cons h52 kok_nil) kwok_nil (fun L x => g56 m52 L x.1 x.2.1 x.2.2) (fun L x => e56 m52 L x.1 x.2.1 x.2.2) hm hs56
def ev14 (m45 : Int → Option Bool) (m46 : (Int × Int) → Option Bool) (m47 : Int → Option Bool) (m48 : (Int × Int) → Option Bool) (m49 : Int → Option Bool) (m50 : (List E9) → Option Int) (m51 : (List E9) → Option E9) (m53 : N10 → Option Int) (m52 : (Int × Int × Int) → Option Bool) (m54 : N10 → Option Bool) (m55 : N10 → Option Bool) (m56 : ((List Int) × Int × Int) → Option Bool) : Env cxT := { Kc := kcOf [(45, c45 m45), (46, c46 m46), (47, c47 m47), (48, c48 m48), (49, c49 m49), (50, c50 m50), (51, c51 m51), (53, c53 m53), (52, c52 m52), (54, c54 m54), (55, c55 m55), (56, c56 m56)], Kw := kwOf [], lv := fun i => [], xv := fun i => none }
theorem i14 (m45 : Int → Option Bool) (m46 : (Int × Int) → Option Bool) (m47 : Int → Option Bool) (m48 : (Int × Int) → Option Bool) (m49 : Int → Option Bool) (m50 : (List E9) → Option Int) (m51 : (List E9) → Option E9) (m53 : N10 → Option Int) (m52 : (Int × Int × Int) → Option Bool) (m54 : N10 → Option Bool) (m55 : N10 → Option Bool) (m56 : ((List Int) × Int × Int) → Option Bool) (L : Nat) (x2 x0 : Int) (x1 x3 : Int) (x4 : (List E9)) (x5 x6 : Int) (x9 x7 x8 : (List Int)) : evF prog (ev14 m45 m46 m47 m48 m49 m50 m51 m53 m52 m54 m55 m56) (loopN L) f14 (a14.enc (x2, x0, x1, x3, x4, x5, x6, x9, x7, x8)) =
  tst (m45 x0) false fun (q1 : Bool) => bif (!q1) then some (n14 3)
    else tst (m46 (x2, x0)) false fun (q2 : Bool) => bif (!q2) then some (n14 3)
      else tst (m47 x1) false fun (q3 : Bool) => bif (!q3) then some (n14 3)
        else tst (m48 (x3, x0)) false fun (q4 : Bool) => bif (!q4) then some (n14 3)
          else tst (m49 x5) false fun (q5 : Bool) => bif (!q5) then some (n14 3)
            else tst (m50 x4) 0 fun (q6 : Int) => bif (q6 != 0) then some (n14 q6)
              else tst (m51 x4) (0, 0, 0, 0, 0, 0, 0, 0, 0) fun (q7 : E9) => bif (decide (q7.1 > x1)) then some (n14 1)
                else tst (m53 (x2, (x0, (x1, (x3, (x4, (x5, (x6, (x9, (x7, x8)))))))))) 0 fun (q8 : Int) => tst (m52 (x6, (0, q8))) false fun (q9 : Bool) => bif (!q9) then some (n14 3)
                    else tst (m54 (x2, (x0, (x1, (x3, (x4, (x5, (x6, (x9, (x7, x8)))))))))) false fun (q10 : Bool) => bif (!q10) then some (n14 1)
                      else tst (m55 (x2, (x0, (x1, (x3, (x4, (x5, (x6, (x9, (x7, x8)))))))))) false fun (q11 : Bool) => bif (!q11) then some (n14 1)
                        else tst (m53 (x2, (x0, (x1, (x3, (x4, (x5, (x6, (x9, (x7, x8)))))))))) 0 fun (q12 : Int) => tst (m56 (x7, (1, (IntKind.wrap .i64 (q8 + 1))))) false fun (q13 : Bool) => bif (!q13) then some (n14 3)
                            else tst (m53 (x2, (x0, (x1, (x3, (x4, (x5, (x6, (x9, (x7, x8)))))))))) 0 fun (q14 : Int) => tst (m56 (x8, (0, q8))) false fun (q15 : Bool) => bif (!q15) then some (n14 3)
                                else bif (x5 != 0) then bif (x3 != x2) then some (n14 1)
                                  else bif (x1 == 0) then some (n14 1)
                                  else some (n14 0)
                                else some (n14 0) := by kernel_rfl
def g14 (m45 : Int → Option Bool) (m46 : (Int × Int) → Option Bool) (m47 : Int → Option Bool) (m48 : (Int × Int) → Option Bool) (m49 : Int → Option Bool) (m50 : (List E9) → Option Int) (m51 : (List E9) → Option E9) (m53 : N10 → Option Int) (m52 : (Int × Int × Int) → Option Bool) (m54 : N10 → Option Bool) (m55 : N10 → Option Bool) (m56 : ((List Int) × Int × Int) → Option Bool) (L : Nat) (x2 x0 : Int) (x1 x3 : Int) (x4 : (List E9)) (x5 x6 : Int) (x9 x7 x8 : (List Int)) : Option Int :=
  tst (m45 x0) false fun (q1 : Bool) => bif (!q1) then some 3
    else tst (m46 (x2, x0)) false fun (q2 : Bool) => bif (!q2) then some 3
      else tst (m47 x1) false fun (q3 : Bool) => bif (!q3) then some 3
        else tst (m48 (x3, x0)) false fun (q4 : Bool) => bif (!q4) then some 3
          else tst (m49 x5) false fun (q5 : Bool) => bif (!q5) then some 3
            else tst (m50 x4) 0 fun (q6 : Int) => bif (q6 != 0) then some q6
              else tst (m51 x4) (0, 0, 0, 0, 0, 0, 0, 0, 0) fun (q7 : E9) => bif (decide (q7.1 > x1)) then some 1
                else tst (m53 (x2, (x0, (x1, (x3, (x4, (x5, (x6, (x9, (x7, x8)))))))))) 0 fun (q8 : Int) => tst (m52 (x6, (0, q8))) false fun (q9 : Bool) => bif (!q9) then some 3
                    else tst (m54 (x2, (x0, (x1, (x3, (x4, (x5, (x6, (x9, (x7, x8)))))))))) false fun (q10 : Bool) => bif (!q10) then some 1
                      else tst (m55 (x2, (x0, (x1, (x3, (x4, (x5, (x6, (x9, (x7, x8)))))))))) false fun (q11 : Bool) => bif (!q11) then some 1
                        else tst (m53 (x2, (x0, (x1, (x3, (x4, (x5, (x6, (x9, (x7, x8)))))))))) 0 fun (q12 : Int) => tst (m56 (x7, (1, (IntKind.wrap .i64 (q8 + 1))))) false fun (q13 : Bool) => bif (!q13) then some 3
                            else tst (m53 (x2, (x0, (x1, (x3, (x4, (x5, (x6, (x9, (x7, x8)))))))))) 0 fun (q14 : Int) => tst (m56 (x8, (0, q8))) false fun (q15 : Bool) => bif (!q15) then some 3
                                else bif (x5 != 0) then bif (x3 != x2) then some 1
                                  else bif (x1 == 0) then some 1
                                  else some 0
                                else some 0
theorem e14 (m45 : Int → Option Bool) (m46 : (Int × Int) → Option Bool) (m47 : Int → Option Bool) (m48 : (Int × Int) → Option Bool) (m49 : Int → Option Bool) (m50 : (List E9) → Option Int) (m51 : (List E9) → Option E9) (m53 : N10 → Option Int) (m52 : (Int × Int × Int) → Option Bool) (m54 : N10 → Option Bool) (m55 : N10 → Option Bool) (m56 : ((List Int) × Int × Int) → Option Bool) (L : Nat) (x0 x1 : Int) (x2 x3 : Int) (x4 : (List E9)) (x5 x6 : Int) (x7 x8 x9 : (List Int)) : evF prog (ev14 m45 m46 m47 m48 m49 m50 m51 m53 m52 m54 m55 m56) (loopN L) f14 (a14.enc (x0, x1, x2, x3, x4, x5, x6, x7, x8, x9)) = (g14 m45 m46 m47 m48 m49 m50 m51 m53 m52 m54 m55 m56 L x0 x1 x2 x3 x4 x5 x6 x7 x8 x9).map n14 := by
  rw [i14]; simp only [g14, map_bif, map_tst, map_bnd, Option.map_some, Option.map_none]
theorem s14 (m45 : Int → Option Bool) (m46 : (Int × Int) → Option Bool) (m47 : Int → Option Bool) (m48 : (Int × Int) → Option Bool) (m49 : Int → Option Bool) (m50 : (List E9) → Option Int) (m51 : (List E9) → Option E9) (m53 : N10 → Option Int) (m52 : (Int × Int × Int) → Option Bool) (m54 : N10 → Option Bool) (m55 : N10 → Option Bool) (m56 : ((List Int) × Int × Int) → Option Bool) (h45 : Sat prog cxT 45 (c45 m45)) (h46 : Sat prog cxT 46 (c46 m46)) (h47 : Sat prog cxT 47 (c47 m47)) (h48 : Sat prog cxT 48 (c48 m48)) (h49 : Sat prog cxT 49 (c49 m49)) (h50 : Sat prog cxT 50 (c50 m50)) (h51 : Sat prog cxT 51 (c51 m51)) (h53 : Sat prog cxT 53 (c53 m53)) (h52 : Sat prog cxT 52 (c52 m52)) (h54 : Sat prog cxT 54 (c54 m54)) (h55 : Sat prog cxT 55 (c55 m55)) (h56 : Sat prog cxT 56 (c56 m56)) (m : N10 → Option Int) (hm : ∀ (x : N10) t, m x = some t → ∃ L, g14 m45 m46 m47 m48 m49 m50 m51 m53 m52 m54 m55 m56 L x.1 x.2.1 x.2.2.1 x.2.2.2.1 x.2.2.2.2.1 x.2.2.2.2.2.1 x.2.2.2.2.2.2.1 x.2.2.2.2.2.2.2.1 x.2.2.2.2.2.2.2.2.1 x.2.2.2.2.2.2.2.2.2 = some t) : Sat prog cxT 14 (c14 m) :=
  sat_t cxT_ok cxT_pok (by rfl) (fn := f14) rfl a14 n14 dd14 m (ev14 m45 m46 m47 m48 m49 m50 m51 m53 m52 m54 m55 m56) (kok_cons h45 (kok_cons h46 (kok_cons h47 (kok_cons h48 (kok_cons h49 (kok_cons h50 (kok_cons h51 (kok_cons h53 (kok_cons h52 (kok_cons h54 (kok_cons h55 (kok_cons h56 kok_nil)))))))))))) kwok_nil (fun L x => g14 m45 m46 m47 m48 m49 m50 m51 m53 m52 m54 m55 m56 L x.1 x.2.1 x.2.2.1 x.2.2.2.1 x.2.2.2.2.1 x.2.2.2.2.2.1 x.2.2.2.2.2.2.1 x.2.2.2.2.2.2.2.1 x.2.2.2.2.2.2.2.2.1 x.2.2.2.2.2.2.2.2.2) (fun L x => e14 m45 m46 m47 m48 m49 m50 m51 m53 m52 m54 m55 m56 L x.1 x.2.1 x.2.2.1 x.2.2.2.1 x.2.2.2.2.1 x.2.2.2.2.2.1 x.2.2.2.2.2.2.1 x.2.2.2.2.2.2.2.1 x.2.2.2.2.2.2.2.2.1 x.2.2.2.2.2.2.2.2.2) hm hs14
end Go.Proofs.Tryz
