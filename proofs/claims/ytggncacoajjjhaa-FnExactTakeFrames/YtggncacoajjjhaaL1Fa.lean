/- A part of the proof of FnExactTakeFrames: L1Fa, L1Pa. -/
import Derived.Test.YtggncacoajjjhaaL1Base
import Derived.Test.YtggncacoajjjhaaVmJ
set_option maxHeartbeats 0
set_option linter.unusedVariables false
set_option linter.unusedSimpArgs false
namespace Go.Proofs.Try
open Go Go.VM Go.RowKit
/-! loop.example/g00222/laws.FnExactTakeNumber -/
def ev7 (m30 : (List Int) → Option (List Int)) (m29 : ((List Int) × Int × Int) → Option (Int × Int)) (m16 : ((List Int) × Int × Int) → Option (Int × Int)) (m31 : ((Int × Int) × (Int × Int)) → Option Bool) (m32 : ((List Int) × (List Int)) → Option Bool) : Env cxT := { Kc := kcOf [(30, c30 m30), (29, c29 m29), (16, c16 m16), (31, c31 m31), (32, c32 m32)], Kw := kwOf [], lv := fun i => [], xv := fun i => none }
theorem i7 (m30 : (List Int) → Option (List Int)) (m29 : ((List Int) × Int × Int) → Option (Int × Int)) (m16 : ((List Int) × Int × Int) → Option (Int × Int)) (m31 : ((Int × Int) × (Int × Int)) → Option Bool) (m32 : ((List Int) × (List Int)) → Option Bool) (L : Nat) (a0 : (List Int)) (a1 : Int) (a2 : Int) : evF prog (ev7 m30 m29 m16 m31 m32) (loopN L) f7 (a7.enc (a0, a1, a2)) =
  bif (decide ((Nat.cast (List.length a0) : Int) > (1048576 : Int))) then some (n7 Bool.true)
  else bif (Option.isSome (m30 a0)) then bif (Option.isSome (m29 ((Option.getD (m30 a0) []), (a1, a2)))) then bif (Option.isSome (m30 a0)) then bif (Option.isSome (m16 ((Option.getD (m30 a0) []), (a1, a2)))) then bif (Option.isSome (m31 (((Option.getD (m16 ((Option.getD (m30 a0) []), (a1, a2))) ((0 : Int), (0 : Int))).1, (Option.getD (m16 ((Option.getD (m30 a0) []), (a1, a2))) ((0 : Int), (0 : Int))).2), ((Option.getD (m29 ((Option.getD (m30 a0) []), (a1, a2))) ((0 : Int), (0 : Int))).1, (Option.getD (m29 ((Option.getD (m30 a0) []), (a1, a2))) ((0 : Int), (0 : Int))).2)))) then bif (!(Option.getD (m31 (((Option.getD (m16 ((Option.getD (m30 a0) []), (a1, a2))) ((0 : Int), (0 : Int))).1, (Option.getD (m16 ((Option.getD (m30 a0) []), (a1, a2))) ((0 : Int), (0 : Int))).2), ((Option.getD (m29 ((Option.getD (m30 a0) []), (a1, a2))) ((0 : Int), (0 : Int))).1, (Option.getD (m29 ((Option.getD (m30 a0) []), (a1, a2))) ((0 : Int), (0 : Int))).2))) Bool.false)) then some (n7 Bool.false)
            else bif (Option.isSome (m30 a0)) then bif (Option.isSome (m32 ((Option.getD (m30 a0) []), (Option.getD (m30 a0) [])))) then bif (!(Option.getD (m32 ((Option.getD (m30 a0) []), (Option.getD (m30 a0) []))) Bool.false)) then some (n7 Bool.false)
                else some (n7 Bool.true)
              else none
            else none
          else none
        else none
      else none
    else none
  else none := by kernel_rfl
def g7 (m30 : (List Int) → Option (List Int)) (m29 : ((List Int) × Int × Int) → Option (Int × Int)) (m16 : ((List Int) × Int × Int) → Option (Int × Int)) (m31 : ((Int × Int) × (Int × Int)) → Option Bool) (m32 : ((List Int) × (List Int)) → Option Bool) (L : Nat) (a0 : (List Int)) (a1 : Int) (a2 : Int) : Option Bool :=
  bif (decide ((Nat.cast (List.length a0) : Int) > (1048576 : Int))) then some Bool.true
  else bif (Option.isSome (m30 a0)) then bif (Option.isSome (m29 ((Option.getD (m30 a0) []), (a1, a2)))) then bif (Option.isSome (m30 a0)) then bif (Option.isSome (m16 ((Option.getD (m30 a0) []), (a1, a2)))) then bif (Option.isSome (m31 (((Option.getD (m16 ((Option.getD (m30 a0) []), (a1, a2))) ((0 : Int), (0 : Int))).1, (Option.getD (m16 ((Option.getD (m30 a0) []), (a1, a2))) ((0 : Int), (0 : Int))).2), ((Option.getD (m29 ((Option.getD (m30 a0) []), (a1, a2))) ((0 : Int), (0 : Int))).1, (Option.getD (m29 ((Option.getD (m30 a0) []), (a1, a2))) ((0 : Int), (0 : Int))).2)))) then bif (!(Option.getD (m31 (((Option.getD (m16 ((Option.getD (m30 a0) []), (a1, a2))) ((0 : Int), (0 : Int))).1, (Option.getD (m16 ((Option.getD (m30 a0) []), (a1, a2))) ((0 : Int), (0 : Int))).2), ((Option.getD (m29 ((Option.getD (m30 a0) []), (a1, a2))) ((0 : Int), (0 : Int))).1, (Option.getD (m29 ((Option.getD (m30 a0) []), (a1, a2))) ((0 : Int), (0 : Int))).2))) Bool.false)) then some Bool.false
            else bif (Option.isSome (m30 a0)) then bif (Option.isSome (m32 ((Option.getD (m30 a0) []), (Option.getD (m30 a0) [])))) then bif (!(Option.getD (m32 ((Option.getD (m30 a0) []), (Option.getD (m30 a0) []))) Bool.false)) then some Bool.false
                else some Bool.true
              else none
            else none
          else none
        else none
      else none
    else none
  else none
theorem e7 (m30 : (List Int) → Option (List Int)) (m29 : ((List Int) × Int × Int) → Option (Int × Int)) (m16 : ((List Int) × Int × Int) → Option (Int × Int)) (m31 : ((Int × Int) × (Int × Int)) → Option Bool) (m32 : ((List Int) × (List Int)) → Option Bool) (L : Nat) (a0 : (List Int)) (a1 : Int) (a2 : Int) : evF prog (ev7 m30 m29 m16 m31 m32) (loopN L) f7 (a7.enc (a0, a1, a2)) = (g7 m30 m29 m16 m31 m32 L a0 a1 a2).map n7 := by
  rw [i7]; simp only [g7, map_bif, Option.map_some, Option.map_none]
theorem s7 (m30 : (List Int) → Option (List Int)) (m29 : ((List Int) × Int × Int) → Option (Int × Int)) (m16 : ((List Int) × Int × Int) → Option (Int × Int)) (m31 : ((Int × Int) × (Int × Int)) → Option Bool) (m32 : ((List Int) × (List Int)) → Option Bool) (h30 : Sat prog cxT 30 (c30 m30)) (h29 : Sat prog cxT 29 (c29 m29)) (h16 : Sat prog cxT 16 (c16 m16)) (h31 : Sat prog cxT 31 (c31 m31)) (h32 : Sat prog cxT 32 (c32 m32)) (m : ((List Int) × Int × Int) → Option Bool) (hm : ∀ (x : ((List Int) × Int × Int)) t, m x = some t → ∃ L, g7 m30 m29 m16 m31 m32 L x.1 x.2.1 x.2.2 = some t) : Sat prog cxT 7 (c7 m) :=
  sat_t cxT_ok cxT_pok (by rfl) (fn := f7) rfl a7 n7 dd7 m (ev7 m30 m29 m16 m31 m32) (kok_cons h30 (kok_cons h29 (kok_cons h16 (kok_cons h31 (kok_cons h32 kok_nil))))) kwok_nil (fun L x => g7 m30 m29 m16 m31 m32 L x.1 x.2.1 x.2.2) (fun L x => e7 m30 m29 m16 m31 m32 L x.1 x.2.1 x.2.2) hm hs7
/-! loop.example/g00222/laws.FnExactSumWords -/
def ev8 (m30 : (List Int) → Option (List Int)) (m20 : (List Int) → Option Int) (m18 : (List Int) → Option Int) (m32 : ((List Int) × (List Int)) → Option Bool) : Env cxT := { Kc := kcOf [(30, c30 m30), (20, c20 m20), (18, c18 m18), (32, c32 m32)], Kw := kwOf [], lv := fun i => [], xv := fun i => none }
theorem i8 (m30 : (List Int) → Option (List Int)) (m20 : (List Int) → Option Int) (m18 : (List Int) → Option Int) (m32 : ((List Int) × (List Int)) → Option Bool) (L : Nat) (a0 : (List Int)) : evF prog (ev8 m30 m20 m18 m32) (loopN L) f8 (a8.enc a0) =
  bif (decide ((Nat.cast (List.length a0) : Int) > (1048576 : Int))) then some (n8 Bool.true)
  else bif (Option.isSome (m30 a0)) then bif (Option.isSome (m20 (Option.getD (m30 a0) []))) then bif (Option.isSome (m30 a0)) then bif (Option.isSome (m18 (Option.getD (m30 a0) []))) then bif ((Option.getD (m18 (Option.getD (m30 a0) [])) (0 : Int)) != (Option.getD (m20 (Option.getD (m30 a0) [])) (0 : Int))) then some (n8 Bool.false)
          else bif (Option.isSome (m30 a0)) then bif (Option.isSome (m32 ((Option.getD (m30 a0) []), (Option.getD (m30 a0) [])))) then bif (!(Option.getD (m32 ((Option.getD (m30 a0) []), (Option.getD (m30 a0) []))) Bool.false)) then some (n8 Bool.false)
              else some (n8 Bool.true)
            else none
          else none
        else none
      else none
    else none
  else none := by kernel_rfl
def g8 (m30 : (List Int) → Option (List Int)) (m20 : (List Int) → Option Int) (m18 : (List Int) → Option Int) (m32 : ((List Int) × (List Int)) → Option Bool) (L : Nat) (a0 : (List Int)) : Option Bool :=
  bif (decide ((Nat.cast (List.length a0) : Int) > (1048576 : Int))) then some Bool.true
  else bif (Option.isSome (m30 a0)) then bif (Option.isSome (m20 (Option.getD (m30 a0) []))) then bif (Option.isSome (m30 a0)) then bif (Option.isSome (m18 (Option.getD (m30 a0) []))) then bif ((Option.getD (m18 (Option.getD (m30 a0) [])) (0 : Int)) != (Option.getD (m20 (Option.getD (m30 a0) [])) (0 : Int))) then some Bool.false
          else bif (Option.isSome (m30 a0)) then bif (Option.isSome (m32 ((Option.getD (m30 a0) []), (Option.getD (m30 a0) [])))) then bif (!(Option.getD (m32 ((Option.getD (m30 a0) []), (Option.getD (m30 a0) []))) Bool.false)) then some Bool.false
              else some Bool.true
            else none
          else none
        else none
      else none
    else none
  else none
theorem e8 (m30 : (List Int) → Option (List Int)) (m20 : (List Int) → Option Int) (m18 : (List Int) → Option Int) (m32 : ((List Int) × (List Int)) → Option Bool) (L : Nat) (a0 : (List Int)) : evF prog (ev8 m30 m20 m18 m32) (loopN L) f8 (a8.enc a0) = (g8 m30 m20 m18 m32 L a0).map n8 := by
  rw [i8]; simp only [g8, map_bif, Option.map_some, Option.map_none]
theorem s8 (m30 : (List Int) → Option (List Int)) (m20 : (List Int) → Option Int) (m18 : (List Int) → Option Int) (m32 : ((List Int) × (List Int)) → Option Bool) (h30 : Sat prog cxT 30 (c30 m30)) (h20 : Sat prog cxT 20 (c20 m20)) (h18 : Sat prog cxT 18 (c18 m18)) (h32 : Sat prog cxT 32 (c32 m32)) (m : (List Int) → Option Bool) (hm : ∀ (x : (List Int)) t, m x = some t → ∃ L, g8 m30 m20 m18 m32 L x = some t) : Sat prog cxT 8 (c8 m) :=
  sat_t cxT_ok cxT_pok (by rfl) (fn := f8) rfl a8 n8 dd8 m (ev8 m30 m20 m18 m32) (kok_cons h30 (kok_cons h20 (kok_cons h18 (kok_cons h32 kok_nil)))) kwok_nil (fun L x => g8 m30 m20 m18 m32 L x) (fun L x => e8 m30 m20 m18 m32 L x) hm hs8
/-! loop.example/g00222/laws.FnExactWholeSum -/
def ev9 (m30 : (List Int) → Option (List Int)) (m33 : (List Int) → Option Bool) (m19 : (List Int) → Option Bool) (m32 : ((List Int) × (List Int)) → Option Bool) : Env cxT := { Kc := kcOf [(30, c30 m30), (33, c33 m33), (19, c19 m19), (32, c32 m32)], Kw := kwOf [], lv := fun i => [], xv := fun i => none }
theorem i9 (m30 : (List Int) → Option (List Int)) (m33 : (List Int) → Option Bool) (m19 : (List Int) → Option Bool) (m32 : ((List Int) × (List Int)) → Option Bool) (L : Nat) (a0 : (List Int)) : evF prog (ev9 m30 m33 m19 m32) (loopN L) f9 (a9.enc a0) =
  bif (decide ((Nat.cast (List.length a0) : Int) > (1048576 : Int))) then some (n9 Bool.true)
  else bif (Option.isSome (m30 a0)) then bif (Option.isSome (m33 (Option.getD (m30 a0) []))) then bif (Option.isSome (m30 a0)) then bif (Option.isSome (m19 (Option.getD (m30 a0) []))) then bif (!((Option.getD (m19 (Option.getD (m30 a0) [])) Bool.false) == (Option.getD (m33 (Option.getD (m30 a0) [])) Bool.false))) then some (n9 Bool.false)
          else bif (Option.isSome (m30 a0)) then bif (Option.isSome (m32 ((Option.getD (m30 a0) []), (Option.getD (m30 a0) [])))) then bif (!(Option.getD (m32 ((Option.getD (m30 a0) []), (Option.getD (m30 a0) []))) Bool.false)) then some (n9 Bool.false)
              else some (n9 Bool.true)
            else none
          else none
        else none
      else none
    else none
  else none := by kernel_rfl
def g9 (m30 : (List Int) → Option (List Int)) (m33 : (List Int) → Option Bool) (m19 : (List Int) → Option Bool) (m32 : ((List Int) × (List Int)) → Option Bool) (L : Nat) (a0 : (List Int)) : Option Bool :=
  bif (decide ((Nat.cast (List.length a0) : Int) > (1048576 : Int))) then some Bool.true
  else bif (Option.isSome (m30 a0)) then bif (Option.isSome (m33 (Option.getD (m30 a0) []))) then bif (Option.isSome (m30 a0)) then bif (Option.isSome (m19 (Option.getD (m30 a0) []))) then bif (!((Option.getD (m19 (Option.getD (m30 a0) [])) Bool.false) == (Option.getD (m33 (Option.getD (m30 a0) [])) Bool.false))) then some Bool.false
          else bif (Option.isSome (m30 a0)) then bif (Option.isSome (m32 ((Option.getD (m30 a0) []), (Option.getD (m30 a0) [])))) then bif (!(Option.getD (m32 ((Option.getD (m30 a0) []), (Option.getD (m30 a0) []))) Bool.false)) then some Bool.false
              else some Bool.true
            else none
          else none
        else none
      else none
    else none
  else none
theorem e9 (m30 : (List Int) → Option (List Int)) (m33 : (List Int) → Option Bool) (m19 : (List Int) → Option Bool) (m32 : ((List Int) × (List Int)) → Option Bool) (L : Nat) (a0 : (List Int)) : evF prog (ev9 m30 m33 m19 m32) (loopN L) f9 (a9.enc a0) = (g9 m30 m33 m19 m32 L a0).map n9 := by
  rw [i9]; simp only [g9, map_bif, Option.map_some, Option.map_none]
theorem s9 (m30 : (List Int) → Option (List Int)) (m33 : (List Int) → Option Bool) (m19 : (List Int) → Option Bool) (m32 : ((List Int) × (List Int)) → Option Bool) (h30 : Sat prog cxT 30 (c30 m30)) (h33 : Sat prog cxT 33 (c33 m33)) (h19 : Sat prog cxT 19 (c19 m19)) (h32 : Sat prog cxT 32 (c32 m32)) (m : (List Int) → Option Bool) (hm : ∀ (x : (List Int)) t, m x = some t → ∃ L, g9 m30 m33 m19 m32 L x = some t) : Sat prog cxT 9 (c9 m) :=
  sat_t cxT_ok cxT_pok (by rfl) (fn := f9) rfl a9 n9 dd9 m (ev9 m30 m33 m19 m32) (kok_cons h30 (kok_cons h33 (kok_cons h19 (kok_cons h32 kok_nil)))) kwok_nil (fun L x => g9 m30 m33 m19 m32 L x) (fun L x => e9 m30 m33 m19 m32 L x) hm hs9
/-! loop.example/g00222/impl.TakeNumber -/
def ev16 (m44 : Int → Option Bool) : Env cxT := { Kc := kcOf [(44, c44 m44)], Kw := kwOf [], lv := fun i => if i = 0 then [(6, []), (7, []), (31, [some 5]), (32, []), (33, [])] else [], xv := fun i => if i = 0 then some [(6, []), (7, [])] else none }
def S16_0 (a0 : (List Int)) (a1 : Int) (a2 : Int) (v0_6_0 : Int) (v0_6_1 : Int) (v0_7 : Int) (v0_33 : Int) : St cxT.ty := { slots := [junk, junk, junk, junk, junk, junk, (.inr (.inr { kind := 0, nm := 384, cells := [(lv (.int .i64 v0_6_0)), (lv (.int .i64 v0_6_1))], s := { own := 0, nm := 0, e := 0, o := false, xs := [] }, i := 0, off := 0 })), (.inl (.inl (lv (.int .u64 v0_7)))), junk, junk, junk, junk, junk, junk, junk, junk, junk, junk, junk, junk, junk, junk, junk, junk, junk, junk, junk, junk, junk, junk, junk, (.inl (.inl (ls { own := 0, nm := 0, e := 5, o := false, xs := (List.drop (Int.toNat a1) (List.take (Int.toNat (Go.IntKind.wrap Go.IntKind.i64 (a1 + a2))) a0)) }))), (.inl (.inl (lv (.int .i64 (Nat.cast (List.length (List.drop (Int.toNat a1) (List.take (Int.toNat (Go.IntKind.wrap Go.IntKind.i64 (a1 + a2))) a0))) : Int))))), (.inl (.inl (lv (.int .i64 v0_33))))] ++ List.replicate 12 junk, D := [], F := [], ctr := 1 }
def X16_0 (a0 : (List Int)) (a1 : Int) (a2 : Int) (w0_6_0 : Int) (w0_6_1 : Int) (w0_7 : Int) : St cxT.ty := { slots := [junk, junk, junk, junk, junk, junk, (.inr (.inr { kind := 0, nm := 384, cells := [(lv (.int .i64 w0_6_0)), (lv (.int .i64 w0_6_1))], s := { own := 0, nm := 0, e := 0, o := false, xs := [] }, i := 0, off := 0 })), (.inl (.inl (lv (.int .u64 w0_7))))] ++ List.replicate 38 junk, D := [], F := [], ctr := 1 }
theorem i16 (m44 : Int → Option Bool) (L : Nat) (a0 : (List Int)) (a1 : Int) (a2 : Int) : evF prog (ev16 m44) (loopN L) f16 (a16.enc (a0, a1, a2)) =
  bif (Option.isSome (m44 a2)) then bif (!(Option.getD (m44 a2) Bool.false)) then some (n16 ((3 : Int), (0 : Int)))
    else bif (decide (a1 < (0 : Int))) then some (n16 ((3 : Int), (0 : Int)))
    else bif (decide (a1 > (Go.IntKind.wrap Go.IntKind.i64 ((Nat.cast (List.length a0) : Int) - a2)))) then some (n16 ((3 : Int), (0 : Int)))
    else bif (((decide ((0 : Int) ≤ a1)) && (decide (a1 ≤ (Go.IntKind.wrap Go.IntKind.i64 (a1 + a2))))) && (decide ((Go.IntKind.wrap Go.IntKind.i64 (a1 + a2)) ≤ (Nat.cast (List.length a0) : Int)))) then headF prog (ev16 m44) L f16 0 [1, 1, 1, 0, 1, 0, 0] (outK (outV prog f16) (topK prog (ev16 m44) L f16 [1, 1, 1, 0, 1] (outV prog f16)).n (topK prog (ev16 m44) L f16 [1, 1, 1, 0, 1] (outV prog f16)).x) L (S16_0 a0 a1 a2 (0 : Int) (0 : Int) (0 : Int) (0 : Int))
    else none
  else none := by kernel_rfl
theorem r16_0 (m44 : Int → Option Bool) (L : Nat) (a0 : (List Int)) (a1 : Int) (a2 : Int) (k : St cxT.ty → Option (V cxT.ty)) (xk : Nat → St cxT.ty → Option (V cxT.ty)) (g : St cxT.ty → Option (V cxT.ty)) (v0_6_0 : Int) (v0_6_1 : Int) (v0_7 : Int) (v0_33 : Int) : roundF prog (ev16 m44) L f16 0 [1, 1, 1, 0, 1, 0, 0] (outK (outV prog f16) k xk) g (S16_0 a0 a1 a2 v0_6_0 v0_6_1 v0_7 v0_33) =
  bif (decide (v0_33 < (Nat.cast (List.length (List.drop (Int.toNat a1) (List.take (Int.toNat (Go.IntKind.wrap Go.IntKind.i64 (a1 + a2))) a0))) : Int))) then bif ((decide ((0 : Int) ≤ v0_33)) && (decide (v0_33 < (Nat.cast (List.length (List.drop (Int.toNat a1) (List.take (Int.toNat (Go.IntKind.wrap Go.IntKind.i64 (a1 + a2))) a0))) : Int)))) then g (S16_0 a0 a1 a2 v0_6_0 v0_6_1 (Go.IntKind.wrap Go.IntKind.u64 (Nat.cast (BitVec.toNat (HOr.hOr (BitVec.ofInt (Go.IntKind.bits Go.IntKind.u64) (Go.IntKind.wrap Go.IntKind.u64 (v0_7 * ((2 : Int) ^ (min (Int.toNat (8 : Int)) (Go.IntKind.bits Go.IntKind.u64)))))) (BitVec.ofInt (Go.IntKind.bits Go.IntKind.u64) (Go.IntKind.wrap Go.IntKind.u64 (List.getD (List.drop (Int.toNat a1) (List.take (Int.toNat (Go.IntKind.wrap Go.IntKind.i64 (a1 + a2))) a0)) (Int.toNat v0_33) (0 : Int)))))) : Int)) (Go.IntKind.wrap Go.IntKind.i64 (v0_33 + (1 : Int))))
    else none
  else k (X16_0 a0 a1 a2 v0_6_0 v0_6_1 v0_7) := by kernel_rfl
theorem t16_0 (m44 : Int → Option Bool) (L : Nat) (a0 : (List Int)) (a1 : Int) (a2 : Int) (w0_6_0 : Int) (w0_6_1 : Int) (w0_7 : Int) : (topK prog (ev16 m44) L f16 [1, 1, 1, 0, 1] (outV prog f16)).n (X16_0 a0 a1 a2 w0_6_0 w0_6_1 w0_7) =
  some (n16 ((0 : Int), (Go.IntKind.wrap Go.IntKind.i64 w0_7))) := by kernel_rfl
def l16_0 (m44 : Int → Option Bool) (L : Nat) (a0 : (List Int)) (a1 : Int) (a2 : Int) : Nat → Int → Int → Int → Int → (Int → Int → Int → Option (Int × Int)) → Option (Int × Int)
  | 0, _, _, _, _, _ => none
  | n + 1, v0_6_0, v0_6_1, v0_7, v0_33, k =>
    bif (decide (v0_33 < (Nat.cast (List.length (List.drop (Int.toNat a1) (List.take (Int.toNat (Go.IntKind.wrap Go.IntKind.i64 (a1 + a2))) a0))) : Int))) then bif ((decide ((0 : Int) ≤ v0_33)) && (decide (v0_33 < (Nat.cast (List.length (List.drop (Int.toNat a1) (List.take (Int.toNat (Go.IntKind.wrap Go.IntKind.i64 (a1 + a2))) a0))) : Int)))) then l16_0 m44 L a0 a1 a2 n v0_6_0 v0_6_1 (Go.IntKind.wrap Go.IntKind.u64 (Nat.cast (BitVec.toNat (HOr.hOr (BitVec.ofInt (Go.IntKind.bits Go.IntKind.u64) (Go.IntKind.wrap Go.IntKind.u64 (v0_7 * ((2 : Int) ^ (min (Int.toNat (8 : Int)) (Go.IntKind.bits Go.IntKind.u64)))))) (BitVec.ofInt (Go.IntKind.bits Go.IntKind.u64) (Go.IntKind.wrap Go.IntKind.u64 (List.getD (List.drop (Int.toNat a1) (List.take (Int.toNat (Go.IntKind.wrap Go.IntKind.i64 (a1 + a2))) a0)) (Int.toNat v0_33) (0 : Int)))))) : Int)) (Go.IntKind.wrap Go.IntKind.i64 (v0_33 + (1 : Int))) k
      else none
    else k v0_6_0 v0_6_1 v0_7
theorem h16_0 (m44 : Int → Option Bool) (L : Nat) (a0 : (List Int)) (a1 : Int) (a2 : Int) (k : St cxT.ty → Option (V cxT.ty)) (xk : Nat → St cxT.ty → Option (V cxT.ty)) (k' : Int → Int → Int → Option (Int × Int)) (hk : ∀ (w0_6_0 : Int) (w0_6_1 : Int) (w0_7 : Int), k (X16_0 a0 a1 a2 w0_6_0 w0_6_1 w0_7) = (k' w0_6_0 w0_6_1 w0_7).map n16) : ∀ (n : Nat) (v0_6_0 : Int) (v0_6_1 : Int) (v0_7 : Int) (v0_33 : Int), headF prog (ev16 m44) L f16 0 [1, 1, 1, 0, 1, 0, 0] (outK (outV prog f16) k xk) n (S16_0 a0 a1 a2 v0_6_0 v0_6_1 v0_7 v0_33) = (l16_0 m44 L a0 a1 a2 n v0_6_0 v0_6_1 v0_7 v0_33 k').map n16
  | 0, _, _, _, _ => rfl
  | n + 1, v0_6_0, v0_6_1, v0_7, v0_33 => by
    rw [headF_round, r16_0]
    have ih := h16_0 m44 L a0 a1 a2 k xk k' hk n
    simp only [l16_0, map_bif, Option.map_some, Option.map_none, ih, hk]
def g16 (m44 : Int → Option Bool) (L : Nat) (a0 : (List Int)) (a1 : Int) (a2 : Int) : Option (Int × Int) :=
  bif (Option.isSome (m44 a2)) then bif (!(Option.getD (m44 a2) Bool.false)) then some ((3 : Int), (0 : Int))
    else bif (decide (a1 < (0 : Int))) then some ((3 : Int), (0 : Int))
    else bif (decide (a1 > (Go.IntKind.wrap Go.IntKind.i64 ((Nat.cast (List.length a0) : Int) - a2)))) then some ((3 : Int), (0 : Int))
    else bif (((decide ((0 : Int) ≤ a1)) && (decide (a1 ≤ (Go.IntKind.wrap Go.IntKind.i64 (a1 + a2))))) && (decide ((Go.IntKind.wrap Go.IntKind.i64 (a1 + a2)) ≤ (Nat.cast (List.length a0) : Int)))) then l16_0 m44 L a0 a1 a2 L (0 : Int) (0 : Int) (0 : Int) (0 : Int) (fun (w0_6_0 : Int) (w0_6_1 : Int) (w0_7 : Int) => some ((0 : Int), (Go.IntKind.wrap Go.IntKind.i64 w0_7)))
    else none
  else none
theorem e16 (m44 : Int → Option Bool) (L : Nat) (a0 : (List Int)) (a1 : Int) (a2 : Int) : evF prog (ev16 m44) (loopN L) f16 (a16.enc (a0, a1, a2)) = (g16 m44 L a0 a1 a2).map n16 := by
  let K'0 : Int → Int → Int → Option (Int × Int) := (fun (w0_6_0 : Int) (w0_6_1 : Int) (w0_7 : Int) => some ((0 : Int), (Go.IntKind.wrap Go.IntKind.i64 w0_7)))
  have hin0 : ∀ (v0_6_0 : Int) (v0_6_1 : Int) (v0_7 : Int) (v0_33 : Int), headF prog (ev16 m44) L f16 0 [1, 1, 1, 0, 1, 0, 0] (outK (outV prog f16) (topK prog (ev16 m44) L f16 [1, 1, 1, 0, 1] (outV prog f16)).n (topK prog (ev16 m44) L f16 [1, 1, 1, 0, 1] (outV prog f16)).x) L (S16_0 a0 a1 a2 v0_6_0 v0_6_1 v0_7 v0_33) = (l16_0 m44 L a0 a1 a2 L v0_6_0 v0_6_1 v0_7 v0_33 K'0).map n16 := fun v0_6_0 v0_6_1 v0_7 v0_33 => h16_0 m44 L a0 a1 a2 _ _ K'0 (fun w0_6_0 w0_6_1 w0_7 => by rw [t16_0]; simp only [K'0, map_bif, Option.map_some, Option.map_none]) L v0_6_0 v0_6_1 v0_7 v0_33
  rw [i16]; simp only [g16, map_bif, Option.map_some, Option.map_none, hin0, K'0]
theorem s16 (m44 : Int → Option Bool) (h44 : Sat prog cxT 44 (c44 m44)) (m : ((List Int) × Int × Int) → Option (Int × Int)) (hm : ∀ (x : ((List Int) × Int × Int)) t, m x = some t → ∃ L, g16 m44 L x.1 x.2.1 x.2.2 = some t) : Sat prog cxT 16 (c16 m) :=
  sat_t cxT_ok cxT_pok (by rfl) (fn := f16) rfl a16 n16 dd16 m (ev16 m44) (kok_cons h44 kok_nil) kwok_nil (fun L x => g16 m44 L x.1 x.2.1 x.2.2) (fun L x => e16 m44 L x.1 x.2.1 x.2.2) hm hs16
/-! loop.example/g00222/impl.SumWords -/
def ev18 (m50 : ((List Int) × Int) → Option Int) : Env cxT := { Kc := kcOf [(50, c50 m50)], Kw := kwOf [], lv := fun i => if i = 0 then [(0, [some 5]), (3, []), (4, [])] else if i = 2 then [(0, [some 5]), (3, []), (4, [])] else [], xv := fun i => if i = 0 then some [(3, [])] else if i = 2 then some [(0, [some 5]), (3, []), (4, [])] else none }
def S18_0 (a0 : (List Int)) (v0_3 : Int) (v0_4 : Int) : St cxT.ty := { slots := [(.inl (.inl (ls { own := 0, nm := 0, e := 5, o := false, xs := a0 }))), junk, junk, (.inl (.inl (lv (.int .u64 v0_3)))), (.inl (.inl (lv (.int .i64 v0_4))))] ++ List.replicate 18 junk, D := [], F := [], ctr := 1 }
def X18_0 (a0 : (List Int)) (w0_3 : Int) : St cxT.ty := { slots := [junk, junk, junk, (.inl (.inl (lv (.int .u64 w0_3))))] ++ List.replicate 19 junk, D := [], F := [], ctr := 1 }
def S18_2 (a0 : (List Int)) (v0_3 : Int) (v0_4 : Int) (v2_3 : Int) : St cxT.ty := { slots := [(.inl (.inl (ls { own := 0, nm := 0, e := 5, o := false, xs := a0 }))), junk, junk, (.inl (.inl (lv (.int .u64 v2_3)))), (.inl (.inl (lv (.int .i64 v0_4))))] ++ List.replicate 18 junk, D := [], F := [], ctr := 1 }
def X18_2 (a0 : (List Int)) (v0_3 : Int) (v0_4 : Int) (w2_3 : Int) : St cxT.ty := { slots := [(.inl (.inl (ls { own := 0, nm := 0, e := 5, o := false, xs := a0 }))), junk, junk, (.inl (.inl (lv (.int .u64 w2_3)))), (.inl (.inl (lv (.int .i64 v0_4))))] ++ List.replicate 18 junk, D := [], F := [], ctr := 1 }
theorem i18 (m50 : ((List Int) × Int) → Option Int) (L : Nat) (a0 : (List Int)) : evF prog (ev18 m50) (loopN L) f18 (a18.enc a0) =
  headF prog (ev18 m50) L f18 0 [1, 1, 0, 1, 0, 0] (outK (outV prog f18) (topK prog (ev18 m50) L f18 [1, 1, 0, 1] (outV prog f18)).n (topK prog (ev18 m50) L f18 [1, 1, 0, 1] (outV prog f18)).x) L (S18_0 a0 (0 : Int) (0 : Int)) := by kernel_rfl
theorem r18_0 (m50 : ((List Int) × Int) → Option Int) (L : Nat) (a0 : (List Int)) (k : St cxT.ty → Option (V cxT.ty)) (xk : Nat → St cxT.ty → Option (V cxT.ty)) (g : St cxT.ty → Option (V cxT.ty)) (v0_3 : Int) (v0_4 : Int) : roundF prog (ev18 m50) L f18 0 [1, 1, 0, 1, 0, 0] (outK (outV prog f18) k xk) g (S18_0 a0 v0_3 v0_4) =
  bif (decide (v0_4 < (Nat.cast (List.length a0) : Int))) then bif (Option.isSome (m50 (a0, v0_4))) then headF prog (ev18 m50) L f18 2 [1, 1, 0, 1, 0, 0, 1, 0, 0, 1, 0, 0] (outK (outV prog f18) (inK prog (ev18 m50) L f18 0 [1, 1, 0, 1, 0, 0] [1, 0, 0, 1] (outK (outV prog f18) k xk) g).n (inK prog (ev18 m50) L f18 0 [1, 1, 0, 1, 0, 0] [1, 0, 0, 1] (outK (outV prog f18) k xk) g).x) L (S18_2 a0 v0_3 v0_4 (Go.IntKind.wrap Go.IntKind.u64 (v0_3 + (Option.getD (m50 (a0, v0_4)) (0 : Int)))))
    else none
  else k (X18_0 a0 v0_3) := by kernel_rfl
theorem t18_0 (m50 : ((List Int) × Int) → Option Int) (L : Nat) (a0 : (List Int)) (w0_3 : Int) : (topK prog (ev18 m50) L f18 [1, 1, 0, 1] (outV prog f18)).n (X18_0 a0 w0_3) =
  some (n18 (Go.IntKind.wrap Go.IntKind.i64 ((65535 : Int) - (Go.IntKind.wrap Go.IntKind.i64 w0_3)))) := by kernel_rfl
theorem r18_2 (m50 : ((List Int) × Int) → Option Int) (L : Nat) (a0 : (List Int)) (v0_3 : Int) (v0_4 : Int) (k : St cxT.ty → Option (V cxT.ty)) (xk : Nat → St cxT.ty → Option (V cxT.ty)) (g : St cxT.ty → Option (V cxT.ty)) (v2_3 : Int) : roundF prog (ev18 m50) L f18 2 [1, 1, 0, 1, 0, 0, 1, 0, 0, 1, 0, 0] (outK (outV prog f18) k xk) g (S18_2 a0 v0_3 v0_4 v2_3) =
  bif (decide (v2_3 > (65535 : Int))) then g (S18_2 a0 v0_3 v0_4 (Go.IntKind.wrap Go.IntKind.u64 (v2_3 - (65535 : Int))))
  else k (X18_2 a0 v0_3 v0_4 v2_3) := by kernel_rfl
theorem t18_2 (m50 : ((List Int) × Int) → Option Int) (L : Nat) (a0 : (List Int)) (v0_3 : Int) (v0_4 : Int) (k : St cxT.ty → Option (V cxT.ty)) (xk : Nat → St cxT.ty → Option (V cxT.ty)) (g : St cxT.ty → Option (V cxT.ty)) (w2_3 : Int) : (inK prog (ev18 m50) L f18 0 [1, 1, 0, 1, 0, 0] [1, 0, 0, 1] (outK (outV prog f18) k xk) g).n (X18_2 a0 v0_3 v0_4 w2_3) =
  g (S18_0 a0 w2_3 (Go.IntKind.wrap Go.IntKind.i64 (v0_4 + (2 : Int)))) := by kernel_rfl
def l18_2 (m50 : ((List Int) × Int) → Option Int) (L : Nat) (a0 : (List Int)) (v0_3 : Int) (v0_4 : Int) : Nat → Int → (Int → Option Int) → Option Int
  | 0, _, _ => none
  | n + 1, v2_3, k =>
    bif (decide (v2_3 > (65535 : Int))) then l18_2 m50 L a0 v0_3 v0_4 n (Go.IntKind.wrap Go.IntKind.u64 (v2_3 - (65535 : Int))) k
    else k v2_3
theorem h18_2 (m50 : ((List Int) × Int) → Option Int) (L : Nat) (a0 : (List Int)) (v0_3 : Int) (v0_4 : Int) (k : St cxT.ty → Option (V cxT.ty)) (xk : Nat → St cxT.ty → Option (V cxT.ty)) (k' : Int → Option Int) (hk : ∀ (w2_3 : Int), k (X18_2 a0 v0_3 v0_4 w2_3) = (k' w2_3).map n18) : ∀ (n : Nat) (v2_3 : Int), headF prog (ev18 m50) L f18 2 [1, 1, 0, 1, 0, 0, 1, 0, 0, 1, 0, 0] (outK (outV prog f18) k xk) n (S18_2 a0 v0_3 v0_4 v2_3) = (l18_2 m50 L a0 v0_3 v0_4 n v2_3 k').map n18
  | 0, _ => rfl
  | n + 1, v2_3 => by
    rw [headF_round, r18_2]
    have ih := h18_2 m50 L a0 v0_3 v0_4 k xk k' hk n
    simp only [l18_2, map_bif, Option.map_some, Option.map_none, ih, hk]
def l18_0 (m50 : ((List Int) × Int) → Option Int) (L : Nat) (a0 : (List Int)) : Nat → Int → Int → (Int → Option Int) → Option Int
  | 0, _, _, _ => none
  | n + 1, v0_3, v0_4, k =>
    bif (decide (v0_4 < (Nat.cast (List.length a0) : Int))) then bif (Option.isSome (m50 (a0, v0_4))) then l18_2 m50 L a0 v0_3 v0_4 L (Go.IntKind.wrap Go.IntKind.u64 (v0_3 + (Option.getD (m50 (a0, v0_4)) (0 : Int)))) (fun (w2_3 : Int) => l18_0 m50 L a0 n w2_3 (Go.IntKind.wrap Go.IntKind.i64 (v0_4 + (2 : Int))) k)
      else none
    else k v0_3
theorem h18_0 (m50 : ((List Int) × Int) → Option Int) (L : Nat) (a0 : (List Int)) (k : St cxT.ty → Option (V cxT.ty)) (xk : Nat → St cxT.ty → Option (V cxT.ty)) (k' : Int → Option Int) (hk : ∀ (w0_3 : Int), k (X18_0 a0 w0_3) = (k' w0_3).map n18) : ∀ (n : Nat) (v0_3 : Int) (v0_4 : Int), headF prog (ev18 m50) L f18 0 [1, 1, 0, 1, 0, 0] (outK (outV prog f18) k xk) n (S18_0 a0 v0_3 v0_4) = (l18_0 m50 L a0 n v0_3 v0_4 k').map n18
  | 0, _, _ => rfl
  | n + 1, v0_3, v0_4 => by
    rw [headF_round, r18_0]
    have ih := h18_0 m50 L a0 k xk k' hk n
    let K'2 : Int → Option Int := (fun (w2_3 : Int) => l18_0 m50 L a0 n w2_3 (Go.IntKind.wrap Go.IntKind.i64 (v0_4 + (2 : Int))) k')
    have hin2 : ∀ (v2_3 : Int), headF prog (ev18 m50) L f18 2 [1, 1, 0, 1, 0, 0, 1, 0, 0, 1, 0, 0] (outK (outV prog f18) (inK prog (ev18 m50) L f18 0 [1, 1, 0, 1, 0, 0] [1, 0, 0, 1] (outK (outV prog f18) k xk) (headF prog (ev18 m50) L f18 0 [1, 1, 0, 1, 0, 0] (outK (outV prog f18) k xk) n)).n (inK prog (ev18 m50) L f18 0 [1, 1, 0, 1, 0, 0] [1, 0, 0, 1] (outK (outV prog f18) k xk) (headF prog (ev18 m50) L f18 0 [1, 1, 0, 1, 0, 0] (outK (outV prog f18) k xk) n)).x) L (S18_2 a0 v0_3 v0_4 v2_3) = (l18_2 m50 L a0 v0_3 v0_4 L v2_3 K'2).map n18 := fun v2_3 => h18_2 m50 L a0 v0_3 v0_4 _ _ (K'2) (fun w2_3 => by rw [t18_2]; simp only [K'2, map_bif, Option.map_some, Option.map_none, ih, hk]) L v2_3
    simp only [l18_0, map_bif, Option.map_some, Option.map_none, ih, hk, hin2, K'2]
def g18 (m50 : ((List Int) × Int) → Option Int) (L : Nat) (a0 : (List Int)) : Option Int :=
  l18_0 m50 L a0 L (0 : Int) (0 : Int) (fun (w0_3 : Int) => some (Go.IntKind.wrap Go.IntKind.i64 ((65535 : Int) - (Go.IntKind.wrap Go.IntKind.i64 w0_3))))
theorem e18 (m50 : ((List Int) × Int) → Option Int) (L : Nat) (a0 : (List Int)) : evF prog (ev18 m50) (loopN L) f18 (a18.enc a0) = (g18 m50 L a0).map n18 := by
  let K'0 : Int → Option Int := (fun (w0_3 : Int) => some (Go.IntKind.wrap Go.IntKind.i64 ((65535 : Int) - (Go.IntKind.wrap Go.IntKind.i64 w0_3))))
  have hin0 : ∀ (v0_3 : Int) (v0_4 : Int), headF prog (ev18 m50) L f18 0 [1, 1, 0, 1, 0, 0] (outK (outV prog f18) (topK prog (ev18 m50) L f18 [1, 1, 0, 1] (outV prog f18)).n (topK prog (ev18 m50) L f18 [1, 1, 0, 1] (outV prog f18)).x) L (S18_0 a0 v0_3 v0_4) = (l18_0 m50 L a0 L v0_3 v0_4 K'0).map n18 := fun v0_3 v0_4 => h18_0 m50 L a0 _ _ K'0 (fun w0_3 => by rw [t18_0]; simp only [K'0, map_bif, Option.map_some, Option.map_none]) L v0_3 v0_4
  rw [i18]; simp only [g18, map_bif, Option.map_some, Option.map_none, hin0, K'0]
theorem s18 (m50 : ((List Int) × Int) → Option Int) (h50 : Sat prog cxT 50 (c50 m50)) (m : (List Int) → Option Int) (hm : ∀ (x : (List Int)) t, m x = some t → ∃ L, g18 m50 L x = some t) : Sat prog cxT 18 (c18 m) :=
  sat_t cxT_ok cxT_pok (by rfl) (fn := f18) rfl a18 n18 dd18 m (ev18 m50) (kok_cons h50 kok_nil) kwok_nil (fun L x => g18 m50 L x) (fun L x => e18 m50 L x) hm hs18
/-! loop.example/g00222/impl.WholeSum -/
def ev19 (m18 : (List Int) → Option Int) : Env cxT := { Kc := kcOf [(18, c18 m18)], Kw := kwOf [], lv := fun i => [], xv := fun i => none }
theorem i19 (m18 : (List Int) → Option Int) (L : Nat) (a0 : (List Int)) : evF prog (ev19 m18) (loopN L) f19 (a19.enc a0) =
  bif (Option.isSome (m18 a0)) then some (n19 ((Option.getD (m18 a0) (0 : Int)) == (0 : Int)))
  else none := by kernel_rfl
def g19 (m18 : (List Int) → Option Int) (L : Nat) (a0 : (List Int)) : Option Bool :=
  bif (Option.isSome (m18 a0)) then some ((Option.getD (m18 a0) (0 : Int)) == (0 : Int))
  else none
theorem e19 (m18 : (List Int) → Option Int) (L : Nat) (a0 : (List Int)) : evF prog (ev19 m18) (loopN L) f19 (a19.enc a0) = (g19 m18 L a0).map n19 := by
  rw [i19]; simp only [g19, map_bif, Option.map_some, Option.map_none]
theorem s19 (m18 : (List Int) → Option Int) (h18 : Sat prog cxT 18 (c18 m18)) (m : (List Int) → Option Bool) (hm : ∀ (x : (List Int)) t, m x = some t → ∃ L, g19 m18 L x = some t) : Sat prog cxT 19 (c19 m) :=
  sat_t cxT_ok cxT_pok (by rfl) (fn := f19) rfl a19 n19 dd19 m (ev19 m18) (kok_cons h18 kok_nil) kwok_nil (fun L x => g19 m18 L x) (fun L x => e19 m18 L x) hm hs19
/-! loop.example/g00222/spec.SumWords -/
def ev20 : Env cxT := { Kc := kcOf [], Kw := kwOf [], lv := fun i => if i = 0 then [(0, [some 5]), (3, []), (4, [])] else if i = 2 then [(0, [some 5]), (3, []), (4, [])] else [], xv := fun i => if i = 0 then some [(3, [])] else if i = 2 then some [(0, [some 5]), (3, []), (4, [])] else none }
def S20_0 (a0 : (List Int)) (v0_3 : Int) (v0_4 : Int) : St cxT.ty := { slots := [(.inl (.inl (ls { own := 0, nm := 0, e := 5, o := false, xs := a0 }))), junk, junk, (.inl (.inl (lv (.int .i64 v0_3)))), (.inl (.inl (lv (.int .i64 v0_4))))] ++ List.replicate 33 junk, D := [], F := [], ctr := 1 }
def X20_0 (a0 : (List Int)) (w0_3 : Int) : St cxT.ty := { slots := [junk, junk, junk, (.inl (.inl (lv (.int .i64 w0_3))))] ++ List.replicate 34 junk, D := [], F := [], ctr := 1 }
def S20_2 (a0 : (List Int)) (v0_3 : Int) (v0_4 : Int) (v2_3 : Int) : St cxT.ty := { slots := [(.inl (.inl (ls { own := 0, nm := 0, e := 5, o := false, xs := a0 }))), junk, junk, (.inl (.inl (lv (.int .i64 v2_3)))), (.inl (.inl (lv (.int .i64 v0_4))))] ++ List.replicate 33 junk, D := [], F := [], ctr := 1 }
def X20_2 (a0 : (List Int)) (v0_3 : Int) (v0_4 : Int) (w2_3 : Int) : St cxT.ty := { slots := [(.inl (.inl (ls { own := 0, nm := 0, e := 5, o := false, xs := a0 }))), junk, junk, (.inl (.inl (lv (.int .i64 w2_3)))), (.inl (.inl (lv (.int .i64 v0_4))))] ++ List.replicate 33 junk, D := [], F := [], ctr := 1 }
theorem i20 (L : Nat) (a0 : (List Int)) : evF prog ev20 (loopN L) f20 (a20.enc a0) =
  headF prog ev20 L f20 0 [1, 1, 0, 1, 0, 0] (outK (outV prog f20) (topK prog ev20 L f20 [1, 1, 0, 1] (outV prog f20)).n (topK prog ev20 L f20 [1, 1, 0, 1] (outV prog f20)).x) L (S20_0 a0 (0 : Int) (0 : Int)) := by kernel_rfl
theorem r20_0 (L : Nat) (a0 : (List Int)) (k : St cxT.ty → Option (V cxT.ty)) (xk : Nat → St cxT.ty → Option (V cxT.ty)) (g : St cxT.ty → Option (V cxT.ty)) (v0_3 : Int) (v0_4 : Int) : roundF prog ev20 L f20 0 [1, 1, 0, 1, 0, 0] (outK (outV prog f20) k xk) g (S20_0 a0 v0_3 v0_4) =
  bif (decide (v0_4 < (Nat.cast (List.length a0) : Int))) then bif ((decide ((0 : Int) ≤ v0_4)) && (decide (v0_4 < (Nat.cast (List.length a0) : Int)))) then bif (decide ((Go.IntKind.wrap Go.IntKind.i64 (v0_4 + (1 : Int))) < (Nat.cast (List.length a0) : Int))) then bif ((decide ((0 : Int) ≤ (Go.IntKind.wrap Go.IntKind.i64 (v0_4 + (1 : Int))))) && (decide ((Go.IntKind.wrap Go.IntKind.i64 (v0_4 + (1 : Int))) < (Nat.cast (List.length a0) : Int)))) then headF prog ev20 L f20 2 [1, 1, 0, 1, 0, 0, 1, 0, 0, 1, 1, 0, 0] (outK (outV prog f20) (inK prog ev20 L f20 0 [1, 1, 0, 1, 0, 0] [1, 0, 0, 1, 1] (outK (outV prog f20) k xk) g).n (inK prog ev20 L f20 0 [1, 1, 0, 1, 0, 0] [1, 0, 0, 1, 1] (outK (outV prog f20) k xk) g).x) L (S20_2 a0 v0_3 v0_4 (Go.IntKind.wrap Go.IntKind.i64 ((Go.IntKind.wrap Go.IntKind.i64 (v0_3 + (Go.IntKind.wrap Go.IntKind.i64 ((256 : Int) * (Go.IntKind.wrap Go.IntKind.i64 (List.getD a0 (Int.toNat v0_4) (0 : Int))))))) + (Go.IntKind.wrap Go.IntKind.i64 (List.getD a0 (Int.toNat (Go.IntKind.wrap Go.IntKind.i64 (v0_4 + (1 : Int)))) (0 : Int))))))
        else none
      else headF prog ev20 L f20 2 [1, 1, 0, 1, 0, 0, 1, 0, 0, 1, 1, 0, 0] (outK (outV prog f20) (inK prog ev20 L f20 0 [1, 1, 0, 1, 0, 0] [1, 0, 0, 1, 1] (outK (outV prog f20) k xk) g).n (inK prog ev20 L f20 0 [1, 1, 0, 1, 0, 0] [1, 0, 0, 1, 1] (outK (outV prog f20) k xk) g).x) L (S20_2 a0 v0_3 v0_4 (Go.IntKind.wrap Go.IntKind.i64 (v0_3 + (Go.IntKind.wrap Go.IntKind.i64 ((256 : Int) * (Go.IntKind.wrap Go.IntKind.i64 (List.getD a0 (Int.toNat v0_4) (0 : Int))))))))
    else none
  else k (X20_0 a0 v0_3) := by kernel_rfl
theorem t20_0 (L : Nat) (a0 : (List Int)) (w0_3 : Int) : (topK prog ev20 L f20 [1, 1, 0, 1] (outV prog f20)).n (X20_0 a0 w0_3) =
  some (n20 (Go.IntKind.wrap Go.IntKind.i64 ((65535 : Int) - w0_3))) := by kernel_rfl
theorem r20_2 (L : Nat) (a0 : (List Int)) (v0_3 : Int) (v0_4 : Int) (k : St cxT.ty → Option (V cxT.ty)) (xk : Nat → St cxT.ty → Option (V cxT.ty)) (g : St cxT.ty → Option (V cxT.ty)) (v2_3 : Int) : roundF prog ev20 L f20 2 [1, 1, 0, 1, 0, 0, 1, 0, 0, 1, 1, 0, 0] (outK (outV prog f20) k xk) g (S20_2 a0 v0_3 v0_4 v2_3) =
  bif (decide (v2_3 > (65535 : Int))) then g (S20_2 a0 v0_3 v0_4 (Go.IntKind.wrap Go.IntKind.i64 (v2_3 - (65535 : Int))))
  else k (X20_2 a0 v0_3 v0_4 v2_3) := by kernel_rfl
theorem t20_2 (L : Nat) (a0 : (List Int)) (v0_3 : Int) (v0_4 : Int) (k : St cxT.ty → Option (V cxT.ty)) (xk : Nat → St cxT.ty → Option (V cxT.ty)) (g : St cxT.ty → Option (V cxT.ty)) (w2_3 : Int) : (inK prog ev20 L f20 0 [1, 1, 0, 1, 0, 0] [1, 0, 0, 1, 1] (outK (outV prog f20) k xk) g).n (X20_2 a0 v0_3 v0_4 w2_3) =
  g (S20_0 a0 w2_3 (Go.IntKind.wrap Go.IntKind.i64 (v0_4 + (2 : Int)))) := by kernel_rfl
def l20_2 (L : Nat) (a0 : (List Int)) (v0_3 : Int) (v0_4 : Int) : Nat → Int → (Int → Option Int) → Option Int
  | 0, _, _ => none
  | n + 1, v2_3, k =>
    bif (decide (v2_3 > (65535 : Int))) then l20_2 L a0 v0_3 v0_4 n (Go.IntKind.wrap Go.IntKind.i64 (v2_3 - (65535 : Int))) k
    else k v2_3
theorem h20_2 (L : Nat) (a0 : (List Int)) (v0_3 : Int) (v0_4 : Int) (k : St cxT.ty → Option (V cxT.ty)) (xk : Nat → St cxT.ty → Option (V cxT.ty)) (k' : Int → Option Int) (hk : ∀ (w2_3 : Int), k (X20_2 a0 v0_3 v0_4 w2_3) = (k' w2_3).map n20) : ∀ (n : Nat) (v2_3 : Int), headF prog ev20 L f20 2 [1, 1, 0, 1, 0, 0, 1, 0, 0, 1, 1, 0, 0] (outK (outV prog f20) k xk) n (S20_2 a0 v0_3 v0_4 v2_3) = (l20_2 L a0 v0_3 v0_4 n v2_3 k').map n20
  | 0, _ => rfl
  | n + 1, v2_3 => by
    rw [headF_round, r20_2]
    have ih := h20_2 L a0 v0_3 v0_4 k xk k' hk n
    simp only [l20_2, map_bif, Option.map_some, Option.map_none, ih, hk]
def l20_0 (L : Nat) (a0 : (List Int)) : Nat → Int → Int → (Int → Option Int) → Option Int
  | 0, _, _, _ => none
  | n + 1, v0_3, v0_4, k =>
    bif (decide (v0_4 < (Nat.cast (List.length a0) : Int))) then bif ((decide ((0 : Int) ≤ v0_4)) && (decide (v0_4 < (Nat.cast (List.length a0) : Int)))) then bif (decide ((Go.IntKind.wrap Go.IntKind.i64 (v0_4 + (1 : Int))) < (Nat.cast (List.length a0) : Int))) then bif ((decide ((0 : Int) ≤ (Go.IntKind.wrap Go.IntKind.i64 (v0_4 + (1 : Int))))) && (decide ((Go.IntKind.wrap Go.IntKind.i64 (v0_4 + (1 : Int))) < (Nat.cast (List.length a0) : Int)))) then l20_2 L a0 v0_3 v0_4 L (Go.IntKind.wrap Go.IntKind.i64 ((Go.IntKind.wrap Go.IntKind.i64 (v0_3 + (Go.IntKind.wrap Go.IntKind.i64 ((256 : Int) * (Go.IntKind.wrap Go.IntKind.i64 (List.getD a0 (Int.toNat v0_4) (0 : Int))))))) + (Go.IntKind.wrap Go.IntKind.i64 (List.getD a0 (Int.toNat (Go.IntKind.wrap Go.IntKind.i64 (v0_4 + (1 : Int)))) (0 : Int))))) (fun (w2_3 : Int) => l20_0 L a0 n w2_3 (Go.IntKind.wrap Go.IntKind.i64 (v0_4 + (2 : Int))) k)
          else none
        else l20_2 L a0 v0_3 v0_4 L (Go.IntKind.wrap Go.IntKind.i64 (v0_3 + (Go.IntKind.wrap Go.IntKind.i64 ((256 : Int) * (Go.IntKind.wrap Go.IntKind.i64 (List.getD a0 (Int.toNat v0_4) (0 : Int))))))) (fun (w2_3 : Int) => l20_0 L a0 n w2_3 (Go.IntKind.wrap Go.IntKind.i64 (v0_4 + (2 : Int))) k)
      else none
    else k v0_3
theorem h20_0 (L : Nat) (a0 : (List Int)) (k : St cxT.ty → Option (V cxT.ty)) (xk : Nat → St cxT.ty → Option (V cxT.ty)) (k' : Int → Option Int) (hk : ∀ (w0_3 : Int), k (X20_0 a0 w0_3) = (k' w0_3).map n20) : ∀ (n : Nat) (v0_3 : Int) (v0_4 : Int), headF prog ev20 L f20 0 [1, 1, 0, 1, 0, 0] (outK (outV prog f20) k xk) n (S20_0 a0 v0_3 v0_4) = (l20_0 L a0 n v0_3 v0_4 k').map n20
  | 0, _, _ => rfl
  | n + 1, v0_3, v0_4 => by
    rw [headF_round, r20_0]
    have ih := h20_0 L a0 k xk k' hk n
    let K'2 : Int → Option Int := (fun (w2_3 : Int) => l20_0 L a0 n w2_3 (Go.IntKind.wrap Go.IntKind.i64 (v0_4 + (2 : Int))) k')
    have hin2 : ∀ (v2_3 : Int), headF prog ev20 L f20 2 [1, 1, 0, 1, 0, 0, 1, 0, 0, 1, 1, 0, 0] (outK (outV prog f20) (inK prog ev20 L f20 0 [1, 1, 0, 1, 0, 0] [1, 0, 0, 1, 1] (outK (outV prog f20) k xk) (headF prog ev20 L f20 0 [1, 1, 0, 1, 0, 0] (outK (outV prog f20) k xk) n)).n (inK prog ev20 L f20 0 [1, 1, 0, 1, 0, 0] [1, 0, 0, 1, 1] (outK (outV prog f20) k xk) (headF prog ev20 L f20 0 [1, 1, 0, 1, 0, 0] (outK (outV prog f20) k xk) n)).x) L (S20_2 a0 v0_3 v0_4 v2_3) = (l20_2 L a0 v0_3 v0_4 L v2_3 K'2).map n20 := fun v2_3 => h20_2 L a0 v0_3 v0_4 _ _ (K'2) (fun w2_3 => by rw [t20_2]; simp only [K'2, map_bif, Option.map_some, Option.map_none, ih, hk]) L v2_3
    simp only [l20_0, map_bif, Option.map_some, Option.map_none, ih, hk, hin2, K'2]
def g20 (L : Nat) (a0 : (List Int)) : Option Int :=
  l20_0 L a0 L (0 : Int) (0 : Int) (fun (w0_3 : Int) => some (Go.IntKind.wrap Go.IntKind.i64 ((65535 : Int) - w0_3)))
theorem e20 (L : Nat) (a0 : (List Int)) : evF prog ev20 (loopN L) f20 (a20.enc a0) = (g20 L a0).map n20 := by
  let K'0 : Int → Option Int := (fun (w0_3 : Int) => some (Go.IntKind.wrap Go.IntKind.i64 ((65535 : Int) - w0_3)))
  have hin0 : ∀ (v0_3 : Int) (v0_4 : Int), headF prog ev20 L f20 0 [1, 1, 0, 1, 0, 0] (outK (outV prog f20) (topK prog ev20 L f20 [1, 1, 0, 1] (outV prog f20)).n (topK prog ev20 L f20 [1, 1, 0, 1] (outV prog f20)).x) L (S20_0 a0 v0_3 v0_4) = (l20_0 L a0 L v0_3 v0_4 K'0).map n20 := fun v0_3 v0_4 => h20_0 L a0 _ _ K'0 (fun w0_3 => by rw [t20_0]; simp only [K'0, map_bif, Option.map_some, Option.map_none]) L v0_3 v0_4
  rw [i20]; simp only [g20, map_bif, Option.map_some, Option.map_none, hin0, K'0]
theorem s20 (m : (List Int) → Option Int) (hm : ∀ (x : (List Int)) t, m x = some t → ∃ L, g20 L x = some t) : Sat prog cxT 20 (c20 m) :=
  sat_t cxT_ok cxT_pok (by rfl) (fn := f20) rfl a20 n20 dd20 m ev20 kok_nil kwok_nil (fun L x => g20 L x) (fun L x => e20 L x) hm hs20
/-! loop.example/g00222/spec.TakeNumber -/
def ev29 (m47 : (Int × Int × Int) → Option Bool) (m55 : ((List Int) × Int × Int) → Option Int) : Env cxT := { Kc := kcOf [(47, c47 m47), (55, c55 m55)], Kw := kwOf [], lv := fun i => [], xv := fun i => none }
theorem i29 (m47 : (Int × Int × Int) → Option Bool) (m55 : ((List Int) × Int × Int) → Option Int) (L : Nat) (a0 : (List Int)) (a1 : Int) (a2 : Int) : evF prog (ev29 m47 m55) (loopN L) f29 (a29.enc (a0, a1, a2)) =
  bif (Option.isSome (m47 (a2, ((1 : Int), (6 : Int))))) then bif (!(Option.getD (m47 (a2, ((1 : Int), (6 : Int)))) Bool.false)) then some (n29 ((3 : Int), (0 : Int)))
    else bif (Option.isSome (m47 (a1, ((0 : Int), (Go.IntKind.wrap Go.IntKind.i64 ((Nat.cast (List.length a0) : Int) - a2)))))) then bif (!(Option.getD (m47 (a1, ((0 : Int), (Go.IntKind.wrap Go.IntKind.i64 ((Nat.cast (List.length a0) : Int) - a2))))) Bool.false)) then some (n29 ((3 : Int), (0 : Int)))
      else bif (Option.isSome (m55 (a0, (a1, a2)))) then some (n29 ((0 : Int), (Option.getD (m55 (a0, (a1, a2))) (0 : Int))))
      else none
    else none
  else none := by kernel_rfl
def g29 (m47 : (Int × Int × Int) → Option Bool) (m55 : ((List Int) × Int × Int) → Option Int) (L : Nat) (a0 : (List Int)) (a1 : Int) (a2 : Int) : Option (Int × Int) :=
  bif (Option.isSome (m47 (a2, ((1 : Int), (6 : Int))))) then bif (!(Option.getD (m47 (a2, ((1 : Int), (6 : Int)))) Bool.false)) then some ((3 : Int), (0 : Int))
    else bif (Option.isSome (m47 (a1, ((0 : Int), (Go.IntKind.wrap Go.IntKind.i64 ((Nat.cast (List.length a0) : Int) - a2)))))) then bif (!(Option.getD (m47 (a1, ((0 : Int), (Go.IntKind.wrap Go.IntKind.i64 ((Nat.cast (List.length a0) : Int) - a2))))) Bool.false)) then some ((3 : Int), (0 : Int))
      else bif (Option.isSome (m55 (a0, (a1, a2)))) then some ((0 : Int), (Option.getD (m55 (a0, (a1, a2))) (0 : Int)))
      else none
    else none
  else none
theorem e29 (m47 : (Int × Int × Int) → Option Bool) (m55 : ((List Int) × Int × Int) → Option Int) (L : Nat) (a0 : (List Int)) (a1 : Int) (a2 : Int) : evF prog (ev29 m47 m55) (loopN L) f29 (a29.enc (a0, a1, a2)) = (g29 m47 m55 L a0 a1 a2).map n29 := by
  rw [i29]; simp only [g29, map_bif, Option.map_some, Option.map_none]
theorem s29 (m47 : (Int × Int × Int) → Option Bool) (m55 : ((List Int) × Int × Int) → Option Int) (h47 : Sat prog cxT 47 (c47 m47)) (h55 : Sat prog cxT 55 (c55 m55)) (m : ((List Int) × Int × Int) → Option (Int × Int)) (hm : ∀ (x : ((List Int) × Int × Int)) t, m x = some t → ∃ L, g29 m47 m55 L x.1 x.2.1 x.2.2 = some t) : Sat prog cxT 29 (c29 m) :=
  sat_t cxT_ok cxT_pok (by rfl) (fn := f29) rfl a29 n29 dd29 m (ev29 m47 m55) (kok_cons h47 (kok_cons h55 kok_nil)) kwok_nil (fun L x => g29 m47 m55 L x.1 x.2.1 x.2.2) (fun L x => e29 m47 m55 L x.1 x.2.1 x.2.2) hm hs29
/-! loop.example/g00222/laws.toByteS -/
def ev30 : Env cxT := { Kc := kcOf [], Kw := kwOf [], lv := fun i => if i = 0 then [(0, [some 5]), (3, [some 5]), (4, [])] else [], xv := fun i => if i = 0 then some [(3, [some 5])] else none }
def S30_0 (a0 : (List Int)) (v0_3 : (List Int)) (v0_4 : Int) : St cxT.ty := { slots := [(.inl (.inl (ls { own := 0, nm := 0, e := 5, o := false, xs := a0 }))), junk, junk, (.inl (.inl (ls { own := 1, nm := 192, e := 5, o := true, xs := v0_3 }))), (.inl (.inl (lv (.int .i64 v0_4))))] ++ List.replicate 17 junk, D := [], F := [], ctr := 1 }
def X30_0 (a0 : (List Int)) (w0_3 : (List Int)) : St cxT.ty := { slots := [junk, junk, junk, (.inl (.inl (ls { own := 1, nm := 192, e := 5, o := true, xs := w0_3 })))] ++ List.replicate 18 junk, D := [], F := [], ctr := 1 }
theorem i30 (L : Nat) (a0 : (List Int)) : evF prog ev30 (loopN L) f30 (a30.enc a0) =
  bif (((decide ((0 : Int) ≤ (Nat.cast (List.length a0) : Int))) && (decide ((Nat.cast (List.length a0) : Int) ≤ (Nat.cast (List.length a0) : Int)))) && (decide ((Nat.cast (List.length a0) : Int) ≤ (1000000000 : Int)))) then headF prog ev30 L f30 0 [1, 1, 0, 1, 0, 0] (outK (outV prog f30) (topK prog ev30 L f30 [1, 1, 0, 1] (outV prog f30)).n (topK prog ev30 L f30 [1, 1, 0, 1] (outV prog f30)).x) L (S30_0 a0 (List.replicate (Int.toNat (Nat.cast (List.length a0) : Int)) (0 : Int)) (0 : Int))
  else none := by kernel_rfl
theorem r30_0 (L : Nat) (a0 : (List Int)) (k : St cxT.ty → Option (V cxT.ty)) (xk : Nat → St cxT.ty → Option (V cxT.ty)) (g : St cxT.ty → Option (V cxT.ty)) (v0_3 : (List Int)) (v0_4 : Int) : roundF prog ev30 L f30 0 [1, 1, 0, 1, 0, 0] (outK (outV prog f30) k xk) g (S30_0 a0 v0_3 v0_4) =
  bif (decide (v0_4 < (Nat.cast (List.length a0) : Int))) then bif ((decide ((0 : Int) ≤ v0_4)) && (decide (v0_4 < (Nat.cast (List.length a0) : Int)))) then bif ((decide ((0 : Int) ≤ v0_4)) && (decide (v0_4 < (Nat.cast (List.length v0_3) : Int)))) then g (S30_0 a0 (List.set v0_3 (Int.toNat v0_4) (List.getD a0 (Int.toNat v0_4) (0 : Int))) (Go.IntKind.wrap Go.IntKind.i64 (v0_4 + (1 : Int))))
      else none
    else none
  else k (X30_0 a0 v0_3) := by kernel_rfl
theorem t30_0 (L : Nat) (a0 : (List Int)) (w0_3 : (List Int)) : (topK prog ev30 L f30 [1, 1, 0, 1] (outV prog f30)).n (X30_0 a0 w0_3) =
  some (n30 w0_3) := by kernel_rfl
def l30_0 (L : Nat) (a0 : (List Int)) : Nat → (List Int) → Int → ((List Int) → Option (List Int)) → Option (List Int)
  | 0, _, _, _ => none
  | n + 1, v0_3, v0_4, k =>
    bif (decide (v0_4 < (Nat.cast (List.length a0) : Int))) then bif ((decide ((0 : Int) ≤ v0_4)) && (decide (v0_4 < (Nat.cast (List.length a0) : Int)))) then bif ((decide ((0 : Int) ≤ v0_4)) && (decide (v0_4 < (Nat.cast (List.length v0_3) : Int)))) then l30_0 L a0 n (List.set v0_3 (Int.toNat v0_4) (List.getD a0 (Int.toNat v0_4) (0 : Int))) (Go.IntKind.wrap Go.IntKind.i64 (v0_4 + (1 : Int))) k
        else none
      else none
    else k v0_3
theorem h30_0 (L : Nat) (a0 : (List Int)) (k : St cxT.ty → Option (V cxT.ty)) (xk : Nat → St cxT.ty → Option (V cxT.ty)) (k' : (List Int) → Option (List Int)) (hk : ∀ (w0_3 : (List Int)), k (X30_0 a0 w0_3) = (k' w0_3).map n30) : ∀ (n : Nat) (v0_3 : (List Int)) (v0_4 : Int), headF prog ev30 L f30 0 [1, 1, 0, 1, 0, 0] (outK (outV prog f30) k xk) n (S30_0 a0 v0_3 v0_4) = (l30_0 L a0 n v0_3 v0_4 k').map n30
  | 0, _, _ => rfl
  | n + 1, v0_3, v0_4 => by
    rw [headF_round, r30_0]
    have ih := h30_0 L a0 k xk k' hk n
    simp only [l30_0, map_bif, Option.map_some, Option.map_none, ih, hk]
def g30 (L : Nat) (a0 : (List Int)) : Option (List Int) :=
  bif (((decide ((0 : Int) ≤ (Nat.cast (List.length a0) : Int))) && (decide ((Nat.cast (List.length a0) : Int) ≤ (Nat.cast (List.length a0) : Int)))) && (decide ((Nat.cast (List.length a0) : Int) ≤ (1000000000 : Int)))) then l30_0 L a0 L (List.replicate (Int.toNat (Nat.cast (List.length a0) : Int)) (0 : Int)) (0 : Int) (fun (w0_3 : (List Int)) => some w0_3)
  else none
theorem e30 (L : Nat) (a0 : (List Int)) : evF prog ev30 (loopN L) f30 (a30.enc a0) = (g30 L a0).map n30 := by
  let K'0 : (List Int) → Option (List Int) := (fun (w0_3 : (List Int)) => some w0_3)
  have hin0 : ∀ (v0_3 : (List Int)) (v0_4 : Int), headF prog ev30 L f30 0 [1, 1, 0, 1, 0, 0] (outK (outV prog f30) (topK prog ev30 L f30 [1, 1, 0, 1] (outV prog f30)).n (topK prog ev30 L f30 [1, 1, 0, 1] (outV prog f30)).x) L (S30_0 a0 v0_3 v0_4) = (l30_0 L a0 L v0_3 v0_4 K'0).map n30 := fun v0_3 v0_4 => h30_0 L a0 _ _ K'0 (fun w0_3 => by rw [t30_0]; simp only [K'0, map_bif, Option.map_some, Option.map_none]) L v0_3 v0_4
  rw [i30]; simp only [g30, map_bif, Option.map_some, Option.map_none, hin0, K'0]
theorem s30 (m : (List Int) → Option (List Int)) (hm : ∀ (x : (List Int)) t, m x = some t → ∃ L, g30 L x = some t) : Sat prog cxT 30 (c30 m) :=
  sat_t cxT_ok cxT_pok (by rfl) (fn := f30) rfl a30 n30 dd30 m ev30 kok_nil kwok_nil (fun L x => g30 L x) (fun L x => e30 L x) hm hs30
/-! loop.example/g00222/laws.eqIntResult -/
def ev31 : Env cxT := { Kc := kcOf [], Kw := kwOf [], lv := fun i => [], xv := fun i => none }
theorem i31 (L : Nat) (a0_0 : Int) (a0_1 : Int) (a1_0 : Int) (a1_1 : Int) : evF prog ev31 (loopN L) f31 (a31.enc ((a0_0, a0_1), (a1_0, a1_1))) =
  bif (a0_0 != a1_0) then some (n31 Bool.false)
  else bif (a0_1 != a1_1) then some (n31 Bool.false)
  else some (n31 Bool.true) := by kernel_rfl
def g31 (L : Nat) (a0_0 : Int) (a0_1 : Int) (a1_0 : Int) (a1_1 : Int) : Option Bool :=
  bif (a0_0 != a1_0) then some Bool.false
  else bif (a0_1 != a1_1) then some Bool.false
  else some Bool.true
theorem e31 (L : Nat) (a0_0 : Int) (a0_1 : Int) (a1_0 : Int) (a1_1 : Int) : evF prog ev31 (loopN L) f31 (a31.enc ((a0_0, a0_1), (a1_0, a1_1))) = (g31 L a0_0 a0_1 a1_0 a1_1).map n31 := by
  rw [i31]; simp only [g31, map_bif, Option.map_some, Option.map_none]
theorem s31 (m : ((Int × Int) × (Int × Int)) → Option Bool) (hm : ∀ (x : ((Int × Int) × (Int × Int))) t, m x = some t → ∃ L, g31 L x.1.1 x.1.2 x.2.1 x.2.2 = some t) : Sat prog cxT 31 (c31 m) :=
  sat_t cxT_ok cxT_pok (by rfl) (fn := f31) rfl a31 n31 dd31 m ev31 kok_nil kwok_nil (fun L x => g31 L x.1.1 x.1.2 x.2.1 x.2.2) (fun L x => e31 L x.1.1 x.1.2 x.2.1 x.2.2) hm hs31
/-! loop.example/g00222/laws.eqByteS -/
def ev32 : Env cxT := { Kc := kcOf [], Kw := kwOf [], lv := fun i => if i = 0 then [(0, [some 5]), (1, [some 5]), (5, [])] else [], xv := fun i => if i = 0 then some [] else none }
def S32_0 (a0 : (List Int)) (a1 : (List Int)) (v0_5 : Int) : St cxT.ty := { slots := [(.inl (.inl (ls { own := 0, nm := 0, e := 5, o := false, xs := a0 }))), (.inl (.inl (ls { own := 0, nm := 0, e := 5, o := false, xs := a1 }))), junk, junk, junk, (.inl (.inl (lv (.int .i64 v0_5))))] ++ List.replicate 20 junk, D := [], F := [], ctr := 1 }
def X32_0 (a0 : (List Int)) (a1 : (List Int)) : St cxT.ty := { slots := [] ++ List.replicate 26 junk, D := [], F := [], ctr := 1 }
theorem i32 (L : Nat) (a0 : (List Int)) (a1 : (List Int)) : evF prog ev32 (loopN L) f32 (a32.enc (a0, a1)) =
  bif ((Nat.cast (List.length a0) : Int) != (Nat.cast (List.length a1) : Int)) then some (n32 Bool.false)
  else headF prog ev32 L f32 0 [1, 1, 0, 1, 0, 0] (outK (outV prog f32) (topK prog ev32 L f32 [1, 1, 0, 1] (outV prog f32)).n (topK prog ev32 L f32 [1, 1, 0, 1] (outV prog f32)).x) L (S32_0 a0 a1 (0 : Int)) := by kernel_rfl
theorem r32_0 (L : Nat) (a0 : (List Int)) (a1 : (List Int)) (k : St cxT.ty → Option (V cxT.ty)) (xk : Nat → St cxT.ty → Option (V cxT.ty)) (g : St cxT.ty → Option (V cxT.ty)) (v0_5 : Int) : roundF prog ev32 L f32 0 [1, 1, 0, 1, 0, 0] (outK (outV prog f32) k xk) g (S32_0 a0 a1 v0_5) =
  bif (decide (v0_5 < (Nat.cast (List.length a0) : Int))) then bif ((decide ((0 : Int) ≤ v0_5)) && (decide (v0_5 < (Nat.cast (List.length a0) : Int)))) then bif ((decide ((0 : Int) ≤ v0_5)) && (decide (v0_5 < (Nat.cast (List.length a1) : Int)))) then bif ((List.getD a0 (Int.toNat v0_5) (0 : Int)) != (List.getD a1 (Int.toNat v0_5) (0 : Int))) then some (n32 Bool.false)
        else g (S32_0 a0 a1 (Go.IntKind.wrap Go.IntKind.i64 (v0_5 + (1 : Int))))
      else none
    else none
  else k (X32_0 a0 a1) := by kernel_rfl
theorem t32_0 (L : Nat) (a0 : (List Int)) (a1 : (List Int)) : (topK prog ev32 L f32 [1, 1, 0, 1] (outV prog f32)).n (X32_0 a0 a1) =
  some (n32 Bool.true) := by kernel_rfl
def l32_0 (L : Nat) (a0 : (List Int)) (a1 : (List Int)) : Nat → Int → (Option Bool) → Option Bool
  | 0, _, _ => none
  | n + 1, v0_5, k =>
    bif (decide (v0_5 < (Nat.cast (List.length a0) : Int))) then bif ((decide ((0 : Int) ≤ v0_5)) && (decide (v0_5 < (Nat.cast (List.length a0) : Int)))) then bif ((decide ((0 : Int) ≤ v0_5)) && (decide (v0_5 < (Nat.cast (List.length a1) : Int)))) then bif ((List.getD a0 (Int.toNat v0_5) (0 : Int)) != (List.getD a1 (Int.toNat v0_5) (0 : Int))) then some Bool.false
          else l32_0 L a0 a1 n (Go.IntKind.wrap Go.IntKind.i64 (v0_5 + (1 : Int))) k
        else none
      else none
    else k
theorem h32_0 (L : Nat) (a0 : (List Int)) (a1 : (List Int)) (k : St cxT.ty → Option (V cxT.ty)) (xk : Nat → St cxT.ty → Option (V cxT.ty)) (k' : Option Bool) (hk : k (X32_0 a0 a1) = (k').map n32) : ∀ (n : Nat) (v0_5 : Int), headF prog ev32 L f32 0 [1, 1, 0, 1, 0, 0] (outK (outV prog f32) k xk) n (S32_0 a0 a1 v0_5) = (l32_0 L a0 a1 n v0_5 k').map n32
  | 0, _ => rfl
  | n + 1, v0_5 => by
    rw [headF_round, r32_0]
    have ih := h32_0 L a0 a1 k xk k' hk n
    simp only [l32_0, map_bif, Option.map_some, Option.map_none, ih, hk]
def g32 (L : Nat) (a0 : (List Int)) (a1 : (List Int)) : Option Bool :=
  bif ((Nat.cast (List.length a0) : Int) != (Nat.cast (List.length a1) : Int)) then some Bool.false
  else l32_0 L a0 a1 L (0 : Int) (some Bool.true)
theorem e32 (L : Nat) (a0 : (List Int)) (a1 : (List Int)) : evF prog ev32 (loopN L) f32 (a32.enc (a0, a1)) = (g32 L a0 a1).map n32 := by
  let K'0 : Option Bool := (some Bool.true)
  have hin0 : ∀ (v0_5 : Int), headF prog ev32 L f32 0 [1, 1, 0, 1, 0, 0] (outK (outV prog f32) (topK prog ev32 L f32 [1, 1, 0, 1] (outV prog f32)).n (topK prog ev32 L f32 [1, 1, 0, 1] (outV prog f32)).x) L (S32_0 a0 a1 v0_5) = (l32_0 L a0 a1 L v0_5 K'0).map n32 := fun v0_5 => h32_0 L a0 a1 _ _ K'0 (by rw [t32_0]; simp only [K'0, map_bif, Option.map_some, Option.map_none]) L v0_5
  rw [i32]; simp only [g32, map_bif, Option.map_some, Option.map_none, hin0, K'0]
theorem s32 (m : ((List Int) × (List Int)) → Option Bool) (hm : ∀ (x : ((List Int) × (List Int))) t, m x = some t → ∃ L, g32 L x.1 x.2 = some t) : Sat prog cxT 32 (c32 m) :=
  sat_t cxT_ok cxT_pok (by rfl) (fn := f32) rfl a32 n32 dd32 m ev32 kok_nil kwok_nil (fun L x => g32 L x.1 x.2) (fun L x => e32 L x.1 x.2) hm hs32
/-! loop.example/g00222/spec.WholeSum -/
def ev33 (m20 : (List Int) → Option Int) : Env cxT := { Kc := kcOf [(20, c20 m20)], Kw := kwOf [], lv := fun i => [], xv := fun i => none }
theorem i33 (m20 : (List Int) → Option Int) (L : Nat) (a0 : (List Int)) : evF prog (ev33 m20) (loopN L) f33 (a33.enc a0) =
  bif (Option.isSome (m20 a0)) then some (n33 ((Option.getD (m20 a0) (0 : Int)) == (0 : Int)))
  else none := by kernel_rfl
def g33 (m20 : (List Int) → Option Int) (L : Nat) (a0 : (List Int)) : Option Bool :=
  bif (Option.isSome (m20 a0)) then some ((Option.getD (m20 a0) (0 : Int)) == (0 : Int))
  else none
theorem e33 (m20 : (List Int) → Option Int) (L : Nat) (a0 : (List Int)) : evF prog (ev33 m20) (loopN L) f33 (a33.enc a0) = (g33 m20 L a0).map n33 := by
  rw [i33]; simp only [g33, map_bif, Option.map_some, Option.map_none]
theorem s33 (m20 : (List Int) → Option Int) (h20 : Sat prog cxT 20 (c20 m20)) (m : (List Int) → Option Bool) (hm : ∀ (x : (List Int)) t, m x = some t → ∃ L, g33 m20 L x = some t) : Sat prog cxT 33 (c33 m) :=
  sat_t cxT_ok cxT_pok (by rfl) (fn := f33) rfl a33 n33 dd33 m (ev33 m20) (kok_cons h20 kok_nil) kwok_nil (fun L x => g33 m20 L x) (fun L x => e33 m20 L x) hm hs33
/-! loop.example/g00222/impl.isNumberSize -/
def ev44 : Env cxT := { Kc := kcOf [], Kw := kwOf [], lv := fun i => [], xv := fun i => none }
theorem i44 (L : Nat) (a0 : Int) : evF prog ev44 (loopN L) f44 (a44.enc a0) =
  bif (decide (a0 ≥ (1 : Int))) then some (n44 (decide (a0 ≤ (6 : Int))))
  else some (n44 Bool.false) := by kernel_rfl
def g44 (L : Nat) (a0 : Int) : Option Bool :=
  bif (decide (a0 ≥ (1 : Int))) then some (decide (a0 ≤ (6 : Int)))
  else some Bool.false
theorem e44 (L : Nat) (a0 : Int) : evF prog ev44 (loopN L) f44 (a44.enc a0) = (g44 L a0).map n44 := by
  rw [i44]; simp only [g44, map_bif, Option.map_some, Option.map_none]
theorem s44 (m : Int → Option Bool) (hm : ∀ (x : Int) t, m x = some t → ∃ L, g44 L x = some t) : Sat prog cxT 44 (c44 m) :=
  sat_t cxT_ok cxT_pok (by rfl) (fn := f44) rfl a44 n44 dd44 m ev44 kok_nil kwok_nil (fun L x => g44 L x) (fun L x => e44 L x) hm hs44
/-! loop.example/g00222/spec.l1In -/
def ev47 : Env cxT := { Kc := kcOf [], Kw := kwOf [], lv := fun i => [], xv := fun i => none }
theorem i47 (L : Nat) (a0 : Int) (a1 : Int) (a2 : Int) : evF prog ev47 (loopN L) f47 (a47.enc (a0, a1, a2)) =
  bif (decide (a0 ≥ a1)) then some (n47 (decide (a0 ≤ a2)))
  else some (n47 Bool.false) := by kernel_rfl
def g47 (L : Nat) (a0 : Int) (a1 : Int) (a2 : Int) : Option Bool :=
  bif (decide (a0 ≥ a1)) then some (decide (a0 ≤ a2))
  else some Bool.false
theorem e47 (L : Nat) (a0 : Int) (a1 : Int) (a2 : Int) : evF prog ev47 (loopN L) f47 (a47.enc (a0, a1, a2)) = (g47 L a0 a1 a2).map n47 := by
  rw [i47]; simp only [g47, map_bif, Option.map_some, Option.map_none]
theorem s47 (m : (Int × Int × Int) → Option Bool) (hm : ∀ (x : (Int × Int × Int)) t, m x = some t → ∃ L, g47 L x.1 x.2.1 x.2.2 = some t) : Sat prog cxT 47 (c47 m) :=
  sat_t cxT_ok cxT_pok (by rfl) (fn := f47) rfl a47 n47 dd47 m ev47 kok_nil kwok_nil (fun L x => g47 L x.1 x.2.1 x.2.2) (fun L x => e47 L x.1 x.2.1 x.2.2) hm hs47
/-! loop.example/g00222/impl.wordAt -/
def ev50 : Env cxT := { Kc := kcOf [], Kw := kwOf [], lv := fun i => [], xv := fun i => none }
theorem i50 (L : Nat) (a0 : (List Int)) (a1 : Int) : evF prog ev50 (loopN L) f50 (a50.enc (a0, a1)) =
  bif ((decide ((0 : Int) ≤ a1)) && (decide (a1 < (Nat.cast (List.length a0) : Int)))) then bif (decide ((Go.IntKind.wrap Go.IntKind.i64 (a1 + (1 : Int))) < (Nat.cast (List.length a0) : Int))) then bif ((decide ((0 : Int) ≤ (Go.IntKind.wrap Go.IntKind.i64 (a1 + (1 : Int))))) && (decide ((Go.IntKind.wrap Go.IntKind.i64 (a1 + (1 : Int))) < (Nat.cast (List.length a0) : Int)))) then some (n50 (Go.IntKind.wrap Go.IntKind.u64 (Nat.cast (BitVec.toNat (HOr.hOr (BitVec.ofInt (Go.IntKind.bits Go.IntKind.u64) (Go.IntKind.wrap Go.IntKind.u64 ((Go.IntKind.wrap Go.IntKind.u64 (List.getD a0 (Int.toNat a1) (0 : Int))) * ((2 : Int) ^ (min (Int.toNat (8 : Int)) (Go.IntKind.bits Go.IntKind.u64)))))) (BitVec.ofInt (Go.IntKind.bits Go.IntKind.u64) (Go.IntKind.wrap Go.IntKind.u64 (List.getD a0 (Int.toNat (Go.IntKind.wrap Go.IntKind.i64 (a1 + (1 : Int)))) (0 : Int)))))) : Int)))
      else none
    else some (n50 (Go.IntKind.wrap Go.IntKind.u64 ((Go.IntKind.wrap Go.IntKind.u64 (List.getD a0 (Int.toNat a1) (0 : Int))) * ((2 : Int) ^ (min (Int.toNat (8 : Int)) (Go.IntKind.bits Go.IntKind.u64))))))
  else none := by kernel_rfl
def g50 (L : Nat) (a0 : (List Int)) (a1 : Int) : Option Int :=
  bif ((decide ((0 : Int) ≤ a1)) && (decide (a1 < (Nat.cast (List.length a0) : Int)))) then bif (decide ((Go.IntKind.wrap Go.IntKind.i64 (a1 + (1 : Int))) < (Nat.cast (List.length a0) : Int))) then bif ((decide ((0 : Int) ≤ (Go.IntKind.wrap Go.IntKind.i64 (a1 + (1 : Int))))) && (decide ((Go.IntKind.wrap Go.IntKind.i64 (a1 + (1 : Int))) < (Nat.cast (List.length a0) : Int)))) then some (Go.IntKind.wrap Go.IntKind.u64 (Nat.cast (BitVec.toNat (HOr.hOr (BitVec.ofInt (Go.IntKind.bits Go.IntKind.u64) (Go.IntKind.wrap Go.IntKind.u64 ((Go.IntKind.wrap Go.IntKind.u64 (List.getD a0 (Int.toNat a1) (0 : Int))) * ((2 : Int) ^ (min (Int.toNat (8 : Int)) (Go.IntKind.bits Go.IntKind.u64)))))) (BitVec.ofInt (Go.IntKind.bits Go.IntKind.u64) (Go.IntKind.wrap Go.IntKind.u64 (List.getD a0 (Int.toNat (Go.IntKind.wrap Go.IntKind.i64 (a1 + (1 : Int)))) (0 : Int)))))) : Int))
      else none
    else some (Go.IntKind.wrap Go.IntKind.u64 ((Go.IntKind.wrap Go.IntKind.u64 (List.getD a0 (Int.toNat a1) (0 : Int))) * ((2 : Int) ^ (min (Int.toNat (8 : Int)) (Go.IntKind.bits Go.IntKind.u64)))))
  else none
theorem e50 (L : Nat) (a0 : (List Int)) (a1 : Int) : evF prog ev50 (loopN L) f50 (a50.enc (a0, a1)) = (g50 L a0 a1).map n50 := by
  rw [i50]; simp only [g50, map_bif, Option.map_some, Option.map_none]
theorem s50 (m : ((List Int) × Int) → Option Int) (hm : ∀ (x : ((List Int) × Int)) t, m x = some t → ∃ L, g50 L x.1 x.2 = some t) : Sat prog cxT 50 (c50 m) :=
  sat_t cxT_ok cxT_pok (by rfl) (fn := f50) rfl a50 n50 dd50 m ev50 kok_nil kwok_nil (fun L x => g50 L x.1 x.2) (fun L x => e50 L x.1 x.2) hm hs50
/-! loop.example/g00222/laws.markByteS -/
def ev34 : Env cxT := { Kc := kcOf [], Kw := kwOf [], lv := fun i => if i = 0 then [(0, [some 5]), (1, []), (5, [])] else [], xv := fun i => if i = 0 then some [(0, [some 5]), (1, [])] else none }
def S34_0 (a0 : (List Int)) (a1 : Int) (v0_0 : (List Int)) (v0_1 : Int) (v0_5 : Int) : St cxT.ty := { slots := [(.inl (.inl (ls { own := 1, nm := 0, e := 5, o := true, xs := v0_0 }))), (.inl (.inl (lv (.int .i64 v0_1)))), junk, junk, junk, (.inl (.inl (lv (.int .i64 v0_5))))] ++ List.replicate 14 junk, D := [], F := [], ctr := 1, lo := 1 }
def X34_0 (a0 : (List Int)) (a1 : Int) (w0_0 : (List Int)) (w0_1 : Int) : St cxT.ty := { slots := [(.inl (.inl (ls { own := 1, nm := 0, e := 5, o := true, xs := w0_0 }))), (.inl (.inl (lv (.int .i64 w0_1))))] ++ List.replicate 18 junk, D := [], F := [], ctr := 1, lo := 1 }
theorem i34 (L : Nat) (a0 : (List Int)) (a1 : Int) : evFW prog ev34 (loopN L) f34 1 (a34.enc (a0, a1)) =
  headF prog ev34 L f34 0 [1, 0, 1, 0, 0] (outK (outW prog f34 1) (topK prog ev34 L f34 [1, 0, 1] (outW prog f34 1)).n (topK prog ev34 L f34 [1, 0, 1] (outW prog f34 1)).x) L (S34_0 a0 a1 a0 a1 (0 : Int)) := by kernel_rfl
theorem r34_0 (L : Nat) (a0 : (List Int)) (a1 : Int) (k : St cxT.ty → Option (List (A cxT.ty))) (xk : Nat → St cxT.ty → Option (List (A cxT.ty))) (g : St cxT.ty → Option (List (A cxT.ty))) (v0_0 : (List Int)) (v0_1 : Int) (v0_5 : Int) : roundF prog ev34 L f34 0 [1, 0, 1, 0, 0] (outK (outW prog f34 1) k xk) g (S34_0 a0 a1 v0_0 v0_1 v0_5) =
  bif (decide (v0_5 < (Nat.cast (List.length v0_0) : Int))) then bif ((decide ((0 : Int) ≤ v0_5)) && (decide (v0_5 < (Nat.cast (List.length v0_0) : Int)))) then g (S34_0 a0 a1 (List.set v0_0 (Int.toNat v0_5) (Go.IntKind.wrap Go.IntKind.u8 v0_1)) (Go.IntKind.wrap Go.IntKind.i64 (v0_1 + (1 : Int))) (Go.IntKind.wrap Go.IntKind.i64 (v0_5 + (1 : Int))))
    else none
  else k (X34_0 a0 a1 v0_0 v0_1) := by kernel_rfl
theorem t34_0 (L : Nat) (a0 : (List Int)) (a1 : Int) (w0_0 : (List Int)) (w0_1 : Int) : (topK prog ev34 L f34 [1, 0, 1] (outW prog f34 1)).n (X34_0 a0 a1 w0_0 w0_1) =
  some (n34 (w0_1, w0_0)) := by kernel_rfl
def l34_0 (L : Nat) (a0 : (List Int)) (a1 : Int) : Nat → (List Int) → Int → Int → ((List Int) → Int → Option (Int × (List Int))) → Option (Int × (List Int))
  | 0, _, _, _, _ => none
  | n + 1, v0_0, v0_1, v0_5, k =>
    bif (decide (v0_5 < (Nat.cast (List.length v0_0) : Int))) then bif ((decide ((0 : Int) ≤ v0_5)) && (decide (v0_5 < (Nat.cast (List.length v0_0) : Int)))) then l34_0 L a0 a1 n (List.set v0_0 (Int.toNat v0_5) (Go.IntKind.wrap Go.IntKind.u8 v0_1)) (Go.IntKind.wrap Go.IntKind.i64 (v0_1 + (1 : Int))) (Go.IntKind.wrap Go.IntKind.i64 (v0_5 + (1 : Int))) k
      else none
    else k v0_0 v0_1
theorem h34_0 (L : Nat) (a0 : (List Int)) (a1 : Int) (k : St cxT.ty → Option (List (A cxT.ty))) (xk : Nat → St cxT.ty → Option (List (A cxT.ty))) (k' : (List Int) → Int → Option (Int × (List Int))) (hk : ∀ (w0_0 : (List Int)) (w0_1 : Int), k (X34_0 a0 a1 w0_0 w0_1) = (k' w0_0 w0_1).map n34) : ∀ (n : Nat) (v0_0 : (List Int)) (v0_1 : Int) (v0_5 : Int), headF prog ev34 L f34 0 [1, 0, 1, 0, 0] (outK (outW prog f34 1) k xk) n (S34_0 a0 a1 v0_0 v0_1 v0_5) = (l34_0 L a0 a1 n v0_0 v0_1 v0_5 k').map n34
  | 0, _, _, _ => rfl
  | n + 1, v0_0, v0_1, v0_5 => by
    rw [headF_round, r34_0]
    have ih := h34_0 L a0 a1 k xk k' hk n
    simp only [l34_0, map_bif, Option.map_some, Option.map_none, ih, hk]
def g34 (L : Nat) (a0 : (List Int)) (a1 : Int) : Option (Int × (List Int)) :=
  l34_0 L a0 a1 L a0 a1 (0 : Int) (fun (w0_0 : (List Int)) (w0_1 : Int) => some (w0_1, w0_0))
theorem e34 (L : Nat) (a0 : (List Int)) (a1 : Int) : evFW prog ev34 (loopN L) f34 1 (a34.enc (a0, a1)) = (g34 L a0 a1).map n34 := by
  let K'0 : (List Int) → Int → Option (Int × (List Int)) := (fun (w0_0 : (List Int)) (w0_1 : Int) => some (w0_1, w0_0))
  have hin0 : ∀ (v0_0 : (List Int)) (v0_1 : Int) (v0_5 : Int), headF prog ev34 L f34 0 [1, 0, 1, 0, 0] (outK (outW prog f34 1) (topK prog ev34 L f34 [1, 0, 1] (outW prog f34 1)).n (topK prog ev34 L f34 [1, 0, 1] (outW prog f34 1)).x) L (S34_0 a0 a1 v0_0 v0_1 v0_5) = (l34_0 L a0 a1 L v0_0 v0_1 v0_5 K'0).map n34 := fun v0_0 v0_1 v0_5 => h34_0 L a0 a1 _ _ K'0 (fun w0_0 w0_1 => by rw [t34_0]; simp only [K'0, map_bif, Option.map_some, Option.map_none]) L v0_0 v0_1 v0_5
  rw [i34]; simp only [g34, map_bif, Option.map_some, Option.map_none, hin0, K'0]
theorem s34 (m : ((List Int) × Int) → Option (Int × (List Int))) (hm : ∀ (x : ((List Int) × Int)) t, m x = some t → ∃ L, g34 L x.1 x.2 = some t) : SatW prog cxT 34 (c34 m).nres (c34 m).n (c34 m).F :=
  sat_w cxT_ok cxT_pok (by rfl) (fn := f34) rfl rfl a34 n34 dd34 m ev34 kok_nil kwok_nil (fun L x => g34 L x.1 x.2) (fun L x => e34 L x.1 x.2) hm hs34
/-! loop.example/g00222/laws.markBytesResult -/
def ev27 (m34 : ((List Int) × Int) → Option (Int × (List Int))) : Env cxT := { Kc := kcOf [], Kw := kwOf [(34, c34 m34)], lv := fun i => [], xv := fun i => none }
theorem i27 (m34 : ((List Int) × Int) → Option (Int × (List Int))) (L : Nat) (a0_0 : Int) (a0_1 : (List Int)) (a1 : Int) : evFW prog (ev27 m34) (loopN L) f27 1 (a27.enc ((a0_0, a0_1), a1)) =
  bif (Option.isSome (m34 (a0_1, a1))) then some (n27 ((Option.getD (m34 (a0_1, a1)) ((0 : Int), [])).1, a0_0, (Option.getD (m34 (a0_1, a1)) ((0 : Int), [])).2))
  else none := by kernel_rfl
def g27 (m34 : ((List Int) × Int) → Option (Int × (List Int))) (L : Nat) (a0_0 : Int) (a0_1 : (List Int)) (a1 : Int) : Option (Int × Int × (List Int)) :=
  bif (Option.isSome (m34 (a0_1, a1))) then some ((Option.getD (m34 (a0_1, a1)) ((0 : Int), [])).1, a0_0, (Option.getD (m34 (a0_1, a1)) ((0 : Int), [])).2)
  else none
theorem e27 (m34 : ((List Int) × Int) → Option (Int × (List Int))) (L : Nat) (a0_0 : Int) (a0_1 : (List Int)) (a1 : Int) : evFW prog (ev27 m34) (loopN L) f27 1 (a27.enc ((a0_0, a0_1), a1)) = (g27 m34 L a0_0 a0_1 a1).map n27 := by
  rw [i27]; simp only [g27, map_bif, Option.map_some, Option.map_none]
theorem s27 (m34 : ((List Int) × Int) → Option (Int × (List Int))) (h34 : SatW prog cxT 34 (c34 m34).nres (c34 m34).n (c34 m34).F) (m : ((Int × (List Int)) × Int) → Option (Int × Int × (List Int))) (hm : ∀ (x : ((Int × (List Int)) × Int)) t, m x = some t → ∃ L, g27 m34 L x.1.1 x.1.2 x.2 = some t) : SatW prog cxT 27 (c27 m).nres (c27 m).n (c27 m).F :=
  sat_w cxT_ok cxT_pok (by rfl) (fn := f27) rfl rfl a27 n27 dd27 m (ev27 m34) kok_nil (kwok_cons h34 kwok_nil) (fun L x => g27 m34 L x.1.1 x.1.2 x.2) (fun L x => e27 m34 L x.1.1 x.1.2 x.2) hm hs27
/-! loop.example/g00222/laws.heldByteS -/
def ev54 : Env cxT := { Kc := kcOf [], Kw := kwOf [], lv := fun i => if i = 0 then [(0, [some 5]), (1, []), (5, [])] else [], xv := fun i => if i = 0 then some [(1, [])] else none }
def S54_0 (a0 : (List Int)) (a1 : Int) (v0_1 : Int) (v0_5 : Int) : St cxT.ty := { slots := [(.inl (.inl (ls { own := 0, nm := 0, e := 5, o := false, xs := a0 }))), (.inl (.inl (lv (.int .i64 v0_1)))), junk, junk, junk, (.inl (.inl (lv (.int .i64 v0_5))))] ++ List.replicate 16 junk, D := [], F := [], ctr := 1 }
def X54_0 (a0 : (List Int)) (a1 : Int) (w0_1 : Int) : St cxT.ty := { slots := [junk, (.inl (.inl (lv (.int .i64 w0_1))))] ++ List.replicate 20 junk, D := [], F := [], ctr := 1 }
theorem i54 (L : Nat) (a0 : (List Int)) (a1 : Int) : evF prog ev54 (loopN L) f54 (a54.enc (a0, a1)) =
  headF prog ev54 L f54 0 [1, 0, 1, 0, 0] (outK (outV prog f54) (topK prog ev54 L f54 [1, 0, 1] (outV prog f54)).n (topK prog ev54 L f54 [1, 0, 1] (outV prog f54)).x) L (S54_0 a0 a1 a1 (0 : Int)) := by kernel_rfl
theorem r54_0 (L : Nat) (a0 : (List Int)) (a1 : Int) (k : St cxT.ty → Option (V cxT.ty)) (xk : Nat → St cxT.ty → Option (V cxT.ty)) (g : St cxT.ty → Option (V cxT.ty)) (v0_1 : Int) (v0_5 : Int) : roundF prog ev54 L f54 0 [1, 0, 1, 0, 0] (outK (outV prog f54) k xk) g (S54_0 a0 a1 v0_1 v0_5) =
  bif (decide (v0_5 < (Nat.cast (List.length a0) : Int))) then bif ((decide ((0 : Int) ≤ v0_5)) && (decide (v0_5 < (Nat.cast (List.length a0) : Int)))) then bif ((List.getD a0 (Int.toNat v0_5) (0 : Int)) != (Go.IntKind.wrap Go.IntKind.u8 v0_1)) then some (n54 (-(1 : Int)))
      else g (S54_0 a0 a1 (Go.IntKind.wrap Go.IntKind.i64 (v0_1 + (1 : Int))) (Go.IntKind.wrap Go.IntKind.i64 (v0_5 + (1 : Int))))
    else none
  else k (X54_0 a0 a1 v0_1) := by kernel_rfl
theorem t54_0 (L : Nat) (a0 : (List Int)) (a1 : Int) (w0_1 : Int) : (topK prog ev54 L f54 [1, 0, 1] (outV prog f54)).n (X54_0 a0 a1 w0_1) =
  some (n54 w0_1) := by kernel_rfl
def l54_0 (L : Nat) (a0 : (List Int)) (a1 : Int) : Nat → Int → Int → (Int → Option Int) → Option Int
  | 0, _, _, _ => none
  | n + 1, v0_1, v0_5, k =>
    bif (decide (v0_5 < (Nat.cast (List.length a0) : Int))) then bif ((decide ((0 : Int) ≤ v0_5)) && (decide (v0_5 < (Nat.cast (List.length a0) : Int)))) then bif ((List.getD a0 (Int.toNat v0_5) (0 : Int)) != (Go.IntKind.wrap Go.IntKind.u8 v0_1)) then some (-(1 : Int))
        else l54_0 L a0 a1 n (Go.IntKind.wrap Go.IntKind.i64 (v0_1 + (1 : Int))) (Go.IntKind.wrap Go.IntKind.i64 (v0_5 + (1 : Int))) k
      else none
    else k v0_1
theorem h54_0 (L : Nat) (a0 : (List Int)) (a1 : Int) (k : St cxT.ty → Option (V cxT.ty)) (xk : Nat → St cxT.ty → Option (V cxT.ty)) (k' : Int → Option Int) (hk : ∀ (w0_1 : Int), k (X54_0 a0 a1 w0_1) = (k' w0_1).map n54) : ∀ (n : Nat) (v0_1 : Int) (v0_5 : Int), headF prog ev54 L f54 0 [1, 0, 1, 0, 0] (outK (outV prog f54) k xk) n (S54_0 a0 a1 v0_1 v0_5) = (l54_0 L a0 a1 n v0_1 v0_5 k').map n54
  | 0, _, _ => rfl
  | n + 1, v0_1, v0_5 => by
    rw [headF_round, r54_0]
    have ih := h54_0 L a0 a1 k xk k' hk n
    simp only [l54_0, map_bif, Option.map_some, Option.map_none, ih, hk]
def g54 (L : Nat) (a0 : (List Int)) (a1 : Int) : Option Int :=
  l54_0 L a0 a1 L a1 (0 : Int) (fun (w0_1 : Int) => some w0_1)
theorem e54 (L : Nat) (a0 : (List Int)) (a1 : Int) : evF prog ev54 (loopN L) f54 (a54.enc (a0, a1)) = (g54 L a0 a1).map n54 := by
  let K'0 : Int → Option Int := (fun (w0_1 : Int) => some w0_1)
  have hin0 : ∀ (v0_1 : Int) (v0_5 : Int), headF prog ev54 L f54 0 [1, 0, 1, 0, 0] (outK (outV prog f54) (topK prog ev54 L f54 [1, 0, 1] (outV prog f54)).n (topK prog ev54 L f54 [1, 0, 1] (outV prog f54)).x) L (S54_0 a0 a1 v0_1 v0_5) = (l54_0 L a0 a1 L v0_1 v0_5 K'0).map n54 := fun v0_1 v0_5 => h54_0 L a0 a1 _ _ K'0 (fun w0_1 => by rw [t54_0]; simp only [K'0, map_bif, Option.map_some, Option.map_none]) L v0_1 v0_5
  rw [i54]; simp only [g54, map_bif, Option.map_some, Option.map_none, hin0, K'0]
theorem s54 (m : ((List Int) × Int) → Option Int) (hm : ∀ (x : ((List Int) × Int)) t, m x = some t → ∃ L, g54 L x.1 x.2 = some t) : Sat prog cxT 54 (c54 m) :=
  sat_t cxT_ok cxT_pok (by rfl) (fn := f54) rfl a54 n54 dd54 m ev54 kok_nil kwok_nil (fun L x => g54 L x.1 x.2) (fun L x => e54 L x.1 x.2) hm hs54
/-! loop.example/g00222/laws.heldBytesResult -/
def ev28 (m54 : ((List Int) × Int) → Option Int) : Env cxT := { Kc := kcOf [(54, c54 m54)], Kw := kwOf [], lv := fun i => [], xv := fun i => none }
theorem i28 (m54 : ((List Int) × Int) → Option Int) (L : Nat) (a0_0 : Int) (a0_1 : (List Int)) (a1 : Int) : evF prog (ev28 m54) (loopN L) f28 (a28.enc ((a0_0, a0_1), a1)) =
  bif (Option.isSome (m54 (a0_1, a1))) then bif (decide ((Option.getD (m54 (a0_1, a1)) (0 : Int)) < (0 : Int))) then some (n28 (-(1 : Int)))
    else some (n28 (Option.getD (m54 (a0_1, a1)) (0 : Int)))
  else none := by kernel_rfl
def g28 (m54 : ((List Int) × Int) → Option Int) (L : Nat) (a0_0 : Int) (a0_1 : (List Int)) (a1 : Int) : Option Int :=
  bif (Option.isSome (m54 (a0_1, a1))) then bif (decide ((Option.getD (m54 (a0_1, a1)) (0 : Int)) < (0 : Int))) then some (-(1 : Int))
    else some (Option.getD (m54 (a0_1, a1)) (0 : Int))
  else none
theorem e28 (m54 : ((List Int) × Int) → Option Int) (L : Nat) (a0_0 : Int) (a0_1 : (List Int)) (a1 : Int) : evF prog (ev28 m54) (loopN L) f28 (a28.enc ((a0_0, a0_1), a1)) = (g28 m54 L a0_0 a0_1 a1).map n28 := by
  rw [i28]; simp only [g28, map_bif, Option.map_some, Option.map_none]
theorem s28 (m54 : ((List Int) × Int) → Option Int) (h54 : Sat prog cxT 54 (c54 m54)) (m : ((Int × (List Int)) × Int) → Option Int) (hm : ∀ (x : ((Int × (List Int)) × Int)) t, m x = some t → ∃ L, g28 m54 L x.1.1 x.1.2 x.2 = some t) : Sat prog cxT 28 (c28 m) :=
  sat_t cxT_ok cxT_pok (by rfl) (fn := f28) rfl a28 n28 dd28 m (ev28 m54) (kok_cons h54 kok_nil) kwok_nil (fun L x => g28 m54 L x.1.1 x.1.2 x.2) (fun L x => e28 m54 L x.1.1 x.1.2 x.2) hm hs28
/-! loop.example/g00222/laws.FnExactPutNumber -/
def ev6 (m15 : (Int × Int) → Option (Int × (List Int))) (m14 : (Int × Int) → Option (Int × (List Int))) (m26 : ((Int × (List Int)) × (Int × (List Int))) → Option Bool) (m27 : ((Int × (List Int)) × Int) → Option (Int × Int × (List Int))) (m28 : ((Int × (List Int)) × Int) → Option Int) : Env cxT := { Kc := kcOf [(15, c15 m15), (14, c14 m14), (26, c26 m26), (28, c28 m28)], Kw := kwOf [(27, c27 m27)], lv := fun i => [], xv := fun i => none }
theorem i6 (m15 : (Int × Int) → Option (Int × (List Int))) (m14 : (Int × Int) → Option (Int × (List Int))) (m26 : ((Int × (List Int)) × (Int × (List Int))) → Option Bool) (m27 : ((Int × (List Int)) × Int) → Option (Int × Int × (List Int))) (m28 : ((Int × (List Int)) × Int) → Option Int) (L : Nat) (a0 : Int) (a1 : Int) : evF prog (ev6 m15 m14 m26 m27 m28) (loopN L) f6 (a6.enc (a0, a1)) =
  bif (Option.isSome (m15 (a0, a1))) then bif (Option.isSome (m14 (a0, a1))) then bif (Option.isSome (m26 (((Option.getD (m14 (a0, a1)) ((0 : Int), [])).1, (Option.getD (m14 (a0, a1)) ((0 : Int), [])).2), ((Option.getD (m15 (a0, a1)) ((0 : Int), [])).1, (Option.getD (m15 (a0, a1)) ((0 : Int), [])).2)))) then bif (!(Option.getD (m26 (((Option.getD (m14 (a0, a1)) ((0 : Int), [])).1, (Option.getD (m14 (a0, a1)) ((0 : Int), [])).2), ((Option.getD (m15 (a0, a1)) ((0 : Int), [])).1, (Option.getD (m15 (a0, a1)) ((0 : Int), [])).2))) Bool.false)) then some (n6 Bool.false)
        else bif (Option.isSome (m27 (((Option.getD (m14 (a0, a1)) ((0 : Int), [])).1, (Option.getD (m14 (a0, a1)) ((0 : Int), [])).2), (1 : Int)))) then bif (Option.isSome (m28 (((Option.getD (m14 (a0, a1)) ((0 : Int), [])).1, (Option.getD (m27 (((Option.getD (m14 (a0, a1)) ((0 : Int), [])).1, (Option.getD (m14 (a0, a1)) ((0 : Int), [])).2), (1 : Int))) ((0 : Int), ((0 : Int), []))).2.2), (1 : Int)))) then bif (decide ((Option.getD (m28 (((Option.getD (m14 (a0, a1)) ((0 : Int), [])).1, (Option.getD (m27 (((Option.getD (m14 (a0, a1)) ((0 : Int), [])).1, (Option.getD (m14 (a0, a1)) ((0 : Int), [])).2), (1 : Int))) ((0 : Int), ((0 : Int), []))).2.2), (1 : Int))) (0 : Int)) < (0 : Int))) then some (n6 Bool.false)
            else bif ((Option.getD (m28 (((Option.getD (m14 (a0, a1)) ((0 : Int), [])).1, (Option.getD (m27 (((Option.getD (m14 (a0, a1)) ((0 : Int), [])).1, (Option.getD (m14 (a0, a1)) ((0 : Int), [])).2), (1 : Int))) ((0 : Int), ((0 : Int), []))).2.2), (1 : Int))) (0 : Int)) != (Option.getD (m27 (((Option.getD (m14 (a0, a1)) ((0 : Int), [])).1, (Option.getD (m14 (a0, a1)) ((0 : Int), [])).2), (1 : Int))) ((0 : Int), ((0 : Int), []))).1) then some (n6 Bool.false)
            else bif (Option.isSome (m14 (a0, a1))) then bif (Option.isSome (m26 (((Option.getD (m14 (a0, a1)) ((0 : Int), [])).1, (Option.getD (m14 (a0, a1)) ((0 : Int), [])).2), ((Option.getD (m15 (a0, a1)) ((0 : Int), [])).1, (Option.getD (m15 (a0, a1)) ((0 : Int), [])).2)))) then bif (!(Option.getD (m26 (((Option.getD (m14 (a0, a1)) ((0 : Int), [])).1, (Option.getD (m14 (a0, a1)) ((0 : Int), [])).2), ((Option.getD (m15 (a0, a1)) ((0 : Int), [])).1, (Option.getD (m15 (a0, a1)) ((0 : Int), [])).2))) Bool.false)) then some (n6 Bool.false)
                else bif (Option.isSome (m28 (((Option.getD (m14 (a0, a1)) ((0 : Int), [])).1, (Option.getD (m27 (((Option.getD (m14 (a0, a1)) ((0 : Int), [])).1, (Option.getD (m14 (a0, a1)) ((0 : Int), [])).2), (1 : Int))) ((0 : Int), ((0 : Int), []))).2.2), (1 : Int)))) then bif (decide ((Option.getD (m28 (((Option.getD (m14 (a0, a1)) ((0 : Int), [])).1, (Option.getD (m27 (((Option.getD (m14 (a0, a1)) ((0 : Int), [])).1, (Option.getD (m14 (a0, a1)) ((0 : Int), [])).2), (1 : Int))) ((0 : Int), ((0 : Int), []))).2.2), (1 : Int))) (0 : Int)) < (0 : Int))) then some (n6 Bool.false)
                  else bif ((Option.getD (m28 (((Option.getD (m14 (a0, a1)) ((0 : Int), [])).1, (Option.getD (m27 (((Option.getD (m14 (a0, a1)) ((0 : Int), [])).1, (Option.getD (m14 (a0, a1)) ((0 : Int), [])).2), (1 : Int))) ((0 : Int), ((0 : Int), []))).2.2), (1 : Int))) (0 : Int)) != (Option.getD (m27 (((Option.getD (m14 (a0, a1)) ((0 : Int), [])).1, (Option.getD (m14 (a0, a1)) ((0 : Int), [])).2), (1 : Int))) ((0 : Int), ((0 : Int), []))).1) then some (n6 Bool.false)
                  else some (n6 Bool.true)
                else none
              else none
            else none
          else none
        else none
      else none
    else none
  else none := by kernel_rfl
def g6 (m15 : (Int × Int) → Option (Int × (List Int))) (m14 : (Int × Int) → Option (Int × (List Int))) (m26 : ((Int × (List Int)) × (Int × (List Int))) → Option Bool) (m27 : ((Int × (List Int)) × Int) → Option (Int × Int × (List Int))) (m28 : ((Int × (List Int)) × Int) → Option Int) (L : Nat) (a0 : Int) (a1 : Int) : Option Bool :=
  bif (Option.isSome (m15 (a0, a1))) then bif (Option.isSome (m14 (a0, a1))) then bif (Option.isSome (m26 (((Option.getD (m14 (a0, a1)) ((0 : Int), [])).1, (Option.getD (m14 (a0, a1)) ((0 : Int), [])).2), ((Option.getD (m15 (a0, a1)) ((0 : Int), [])).1, (Option.getD (m15 (a0, a1)) ((0 : Int), [])).2)))) then bif (!(Option.getD (m26 (((Option.getD (m14 (a0, a1)) ((0 : Int), [])).1, (Option.getD (m14 (a0, a1)) ((0 : Int), [])).2), ((Option.getD (m15 (a0, a1)) ((0 : Int), [])).1, (Option.getD (m15 (a0, a1)) ((0 : Int), [])).2))) Bool.false)) then some Bool.false
        else bif (Option.isSome (m27 (((Option.getD (m14 (a0, a1)) ((0 : Int), [])).1, (Option.getD (m14 (a0, a1)) ((0 : Int), [])).2), (1 : Int)))) then bif (Option.isSome (m28 (((Option.getD (m14 (a0, a1)) ((0 : Int), [])).1, (Option.getD (m27 (((Option.getD (m14 (a0, a1)) ((0 : Int), [])).1, (Option.getD (m14 (a0, a1)) ((0 : Int), [])).2), (1 : Int))) ((0 : Int), ((0 : Int), []))).2.2), (1 : Int)))) then bif (decide ((Option.getD (m28 (((Option.getD (m14 (a0, a1)) ((0 : Int), [])).1, (Option.getD (m27 (((Option.getD (m14 (a0, a1)) ((0 : Int), [])).1, (Option.getD (m14 (a0, a1)) ((0 : Int), [])).2), (1 : Int))) ((0 : Int), ((0 : Int), []))).2.2), (1 : Int))) (0 : Int)) < (0 : Int))) then some Bool.false
            else bif ((Option.getD (m28 (((Option.getD (m14 (a0, a1)) ((0 : Int), [])).1, (Option.getD (m27 (((Option.getD (m14 (a0, a1)) ((0 : Int), [])).1, (Option.getD (m14 (a0, a1)) ((0 : Int), [])).2), (1 : Int))) ((0 : Int), ((0 : Int), []))).2.2), (1 : Int))) (0 : Int)) != (Option.getD (m27 (((Option.getD (m14 (a0, a1)) ((0 : Int), [])).1, (Option.getD (m14 (a0, a1)) ((0 : Int), [])).2), (1 : Int))) ((0 : Int), ((0 : Int), []))).1) then some Bool.false
            else bif (Option.isSome (m14 (a0, a1))) then bif (Option.isSome (m26 (((Option.getD (m14 (a0, a1)) ((0 : Int), [])).1, (Option.getD (m14 (a0, a1)) ((0 : Int), [])).2), ((Option.getD (m15 (a0, a1)) ((0 : Int), [])).1, (Option.getD (m15 (a0, a1)) ((0 : Int), [])).2)))) then bif (!(Option.getD (m26 (((Option.getD (m14 (a0, a1)) ((0 : Int), [])).1, (Option.getD (m14 (a0, a1)) ((0 : Int), [])).2), ((Option.getD (m15 (a0, a1)) ((0 : Int), [])).1, (Option.getD (m15 (a0, a1)) ((0 : Int), [])).2))) Bool.false)) then some Bool.false
                else bif (Option.isSome (m28 (((Option.getD (m14 (a0, a1)) ((0 : Int), [])).1, (Option.getD (m27 (((Option.getD (m14 (a0, a1)) ((0 : Int), [])).1, (Option.getD (m14 (a0, a1)) ((0 : Int), [])).2), (1 : Int))) ((0 : Int), ((0 : Int), []))).2.2), (1 : Int)))) then bif (decide ((Option.getD (m28 (((Option.getD (m14 (a0, a1)) ((0 : Int), [])).1, (Option.getD (m27 (((Option.getD (m14 (a0, a1)) ((0 : Int), [])).1, (Option.getD (m14 (a0, a1)) ((0 : Int), [])).2), (1 : Int))) ((0 : Int), ((0 : Int), []))).2.2), (1 : Int))) (0 : Int)) < (0 : Int))) then some Bool.false
                  else bif ((Option.getD (m28 (((Option.getD (m14 (a0, a1)) ((0 : Int), [])).1, (Option.getD (m27 (((Option.getD (m14 (a0, a1)) ((0 : Int), [])).1, (Option.getD (m14 (a0, a1)) ((0 : Int), [])).2), (1 : Int))) ((0 : Int), ((0 : Int), []))).2.2), (1 : Int))) (0 : Int)) != (Option.getD (m27 (((Option.getD (m14 (a0, a1)) ((0 : Int), [])).1, (Option.getD (m14 (a0, a1)) ((0 : Int), [])).2), (1 : Int))) ((0 : Int), ((0 : Int), []))).1) then some Bool.false
                  else some Bool.true
                else none
              else none
            else none
          else none
        else none
      else none
    else none
  else none
theorem e6 (m15 : (Int × Int) → Option (Int × (List Int))) (m14 : (Int × Int) → Option (Int × (List Int))) (m26 : ((Int × (List Int)) × (Int × (List Int))) → Option Bool) (m27 : ((Int × (List Int)) × Int) → Option (Int × Int × (List Int))) (m28 : ((Int × (List Int)) × Int) → Option Int) (L : Nat) (a0 : Int) (a1 : Int) : evF prog (ev6 m15 m14 m26 m27 m28) (loopN L) f6 (a6.enc (a0, a1)) = (g6 m15 m14 m26 m27 m28 L a0 a1).map n6 := by
  rw [i6]; simp only [g6, map_bif, Option.map_some, Option.map_none]
theorem s6 (m15 : (Int × Int) → Option (Int × (List Int))) (m14 : (Int × Int) → Option (Int × (List Int))) (m26 : ((Int × (List Int)) × (Int × (List Int))) → Option Bool) (m27 : ((Int × (List Int)) × Int) → Option (Int × Int × (List Int))) (m28 : ((Int × (List Int)) × Int) → Option Int) (h15 : Sat prog cxT 15 (c15 m15)) (h14 : Sat prog cxT 14 (c14 m14)) (h26 : Sat prog cxT 26 (c26 m26)) (h27 : SatW prog cxT 27 (c27 m27).nres (c27 m27).n (c27 m27).F) (h28 : Sat prog cxT 28 (c28 m28)) (m : (Int × Int) → Option Bool) (hm : ∀ (x : (Int × Int)) t, m x = some t → ∃ L, g6 m15 m14 m26 m27 m28 L x.1 x.2 = some t) : Sat prog cxT 6 (c6 m) :=
  sat_t cxT_ok cxT_pok (by rfl) (fn := f6) rfl a6 n6 dd6 m (ev6 m15 m14 m26 m27 m28) (kok_cons h15 (kok_cons h14 (kok_cons h26 (kok_cons h28 kok_nil)))) (kwok_cons h27 kwok_nil) (fun L x => g6 m15 m14 m26 m27 m28 L x.1 x.2) (fun L x => e6 m15 m14 m26 m27 m28 L x.1 x.2) hm hs6
/-! loop.example/g00222/impl.PutNumber -/
def ev14 (m44 : Int → Option Bool) (m45 : Int → Option Int) (m46 : (Int × Int) → Option (List Int)) : Env cxT := { Kc := kcOf [(44, c44 m44), (45, c45 m45), (46, c46 m46)], Kw := kwOf [], lv := fun i => [], xv := fun i => none }
theorem i14 (m44 : Int → Option Bool) (m45 : Int → Option Int) (m46 : (Int × Int) → Option (List Int)) (L : Nat) (a0 : Int) (a1 : Int) : evF prog (ev14 m44 m45 m46) (loopN L) f14 (a14.enc (a0, a1)) =
  bif (Option.isSome (m44 a1)) then bif (!(Option.getD (m44 a1) Bool.false)) then some (n14 ((3 : Int), []))
    else bif (decide (a0 < (0 : Int))) then some (n14 ((3 : Int), []))
    else bif (Option.isSome (m45 a1)) then bif (decide ((Go.IntKind.wrap Go.IntKind.u64 a0) > (Option.getD (m45 a1) (0 : Int)))) then some (n14 ((3 : Int), []))
      else bif (Option.isSome (m46 ((Go.IntKind.wrap Go.IntKind.u64 a0), a1))) then some (n14 ((0 : Int), (Option.getD (m46 ((Go.IntKind.wrap Go.IntKind.u64 a0), a1)) [])))
      else none
    else none
  else none := by kernel_rfl
def g14 (m44 : Int → Option Bool) (m45 : Int → Option Int) (m46 : (Int × Int) → Option (List Int)) (L : Nat) (a0 : Int) (a1 : Int) : Option (Int × (List Int)) :=
  bif (Option.isSome (m44 a1)) then bif (!(Option.getD (m44 a1) Bool.false)) then some ((3 : Int), [])
    else bif (decide (a0 < (0 : Int))) then some ((3 : Int), [])
    else bif (Option.isSome (m45 a1)) then bif (decide ((Go.IntKind.wrap Go.IntKind.u64 a0) > (Option.getD (m45 a1) (0 : Int)))) then some ((3 : Int), [])
      else bif (Option.isSome (m46 ((Go.IntKind.wrap Go.IntKind.u64 a0), a1))) then some ((0 : Int), (Option.getD (m46 ((Go.IntKind.wrap Go.IntKind.u64 a0), a1)) []))
      else none
    else none
  else none
theorem e14 (m44 : Int → Option Bool) (m45 : Int → Option Int) (m46 : (Int × Int) → Option (List Int)) (L : Nat) (a0 : Int) (a1 : Int) : evF prog (ev14 m44 m45 m46) (loopN L) f14 (a14.enc (a0, a1)) = (g14 m44 m45 m46 L a0 a1).map n14 := by
  rw [i14]; simp only [g14, map_bif, Option.map_some, Option.map_none]
theorem s14 (m44 : Int → Option Bool) (m45 : Int → Option Int) (m46 : (Int × Int) → Option (List Int)) (h44 : Sat prog cxT 44 (c44 m44)) (h45 : Sat prog cxT 45 (c45 m45)) (h46 : Sat prog cxT 46 (c46 m46)) (m : (Int × Int) → Option (Int × (List Int))) (hm : ∀ (x : (Int × Int)) t, m x = some t → ∃ L, g14 m44 m45 m46 L x.1 x.2 = some t) : Sat prog cxT 14 (c14 m) :=
  sat_t cxT_ok cxT_pok (by rfl) (fn := f14) rfl a14 n14 dd14 m (ev14 m44 m45 m46) (kok_cons h44 (kok_cons h45 (kok_cons h46 kok_nil))) kwok_nil (fun L x => g14 m44 m45 m46 L x.1 x.2) (fun L x => e14 m44 m45 m46 L x.1 x.2) hm hs14
/-! loop.example/g00222/spec.l1Max -/
def ev41 : Env cxT := { Kc := kcOf [], Kw := kwOf [], lv := fun i => [], xv := fun i => none }
theorem i41 (L : Nat) (a0 : Int) (a1 : Int) : evF prog ev41 (loopN L) f41 (a41.enc (a0, a1)) =
  bif (decide (a0 > a1)) then some (n41 a0)
  else some (n41 a1) := by kernel_rfl
def g41 (L : Nat) (a0 : Int) (a1 : Int) : Option Int :=
  bif (decide (a0 > a1)) then some a0
  else some a1
theorem e41 (L : Nat) (a0 : Int) (a1 : Int) : evF prog ev41 (loopN L) f41 (a41.enc (a0, a1)) = (g41 L a0 a1).map n41 := by
  rw [i41]; simp only [g41, map_bif, Option.map_some, Option.map_none]
theorem s41 (m : (Int × Int) → Option Int) (hm : ∀ (x : (Int × Int)) t, m x = some t → ∃ L, g41 L x.1 x.2 = some t) : Sat prog cxT 41 (c41 m) :=
  sat_t cxT_ok cxT_pok (by rfl) (fn := f41) rfl a41 n41 dd41 m ev41 kok_nil kwok_nil (fun L x => g41 L x.1 x.2) (fun L x => e41 L x.1 x.2) hm hs41
/-! loop.example/g00222/spec.l1Min -/
def ev42 : Env cxT := { Kc := kcOf [], Kw := kwOf [], lv := fun i => [], xv := fun i => none }
theorem i42 (L : Nat) (a0 : Int) (a1 : Int) : evF prog ev42 (loopN L) f42 (a42.enc (a0, a1)) =
  bif (decide (a0 < a1)) then some (n42 a0)
  else some (n42 a1) := by kernel_rfl
def g42 (L : Nat) (a0 : Int) (a1 : Int) : Option Int :=
  bif (decide (a0 < a1)) then some a0
  else some a1
theorem e42 (L : Nat) (a0 : Int) (a1 : Int) : evF prog ev42 (loopN L) f42 (a42.enc (a0, a1)) = (g42 L a0 a1).map n42 := by
  rw [i42]; simp only [g42, map_bif, Option.map_some, Option.map_none]
theorem s42 (m : (Int × Int) → Option Int) (hm : ∀ (x : (Int × Int)) t, m x = some t → ∃ L, g42 L x.1 x.2 = some t) : Sat prog cxT 42 (c42 m) :=
  sat_t cxT_ok cxT_pok (by rfl) (fn := f42) rfl a42 n42 dd42 m ev42 kok_nil kwok_nil (fun L x => g42 L x.1 x.2) (fun L x => e42 L x.1 x.2) hm hs42
/-! loop.example/g00222/impl.greatestNumber -/
def ev45 : Env cxT := { Kc := kcOf [], Kw := kwOf [], lv := fun i => [], xv := fun i => none }
theorem i45 (L : Nat) (a0 : Int) : evF prog ev45 (loopN L) f45 (a45.enc a0) =
  bif (decide ((Go.IntKind.wrap Go.IntKind.u64 ((8 : Int) * (Go.IntKind.wrap Go.IntKind.u64 a0))) < (0 : Int))) then none
  else some (n45 (Go.IntKind.wrap Go.IntKind.u64 ((Go.IntKind.wrap Go.IntKind.u64 ((1 : Int) * ((2 : Int) ^ (min (Int.toNat (Go.IntKind.wrap Go.IntKind.u64 ((8 : Int) * (Go.IntKind.wrap Go.IntKind.u64 a0)))) (Go.IntKind.bits Go.IntKind.u64))))) - (1 : Int)))) := by kernel_rfl
def g45 (L : Nat) (a0 : Int) : Option Int :=
  bif (decide ((Go.IntKind.wrap Go.IntKind.u64 ((8 : Int) * (Go.IntKind.wrap Go.IntKind.u64 a0))) < (0 : Int))) then none
  else some (Go.IntKind.wrap Go.IntKind.u64 ((Go.IntKind.wrap Go.IntKind.u64 ((1 : Int) * ((2 : Int) ^ (min (Int.toNat (Go.IntKind.wrap Go.IntKind.u64 ((8 : Int) * (Go.IntKind.wrap Go.IntKind.u64 a0)))) (Go.IntKind.bits Go.IntKind.u64))))) - (1 : Int)))
theorem e45 (L : Nat) (a0 : Int) : evF prog ev45 (loopN L) f45 (a45.enc a0) = (g45 L a0).map n45 := by
  rw [i45]; simp only [g45, map_bif, Option.map_some, Option.map_none]
theorem s45 (m : Int → Option Int) (hm : ∀ (x : Int) t, m x = some t → ∃ L, g45 L x = some t) : Sat prog cxT 45 (c45 m) :=
  sat_t cxT_ok cxT_pok (by rfl) (fn := f45) rfl a45 n45 dd45 m ev45 kok_nil kwok_nil (fun L x => g45 L x) (fun L x => e45 L x) hm hs45
/-! loop.example/g00222/impl.numberBytes -/
def ev46 : Env cxT := { Kc := kcOf [], Kw := kwOf [], lv := fun i => if i = 0 then [(0, []), (5, [some 5]), (11, []), (12, [])] else [], xv := fun i => if i = 0 then some [(5, [some 5])] else none }
def S46_0 (a0 : Int) (a1 : Int) (v0_5 : (List Int)) (v0_12 : Int) : St cxT.ty := { slots := [(.inl (.inl (lv (.int .u64 a0)))), junk, junk, junk, junk, (.inl (.inl (ls { own := 1, nm := 320, e := 5, o := true, xs := v0_5 }))), junk, junk, junk, junk, junk, (.inl (.inl (lv (.int .i64 (Nat.cast (List.length (List.replicate (Int.toNat a1) (0 : Int))) : Int))))), (.inl (.inl (lv (.int .i64 v0_12))))] ++ List.replicate 18 junk, D := [], F := [], ctr := 1 }
def X46_0 (a0 : Int) (a1 : Int) (w0_5 : (List Int)) : St cxT.ty := { slots := [junk, junk, junk, junk, junk, (.inl (.inl (ls { own := 1, nm := 320, e := 5, o := true, xs := w0_5 })))] ++ List.replicate 25 junk, D := [], F := [], ctr := 1 }
theorem i46 (L : Nat) (a0 : Int) (a1 : Int) : evF prog ev46 (loopN L) f46 (a46.enc (a0, a1)) =
  bif (((decide ((0 : Int) ≤ a1)) && (decide (a1 ≤ a1))) && (decide (a1 ≤ (1000000000 : Int)))) then headF prog ev46 L f46 0 [1, 1, 0, 1, 0, 0] (outK (outV prog f46) (topK prog ev46 L f46 [1, 1, 0, 1] (outV prog f46)).n (topK prog ev46 L f46 [1, 1, 0, 1] (outV prog f46)).x) L (S46_0 a0 a1 (List.replicate (Int.toNat a1) (0 : Int)) (0 : Int))
  else none := by kernel_rfl
theorem r46_0 (L : Nat) (a0 : Int) (a1 : Int) (k : St cxT.ty → Option (V cxT.ty)) (xk : Nat → St cxT.ty → Option (V cxT.ty)) (g : St cxT.ty → Option (V cxT.ty)) (v0_5 : (List Int)) (v0_12 : Int) : roundF prog ev46 L f46 0 [1, 1, 0, 1, 0, 0] (outK (outV prog f46) k xk) g (S46_0 a0 a1 v0_5 v0_12) =
  bif (decide (v0_12 < (Nat.cast (List.length (List.replicate (Int.toNat a1) (0 : Int))) : Int))) then bif (decide ((Go.IntKind.wrap Go.IntKind.u64 ((8 : Int) * (Go.IntKind.wrap Go.IntKind.u64 (Go.IntKind.wrap Go.IntKind.i64 ((Go.IntKind.wrap Go.IntKind.i64 ((Nat.cast (List.length v0_5) : Int) - (1 : Int))) - v0_12))))) < (0 : Int))) then none
    else bif ((decide ((0 : Int) ≤ v0_12)) && (decide (v0_12 < (Nat.cast (List.length v0_5) : Int)))) then g (S46_0 a0 a1 (List.set v0_5 (Int.toNat v0_12) (Go.IntKind.wrap Go.IntKind.u8 (Int.fdiv a0 ((2 : Int) ^ (min (Int.toNat (Go.IntKind.wrap Go.IntKind.u64 ((8 : Int) * (Go.IntKind.wrap Go.IntKind.u64 (Go.IntKind.wrap Go.IntKind.i64 ((Go.IntKind.wrap Go.IntKind.i64 ((Nat.cast (List.length v0_5) : Int) - (1 : Int))) - v0_12)))))) (Go.IntKind.bits Go.IntKind.u64)))))) (Go.IntKind.wrap Go.IntKind.i64 (v0_12 + (1 : Int))))
    else none
  else k (X46_0 a0 a1 v0_5) := by kernel_rfl
theorem t46_0 (L : Nat) (a0 : Int) (a1 : Int) (w0_5 : (List Int)) : (topK prog ev46 L f46 [1, 1, 0, 1] (outV prog f46)).n (X46_0 a0 a1 w0_5) =
  some (n46 w0_5) := by kernel_rfl
def l46_0 (L : Nat) (a0 : Int) (a1 : Int) : Nat → (List Int) → Int → ((List Int) → Option (List Int)) → Option (List Int)
  | 0, _, _, _ => none
  | n + 1, v0_5, v0_12, k =>
    bif (decide (v0_12 < (Nat.cast (List.length (List.replicate (Int.toNat a1) (0 : Int))) : Int))) then bif (decide ((Go.IntKind.wrap Go.IntKind.u64 ((8 : Int) * (Go.IntKind.wrap Go.IntKind.u64 (Go.IntKind.wrap Go.IntKind.i64 ((Go.IntKind.wrap Go.IntKind.i64 ((Nat.cast (List.length v0_5) : Int) - (1 : Int))) - v0_12))))) < (0 : Int))) then none
      else bif ((decide ((0 : Int) ≤ v0_12)) && (decide (v0_12 < (Nat.cast (List.length v0_5) : Int)))) then l46_0 L a0 a1 n (List.set v0_5 (Int.toNat v0_12) (Go.IntKind.wrap Go.IntKind.u8 (Int.fdiv a0 ((2 : Int) ^ (min (Int.toNat (Go.IntKind.wrap Go.IntKind.u64 ((8 : Int) * (Go.IntKind.wrap Go.IntKind.u64 (Go.IntKind.wrap Go.IntKind.i64 ((Go.IntKind.wrap Go.IntKind.i64 ((Nat.cast (List.length v0_5) : Int) - (1 : Int))) - v0_12)))))) (Go.IntKind.bits Go.IntKind.u64)))))) (Go.IntKind.wrap Go.IntKind.i64 (v0_12 + (1 : Int))) k
      else none
    else k v0_5
theorem h46_0 (L : Nat) (a0 : Int) (a1 : Int) (k : St cxT.ty → Option (V cxT.ty)) (xk : Nat → St cxT.ty → Option (V cxT.ty)) (k' : (List Int) → Option (List Int)) (hk : ∀ (w0_5 : (List Int)), k (X46_0 a0 a1 w0_5) = (k' w0_5).map n46) : ∀ (n : Nat) (v0_5 : (List Int)) (v0_12 : Int), headF prog ev46 L f46 0 [1, 1, 0, 1, 0, 0] (outK (outV prog f46) k xk) n (S46_0 a0 a1 v0_5 v0_12) = (l46_0 L a0 a1 n v0_5 v0_12 k').map n46
  | 0, _, _ => rfl
  | n + 1, v0_5, v0_12 => by
    rw [headF_round, r46_0]
    have ih := h46_0 L a0 a1 k xk k' hk n
    simp only [l46_0, map_bif, Option.map_some, Option.map_none, ih, hk]
def g46 (L : Nat) (a0 : Int) (a1 : Int) : Option (List Int) :=
  bif (((decide ((0 : Int) ≤ a1)) && (decide (a1 ≤ a1))) && (decide (a1 ≤ (1000000000 : Int)))) then l46_0 L a0 a1 L (List.replicate (Int.toNat a1) (0 : Int)) (0 : Int) (fun (w0_5 : (List Int)) => some w0_5)
  else none
theorem e46 (L : Nat) (a0 : Int) (a1 : Int) : evF prog ev46 (loopN L) f46 (a46.enc (a0, a1)) = (g46 L a0 a1).map n46 := by
  let K'0 : (List Int) → Option (List Int) := (fun (w0_5 : (List Int)) => some w0_5)
  have hin0 : ∀ (v0_5 : (List Int)) (v0_12 : Int), headF prog ev46 L f46 0 [1, 1, 0, 1, 0, 0] (outK (outV prog f46) (topK prog ev46 L f46 [1, 1, 0, 1] (outV prog f46)).n (topK prog ev46 L f46 [1, 1, 0, 1] (outV prog f46)).x) L (S46_0 a0 a1 v0_5 v0_12) = (l46_0 L a0 a1 L v0_5 v0_12 K'0).map n46 := fun v0_5 v0_12 => h46_0 L a0 a1 _ _ K'0 (fun w0_5 => by rw [t46_0]; simp only [K'0, map_bif, Option.map_some, Option.map_none]) L v0_5 v0_12
  rw [i46]; simp only [g46, map_bif, Option.map_some, Option.map_none, hin0, K'0]
theorem s46 (m : (Int × Int) → Option (List Int)) (hm : ∀ (x : (Int × Int)) t, m x = some t → ∃ L, g46 L x.1 x.2 = some t) : Sat prog cxT 46 (c46 m) :=
  sat_t cxT_ok cxT_pok (by rfl) (fn := f46) rfl a46 n46 dd46 m ev46 kok_nil kwok_nil (fun L x => g46 L x.1 x.2) (fun L x => e46 L x.1 x.2) hm hs46
/-! loop.example/g00222/spec.l1Bytes -/
def ev48 : Env cxT := { Kc := kcOf [], Kw := kwOf [], lv := fun i => if i = 0 then [(0, []), (5, [some 5]), (6, [])] else [], xv := fun i => if i = 0 then some [(5, [some 5])] else none }
def S48_0 (a0 : Int) (a1 : Int) (v0_5 : (List Int)) (v0_6 : Int) : St cxT.ty := { slots := [(.inl (.inl (lv (.int .i64 a0)))), junk, junk, junk, junk, (.inl (.inl (ls { own := 1, nm := 320, e := 5, o := true, xs := v0_5 }))), (.inl (.inl (lv (.int .i64 v0_6))))] ++ List.replicate 17 junk, D := [], F := [], ctr := 1 }
def X48_0 (a0 : Int) (a1 : Int) (w0_5 : (List Int)) : St cxT.ty := { slots := [junk, junk, junk, junk, junk, (.inl (.inl (ls { own := 1, nm := 320, e := 5, o := true, xs := w0_5 })))] ++ List.replicate 18 junk, D := [], F := [], ctr := 1 }
theorem i48 (L : Nat) (a0 : Int) (a1 : Int) : evF prog ev48 (loopN L) f48 (a48.enc (a0, a1)) =
  headF prog ev48 L f48 0 [1, 1, 0, 1, 0, 0] (outK (outV prog f48) (topK prog ev48 L f48 [1, 1, 0, 1] (outV prog f48)).n (topK prog ev48 L f48 [1, 1, 0, 1] (outV prog f48)).x) L (S48_0 a0 a1 [] (Go.IntKind.wrap Go.IntKind.i64 (a1 - (1 : Int)))) := by kernel_rfl
theorem r48_0 (L : Nat) (a0 : Int) (a1 : Int) (k : St cxT.ty → Option (V cxT.ty)) (xk : Nat → St cxT.ty → Option (V cxT.ty)) (g : St cxT.ty → Option (V cxT.ty)) (v0_5 : (List Int)) (v0_6 : Int) : roundF prog ev48 L f48 0 [1, 1, 0, 1, 0, 0] (outK (outV prog f48) k xk) g (S48_0 a0 a1 v0_5 v0_6) =
  bif (decide (v0_6 ≥ (0 : Int))) then bif (decide ((Go.IntKind.wrap Go.IntKind.u64 (Go.IntKind.wrap Go.IntKind.i64 ((8 : Int) * v0_6))) < (0 : Int))) then none
    else bif (decide (((List.length v0_5) + (List.length (List.cons (Go.IntKind.wrap Go.IntKind.u8 (Int.fdiv a0 ((2 : Int) ^ (min (Int.toNat (Go.IntKind.wrap Go.IntKind.u64 (Go.IntKind.wrap Go.IntKind.i64 ((8 : Int) * v0_6)))) (Go.IntKind.bits Go.IntKind.i64))))) []))) ≤ (1000000000 : Nat))) then g (S48_0 a0 a1 (v0_5 ++ (List.cons (Go.IntKind.wrap Go.IntKind.u8 (Int.fdiv a0 ((2 : Int) ^ (min (Int.toNat (Go.IntKind.wrap Go.IntKind.u64 (Go.IntKind.wrap Go.IntKind.i64 ((8 : Int) * v0_6)))) (Go.IntKind.bits Go.IntKind.i64))))) [])) (Go.IntKind.wrap Go.IntKind.i64 (v0_6 - (1 : Int))))
    else none
  else k (X48_0 a0 a1 v0_5) := by kernel_rfl
theorem t48_0 (L : Nat) (a0 : Int) (a1 : Int) (w0_5 : (List Int)) : (topK prog ev48 L f48 [1, 1, 0, 1] (outV prog f48)).n (X48_0 a0 a1 w0_5) =
  some (n48 w0_5) := by kernel_rfl
def l48_0 (L : Nat) (a0 : Int) (a1 : Int) : Nat → (List Int) → Int → ((List Int) → Option (List Int)) → Option (List Int)
  | 0, _, _, _ => none
  | n + 1, v0_5, v0_6, k =>
    bif (decide (v0_6 ≥ (0 : Int))) then bif (decide ((Go.IntKind.wrap Go.IntKind.u64 (Go.IntKind.wrap Go.IntKind.i64 ((8 : Int) * v0_6))) < (0 : Int))) then none
      else bif (decide (((List.length v0_5) + (List.length (List.cons (Go.IntKind.wrap Go.IntKind.u8 (Int.fdiv a0 ((2 : Int) ^ (min (Int.toNat (Go.IntKind.wrap Go.IntKind.u64 (Go.IntKind.wrap Go.IntKind.i64 ((8 : Int) * v0_6)))) (Go.IntKind.bits Go.IntKind.i64))))) []))) ≤ (1000000000 : Nat))) then l48_0 L a0 a1 n (v0_5 ++ (List.cons (Go.IntKind.wrap Go.IntKind.u8 (Int.fdiv a0 ((2 : Int) ^ (min (Int.toNat (Go.IntKind.wrap Go.IntKind.u64 (Go.IntKind.wrap Go.IntKind.i64 ((8 : Int) * v0_6)))) (Go.IntKind.bits Go.IntKind.i64))))) [])) (Go.IntKind.wrap Go.IntKind.i64 (v0_6 - (1 : Int))) k
      else none
    else k v0_5
theorem h48_0 (L : Nat) (a0 : Int) (a1 : Int) (k : St cxT.ty → Option (V cxT.ty)) (xk : Nat → St cxT.ty → Option (V cxT.ty)) (k' : (List Int) → Option (List Int)) (hk : ∀ (w0_5 : (List Int)), k (X48_0 a0 a1 w0_5) = (k' w0_5).map n48) : ∀ (n : Nat) (v0_5 : (List Int)) (v0_6 : Int), headF prog ev48 L f48 0 [1, 1, 0, 1, 0, 0] (outK (outV prog f48) k xk) n (S48_0 a0 a1 v0_5 v0_6) = (l48_0 L a0 a1 n v0_5 v0_6 k').map n48
  | 0, _, _ => rfl
  | n + 1, v0_5, v0_6 => by
    rw [headF_round, r48_0]
    have ih := h48_0 L a0 a1 k xk k' hk n
    simp only [l48_0, map_bif, Option.map_some, Option.map_none, ih, hk]
def g48 (L : Nat) (a0 : Int) (a1 : Int) : Option (List Int) :=
  l48_0 L a0 a1 L [] (Go.IntKind.wrap Go.IntKind.i64 (a1 - (1 : Int))) (fun (w0_5 : (List Int)) => some w0_5)
theorem e48 (L : Nat) (a0 : Int) (a1 : Int) : evF prog ev48 (loopN L) f48 (a48.enc (a0, a1)) = (g48 L a0 a1).map n48 := by
  let K'0 : (List Int) → Option (List Int) := (fun (w0_5 : (List Int)) => some w0_5)
  have hin0 : ∀ (v0_5 : (List Int)) (v0_6 : Int), headF prog ev48 L f48 0 [1, 1, 0, 1, 0, 0] (outK (outV prog f48) (topK prog ev48 L f48 [1, 1, 0, 1] (outV prog f48)).n (topK prog ev48 L f48 [1, 1, 0, 1] (outV prog f48)).x) L (S48_0 a0 a1 v0_5 v0_6) = (l48_0 L a0 a1 L v0_5 v0_6 K'0).map n48 := fun v0_5 v0_6 => h48_0 L a0 a1 _ _ K'0 (fun w0_5 => by rw [t48_0]; simp only [K'0, map_bif, Option.map_some, Option.map_none]) L v0_5 v0_6
  rw [i48]; simp only [g48, map_bif, Option.map_some, Option.map_none, hin0, K'0]
theorem s48 (m : (Int × Int) → Option (List Int)) (hm : ∀ (x : (Int × Int)) t, m x = some t → ∃ L, g48 L x.1 x.2 = some t) : Sat prog cxT 48 (c48 m) :=
  sat_t cxT_ok cxT_pok (by rfl) (fn := f48) rfl a48 n48 dd48 m ev48 kok_nil kwok_nil (fun L x => g48 L x.1 x.2) (fun L x => e48 L x.1 x.2) hm hs48
/-! loop.example/g00222/spec.PutNumber -/
def ev15 (m47 : (Int × Int × Int) → Option Bool) (m42 : (Int × Int) → Option Int) (m41 : (Int × Int) → Option Int) (m48 : (Int × Int) → Option (List Int)) : Env cxT := { Kc := kcOf [(47, c47 m47), (42, c42 m42), (41, c41 m41), (48, c48 m48)], Kw := kwOf [], lv := fun i => [], xv := fun i => none }
theorem i15 (m47 : (Int × Int × Int) → Option Bool) (m42 : (Int × Int) → Option Int) (m41 : (Int × Int) → Option Int) (m48 : (Int × Int) → Option (List Int)) (L : Nat) (a0 : Int) (a1 : Int) : evF prog (ev15 m47 m42 m41 m48) (loopN L) f15 (a15.enc (a0, a1)) =
  bif (Option.isSome (m47 (a1, ((1 : Int), (6 : Int))))) then bif (!(Option.getD (m47 (a1, ((1 : Int), (6 : Int)))) Bool.false)) then some (n15 ((3 : Int), []))
    else bif (Option.isSome (m42 ((6 : Int), a1))) then bif (Option.isSome (m41 ((1 : Int), (Option.getD (m42 ((6 : Int), a1)) (0 : Int))))) then bif (decide ((Go.IntKind.wrap Go.IntKind.u64 (Go.IntKind.wrap Go.IntKind.i64 ((8 : Int) * (Option.getD (m41 ((1 : Int), (Option.getD (m42 ((6 : Int), a1)) (0 : Int)))) (0 : Int))))) < (0 : Int))) then none
        else bif (Option.isSome (m47 (a0, ((0 : Int), (Go.IntKind.wrap Go.IntKind.i64 ((Go.IntKind.wrap Go.IntKind.i64 ((1 : Int) * ((2 : Int) ^ (min (Int.toNat (Go.IntKind.wrap Go.IntKind.u64 (Go.IntKind.wrap Go.IntKind.i64 ((8 : Int) * (Option.getD (m41 ((1 : Int), (Option.getD (m42 ((6 : Int), a1)) (0 : Int)))) (0 : Int)))))) (Go.IntKind.bits Go.IntKind.i64))))) - (1 : Int))))))) then bif (!(Option.getD (m47 (a0, ((0 : Int), (Go.IntKind.wrap Go.IntKind.i64 ((Go.IntKind.wrap Go.IntKind.i64 ((1 : Int) * ((2 : Int) ^ (min (Int.toNat (Go.IntKind.wrap Go.IntKind.u64 (Go.IntKind.wrap Go.IntKind.i64 ((8 : Int) * (Option.getD (m41 ((1 : Int), (Option.getD (m42 ((6 : Int), a1)) (0 : Int)))) (0 : Int)))))) (Go.IntKind.bits Go.IntKind.i64))))) - (1 : Int)))))) Bool.false)) then some (n15 ((3 : Int), []))
          else bif (Option.isSome (m48 (a0, a1))) then some (n15 ((0 : Int), (Option.getD (m48 (a0, a1)) [])))
          else none
        else none
      else none
    else none
  else none := by kernel_rfl
def g15 (m47 : (Int × Int × Int) → Option Bool) (m42 : (Int × Int) → Option Int) (m41 : (Int × Int) → Option Int) (m48 : (Int × Int) → Option (List Int)) (L : Nat) (a0 : Int) (a1 : Int) : Option (Int × (List Int)) :=
  bif (Option.isSome (m47 (a1, ((1 : Int), (6 : Int))))) then bif (!(Option.getD (m47 (a1, ((1 : Int), (6 : Int)))) Bool.false)) then some ((3 : Int), [])
    else bif (Option.isSome (m42 ((6 : Int), a1))) then bif (Option.isSome (m41 ((1 : Int), (Option.getD (m42 ((6 : Int), a1)) (0 : Int))))) then bif (decide ((Go.IntKind.wrap Go.IntKind.u64 (Go.IntKind.wrap Go.IntKind.i64 ((8 : Int) * (Option.getD (m41 ((1 : Int), (Option.getD (m42 ((6 : Int), a1)) (0 : Int)))) (0 : Int))))) < (0 : Int))) then none
        else bif (Option.isSome (m47 (a0, ((0 : Int), (Go.IntKind.wrap Go.IntKind.i64 ((Go.IntKind.wrap Go.IntKind.i64 ((1 : Int) * ((2 : Int) ^ (min (Int.toNat (Go.IntKind.wrap Go.IntKind.u64 (Go.IntKind.wrap Go.IntKind.i64 ((8 : Int) * (Option.getD (m41 ((1 : Int), (Option.getD (m42 ((6 : Int), a1)) (0 : Int)))) (0 : Int)))))) (Go.IntKind.bits Go.IntKind.i64))))) - (1 : Int))))))) then bif (!(Option.getD (m47 (a0, ((0 : Int), (Go.IntKind.wrap Go.IntKind.i64 ((Go.IntKind.wrap Go.IntKind.i64 ((1 : Int) * ((2 : Int) ^ (min (Int.toNat (Go.IntKind.wrap Go.IntKind.u64 (Go.IntKind.wrap Go.IntKind.i64 ((8 : Int) * (Option.getD (m41 ((1 : Int), (Option.getD (m42 ((6 : Int), a1)) (0 : Int)))) (0 : Int)))))) (Go.IntKind.bits Go.IntKind.i64))))) - (1 : Int)))))) Bool.false)) then some ((3 : Int), [])
          else bif (Option.isSome (m48 (a0, a1))) then some ((0 : Int), (Option.getD (m48 (a0, a1)) []))
          else none
        else none
      else none
    else none
  else none
theorem e15 (m47 : (Int × Int × Int) → Option Bool) (m42 : (Int × Int) → Option Int) (m41 : (Int × Int) → Option Int) (m48 : (Int × Int) → Option (List Int)) (L : Nat) (a0 : Int) (a1 : Int) : evF prog (ev15 m47 m42 m41 m48) (loopN L) f15 (a15.enc (a0, a1)) = (g15 m47 m42 m41 m48 L a0 a1).map n15 := by
  rw [i15]; simp only [g15, map_bif, Option.map_some, Option.map_none]
theorem s15 (m47 : (Int × Int × Int) → Option Bool) (m42 : (Int × Int) → Option Int) (m41 : (Int × Int) → Option Int) (m48 : (Int × Int) → Option (List Int)) (h47 : Sat prog cxT 47 (c47 m47)) (h42 : Sat prog cxT 42 (c42 m42)) (h41 : Sat prog cxT 41 (c41 m41)) (h48 : Sat prog cxT 48 (c48 m48)) (m : (Int × Int) → Option (Int × (List Int))) (hm : ∀ (x : (Int × Int)) t, m x = some t → ∃ L, g15 m47 m42 m41 m48 L x.1 x.2 = some t) : Sat prog cxT 15 (c15 m) :=
  sat_t cxT_ok cxT_pok (by rfl) (fn := f15) rfl a15 n15 dd15 m (ev15 m47 m42 m41 m48) (kok_cons h47 (kok_cons h42 (kok_cons h41 (kok_cons h48 kok_nil)))) kwok_nil (fun L x => g15 m47 m42 m41 m48 L x.1 x.2) (fun L x => e15 m47 m42 m41 m48 L x.1 x.2) hm hs15
/-! loop.example/g00222/laws.eqBytesResult -/
def ev26 (m32 : ((List Int) × (List Int)) → Option Bool) : Env cxT := { Kc := kcOf [(32, c32 m32)], Kw := kwOf [], lv := fun i => [], xv := fun i => none }
theorem i26 (m32 : ((List Int) × (List Int)) → Option Bool) (L : Nat) (a0_0 : Int) (a0_1 : (List Int)) (a1_0 : Int) (a1_1 : (List Int)) : evF prog (ev26 m32) (loopN L) f26 (a26.enc ((a0_0, a0_1), (a1_0, a1_1))) =
  bif (a0_0 != a1_0) then some (n26 Bool.false)
  else bif (Option.isSome (m32 (a0_1, a1_1))) then bif (!(Option.getD (m32 (a0_1, a1_1)) Bool.false)) then some (n26 Bool.false)
    else some (n26 Bool.true)
  else none := by kernel_rfl
def g26 (m32 : ((List Int) × (List Int)) → Option Bool) (L : Nat) (a0_0 : Int) (a0_1 : (List Int)) (a1_0 : Int) (a1_1 : (List Int)) : Option Bool :=
  bif (a0_0 != a1_0) then some Bool.false
  else bif (Option.isSome (m32 (a0_1, a1_1))) then bif (!(Option.getD (m32 (a0_1, a1_1)) Bool.false)) then some Bool.false
    else some Bool.true
  else none
theorem e26 (m32 : ((List Int) × (List Int)) → Option Bool) (L : Nat) (a0_0 : Int) (a0_1 : (List Int)) (a1_0 : Int) (a1_1 : (List Int)) : evF prog (ev26 m32) (loopN L) f26 (a26.enc ((a0_0, a0_1), (a1_0, a1_1))) = (g26 m32 L a0_0 a0_1 a1_0 a1_1).map n26 := by
  rw [i26]; simp only [g26, map_bif, Option.map_some, Option.map_none]
theorem s26 (m32 : ((List Int) × (List Int)) → Option Bool) (h32 : Sat prog cxT 32 (c32 m32)) (m : ((Int × (List Int)) × (Int × (List Int))) → Option Bool) (hm : ∀ (x : ((Int × (List Int)) × (Int × (List Int)))) t, m x = some t → ∃ L, g26 m32 L x.1.1 x.1.2 x.2.1 x.2.2 = some t) : Sat prog cxT 26 (c26 m) :=
  sat_t cxT_ok cxT_pok (by rfl) (fn := f26) rfl a26 n26 dd26 m (ev26 m32) (kok_cons h32 kok_nil) kwok_nil (fun L x => g26 m32 L x.1.1 x.1.2 x.2.1 x.2.2) (fun L x => e26 m32 L x.1.1 x.1.2 x.2.1 x.2.2) hm hs26
/-! loop.example/g00222/impl.joinPieces -/
def ev51 : Env cxT := { Kc := kcOf [], Kw := kwOf [], lv := fun i => if i = 0 then [(3, [some 5]), (6, [some 22]), (7, []), (8, [])] else [], xv := fun i => if i = 0 then some [(3, [some 5])] else none }
def S51_0 (a0 : (List (List Int))) (v0_3 : (List Int)) (v0_8 : Int) : St cxT.ty := { slots := [junk, junk, junk, (.inl (.inl (ls { own := 1, nm := 192, e := 5, o := true, xs := v0_3 }))), junk, junk, (.inl (.inl (ls { own := 0, nm := 0, e := 22, o := false, xs := a0 }))), (.inl (.inl (lv (.int .i64 (Nat.cast (List.length a0) : Int))))), (.inl (.inl (lv (.int .i64 v0_8))))] ++ List.replicate 8 junk, D := [], F := [], ctr := 1 }
def X51_0 (a0 : (List (List Int))) (w0_3 : (List Int)) : St cxT.ty := { slots := [junk, junk, junk, (.inl (.inl (ls { own := 1, nm := 192, e := 5, o := true, xs := w0_3 })))] ++ List.replicate 13 junk, D := [], F := [], ctr := 1 }
theorem i51 (L : Nat) (a0 : (List (List Int))) : evF prog ev51 (loopN L) f51 (a51.enc a0) =
  headF prog ev51 L f51 0 [1, 1, 0, 1, 0, 0] (outK (outV prog f51) (topK prog ev51 L f51 [1, 1, 0, 1] (outV prog f51)).n (topK prog ev51 L f51 [1, 1, 0, 1] (outV prog f51)).x) L (S51_0 a0 [] (0 : Int)) := by kernel_rfl
theorem r51_0 (L : Nat) (a0 : (List (List Int))) (k : St cxT.ty → Option (V cxT.ty)) (xk : Nat → St cxT.ty → Option (V cxT.ty)) (g : St cxT.ty → Option (V cxT.ty)) (v0_3 : (List Int)) (v0_8 : Int) : roundF prog ev51 L f51 0 [1, 1, 0, 1, 0, 0] (outK (outV prog f51) k xk) g (S51_0 a0 v0_3 v0_8) =
  bif (decide (v0_8 < (Nat.cast (List.length a0) : Int))) then bif ((decide ((0 : Int) ≤ v0_8)) && (decide (v0_8 < (Nat.cast (List.length a0) : Int)))) then bif (decide (((List.length v0_3) + (List.length (List.getD a0 (Int.toNat v0_8) []))) ≤ (1000000000 : Nat))) then g (S51_0 a0 (v0_3 ++ (List.getD a0 (Int.toNat v0_8) [])) (Go.IntKind.wrap Go.IntKind.i64 (v0_8 + (1 : Int))))
      else none
    else none
  else k (X51_0 a0 v0_3) := by kernel_rfl
theorem t51_0 (L : Nat) (a0 : (List (List Int))) (w0_3 : (List Int)) : (topK prog ev51 L f51 [1, 1, 0, 1] (outV prog f51)).n (X51_0 a0 w0_3) =
  some (n51 w0_3) := by kernel_rfl
def l51_0 (L : Nat) (a0 : (List (List Int))) : Nat → (List Int) → Int → ((List Int) → Option (List Int)) → Option (List Int)
  | 0, _, _, _ => none
  | n + 1, v0_3, v0_8, k =>
    bif (decide (v0_8 < (Nat.cast (List.length a0) : Int))) then bif ((decide ((0 : Int) ≤ v0_8)) && (decide (v0_8 < (Nat.cast (List.length a0) : Int)))) then bif (decide (((List.length v0_3) + (List.length (List.getD a0 (Int.toNat v0_8) []))) ≤ (1000000000 : Nat))) then l51_0 L a0 n (v0_3 ++ (List.getD a0 (Int.toNat v0_8) [])) (Go.IntKind.wrap Go.IntKind.i64 (v0_8 + (1 : Int))) k
        else none
      else none
    else k v0_3
theorem h51_0 (L : Nat) (a0 : (List (List Int))) (k : St cxT.ty → Option (V cxT.ty)) (xk : Nat → St cxT.ty → Option (V cxT.ty)) (k' : (List Int) → Option (List Int)) (hk : ∀ (w0_3 : (List Int)), k (X51_0 a0 w0_3) = (k' w0_3).map n51) : ∀ (n : Nat) (v0_3 : (List Int)) (v0_8 : Int), headF prog ev51 L f51 0 [1, 1, 0, 1, 0, 0] (outK (outV prog f51) k xk) n (S51_0 a0 v0_3 v0_8) = (l51_0 L a0 n v0_3 v0_8 k').map n51
  | 0, _, _ => rfl
  | n + 1, v0_3, v0_8 => by
    rw [headF_round, r51_0]
    have ih := h51_0 L a0 k xk k' hk n
    simp only [l51_0, map_bif, Option.map_some, Option.map_none, ih, hk]
def g51 (L : Nat) (a0 : (List (List Int))) : Option (List Int) :=
  l51_0 L a0 L [] (0 : Int) (fun (w0_3 : (List Int)) => some w0_3)
theorem e51 (L : Nat) (a0 : (List (List Int))) : evF prog ev51 (loopN L) f51 (a51.enc a0) = (g51 L a0).map n51 := by
  let K'0 : (List Int) → Option (List Int) := (fun (w0_3 : (List Int)) => some w0_3)
  have hin0 : ∀ (v0_3 : (List Int)) (v0_8 : Int), headF prog ev51 L f51 0 [1, 1, 0, 1, 0, 0] (outK (outV prog f51) (topK prog ev51 L f51 [1, 1, 0, 1] (outV prog f51)).n (topK prog ev51 L f51 [1, 1, 0, 1] (outV prog f51)).x) L (S51_0 a0 v0_3 v0_8) = (l51_0 L a0 L v0_3 v0_8 K'0).map n51 := fun v0_3 v0_8 => h51_0 L a0 _ _ K'0 (fun w0_3 => by rw [t51_0]; simp only [K'0, map_bif, Option.map_some, Option.map_none]) L v0_3 v0_8
  rw [i51]; simp only [g51, map_bif, Option.map_some, Option.map_none, hin0, K'0]
theorem s51 (m : (List (List Int)) → Option (List Int)) (hm : ∀ (x : (List (List Int))) t, m x = some t → ∃ L, g51 L x = some t) : Sat prog cxT 51 (c51 m) :=
  sat_t cxT_ok cxT_pok (by rfl) (fn := f51) rfl a51 n51 dd51 m ev51 kok_nil kwok_nil (fun L x => g51 L x) (fun L x => e51 L x) hm hs51
/-! loop.example/g00222/laws.FnExactPutFrame -/
def ev10 (m30 : (List Int) → Option (List Int)) (m23 : (List Int) → Option (Int × (List Int))) (m22 : (List Int) → Option (Int × (List Int))) (m26 : ((Int × (List Int)) × (Int × (List Int))) → Option Bool) (m32 : ((List Int) × (List Int)) → Option Bool) (m34 : ((List Int) × Int) → Option (Int × (List Int))) (m27 : ((Int × (List Int)) × Int) → Option (Int × Int × (List Int))) (m28 : ((Int × (List Int)) × Int) → Option Int) : Env cxT := { Kc := kcOf [(30, c30 m30), (23, c23 m23), (22, c22 m22), (26, c26 m26), (32, c32 m32), (28, c28 m28)], Kw := kwOf [(34, c34 m34), (27, c27 m27)], lv := fun i => [], xv := fun i => none }
theorem i10 (m30 : (List Int) → Option (List Int)) (m23 : (List Int) → Option (Int × (List Int))) (m22 : (List Int) → Option (Int × (List Int))) (m26 : ((Int × (List Int)) × (Int × (List Int))) → Option Bool) (m32 : ((List Int) × (List Int)) → Option Bool) (m34 : ((List Int) × Int) → Option (Int × (List Int))) (m27 : ((Int × (List Int)) × Int) → Option (Int × Int × (List Int))) (m28 : ((Int × (List Int)) × Int) → Option Int) (L : Nat) (a0 : (List Int)) : evF prog (ev10 m30 m23 m22 m26 m32 m34 m27 m28) (loopN L) f10 (a10.enc a0) =
  bif (decide ((Nat.cast (List.length a0) : Int) > (1048576 : Int))) then some (n10 Bool.true)
  else bif (Option.isSome (m30 a0)) then bif (Option.isSome (m23 (Option.getD (m30 a0) []))) then bif (Option.isSome (m30 a0)) then bif (Option.isSome (m22 (Option.getD (m30 a0) []))) then bif (Option.isSome (m26 (((Option.getD (m22 (Option.getD (m30 a0) [])) ((0 : Int), [])).1, (Option.getD (m22 (Option.getD (m30 a0) [])) ((0 : Int), [])).2), ((Option.getD (m23 (Option.getD (m30 a0) [])) ((0 : Int), [])).1, (Option.getD (m23 (Option.getD (m30 a0) [])) ((0 : Int), [])).2)))) then bif (!(Option.getD (m26 (((Option.getD (m22 (Option.getD (m30 a0) [])) ((0 : Int), [])).1, (Option.getD (m22 (Option.getD (m30 a0) [])) ((0 : Int), [])).2), ((Option.getD (m23 (Option.getD (m30 a0) [])) ((0 : Int), [])).1, (Option.getD (m23 (Option.getD (m30 a0) [])) ((0 : Int), [])).2))) Bool.false)) then some (n10 Bool.false)
            else bif (Option.isSome (m30 a0)) then bif (Option.isSome (m32 ((Option.getD (m30 a0) []), (Option.getD (m30 a0) [])))) then bif (!(Option.getD (m32 ((Option.getD (m30 a0) []), (Option.getD (m30 a0) []))) Bool.false)) then some (n10 Bool.false)
                else bif (Option.isSome (m34 ((Option.getD (m30 a0) []), (1 : Int)))) then bif (decide ((Option.getD (m34 ((Option.getD (m30 a0) []), (1 : Int))) ((0 : Int), [])).1 < (0 : Int))) then some (n10 Bool.false)
                  else bif (Option.isSome (m26 (((Option.getD (m22 (Option.getD (m30 a0) [])) ((0 : Int), [])).1, (Option.getD (m22 (Option.getD (m30 a0) [])) ((0 : Int), [])).2), ((Option.getD (m23 (Option.getD (m30 a0) [])) ((0 : Int), [])).1, (Option.getD (m23 (Option.getD (m30 a0) [])) ((0 : Int), [])).2)))) then bif (!(Option.getD (m26 (((Option.getD (m22 (Option.getD (m30 a0) [])) ((0 : Int), [])).1, (Option.getD (m22 (Option.getD (m30 a0) [])) ((0 : Int), [])).2), ((Option.getD (m23 (Option.getD (m30 a0) [])) ((0 : Int), [])).1, (Option.getD (m23 (Option.getD (m30 a0) [])) ((0 : Int), [])).2))) Bool.false)) then some (n10 Bool.false)
                    else bif (Option.isSome (m27 (((Option.getD (m22 (Option.getD (m30 a0) [])) ((0 : Int), [])).1, (Option.getD (m22 (Option.getD (m30 a0) [])) ((0 : Int), [])).2), (1 : Int)))) then bif (Option.isSome (m28 (((Option.getD (m22 (Option.getD (m30 a0) [])) ((0 : Int), [])).1, (Option.getD (m27 (((Option.getD (m22 (Option.getD (m30 a0) [])) ((0 : Int), [])).1, (Option.getD (m22 (Option.getD (m30 a0) [])) ((0 : Int), [])).2), (1 : Int))) ((0 : Int), ((0 : Int), []))).2.2), (1 : Int)))) then bif (decide ((Option.getD (m28 (((Option.getD (m22 (Option.getD (m30 a0) [])) ((0 : Int), [])).1, (Option.getD (m27 (((Option.getD (m22 (Option.getD (m30 a0) [])) ((0 : Int), [])).1, (Option.getD (m22 (Option.getD (m30 a0) [])) ((0 : Int), [])).2), (1 : Int))) ((0 : Int), ((0 : Int), []))).2.2), (1 : Int))) (0 : Int)) < (0 : Int))) then some (n10 Bool.false)
                        else bif ((Option.getD (m28 (((Option.getD (m22 (Option.getD (m30 a0) [])) ((0 : Int), [])).1, (Option.getD (m27 (((Option.getD (m22 (Option.getD (m30 a0) [])) ((0 : Int), [])).1, (Option.getD (m22 (Option.getD (m30 a0) [])) ((0 : Int), [])).2), (1 : Int))) ((0 : Int), ((0 : Int), []))).2.2), (1 : Int))) (0 : Int)) != (Option.getD (m27 (((Option.getD (m22 (Option.getD (m30 a0) [])) ((0 : Int), [])).1, (Option.getD (m22 (Option.getD (m30 a0) [])) ((0 : Int), [])).2), (1 : Int))) ((0 : Int), ((0 : Int), []))).1) then some (n10 Bool.false)
                        else bif (Option.isSome (m30 a0)) then bif (Option.isSome (m22 (Option.getD (m30 a0) []))) then bif (Option.isSome (m26 (((Option.getD (m22 (Option.getD (m30 a0) [])) ((0 : Int), [])).1, (Option.getD (m22 (Option.getD (m30 a0) [])) ((0 : Int), [])).2), ((Option.getD (m23 (Option.getD (m30 a0) [])) ((0 : Int), [])).1, (Option.getD (m23 (Option.getD (m30 a0) [])) ((0 : Int), [])).2)))) then bif (!(Option.getD (m26 (((Option.getD (m22 (Option.getD (m30 a0) [])) ((0 : Int), [])).1, (Option.getD (m22 (Option.getD (m30 a0) [])) ((0 : Int), [])).2), ((Option.getD (m23 (Option.getD (m30 a0) [])) ((0 : Int), [])).1, (Option.getD (m23 (Option.getD (m30 a0) [])) ((0 : Int), [])).2))) Bool.false)) then some (n10 Bool.false)
                              else bif (Option.isSome (m28 (((Option.getD (m22 (Option.getD (m30 a0) [])) ((0 : Int), [])).1, (Option.getD (m27 (((Option.getD (m22 (Option.getD (m30 a0) [])) ((0 : Int), [])).1, (Option.getD (m22 (Option.getD (m30 a0) [])) ((0 : Int), [])).2), (1 : Int))) ((0 : Int), ((0 : Int), []))).2.2), (1 : Int)))) then bif (decide ((Option.getD (m28 (((Option.getD (m22 (Option.getD (m30 a0) [])) ((0 : Int), [])).1, (Option.getD (m27 (((Option.getD (m22 (Option.getD (m30 a0) [])) ((0 : Int), [])).1, (Option.getD (m22 (Option.getD (m30 a0) [])) ((0 : Int), [])).2), (1 : Int))) ((0 : Int), ((0 : Int), []))).2.2), (1 : Int))) (0 : Int)) < (0 : Int))) then some (n10 Bool.false)
                                else bif ((Option.getD (m28 (((Option.getD (m22 (Option.getD (m30 a0) [])) ((0 : Int), [])).1, (Option.getD (m27 (((Option.getD (m22 (Option.getD (m30 a0) [])) ((0 : Int), [])).1, (Option.getD (m22 (Option.getD (m30 a0) [])) ((0 : Int), [])).2), (1 : Int))) ((0 : Int), ((0 : Int), []))).2.2), (1 : Int))) (0 : Int)) != (Option.getD (m27 (((Option.getD (m22 (Option.getD (m30 a0) [])) ((0 : Int), [])).1, (Option.getD (m22 (Option.getD (m30 a0) [])) ((0 : Int), [])).2), (1 : Int))) ((0 : Int), ((0 : Int), []))).1) then some (n10 Bool.false)
                                else some (n10 Bool.true)
                              else none
                            else none
                          else none
                        else none
                      else none
                    else none
                  else none
                else none
              else none
            else none
          else none
        else none
      else none
    else none
  else none := by kernel_rfl
def g10 (m30 : (List Int) → Option (List Int)) (m23 : (List Int) → Option (Int × (List Int))) (m22 : (List Int) → Option (Int × (List Int))) (m26 : ((Int × (List Int)) × (Int × (List Int))) → Option Bool) (m32 : ((List Int) × (List Int)) → Option Bool) (m34 : ((List Int) × Int) → Option (Int × (List Int))) (m27 : ((Int × (List Int)) × Int) → Option (Int × Int × (List Int))) (m28 : ((Int × (List Int)) × Int) → Option Int) (L : Nat) (a0 : (List Int)) : Option Bool :=
  bif (decide ((Nat.cast (List.length a0) : Int) > (1048576 : Int))) then some Bool.true
  else bif (Option.isSome (m30 a0)) then bif (Option.isSome (m23 (Option.getD (m30 a0) []))) then bif (Option.isSome (m30 a0)) then bif (Option.isSome (m22 (Option.getD (m30 a0) []))) then bif (Option.isSome (m26 (((Option.getD (m22 (Option.getD (m30 a0) [])) ((0 : Int), [])).1, (Option.getD (m22 (Option.getD (m30 a0) [])) ((0 : Int), [])).2), ((Option.getD (m23 (Option.getD (m30 a0) [])) ((0 : Int), [])).1, (Option.getD (m23 (Option.getD (m30 a0) [])) ((0 : Int), [])).2)))) then bif (!(Option.getD (m26 (((Option.getD (m22 (Option.getD (m30 a0) [])) ((0 : Int), [])).1, (Option.getD (m22 (Option.getD (m30 a0) [])) ((0 : Int), [])).2), ((Option.getD (m23 (Option.getD (m30 a0) [])) ((0 : Int), [])).1, (Option.getD (m23 (Option.getD (m30 a0) [])) ((0 : Int), [])).2))) Bool.false)) then some Bool.false
            else bif (Option.isSome (m30 a0)) then bif (Option.isSome (m32 ((Option.getD (m30 a0) []), (Option.getD (m30 a0) [])))) then bif (!(Option.getD (m32 ((Option.getD (m30 a0) []), (Option.getD (m30 a0) []))) Bool.false)) then some Bool.false
                else bif (Option.isSome (m34 ((Option.getD (m30 a0) []), (1 : Int)))) then bif (decide ((Option.getD (m34 ((Option.getD (m30 a0) []), (1 : Int))) ((0 : Int), [])).1 < (0 : Int))) then some Bool.false
                  else bif (Option.isSome (m26 (((Option.getD (m22 (Option.getD (m30 a0) [])) ((0 : Int), [])).1, (Option.getD (m22 (Option.getD (m30 a0) [])) ((0 : Int), [])).2), ((Option.getD (m23 (Option.getD (m30 a0) [])) ((0 : Int), [])).1, (Option.getD (m23 (Option.getD (m30 a0) [])) ((0 : Int), [])).2)))) then bif (!(Option.getD (m26 (((Option.getD (m22 (Option.getD (m30 a0) [])) ((0 : Int), [])).1, (Option.getD (m22 (Option.getD (m30 a0) [])) ((0 : Int), [])).2), ((Option.getD (m23 (Option.getD (m30 a0) [])) ((0 : Int), [])).1, (Option.getD (m23 (Option.getD (m30 a0) [])) ((0 : Int), [])).2))) Bool.false)) then some Bool.false
                    else bif (Option.isSome (m27 (((Option.getD (m22 (Option.getD (m30 a0) [])) ((0 : Int), [])).1, (Option.getD (m22 (Option.getD (m30 a0) [])) ((0 : Int), [])).2), (1 : Int)))) then bif (Option.isSome (m28 (((Option.getD (m22 (Option.getD (m30 a0) [])) ((0 : Int), [])).1, (Option.getD (m27 (((Option.getD (m22 (Option.getD (m30 a0) [])) ((0 : Int), [])).1, (Option.getD (m22 (Option.getD (m30 a0) [])) ((0 : Int), [])).2), (1 : Int))) ((0 : Int), ((0 : Int), []))).2.2), (1 : Int)))) then bif (decide ((Option.getD (m28 (((Option.getD (m22 (Option.getD (m30 a0) [])) ((0 : Int), [])).1, (Option.getD (m27 (((Option.getD (m22 (Option.getD (m30 a0) [])) ((0 : Int), [])).1, (Option.getD (m22 (Option.getD (m30 a0) [])) ((0 : Int), [])).2), (1 : Int))) ((0 : Int), ((0 : Int), []))).2.2), (1 : Int))) (0 : Int)) < (0 : Int))) then some Bool.false
                        else bif ((Option.getD (m28 (((Option.getD (m22 (Option.getD (m30 a0) [])) ((0 : Int), [])).1, (Option.getD (m27 (((Option.getD (m22 (Option.getD (m30 a0) [])) ((0 : Int), [])).1, (Option.getD (m22 (Option.getD (m30 a0) [])) ((0 : Int), [])).2), (1 : Int))) ((0 : Int), ((0 : Int), []))).2.2), (1 : Int))) (0 : Int)) != (Option.getD (m27 (((Option.getD (m22 (Option.getD (m30 a0) [])) ((0 : Int), [])).1, (Option.getD (m22 (Option.getD (m30 a0) [])) ((0 : Int), [])).2), (1 : Int))) ((0 : Int), ((0 : Int), []))).1) then some Bool.false
                        else bif (Option.isSome (m30 a0)) then bif (Option.isSome (m22 (Option.getD (m30 a0) []))) then bif (Option.isSome (m26 (((Option.getD (m22 (Option.getD (m30 a0) [])) ((0 : Int), [])).1, (Option.getD (m22 (Option.getD (m30 a0) [])) ((0 : Int), [])).2), ((Option.getD (m23 (Option.getD (m30 a0) [])) ((0 : Int), [])).1, (Option.getD (m23 (Option.getD (m30 a0) [])) ((0 : Int), [])).2)))) then bif (!(Option.getD (m26 (((Option.getD (m22 (Option.getD (m30 a0) [])) ((0 : Int), [])).1, (Option.getD (m22 (Option.getD (m30 a0) [])) ((0 : Int), [])).2), ((Option.getD (m23 (Option.getD (m30 a0) [])) ((0 : Int), [])).1, (Option.getD (m23 (Option.getD (m30 a0) [])) ((0 : Int), [])).2))) Bool.false)) then some Bool.false
                              else bif (Option.isSome (m28 (((Option.getD (m22 (Option.getD (m30 a0) [])) ((0 : Int), [])).1, (Option.getD (m27 (((Option.getD (m22 (Option.getD (m30 a0) [])) ((0 : Int), [])).1, (Option.getD (m22 (Option.getD (m30 a0) [])) ((0 : Int), [])).2), (1 : Int))) ((0 : Int), ((0 : Int), []))).2.2), (1 : Int)))) then bif (decide ((Option.getD (m28 (((Option.getD (m22 (Option.getD (m30 a0) [])) ((0 : Int), [])).1, (Option.getD (m27 (((Option.getD (m22 (Option.getD (m30 a0) [])) ((0 : Int), [])).1, (Option.getD (m22 (Option.getD (m30 a0) [])) ((0 : Int), [])).2), (1 : Int))) ((0 : Int), ((0 : Int), []))).2.2), (1 : Int))) (0 : Int)) < (0 : Int))) then some Bool.false
                                else bif ((Option.getD (m28 (((Option.getD (m22 (Option.getD (m30 a0) [])) ((0 : Int), [])).1, (Option.getD (m27 (((Option.getD (m22 (Option.getD (m30 a0) [])) ((0 : Int), [])).1, (Option.getD (m22 (Option.getD (m30 a0) [])) ((0 : Int), [])).2), (1 : Int))) ((0 : Int), ((0 : Int), []))).2.2), (1 : Int))) (0 : Int)) != (Option.getD (m27 (((Option.getD (m22 (Option.getD (m30 a0) [])) ((0 : Int), [])).1, (Option.getD (m22 (Option.getD (m30 a0) [])) ((0 : Int), [])).2), (1 : Int))) ((0 : Int), ((0 : Int), []))).1) then some Bool.false
                                else some Bool.true
                              else none
                            else none
                          else none
                        else none
                      else none
                    else none
                  else none
                else none
              else none
            else none
          else none
        else none
      else none
    else none
  else none
theorem e10 (m30 : (List Int) → Option (List Int)) (m23 : (List Int) → Option (Int × (List Int))) (m22 : (List Int) → Option (Int × (List Int))) (m26 : ((Int × (List Int)) × (Int × (List Int))) → Option Bool) (m32 : ((List Int) × (List Int)) → Option Bool) (m34 : ((List Int) × Int) → Option (Int × (List Int))) (m27 : ((Int × (List Int)) × Int) → Option (Int × Int × (List Int))) (m28 : ((Int × (List Int)) × Int) → Option Int) (L : Nat) (a0 : (List Int)) : evF prog (ev10 m30 m23 m22 m26 m32 m34 m27 m28) (loopN L) f10 (a10.enc a0) = (g10 m30 m23 m22 m26 m32 m34 m27 m28 L a0).map n10 := by
  rw [i10]; simp only [g10, map_bif, Option.map_some, Option.map_none]
theorem s10 (m30 : (List Int) → Option (List Int)) (m23 : (List Int) → Option (Int × (List Int))) (m22 : (List Int) → Option (Int × (List Int))) (m26 : ((Int × (List Int)) × (Int × (List Int))) → Option Bool) (m32 : ((List Int) × (List Int)) → Option Bool) (m34 : ((List Int) × Int) → Option (Int × (List Int))) (m27 : ((Int × (List Int)) × Int) → Option (Int × Int × (List Int))) (m28 : ((Int × (List Int)) × Int) → Option Int) (h30 : Sat prog cxT 30 (c30 m30)) (h23 : Sat prog cxT 23 (c23 m23)) (h22 : Sat prog cxT 22 (c22 m22)) (h26 : Sat prog cxT 26 (c26 m26)) (h32 : Sat prog cxT 32 (c32 m32)) (h34 : SatW prog cxT 34 (c34 m34).nres (c34 m34).n (c34 m34).F) (h27 : SatW prog cxT 27 (c27 m27).nres (c27 m27).n (c27 m27).F) (h28 : Sat prog cxT 28 (c28 m28)) (m : (List Int) → Option Bool) (hm : ∀ (x : (List Int)) t, m x = some t → ∃ L, g10 m30 m23 m22 m26 m32 m34 m27 m28 L x = some t) : Sat prog cxT 10 (c10 m) :=
  sat_t cxT_ok cxT_pok (by rfl) (fn := f10) rfl a10 n10 dd10 m (ev10 m30 m23 m22 m26 m32 m34 m27 m28) (kok_cons h30 (kok_cons h23 (kok_cons h22 (kok_cons h26 (kok_cons h32 (kok_cons h28 kok_nil)))))) (kwok_cons h34 (kwok_cons h27 kwok_nil)) (fun L x => g10 m30 m23 m22 m26 m32 m34 m27 m28 L x) (fun L x => e10 m30 m23 m22 m26 m32 m34 m27 m28 L x) hm hs10
/-! loop.example/g00222/impl.PutFrame -/
def ev22 (m46 : (Int × Int) → Option (List Int)) (m18 : (List Int) → Option Int) (m51 : (List (List Int)) → Option (List Int)) : Env cxT := { Kc := kcOf [(46, c46 m46), (18, c18 m18), (51, c51 m51)], Kw := kwOf [], lv := fun i => [], xv := fun i => none }
theorem i22 (m46 : (Int × Int) → Option (List Int)) (m18 : (List Int) → Option Int) (m51 : (List (List Int)) → Option (List Int)) (L : Nat) (a0 : (List Int)) : evF prog (ev22 m46 m18 m51) (loopN L) f22 (a22.enc a0) =
  bif (decide ((Nat.cast (List.length a0) : Int) > (250 : Int))) then some (n22 ((2 : Int), []))
  else bif (Option.isSome (m46 ((Go.IntKind.wrap Go.IntKind.u64 (Nat.cast (List.length a0) : Int)), (2 : Int)))) then bif (Option.isSome (m18 a0)) then bif (Option.isSome (m46 ((Go.IntKind.wrap Go.IntKind.u64 (Option.getD (m18 a0) (0 : Int))), (2 : Int)))) then bif (Option.isSome (m51 (List.cons (Option.getD (m46 ((Go.IntKind.wrap Go.IntKind.u64 (Nat.cast (List.length a0) : Int)), (2 : Int))) []) (List.cons (Option.getD (m46 ((Go.IntKind.wrap Go.IntKind.u64 (Option.getD (m18 a0) (0 : Int))), (2 : Int))) []) (List.cons a0 []))))) then some (n22 ((0 : Int), (Option.getD (m51 (List.cons (Option.getD (m46 ((Go.IntKind.wrap Go.IntKind.u64 (Nat.cast (List.length a0) : Int)), (2 : Int))) []) (List.cons (Option.getD (m46 ((Go.IntKind.wrap Go.IntKind.u64 (Option.getD (m18 a0) (0 : Int))), (2 : Int))) []) (List.cons a0 [])))) [])))
        else none
      else none
    else none
  else none := by kernel_rfl
def g22 (m46 : (Int × Int) → Option (List Int)) (m18 : (List Int) → Option Int) (m51 : (List (List Int)) → Option (List Int)) (L : Nat) (a0 : (List Int)) : Option (Int × (List Int)) :=
  bif (decide ((Nat.cast (List.length a0) : Int) > (250 : Int))) then some ((2 : Int), [])
  else bif (Option.isSome (m46 ((Go.IntKind.wrap Go.IntKind.u64 (Nat.cast (List.length a0) : Int)), (2 : Int)))) then bif (Option.isSome (m18 a0)) then bif (Option.isSome (m46 ((Go.IntKind.wrap Go.IntKind.u64 (Option.getD (m18 a0) (0 : Int))), (2 : Int)))) then bif (Option.isSome (m51 (List.cons (Option.getD (m46 ((Go.IntKind.wrap Go.IntKind.u64 (Nat.cast (List.length a0) : Int)), (2 : Int))) []) (List.cons (Option.getD (m46 ((Go.IntKind.wrap Go.IntKind.u64 (Option.getD (m18 a0) (0 : Int))), (2 : Int))) []) (List.cons a0 []))))) then some ((0 : Int), (Option.getD (m51 (List.cons (Option.getD (m46 ((Go.IntKind.wrap Go.IntKind.u64 (Nat.cast (List.length a0) : Int)), (2 : Int))) []) (List.cons (Option.getD (m46 ((Go.IntKind.wrap Go.IntKind.u64 (Option.getD (m18 a0) (0 : Int))), (2 : Int))) []) (List.cons a0 [])))) []))
        else none
      else none
    else none
  else none
theorem e22 (m46 : (Int × Int) → Option (List Int)) (m18 : (List Int) → Option Int) (m51 : (List (List Int)) → Option (List Int)) (L : Nat) (a0 : (List Int)) : evF prog (ev22 m46 m18 m51) (loopN L) f22 (a22.enc a0) = (g22 m46 m18 m51 L a0).map n22 := by
  rw [i22]; simp only [g22, map_bif, Option.map_some, Option.map_none]
theorem s22 (m46 : (Int × Int) → Option (List Int)) (m18 : (List Int) → Option Int) (m51 : (List (List Int)) → Option (List Int)) (h46 : Sat prog cxT 46 (c46 m46)) (h18 : Sat prog cxT 18 (c18 m18)) (h51 : Sat prog cxT 51 (c51 m51)) (m : (List Int) → Option (Int × (List Int))) (hm : ∀ (x : (List Int)) t, m x = some t → ∃ L, g22 m46 m18 m51 L x = some t) : Sat prog cxT 22 (c22 m) :=
  sat_t cxT_ok cxT_pok (by rfl) (fn := f22) rfl a22 n22 dd22 m (ev22 m46 m18 m51) (kok_cons h46 (kok_cons h18 (kok_cons h51 kok_nil))) kwok_nil (fun L x => g22 m46 m18 m51 L x) (fun L x => e22 m46 m18 m51 L x) hm hs22
/-! loop.example/g00222/spec.PutFrame -/
def ev23 (m52 : (List Int) → Option (List Int)) : Env cxT := { Kc := kcOf [(52, c52 m52)], Kw := kwOf [], lv := fun i => [], xv := fun i => none }
theorem i23 (m52 : (List Int) → Option (List Int)) (L : Nat) (a0 : (List Int)) : evF prog (ev23 m52) (loopN L) f23 (a23.enc a0) =
  bif (decide ((Nat.cast (List.length a0) : Int) > (250 : Int))) then some (n23 ((2 : Int), []))
  else bif (Option.isSome (m52 a0)) then some (n23 ((0 : Int), (Option.getD (m52 a0) [])))
  else none := by kernel_rfl
def g23 (m52 : (List Int) → Option (List Int)) (L : Nat) (a0 : (List Int)) : Option (Int × (List Int)) :=
  bif (decide ((Nat.cast (List.length a0) : Int) > (250 : Int))) then some ((2 : Int), [])
  else bif (Option.isSome (m52 a0)) then some ((0 : Int), (Option.getD (m52 a0) []))
  else none
theorem e23 (m52 : (List Int) → Option (List Int)) (L : Nat) (a0 : (List Int)) : evF prog (ev23 m52) (loopN L) f23 (a23.enc a0) = (g23 m52 L a0).map n23 := by
  rw [i23]; simp only [g23, map_bif, Option.map_some, Option.map_none]
theorem s23 (m52 : (List Int) → Option (List Int)) (h52 : Sat prog cxT 52 (c52 m52)) (m : (List Int) → Option (Int × (List Int))) (hm : ∀ (x : (List Int)) t, m x = some t → ∃ L, g23 m52 L x = some t) : Sat prog cxT 23 (c23 m) :=
  sat_t cxT_ok cxT_pok (by rfl) (fn := f23) rfl a23 n23 dd23 m (ev23 m52) (kok_cons h52 kok_nil) kwok_nil (fun L x => g23 m52 L x) (fun L x => e23 m52 L x) hm hs23
/-! loop.example/g00222/spec.l1Frame -/
def ev52 (m48 : (Int × Int) → Option (List Int)) (m20 : (List Int) → Option Int) : Env cxT := { Kc := kcOf [(48, c48 m48), (20, c20 m20)], Kw := kwOf [], lv := fun i => [], xv := fun i => none }
theorem i52 (m48 : (Int × Int) → Option (List Int)) (m20 : (List Int) → Option Int) (L : Nat) (a0 : (List Int)) : evF prog (ev52 m48 m20) (loopN L) f52 (a52.enc a0) =
  bif (Option.isSome (m48 ((Nat.cast (List.length a0) : Int), (2 : Int)))) then bif (Option.isSome (m20 a0)) then bif (Option.isSome (m48 ((Option.getD (m20 a0) (0 : Int)), (2 : Int)))) then bif (decide (((List.length (Option.getD (m48 ((Nat.cast (List.length a0) : Int), (2 : Int))) [])) + (List.length (Option.getD (m48 ((Option.getD (m20 a0) (0 : Int)), (2 : Int))) []))) ≤ (1000000000 : Nat))) then bif (decide (((List.length ((Option.getD (m48 ((Nat.cast (List.length a0) : Int), (2 : Int))) []) ++ (Option.getD (m48 ((Option.getD (m20 a0) (0 : Int)), (2 : Int))) []))) + (List.length a0)) ≤ (1000000000 : Nat))) then some (n52 (((Option.getD (m48 ((Nat.cast (List.length a0) : Int), (2 : Int))) []) ++ (Option.getD (m48 ((Option.getD (m20 a0) (0 : Int)), (2 : Int))) [])) ++ a0))
          else none
        else none
      else none
    else none
  else none := by kernel_rfl
def g52 (m48 : (Int × Int) → Option (List Int)) (m20 : (List Int) → Option Int) (L : Nat) (a0 : (List Int)) : Option (List Int) :=
  bif (Option.isSome (m48 ((Nat.cast (List.length a0) : Int), (2 : Int)))) then bif (Option.isSome (m20 a0)) then bif (Option.isSome (m48 ((Option.getD (m20 a0) (0 : Int)), (2 : Int)))) then bif (decide (((List.length (Option.getD (m48 ((Nat.cast (List.length a0) : Int), (2 : Int))) [])) + (List.length (Option.getD (m48 ((Option.getD (m20 a0) (0 : Int)), (2 : Int))) []))) ≤ (1000000000 : Nat))) then bif (decide (((List.length ((Option.getD (m48 ((Nat.cast (List.length a0) : Int), (2 : Int))) []) ++ (Option.getD (m48 ((Option.getD (m20 a0) (0 : Int)), (2 : Int))) []))) + (List.length a0)) ≤ (1000000000 : Nat))) then some (((Option.getD (m48 ((Nat.cast (List.length a0) : Int), (2 : Int))) []) ++ (Option.getD (m48 ((Option.getD (m20 a0) (0 : Int)), (2 : Int))) [])) ++ a0)
          else none
        else none
      else none
    else none
  else none
theorem e52 (m48 : (Int × Int) → Option (List Int)) (m20 : (List Int) → Option Int) (L : Nat) (a0 : (List Int)) : evF prog (ev52 m48 m20) (loopN L) f52 (a52.enc a0) = (g52 m48 m20 L a0).map n52 := by
  rw [i52]; simp only [g52, map_bif, Option.map_some, Option.map_none]
theorem s52 (m48 : (Int × Int) → Option (List Int)) (m20 : (List Int) → Option Int) (h48 : Sat prog cxT 48 (c48 m48)) (h20 : Sat prog cxT 20 (c20 m20)) (m : (List Int) → Option (List Int)) (hm : ∀ (x : (List Int)) t, m x = some t → ∃ L, g52 m48 m20 L x = some t) : Sat prog cxT 52 (c52 m) :=
  sat_t cxT_ok cxT_pok (by rfl) (fn := f52) rfl a52 n52 dd52 m (ev52 m48 m20) (kok_cons h48 (kok_cons h20 kok_nil)) kwok_nil (fun L x => g52 m48 m20 L x) (fun L x => e52 m48 m20 L x) hm hs52
/-! loop.example/g00222/spec.l1Take -/
def ev55 : Env cxT := { Kc := kcOf [], Kw := kwOf [], lv := fun i => if i = 0 then [(0, [some 5]), (1, []), (2, []), (7, []), (8, [])] else [], xv := fun i => if i = 0 then some [(7, [])] else none }
def S55_0 (a0 : (List Int)) (a1 : Int) (a2 : Int) (v0_7 : Int) (v0_8 : Int) : St cxT.ty := { slots := [(.inl (.inl (ls { own := 0, nm := 0, e := 5, o := false, xs := a0 }))), (.inl (.inl (lv (.int .i64 a1)))), (.inl (.inl (lv (.int .i64 a2)))), junk, junk, junk, junk, (.inl (.inl (lv (.int .i64 v0_7)))), (.inl (.inl (lv (.int .i64 v0_8))))] ++ List.replicate 16 junk, D := [], F := [], ctr := 1 }
def X55_0 (a0 : (List Int)) (a1 : Int) (a2 : Int) (w0_7 : Int) : St cxT.ty := { slots := [junk, junk, junk, junk, junk, junk, junk, (.inl (.inl (lv (.int .i64 w0_7))))] ++ List.replicate 17 junk, D := [], F := [], ctr := 1 }
theorem i55 (L : Nat) (a0 : (List Int)) (a1 : Int) (a2 : Int) : evF prog ev55 (loopN L) f55 (a55.enc (a0, a1, a2)) =
  headF prog ev55 L f55 0 [1, 1, 0, 1, 0, 0] (outK (outV prog f55) (topK prog ev55 L f55 [1, 1, 0, 1] (outV prog f55)).n (topK prog ev55 L f55 [1, 1, 0, 1] (outV prog f55)).x) L (S55_0 a0 a1 a2 (0 : Int) (0 : Int)) := by kernel_rfl
theorem r55_0 (L : Nat) (a0 : (List Int)) (a1 : Int) (a2 : Int) (k : St cxT.ty → Option (V cxT.ty)) (xk : Nat → St cxT.ty → Option (V cxT.ty)) (g : St cxT.ty → Option (V cxT.ty)) (v0_7 : Int) (v0_8 : Int) : roundF prog ev55 L f55 0 [1, 1, 0, 1, 0, 0] (outK (outV prog f55) k xk) g (S55_0 a0 a1 a2 v0_7 v0_8) =
  bif (decide (v0_8 < a2)) then bif ((decide ((0 : Int) ≤ (Go.IntKind.wrap Go.IntKind.i64 (a1 + v0_8)))) && (decide ((Go.IntKind.wrap Go.IntKind.i64 (a1 + v0_8)) < (Nat.cast (List.length a0) : Int)))) then g (S55_0 a0 a1 a2 (Go.IntKind.wrap Go.IntKind.i64 ((Go.IntKind.wrap Go.IntKind.i64 (v0_7 * (256 : Int))) + (Go.IntKind.wrap Go.IntKind.i64 (List.getD a0 (Int.toNat (Go.IntKind.wrap Go.IntKind.i64 (a1 + v0_8))) (0 : Int))))) (Go.IntKind.wrap Go.IntKind.i64 (v0_8 + (1 : Int))))
    else none
  else k (X55_0 a0 a1 a2 v0_7) := by kernel_rfl
theorem t55_0 (L : Nat) (a0 : (List Int)) (a1 : Int) (a2 : Int) (w0_7 : Int) : (topK prog ev55 L f55 [1, 1, 0, 1] (outV prog f55)).n (X55_0 a0 a1 a2 w0_7) =
  some (n55 w0_7) := by kernel_rfl
def l55_0 (L : Nat) (a0 : (List Int)) (a1 : Int) (a2 : Int) : Nat → Int → Int → (Int → Option Int) → Option Int
  | 0, _, _, _ => none
  | n + 1, v0_7, v0_8, k =>
    bif (decide (v0_8 < a2)) then bif ((decide ((0 : Int) ≤ (Go.IntKind.wrap Go.IntKind.i64 (a1 + v0_8)))) && (decide ((Go.IntKind.wrap Go.IntKind.i64 (a1 + v0_8)) < (Nat.cast (List.length a0) : Int)))) then l55_0 L a0 a1 a2 n (Go.IntKind.wrap Go.IntKind.i64 ((Go.IntKind.wrap Go.IntKind.i64 (v0_7 * (256 : Int))) + (Go.IntKind.wrap Go.IntKind.i64 (List.getD a0 (Int.toNat (Go.IntKind.wrap Go.IntKind.i64 (a1 + v0_8))) (0 : Int))))) (Go.IntKind.wrap Go.IntKind.i64 (v0_8 + (1 : Int))) k
      else none
    else k v0_7
theorem h55_0 (L : Nat) (a0 : (List Int)) (a1 : Int) (a2 : Int) (k : St cxT.ty → Option (V cxT.ty)) (xk : Nat → St cxT.ty → Option (V cxT.ty)) (k' : Int → Option Int) (hk : ∀ (w0_7 : Int), k (X55_0 a0 a1 a2 w0_7) = (k' w0_7).map n55) : ∀ (n : Nat) (v0_7 : Int) (v0_8 : Int), headF prog ev55 L f55 0 [1, 1, 0, 1, 0, 0] (outK (outV prog f55) k xk) n (S55_0 a0 a1 a2 v0_7 v0_8) = (l55_0 L a0 a1 a2 n v0_7 v0_8 k').map n55
  | 0, _, _ => rfl
  | n + 1, v0_7, v0_8 => by
    rw [headF_round, r55_0]
    have ih := h55_0 L a0 a1 a2 k xk k' hk n
    simp only [l55_0, map_bif, Option.map_some, Option.map_none, ih, hk]
def g55 (L : Nat) (a0 : (List Int)) (a1 : Int) (a2 : Int) : Option Int :=
  l55_0 L a0 a1 a2 L (0 : Int) (0 : Int) (fun (w0_7 : Int) => some w0_7)
theorem e55 (L : Nat) (a0 : (List Int)) (a1 : Int) (a2 : Int) : evF prog ev55 (loopN L) f55 (a55.enc (a0, a1, a2)) = (g55 L a0 a1 a2).map n55 := by
  let K'0 : Int → Option Int := (fun (w0_7 : Int) => some w0_7)
  have hin0 : ∀ (v0_7 : Int) (v0_8 : Int), headF prog ev55 L f55 0 [1, 1, 0, 1, 0, 0] (outK (outV prog f55) (topK prog ev55 L f55 [1, 1, 0, 1] (outV prog f55)).n (topK prog ev55 L f55 [1, 1, 0, 1] (outV prog f55)).x) L (S55_0 a0 a1 a2 v0_7 v0_8) = (l55_0 L a0 a1 a2 L v0_7 v0_8 K'0).map n55 := fun v0_7 v0_8 => h55_0 L a0 a1 a2 _ _ K'0 (fun w0_7 => by rw [t55_0]; simp only [K'0, map_bif, Option.map_some, Option.map_none]) L v0_7 v0_8
  rw [i55]; simp only [g55, map_bif, Option.map_some, Option.map_none, hin0, K'0]
theorem s55 (m : ((List Int) × Int × Int) → Option Int) (hm : ∀ (x : ((List Int) × Int × Int)) t, m x = some t → ∃ L, g55 L x.1 x.2.1 x.2.2 = some t) : Sat prog cxT 55 (c55 m) :=
  sat_t cxT_ok cxT_pok (by rfl) (fn := f55) rfl a55 n55 dd55 m ev55 kok_nil kwok_nil (fun L x => g55 L x.1 x.2.1 x.2.2) (fun L x => e55 L x.1 x.2.1 x.2.2) hm hs55
end Go.Proofs.Try

set_option maxHeartbeats 0
set_option linter.unusedVariables false
set_option linter.unusedSimpArgs false
namespace Go.Proofs.Try
open Go Go.VM Go.RowKit

/-! toByteS -/
def m30 (a : List Int) : Option (List Int) := if a.length ≤ 1000000000 then some a else none
theorem p30 (L : Nat) (a : List Int) (ha : a.length ≤ 1000000000) (k : List Int → Option (List Int)) : ∀ (n i : Nat) (o : List Int), o.length = a.length → i ≤ a.length → a.length < n + i → o.take i = a.take i → l30_0 L a n o i k = k a
  | 0, i, o, _, h2, h3, _ => by omega
  | n + 1, i, o, h1, h2, h3, h4 => by
    unfold l30_0
    by_cases hi : i < a.length
    · simp (disch := omega) only [dt, df, wi, cond_true, Bool.and_self, Int.toNat_natCast]
      have := p30 L a ha k n (i + 1) (o.set i (a.getD i 0)) (by rw [List.length_set]; exact h1) (by omega) (by omega) (by
        rw [List.take_add_one, List.take_add_one, List.take_set_of_le (Nat.le_refl _), h4]
        congr 1
        rw [List.getElem?_set_self (by omega), List.getElem?_eq_getElem hi]
        simp [List.getD, List.getElem?_eq_getElem hi])
      simpa using this
    · simp (disch := omega) only [dt, df, cond_false]
      have hil : i = a.length := by omega
      rw [hil, List.take_length, ← h1, List.take_length] at h4
      rw [h4]
theorem sat30 : Sat prog cxT 30 (c30 m30) := s30 m30 fun x t h => by
  unfold m30 at h
  split at h
  · rename_i ha
    cases h
    refine ⟨x.length + 1, ?_⟩
    unfold g30
    simp (disch := omega) only [dt, cond_true, Bool.and_self, Int.toNat_natCast]
    exact p30 _ x ha _ _ 0 _ (by simp) (by omega) (by omega) rfl
  · cases h

/-! eqByteS -/
def m32 (x : List Int × List Int) : Option Bool := if x.1.length ≤ 1000000000000 ∧ x.2.length ≤ 1000000000000 then some (decide (x.1 = x.2)) else none
theorem p32 (L : Nat) (a b : List Int) (hl : a.length = b.length) (ha : a.length ≤ 1000000000000) (k : Option Bool) : ∀ (n i : Nat), i ≤ a.length → a.length < n + i →
    l32_0 L a b n i k = if a.drop i = b.drop i then k else some false
  | 0, i, h2, h3 => by omega
  | n + 1, i, h2, h3 => by
    unfold l32_0
    by_cases hi : i < a.length
    · simp (disch := omega) only [dt, df, wi, cond_true, Bool.and_self, Int.toNat_natCast]
      rw [drop_cons 0 hi, drop_cons 0 (show i < b.length by omega)]
      have := p32 L a b hl ha k n (i + 1) (by omega) (by omega)
      simp only [Int.natCast_add, Int.cast_ofNat_Int] at this
      rw [this]
      by_cases hx : a.getD i 0 = b.getD i 0
      · rw [hx]; simp
      · have h2 : (a.getD i 0 != b.getD i 0) = true := by simpa using hx
        rw [h2, if_neg (fun h => hx (List.cons.inj h).1)]
        rfl
    · simp (disch := omega) only [df, cond_false]
      rw [List.drop_eq_nil_of_le (by omega), List.drop_eq_nil_of_le (by omega)]
      simp
theorem sat32 : Sat prog cxT 32 (c32 m32) := s32 m32 fun x t h => by
  unfold m32 at h
  split at h
  · rename_i ha
    cases h
    refine ⟨x.1.length + 1, ?_⟩
    unfold g32
    by_cases hl : x.1.length = x.2.length
    · have e1 : ((Nat.cast x.1.length : Int) != (Nat.cast x.2.length : Int)) = false := by simp [hl]
      have := p32 (x.1.length + 1) x.1 x.2 hl ha.1 (some true) (x.1.length + 1) 0 (by omega) (by omega)
      rw [e1]
      simp only [cond_false]
      refine this.trans ?_
      simp only [List.drop_zero]
      split <;> simp [*]
    · have e1 : ((Nat.cast x.1.length : Int) != (Nat.cast x.2.length : Int)) = true := by simp; omega
      rw [e1]
      have : x.1 ≠ x.2 := fun h => hl (by rw [h])
      simp [this]
  · cases h

/-! eqIntResult, isNumberSize, l1In -/
def m31 (x : (Int × Int) × Int × Int) : Option Bool := some (decide (x.1 = x.2))
theorem sat31 : Sat prog cxT 31 (c31 m31) := s31 m31 fun x t h => by
  cases h
  refine ⟨0, ?_⟩
  unfold g31
  obtain ⟨⟨a, b⟩, c, d⟩ := x
  by_cases h1 : a = c
  · by_cases h2 : b = d
    · rw [bneF h1, bneF h2]; simp [h1, h2]
    · rw [bneF h1, bneT h2]; simp [h1, h2]
  · rw [bneT h1]; simp [h1]
def m44 (x : Int) : Option Bool := some (decide (1 ≤ x ∧ x ≤ 6))
theorem sat44 : Sat prog cxT 44 (c44 m44) := s44 m44 fun x t h => by
  cases h
  refine ⟨0, ?_⟩
  unfold g44
  by_cases h1 : 1 ≤ x <;> simp [h1]
def m47 (x : Int × Int × Int) : Option Bool := some (decide (x.2.1 ≤ x.1 ∧ x.1 ≤ x.2.2))
theorem sat47 : Sat prog cxT 47 (c47 m47) := s47 m47 fun x t h => by
  cases h
  refine ⟨0, ?_⟩
  unfold g47
  by_cases h1 : x.2.1 ≤ x.1 <;> simp [h1]

/-! numbers in bytes -/
def num (a : List Int) (h : Int) : Int := a.foldl (fun h x => h * 256 + x) h
theorem num_nil (h : Int) : num [] h = h := rfl
theorem num_cons (x : Int) (a : List Int) (h : Int) : num (x :: a) h = num a (h * 256 + x) := rfl
theorem pow256 {i : Nat} (h : i < 6) : (256 : Int) ^ i ≤ 1099511627776 := by
  have : i = 0 ∨ i = 1 ∨ i = 2 ∨ i = 3 ∨ i = 4 ∨ i = 5 := by omega
  rcases this with rfl | rfl | rfl | rfl | rfl | rfl <;> decide
theorem num_bound : ∀ (a : List Int) (h : Int) (i : Nat), okB a = true → 0 ≤ h → h < 256 ^ i → 0 ≤ num a h ∧ num a h < 256 ^ (i + a.length)
  | [], h, i, _, h0, h1 => ⟨h0, h1⟩
  | x :: a, h, i, hb, h0, h1 => by
    obtain ⟨hx, hb⟩ := okB_cons.1 hb
    have hp : (256 : Int) ^ (i + 1) = 256 ^ i * 256 := Int.pow_succ ..
    have := num_bound a (h * 256 + x) (i + 1) hb (by omega) (by omega)
    rw [num_cons, List.length_cons, show i + (a.length + 1) = i + 1 + a.length by omega]
    exact this

def m55 (x : List Int × Int × Int) : Option Int :=
  if okB x.1 = true ∧ x.1.length ≤ 1000000000000 ∧ 0 ≤ x.2.1 ∧ 0 ≤ x.2.2 ∧ x.2.2 ≤ 6 ∧ x.2.1 + x.2.2 ≤ x.1.length then some (num ((x.1.drop x.2.1.toNat).take x.2.2.toNat) 0) else none
theorem p55 (L : Nat) (a : List Int) (p z : Nat) (hb : okB a = true) (hl : a.length ≤ 1000000000000) (hz : z ≤ 6) (hp : p + z ≤ a.length) (k : Int → Option Int) : ∀ (n i : Nat) (h : Int), i ≤ z → z < n + i → 0 ≤ h → h < 256 ^ i →
    l55_0 L a p z n h i k = k (num ((a.drop (p + i)).take (z - i)) h)
  | 0, i, h, h2, h3, _, _ => by omega
  | n + 1, i, h, h2, h3, h4, h5 => by
    unfold l55_0
    by_cases hi : i < z
    · have hx := okB_get hb (show p + i < a.length by omega)
      have hq := pow256 (show i < 6 by omega)
      have e1 : ((p : Int) + (i : Int)) = ((p + i : Nat) : Int) := by simp
      simp (disch := omega) only [dt, df, wi, cond_true, Bool.and_self]
      rw [e1]
      simp (disch := omega) only [dt, wi, cond_true, Bool.and_self, Int.toNat_natCast]
      have hp2 : (256 : Int) ^ (i + 1) = 256 ^ i * 256 := Int.pow_succ ..
      have := p55 L a p z hb hl hz hp k n (i + 1) (h * 256 + a.getD (p + i) 0) (by omega) (by omega) (by omega) (by omega)
      simp only [Int.natCast_add, Int.cast_ofNat_Int] at this
      rw [this, drop_cons 0 (show p + i < a.length by omega), show z - i = (z - (i + 1)) + 1 by omega, List.take_succ_cons, num_cons]
      rfl
    · simp (disch := omega) only [df, cond_false]
      rw [show z - i = 0 by omega, List.take_zero, num_nil]
theorem sat55 : Sat prog cxT 55 (c55 m55) := s55 m55 fun x t h => by
  obtain ⟨a, p, z⟩ := x
  unfold m55 at h
  split at h
  · rename_i hc
    obtain ⟨h1, h2, h3, h4, h5, h6⟩ := hc
    simp only at h1 h2 h3 h4 h5 h6 h
    cases h
    refine ⟨7, ?_⟩
    obtain ⟨p, rfl⟩ := Int.eq_ofNat_of_zero_le h3
    obtain ⟨z, rfl⟩ := Int.eq_ofNat_of_zero_le h4
    have := p55 7 a p z h1 h2 (by omega) (by omega) some 7 0 0 (by omega) (by omega) (by omega) (by decide)
    unfold g55
    simpa using this
  · cases h

def takeN (a : List Int) (p z : Int) : Int × Int := if 1 ≤ z ∧ z ≤ 6 ∧ 0 ≤ p ∧ p ≤ a.length - z then (0, num ((a.drop p.toNat).take z.toNat) 0) else (3, 0)
theorem takeN_in {a : List Int} {p z : Int} (h : 1 ≤ z ∧ z ≤ 6 ∧ 0 ≤ p ∧ p ≤ a.length - z) : takeN a p z = (0, num ((a.drop p.toNat).take z.toNat) 0) := if_pos h
theorem takeN_out {a : List Int} {p z : Int} (h : ¬ (1 ≤ z ∧ z ≤ 6 ∧ 0 ≤ p ∧ p ≤ a.length - z)) : takeN a p z = (3, 0) := if_neg h
def m29 (x : List Int × Int × Int) : Option (Int × Int) := if okB x.1 = true ∧ x.1.length ≤ 1000000000000 ∧ iv x.2.2 = true then some (takeN x.1 x.2.1 x.2.2) else none
theorem sat29 : Sat prog cxT 29 (c29 m29) := s29 m47 m55 sat47 sat55 m29 fun x t h => by
  obtain ⟨a, p, z⟩ := x
  unfold m29 at h
  split at h
  · rename_i hc
    obtain ⟨h1, h2, h3⟩ := hc
    simp only [iv, Bool.and_eq_true, decide_eq_true_eq] at h1 h2 h3 h
    cases h
    refine ⟨0, ?_⟩
    unfold g29 m47 m55
    simp only [Option.isSome_some, Option.getD_some, cond_true]
    by_cases hz : 1 ≤ z ∧ z ≤ 6
    · simp (disch := omega) only [dt, wi, Bool.not_true, cond_false]
      by_cases hp : 0 ≤ p ∧ p ≤ (a.length : Int) - z
      · simp (disch := omega) only [dt, Bool.not_true, cond_false]
        rw [if_pos ⟨h1, h2, hp.1, by omega, hz.2, by omega⟩, takeN_in ⟨hz.1, hz.2, hp⟩]
        rfl
      · rw [takeN_out (fun h => hp ⟨h.2.2.1, h.2.2.2⟩), df hp]
        rfl
    · rw [takeN_out (fun h => hz ⟨h.1, h.2.1⟩), df hz]
      rfl
  · cases h

/-! impl.TakeNumber -/
def m16 (x : List Int × Int × Int) : Option (Int × Int) := if okB x.1 = true ∧ x.1.length ≤ 1000000000000 ∧ iv x.2.2 = true then some (takeN x.1 x.2.1 x.2.2) else none
theorem p16 (mm : Int → Option Bool) (L : Nat) (a : List Int) (q z : Int) (b : List Int) (u v : Int) (hab : List.drop (Int.toNat q) (List.take (Int.toNat (IntKind.wrap IntKind.i64 (q + z))) a) = b) (hb : okB b = true) (hl : b.length ≤ 6) (k : Int → Int → Int → Option (Int × Int)) : ∀ (n i : Nat) (h : Int), i ≤ b.length → b.length < n + i → 0 ≤ h → h < 256 ^ i →
    l16_0 mm L a q z n u v h i k = k u v (num (b.drop i) h)
  | 0, i, h, h2, h3, _, _ => by omega
  | n + 1, i, h, h2, h3, h4, h5 => by
    unfold l16_0
    rw [hab]
    by_cases hi : i < b.length
    · have hx := okB_get hb hi
      have hq := pow256 (show i < 6 by omega)
      have hp2 : (256 : Int) ^ (i + 1) = 256 ^ i * 256 := Int.pow_succ ..
      simp (disch := omega) only [dt, df, wi, cond_true, Bool.and_self, Int.toNat_natCast]
      simp (disch := omega) only [shl8, wu, or_byte]
      have := p16 mm L a q z b u v hab hb hl k n (i + 1) (h * 256 + b.getD i 0) (by omega) (by omega) (by omega) (by omega)
      simp only [Int.natCast_add, Int.cast_ofNat_Int] at this
      rw [this, drop_cons 0 hi, num_cons]
    · simp (disch := omega) only [df, cond_false]
      rw [List.drop_eq_nil_of_le (by omega), num_nil]
theorem sat16 : Sat prog cxT 16 (c16 m16) := s16 m44 sat44 m16 fun x t h => by
  obtain ⟨a, p, z⟩ := x
  unfold m16 at h
  split at h
  · rename_i hc
    obtain ⟨h1, h2, h3⟩ := hc
    simp only [iv, Bool.and_eq_true, decide_eq_true_eq] at h1 h2 h3 h
    cases h
    refine ⟨7, ?_⟩
    unfold g16 m44
    simp only [Option.isSome_some, Option.getD_some, cond_true]
    by_cases hz : 1 ≤ z ∧ z ≤ 6
    · simp (disch := omega) only [dt, wi, Bool.not_true, cond_false]
      by_cases hp0 : p < 0
      · rw [takeN_out (by omega), dt hp0]
        rfl
      · by_cases hp1 : p > (a.length : Int) - z
        · rw [takeN_out (by omega), df hp0, dt hp1]
          rfl
        · simp (disch := omega) only [dt, df, wi, cond_false, cond_true, Bool.and_self]
          rw [takeN_in (by omega)]
          obtain ⟨q, rfl⟩ := Int.eq_ofNat_of_zero_le (show 0 ≤ p by omega)
          obtain ⟨y, rfl⟩ := Int.eq_ofNat_of_zero_le (show 0 ≤ z by omega)
          have hab : List.drop (Int.toNat (q : Int)) (List.take (Int.toNat (IntKind.wrap IntKind.i64 ((q : Int) + (y : Int)))) a) = (a.drop q).take y := by
            rw [wi (by omega) (by omega), ← Int.natCast_add, Int.toNat_natCast, Int.toNat_natCast, List.drop_take, Nat.add_sub_cancel_left]
          have hlen : ((a.drop q).take y).length ≤ 6 := by simp; omega
          have hbb := okB_sub h1 (b := (a.drop q).take y) (fun x hx => List.mem_of_mem_drop (List.mem_of_mem_take hx))
          have := p16 (fun x => some (decide (1 ≤ x ∧ x ≤ 6))) 7 a q y ((a.drop q).take y) 0 0 hab hbb hlen (fun _ _ h => some (0, IntKind.wrap .i64 h)) 7 0 0 (by omega) (by omega) (by omega) (by decide)
          refine this.trans ?_
          have hbd := num_bound ((a.drop q).take y) 0 0 hbb (by omega) (by decide)
          have hbd2 : (256 : Int) ^ (0 + ((a.drop q).take y).length) ≤ 281474976710656 := by
            have : ((a.drop q).take y).length = 0 ∨ ((a.drop q).take y).length = 1 ∨ ((a.drop q).take y).length = 2 ∨ ((a.drop q).take y).length = 3 ∨ ((a.drop q).take y).length = 4 ∨ ((a.drop q).take y).length = 5 ∨ ((a.drop q).take y).length = 6 := by omega
            rcases this with h | h | h | h | h | h | h <;> rw [h] <;> decide
          simp only [List.drop_zero, Int.toNat_natCast]
          rw [wi (by omega) (by omega)]
    · rw [takeN_out (fun h => hz ⟨h.1, h.2.1⟩), df hz]
      rfl
  · cases h

/-! FnExactTakeNumber -/
def m7 (x : List Int × Int × Int) : Option Bool := if okB x.1 = true ∧ iv x.2.2 = true then some true else none
theorem sat7 : Sat prog cxT 7 (c7 m7) := s7 m30 m29 m16 m31 m32 sat30 sat29 sat16 sat31 sat32 m7 fun x t h => by
  obtain ⟨a, p, z⟩ := x
  unfold m7 at h
  split at h
  · rename_i hc
    obtain ⟨h1, h2⟩ := hc
    simp only at h1 h2
    cases h
    refine ⟨0, ?_⟩
    unfold g7
    by_cases hl : (a.length : Int) > 1048576
    · simp (disch := omega) only [dt, cond_true]
    · have e30 : m30 a = some a := if_pos (by omega)
      have e29 : m29 (a, p, z) = some (takeN a p z) := if_pos ⟨h1, by show a.length ≤ 1000000000000; omega, h2⟩
      have e16 : m16 (a, p, z) = some (takeN a p z) := if_pos ⟨h1, by show a.length ≤ 1000000000000; omega, h2⟩
      have e32 : m32 (a, a) = some true := (if_pos ⟨by show a.length ≤ 1000000000000; omega, by show a.length ≤ 1000000000000; omega⟩).trans (by simp)
      simp (disch := omega) only [df, cond_false, e30, e29, e16, e32, m31, Option.isSome_some, Option.getD_some, cond_true]
      simp
  · cases h
end Go.Proofs.Try
