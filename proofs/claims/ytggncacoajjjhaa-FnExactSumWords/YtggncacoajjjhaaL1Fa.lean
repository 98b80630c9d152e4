/- A part of the proof of FnExactSumWords: L1Fa. -/
import Derived.Test.YtggncacoajjjhaaL1Con
set_option maxHeartbeats 0
set_option linter.unusedVariables false
set_option linter.unusedSimpArgs false
namespace Go.Proofs.Try
open Go Go.VM Go.RowKit
/-! loop.example/g00222/laws.FnExactTakeNumber -/
def ev7 (m30 : (List Int) → Option (List Int)) (m29 : ((List Int) × Int × Int) → Option (Int × Int)) (m16 : ((List Int) × Int × Int) → Option (Int × Int)) (m31 : ((Int × Int) × (Int × Int)) → Option Bool) (m32 : ((List Int) × (List Int)) → Option Bool) : Env cxT := { Kc := kcOf [(30, c30 m30), (29, c29 m29), (16, c16 m16), (31, c31 m31), (32, c32 m32)], lv := fun i => [], xv := fun i => none }
theorem i7 (m30 : (List Int) → Option (List Int)) (m29 : ((List Int) × Int × Int) → Option (Int × Int)) (m16 : ((List Int) × Int × Int) → Option (Int × Int)) (m31 : ((Int × Int) × (Int × Int)) → Option Bool) (m32 : ((List Int) × (List Int)) → Option Bool) (L : Nat) (a0 : (List Int)) (a1 : Int) (a2 : Int) : evF prog (ev7 m30 m29 m16 m31 m32) (loopN L) f7 (a7.enc (a0, a1, a2)) =
  bif (decide ((Nat.cast (List.length a0) : Int) > (1048576 : Int))) then some (n7 Bool.true)
  else bif (Option.isSome (m30 a0)) then bif (Option.isSome (m29 ((Option.getD (m30 a0) []), (a1, a2)))) then bif (Option.isSome (m30 a0)) then bif (Option.isSome (m16 ((Option.getD (m30 a0) []), (a1, a2)))) then bif (Option.isSome (m31 (((Option.getD (m16 ((Option.getD (m30 a0) []), (a1, a2))) ((0 : Int), (0 : Int))).1, (Option.getD (m16 ((Option.getD (m30 a0) []), (a1, a2))) ((0 : Int), (0 : Int))).2), ((Option.getD (m29 ((Option.getD (m30 a0) []), (a1, a2))) ((0 : Int), (0 : Int))).1, (Option.getD (m29 ((Option.getD (m30 a0) []), (a1, a2))) ((0 : Int), (0 : Int))).2)))) then bif (!(Option.getD (m31 (((Option.getD (m16 ((Option.getD (m30 a0) []), (a1, a2))) ((0 : Int), (0 : Int))).1, (Option.getD (m16 ((Option.getD (m30 a0) []), (a1, a2))) ((0 : Int), (0 : Int))).2), ((Option.getD (m29 ((Option.getD (m30 a0) []), (a1, a2))) ((0 : Int), (0 : Int))).1, (Option.getD (m29 ((Option.getD (m30 a0) []), (a1, a2))) ((0 : Int), (0 : Int))).2))) Bool.false)) then some (n7 Bool.false)
            else bif (Option.isSome (m30 a0)) then bif (Option.isSome (m32 ((Option.getD (m30 a0) []), (Option.getD (m30 a0) [])))) then bif (!(Option.getD (m32 ((Option.getD (m30 a0) []), (Option.getD (m30 a0) []))) Bool.false)) then some (n7 Bool.false)
                else some (n7 Bool.true)
              else none
            else none
          else none
        else none
      else none
    else none
  else none := by kernel_rfl
def g7 (m30 : (List Int) → Option (List Int)) (m29 : ((List Int) × Int × Int) → Option (Int × Int)) (m16 : ((List Int) × Int × Int) → Option (Int × Int)) (m31 : ((Int × Int) × (Int × Int)) → Option Bool) (m32 : ((List Int) × (List Int)) → Option Bool) (L : Nat) (a0 : (List Int)) (a1 : Int) (a2 : Int) : Option Bool :=
  bif (decide ((Nat.cast (List.length a0) : Int) > (1048576 : Int))) then some Bool.true
  else bif (Option.isSome (m30 a0)) then bif (Option.isSome (m29 ((Option.getD (m30 a0) []), (a1, a2)))) then bif (Option.isSome (m30 a0)) then bif (Option.isSome (m16 ((Option.getD (m30 a0) []), (a1, a2)))) then bif (Option.isSome (m31 (((Option.getD (m16 ((Option.getD (m30 a0) []), (a1, a2))) ((0 : Int), (0 : Int))).1, (Option.getD (m16 ((Option.getD (m30 a0) []), (a1, a2))) ((0 : Int), (0 : Int))).2), ((Option.getD (m29 ((Option.getD (m30 a0) []), (a1, a2))) ((0 : Int), (0 : Int))).1, (Option.getD (m29 ((Option.getD (m30 a0) []), (a1, a2))) ((0 : Int), (0 : Int))).2)))) then bif (!(Option.getD (m31 (((Option.getD (m16 ((Option.getD (m30 a0) []), (a1, a2))) ((0 : Int), (0 : Int))).1, (Option.getD (m16 ((Option.getD (m30 a0) []), (a1, a2))) ((0 : Int), (0 : Int))).2), ((Option.getD (m29 ((Option.getD (m30 a0) []), (a1, a2))) ((0 : Int), (0 : Int))).1, (Option.getD (m29 ((Option.getD (m30 a0) []), (a1, a2))) ((0 : Int), (0 : Int))).2))) Bool.false)) then some Bool.false
            else bif (Option.isSome (m30 a0)) then bif (Option.isSome (m32 ((Option.getD (m30 a0) []), (Option.getD (m30 a0) [])))) then bif (!(Option.getD (m32 ((Option.getD (m30 a0) []), (Option.getD (m30 a0) []))) Bool.false)) then some Bool.false
                else some Bool.true
              else none
            else none
          else none
        else none
      else none
    else none
  else none
theorem e7 (m30 : (List Int) → Option (List Int)) (m29 : ((List Int) × Int × Int) → Option (Int × Int)) (m16 : ((List Int) × Int × Int) → Option (Int × Int)) (m31 : ((Int × Int) × (Int × Int)) → Option Bool) (m32 : ((List Int) × (List Int)) → Option Bool) (L : Nat) (a0 : (List Int)) (a1 : Int) (a2 : Int) : evF prog (ev7 m30 m29 m16 m31 m32) (loopN L) f7 (a7.enc (a0, a1, a2)) = (g7 m30 m29 m16 m31 m32 L a0 a1 a2).map n7 := by
  rw [i7]; simp only [g7, map_bif, Option.map_some, Option.map_none]
theorem s7 (m30 : (List Int) → Option (List Int)) (m29 : ((List Int) × Int × Int) → Option (Int × Int)) (m16 : ((List Int) × Int × Int) → Option (Int × Int)) (m31 : ((Int × Int) × (Int × Int)) → Option Bool) (m32 : ((List Int) × (List Int)) → Option Bool) (h30 : Sat prog cxT 30 (c30 m30)) (h29 : Sat prog cxT 29 (c29 m29)) (h16 : Sat prog cxT 16 (c16 m16)) (h31 : Sat prog cxT 31 (c31 m31)) (h32 : Sat prog cxT 32 (c32 m32)) (m : ((List Int) × Int × Int) → Option Bool) (hm : ∀ (x : ((List Int) × Int × Int)) t, m x = some t → ∃ L, g7 m30 m29 m16 m31 m32 L x.1 x.2.1 x.2.2 = some t) : Sat prog cxT 7 (c7 m) :=
  sat_t cxT_ok cxT_pok (by rfl) (fn := f7) rfl a7 n7 dd7 m (ev7 m30 m29 m16 m31 m32) (kok_cons h30 (kok_cons h29 (kok_cons h16 (kok_cons h31 (kok_cons h32 kok_nil))))) (fun L x => g7 m30 m29 m16 m31 m32 L x.1 x.2.1 x.2.2) (fun L x => e7 m30 m29 m16 m31 m32 L x.1 x.2.1 x.2.2) hm hs7
/-! loop.example/g00222/laws.FnExactSumWords -/
def ev8 (m30 : (List Int) → Option (List Int)) (m20 : (List Int) → Option Int) (m18 : (List Int) → Option Int) (m32 : ((List Int) × (List Int)) → Option Bool) : Env cxT := { Kc := kcOf [(30, c30 m30), (20, c20 m20), (18, c18 m18), (32, c32 m32)], lv := fun i => [], xv := fun i => none }
theorem i8 (m30 : (List Int) → Option (List Int)) (m20 : (List Int) → Option Int) (m18 : (List Int) → Option Int) (m32 : ((List Int) × (List Int)) → Option Bool) (L : Nat) (a0 : (List Int)) : evF prog (ev8 m30 m20 m18 m32) (loopN L) f8 (a8.enc a0) =
  bif (decide ((Nat.cast (List.length a0) : Int) > (1048576 : Int))) then some (n8 Bool.true)
  else bif (Option.isSome (m30 a0)) then bif (Option.isSome (m20 (Option.getD (m30 a0) []))) then bif (Option.isSome (m30 a0)) then bif (Option.isSome (m18 (Option.getD (m30 a0) []))) then bif ((Option.getD (m18 (Option.getD (m30 a0) [])) (0 : Int)) != (Option.getD (m20 (Option.getD (m30 a0) [])) (0 : Int))) then some (n8 Bool.false)
          else bif (Option.isSome (m30 a0)) then bif (Option.isSome (m32 ((Option.getD (m30 a0) []), (Option.getD (m30 a0) [])))) then bif (!(Option.getD (m32 ((Option.getD (m30 a0) []), (Option.getD (m30 a0) []))) Bool.false)) then some (n8 Bool.false)
              else some (n8 Bool.true)
            else none
          else none
        else none
      else none
    else none
  else none := by kernel_rfl
def g8 (m30 : (List Int) → Option (List Int)) (m20 : (List Int) → Option Int) (m18 : (List Int) → Option Int) (m32 : ((List Int) × (List Int)) → Option Bool) (L : Nat) (a0 : (List Int)) : Option Bool :=
  bif (decide ((Nat.cast (List.length a0) : Int) > (1048576 : Int))) then some Bool.true
  else bif (Option.isSome (m30 a0)) then bif (Option.isSome (m20 (Option.getD (m30 a0) []))) then bif (Option.isSome (m30 a0)) then bif (Option.isSome (m18 (Option.getD (m30 a0) []))) then bif ((Option.getD (m18 (Option.getD (m30 a0) [])) (0 : Int)) != (Option.getD (m20 (Option.getD (m30 a0) [])) (0 : Int))) then some Bool.false
          else bif (Option.isSome (m30 a0)) then bif (Option.isSome (m32 ((Option.getD (m30 a0) []), (Option.getD (m30 a0) [])))) then bif (!(Option.getD (m32 ((Option.getD (m30 a0) []), (Option.getD (m30 a0) []))) Bool.false)) then some Bool.false
              else some Bool.true
            else none
          else none
        else none
      else none
    else none
  else none
theorem e8 (m30 : (List Int) → Option (List Int)) (m20 : (List Int) → Option Int) (m18 : (List Int) → Option Int) (m32 : ((List Int) × (List Int)) → Option Bool) (L : Nat) (a0 : (List Int)) : evF prog (ev8 m30 m20 m18 m32) (loopN L) f8 (a8.enc a0) = (g8 m30 m20 m18 m32 L a0).map n8 := by
  rw [i8]; simp only [g8, map_bif, Option.map_some, Option.map_none]
theorem s8 (m30 : (List Int) → Option (List Int)) (m20 : (List Int) → Option Int) (m18 : (List Int) → Option Int) (m32 : ((List Int) × (List Int)) → Option Bool) (h30 : Sat prog cxT 30 (c30 m30)) (h20 : Sat prog cxT 20 (c20 m20)) (h18 : Sat prog cxT 18 (c18 m18)) (h32 : Sat prog cxT 32 (c32 m32)) (m : (List Int) → Option Bool) (hm : ∀ (x : (List Int)) t, m x = some t → ∃ L, g8 m30 m20 m18 m32 L x = some t) : Sat prog cxT 8 (c8 m) :=
  sat_t cxT_ok cxT_pok (by rfl) (fn := f8) rfl a8 n8 dd8 m (ev8 m30 m20 m18 m32) (kok_cons h30 (kok_cons h20 (kok_cons h18 (kok_cons h32 kok_nil)))) (fun L x => g8 m30 m20 m18 m32 L x) (fun L x => e8 m30 m20 m18 m32 L x) hm hs8
/-! loop.example/g00222/laws.FnExactWholeSum -/
def ev9 (m30 : (List Int) → Option (List Int)) (m33 : (List Int) → Option Bool) (m19 : (List Int) → Option Bool) (m32 : ((List Int) × (List Int)) → Option Bool) : Env cxT := { Kc := kcOf [(30, c30 m30), (33, c33 m33), (19, c19 m19), (32, c32 m32)], lv := fun i => [], xv := fun i => none }
theorem i9 (m30 : (List Int) → Option (List Int)) (m33 : (List Int) → Option Bool) (m19 : (List Int) → Option Bool) (m32 : ((List Int) × (List Int)) → Option Bool) (L : Nat) (a0 : (List Int)) : evF prog (ev9 m30 m33 m19 m32) (loopN L) f9 (a9.enc a0) =
  bif (decide ((Nat.cast (List.length a0) : Int) > (1048576 : Int))) then some (n9 Bool.true)
  else bif (Option.isSome (m30 a0)) then bif (Option.isSome (m33 (Option.getD (m30 a0) []))) then bif (Option.isSome (m30 a0)) then bif (Option.isSome (m19 (Option.getD (m30 a0) []))) then bif (!((Option.getD (m19 (Option.getD (m30 a0) [])) Bool.false) == (Option.getD (m33 (Option.getD (m30 a0) [])) Bool.false))) then some (n9 Bool.false)
          else bif (Option.isSome (m30 a0)) then bif (Option.isSome (m32 ((Option.getD (m30 a0) []), (Option.getD (m30 a0) [])))) then bif (!(Option.getD (m32 ((Option.getD (m30 a0) []), (Option.getD (m30 a0) []))) Bool.false)) then some (n9 Bool.false)
              else some (n9 Bool.true)
            else none
          else none
        else none
      else none
    else none
  else none := by kernel_rfl
def g9 (m30 : (List Int) → Option (List Int)) (m33 : (List Int) → Option Bool) (m19 : (List Int) → Option Bool) (m32 : ((List Int) × (List Int)) → Option Bool) (L : Nat) (a0 : (List Int)) : Option Bool :=
  bif (decide ((Nat.cast (List.length a0) : Int) > (1048576 : Int))) then some Bool.true
  else bif (Option.isSome (m30 a0)) then bif (Option.isSome (m33 (Option.getD (m30 a0) []))) then bif (Option.isSome (m30 a0)) then bif (Option.isSome (m19 (Option.getD (m30 a0) []))) then bif (!((Option.getD (m19 (Option.getD (m30 a0) [])) Bool.false) == (Option.getD (m33 (Option.getD (m30 a0) [])) Bool.false))) then some Bool.false
          else bif (Option.isSome (m30 a0)) then bif (Option.isSome (m32 ((Option.getD (m30 a0) []), (Option.getD (m30 a0) [])))) then bif (!(Option.getD (m32 ((Option.getD (m30 a0) []), (Option.getD (m30 a0) []))) Bool.false)) then some Bool.false
              else some Bool.true
            else none
          else none
        else none
      else none
    else none
  else none
theorem e9 (m30 : (List Int) → Option (List Int)) (m33 : (List Int) → Option Bool) (m19 : (List Int) → Option Bool) (m32 : ((List Int) × (List Int)) → Option Bool) (L : Nat) (a0 : (List Int)) : evF prog (ev9 m30 m33 m19 m32) (loopN L) f9 (a9.enc a0) = (g9 m30 m33 m19 m32 L a0).map n9 := by
  rw [i9]; simp only [g9, map_bif, Option.map_some, Option.map_none]
theorem s9 (m30 : (List Int) → Option (List Int)) (m33 : (List Int) → Option Bool) (m19 : (List Int) → Option Bool) (m32 : ((List Int) × (List Int)) → Option Bool) (h30 : Sat prog cxT 30 (c30 m30)) (h33 : Sat prog cxT 33 (c33 m33)) (h19 : Sat prog cxT 19 (c19 m19)) (h32 : Sat prog cxT 32 (c32 m32)) (m : (List Int) → Option Bool) (hm : ∀ (x : (List Int)) t, m x = some t → ∃ L, g9 m30 m33 m19 m32 L x = some t) : Sat prog cxT 9 (c9 m) :=
  sat_t cxT_ok cxT_pok (by rfl) (fn := f9) rfl a9 n9 dd9 m (ev9 m30 m33 m19 m32) (kok_cons h30 (kok_cons h33 (kok_cons h19 (kok_cons h32 kok_nil)))) (fun L x => g9 m30 m33 m19 m32 L x) (fun L x => e9 m30 m33 m19 m32 L x) hm hs9
/-! loop.example/g00222/impl.TakeNumber -/
def ev16 (m44 : Int → Option Bool) : Env cxT := { Kc := kcOf [(44, c44 m44)], lv := fun i => if i = 0 then [(6, []), (7, []), (31, [some 5]), (32, []), (33, [])] else [], xv := fun i => if i = 0 then some [(6, []), (7, [])] else none }
def S16_0 (a0 : (List Int)) (a1 : Int) (a2 : Int) (v0_6_0 : Int) (v0_6_1 : Int) (v0_7 : Int) (v0_33 : Int) : St cxT.ty := { slots := [junk, junk, junk, junk, junk, junk, (.inr (.inr { kind := 0, nm := 384, cells := [(lv (.int .i64 v0_6_0)), (lv (.int .i64 v0_6_1))], s := { own := 0, nm := 0, e := 0, o := false, xs := [] }, i := 0, off := 0 })), (.inl (.inl (lv (.int .u64 v0_7)))), junk, junk, junk, junk, junk, junk, junk, junk, junk, junk, junk, junk, junk, junk, junk, junk, junk, junk, junk, junk, junk, junk, junk, (.inl (.inl (ls { own := 0, nm := 0, e := 5, o := false, xs := (List.drop (Int.toNat a1) (List.take (Int.toNat (Go.IntKind.wrap Go.IntKind.i64 (a1 + a2))) a0)) }))), (.inl (.inl (lv (.int .i64 (Nat.cast (List.length (List.drop (Int.toNat a1) (List.take (Int.toNat (Go.IntKind.wrap Go.IntKind.i64 (a1 + a2))) a0))) : Int))))), (.inl (.inl (lv (.int .i64 v0_33))))] ++ List.replicate 12 junk, D := [], F := [], ctr := 1 }
def X16_0 (a0 : (List Int)) (a1 : Int) (a2 : Int) (w0_6_0 : Int) (w0_6_1 : Int) (w0_7 : Int) : St cxT.ty := { slots := [junk, junk, junk, junk, junk, junk, (.inr (.inr { kind := 0, nm := 384, cells := [(lv (.int .i64 w0_6_0)), (lv (.int .i64 w0_6_1))], s := { own := 0, nm := 0, e := 0, o := false, xs := [] }, i := 0, off := 0 })), (.inl (.inl (lv (.int .u64 w0_7))))] ++ List.replicate 38 junk, D := [], F := [], ctr := 1 }
theorem i16 (m44 : Int → Option Bool) (L : Nat) (a0 : (List Int)) (a1 : Int) (a2 : Int) : evF prog (ev16 m44) (loopN L) f16 (a16.enc (a0, a1, a2)) =
  bif (Option.isSome (m44 a2)) then bif (!(Option.getD (m44 a2) Bool.false)) then some (n16 ((3 : Int), (0 : Int)))
    else bif (decide (a1 < (0 : Int))) then some (n16 ((3 : Int), (0 : Int)))
    else bif (decide (a1 > (Go.IntKind.wrap Go.IntKind.i64 ((Nat.cast (List.length a0) : Int) - a2)))) then some (n16 ((3 : Int), (0 : Int)))
    else bif (((decide ((0 : Int) ≤ a1)) && (decide (a1 ≤ (Go.IntKind.wrap Go.IntKind.i64 (a1 + a2))))) && (decide ((Go.IntKind.wrap Go.IntKind.i64 (a1 + a2)) ≤ (Nat.cast (List.length a0) : Int)))) then headF prog (ev16 m44) L f16 0 [1, 1, 1, 0, 1, 0, 0] (outK prog f16 (topK prog (ev16 m44) L f16 [1, 1, 1, 0, 1]).n (topK prog (ev16 m44) L f16 [1, 1, 1, 0, 1]).x) L (S16_0 a0 a1 a2 (0 : Int) (0 : Int) (0 : Int) (0 : Int))
    else none
  else none := by kernel_rfl
theorem r16_0 (m44 : Int → Option Bool) (L : Nat) (a0 : (List Int)) (a1 : Int) (a2 : Int) (k : St cxT.ty → Option (V cxT.ty)) (xk : Nat → St cxT.ty → Option (V cxT.ty)) (g : St cxT.ty → Option (V cxT.ty)) (v0_6_0 : Int) (v0_6_1 : Int) (v0_7 : Int) (v0_33 : Int) : roundF prog (ev16 m44) L f16 0 [1, 1, 1, 0, 1, 0, 0] (outK prog f16 k xk) g (S16_0 a0 a1 a2 v0_6_0 v0_6_1 v0_7 v0_33) =
  bif (decide (v0_33 < (Nat.cast (List.length (List.drop (Int.toNat a1) (List.take (Int.toNat (Go.IntKind.wrap Go.IntKind.i64 (a1 + a2))) a0))) : Int))) then bif ((decide ((0 : Int) ≤ v0_33)) && (decide (v0_33 < (Nat.cast (List.length (List.drop (Int.toNat a1) (List.take (Int.toNat (Go.IntKind.wrap Go.IntKind.i64 (a1 + a2))) a0))) : Int)))) then g (S16_0 a0 a1 a2 v0_6_0 v0_6_1 (Go.IntKind.wrap Go.IntKind.u64 (Nat.cast (BitVec.toNat (HOr.hOr (BitVec.ofInt (Go.IntKind.bits Go.IntKind.u64) (Go.IntKind.wrap Go.IntKind.u64 (v0_7 * ((2 : Int) ^ (min (Int.toNat (8 : Int)) (Go.IntKind.bits Go.IntKind.u64)))))) (BitVec.ofInt (Go.IntKind.bits Go.IntKind.u64) (Go.IntKind.wrap Go.IntKind.u64 (List.getD (List.drop (Int.toNat a1) (List.take (Int.toNat (Go.IntKind.wrap Go.IntKind.i64 (a1 + a2))) a0)) (Int.toNat v0_33) (0 : Int)))))) : Int)) (Go.IntKind.wrap Go.IntKind.i64 (v0_33 + (1 : Int))))
    else none
  else k (X16_0 a0 a1 a2 v0_6_0 v0_6_1 v0_7) := by kernel_rfl
theorem t16_0 (m44 : Int → Option Bool) (L : Nat) (a0 : (List Int)) (a1 : Int) (a2 : Int) (w0_6_0 : Int) (w0_6_1 : Int) (w0_7 : Int) : (topK prog (ev16 m44) L f16 [1, 1, 1, 0, 1]).n (X16_0 a0 a1 a2 w0_6_0 w0_6_1 w0_7) =
  some (n16 ((0 : Int), (Go.IntKind.wrap Go.IntKind.i64 w0_7))) := by kernel_rfl
def l16_0 (m44 : Int → Option Bool) (L : Nat) (a0 : (List Int)) (a1 : Int) (a2 : Int) : Nat → Int → Int → Int → Int → (Int → Int → Int → Option (Int × Int)) → Option (Int × Int)
  | 0, _, _, _, _, _ => none
  | n + 1, v0_6_0, v0_6_1, v0_7, v0_33, k =>
    bif (decide (v0_33 < (Nat.cast (List.length (List.drop (Int.toNat a1) (List.take (Int.toNat (Go.IntKind.wrap Go.IntKind.i64 (a1 + a2))) a0))) : Int))) then bif ((decide ((0 : Int) ≤ v0_33)) && (decide (v0_33 < (Nat.cast (List.length (List.drop (Int.toNat a1) (List.take (Int.toNat (Go.IntKind.wrap Go.IntKind.i64 (a1 + a2))) a0))) : Int)))) then l16_0 m44 L a0 a1 a2 n v0_6_0 v0_6_1 (Go.IntKind.wrap Go.IntKind.u64 (Nat.cast (BitVec.toNat (HOr.hOr (BitVec.ofInt (Go.IntKind.bits Go.IntKind.u64) (Go.IntKind.wrap Go.IntKind.u64 (v0_7 * ((2 : Int) ^ (min (Int.toNat (8 : Int)) (Go.IntKind.bits Go.IntKind.u64)))))) (BitVec.ofInt (Go.IntKind.bits Go.IntKind.u64) (Go.IntKind.wrap Go.IntKind.u64 (List.getD (List.drop (Int.toNat a1) (List.take (Int.toNat (Go.IntKind.wrap Go.IntKind.i64 (a1 + a2))) a0)) (Int.toNat v0_33) (0 : Int)))))) : Int)) (Go.IntKind.wrap Go.IntKind.i64 (v0_33 + (1 : Int))) k
      else none
    else k v0_6_0 v0_6_1 v0_7
theorem h16_0 (m44 : Int → Option Bool) (L : Nat) (a0 : (List Int)) (a1 : Int) (a2 : Int) (k : St cxT.ty → Option (V cxT.ty)) (xk : Nat → St cxT.ty → Option (V cxT.ty)) (k' : Int → Int → Int → Option (Int × Int)) (hk : ∀ (w0_6_0 : Int) (w0_6_1 : Int) (w0_7 : Int), k (X16_0 a0 a1 a2 w0_6_0 w0_6_1 w0_7) = (k' w0_6_0 w0_6_1 w0_7).map n16) : ∀ (n : Nat) (v0_6_0 : Int) (v0_6_1 : Int) (v0_7 : Int) (v0_33 : Int), headF prog (ev16 m44) L f16 0 [1, 1, 1, 0, 1, 0, 0] (outK prog f16 k xk) n (S16_0 a0 a1 a2 v0_6_0 v0_6_1 v0_7 v0_33) = (l16_0 m44 L a0 a1 a2 n v0_6_0 v0_6_1 v0_7 v0_33 k').map n16
  | 0, _, _, _, _ => rfl
  | n + 1, v0_6_0, v0_6_1, v0_7, v0_33 => by
    rw [headF_round, r16_0]
    have ih := h16_0 m44 L a0 a1 a2 k xk k' hk n
    simp only [l16_0, map_bif, Option.map_some, Option.map_none, ih, hk]
def g16 (m44 : Int → Option Bool) (L : Nat) (a0 : (List Int)) (a1 : Int) (a2 : Int) : Option (Int × Int) :=
  bif (Option.isSome (m44 a2)) then bif (!(Option.getD (m44 a2) Bool.false)) then some ((3 : Int), (0 : Int))
    else bif (decide (a1 < (0 : Int))) then some ((3 : Int), (0 : Int))
    else bif (decide (a1 > (Go.IntKind.wrap Go.IntKind.i64 ((Nat.cast (List.length a0) : Int) - a2)))) then some ((3 : Int), (0 : Int))
    else bif (((decide ((0 : Int) ≤ a1)) && (decide (a1 ≤ (Go.IntKind.wrap Go.IntKind.i64 (a1 + a2))))) && (decide ((Go.IntKind.wrap Go.IntKind.i64 (a1 + a2)) ≤ (Nat.cast (List.length a0) : Int)))) then l16_0 m44 L a0 a1 a2 L (0 : Int) (0 : Int) (0 : Int) (0 : Int) (fun (w0_6_0 : Int) (w0_6_1 : Int) (w0_7 : Int) => some ((0 : Int), (Go.IntKind.wrap Go.IntKind.i64 w0_7)))
    else none
  else none
theorem e16 (m44 : Int → Option Bool) (L : Nat) (a0 : (List Int)) (a1 : Int) (a2 : Int) : evF prog (ev16 m44) (loopN L) f16 (a16.enc (a0, a1, a2)) = (g16 m44 L a0 a1 a2).map n16 := by
  let K'0 : Int → Int → Int → Option (Int × Int) := (fun (w0_6_0 : Int) (w0_6_1 : Int) (w0_7 : Int) => some ((0 : Int), (Go.IntKind.wrap Go.IntKind.i64 w0_7)))
  have hin0 : ∀ (v0_6_0 : Int) (v0_6_1 : Int) (v0_7 : Int) (v0_33 : Int), headF prog (ev16 m44) L f16 0 [1, 1, 1, 0, 1, 0, 0] (outK prog f16 (topK prog (ev16 m44) L f16 [1, 1, 1, 0, 1]).n (topK prog (ev16 m44) L f16 [1, 1, 1, 0, 1]).x) L (S16_0 a0 a1 a2 v0_6_0 v0_6_1 v0_7 v0_33) = (l16_0 m44 L a0 a1 a2 L v0_6_0 v0_6_1 v0_7 v0_33 K'0).map n16 := fun v0_6_0 v0_6_1 v0_7 v0_33 => h16_0 m44 L a0 a1 a2 _ _ K'0 (fun w0_6_0 w0_6_1 w0_7 => by rw [t16_0]; simp only [K'0, map_bif, Option.map_some, Option.map_none]) L v0_6_0 v0_6_1 v0_7 v0_33
  rw [i16]; simp only [g16, map_bif, Option.map_some, Option.map_none, hin0, K'0]
theorem s16 (m44 : Int → Option Bool) (h44 : Sat prog cxT 44 (c44 m44)) (m : ((List Int) × Int × Int) → Option (Int × Int)) (hm : ∀ (x : ((List Int) × Int × Int)) t, m x = some t → ∃ L, g16 m44 L x.1 x.2.1 x.2.2 = some t) : Sat prog cxT 16 (c16 m) :=
  sat_t cxT_ok cxT_pok (by rfl) (fn := f16) rfl a16 n16 dd16 m (ev16 m44) (kok_cons h44 kok_nil) (fun L x => g16 m44 L x.1 x.2.1 x.2.2) (fun L x => e16 m44 L x.1 x.2.1 x.2.2) hm hs16
/-! loop.example/g00222/impl.SumWords -/
def ev18 (m50 : ((List Int) × Int) → Option Int) : Env cxT := { Kc := kcOf [(50, c50 m50)], lv := fun i => if i = 0 then [(0, [some 5]), (3, []), (4, [])] else if i = 2 then [(0, [some 5]), (3, []), (4, [])] else [], xv := fun i => if i = 0 then some [(3, [])] else if i = 2 then some [(0, [some 5]), (3, []), (4, [])] else none }
def S18_0 (a0 : (List Int)) (v0_3 : Int) (v0_4 : Int) : St cxT.ty := { slots := [(.inl (.inl (ls { own := 0, nm := 0, e := 5, o := false, xs := a0 }))), junk, junk, (.inl (.inl (lv (.int .u64 v0_3)))), (.inl (.inl (lv (.int .i64 v0_4))))] ++ List.replicate 18 junk, D := [], F := [], ctr := 1 }
def X18_0 (a0 : (List Int)) (w0_3 : Int) : St cxT.ty := { slots := [junk, junk, junk, (.inl (.inl (lv (.int .u64 w0_3))))] ++ List.replicate 19 junk, D := [], F := [], ctr := 1 }
def S18_2 (a0 : (List Int)) (v0_3 : Int) (v0_4 : Int) (v2_3 : Int) : St cxT.ty := { slots := [(.inl (.inl (ls { own := 0, nm := 0, e := 5, o := false, xs := a0 }))), junk, junk, (.inl (.inl (lv (.int .u64 v2_3)))), (.inl (.inl (lv (.int .i64 v0_4))))] ++ List.replicate 18 junk, D := [], F := [], ctr := 1 }
def X18_2 (a0 : (List Int)) (v0_3 : Int) (v0_4 : Int) (w2_3 : Int) : St cxT.ty := { slots := [(.inl (.inl (ls { own := 0, nm := 0, e := 5, o := false, xs := a0 }))), junk, junk, (.inl (.inl (lv (.int .u64 w2_3)))), (.inl (.inl (lv (.int .i64 v0_4))))] ++ List.replicate 18 junk, D := [], F := [], ctr := 1 }
theorem i18 (m50 : ((List Int) × Int) → Option Int) (L : Nat) (a0 : (List Int)) : evF prog (ev18 m50) (loopN L) f18 (a18.enc a0) =
  headF prog (ev18 m50) L f18 0 [1, 1, 0, 1, 0, 0] (outK prog f18 (topK prog (ev18 m50) L f18 [1, 1, 0, 1]).n (topK prog (ev18 m50) L f18 [1, 1, 0, 1]).x) L (S18_0 a0 (0 : Int) (0 : Int)) := by kernel_rfl
theorem r18_0 (m50 : ((List Int) × Int) → Option Int) (L : Nat) (a0 : (List Int)) (k : St cxT.ty → Option (V cxT.ty)) (xk : Nat → St cxT.ty → Option (V cxT.ty)) (g : St cxT.ty → Option (V cxT.ty)) (v0_3 : Int) (v0_4 : Int) : roundF prog (ev18 m50) L f18 0 [1, 1, 0, 1, 0, 0] (outK prog f18 k xk) g (S18_0 a0 v0_3 v0_4) =
  bif (decide (v0_4 < (Nat.cast (List.length a0) : Int))) then bif (Option.isSome (m50 (a0, v0_4))) then headF prog (ev18 m50) L f18 2 [1, 1, 0, 1, 0, 0, 1, 0, 0, 1, 0, 0] (outK prog f18 (inK prog (ev18 m50) L f18 0 [1, 1, 0, 1, 0, 0] [1, 0, 0, 1] (outK prog f18 k xk) g).n (inK prog (ev18 m50) L f18 0 [1, 1, 0, 1, 0, 0] [1, 0, 0, 1] (outK prog f18 k xk) g).x) L (S18_2 a0 v0_3 v0_4 (Go.IntKind.wrap Go.IntKind.u64 (v0_3 + (Option.getD (m50 (a0, v0_4)) (0 : Int)))))
    else none
  else k (X18_0 a0 v0_3) := by kernel_rfl
theorem t18_0 (m50 : ((List Int) × Int) → Option Int) (L : Nat) (a0 : (List Int)) (w0_3 : Int) : (topK prog (ev18 m50) L f18 [1, 1, 0, 1]).n (X18_0 a0 w0_3) =
  some (n18 (Go.IntKind.wrap Go.IntKind.i64 ((65535 : Int) - (Go.IntKind.wrap Go.IntKind.i64 w0_3)))) := by kernel_rfl
theorem r18_2 (m50 : ((List Int) × Int) → Option Int) (L : Nat) (a0 : (List Int)) (v0_3 : Int) (v0_4 : Int) (k : St cxT.ty → Option (V cxT.ty)) (xk : Nat → St cxT.ty → Option (V cxT.ty)) (g : St cxT.ty → Option (V cxT.ty)) (v2_3 : Int) : roundF prog (ev18 m50) L f18 2 [1, 1, 0, 1, 0, 0, 1, 0, 0, 1, 0, 0] (outK prog f18 k xk) g (S18_2 a0 v0_3 v0_4 v2_3) =
  bif (decide (v2_3 > (65535 : Int))) then g (S18_2 a0 v0_3 v0_4 (Go.IntKind.wrap Go.IntKind.u64 (v2_3 - (65535 : Int))))
  else k (X18_2 a0 v0_3 v0_4 v2_3) := by kernel_rfl
theorem t18_2 (m50 : ((List Int) × Int) → Option Int) (L : Nat) (a0 : (List Int)) (v0_3 : Int) (v0_4 : Int) (k : St cxT.ty → Option (V cxT.ty)) (xk : Nat → St cxT.ty → Option (V cxT.ty)) (g : St cxT.ty → Option (V cxT.ty)) (w2_3 : Int) : (inK prog (ev18 m50) L f18 0 [1, 1, 0, 1, 0, 0] [1, 0, 0, 1] (outK prog f18 k xk) g).n (X18_2 a0 v0_3 v0_4 w2_3) =
  g (S18_0 a0 w2_3 (Go.IntKind.wrap Go.IntKind.i64 (v0_4 + (2 : Int)))) := by kernel_rfl
def l18_2 (m50 : ((List Int) × Int) → Option Int) (L : Nat) (a0 : (List Int)) (v0_3 : Int) (v0_4 : Int) : Nat → Int → (Int → Option Int) → Option Int
  | 0, _, _ => none
  | n + 1, v2_3, k =>
    bif (decide (v2_3 > (65535 : Int))) then l18_2 m50 L a0 v0_3 v0_4 n (Go.IntKind.wrap Go.IntKind.u64 (v2_3 - (65535 : Int))) k
    else k v2_3
theorem h18_2 (m50 : ((List Int) × Int) → Option Int) (L : Nat) (a0 : (List Int)) (v0_3 : Int) (v0_4 : Int) (k : St cxT.ty → Option (V cxT.ty)) (xk : Nat → St cxT.ty → Option (V cxT.ty)) (k' : Int → Option Int) (hk : ∀ (w2_3 : Int), k (X18_2 a0 v0_3 v0_4 w2_3) = (k' w2_3).map n18) : ∀ (n : Nat) (v2_3 : Int), headF prog (ev18 m50) L f18 2 [1, 1, 0, 1, 0, 0, 1, 0, 0, 1, 0, 0] (outK prog f18 k xk) n (S18_2 a0 v0_3 v0_4 v2_3) = (l18_2 m50 L a0 v0_3 v0_4 n v2_3 k').map n18
  | 0, _ => rfl
  | n + 1, v2_3 => by
    rw [headF_round, r18_2]
    have ih := h18_2 m50 L a0 v0_3 v0_4 k xk k' hk n
    simp only [l18_2, map_bif, Option.map_some, Option.map_none, ih, hk]
def l18_0 (m50 : ((List Int) × Int) → Option Int) (L : Nat) (a0 : (List Int)) : Nat → Int → Int → (Int → Option Int) → Option Int
  | 0, _, _, _ => none
  | n + 1, v0_3, v0_4, k =>
    bif (decide (v0_4 < (Nat.cast (List.length a0) : Int))) then bif (Option.isSome (m50 (a0, v0_4))) then l18_2 m50 L a0 v0_3 v0_4 L (Go.IntKind.wrap Go.IntKind.u64 (v0_3 + (Option.getD (m50 (a0, v0_4)) (0 : Int)))) (fun (w2_3 : Int) => l18_0 m50 L a0 n w2_3 (Go.IntKind.wrap Go.IntKind.i64 (v0_4 + (2 : Int))) k)
      else none
    else k v0_3
theorem h18_0 (m50 : ((List Int) × Int) → Option Int) (L : Nat) (a0 : (List Int)) (k : St cxT.ty → Option (V cxT.ty)) (xk : Nat → St cxT.ty → Option (V cxT.ty)) (k' : Int → Option Int) (hk : ∀ (w0_3 : Int), k (X18_0 a0 w0_3) = (k' w0_3).map n18) : ∀ (n : Nat) (v0_3 : Int) (v0_4 : Int), headF prog (ev18 m50) L f18 0 [1, 1, 0, 1, 0, 0] (outK prog f18 k xk) n (S18_0 a0 v0_3 v0_4) = (l18_0 m50 L a0 n v0_3 v0_4 k').map n18
  | 0, _, _ => rfl
  | n + 1, v0_3, v0_4 => by
    rw [headF_round, r18_0]
    have ih := h18_0 m50 L a0 k xk k' hk n
    let K'2 : Int → Option Int := (fun (w2_3 : Int) => l18_0 m50 L a0 n w2_3 (Go.IntKind.wrap Go.IntKind.i64 (v0_4 + (2 : Int))) k')
    have hin2 : ∀ (v2_3 : Int), headF prog (ev18 m50) L f18 2 [1, 1, 0, 1, 0, 0, 1, 0, 0, 1, 0, 0] (outK prog f18 (inK prog (ev18 m50) L f18 0 [1, 1, 0, 1, 0, 0] [1, 0, 0, 1] (outK prog f18 k xk) (headF prog (ev18 m50) L f18 0 [1, 1, 0, 1, 0, 0] (outK prog f18 k xk) n)).n (inK prog (ev18 m50) L f18 0 [1, 1, 0, 1, 0, 0] [1, 0, 0, 1] (outK prog f18 k xk) (headF prog (ev18 m50) L f18 0 [1, 1, 0, 1, 0, 0] (outK prog f18 k xk) n)).x) L (S18_2 a0 v0_3 v0_4 v2_3) = (l18_2 m50 L a0 v0_3 v0_4 L v2_3 K'2).map n18 := fun v2_3 => h18_2 m50 L a0 v0_3 v0_4 _ _ (K'2) (fun w2_3 => by rw [t18_2]; simp only [K'2, map_bif, Option.map_some, Option.map_none, ih, hk]) L v2_3
    simp only [l18_0, map_bif, Option.map_some, Option.map_none, ih, hk, hin2, K'2]
def g18 (m50 : ((List Int) × Int) → Option Int) (L : Nat) (a0 : (List Int)) : Option Int :=
  l18_0 m50 L a0 L (0 : Int) (0 : Int) (fun (w0_3 : Int) => some (Go.IntKind.wrap Go.IntKind.i64 ((65535 : Int) - (Go.IntKind.wrap Go.IntKind.i64 w0_3))))
theorem e18 (m50 : ((List Int) × Int) → Option Int) (L : Nat) (a0 : (List Int)) : evF prog (ev18 m50) (loopN L) f18 (a18.enc a0) = (g18 m50 L a0).map n18 := by
  let K'0 : Int → Option Int := (fun (w0_3 : Int) => some (Go.IntKind.wrap Go.IntKind.i64 ((65535 : Int) - (Go.IntKind.wrap Go.IntKind.i64 w0_3))))
  have hin0 : ∀ (v0_3 : Int) (v0_4 : Int), headF prog (ev18 m50) L f18 0 [1, 1, 0, 1, 0, 0] (outK prog f18 (topK prog (ev18 m50) L f18 [1, 1, 0, 1]).n (topK prog (ev18 m50) L f18 [1, 1, 0, 1]).x) L (S18_0 a0 v0_3 v0_4) = (l18_0 m50 L a0 L v0_3 v0_4 K'0).map n18 := fun v0_3 v0_4 => h18_0 m50 L a0 _ _ K'0 (fun w0_3 => by rw [t18_0]; simp only [K'0, map_bif, Option.map_some, Option.map_none]) L v0_3 v0_4
  rw [i18]; simp only [g18, map_bif, Option.map_some, Option.map_none, hin0, K'0]
theorem s18 (m50 : ((List Int) × Int) → Option Int) (h50 : Sat prog cxT 50 (c50 m50)) (m : (List Int) → Option Int) (hm : ∀ (x : (List Int)) t, m x = some t → ∃ L, g18 m50 L x = some t) : Sat prog cxT 18 (c18 m) :=
  sat_t cxT_ok cxT_pok (by rfl) (fn := f18) rfl a18 n18 dd18 m (ev18 m50) (kok_cons h50 kok_nil) (fun L x => g18 m50 L x) (fun L x => e18 m50 L x) hm hs18
/-! loop.example/g00222/impl.WholeSum -/
def ev19 (m18 : (List Int) → Option Int) : Env cxT := { Kc := kcOf [(18, c18 m18)], lv := fun i => [], xv := fun i => none }
theorem i19 (m18 : (List Int) → Option Int) (L : Nat) (a0 : (List Int)) : evF prog (ev19 m18) (loopN L) f19 (a19.enc a0) =
  bif (Option.isSome (m18 a0)) then some (n19 ((Option.getD (m18 a0) (0 : Int)) == (0 : Int)))
  else none := by kernel_rfl
def g19 (m18 : (List Int) → Option Int) (L : Nat) (a0 : (List Int)) : Option Bool :=
  bif (Option.isSome (m18 a0)) then some ((Option.getD (m18 a0) (0 : Int)) == (0 : Int))
  else none
theorem e19 (m18 : (List Int) → Option Int) (L : Nat) (a0 : (List Int)) : evF prog (ev19 m18) (loopN L) f19 (a19.enc a0) = (g19 m18 L a0).map n19 := by
  rw [i19]; simp only [g19, map_bif, Option.map_some, Option.map_none]
theorem s19 (m18 : (List Int) → Option Int) (h18 : Sat prog cxT 18 (c18 m18)) (m : (List Int) → Option Bool) (hm : ∀ (x : (List Int)) t, m x = some t → ∃ L, g19 m18 L x = some t) : Sat prog cxT 19 (c19 m) :=
  sat_t cxT_ok cxT_pok (by rfl) (fn := f19) rfl a19 n19 dd19 m (ev19 m18) (kok_cons h18 kok_nil) (fun L x => g19 m18 L x) (fun L x => e19 m18 L x) hm hs19
/-! loop.example/g00222/spec.SumWords -/
def ev20 : Env cxT := { Kc := kcOf [], lv := fun i => if i = 0 then [(0, [some 5]), (3, []), (4, [])] else if i = 2 then [(0, [some 5]), (3, []), (4, [])] else [], xv := fun i => if i = 0 then some [(3, [])] else if i = 2 then some [(0, [some 5]), (3, []), (4, [])] else none }
def S20_0 (a0 : (List Int)) (v0_3 : Int) (v0_4 : Int) : St cxT.ty := { slots := [(.inl (.inl (ls { own := 0, nm := 0, e := 5, o := false, xs := a0 }))), junk, junk, (.inl (.inl (lv (.int .i64 v0_3)))), (.inl (.inl (lv (.int .i64 v0_4))))] ++ List.replicate 33 junk, D := [], F := [], ctr := 1 }
def X20_0 (a0 : (List Int)) (w0_3 : Int) : St cxT.ty := { slots := [junk, junk, junk, (.inl (.inl (lv (.int .i64 w0_3))))] ++ List.replicate 34 junk, D := [], F := [], ctr := 1 }
def S20_2 (a0 : (List Int)) (v0_3 : Int) (v0_4 : Int) (v2_3 : Int) : St cxT.ty := { slots := [(.inl (.inl (ls { own := 0, nm := 0, e := 5, o := false, xs := a0 }))), junk, junk, (.inl (.inl (lv (.int .i64 v2_3)))), (.inl (.inl (lv (.int .i64 v0_4))))] ++ List.replicate 33 junk, D := [], F := [], ctr := 1 }
def X20_2 (a0 : (List Int)) (v0_3 : Int) (v0_4 : Int) (w2_3 : Int) : St cxT.ty := { slots := [(.inl (.inl (ls { own := 0, nm := 0, e := 5, o := false, xs := a0 }))), junk, junk, (.inl (.inl (lv (.int .i64 w2_3)))), (.inl (.inl (lv (.int .i64 v0_4))))] ++ List.replicate 33 junk, D := [], F := [], ctr := 1 }
theorem i20 (L : Nat) (a0 : (List Int)) : evF prog ev20 (loopN L) f20 (a20.enc a0) =
  headF prog ev20 L f20 0 [1, 1, 0, 1, 0, 0] (outK prog f20 (topK prog ev20 L f20 [1, 1, 0, 1]).n (topK prog ev20 L f20 [1, 1, 0, 1]).x) L (S20_0 a0 (0 : Int) (0 : Int)) := by kernel_rfl
theorem r20_0 (L : Nat) (a0 : (List Int)) (k : St cxT.ty → Option (V cxT.ty)) (xk : Nat → St cxT.ty → Option (V cxT.ty)) (g : St cxT.ty → Option (V cxT.ty)) (v0_3 : Int) (v0_4 : Int) : roundF prog ev20 L f20 0 [1, 1, 0, 1, 0, 0] (outK prog f20 k xk) g (S20_0 a0 v0_3 v0_4) =
  bif (decide (v0_4 < (Nat.cast (List.length a0) : Int))) then bif ((decide ((0 : Int) ≤ v0_4)) && (decide (v0_4 < (Nat.cast (List.length a0) : Int)))) then bif (decide ((Go.IntKind.wrap Go.IntKind.i64 (v0_4 + (1 : Int))) < (Nat.cast (List.length a0) : Int))) then bif ((decide ((0 : Int) ≤ (Go.IntKind.wrap Go.IntKind.i64 (v0_4 + (1 : Int))))) && (decide ((Go.IntKind.wrap Go.IntKind.i64 (v0_4 + (1 : Int))) < (Nat.cast (List.length a0) : Int)))) then headF prog ev20 L f20 2 [1, 1, 0, 1, 0, 0, 1, 0, 0, 1, 1, 0, 0] (outK prog f20 (inK prog ev20 L f20 0 [1, 1, 0, 1, 0, 0] [1, 0, 0, 1, 1] (outK prog f20 k xk) g).n (inK prog ev20 L f20 0 [1, 1, 0, 1, 0, 0] [1, 0, 0, 1, 1] (outK prog f20 k xk) g).x) L (S20_2 a0 v0_3 v0_4 (Go.IntKind.wrap Go.IntKind.i64 ((Go.IntKind.wrap Go.IntKind.i64 (v0_3 + (Go.IntKind.wrap Go.IntKind.i64 ((256 : Int) * (Go.IntKind.wrap Go.IntKind.i64 (List.getD a0 (Int.toNat v0_4) (0 : Int))))))) + (Go.IntKind.wrap Go.IntKind.i64 (List.getD a0 (Int.toNat (Go.IntKind.wrap Go.IntKind.i64 (v0_4 + (1 : Int)))) (0 : Int))))))
        else none
      else headF prog ev20 L f20 2 [1, 1, 0, 1, 0, 0, 1, 0, 0, 1, 1, 0, 0] (outK prog f20 (inK prog ev20 L f20 0 [1, 1, 0, 1, 0, 0] [1, 0, 0, 1, 1] (outK prog f20 k xk) g).n (inK prog ev20 L f20 0 [1, 1, 0, 1, 0, 0] [1, 0, 0, 1, 1] (outK prog f20 k xk) g).x) L (S20_2 a0 v0_3 v0_4 (Go.IntKind.wrap Go.IntKind.i64 (v0_3 + (Go.IntKind.wrap Go.IntKind.i64 ((256 : Int) * (Go.IntKind.wrap Go.IntKind.i64 (List.getD a0 (Int.toNat v0_4) (0 : Int))))))))
    else none
  else k (X20_0 a0 v0_3) := by kernel_rfl
theorem t20_0 (L : Nat) (a0 : (List Int)) (w0_3 : Int) : (topK prog ev20 L f20 [1, 1, 0, 1]).n (X20_0 a0 w0_3) =
  some (n20 (Go.IntKind.wrap Go.IntKind.i64 ((65535 : Int) - w0_3))) := by kernel_rfl
theorem r20_2 (L : Nat) (a0 : (List Int)) (v0_3 : Int) (v0_4 : Int) (k : St cxT.ty → Option (V cxT.ty)) (xk : Nat → St cxT.ty → Option (V cxT.ty)) (g : St cxT.ty → Option (V cxT.ty)) (v2_3 : Int) : roundF prog ev20 L f20 2 [1, 1, 0, 1, 0, 0, 1, 0, 0, 1, 1, 0, 0] (outK prog f20 k xk) g (S20_2 a0 v0_3 v0_4 v2_3) =
  bif (decide (v2_3 > (65535 : Int))) then g (S20_2 a0 v0_3 v0_4 (Go.IntKind.wrap Go.IntKind.i64 (v2_3 - (65535 : Int))))
  else k (X20_2 a0 v0_3 v0_4 v2_3) := by kernel_rfl
theorem t20_2 (L : Nat) (a0 : (List Int)) (v0_3 : Int) (v0_4 : Int) (k : St cxT.ty → Option (V cxT.ty)) (xk : Nat → St cxT.ty → Option (V cxT.ty)) (g : St cxT.ty → Option (V cxT.ty)) (w2_3 : Int) : (inK prog ev20 L f20 0 [1, 1, 0, 1, 0, 0] [1, 0, 0, 1, 1] (outK prog f20 k xk) g).n (X20_2 a0 v0_3 v0_4 w2_3) =
  g (S20_0 a0 w2_3 (Go.IntKind.wrap Go.IntKind.i64 (v0_4 + (2 : Int)))) := by kernel_rfl
def l20_2 (L : Nat) (a0 : (List Int)) (v0_3 : Int) (v0_4 : Int) : Nat → Int → (Int → Option Int) → Option Int
  | 0, _, _ => none
  | n + 1, v2_3, k =>
    bif (decide (v2_3 > (65535 : Int))) then l20_2 L a0 v0_3 v0_4 n (Go.IntKind.wrap Go.IntKind.i64 (v2_3 - (65535 : Int))) k
    else k v2_3
theorem h20_2 (L : Nat) (a0 : (List Int)) (v0_3 : Int) (v0_4 : Int) (k : St cxT.ty → Option (V cxT.ty)) (xk : Nat → St cxT.ty → Option (V cxT.ty)) (k' : Int → Option Int) (hk : ∀ (w2_3 : Int), k (X20_2 a0 v0_3 v0_4 w2_3) = (k' w2_3).map n20) : ∀ (n : Nat) (v2_3 : Int), headF prog ev20 L f20 2 [1, 1, 0, 1, 0, 0, 1, 0, 0, 1, 1, 0, 0] (outK prog f20 k xk) n (S20_2 a0 v0_3 v0_4 v2_3) = (l20_2 L a0 v0_3 v0_4 n v2_3 k').map n20
  | 0, _ => rfl
  | n + 1, v2_3 => by
    rw [headF_round, r20_2]
    have ih := h20_2 L a0 v0_3 v0_4 k xk k' hk n
    simp only [l20_2, map_bif, Option.map_some, Option.map_none, ih, hk]
def l20_0 (L : Nat) (a0 : (List Int)) : Nat → Int → Int → (Int → Option Int) → Option Int
  | 0, _, _, _ => none
  | n + 1, v0_3, v0_4, k =>
    bif (decide (v0_4 < (Nat.cast (List.length a0) : Int))) then bif ((decide ((0 : Int) ≤ v0_4)) && (decide (v0_4 < (Nat.cast (List.length a0) : Int)))) then bif (decide ((Go.IntKind.wrap Go.IntKind.i64 (v0_4 + (1 : Int))) < (Nat.cast (List.length a0) : Int))) then bif ((decide ((0 : Int) ≤ (Go.IntKind.wrap Go.IntKind.i64 (v0_4 + (1 : Int))))) && (decide ((Go.IntKind.wrap Go.IntKind.i64 (v0_4 + (1 : Int))) < (Nat.cast (List.length a0) : Int)))) then l20_2 L a0 v0_3 v0_4 L (Go.IntKind.wrap Go.IntKind.i64 ((Go.IntKind.wrap Go.IntKind.i64 (v0_3 + (Go.IntKind.wrap Go.IntKind.i64 ((256 : Int) * (Go.IntKind.wrap Go.IntKind.i64 (List.getD a0 (Int.toNat v0_4) (0 : Int))))))) + (Go.IntKind.wrap Go.IntKind.i64 (List.getD a0 (Int.toNat (Go.IntKind.wrap Go.IntKind.i64 (v0_4 + (1 : Int)))) (0 : Int))))) (fun (w2_3 : Int) => l20_0 L a0 n w2_3 (Go.IntKind.wrap Go.IntKind.i64 (v0_4 + (2 : Int))) k)
          else none
        else l20_2 L a0 v0_3 v0_4 L (Go.IntKind.wrap Go.IntKind.i64 (v0_3 + (Go.IntKind.wrap Go.IntKind.i64 ((256 : Int) * (Go.IntKind.wrap Go.IntKind.i64 (List.getD a0 (Int.toNat v0_4) (0 : Int))))))) (fun (w2_3 : Int) => l20_0 L a0 n w2_3 (Go.IntKind.wrap Go.IntKind.i64 (v0_4 + (2 : Int))) k)
      else none
    else k v0_3
theorem h20_0 (L : Nat) (a0 : (List Int)) (k : St cxT.ty → Option (V cxT.ty)) (xk : Nat → St cxT.ty → Option (V cxT.ty)) (k' : Int → Option Int) (hk : ∀ (w0_3 : Int), k (X20_0 a0 w0_3) = (k' w0_3).map n20) : ∀ (n : Nat) (v0_3 : Int) (v0_4 : Int), headF prog ev20 L f20 0 [1, 1, 0, 1, 0, 0] (outK prog f20 k xk) n (S20_0 a0 v0_3 v0_4) = (l20_0 L a0 n v0_3 v0_4 k').map n20
  | 0, _, _ => rfl
  | n + 1, v0_3, v0_4 => by
    rw [headF_round, r20_0]
    have ih := h20_0 L a0 k xk k' hk n
    let K'2 : Int → Option Int := (fun (w2_3 : Int) => l20_0 L a0 n w2_3 (Go.IntKind.wrap Go.IntKind.i64 (v0_4 + (2 : Int))) k')
    have hin2 : ∀ (v2_3 : Int), headF prog ev20 L f20 2 [1, 1, 0, 1, 0, 0, 1, 0, 0, 1, 1, 0, 0] (outK prog f20 (inK prog ev20 L f20 0 [1, 1, 0, 1, 0, 0] [1, 0, 0, 1, 1] (outK prog f20 k xk) (headF prog ev20 L f20 0 [1, 1, 0, 1, 0, 0] (outK prog f20 k xk) n)).n (inK prog ev20 L f20 0 [1, 1, 0, 1, 0, 0] [1, 0, 0, 1, 1] (outK prog f20 k xk) (headF prog ev20 L f20 0 [1, 1, 0, 1, 0, 0] (outK prog f20 k xk) n)).x) L (S20_2 a0 v0_3 v0_4 v2_3) = (l20_2 L a0 v0_3 v0_4 L v2_3 K'2).map n20 := fun v2_3 => h20_2 L a0 v0_3 v0_4 _ _ (K'2) (fun w2_3 => by rw [t20_2]; simp only [K'2, map_bif, Option.map_some, Option.map_none, ih, hk]) L v2_3
    simp only [l20_0, map_bif, Option.map_some, Option.map_none, ih, hk, hin2, K'2]
def g20 (L : Nat) (a0 : (List Int)) : Option Int :=
  l20_0 L a0 L (0 : Int) (0 : Int) (fun (w0_3 : Int) => some (Go.IntKind.wrap Go.IntKind.i64 ((65535 : Int) - w0_3)))
theorem e20 (L : Nat) (a0 : (List Int)) : evF prog ev20 (loopN L) f20 (a20.enc a0) = (g20 L a0).map n20 := by
  let K'0 : Int → Option Int := (fun (w0_3 : Int) => some (Go.IntKind.wrap Go.IntKind.i64 ((65535 : Int) - w0_3)))
  have hin0 : ∀ (v0_3 : Int) (v0_4 : Int), headF prog ev20 L f20 0 [1, 1, 0, 1, 0, 0] (outK prog f20 (topK prog ev20 L f20 [1, 1, 0, 1]).n (topK prog ev20 L f20 [1, 1, 0, 1]).x) L (S20_0 a0 v0_3 v0_4) = (l20_0 L a0 L v0_3 v0_4 K'0).map n20 := fun v0_3 v0_4 => h20_0 L a0 _ _ K'0 (fun w0_3 => by rw [t20_0]; simp only [K'0, map_bif, Option.map_some, Option.map_none]) L v0_3 v0_4
  rw [i20]; simp only [g20, map_bif, Option.map_some, Option.map_none, hin0, K'0]
theorem s20 (m : (List Int) → Option Int) (hm : ∀ (x : (List Int)) t, m x = some t → ∃ L, g20 L x = some t) : Sat prog cxT 20 (c20 m) :=
  sat_t cxT_ok cxT_pok (by rfl) (fn := f20) rfl a20 n20 dd20 m ev20 kok_nil (fun L x => g20 L x) (fun L x => e20 L x) hm hs20
/-! loop.example/g00222/spec.TakeNumber -/
def ev29 (m47 : (Int × Int × Int) → Option Bool) (m55 : ((List Int) × Int × Int) → Option Int) : Env cxT := { Kc := kcOf [(47, c47 m47), (55, c55 m55)], lv := fun i => [], xv := fun i => none }
theorem i29 (m47 : (Int × Int × Int) → Option Bool) (m55 : ((List Int) × Int × Int) → Option Int) (L : Nat) (a0 : (List Int)) (a1 : Int) (a2 : Int) : evF prog (ev29 m47 m55) (loopN L) f29 (a29.enc (a0, a1, a2)) =
  bif (Option.isSome (m47 (a2, ((1 : Int), (6 : Int))))) then bif (!(Option.getD (m47 (a2, ((1 : Int), (6 : Int)))) Bool.false)) then some (n29 ((3 : Int), (0 : Int)))
    else bif (Option.isSome (m47 (a1, ((0 : Int), (Go.IntKind.wrap Go.IntKind.i64 ((Nat.cast (List.length a0) : Int) - a2)))))) then bif (!(Option.getD (m47 (a1, ((0 : Int), (Go.IntKind.wrap Go.IntKind.i64 ((Nat.cast (List.length a0) : Int) - a2))))) Bool.false)) then some (n29 ((3 : Int), (0 : Int)))
      else bif (Option.isSome (m55 (a0, (a1, a2)))) then some (n29 ((0 : Int), (Option.getD (m55 (a0, (a1, a2))) (0 : Int))))
      else none
    else none
  else none := by kernel_rfl
def g29 (m47 : (Int × Int × Int) → Option Bool) (m55 : ((List Int) × Int × Int) → Option Int) (L : Nat) (a0 : (List Int)) (a1 : Int) (a2 : Int) : Option (Int × Int) :=
  bif (Option.isSome (m47 (a2, ((1 : Int), (6 : Int))))) then bif (!(Option.getD (m47 (a2, ((1 : Int), (6 : Int)))) Bool.false)) then some ((3 : Int), (0 : Int))
    else bif (Option.isSome (m47 (a1, ((0 : Int), (Go.IntKind.wrap Go.IntKind.i64 ((Nat.cast (List.length a0) : Int) - a2)))))) then bif (!(Option.getD (m47 (a1, ((0 : Int), (Go.IntKind.wrap Go.IntKind.i64 ((Nat.cast (List.length a0) : Int) - a2))))) Bool.false)) then some ((3 : Int), (0 : Int))
      else bif (Option.isSome (m55 (a0, (a1, a2)))) then some ((0 : Int), (Option.getD (m55 (a0, (a1, a2))) (0 : Int)))
      else none
    else none
  else none
theorem e29 (m47 : (Int × Int × Int) → Option Bool) (m55 : ((List Int) × Int × Int) → Option Int) (L : Nat) (a0 : (List Int)) (a1 : Int) (a2 : Int) : evF prog (ev29 m47 m55) (loopN L) f29 (a29.enc (a0, a1, a2)) = (g29 m47 m55 L a0 a1 a2).map n29 := by
  rw [i29]; simp only [g29, map_bif, Option.map_some, Option.map_none]
theorem s29 (m47 : (Int × Int × Int) → Option Bool) (m55 : ((List Int) × Int × Int) → Option Int) (h47 : Sat prog cxT 47 (c47 m47)) (h55 : Sat prog cxT 55 (c55 m55)) (m : ((List Int) × Int × Int) → Option (Int × Int)) (hm : ∀ (x : ((List Int) × Int × Int)) t, m x = some t → ∃ L, g29 m47 m55 L x.1 x.2.1 x.2.2 = some t) : Sat prog cxT 29 (c29 m) :=
  sat_t cxT_ok cxT_pok (by rfl) (fn := f29) rfl a29 n29 dd29 m (ev29 m47 m55) (kok_cons h47 (kok_cons h55 kok_nil)) (fun L x => g29 m47 m55 L x.1 x.2.1 x.2.2) (fun L x => e29 m47 m55 L x.1 x.2.1 x.2.2) hm hs29
/-! loop.example/g00222/laws.toByteS -/
def ev30 : Env cxT := { Kc := kcOf [], lv := fun i => if i = 0 then [(0, [some 5]), (3, [some 5]), (4, [])] else [], xv := fun i => if i = 0 then some [(3, [some 5])] else none }
def S30_0 (a0 : (List Int)) (v0_3 : (List Int)) (v0_4 : Int) : St cxT.ty := { slots := [(.inl (.inl (ls { own := 0, nm := 0, e := 5, o := false, xs := a0 }))), junk, junk, (.inl (.inl (ls { own := 1, nm := 192, e := 5, o := true, xs := v0_3 }))), (.inl (.inl (lv (.int .i64 v0_4))))] ++ List.replicate 17 junk, D := [], F := [], ctr := 1 }
def X30_0 (a0 : (List Int)) (w0_3 : (List Int)) : St cxT.ty := { slots := [junk, junk, junk, (.inl (.inl (ls { own := 1, nm := 192, e := 5, o := true, xs := w0_3 })))] ++ List.replicate 18 junk, D := [], F := [], ctr := 1 }
theorem i30 (L : Nat) (a0 : (List Int)) : evF prog ev30 (loopN L) f30 (a30.enc a0) =
  bif (((decide ((0 : Int) ≤ (Nat.cast (List.length a0) : Int))) && (decide ((Nat.cast (List.length a0) : Int) ≤ (Nat.cast (List.length a0) : Int)))) && (decide ((Nat.cast (List.length a0) : Int) ≤ (1000000000 : Int)))) then headF prog ev30 L f30 0 [1, 1, 0, 1, 0, 0] (outK prog f30 (topK prog ev30 L f30 [1, 1, 0, 1]).n (topK prog ev30 L f30 [1, 1, 0, 1]).x) L (S30_0 a0 (List.replicate (Int.toNat (Nat.cast (List.length a0) : Int)) (0 : Int)) (0 : Int))
  else none := by kernel_rfl
theorem r30_0 (L : Nat) (a0 : (List Int)) (k : St cxT.ty → Option (V cxT.ty)) (xk : Nat → St cxT.ty → Option (V cxT.ty)) (g : St cxT.ty → Option (V cxT.ty)) (v0_3 : (List Int)) (v0_4 : Int) : roundF prog ev30 L f30 0 [1, 1, 0, 1, 0, 0] (outK prog f30 k xk) g (S30_0 a0 v0_3 v0_4) =
  bif (decide (v0_4 < (Nat.cast (List.length a0) : Int))) then bif ((decide ((0 : Int) ≤ v0_4)) && (decide (v0_4 < (Nat.cast (List.length a0) : Int)))) then bif ((decide ((0 : Int) ≤ v0_4)) && (decide (v0_4 < (Nat.cast (List.length v0_3) : Int)))) then g (S30_0 a0 (List.set v0_3 (Int.toNat v0_4) (List.getD a0 (Int.toNat v0_4) (0 : Int))) (Go.IntKind.wrap Go.IntKind.i64 (v0_4 + (1 : Int))))
      else none
    else none
  else k (X30_0 a0 v0_3) := by kernel_rfl
theorem t30_0 (L : Nat) (a0 : (List Int)) (w0_3 : (List Int)) : (topK prog ev30 L f30 [1, 1, 0, 1]).n (X30_0 a0 w0_3) =
  some (n30 w0_3) := by kernel_rfl
def l30_0 (L : Nat) (a0 : (List Int)) : Nat → (List Int) → Int → ((List Int) → Option (List Int)) → Option (List Int)
  | 0, _, _, _ => none
  | n + 1, v0_3, v0_4, k =>
    bif (decide (v0_4 < (Nat.cast (List.length a0) : Int))) then bif ((decide ((0 : Int) ≤ v0_4)) && (decide (v0_4 < (Nat.cast (List.length a0) : Int)))) then bif ((decide ((0 : Int) ≤ v0_4)) && (decide (v0_4 < (Nat.cast (List.length v0_3) : Int)))) then l30_0 L a0 n (List.set v0_3 (Int.toNat v0_4) (List.getD a0 (Int.toNat v0_4) (0 : Int))) (Go.IntKind.wrap Go.IntKind.i64 (v0_4 + (1 : Int))) k
        else none
      else none
    else k v0_3
theorem h30_0 (L : Nat) (a0 : (List Int)) (k : St cxT.ty → Option (V cxT.ty)) (xk : Nat → St cxT.ty → Option (V cxT.ty)) (k' : (List Int) → Option (List Int)) (hk : ∀ (w0_3 : (List Int)), k (X30_0 a0 w0_3) = (k' w0_3).map n30) : ∀ (n : Nat) (v0_3 : (List Int)) (v0_4 : Int), headF prog ev30 L f30 0 [1, 1, 0, 1, 0, 0] (outK prog f30 k xk) n (S30_0 a0 v0_3 v0_4) = (l30_0 L a0 n v0_3 v0_4 k').map n30
  | 0, _, _ => rfl
  | n + 1, v0_3, v0_4 => by
    rw [headF_round, r30_0]
    have ih := h30_0 L a0 k xk k' hk n
    simp only [l30_0, map_bif, Option.map_some, Option.map_none, ih, hk]
def g30 (L : Nat) (a0 : (List Int)) : Option (List Int) :=
  bif (((decide ((0 : Int) ≤ (Nat.cast (List.length a0) : Int))) && (decide ((Nat.cast (List.length a0) : Int) ≤ (Nat.cast (List.length a0) : Int)))) && (decide ((Nat.cast (List.length a0) : Int) ≤ (1000000000 : Int)))) then l30_0 L a0 L (List.replicate (Int.toNat (Nat.cast (List.length a0) : Int)) (0 : Int)) (0 : Int) (fun (w0_3 : (List Int)) => some w0_3)
  else none
theorem e30 (L : Nat) (a0 : (List Int)) : evF prog ev30 (loopN L) f30 (a30.enc a0) = (g30 L a0).map n30 := by
  let K'0 : (List Int) → Option (List Int) := (fun (w0_3 : (List Int)) => some w0_3)
  have hin0 : ∀ (v0_3 : (List Int)) (v0_4 : Int), headF prog ev30 L f30 0 [1, 1, 0, 1, 0, 0] (outK prog f30 (topK prog ev30 L f30 [1, 1, 0, 1]).n (topK prog ev30 L f30 [1, 1, 0, 1]).x) L (S30_0 a0 v0_3 v0_4) = (l30_0 L a0 L v0_3 v0_4 K'0).map n30 := fun v0_3 v0_4 => h30_0 L a0 _ _ K'0 (fun w0_3 => by rw [t30_0]; simp only [K'0, map_bif, Option.map_some, Option.map_none]) L v0_3 v0_4
  rw [i30]; simp only [g30, map_bif, Option.map_some, Option.map_none, hin0, K'0]
theorem s30 (m : (List Int) → Option (List Int)) (hm : ∀ (x : (List Int)) t, m x = some t → ∃ L, g30 L x = some t) : Sat prog cxT 30 (c30 m) :=
  sat_t cxT_ok cxT_pok (by rfl) (fn := f30) rfl a30 n30 dd30 m ev30 kok_nil (fun L x => g30 L x) (fun L x => e30 L x) hm hs30
/-! loop.example/g00222/laws.eqIntResult -/
def ev31 : Env cxT := { Kc := kcOf [], lv := fun i => [], xv := fun i => none }
theorem i31 (L : Nat) (a0_0 : Int) (a0_1 : Int) (a1_0 : Int) (a1_1 : Int) : evF prog ev31 (loopN L) f31 (a31.enc ((a0_0, a0_1), (a1_0, a1_1))) =
  bif (a0_0 != a1_0) then some (n31 Bool.false)
  else bif (a0_1 != a1_1) then some (n31 Bool.false)
  else some (n31 Bool.true) := by kernel_rfl
def g31 (L : Nat) (a0_0 : Int) (a0_1 : Int) (a1_0 : Int) (a1_1 : Int) : Option Bool :=
  bif (a0_0 != a1_0) then some Bool.false
  else bif (a0_1 != a1_1) then some Bool.false
  else some Bool.true
theorem e31 (L : Nat) (a0_0 : Int) (a0_1 : Int) (a1_0 : Int) (a1_1 : Int) : evF prog ev31 (loopN L) f31 (a31.enc ((a0_0, a0_1), (a1_0, a1_1))) = (g31 L a0_0 a0_1 a1_0 a1_1).map n31 := by
  rw [i31]; simp only [g31, map_bif, Option.map_some, Option.map_none]
theorem s31 (m : ((Int × Int) × (Int × Int)) → Option Bool) (hm : ∀ (x : ((Int × Int) × (Int × Int))) t, m x = some t → ∃ L, g31 L x.1.1 x.1.2 x.2.1 x.2.2 = some t) : Sat prog cxT 31 (c31 m) :=
  sat_t cxT_ok cxT_pok (by rfl) (fn := f31) rfl a31 n31 dd31 m ev31 kok_nil (fun L x => g31 L x.1.1 x.1.2 x.2.1 x.2.2) (fun L x => e31 L x.1.1 x.1.2 x.2.1 x.2.2) hm hs31
/-! loop.example/g00222/laws.eqByteS -/
def ev32 : Env cxT := { Kc := kcOf [], lv := fun i => if i = 0 then [(0, [some 5]), (1, [some 5]), (5, [])] else [], xv := fun i => if i = 0 then some [] else none }
def S32_0 (a0 : (List Int)) (a1 : (List Int)) (v0_5 : Int) : St cxT.ty := { slots := [(.inl (.inl (ls { own := 0, nm := 0, e := 5, o := false, xs := a0 }))), (.inl (.inl (ls { own := 0, nm := 0, e := 5, o := false, xs := a1 }))), junk, junk, junk, (.inl (.inl (lv (.int .i64 v0_5))))] ++ List.replicate 20 junk, D := [], F := [], ctr := 1 }
def X32_0 (a0 : (List Int)) (a1 : (List Int)) : St cxT.ty := { slots := [] ++ List.replicate 26 junk, D := [], F := [], ctr := 1 }
theorem i32 (L : Nat) (a0 : (List Int)) (a1 : (List Int)) : evF prog ev32 (loopN L) f32 (a32.enc (a0, a1)) =
  bif ((Nat.cast (List.length a0) : Int) != (Nat.cast (List.length a1) : Int)) then some (n32 Bool.false)
  else headF prog ev32 L f32 0 [1, 1, 0, 1, 0, 0] (outK prog f32 (topK prog ev32 L f32 [1, 1, 0, 1]).n (topK prog ev32 L f32 [1, 1, 0, 1]).x) L (S32_0 a0 a1 (0 : Int)) := by kernel_rfl
theorem r32_0 (L : Nat) (a0 : (List Int)) (a1 : (List Int)) (k : St cxT.ty → Option (V cxT.ty)) (xk : Nat → St cxT.ty → Option (V cxT.ty)) (g : St cxT.ty → Option (V cxT.ty)) (v0_5 : Int) : roundF prog ev32 L f32 0 [1, 1, 0, 1, 0, 0] (outK prog f32 k xk) g (S32_0 a0 a1 v0_5) =
  bif (decide (v0_5 < (Nat.cast (List.length a0) : Int))) then bif ((decide ((0 : Int) ≤ v0_5)) && (decide (v0_5 < (Nat.cast (List.length a0) : Int)))) then bif ((decide ((0 : Int) ≤ v0_5)) && (decide (v0_5 < (Nat.cast (List.length a1) : Int)))) then bif ((List.getD a0 (Int.toNat v0_5) (0 : Int)) != (List.getD a1 (Int.toNat v0_5) (0 : Int))) then some (n32 Bool.false)
        else g (S32_0 a0 a1 (Go.IntKind.wrap Go.IntKind.i64 (v0_5 + (1 : Int))))
      else none
    else none
  else k (X32_0 a0 a1) := by kernel_rfl
theorem t32_0 (L : Nat) (a0 : (List Int)) (a1 : (List Int)) : (topK prog ev32 L f32 [1, 1, 0, 1]).n (X32_0 a0 a1) =
  some (n32 Bool.true) := by kernel_rfl
def l32_0 (L : Nat) (a0 : (List Int)) (a1 : (List Int)) : Nat → Int → (Option Bool) → Option Bool
  | 0, _, _ => none
  | n + 1, v0_5, k =>
    bif (decide (v0_5 < (Nat.cast (List.length a0) : Int))) then bif ((decide ((0 : Int) ≤ v0_5)) && (decide (v0_5 < (Nat.cast (List.length a0) : Int)))) then bif ((decide ((0 : Int) ≤ v0_5)) && (decide (v0_5 < (Nat.cast (List.length a1) : Int)))) then bif ((List.getD a0 (Int.toNat v0_5) (0 : Int)) != (List.getD a1 (Int.toNat v0_5) (0 : Int))) then some Bool.false
          else l32_0 L a0 a1 n (Go.IntKind.wrap Go.IntKind.i64 (v0_5 + (1 : Int))) k
        else none
      else none
    else k
theorem h32_0 (L : Nat) (a0 : (List Int)) (a1 : (List Int)) (k : St cxT.ty → Option (V cxT.ty)) (xk : Nat → St cxT.ty → Option (V cxT.ty)) (k' : Option Bool) (hk : k (X32_0 a0 a1) = (k').map n32) : ∀ (n : Nat) (v0_5 : Int), headF prog ev32 L f32 0 [1, 1, 0, 1, 0, 0] (outK prog f32 k xk) n (S32_0 a0 a1 v0_5) = (l32_0 L a0 a1 n v0_5 k').map n32
  | 0, _ => rfl
  | n + 1, v0_5 => by
    rw [headF_round, r32_0]
    have ih := h32_0 L a0 a1 k xk k' hk n
    simp only [l32_0, map_bif, Option.map_some, Option.map_none, ih, hk]
def g32 (L : Nat) (a0 : (List Int)) (a1 : (List Int)) : Option Bool :=
  bif ((Nat.cast (List.length a0) : Int) != (Nat.cast (List.length a1) : Int)) then some Bool.false
  else l32_0 L a0 a1 L (0 : Int) (some Bool.true)
theorem e32 (L : Nat) (a0 : (List Int)) (a1 : (List Int)) : evF prog ev32 (loopN L) f32 (a32.enc (a0, a1)) = (g32 L a0 a1).map n32 := by
  let K'0 : Option Bool := (some Bool.true)
  have hin0 : ∀ (v0_5 : Int), headF prog ev32 L f32 0 [1, 1, 0, 1, 0, 0] (outK prog f32 (topK prog ev32 L f32 [1, 1, 0, 1]).n (topK prog ev32 L f32 [1, 1, 0, 1]).x) L (S32_0 a0 a1 v0_5) = (l32_0 L a0 a1 L v0_5 K'0).map n32 := fun v0_5 => h32_0 L a0 a1 _ _ K'0 (by rw [t32_0]; simp only [K'0, map_bif, Option.map_some, Option.map_none]) L v0_5
  rw [i32]; simp only [g32, map_bif, Option.map_some, Option.map_none, hin0, K'0]
theorem s32 (m : ((List Int) × (List Int)) → Option Bool) (hm : ∀ (x : ((List Int) × (List Int))) t, m x = some t → ∃ L, g32 L x.1 x.2 = some t) : Sat prog cxT 32 (c32 m) :=
  sat_t cxT_ok cxT_pok (by rfl) (fn := f32) rfl a32 n32 dd32 m ev32 kok_nil (fun L x => g32 L x.1 x.2) (fun L x => e32 L x.1 x.2) hm hs32
/-! loop.example/g00222/spec.WholeSum -/
def ev33 (m20 : (List Int) → Option Int) : Env cxT := { Kc := kcOf [(20, c20 m20)], lv := fun i => [], xv := fun i => none }
theorem i33 (m20 : (List Int) → Option Int) (L : Nat) (a0 : (List Int)) : evF prog (ev33 m20) (loopN L) f33 (a33.enc a0) =
  bif (Option.isSome (m20 a0)) then some (n33 ((Option.getD (m20 a0) (0 : Int)) == (0 : Int)))
  else none := by kernel_rfl
def g33 (m20 : (List Int) → Option Int) (L : Nat) (a0 : (List Int)) : Option Bool :=
  bif (Option.isSome (m20 a0)) then some ((Option.getD (m20 a0) (0 : Int)) == (0 : Int))
  else none
theorem e33 (m20 : (List Int) → Option Int) (L : Nat) (a0 : (List Int)) : evF prog (ev33 m20) (loopN L) f33 (a33.enc a0) = (g33 m20 L a0).map n33 := by
  rw [i33]; simp only [g33, map_bif, Option.map_some, Option.map_none]
theorem s33 (m20 : (List Int) → Option Int) (h20 : Sat prog cxT 20 (c20 m20)) (m : (List Int) → Option Bool) (hm : ∀ (x : (List Int)) t, m x = some t → ∃ L, g33 m20 L x = some t) : Sat prog cxT 33 (c33 m) :=
  sat_t cxT_ok cxT_pok (by rfl) (fn := f33) rfl a33 n33 dd33 m (ev33 m20) (kok_cons h20 kok_nil) (fun L x => g33 m20 L x) (fun L x => e33 m20 L x) hm hs33
/-! loop.example/g00222/impl.isNumberSize -/
def ev44 : Env cxT := { Kc := kcOf [], lv := fun i => [], xv := fun i => none }
theorem i44 (L : Nat) (a0 : Int) : evF prog ev44 (loopN L) f44 (a44.enc a0) =
  bif (decide (a0 ≥ (1 : Int))) then some (n44 (decide (a0 ≤ (6 : Int))))
  else some (n44 Bool.false) := by kernel_rfl
def g44 (L : Nat) (a0 : Int) : Option Bool :=
  bif (decide (a0 ≥ (1 : Int))) then some (decide (a0 ≤ (6 : Int)))
  else some Bool.false
theorem e44 (L : Nat) (a0 : Int) : evF prog ev44 (loopN L) f44 (a44.enc a0) = (g44 L a0).map n44 := by
  rw [i44]; simp only [g44, map_bif, Option.map_some, Option.map_none]
theorem s44 (m : Int → Option Bool) (hm : ∀ (x : Int) t, m x = some t → ∃ L, g44 L x = some t) : Sat prog cxT 44 (c44 m) :=
  sat_t cxT_ok cxT_pok (by rfl) (fn := f44) rfl a44 n44 dd44 m ev44 kok_nil (fun L x => g44 L x) (fun L x => e44 L x) hm hs44
/-! loop.example/g00222/spec.l1In -/
def ev47 : Env cxT := { Kc := kcOf [], lv := fun i => [], xv := fun i => none }
theorem i47 (L : Nat) (a0 : Int) (a1 : Int) (a2 : Int) : evF prog ev47 (loopN L) f47 (a47.enc (a0, a1, a2)) =
  bif (decide (a0 ≥ a1)) then some (n47 (decide (a0 ≤ a2)))
  else some (n47 Bool.false) := by kernel_rfl
def g47 (L : Nat) (a0 : Int) (a1 : Int) (a2 : Int) : Option Bool :=
  bif (decide (a0 ≥ a1)) then some (decide (a0 ≤ a2))
  else some Bool.false
theorem e47 (L : Nat) (a0 : Int) (a1 : Int) (a2 : Int) : evF prog ev47 (loopN L) f47 (a47.enc (a0, a1, a2)) = (g47 L a0 a1 a2).map n47 := by
  rw [i47]; simp only [g47, map_bif, Option.map_some, Option.map_none]
theorem s47 (m : (Int × Int × Int) → Option Bool) (hm : ∀ (x : (Int × Int × Int)) t, m x = some t → ∃ L, g47 L x.1 x.2.1 x.2.2 = some t) : Sat prog cxT 47 (c47 m) :=
  sat_t cxT_ok cxT_pok (by rfl) (fn := f47) rfl a47 n47 dd47 m ev47 kok_nil (fun L x => g47 L x.1 x.2.1 x.2.2) (fun L x => e47 L x.1 x.2.1 x.2.2) hm hs47
/-! loop.example/g00222/impl.wordAt -/
def ev50 : Env cxT := { Kc := kcOf [], lv := fun i => [], xv := fun i => none }
theorem i50 (L : Nat) (a0 : (List Int)) (a1 : Int) : evF prog ev50 (loopN L) f50 (a50.enc (a0, a1)) =
  bif ((decide ((0 : Int) ≤ a1)) && (decide (a1 < (Nat.cast (List.length a0) : Int)))) then bif (decide ((Go.IntKind.wrap Go.IntKind.i64 (a1 + (1 : Int))) < (Nat.cast (List.length a0) : Int))) then bif ((decide ((0 : Int) ≤ (Go.IntKind.wrap Go.IntKind.i64 (a1 + (1 : Int))))) && (decide ((Go.IntKind.wrap Go.IntKind.i64 (a1 + (1 : Int))) < (Nat.cast (List.length a0) : Int)))) then some (n50 (Go.IntKind.wrap Go.IntKind.u64 (Nat.cast (BitVec.toNat (HOr.hOr (BitVec.ofInt (Go.IntKind.bits Go.IntKind.u64) (Go.IntKind.wrap Go.IntKind.u64 ((Go.IntKind.wrap Go.IntKind.u64 (List.getD a0 (Int.toNat a1) (0 : Int))) * ((2 : Int) ^ (min (Int.toNat (8 : Int)) (Go.IntKind.bits Go.IntKind.u64)))))) (BitVec.ofInt (Go.IntKind.bits Go.IntKind.u64) (Go.IntKind.wrap Go.IntKind.u64 (List.getD a0 (Int.toNat (Go.IntKind.wrap Go.IntKind.i64 (a1 + (1 : Int)))) (0 : Int)))))) : Int)))
      else none
    else some (n50 (Go.IntKind.wrap Go.IntKind.u64 ((Go.IntKind.wrap Go.IntKind.u64 (List.getD a0 (Int.toNat a1) (0 : Int))) * ((2 : Int) ^ (min (Int.toNat (8 : Int)) (Go.IntKind.bits Go.IntKind.u64))))))
  else none := by kernel_rfl
def g50 (L : Nat) (a0 : (List Int)) (a1 : Int) : Option Int :=
  bif ((decide ((0 : Int) ≤ a1)) && (decide (a1 < (Nat.cast (List.length a0) : Int)))) then bif (decide ((Go.IntKind.wrap Go.IntKind.i64 (a1 + (1 : Int))) < (Nat.cast (List.length a0) : Int))) then bif ((decide ((0 : Int) ≤ (Go.IntKind.wrap Go.IntKind.i64 (a1 + (1 : Int))))) && (decide ((Go.IntKind.wrap Go.IntKind.i64 (a1 + (1 : Int))) < (Nat.cast (List.length a0) : Int)))) then some (Go.IntKind.wrap Go.IntKind.u64 (Nat.cast (BitVec.toNat (HOr.hOr (BitVec.ofInt (Go.IntKind.bits Go.IntKind.u64) (Go.IntKind.wrap Go.IntKind.u64 ((Go.IntKind.wrap Go.IntKind.u64 (List.getD a0 (Int.toNat a1) (0 : Int))) * ((2 : Int) ^ (min (Int.toNat (8 : Int)) (Go.IntKind.bits Go.IntKind.u64)))))) (BitVec.ofInt (Go.IntKind.bits Go.IntKind.u64) (Go.IntKind.wrap Go.IntKind.u64 (List.getD a0 (Int.toNat (Go.IntKind.wrap Go.IntKind.i64 (a1 + (1 : Int)))) (0 : Int)))))) : Int))
      else none
    else some (Go.IntKind.wrap Go.IntKind.u64 ((Go.IntKind.wrap Go.IntKind.u64 (List.getD a0 (Int.toNat a1) (0 : Int))) * ((2 : Int) ^ (min (Int.toNat (8 : Int)) (Go.IntKind.bits Go.IntKind.u64)))))
  else none
theorem e50 (L : Nat) (a0 : (List Int)) (a1 : Int) : evF prog ev50 (loopN L) f50 (a50.enc (a0, a1)) = (g50 L a0 a1).map n50 := by
  rw [i50]; simp only [g50, map_bif, Option.map_some, Option.map_none]
theorem s50 (m : ((List Int) × Int) → Option Int) (hm : ∀ (x : ((List Int) × Int)) t, m x = some t → ∃ L, g50 L x.1 x.2 = some t) : Sat prog cxT 50 (c50 m) :=
  sat_t cxT_ok cxT_pok (by rfl) (fn := f50) rfl a50 n50 dd50 m ev50 kok_nil (fun L x => g50 L x.1 x.2) (fun L x => e50 L x.1 x.2) hm hs50
/-! loop.example/g00222/spec.l1Take -/
def ev55 : Env cxT := { Kc := kcOf [], lv := fun i => if i = 0 then [(0, [some 5]), (1, []), (2, []), (7, []), (8, [])] else [], xv := fun i => if i = 0 then some [(7, [])] else none }
def S55_0 (a0 : (List Int)) (a1 : Int) (a2 : Int) (v0_7 : Int) (v0_8 : Int) : St cxT.ty := { slots := [(.inl (.inl (ls { own := 0, nm := 0, e := 5, o := false, xs := a0 }))), (.inl (.inl (lv (.int .i64 a1)))), (.inl (.inl (lv (.int .i64 a2)))), junk, junk, junk, junk, (.inl (.inl (lv (.int .i64 v0_7)))), (.inl (.inl (lv (.int .i64 v0_8))))] ++ List.replicate 16 junk, D := [], F := [], ctr := 1 }
def X55_0 (a0 : (List Int)) (a1 : Int) (a2 : Int) (w0_7 : Int) : St cxT.ty := { slots := [junk, junk, junk, junk, junk, junk, junk, (.inl (.inl (lv (.int .i64 w0_7))))] ++ List.replicate 17 junk, D := [], F := [], ctr := 1 }
theorem i55 (L : Nat) (a0 : (List Int)) (a1 : Int) (a2 : Int) : evF prog ev55 (loopN L) f55 (a55.enc (a0, a1, a2)) =
  headF prog ev55 L f55 0 [1, 1, 0, 1, 0, 0] (outK prog f55 (topK prog ev55 L f55 [1, 1, 0, 1]).n (topK prog ev55 L f55 [1, 1, 0, 1]).x) L (S55_0 a0 a1 a2 (0 : Int) (0 : Int)) := by kernel_rfl
theorem r55_0 (L : Nat) (a0 : (List Int)) (a1 : Int) (a2 : Int) (k : St cxT.ty → Option (V cxT.ty)) (xk : Nat → St cxT.ty → Option (V cxT.ty)) (g : St cxT.ty → Option (V cxT.ty)) (v0_7 : Int) (v0_8 : Int) : roundF prog ev55 L f55 0 [1, 1, 0, 1, 0, 0] (outK prog f55 k xk) g (S55_0 a0 a1 a2 v0_7 v0_8) =
  bif (decide (v0_8 < a2)) then bif ((decide ((0 : Int) ≤ (Go.IntKind.wrap Go.IntKind.i64 (a1 + v0_8)))) && (decide ((Go.IntKind.wrap Go.IntKind.i64 (a1 + v0_8)) < (Nat.cast (List.length a0) : Int)))) then g (S55_0 a0 a1 a2 (Go.IntKind.wrap Go.IntKind.i64 ((Go.IntKind.wrap Go.IntKind.i64 (v0_7 * (256 : Int))) + (Go.IntKind.wrap Go.IntKind.i64 (List.getD a0 (Int.toNat (Go.IntKind.wrap Go.IntKind.i64 (a1 + v0_8))) (0 : Int))))) (Go.IntKind.wrap Go.IntKind.i64 (v0_8 + (1 : Int))))
    else none
  else k (X55_0 a0 a1 a2 v0_7) := by kernel_rfl
theorem t55_0 (L : Nat) (a0 : (List Int)) (a1 : Int) (a2 : Int) (w0_7 : Int) : (topK prog ev55 L f55 [1, 1, 0, 1]).n (X55_0 a0 a1 a2 w0_7) =
  some (n55 w0_7) := by kernel_rfl
def l55_0 (L : Nat) (a0 : (List Int)) (a1 : Int) (a2 : Int) : Nat → Int → Int → (Int → Option Int) → Option Int
  | 0, _, _, _ => none
  | n + 1, v0_7, v0_8, k =>
    bif (decide (v0_8 < a2)) then bif ((decide ((0 : Int) ≤ (Go.IntKind.wrap Go.IntKind.i64 (a1 + v0_8)))) && (decide ((Go.IntKind.wrap Go.IntKind.i64 (a1 + v0_8)) < (Nat.cast (List.length a0) : Int)))) then l55_0 L a0 a1 a2 n (Go.IntKind.wrap Go.IntKind.i64 ((Go.IntKind.wrap Go.IntKind.i64 (v0_7 * (256 : Int))) + (Go.IntKind.wrap Go.IntKind.i64 (List.getD a0 (Int.toNat (Go.IntKind.wrap Go.IntKind.i64 (a1 + v0_8))) (0 : Int))))) (Go.IntKind.wrap Go.IntKind.i64 (v0_8 + (1 : Int))) k
      else none
    else k v0_7
theorem h55_0 (L : Nat) (a0 : (List Int)) (a1 : Int) (a2 : Int) (k : St cxT.ty → Option (V cxT.ty)) (xk : Nat → St cxT.ty → Option (V cxT.ty)) (k' : Int → Option Int) (hk : ∀ (w0_7 : Int), k (X55_0 a0 a1 a2 w0_7) = (k' w0_7).map n55) : ∀ (n : Nat) (v0_7 : Int) (v0_8 : Int), headF prog ev55 L f55 0 [1, 1, 0, 1, 0, 0] (outK prog f55 k xk) n (S55_0 a0 a1 a2 v0_7 v0_8) = (l55_0 L a0 a1 a2 n v0_7 v0_8 k').map n55
  | 0, _, _ => rfl
  | n + 1, v0_7, v0_8 => by
    rw [headF_round, r55_0]
    have ih := h55_0 L a0 a1 a2 k xk k' hk n
    simp only [l55_0, map_bif, Option.map_some, Option.map_none, ih, hk]
def g55 (L : Nat) (a0 : (List Int)) (a1 : Int) (a2 : Int) : Option Int :=
  l55_0 L a0 a1 a2 L (0 : Int) (0 : Int) (fun (w0_7 : Int) => some w0_7)
theorem e55 (L : Nat) (a0 : (List Int)) (a1 : Int) (a2 : Int) : evF prog ev55 (loopN L) f55 (a55.enc (a0, a1, a2)) = (g55 L a0 a1 a2).map n55 := by
  let K'0 : Int → Option Int := (fun (w0_7 : Int) => some w0_7)
  have hin0 : ∀ (v0_7 : Int) (v0_8 : Int), headF prog ev55 L f55 0 [1, 1, 0, 1, 0, 0] (outK prog f55 (topK prog ev55 L f55 [1, 1, 0, 1]).n (topK prog ev55 L f55 [1, 1, 0, 1]).x) L (S55_0 a0 a1 a2 v0_7 v0_8) = (l55_0 L a0 a1 a2 L v0_7 v0_8 K'0).map n55 := fun v0_7 v0_8 => h55_0 L a0 a1 a2 _ _ K'0 (fun w0_7 => by rw [t55_0]; simp only [K'0, map_bif, Option.map_some, Option.map_none]) L v0_7 v0_8
  rw [i55]; simp only [g55, map_bif, Option.map_some, Option.map_none, hin0, K'0]
theorem s55 (m : ((List Int) × Int × Int) → Option Int) (hm : ∀ (x : ((List Int) × Int × Int)) t, m x = some t → ∃ L, g55 L x.1 x.2.1 x.2.2 = some t) : Sat prog cxT 55 (c55 m) :=
  sat_t cxT_ok cxT_pok (by rfl) (fn := f55) rfl a55 n55 dd55 m ev55 kok_nil (fun L x => g55 L x.1 x.2.1 x.2.2) (fun L x => e55 L x.1 x.2.1 x.2.2) hm hs55
end Go.Proofs.Try
