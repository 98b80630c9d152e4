/- A part of the proof of FnExactParsePacket: L2Fc, L2Pc. -/
import Derived.Test.YtaegcoihgnobiaaL2Base
import Derived.Test.YtaegcoihgnobiaaL2Fa
set_option maxHeartbeats 0
set_option linter.unusedVariables false
set_option linter.unusedSimpArgs false
namespace Go.Proofs.Try
open Go Go.VM Go.RowKit
/-! loop.example/g00222/spec.SumWords -/
def ev73 : Env cxT := { Kc := kcOf [], Kw := kwOf [], lv := fun i => if i = 0 then [(0, [some 5]), (3, []), (4, [])] else if i = 2 then [(0, [some 5]), (3, []), (4, [])] else [], xv := fun i => if i = 0 then some [(3, [])] else if i = 2 then some [(0, [some 5]), (3, []), (4, [])] else none }
def S73_0 (a0 : (List Int)) (v0_3 : Int) (v0_4 : Int) : St cxT.ty := { slots := [(.inl (.inl (ls { own := 0, nm := 0, e := 5, o := false, xs := a0 }))), junk, junk, (.inl (.inl (lv (.int .i64 v0_3)))), (.inl (.inl (lv (.int .i64 v0_4))))] ++ List.replicate 33 junk, D := [], F := [], ctr := 1 }
def X73_0 (a0 : (List Int)) (w0_3 : Int) : St cxT.ty := { slots := [junk, junk, junk, (.inl (.inl (lv (.int .i64 w0_3))))] ++ List.replicate 34 junk, D := [], F := [], ctr := 1 }
def S73_2 (a0 : (List Int)) (v0_3 : Int) (v0_4 : Int) (v2_3 : Int) : St cxT.ty := { slots := [(.inl (.inl (ls { own := 0, nm := 0, e := 5, o := false, xs := a0 }))), junk, junk, (.inl (.inl (lv (.int .i64 v2_3)))), (.inl (.inl (lv (.int .i64 v0_4))))] ++ List.replicate 33 junk, D := [], F := [], ctr := 1 }
def X73_2 (a0 : (List Int)) (v0_3 : Int) (v0_4 : Int) (w2_3 : Int) : St cxT.ty := { slots := [(.inl (.inl (ls { own := 0, nm := 0, e := 5, o := false, xs := a0 }))), junk, junk, (.inl (.inl (lv (.int .i64 w2_3)))), (.inl (.inl (lv (.int .i64 v0_4))))] ++ List.replicate 33 junk, D := [], F := [], ctr := 1 }
theorem i73 (L : Nat) (a0 : (List Int)) : evF prog ev73 (loopN L) f73 (a73.enc a0) =
  headF prog ev73 L f73 0 [1, 1, 0, 1, 0, 0] (outK (outV prog f73) (topK prog ev73 L f73 [1, 1, 0, 1] (outV prog f73)).n (topK prog ev73 L f73 [1, 1, 0, 1] (outV prog f73)).x) L (S73_0 a0 (0 : Int) (0 : Int)) := by kernel_rfl
theorem r73_0 (L : Nat) (a0 : (List Int)) (k : St cxT.ty → Option (V cxT.ty)) (xk : Nat → St cxT.ty → Option (V cxT.ty)) (g : St cxT.ty → Option (V cxT.ty)) (v0_3 : Int) (v0_4 : Int) : roundF prog ev73 L f73 0 [1, 1, 0, 1, 0, 0] (outK (outV prog f73) k xk) g (S73_0 a0 v0_3 v0_4) =
  bif (decide (v0_4 < (Nat.cast (List.length a0) : Int))) then bif ((decide ((0 : Int) ≤ v0_4)) && (decide (v0_4 < (Nat.cast (List.length a0) : Int)))) then bif (decide ((Go.IntKind.wrap Go.IntKind.i64 (v0_4 + (1 : Int))) < (Nat.cast (List.length a0) : Int))) then bif ((decide ((0 : Int) ≤ (Go.IntKind.wrap Go.IntKind.i64 (v0_4 + (1 : Int))))) && (decide ((Go.IntKind.wrap Go.IntKind.i64 (v0_4 + (1 : Int))) < (Nat.cast (List.length a0) : Int)))) then headF prog ev73 L f73 2 [1, 1, 0, 1, 0, 0, 1, 0, 0, 1, 1, 0, 0] (outK (outV prog f73) (inK prog ev73 L f73 0 [1, 1, 0, 1, 0, 0] [1, 0, 0, 1, 1] (outK (outV prog f73) k xk) g).n (inK prog ev73 L f73 0 [1, 1, 0, 1, 0, 0] [1, 0, 0, 1, 1] (outK (outV prog f73) k xk) g).x) L (S73_2 a0 v0_3 v0_4 (Go.IntKind.wrap Go.IntKind.i64 ((Go.IntKind.wrap Go.IntKind.i64 (v0_3 + (Go.IntKind.wrap Go.IntKind.i64 ((256 : Int) * (Go.IntKind.wrap Go.IntKind.i64 (List.getD a0 (Int.toNat v0_4) (0 : Int))))))) + (Go.IntKind.wrap Go.IntKind.i64 (List.getD a0 (Int.toNat (Go.IntKind.wrap Go.IntKind.i64 (v0_4 + (1 : Int)))) (0 : Int))))))
        else none
      else headF prog ev73 L f73 2 [1, 1, 0, 1, 0, 0, 1, 0, 0, 1, 1, 0, 0] (outK (outV prog f73) (inK prog ev73 L f73 0 [1, 1, 0, 1, 0, 0] [1, 0, 0, 1, 1] (outK (outV prog f73) k xk) g).n (inK prog ev73 L f73 0 [1, 1, 0, 1, 0, 0] [1, 0, 0, 1, 1] (outK (outV prog f73) k xk) g).x) L (S73_2 a0 v0_3 v0_4 (Go.IntKind.wrap Go.IntKind.i64 (v0_3 + (Go.IntKind.wrap Go.IntKind.i64 ((256 : Int) * (Go.IntKind.wrap Go.IntKind.i64 (List.getD a0 (Int.toNat v0_4) (0 : Int))))))))
    else none
  else k (X73_0 a0 v0_3) := by kernel_rfl
theorem t73_0 (L : Nat) (a0 : (List Int)) (w0_3 : Int) : (topK prog ev73 L f73 [1, 1, 0, 1] (outV prog f73)).n (X73_0 a0 w0_3) =
  some (n73 (Go.IntKind.wrap Go.IntKind.i64 ((65535 : Int) - w0_3))) := by kernel_rfl
theorem r73_2 (L : Nat) (a0 : (List Int)) (v0_3 : Int) (v0_4 : Int) (k : St cxT.ty → Option (V cxT.ty)) (xk : Nat → St cxT.ty → Option (V cxT.ty)) (g : St cxT.ty → Option (V cxT.ty)) (v2_3 : Int) : roundF prog ev73 L f73 2 [1, 1, 0, 1, 0, 0, 1, 0, 0, 1, 1, 0, 0] (outK (outV prog f73) k xk) g (S73_2 a0 v0_3 v0_4 v2_3) =
  bif (decide (v2_3 > (65535 : Int))) then g (S73_2 a0 v0_3 v0_4 (Go.IntKind.wrap Go.IntKind.i64 (v2_3 - (65535 : Int))))
  else k (X73_2 a0 v0_3 v0_4 v2_3) := by kernel_rfl
theorem t73_2 (L : Nat) (a0 : (List Int)) (v0_3 : Int) (v0_4 : Int) (k : St cxT.ty → Option (V cxT.ty)) (xk : Nat → St cxT.ty → Option (V cxT.ty)) (g : St cxT.ty → Option (V cxT.ty)) (w2_3 : Int) : (inK prog ev73 L f73 0 [1, 1, 0, 1, 0, 0] [1, 0, 0, 1, 1] (outK (outV prog f73) k xk) g).n (X73_2 a0 v0_3 v0_4 w2_3) =
  g (S73_0 a0 w2_3 (Go.IntKind.wrap Go.IntKind.i64 (v0_4 + (2 : Int)))) := by kernel_rfl
def l73_2 (L : Nat) (a0 : (List Int)) (v0_3 : Int) (v0_4 : Int) : Nat → Int → (Int → Option Int) → Option Int
  | 0, _, _ => none
  | n + 1, v2_3, k =>
    bif (decide (v2_3 > (65535 : Int))) then l73_2 L a0 v0_3 v0_4 n (Go.IntKind.wrap Go.IntKind.i64 (v2_3 - (65535 : Int))) k
    else k v2_3
theorem h73_2 (L : Nat) (a0 : (List Int)) (v0_3 : Int) (v0_4 : Int) (k : St cxT.ty → Option (V cxT.ty)) (xk : Nat → St cxT.ty → Option (V cxT.ty)) (k' : Int → Option Int) (hk : ∀ (w2_3 : Int), k (X73_2 a0 v0_3 v0_4 w2_3) = (k' w2_3).map n73) : ∀ (n : Nat) (v2_3 : Int), headF prog ev73 L f73 2 [1, 1, 0, 1, 0, 0, 1, 0, 0, 1, 1, 0, 0] (outK (outV prog f73) k xk) n (S73_2 a0 v0_3 v0_4 v2_3) = (l73_2 L a0 v0_3 v0_4 n v2_3 k').map n73
  | 0, _ => rfl
  | n + 1, v2_3 => by
    rw [headF_round, r73_2]
    have ih := h73_2 L a0 v0_3 v0_4 k xk k' hk n
    simp only [l73_2, map_bif, Option.map_some, Option.map_none, ih, hk]
def l73_0 (L : Nat) (a0 : (List Int)) : Nat → Int → Int → (Int → Option Int) → Option Int
  | 0, _, _, _ => none
  | n + 1, v0_3, v0_4, k =>
    bif (decide (v0_4 < (Nat.cast (List.length a0) : Int))) then bif ((decide ((0 : Int) ≤ v0_4)) && (decide (v0_4 < (Nat.cast (List.length a0) : Int)))) then bif (decide ((Go.IntKind.wrap Go.IntKind.i64 (v0_4 + (1 : Int))) < (Nat.cast (List.length a0) : Int))) then bif ((decide ((0 : Int) ≤ (Go.IntKind.wrap Go.IntKind.i64 (v0_4 + (1 : Int))))) && (decide ((Go.IntKind.wrap Go.IntKind.i64 (v0_4 + (1 : Int))) < (Nat.cast (List.length a0) : Int)))) then l73_2 L a0 v0_3 v0_4 L (Go.IntKind.wrap Go.IntKind.i64 ((Go.IntKind.wrap Go.IntKind.i64 (v0_3 + (Go.IntKind.wrap Go.IntKind.i64 ((256 : Int) * (Go.IntKind.wrap Go.IntKind.i64 (List.getD a0 (Int.toNat v0_4) (0 : Int))))))) + (Go.IntKind.wrap Go.IntKind.i64 (List.getD a0 (Int.toNat (Go.IntKind.wrap Go.IntKind.i64 (v0_4 + (1 : Int)))) (0 : Int))))) (fun (w2_3 : Int) => l73_0 L a0 n w2_3 (Go.IntKind.wrap Go.IntKind.i64 (v0_4 + (2 : Int))) k)
          else none
        else l73_2 L a0 v0_3 v0_4 L (Go.IntKind.wrap Go.IntKind.i64 (v0_3 + (Go.IntKind.wrap Go.IntKind.i64 ((256 : Int) * (Go.IntKind.wrap Go.IntKind.i64 (List.getD a0 (Int.toNat v0_4) (0 : Int))))))) (fun (w2_3 : Int) => l73_0 L a0 n w2_3 (Go.IntKind.wrap Go.IntKind.i64 (v0_4 + (2 : Int))) k)
      else none
    else k v0_3
theorem h73_0 (L : Nat) (a0 : (List Int)) (k : St cxT.ty → Option (V cxT.ty)) (xk : Nat → St cxT.ty → Option (V cxT.ty)) (k' : Int → Option Int) (hk : ∀ (w0_3 : Int), k (X73_0 a0 w0_3) = (k' w0_3).map n73) : ∀ (n : Nat) (v0_3 : Int) (v0_4 : Int), headF prog ev73 L f73 0 [1, 1, 0, 1, 0, 0] (outK (outV prog f73) k xk) n (S73_0 a0 v0_3 v0_4) = (l73_0 L a0 n v0_3 v0_4 k').map n73
  | 0, _, _ => rfl
  | n + 1, v0_3, v0_4 => by
    rw [headF_round, r73_0]
    have ih := h73_0 L a0 k xk k' hk n
    let K'2 : Int → Option Int := (fun (w2_3 : Int) => l73_0 L a0 n w2_3 (Go.IntKind.wrap Go.IntKind.i64 (v0_4 + (2 : Int))) k')
    have hin2 : ∀ (v2_3 : Int), headF prog ev73 L f73 2 [1, 1, 0, 1, 0, 0, 1, 0, 0, 1, 1, 0, 0] (outK (outV prog f73) (inK prog ev73 L f73 0 [1, 1, 0, 1, 0, 0] [1, 0, 0, 1, 1] (outK (outV prog f73) k xk) (headF prog ev73 L f73 0 [1, 1, 0, 1, 0, 0] (outK (outV prog f73) k xk) n)).n (inK prog ev73 L f73 0 [1, 1, 0, 1, 0, 0] [1, 0, 0, 1, 1] (outK (outV prog f73) k xk) (headF prog ev73 L f73 0 [1, 1, 0, 1, 0, 0] (outK (outV prog f73) k xk) n)).x) L (S73_2 a0 v0_3 v0_4 v2_3) = (l73_2 L a0 v0_3 v0_4 L v2_3 K'2).map n73 := fun v2_3 => h73_2 L a0 v0_3 v0_4 _ _ (K'2) (fun w2_3 => by rw [t73_2]; simp only [K'2, map_bif, Option.map_some, Option.map_none, ih, hk]) L v2_3
    simp only [l73_0, map_bif, Option.map_some, Option.map_none, ih, hk, hin2, K'2]
def g73 (L : Nat) (a0 : (List Int)) : Option Int :=
  l73_0 L a0 L (0 : Int) (0 : Int) (fun (w0_3 : Int) => some (Go.IntKind.wrap Go.IntKind.i64 ((65535 : Int) - w0_3)))
theorem e73 (L : Nat) (a0 : (List Int)) : evF prog ev73 (loopN L) f73 (a73.enc a0) = (g73 L a0).map n73 := by
  let K'0 : Int → Option Int := (fun (w0_3 : Int) => some (Go.IntKind.wrap Go.IntKind.i64 ((65535 : Int) - w0_3)))
  have hin0 : ∀ (v0_3 : Int) (v0_4 : Int), headF prog ev73 L f73 0 [1, 1, 0, 1, 0, 0] (outK (outV prog f73) (topK prog ev73 L f73 [1, 1, 0, 1] (outV prog f73)).n (topK prog ev73 L f73 [1, 1, 0, 1] (outV prog f73)).x) L (S73_0 a0 v0_3 v0_4) = (l73_0 L a0 L v0_3 v0_4 K'0).map n73 := fun v0_3 v0_4 => h73_0 L a0 _ _ K'0 (fun w0_3 => by rw [t73_0]; simp only [K'0, map_bif, Option.map_some, Option.map_none]) L v0_3 v0_4
  rw [i73]; simp only [g73, map_bif, Option.map_some, Option.map_none, hin0, K'0]
theorem s73 (m : (List Int) → Option Int) (hm : ∀ (x : (List Int)) t, m x = some t → ∃ L, g73 L x = some t) : Sat prog cxT 73 (c73 m) :=
  sat_t cxT_ok cxT_pok (by rfl) (fn := f73) rfl a73 n73 dd73 m ev73 kok_nil kwok_nil (fun L x => g73 L x) (fun L x => e73 L x) hm hs73
/-! loop.example/g00222/impl.wordAt -/
def ev84 : Env cxT := { Kc := kcOf [], Kw := kwOf [], lv := fun i => [], xv := fun i => none }
theorem i84 (L : Nat) (a0 : (List Int)) (a1 : Int) : evF prog ev84 (loopN L) f84 (a84.enc (a0, a1)) =
  bif ((decide ((0 : Int) ≤ a1)) && (decide (a1 < (Nat.cast (List.length a0) : Int)))) then bif (decide ((Go.IntKind.wrap Go.IntKind.i64 (a1 + (1 : Int))) < (Nat.cast (List.length a0) : Int))) then bif ((decide ((0 : Int) ≤ (Go.IntKind.wrap Go.IntKind.i64 (a1 + (1 : Int))))) && (decide ((Go.IntKind.wrap Go.IntKind.i64 (a1 + (1 : Int))) < (Nat.cast (List.length a0) : Int)))) then some (n84 (Go.IntKind.wrap Go.IntKind.u64 (Nat.cast (BitVec.toNat (HOr.hOr (BitVec.ofInt (Go.IntKind.bits Go.IntKind.u64) (Go.IntKind.wrap Go.IntKind.u64 ((Go.IntKind.wrap Go.IntKind.u64 (List.getD a0 (Int.toNat a1) (0 : Int))) * ((2 : Int) ^ (min (Int.toNat (8 : Int)) (Go.IntKind.bits Go.IntKind.u64)))))) (BitVec.ofInt (Go.IntKind.bits Go.IntKind.u64) (Go.IntKind.wrap Go.IntKind.u64 (List.getD a0 (Int.toNat (Go.IntKind.wrap Go.IntKind.i64 (a1 + (1 : Int)))) (0 : Int)))))) : Int)))
      else none
    else some (n84 (Go.IntKind.wrap Go.IntKind.u64 ((Go.IntKind.wrap Go.IntKind.u64 (List.getD a0 (Int.toNat a1) (0 : Int))) * ((2 : Int) ^ (min (Int.toNat (8 : Int)) (Go.IntKind.bits Go.IntKind.u64))))))
  else none := by kernel_rfl
def g84 (L : Nat) (a0 : (List Int)) (a1 : Int) : Option Int :=
  bif ((decide ((0 : Int) ≤ a1)) && (decide (a1 < (Nat.cast (List.length a0) : Int)))) then bif (decide ((Go.IntKind.wrap Go.IntKind.i64 (a1 + (1 : Int))) < (Nat.cast (List.length a0) : Int))) then bif ((decide ((0 : Int) ≤ (Go.IntKind.wrap Go.IntKind.i64 (a1 + (1 : Int))))) && (decide ((Go.IntKind.wrap Go.IntKind.i64 (a1 + (1 : Int))) < (Nat.cast (List.length a0) : Int)))) then some (Go.IntKind.wrap Go.IntKind.u64 (Nat.cast (BitVec.toNat (HOr.hOr (BitVec.ofInt (Go.IntKind.bits Go.IntKind.u64) (Go.IntKind.wrap Go.IntKind.u64 ((Go.IntKind.wrap Go.IntKind.u64 (List.getD a0 (Int.toNat a1) (0 : Int))) * ((2 : Int) ^ (min (Int.toNat (8 : Int)) (Go.IntKind.bits Go.IntKind.u64)))))) (BitVec.ofInt (Go.IntKind.bits Go.IntKind.u64) (Go.IntKind.wrap Go.IntKind.u64 (List.getD a0 (Int.toNat (Go.IntKind.wrap Go.IntKind.i64 (a1 + (1 : Int)))) (0 : Int)))))) : Int))
      else none
    else some (Go.IntKind.wrap Go.IntKind.u64 ((Go.IntKind.wrap Go.IntKind.u64 (List.getD a0 (Int.toNat a1) (0 : Int))) * ((2 : Int) ^ (min (Int.toNat (8 : Int)) (Go.IntKind.bits Go.IntKind.u64)))))
  else none
theorem e84 (L : Nat) (a0 : (List Int)) (a1 : Int) : evF prog ev84 (loopN L) f84 (a84.enc (a0, a1)) = (g84 L a0 a1).map n84 := by
  rw [i84]; simp only [g84, map_bif, Option.map_some, Option.map_none]
theorem s84 (m : ((List Int) × Int) → Option Int) (hm : ∀ (x : ((List Int) × Int)) t, m x = some t → ∃ L, g84 L x.1 x.2 = some t) : Sat prog cxT 84 (c84 m) :=
  sat_t cxT_ok cxT_pok (by rfl) (fn := f84) rfl a84 n84 dd84 m ev84 kok_nil kwok_nil (fun L x => g84 L x.1 x.2) (fun L x => e84 L x.1 x.2) hm hs84
/-! loop.example/g00222/impl.SumWords -/
def ev83 (m84 : ((List Int) × Int) → Option Int) : Env cxT := { Kc := kcOf [(84, c84 m84)], Kw := kwOf [], lv := fun i => if i = 0 then [(0, [some 5]), (3, []), (4, [])] else if i = 2 then [(0, [some 5]), (3, []), (4, [])] else [], xv := fun i => if i = 0 then some [(3, [])] else if i = 2 then some [(0, [some 5]), (3, []), (4, [])] else none }
def S83_0 (a0 : (List Int)) (v0_3 : Int) (v0_4 : Int) : St cxT.ty := { slots := [(.inl (.inl (ls { own := 0, nm := 0, e := 5, o := false, xs := a0 }))), junk, junk, (.inl (.inl (lv (.int .u64 v0_3)))), (.inl (.inl (lv (.int .i64 v0_4))))] ++ List.replicate 18 junk, D := [], F := [], ctr := 1 }
def X83_0 (a0 : (List Int)) (w0_3 : Int) : St cxT.ty := { slots := [junk, junk, junk, (.inl (.inl (lv (.int .u64 w0_3))))] ++ List.replicate 19 junk, D := [], F := [], ctr := 1 }
def S83_2 (a0 : (List Int)) (v0_3 : Int) (v0_4 : Int) (v2_3 : Int) : St cxT.ty := { slots := [(.inl (.inl (ls { own := 0, nm := 0, e := 5, o := false, xs := a0 }))), junk, junk, (.inl (.inl (lv (.int .u64 v2_3)))), (.inl (.inl (lv (.int .i64 v0_4))))] ++ List.replicate 18 junk, D := [], F := [], ctr := 1 }
def X83_2 (a0 : (List Int)) (v0_3 : Int) (v0_4 : Int) (w2_3 : Int) : St cxT.ty := { slots := [(.inl (.inl (ls { own := 0, nm := 0, e := 5, o := false, xs := a0 }))), junk, junk, (.inl (.inl (lv (.int .u64 w2_3)))), (.inl (.inl (lv (.int .i64 v0_4))))] ++ List.replicate 18 junk, D := [], F := [], ctr := 1 }
theorem i83 (m84 : ((List Int) × Int) → Option Int) (L : Nat) (a0 : (List Int)) : evF prog (ev83 m84) (loopN L) f83 (a83.enc a0) =
  headF prog (ev83 m84) L f83 0 [1, 1, 0, 1, 0, 0] (outK (outV prog f83) (topK prog (ev83 m84) L f83 [1, 1, 0, 1] (outV prog f83)).n (topK prog (ev83 m84) L f83 [1, 1, 0, 1] (outV prog f83)).x) L (S83_0 a0 (0 : Int) (0 : Int)) := by kernel_rfl
theorem r83_0 (m84 : ((List Int) × Int) → Option Int) (L : Nat) (a0 : (List Int)) (k : St cxT.ty → Option (V cxT.ty)) (xk : Nat → St cxT.ty → Option (V cxT.ty)) (g : St cxT.ty → Option (V cxT.ty)) (v0_3 : Int) (v0_4 : Int) : roundF prog (ev83 m84) L f83 0 [1, 1, 0, 1, 0, 0] (outK (outV prog f83) k xk) g (S83_0 a0 v0_3 v0_4) =
  bif (decide (v0_4 < (Nat.cast (List.length a0) : Int))) then bif (Option.isSome (m84 (a0, v0_4))) then headF prog (ev83 m84) L f83 2 [1, 1, 0, 1, 0, 0, 1, 0, 0, 1, 0, 0] (outK (outV prog f83) (inK prog (ev83 m84) L f83 0 [1, 1, 0, 1, 0, 0] [1, 0, 0, 1] (outK (outV prog f83) k xk) g).n (inK prog (ev83 m84) L f83 0 [1, 1, 0, 1, 0, 0] [1, 0, 0, 1] (outK (outV prog f83) k xk) g).x) L (S83_2 a0 v0_3 v0_4 (Go.IntKind.wrap Go.IntKind.u64 (v0_3 + (Option.getD (m84 (a0, v0_4)) (0 : Int)))))
    else none
  else k (X83_0 a0 v0_3) := by kernel_rfl
theorem t83_0 (m84 : ((List Int) × Int) → Option Int) (L : Nat) (a0 : (List Int)) (w0_3 : Int) : (topK prog (ev83 m84) L f83 [1, 1, 0, 1] (outV prog f83)).n (X83_0 a0 w0_3) =
  some (n83 (Go.IntKind.wrap Go.IntKind.i64 ((65535 : Int) - (Go.IntKind.wrap Go.IntKind.i64 w0_3)))) := by kernel_rfl
theorem r83_2 (m84 : ((List Int) × Int) → Option Int) (L : Nat) (a0 : (List Int)) (v0_3 : Int) (v0_4 : Int) (k : St cxT.ty → Option (V cxT.ty)) (xk : Nat → St cxT.ty → Option (V cxT.ty)) (g : St cxT.ty → Option (V cxT.ty)) (v2_3 : Int) : roundF prog (ev83 m84) L f83 2 [1, 1, 0, 1, 0, 0, 1, 0, 0, 1, 0, 0] (outK (outV prog f83) k xk) g (S83_2 a0 v0_3 v0_4 v2_3) =
  bif (decide (v2_3 > (65535 : Int))) then g (S83_2 a0 v0_3 v0_4 (Go.IntKind.wrap Go.IntKind.u64 (v2_3 - (65535 : Int))))
  else k (X83_2 a0 v0_3 v0_4 v2_3) := by kernel_rfl
theorem t83_2 (m84 : ((List Int) × Int) → Option Int) (L : Nat) (a0 : (List Int)) (v0_3 : Int) (v0_4 : Int) (k : St cxT.ty → Option (V cxT.ty)) (xk : Nat → St cxT.ty → Option (V cxT.ty)) (g : St cxT.ty → Option (V cxT.ty)) (w2_3 : Int) : (inK prog (ev83 m84) L f83 0 [1, 1, 0, 1, 0, 0] [1, 0, 0, 1] (outK (outV prog f83) k xk) g).n (X83_2 a0 v0_3 v0_4 w2_3) =
  g (S83_0 a0 w2_3 (Go.IntKind.wrap Go.IntKind.i64 (v0_4 + (2 : Int)))) := by kernel_rfl
def l83_2 (m84 : ((List Int) × Int) → Option Int) (L : Nat) (a0 : (List Int)) (v0_3 : Int) (v0_4 : Int) : Nat → Int → (Int → Option Int) → Option Int
  | 0, _, _ => none
  | n + 1, v2_3, k =>
    bif (decide (v2_3 > (65535 : Int))) then l83_2 m84 L a0 v0_3 v0_4 n (Go.IntKind.wrap Go.IntKind.u64 (v2_3 - (65535 : Int))) k
    else k v2_3
theorem h83_2 (m84 : ((List Int) × Int) → Option Int) (L : Nat) (a0 : (List Int)) (v0_3 : Int) (v0_4 : Int) (k : St cxT.ty → Option (V cxT.ty)) (xk : Nat → St cxT.ty → Option (V cxT.ty)) (k' : Int → Option Int) (hk : ∀ (w2_3 : Int), k (X83_2 a0 v0_3 v0_4 w2_3) = (k' w2_3).map n83) : ∀ (n : Nat) (v2_3 : Int), headF prog (ev83 m84) L f83 2 [1, 1, 0, 1, 0, 0, 1, 0, 0, 1, 0, 0] (outK (outV prog f83) k xk) n (S83_2 a0 v0_3 v0_4 v2_3) = (l83_2 m84 L a0 v0_3 v0_4 n v2_3 k').map n83
  | 0, _ => rfl
  | n + 1, v2_3 => by
    rw [headF_round, r83_2]
    have ih := h83_2 m84 L a0 v0_3 v0_4 k xk k' hk n
    simp only [l83_2, map_bif, Option.map_some, Option.map_none, ih, hk]
def l83_0 (m84 : ((List Int) × Int) → Option Int) (L : Nat) (a0 : (List Int)) : Nat → Int → Int → (Int → Option Int) → Option Int
  | 0, _, _, _ => none
  | n + 1, v0_3, v0_4, k =>
    bif (decide (v0_4 < (Nat.cast (List.length a0) : Int))) then bif (Option.isSome (m84 (a0, v0_4))) then l83_2 m84 L a0 v0_3 v0_4 L (Go.IntKind.wrap Go.IntKind.u64 (v0_3 + (Option.getD (m84 (a0, v0_4)) (0 : Int)))) (fun (w2_3 : Int) => l83_0 m84 L a0 n w2_3 (Go.IntKind.wrap Go.IntKind.i64 (v0_4 + (2 : Int))) k)
      else none
    else k v0_3
theorem h83_0 (m84 : ((List Int) × Int) → Option Int) (L : Nat) (a0 : (List Int)) (k : St cxT.ty → Option (V cxT.ty)) (xk : Nat → St cxT.ty → Option (V cxT.ty)) (k' : Int → Option Int) (hk : ∀ (w0_3 : Int), k (X83_0 a0 w0_3) = (k' w0_3).map n83) : ∀ (n : Nat) (v0_3 : Int) (v0_4 : Int), headF prog (ev83 m84) L f83 0 [1, 1, 0, 1, 0, 0] (outK (outV prog f83) k xk) n (S83_0 a0 v0_3 v0_4) = (l83_0 m84 L a0 n v0_3 v0_4 k').map n83
  | 0, _, _ => rfl
  | n + 1, v0_3, v0_4 => by
    rw [headF_round, r83_0]
    have ih := h83_0 m84 L a0 k xk k' hk n
    let K'2 : Int → Option Int := (fun (w2_3 : Int) => l83_0 m84 L a0 n w2_3 (Go.IntKind.wrap Go.IntKind.i64 (v0_4 + (2 : Int))) k')
    have hin2 : ∀ (v2_3 : Int), headF prog (ev83 m84) L f83 2 [1, 1, 0, 1, 0, 0, 1, 0, 0, 1, 0, 0] (outK (outV prog f83) (inK prog (ev83 m84) L f83 0 [1, 1, 0, 1, 0, 0] [1, 0, 0, 1] (outK (outV prog f83) k xk) (headF prog (ev83 m84) L f83 0 [1, 1, 0, 1, 0, 0] (outK (outV prog f83) k xk) n)).n (inK prog (ev83 m84) L f83 0 [1, 1, 0, 1, 0, 0] [1, 0, 0, 1] (outK (outV prog f83) k xk) (headF prog (ev83 m84) L f83 0 [1, 1, 0, 1, 0, 0] (outK (outV prog f83) k xk) n)).x) L (S83_2 a0 v0_3 v0_4 v2_3) = (l83_2 m84 L a0 v0_3 v0_4 L v2_3 K'2).map n83 := fun v2_3 => h83_2 m84 L a0 v0_3 v0_4 _ _ (K'2) (fun w2_3 => by rw [t83_2]; simp only [K'2, map_bif, Option.map_some, Option.map_none, ih, hk]) L v2_3
    simp only [l83_0, map_bif, Option.map_some, Option.map_none, ih, hk, hin2, K'2]
def g83 (m84 : ((List Int) × Int) → Option Int) (L : Nat) (a0 : (List Int)) : Option Int :=
  l83_0 m84 L a0 L (0 : Int) (0 : Int) (fun (w0_3 : Int) => some (Go.IntKind.wrap Go.IntKind.i64 ((65535 : Int) - (Go.IntKind.wrap Go.IntKind.i64 w0_3))))
theorem e83 (m84 : ((List Int) × Int) → Option Int) (L : Nat) (a0 : (List Int)) : evF prog (ev83 m84) (loopN L) f83 (a83.enc a0) = (g83 m84 L a0).map n83 := by
  let K'0 : Int → Option Int := (fun (w0_3 : Int) => some (Go.IntKind.wrap Go.IntKind.i64 ((65535 : Int) - (Go.IntKind.wrap Go.IntKind.i64 w0_3))))
  have hin0 : ∀ (v0_3 : Int) (v0_4 : Int), headF prog (ev83 m84) L f83 0 [1, 1, 0, 1, 0, 0] (outK (outV prog f83) (topK prog (ev83 m84) L f83 [1, 1, 0, 1] (outV prog f83)).n (topK prog (ev83 m84) L f83 [1, 1, 0, 1] (outV prog f83)).x) L (S83_0 a0 v0_3 v0_4) = (l83_0 m84 L a0 L v0_3 v0_4 K'0).map n83 := fun v0_3 v0_4 => h83_0 m84 L a0 _ _ K'0 (fun w0_3 => by rw [t83_0]; simp only [K'0, map_bif, Option.map_some, Option.map_none]) L v0_3 v0_4
  rw [i83]; simp only [g83, map_bif, Option.map_some, Option.map_none, hin0, K'0]
theorem s83 (m84 : ((List Int) × Int) → Option Int) (h84 : Sat prog cxT 84 (c84 m84)) (m : (List Int) → Option Int) (hm : ∀ (x : (List Int)) t, m x = some t → ∃ L, g83 m84 L x = some t) : Sat prog cxT 83 (c83 m) :=
  sat_t cxT_ok cxT_pok (by rfl) (fn := f83) rfl a83 n83 dd83 m (ev83 m84) (kok_cons h84 kok_nil) kwok_nil (fun L x => g83 m84 L x) (fun L x => e83 m84 L x) hm hs83
/-! loop.example/g00222/laws.markByteS -/
def ev33 : Env cxT := { Kc := kcOf [], Kw := kwOf [], lv := fun i => if i = 0 then [(0, [some 5]), (1, []), (5, [])] else [], xv := fun i => if i = 0 then some [(0, [some 5]), (1, [])] else none }
def S33_0 (a0 : (List Int)) (a1 : Int) (v0_0 : (List Int)) (v0_1 : Int) (v0_5 : Int) : St cxT.ty := { slots := [(.inl (.inl (ls { own := 1, nm := 0, e := 5, o := true, xs := v0_0 }))), (.inl (.inl (lv (.int .i64 v0_1)))), junk, junk, junk, (.inl (.inl (lv (.int .i64 v0_5))))] ++ List.replicate 14 junk, D := [], F := [], ctr := 1, lo := 1 }
def X33_0 (a0 : (List Int)) (a1 : Int) (w0_0 : (List Int)) (w0_1 : Int) : St cxT.ty := { slots := [(.inl (.inl (ls { own := 1, nm := 0, e := 5, o := true, xs := w0_0 }))), (.inl (.inl (lv (.int .i64 w0_1))))] ++ List.replicate 18 junk, D := [], F := [], ctr := 1, lo := 1 }
theorem i33 (L : Nat) (a0 : (List Int)) (a1 : Int) : evFW prog ev33 (loopN L) f33 1 (a33.enc (a0, a1)) =
  headF prog ev33 L f33 0 [1, 0, 1, 0, 0] (outK (outW prog f33 1) (topK prog ev33 L f33 [1, 0, 1] (outW prog f33 1)).n (topK prog ev33 L f33 [1, 0, 1] (outW prog f33 1)).x) L (S33_0 a0 a1 a0 a1 (0 : Int)) := by kernel_rfl
theorem r33_0 (L : Nat) (a0 : (List Int)) (a1 : Int) (k : St cxT.ty → Option (List (A cxT.ty))) (xk : Nat → St cxT.ty → Option (List (A cxT.ty))) (g : St cxT.ty → Option (List (A cxT.ty))) (v0_0 : (List Int)) (v0_1 : Int) (v0_5 : Int) : roundF prog ev33 L f33 0 [1, 0, 1, 0, 0] (outK (outW prog f33 1) k xk) g (S33_0 a0 a1 v0_0 v0_1 v0_5) =
  bif (decide (v0_5 < (Nat.cast (List.length v0_0) : Int))) then bif ((decide ((0 : Int) ≤ v0_5)) && (decide (v0_5 < (Nat.cast (List.length v0_0) : Int)))) then g (S33_0 a0 a1 (List.set v0_0 (Int.toNat v0_5) (Go.IntKind.wrap Go.IntKind.u8 v0_1)) (Go.IntKind.wrap Go.IntKind.i64 (v0_1 + (1 : Int))) (Go.IntKind.wrap Go.IntKind.i64 (v0_5 + (1 : Int))))
    else none
  else k (X33_0 a0 a1 v0_0 v0_1) := by kernel_rfl
theorem t33_0 (L : Nat) (a0 : (List Int)) (a1 : Int) (w0_0 : (List Int)) (w0_1 : Int) : (topK prog ev33 L f33 [1, 0, 1] (outW prog f33 1)).n (X33_0 a0 a1 w0_0 w0_1) =
  some (n33 (w0_1, w0_0)) := by kernel_rfl
def l33_0 (L : Nat) (a0 : (List Int)) (a1 : Int) : Nat → (List Int) → Int → Int → ((List Int) → Int → Option (Int × (List Int))) → Option (Int × (List Int))
  | 0, _, _, _, _ => none
  | n + 1, v0_0, v0_1, v0_5, k =>
    bif (decide (v0_5 < (Nat.cast (List.length v0_0) : Int))) then bif ((decide ((0 : Int) ≤ v0_5)) && (decide (v0_5 < (Nat.cast (List.length v0_0) : Int)))) then l33_0 L a0 a1 n (List.set v0_0 (Int.toNat v0_5) (Go.IntKind.wrap Go.IntKind.u8 v0_1)) (Go.IntKind.wrap Go.IntKind.i64 (v0_1 + (1 : Int))) (Go.IntKind.wrap Go.IntKind.i64 (v0_5 + (1 : Int))) k
      else none
    else k v0_0 v0_1
theorem h33_0 (L : Nat) (a0 : (List Int)) (a1 : Int) (k : St cxT.ty → Option (List (A cxT.ty))) (xk : Nat → St cxT.ty → Option (List (A cxT.ty))) (k' : (List Int) → Int → Option (Int × (List Int))) (hk : ∀ (w0_0 : (List Int)) (w0_1 : Int), k (X33_0 a0 a1 w0_0 w0_1) = (k' w0_0 w0_1).map n33) : ∀ (n : Nat) (v0_0 : (List Int)) (v0_1 : Int) (v0_5 : Int), headF prog ev33 L f33 0 [1, 0, 1, 0, 0] (outK (outW prog f33 1) k xk) n (S33_0 a0 a1 v0_0 v0_1 v0_5) = (l33_0 L a0 a1 n v0_0 v0_1 v0_5 k').map n33
  | 0, _, _, _ => rfl
  | n + 1, v0_0, v0_1, v0_5 => by
    rw [headF_round, r33_0]
    have ih := h33_0 L a0 a1 k xk k' hk n
    simp only [l33_0, map_bif, Option.map_some, Option.map_none, ih, hk]
def g33 (L : Nat) (a0 : (List Int)) (a1 : Int) : Option (Int × (List Int)) :=
  l33_0 L a0 a1 L a0 a1 (0 : Int) (fun (w0_0 : (List Int)) (w0_1 : Int) => some (w0_1, w0_0))
theorem e33 (L : Nat) (a0 : (List Int)) (a1 : Int) : evFW prog ev33 (loopN L) f33 1 (a33.enc (a0, a1)) = (g33 L a0 a1).map n33 := by
  let K'0 : (List Int) → Int → Option (Int × (List Int)) := (fun (w0_0 : (List Int)) (w0_1 : Int) => some (w0_1, w0_0))
  have hin0 : ∀ (v0_0 : (List Int)) (v0_1 : Int) (v0_5 : Int), headF prog ev33 L f33 0 [1, 0, 1, 0, 0] (outK (outW prog f33 1) (topK prog ev33 L f33 [1, 0, 1] (outW prog f33 1)).n (topK prog ev33 L f33 [1, 0, 1] (outW prog f33 1)).x) L (S33_0 a0 a1 v0_0 v0_1 v0_5) = (l33_0 L a0 a1 L v0_0 v0_1 v0_5 K'0).map n33 := fun v0_0 v0_1 v0_5 => h33_0 L a0 a1 _ _ K'0 (fun w0_0 w0_1 => by rw [t33_0]; simp only [K'0, map_bif, Option.map_some, Option.map_none]) L v0_0 v0_1 v0_5
  rw [i33]; simp only [g33, map_bif, Option.map_some, Option.map_none, hin0, K'0]
theorem s33 (m : ((List Int) × Int) → Option (Int × (List Int))) (hm : ∀ (x : ((List Int) × Int)) t, m x = some t → ∃ L, g33 L x.1 x.2 = some t) : SatW prog cxT 33 (c33 m).nres (c33 m).n (c33 m).F :=
  sat_w cxT_ok cxT_pok (by rfl) (fn := f33) rfl rfl a33 n33 dd33 m ev33 kok_nil kwok_nil (fun L x => g33 L x.1 x.2) (fun L x => e33 L x.1 x.2) hm hs33
/-! loop.example/g00222/laws.heldByteS -/
def ev65 : Env cxT := { Kc := kcOf [], Kw := kwOf [], lv := fun i => if i = 0 then [(0, [some 5]), (1, []), (5, [])] else [], xv := fun i => if i = 0 then some [(1, [])] else none }
def S65_0 (a0 : (List Int)) (a1 : Int) (v0_1 : Int) (v0_5 : Int) : St cxT.ty := { slots := [(.inl (.inl (ls { own := 0, nm := 0, e := 5, o := false, xs := a0 }))), (.inl (.inl (lv (.int .i64 v0_1)))), junk, junk, junk, (.inl (.inl (lv (.int .i64 v0_5))))] ++ List.replicate 16 junk, D := [], F := [], ctr := 1 }
def X65_0 (a0 : (List Int)) (a1 : Int) (w0_1 : Int) : St cxT.ty := { slots := [junk, (.inl (.inl (lv (.int .i64 w0_1))))] ++ List.replicate 20 junk, D := [], F := [], ctr := 1 }
theorem i65 (L : Nat) (a0 : (List Int)) (a1 : Int) : evF prog ev65 (loopN L) f65 (a65.enc (a0, a1)) =
  headF prog ev65 L f65 0 [1, 0, 1, 0, 0] (outK (outV prog f65) (topK prog ev65 L f65 [1, 0, 1] (outV prog f65)).n (topK prog ev65 L f65 [1, 0, 1] (outV prog f65)).x) L (S65_0 a0 a1 a1 (0 : Int)) := by kernel_rfl
theorem r65_0 (L : Nat) (a0 : (List Int)) (a1 : Int) (k : St cxT.ty → Option (V cxT.ty)) (xk : Nat → St cxT.ty → Option (V cxT.ty)) (g : St cxT.ty → Option (V cxT.ty)) (v0_1 : Int) (v0_5 : Int) : roundF prog ev65 L f65 0 [1, 0, 1, 0, 0] (outK (outV prog f65) k xk) g (S65_0 a0 a1 v0_1 v0_5) =
  bif (decide (v0_5 < (Nat.cast (List.length a0) : Int))) then bif ((decide ((0 : Int) ≤ v0_5)) && (decide (v0_5 < (Nat.cast (List.length a0) : Int)))) then bif ((List.getD a0 (Int.toNat v0_5) (0 : Int)) != (Go.IntKind.wrap Go.IntKind.u8 v0_1)) then some (n65 (-(1 : Int)))
      else g (S65_0 a0 a1 (Go.IntKind.wrap Go.IntKind.i64 (v0_1 + (1 : Int))) (Go.IntKind.wrap Go.IntKind.i64 (v0_5 + (1 : Int))))
    else none
  else k (X65_0 a0 a1 v0_1) := by kernel_rfl
theorem t65_0 (L : Nat) (a0 : (List Int)) (a1 : Int) (w0_1 : Int) : (topK prog ev65 L f65 [1, 0, 1] (outV prog f65)).n (X65_0 a0 a1 w0_1) =
  some (n65 w0_1) := by kernel_rfl
def l65_0 (L : Nat) (a0 : (List Int)) (a1 : Int) : Nat → Int → Int → (Int → Option Int) → Option Int
  | 0, _, _, _ => none
  | n + 1, v0_1, v0_5, k =>
    bif (decide (v0_5 < (Nat.cast (List.length a0) : Int))) then bif ((decide ((0 : Int) ≤ v0_5)) && (decide (v0_5 < (Nat.cast (List.length a0) : Int)))) then bif ((List.getD a0 (Int.toNat v0_5) (0 : Int)) != (Go.IntKind.wrap Go.IntKind.u8 v0_1)) then some (-(1 : Int))
        else l65_0 L a0 a1 n (Go.IntKind.wrap Go.IntKind.i64 (v0_1 + (1 : Int))) (Go.IntKind.wrap Go.IntKind.i64 (v0_5 + (1 : Int))) k
      else none
    else k v0_1
theorem h65_0 (L : Nat) (a0 : (List Int)) (a1 : Int) (k : St cxT.ty → Option (V cxT.ty)) (xk : Nat → St cxT.ty → Option (V cxT.ty)) (k' : Int → Option Int) (hk : ∀ (w0_1 : Int), k (X65_0 a0 a1 w0_1) = (k' w0_1).map n65) : ∀ (n : Nat) (v0_1 : Int) (v0_5 : Int), headF prog ev65 L f65 0 [1, 0, 1, 0, 0] (outK (outV prog f65) k xk) n (S65_0 a0 a1 v0_1 v0_5) = (l65_0 L a0 a1 n v0_1 v0_5 k').map n65
  | 0, _, _ => rfl
  | n + 1, v0_1, v0_5 => by
    rw [headF_round, r65_0]
    have ih := h65_0 L a0 a1 k xk k' hk n
    simp only [l65_0, map_bif, Option.map_some, Option.map_none, ih, hk]
def g65 (L : Nat) (a0 : (List Int)) (a1 : Int) : Option Int :=
  l65_0 L a0 a1 L a1 (0 : Int) (fun (w0_1 : Int) => some w0_1)
theorem e65 (L : Nat) (a0 : (List Int)) (a1 : Int) : evF prog ev65 (loopN L) f65 (a65.enc (a0, a1)) = (g65 L a0 a1).map n65 := by
  let K'0 : Int → Option Int := (fun (w0_1 : Int) => some w0_1)
  have hin0 : ∀ (v0_1 : Int) (v0_5 : Int), headF prog ev65 L f65 0 [1, 0, 1, 0, 0] (outK (outV prog f65) (topK prog ev65 L f65 [1, 0, 1] (outV prog f65)).n (topK prog ev65 L f65 [1, 0, 1] (outV prog f65)).x) L (S65_0 a0 a1 v0_1 v0_5) = (l65_0 L a0 a1 L v0_1 v0_5 K'0).map n65 := fun v0_1 v0_5 => h65_0 L a0 a1 _ _ K'0 (fun w0_1 => by rw [t65_0]; simp only [K'0, map_bif, Option.map_some, Option.map_none]) L v0_1 v0_5
  rw [i65]; simp only [g65, map_bif, Option.map_some, Option.map_none, hin0, K'0]
theorem s65 (m : ((List Int) × Int) → Option Int) (hm : ∀ (x : ((List Int) × Int)) t, m x = some t → ∃ L, g65 L x.1 x.2 = some t) : Sat prog cxT 65 (c65 m) :=
  sat_t cxT_ok cxT_pok (by rfl) (fn := f65) rfl a65 n65 dd65 m ev65 kok_nil kwok_nil (fun L x => g65 L x.1 x.2) (fun L x => e65 L x.1 x.2) hm hs65
/-! loop.example/g00222/laws.markBytesResult -/
def ev26 (m33 : ((List Int) × Int) → Option (Int × (List Int))) : Env cxT := { Kc := kcOf [], Kw := kwOf [(33, c33 m33)], lv := fun i => [], xv := fun i => none }
theorem i26 (m33 : ((List Int) × Int) → Option (Int × (List Int))) (L : Nat) (a0_0 : Int) (a0_1 : (List Int)) (a1 : Int) : evFW prog (ev26 m33) (loopN L) f26 1 (a26.enc ((a0_0, a0_1), a1)) =
  bif (Option.isSome (m33 (a0_1, a1))) then some (n26 ((Option.getD (m33 (a0_1, a1)) ((0 : Int), ([] : List (Int)))).1, a0_0, (Option.getD (m33 (a0_1, a1)) ((0 : Int), ([] : List (Int)))).2))
  else none := by kernel_rfl
def g26 (m33 : ((List Int) × Int) → Option (Int × (List Int))) (L : Nat) (a0_0 : Int) (a0_1 : (List Int)) (a1 : Int) : Option (Int × Int × (List Int)) :=
  bif (Option.isSome (m33 (a0_1, a1))) then some ((Option.getD (m33 (a0_1, a1)) ((0 : Int), ([] : List (Int)))).1, a0_0, (Option.getD (m33 (a0_1, a1)) ((0 : Int), ([] : List (Int)))).2)
  else none
theorem e26 (m33 : ((List Int) × Int) → Option (Int × (List Int))) (L : Nat) (a0_0 : Int) (a0_1 : (List Int)) (a1 : Int) : evFW prog (ev26 m33) (loopN L) f26 1 (a26.enc ((a0_0, a0_1), a1)) = (g26 m33 L a0_0 a0_1 a1).map n26 := by
  rw [i26]; simp only [g26, map_bif, Option.map_some, Option.map_none]
theorem s26 (m33 : ((List Int) × Int) → Option (Int × (List Int))) (h33 : SatW prog cxT 33 (c33 m33).nres (c33 m33).n (c33 m33).F) (m : ((Int × (List Int)) × Int) → Option (Int × Int × (List Int))) (hm : ∀ (x : ((Int × (List Int)) × Int)) t, m x = some t → ∃ L, g26 m33 L x.1.1 x.1.2 x.2 = some t) : SatW prog cxT 26 (c26 m).nres (c26 m).n (c26 m).F :=
  sat_w cxT_ok cxT_pok (by rfl) (fn := f26) rfl rfl a26 n26 dd26 m (ev26 m33) kok_nil (kwok_cons h33 kwok_nil) (fun L x => g26 m33 L x.1.1 x.1.2 x.2) (fun L x => e26 m33 L x.1.1 x.1.2 x.2) hm hs26
/-! loop.example/g00222/laws.heldBytesResult -/
def ev27 (m65 : ((List Int) × Int) → Option Int) : Env cxT := { Kc := kcOf [(65, c65 m65)], Kw := kwOf [], lv := fun i => [], xv := fun i => none }
theorem i27 (m65 : ((List Int) × Int) → Option Int) (L : Nat) (a0_0 : Int) (a0_1 : (List Int)) (a1 : Int) : evF prog (ev27 m65) (loopN L) f27 (a27.enc ((a0_0, a0_1), a1)) =
  bif (Option.isSome (m65 (a0_1, a1))) then bif (decide ((Option.getD (m65 (a0_1, a1)) (0 : Int)) < (0 : Int))) then some (n27 (-(1 : Int)))
    else some (n27 (Option.getD (m65 (a0_1, a1)) (0 : Int)))
  else none := by kernel_rfl
def g27 (m65 : ((List Int) × Int) → Option Int) (L : Nat) (a0_0 : Int) (a0_1 : (List Int)) (a1 : Int) : Option Int :=
  bif (Option.isSome (m65 (a0_1, a1))) then bif (decide ((Option.getD (m65 (a0_1, a1)) (0 : Int)) < (0 : Int))) then some (-(1 : Int))
    else some (Option.getD (m65 (a0_1, a1)) (0 : Int))
  else none
theorem e27 (m65 : ((List Int) × Int) → Option Int) (L : Nat) (a0_0 : Int) (a0_1 : (List Int)) (a1 : Int) : evF prog (ev27 m65) (loopN L) f27 (a27.enc ((a0_0, a0_1), a1)) = (g27 m65 L a0_0 a0_1 a1).map n27 := by
  rw [i27]; simp only [g27, map_bif, Option.map_some, Option.map_none]
theorem s27 (m65 : ((List Int) × Int) → Option Int) (h65 : Sat prog cxT 65 (c65 m65)) (m : ((Int × (List Int)) × Int) → Option Int) (hm : ∀ (x : ((Int × (List Int)) × Int)) t, m x = some t → ∃ L, g27 m65 L x.1.1 x.1.2 x.2 = some t) : Sat prog cxT 27 (c27 m) :=
  sat_t cxT_ok cxT_pok (by rfl) (fn := f27) rfl a27 n27 dd27 m (ev27 m65) (kok_cons h65 kok_nil) kwok_nil (fun L x => g27 m65 L x.1.1 x.1.2 x.2) (fun L x => e27 m65 L x.1.1 x.1.2 x.2) hm hs27
/-! loop.example/g00222/laws.eqBytesResult -/
def ev24 (m32 : ((List Int) × (List Int)) → Option Bool) : Env cxT := { Kc := kcOf [(32, c32 m32)], Kw := kwOf [], lv := fun i => [], xv := fun i => none }
theorem i24 (m32 : ((List Int) × (List Int)) → Option Bool) (L : Nat) (a0_0 : Int) (a0_1 : (List Int)) (a1_0 : Int) (a1_1 : (List Int)) : evF prog (ev24 m32) (loopN L) f24 (a24.enc ((a0_0, a0_1), (a1_0, a1_1))) =
  bif (a0_0 != a1_0) then some (n24 Bool.false)
  else bif (Option.isSome (m32 (a0_1, a1_1))) then bif (!(Option.getD (m32 (a0_1, a1_1)) Bool.false)) then some (n24 Bool.false)
    else some (n24 Bool.true)
  else none := by kernel_rfl
def g24 (m32 : ((List Int) × (List Int)) → Option Bool) (L : Nat) (a0_0 : Int) (a0_1 : (List Int)) (a1_0 : Int) (a1_1 : (List Int)) : Option Bool :=
  bif (a0_0 != a1_0) then some Bool.false
  else bif (Option.isSome (m32 (a0_1, a1_1))) then bif (!(Option.getD (m32 (a0_1, a1_1)) Bool.false)) then some Bool.false
    else some Bool.true
  else none
theorem e24 (m32 : ((List Int) × (List Int)) → Option Bool) (L : Nat) (a0_0 : Int) (a0_1 : (List Int)) (a1_0 : Int) (a1_1 : (List Int)) : evF prog (ev24 m32) (loopN L) f24 (a24.enc ((a0_0, a0_1), (a1_0, a1_1))) = (g24 m32 L a0_0 a0_1 a1_0 a1_1).map n24 := by
  rw [i24]; simp only [g24, map_bif, Option.map_some, Option.map_none]
theorem s24 (m32 : ((List Int) × (List Int)) → Option Bool) (h32 : Sat prog cxT 32 (c32 m32)) (m : ((Int × (List Int)) × (Int × (List Int))) → Option Bool) (hm : ∀ (x : ((Int × (List Int)) × (Int × (List Int)))) t, m x = some t → ∃ L, g24 m32 L x.1.1 x.1.2 x.2.1 x.2.2 = some t) : Sat prog cxT 24 (c24 m) :=
  sat_t cxT_ok cxT_pok (by rfl) (fn := f24) rfl a24 n24 dd24 m (ev24 m32) (kok_cons h32 kok_nil) kwok_nil (fun L x => g24 m32 L x.1.1 x.1.2 x.2.1 x.2.2) (fun L x => e24 m32 L x.1.1 x.1.2 x.2.1 x.2.2) hm hs24
/-! loop.example/g00222/impl.numberBytes -/
def ev64 : Env cxT := { Kc := kcOf [], Kw := kwOf [], lv := fun i => if i = 0 then [(0, []), (5, [some 5]), (11, []), (12, [])] else [], xv := fun i => if i = 0 then some [(5, [some 5])] else none }
def S64_0 (a0 : Int) (a1 : Int) (v0_5 : (List Int)) (v0_12 : Int) : St cxT.ty := { slots := [(.inl (.inl (lv (.int .u64 a0)))), junk, junk, junk, junk, (.inl (.inl (ls { own := 1, nm := 320, e := 5, o := true, xs := v0_5 }))), junk, junk, junk, junk, junk, (.inl (.inl (lv (.int .i64 (Nat.cast (List.length (List.replicate (Int.toNat a1) (0 : Int))) : Int))))), (.inl (.inl (lv (.int .i64 v0_12))))] ++ List.replicate 18 junk, D := [], F := [], ctr := 1 }
def X64_0 (a0 : Int) (a1 : Int) (w0_5 : (List Int)) : St cxT.ty := { slots := [junk, junk, junk, junk, junk, (.inl (.inl (ls { own := 1, nm := 320, e := 5, o := true, xs := w0_5 })))] ++ List.replicate 25 junk, D := [], F := [], ctr := 1 }
theorem i64 (L : Nat) (a0 : Int) (a1 : Int) : evF prog ev64 (loopN L) f64 (a64.enc (a0, a1)) =
  bif (((decide ((0 : Int) ≤ a1)) && (decide (a1 ≤ a1))) && (decide (a1 ≤ (1000000000 : Int)))) then headF prog ev64 L f64 0 [1, 1, 0, 1, 0, 0] (outK (outV prog f64) (topK prog ev64 L f64 [1, 1, 0, 1] (outV prog f64)).n (topK prog ev64 L f64 [1, 1, 0, 1] (outV prog f64)).x) L (S64_0 a0 a1 (List.replicate (Int.toNat a1) (0 : Int)) (0 : Int))
  else none := by kernel_rfl
theorem r64_0 (L : Nat) (a0 : Int) (a1 : Int) (k : St cxT.ty → Option (V cxT.ty)) (xk : Nat → St cxT.ty → Option (V cxT.ty)) (g : St cxT.ty → Option (V cxT.ty)) (v0_5 : (List Int)) (v0_12 : Int) : roundF prog ev64 L f64 0 [1, 1, 0, 1, 0, 0] (outK (outV prog f64) k xk) g (S64_0 a0 a1 v0_5 v0_12) =
  bif (decide (v0_12 < (Nat.cast (List.length (List.replicate (Int.toNat a1) (0 : Int))) : Int))) then bif (decide ((Go.IntKind.wrap Go.IntKind.u64 ((8 : Int) * (Go.IntKind.wrap Go.IntKind.u64 (Go.IntKind.wrap Go.IntKind.i64 ((Go.IntKind.wrap Go.IntKind.i64 ((Nat.cast (List.length v0_5) : Int) - (1 : Int))) - v0_12))))) < (0 : Int))) then none
    else bif ((decide ((0 : Int) ≤ v0_12)) && (decide (v0_12 < (Nat.cast (List.length v0_5) : Int)))) then g (S64_0 a0 a1 (List.set v0_5 (Int.toNat v0_12) (Go.IntKind.wrap Go.IntKind.u8 (Int.fdiv a0 ((2 : Int) ^ (min (Int.toNat (Go.IntKind.wrap Go.IntKind.u64 ((8 : Int) * (Go.IntKind.wrap Go.IntKind.u64 (Go.IntKind.wrap Go.IntKind.i64 ((Go.IntKind.wrap Go.IntKind.i64 ((Nat.cast (List.length v0_5) : Int) - (1 : Int))) - v0_12)))))) (Go.IntKind.bits Go.IntKind.u64)))))) (Go.IntKind.wrap Go.IntKind.i64 (v0_12 + (1 : Int))))
    else none
  else k (X64_0 a0 a1 v0_5) := by kernel_rfl
theorem t64_0 (L : Nat) (a0 : Int) (a1 : Int) (w0_5 : (List Int)) : (topK prog ev64 L f64 [1, 1, 0, 1] (outV prog f64)).n (X64_0 a0 a1 w0_5) =
  some (n64 w0_5) := by kernel_rfl
def l64_0 (L : Nat) (a0 : Int) (a1 : Int) : Nat → (List Int) → Int → ((List Int) → Option (List Int)) → Option (List Int)
  | 0, _, _, _ => none
  | n + 1, v0_5, v0_12, k =>
    bif (decide (v0_12 < (Nat.cast (List.length (List.replicate (Int.toNat a1) (0 : Int))) : Int))) then bif (decide ((Go.IntKind.wrap Go.IntKind.u64 ((8 : Int) * (Go.IntKind.wrap Go.IntKind.u64 (Go.IntKind.wrap Go.IntKind.i64 ((Go.IntKind.wrap Go.IntKind.i64 ((Nat.cast (List.length v0_5) : Int) - (1 : Int))) - v0_12))))) < (0 : Int))) then none
      else bif ((decide ((0 : Int) ≤ v0_12)) && (decide (v0_12 < (Nat.cast (List.length v0_5) : Int)))) then l64_0 L a0 a1 n (List.set v0_5 (Int.toNat v0_12) (Go.IntKind.wrap Go.IntKind.u8 (Int.fdiv a0 ((2 : Int) ^ (min (Int.toNat (Go.IntKind.wrap Go.IntKind.u64 ((8 : Int) * (Go.IntKind.wrap Go.IntKind.u64 (Go.IntKind.wrap Go.IntKind.i64 ((Go.IntKind.wrap Go.IntKind.i64 ((Nat.cast (List.length v0_5) : Int) - (1 : Int))) - v0_12)))))) (Go.IntKind.bits Go.IntKind.u64)))))) (Go.IntKind.wrap Go.IntKind.i64 (v0_12 + (1 : Int))) k
      else none
    else k v0_5
theorem h64_0 (L : Nat) (a0 : Int) (a1 : Int) (k : St cxT.ty → Option (V cxT.ty)) (xk : Nat → St cxT.ty → Option (V cxT.ty)) (k' : (List Int) → Option (List Int)) (hk : ∀ (w0_5 : (List Int)), k (X64_0 a0 a1 w0_5) = (k' w0_5).map n64) : ∀ (n : Nat) (v0_5 : (List Int)) (v0_12 : Int), headF prog ev64 L f64 0 [1, 1, 0, 1, 0, 0] (outK (outV prog f64) k xk) n (S64_0 a0 a1 v0_5 v0_12) = (l64_0 L a0 a1 n v0_5 v0_12 k').map n64
  | 0, _, _ => rfl
  | n + 1, v0_5, v0_12 => by
    rw [headF_round, r64_0]
    have ih := h64_0 L a0 a1 k xk k' hk n
    simp only [l64_0, map_bif, Option.map_some, Option.map_none, ih, hk]
def g64 (L : Nat) (a0 : Int) (a1 : Int) : Option (List Int) :=
  bif (((decide ((0 : Int) ≤ a1)) && (decide (a1 ≤ a1))) && (decide (a1 ≤ (1000000000 : Int)))) then l64_0 L a0 a1 L (List.replicate (Int.toNat a1) (0 : Int)) (0 : Int) (fun (w0_5 : (List Int)) => some w0_5)
  else none
theorem e64 (L : Nat) (a0 : Int) (a1 : Int) : evF prog ev64 (loopN L) f64 (a64.enc (a0, a1)) = (g64 L a0 a1).map n64 := by
  let K'0 : (List Int) → Option (List Int) := (fun (w0_5 : (List Int)) => some w0_5)
  have hin0 : ∀ (v0_5 : (List Int)) (v0_12 : Int), headF prog ev64 L f64 0 [1, 1, 0, 1, 0, 0] (outK (outV prog f64) (topK prog ev64 L f64 [1, 1, 0, 1] (outV prog f64)).n (topK prog ev64 L f64 [1, 1, 0, 1] (outV prog f64)).x) L (S64_0 a0 a1 v0_5 v0_12) = (l64_0 L a0 a1 L v0_5 v0_12 K'0).map n64 := fun v0_5 v0_12 => h64_0 L a0 a1 _ _ K'0 (fun w0_5 => by rw [t64_0]; simp only [K'0, map_bif, Option.map_some, Option.map_none]) L v0_5 v0_12
  rw [i64]; simp only [g64, map_bif, Option.map_some, Option.map_none, hin0, K'0]
theorem s64 (m : (Int × Int) → Option (List Int)) (hm : ∀ (x : (Int × Int)) t, m x = some t → ∃ L, g64 L x.1 x.2 = some t) : Sat prog cxT 64 (c64 m) :=
  sat_t cxT_ok cxT_pok (by rfl) (fn := f64) rfl a64 n64 dd64 m ev64 kok_nil kwok_nil (fun L x => g64 L x.1 x.2) (fun L x => e64 L x.1 x.2) hm hs64
/-! loop.example/g00222/spec.l1Bytes -/
def ev79 : Env cxT := { Kc := kcOf [], Kw := kwOf [], lv := fun i => if i = 0 then [(0, []), (5, [some 5]), (6, [])] else [], xv := fun i => if i = 0 then some [(5, [some 5])] else none }
def S79_0 (a0 : Int) (a1 : Int) (v0_5 : (List Int)) (v0_6 : Int) : St cxT.ty := { slots := [(.inl (.inl (lv (.int .i64 a0)))), junk, junk, junk, junk, (.inl (.inl (ls { own := 1, nm := 320, e := 5, o := true, xs := v0_5 }))), (.inl (.inl (lv (.int .i64 v0_6))))] ++ List.replicate 17 junk, D := [], F := [], ctr := 1 }
def X79_0 (a0 : Int) (a1 : Int) (w0_5 : (List Int)) : St cxT.ty := { slots := [junk, junk, junk, junk, junk, (.inl (.inl (ls { own := 1, nm := 320, e := 5, o := true, xs := w0_5 })))] ++ List.replicate 18 junk, D := [], F := [], ctr := 1 }
theorem i79 (L : Nat) (a0 : Int) (a1 : Int) : evF prog ev79 (loopN L) f79 (a79.enc (a0, a1)) =
  headF prog ev79 L f79 0 [1, 1, 0, 1, 0, 0] (outK (outV prog f79) (topK prog ev79 L f79 [1, 1, 0, 1] (outV prog f79)).n (topK prog ev79 L f79 [1, 1, 0, 1] (outV prog f79)).x) L (S79_0 a0 a1 ([] : List (Int)) (Go.IntKind.wrap Go.IntKind.i64 (a1 - (1 : Int)))) := by kernel_rfl
theorem r79_0 (L : Nat) (a0 : Int) (a1 : Int) (k : St cxT.ty → Option (V cxT.ty)) (xk : Nat → St cxT.ty → Option (V cxT.ty)) (g : St cxT.ty → Option (V cxT.ty)) (v0_5 : (List Int)) (v0_6 : Int) : roundF prog ev79 L f79 0 [1, 1, 0, 1, 0, 0] (outK (outV prog f79) k xk) g (S79_0 a0 a1 v0_5 v0_6) =
  bif (decide (v0_6 ≥ (0 : Int))) then bif (decide ((Go.IntKind.wrap Go.IntKind.u64 (Go.IntKind.wrap Go.IntKind.i64 ((8 : Int) * v0_6))) < (0 : Int))) then none
    else bif (decide (((List.length v0_5) + (List.length (List.cons (Go.IntKind.wrap Go.IntKind.u8 (Int.fdiv a0 ((2 : Int) ^ (min (Int.toNat (Go.IntKind.wrap Go.IntKind.u64 (Go.IntKind.wrap Go.IntKind.i64 ((8 : Int) * v0_6)))) (Go.IntKind.bits Go.IntKind.i64))))) ([] : List (Int))))) ≤ (1000000000 : Nat))) then g (S79_0 a0 a1 (v0_5 ++ (List.cons (Go.IntKind.wrap Go.IntKind.u8 (Int.fdiv a0 ((2 : Int) ^ (min (Int.toNat (Go.IntKind.wrap Go.IntKind.u64 (Go.IntKind.wrap Go.IntKind.i64 ((8 : Int) * v0_6)))) (Go.IntKind.bits Go.IntKind.i64))))) ([] : List (Int)))) (Go.IntKind.wrap Go.IntKind.i64 (v0_6 - (1 : Int))))
    else none
  else k (X79_0 a0 a1 v0_5) := by kernel_rfl
theorem t79_0 (L : Nat) (a0 : Int) (a1 : Int) (w0_5 : (List Int)) : (topK prog ev79 L f79 [1, 1, 0, 1] (outV prog f79)).n (X79_0 a0 a1 w0_5) =
  some (n79 w0_5) := by kernel_rfl
def l79_0 (L : Nat) (a0 : Int) (a1 : Int) : Nat → (List Int) → Int → ((List Int) → Option (List Int)) → Option (List Int)
  | 0, _, _, _ => none
  | n + 1, v0_5, v0_6, k =>
    bif (decide (v0_6 ≥ (0 : Int))) then bif (decide ((Go.IntKind.wrap Go.IntKind.u64 (Go.IntKind.wrap Go.IntKind.i64 ((8 : Int) * v0_6))) < (0 : Int))) then none
      else bif (decide (((List.length v0_5) + (List.length (List.cons (Go.IntKind.wrap Go.IntKind.u8 (Int.fdiv a0 ((2 : Int) ^ (min (Int.toNat (Go.IntKind.wrap Go.IntKind.u64 (Go.IntKind.wrap Go.IntKind.i64 ((8 : Int) * v0_6)))) (Go.IntKind.bits Go.IntKind.i64))))) ([] : List (Int))))) ≤ (1000000000 : Nat))) then l79_0 L a0 a1 n (v0_5 ++ (List.cons (Go.IntKind.wrap Go.IntKind.u8 (Int.fdiv a0 ((2 : Int) ^ (min (Int.toNat (Go.IntKind.wrap Go.IntKind.u64 (Go.IntKind.wrap Go.IntKind.i64 ((8 : Int) * v0_6)))) (Go.IntKind.bits Go.IntKind.i64))))) ([] : List (Int)))) (Go.IntKind.wrap Go.IntKind.i64 (v0_6 - (1 : Int))) k
      else none
    else k v0_5
theorem h79_0 (L : Nat) (a0 : Int) (a1 : Int) (k : St cxT.ty → Option (V cxT.ty)) (xk : Nat → St cxT.ty → Option (V cxT.ty)) (k' : (List Int) → Option (List Int)) (hk : ∀ (w0_5 : (List Int)), k (X79_0 a0 a1 w0_5) = (k' w0_5).map n79) : ∀ (n : Nat) (v0_5 : (List Int)) (v0_6 : Int), headF prog ev79 L f79 0 [1, 1, 0, 1, 0, 0] (outK (outV prog f79) k xk) n (S79_0 a0 a1 v0_5 v0_6) = (l79_0 L a0 a1 n v0_5 v0_6 k').map n79
  | 0, _, _ => rfl
  | n + 1, v0_5, v0_6 => by
    rw [headF_round, r79_0]
    have ih := h79_0 L a0 a1 k xk k' hk n
    simp only [l79_0, map_bif, Option.map_some, Option.map_none, ih, hk]
def g79 (L : Nat) (a0 : Int) (a1 : Int) : Option (List Int) :=
  l79_0 L a0 a1 L ([] : List (Int)) (Go.IntKind.wrap Go.IntKind.i64 (a1 - (1 : Int))) (fun (w0_5 : (List Int)) => some w0_5)
theorem e79 (L : Nat) (a0 : Int) (a1 : Int) : evF prog ev79 (loopN L) f79 (a79.enc (a0, a1)) = (g79 L a0 a1).map n79 := by
  let K'0 : (List Int) → Option (List Int) := (fun (w0_5 : (List Int)) => some w0_5)
  have hin0 : ∀ (v0_5 : (List Int)) (v0_6 : Int), headF prog ev79 L f79 0 [1, 1, 0, 1, 0, 0] (outK (outV prog f79) (topK prog ev79 L f79 [1, 1, 0, 1] (outV prog f79)).n (topK prog ev79 L f79 [1, 1, 0, 1] (outV prog f79)).x) L (S79_0 a0 a1 v0_5 v0_6) = (l79_0 L a0 a1 L v0_5 v0_6 K'0).map n79 := fun v0_5 v0_6 => h79_0 L a0 a1 _ _ K'0 (fun w0_5 => by rw [t79_0]; simp only [K'0, map_bif, Option.map_some, Option.map_none]) L v0_5 v0_6
  rw [i79]; simp only [g79, map_bif, Option.map_some, Option.map_none, hin0, K'0]
theorem s79 (m : (Int × Int) → Option (List Int)) (hm : ∀ (x : (Int × Int)) t, m x = some t → ∃ L, g79 L x.1 x.2 = some t) : Sat prog cxT 79 (c79 m) :=
  sat_t cxT_ok cxT_pok (by rfl) (fn := f79) rfl a79 n79 dd79 m ev79 kok_nil kwok_nil (fun L x => g79 L x.1 x.2) (fun L x => e79 L x.1 x.2) hm hs79
/-! loop.example/g00222/impl.joinPieces -/
def ev54 : Env cxT := { Kc := kcOf [], Kw := kwOf [], lv := fun i => if i = 0 then [(3, [some 5]), (6, [some 22]), (7, []), (8, [])] else [], xv := fun i => if i = 0 then some [(3, [some 5])] else none }
def S54_0 (a0 : (List (List Int))) (v0_3 : (List Int)) (v0_8 : Int) : St cxT.ty := { slots := [junk, junk, junk, (.inl (.inl (ls { own := 1, nm := 192, e := 5, o := true, xs := v0_3 }))), junk, junk, (.inl (.inl (ls { own := 0, nm := 0, e := 22, o := false, xs := a0 }))), (.inl (.inl (lv (.int .i64 (Nat.cast (List.length a0) : Int))))), (.inl (.inl (lv (.int .i64 v0_8))))] ++ List.replicate 8 junk, D := [], F := [], ctr := 1 }
def X54_0 (a0 : (List (List Int))) (w0_3 : (List Int)) : St cxT.ty := { slots := [junk, junk, junk, (.inl (.inl (ls { own := 1, nm := 192, e := 5, o := true, xs := w0_3 })))] ++ List.replicate 13 junk, D := [], F := [], ctr := 1 }
theorem i54 (L : Nat) (a0 : (List (List Int))) : evF prog ev54 (loopN L) f54 (a54.enc a0) =
  headF prog ev54 L f54 0 [1, 1, 0, 1, 0, 0] (outK (outV prog f54) (topK prog ev54 L f54 [1, 1, 0, 1] (outV prog f54)).n (topK prog ev54 L f54 [1, 1, 0, 1] (outV prog f54)).x) L (S54_0 a0 ([] : List (Int)) (0 : Int)) := by kernel_rfl
theorem r54_0 (L : Nat) (a0 : (List (List Int))) (k : St cxT.ty → Option (V cxT.ty)) (xk : Nat → St cxT.ty → Option (V cxT.ty)) (g : St cxT.ty → Option (V cxT.ty)) (v0_3 : (List Int)) (v0_8 : Int) : roundF prog ev54 L f54 0 [1, 1, 0, 1, 0, 0] (outK (outV prog f54) k xk) g (S54_0 a0 v0_3 v0_8) =
  bif (decide (v0_8 < (Nat.cast (List.length a0) : Int))) then bif ((decide ((0 : Int) ≤ v0_8)) && (decide (v0_8 < (Nat.cast (List.length a0) : Int)))) then bif (decide (((List.length v0_3) + (List.length (List.getD a0 (Int.toNat v0_8) ([] : List (Int))))) ≤ (1000000000 : Nat))) then g (S54_0 a0 (v0_3 ++ (List.getD a0 (Int.toNat v0_8) ([] : List (Int)))) (Go.IntKind.wrap Go.IntKind.i64 (v0_8 + (1 : Int))))
      else none
    else none
  else k (X54_0 a0 v0_3) := by kernel_rfl
theorem t54_0 (L : Nat) (a0 : (List (List Int))) (w0_3 : (List Int)) : (topK prog ev54 L f54 [1, 1, 0, 1] (outV prog f54)).n (X54_0 a0 w0_3) =
  some (n54 w0_3) := by kernel_rfl
def l54_0 (L : Nat) (a0 : (List (List Int))) : Nat → (List Int) → Int → ((List Int) → Option (List Int)) → Option (List Int)
  | 0, _, _, _ => none
  | n + 1, v0_3, v0_8, k =>
    bif (decide (v0_8 < (Nat.cast (List.length a0) : Int))) then bif ((decide ((0 : Int) ≤ v0_8)) && (decide (v0_8 < (Nat.cast (List.length a0) : Int)))) then bif (decide (((List.length v0_3) + (List.length (List.getD a0 (Int.toNat v0_8) ([] : List (Int))))) ≤ (1000000000 : Nat))) then l54_0 L a0 n (v0_3 ++ (List.getD a0 (Int.toNat v0_8) ([] : List (Int)))) (Go.IntKind.wrap Go.IntKind.i64 (v0_8 + (1 : Int))) k
        else none
      else none
    else k v0_3
theorem h54_0 (L : Nat) (a0 : (List (List Int))) (k : St cxT.ty → Option (V cxT.ty)) (xk : Nat → St cxT.ty → Option (V cxT.ty)) (k' : (List Int) → Option (List Int)) (hk : ∀ (w0_3 : (List Int)), k (X54_0 a0 w0_3) = (k' w0_3).map n54) : ∀ (n : Nat) (v0_3 : (List Int)) (v0_8 : Int), headF prog ev54 L f54 0 [1, 1, 0, 1, 0, 0] (outK (outV prog f54) k xk) n (S54_0 a0 v0_3 v0_8) = (l54_0 L a0 n v0_3 v0_8 k').map n54
  | 0, _, _ => rfl
  | n + 1, v0_3, v0_8 => by
    rw [headF_round, r54_0]
    have ih := h54_0 L a0 k xk k' hk n
    simp only [l54_0, map_bif, Option.map_some, Option.map_none, ih, hk]
def g54 (L : Nat) (a0 : (List (List Int))) : Option (List Int) :=
  l54_0 L a0 L ([] : List (Int)) (0 : Int) (fun (w0_3 : (List Int)) => some w0_3)
theorem e54 (L : Nat) (a0 : (List (List Int))) : evF prog ev54 (loopN L) f54 (a54.enc a0) = (g54 L a0).map n54 := by
  let K'0 : (List Int) → Option (List Int) := (fun (w0_3 : (List Int)) => some w0_3)
  have hin0 : ∀ (v0_3 : (List Int)) (v0_8 : Int), headF prog ev54 L f54 0 [1, 1, 0, 1, 0, 0] (outK (outV prog f54) (topK prog ev54 L f54 [1, 1, 0, 1] (outV prog f54)).n (topK prog ev54 L f54 [1, 1, 0, 1] (outV prog f54)).x) L (S54_0 a0 v0_3 v0_8) = (l54_0 L a0 L v0_3 v0_8 K'0).map n54 := fun v0_3 v0_8 => h54_0 L a0 _ _ K'0 (fun w0_3 => by rw [t54_0]; simp only [K'0, map_bif, Option.map_some, Option.map_none]) L v0_3 v0_8
  rw [i54]; simp only [g54, map_bif, Option.map_some, Option.map_none, hin0, K'0]
theorem s54 (m : (List (List Int)) → Option (List Int)) (hm : ∀ (x : (List (List Int))) t, m x = some t → ∃ L, g54 L x = some t) : Sat prog cxT 54 (c54 m) :=
  sat_t cxT_ok cxT_pok (by rfl) (fn := f54) rfl a54 n54 dd54 m ev54 kok_nil kwok_nil (fun L x => g54 L x) (fun L x => e54 L x) hm hs54
end Go.Proofs.Try

set_option maxHeartbeats 0
set_option linter.unusedVariables false
set_option linter.unusedSimpArgs false
namespace Go.Proofs.Try
open Go Go.VM Go.RowKit

def nrm (t : Int) : Int := if t > 65535 then t - 65535 else t
def sw : List Int → Int → Int
  | [], h => h
  | [x], h => nrm (h + x * 256)
  | x :: y :: r, h => sw r (nrm (h + (x * 256 + y)))
theorem nrm_bound {t : Int} (h0 : 0 ≤ t) (h1 : t ≤ 131070) : 0 ≤ nrm t ∧ nrm t ≤ 65535 := by
  unfold nrm; split <;> omega
def sumW (a : List Int) : Int := 65535 - sw a 0
theorem sw_bound : ∀ (a : List Int) (h : Int), okB a = true → 0 ≤ h → h ≤ 65535 → 0 ≤ sw a h ∧ sw a h ≤ 65535
  | [], h, _, h0, h1 => ⟨h0, h1⟩
  | [x], h, hb, h0, h1 => by
    have hx := (okB_cons.1 hb).1
    exact nrm_bound (by omega) (by omega)
  | x :: y :: r, h, hb, h0, h1 => by
    have hx := (okB_cons.1 hb).1
    have hy := okB_cons.1 (okB_cons.1 hb).2
    have := nrm_bound (t := h + (x * 256 + y)) (by omega) (by omega)
    exact sw_bound r _ hy.2 this.1 this.2

theorem p20i (L : Nat) (a : List Int) (u v : Int) (k : Int → Option Int) (n : Nat) (t : Int) (h0 : 0 ≤ t) (h1 : t ≤ 131070) : l73_2 L a u v (n + 2) t k = k (nrm t) := by
  unfold l73_2
  by_cases ht : t > 65535
  · simp (disch := omega) only [dt, wi, cond_true]
    unfold l73_2
    simp (disch := omega) only [df, cond_false]
    unfold nrm
    rw [if_pos ht]
  · simp (disch := omega) only [df, cond_false]
    unfold nrm
    rw [if_neg ht]

theorem p73 (M : Nat) (a : List Int) (hb : okB a = true) (hl : a.length ≤ 1000000000000) (k : Int → Option Int) : ∀ (n i : Nat) (h : Int), i ≤ a.length + 1 → a.length + 1 < n + i → 0 ≤ h → h ≤ 65535 →
    l73_0 (M + 2) a n h i k = k (sw (a.drop i) h)
  | 0, i, h, h2, h3, _, _ => by
    omega
  | n + 1, i, h, h2, h3, h4, h5 => by
    unfold l73_0
    by_cases hi : i < a.length
    · have hx := okB_get hb hi
      have e1 : ((i : Int) + 1) = ((i + 1 : Nat) : Int) := by simp
      simp (disch := omega) only [dt, df, wi, cond_true, Bool.and_self, Int.toNat_natCast]
      rw [drop_cons 0 hi]
      by_cases hj : i + 1 < a.length
      · have hy := okB_get hb hj
        rw [e1]
        simp (disch := omega) only [dt, df, wi, cond_true, Bool.and_self, Int.toNat_natCast]
        rw [p20i _ _ _ _ _ _ _ (by omega) (by omega), drop_cons 0 hj]
        have hn := nrm_bound (t := h + 256 * a.getD i 0 + a.getD (i + 1) 0) (by omega) (by omega)
        have := p73 M a hb hl k n (i + 2) (nrm (h + 256 * a.getD i 0 + a.getD (i + 1) 0)) (by omega) (by omega) hn.1 hn.2
        simp only [Int.natCast_add, Int.cast_ofNat_Int] at this
        rw [this, show h + 256 * a.getD i 0 + a.getD (i + 1) 0 = h + (a.getD i 0 * 256 + a.getD (i + 1) 0) by omega]
        rfl
      · simp (disch := omega) only [df, cond_false]
        rw [p20i _ _ _ _ _ _ _ (by omega) (by omega), List.drop_eq_nil_of_le (show a.length ≤ i + 1 by omega)]
        have hn := nrm_bound (t := h + 256 * a.getD i 0) (by omega) (by omega)
        have := p73 M a hb hl k n (i + 2) (nrm (h + 256 * a.getD i 0)) (by omega) (by omega) hn.1 hn.2
        simp only [Int.natCast_add, Int.cast_ofNat_Int] at this
        rw [this, List.drop_eq_nil_of_le (show a.length ≤ i + 2 by omega), show h + 256 * a.getD i 0 = h + a.getD i 0 * 256 by omega]
        rfl
    · simp (disch := omega) only [df, cond_false]
      rw [List.drop_eq_nil_of_le (by omega)]
      rfl

def m73 (a : List Int) : Option Int := if okB a = true ∧ a.length ≤ 1000000000000 then some (sumW a) else none
theorem sat73 : Sat prog cxT 73 (c73 m73) := s73 m73 fun a t h => by
  unfold m73 at h
  split at h
  · rename_i hc
    cases h
    refine ⟨a.length + 2, ?_⟩
    unfold g73
    refine (p73 a.length a hc.1 hc.2 _ _ 0 0 (by omega) (by omega) (by omega) (by omega)).trans ?_
    have := sw_bound a 0 hc.1 (by omega) (by omega)
    simp (disch := omega) only [List.drop_zero, wi]
    rfl
  · cases h

/-! impl -/
def m84 (x : List Int × Int) : Option Int :=
  if okB x.1 = true ∧ x.1.length ≤ 1000000000000 ∧ 0 ≤ x.2 ∧ x.2 < x.1.length then
    some (x.1.getD x.2.toNat 0 * 256 + (if x.2.toNat + 1 < x.1.length then x.1.getD (x.2.toNat + 1) 0 else 0)) else none
theorem sat84 : Sat prog cxT 84 (c84 m84) := s84 m84 fun x t h => by
  obtain ⟨a, i⟩ := x
  unfold m84 at h
  split at h
  · rename_i hc
    obtain ⟨h1, h2, h3, h4⟩ := hc
    simp only at h1 h2 h3 h4 h
    cases h
    refine ⟨0, ?_⟩
    obtain ⟨i, rfl⟩ := Int.eq_ofNat_of_zero_le h3
    have hi : i < a.length := by omega
    have hx := okB_get h1 hi
    have e1 : ((i : Int) + 1) = ((i + 1 : Nat) : Int) := by simp
    unfold g84
    simp (disch := omega) only [dt, df, wi, cond_true, Bool.and_self, Int.toNat_natCast]
    by_cases hj : i + 1 < a.length
    · have hy := okB_get h1 hj
      rw [e1]
      simp (disch := omega) only [dt, df, wi, cond_true, Bool.and_self, Int.toNat_natCast, shl8, wu, or_byte, if_pos hj]
    · simp (disch := omega) only [df, cond_false, shl8, wu, if_neg hj, Int.add_zero]
  · cases h

theorem p18i (mm : List Int × Int → Option Int) (L : Nat) (a : List Int) (u v : Int) (k : Int → Option Int) (n : Nat) (t : Int) (h0 : 0 ≤ t) (h1 : t ≤ 131070) : l83_2 mm L a u v (n + 2) t k = k (nrm t) := by
  unfold l83_2
  by_cases ht : t > 65535
  · simp (disch := omega) only [dt, wu, cond_true]
    unfold l83_2
    simp (disch := omega) only [df, cond_false]
    unfold nrm
    rw [if_pos ht]
  · simp (disch := omega) only [df, cond_false]
    unfold nrm
    rw [if_neg ht]

theorem p83 (M : Nat) (a : List Int) (hb : okB a = true) (hl : a.length ≤ 1000000000000) (k : Int → Option Int) : ∀ (n i : Nat) (h : Int), i ≤ a.length + 1 → a.length + 1 < n + i → 0 ≤ h → h ≤ 65535 →
    l83_0 m84 (M + 2) a n h i k = k (sw (a.drop i) h)
  | 0, i, h, h2, h3, _, _ => by
    omega
  | n + 1, i, h, h2, h3, h4, h5 => by
    unfold l83_0
    by_cases hi : i < a.length
    · have hx := okB_get hb hi
      have e50 : m84 (a, (i : Int)) = some (a.getD i 0 * 256 + (if i + 1 < a.length then a.getD (i + 1) 0 else 0)) := by
        unfold m84
        rw [if_pos ⟨hb, hl, by show (0 : Int) ≤ (i : Int); omega, by show (i : Int) < (a.length : Int); omega⟩]
        rfl
      simp (disch := omega) only [dt, e50, wi, cond_true, Option.isSome_some, Option.getD_some]
      rw [drop_cons 0 hi]
      by_cases hj : i + 1 < a.length
      · have hy := okB_get hb hj
        simp (disch := omega) only [if_pos hj, wu]
        rw [p18i _ _ _ _ _ _ _ _ (by omega) (by omega), drop_cons 0 hj]
        have hn := nrm_bound (t := h + (a.getD i 0 * 256 + a.getD (i + 1) 0)) (by omega) (by omega)
        have := p83 M a hb hl k n (i + 2) (nrm (h + (a.getD i 0 * 256 + a.getD (i + 1) 0))) (by omega) (by omega) hn.1 hn.2
        simp only [Int.natCast_add, Int.cast_ofNat_Int] at this
        rw [this]
        rfl
      · simp (disch := omega) only [if_neg hj, wu, Int.add_zero]
        rw [p18i _ _ _ _ _ _ _ _ (by omega) (by omega), List.drop_eq_nil_of_le (show a.length ≤ i + 1 by omega)]
        have hn := nrm_bound (t := h + a.getD i 0 * 256) (by omega) (by omega)
        have := p83 M a hb hl k n (i + 2) (nrm (h + a.getD i 0 * 256)) (by omega) (by omega) hn.1 hn.2
        simp only [Int.natCast_add, Int.cast_ofNat_Int] at this
        rw [this, List.drop_eq_nil_of_le (show a.length ≤ i + 2 by omega)]
        rfl
    · simp (disch := omega) only [df, cond_false]
      rw [List.drop_eq_nil_of_le (by omega)]
      rfl

def m83 (a : List Int) : Option Int := if okB a = true ∧ a.length ≤ 1000000000000 then some (sumW a) else none
theorem sat83 : Sat prog cxT 83 (c83 m83) := s83 m84 sat84 m83 fun a t h => by
  unfold m83 at h
  split at h
  · rename_i hc
    cases h
    refine ⟨a.length + 2, ?_⟩
    unfold g83
    refine (p83 a.length a hc.1 hc.2 _ _ 0 0 (by omega) (by omega) (by omega) (by omega)).trans ?_
    have := sw_bound a 0 hc.1 (by omega) (by omega)
    simp (disch := omega) only [List.drop_zero, wi]
    rfl
  · cases h

/-! markByteS, heldByteS -/
def mkB (k : Int) (n : Nat) : List Int := (List.range n).map fun (i : Nat) => IntKind.wrap .u8 (k + (i : Int))
theorem mkB_len (k : Int) (n : Nat) : (mkB k n).length = n := by simp [mkB]
theorem mkB_get (k : Int) (n i : Nat) (h : i < n) : (mkB k n).getD i 0 = IntKind.wrap .u8 (k + (i : Int)) := by
  simp [mkB, List.getD, h]
def m33 (x : List Int × Int) : Option (Int × List Int) := if 0 ≤ x.2 ∧ x.2 ≤ 1000000000000 ∧ x.1.length ≤ 1000000000000 then some (x.2 + x.1.length, mkB x.2 x.1.length) else none
theorem p33 (L : Nat) (a b : List Int) (c k0 : Int) (h0 : 0 ≤ k0) (h1 : k0 ≤ 1000000000000) (hb : b.length ≤ 1000000000000) (k : List Int → Int → Option (Int × List Int)) : ∀ (n i : Nat) (o : List Int), o.length = b.length → i ≤ b.length → b.length < n + i → o.take i = (mkB k0 b.length).take i →
    l33_0 L a c n o (k0 + i) i k = k (mkB k0 b.length) (k0 + b.length)
  | 0, i, o, _, h3, h4, _ => by omega
  | n + 1, i, o, h2, h3, h4, h5 => by
    unfold l33_0
    by_cases hi : i < b.length
    · simp (disch := omega) only [dt, df, wi, cond_true, Bool.and_self, Int.toNat_natCast]
      have := p33 L a b c k0 h0 h1 hb k n (i + 1) (o.set i (IntKind.wrap .u8 (k0 + i))) (by rw [List.length_set]; exact h2) (by omega) (by omega) (by
        rw [List.take_add_one, List.take_add_one, List.take_set_of_le (Nat.le_refl _), h5]
        congr 1
        rw [List.getElem?_set_self (by omega)]
        have := mkB_get k0 b.length i hi
        have hl : i < (mkB k0 b.length).length := by rw [mkB_len]; exact hi
        simp only [List.getD, List.getElem?_eq_getElem hl, Option.getD_some] at this
        rw [List.getElem?_eq_getElem hl, this])
      simp only [Int.natCast_add, Int.cast_ofNat_Int] at this
      rw [show k0 + (i : Int) + 1 = k0 + ((i : Int) + 1) by omega]
      exact this
    · simp (disch := omega) only [df, cond_false]
      have hil : i = b.length := by omega
      have : o = mkB k0 b.length := by
        rw [hil] at h5
        rw [← h2, List.take_length, h2] at h5
        rw [h5]
        exact List.take_of_length_le (by rw [mkB_len]; exact Nat.le_refl _)
      rw [this, hil]
theorem sat33 : SatW prog cxT 33 (c33 m33).nres (c33 m33).n (c33 m33).F := s33 m33 fun x t h => by
  obtain ⟨a, k⟩ := x
  unfold m33 at h
  split at h
  · rename_i hc
    obtain ⟨h1, h2, h3⟩ := hc
    simp only at h1 h2 h3 h
    cases h
    refine ⟨a.length + 1, ?_⟩
    unfold g33
    have := p33 (a.length + 1) a a k k h1 h2 h3 (fun o k => some (k, o)) (a.length + 1) 0 a rfl (by omega) (by omega) rfl
    simpa using this
  · cases h

def m65 (x : List Int × Int) : Option Int := if 0 ≤ x.2 ∧ x.2 ≤ 1000000000000 ∧ x.1.length ≤ 1000000000000 ∧ x.1 = mkB x.2 x.1.length then some (x.2 + x.1.length) else none
theorem p65 (L : Nat) (a : List Int) (c k0 : Int) (h0 : 0 ≤ k0) (h1 : k0 ≤ 1000000000000) (hb : a.length ≤ 1000000000000) (ha : ∀ i, i < a.length → a.getD i 0 = IntKind.wrap .u8 (k0 + i)) (k : Int → Option Int) : ∀ (n i : Nat), i ≤ a.length → a.length < n + i →
    l65_0 L a c n (k0 + i) i k = k (k0 + a.length)
  | 0, i, h3, h4 => by omega
  | n + 1, i, h3, h4 => by
    unfold l65_0
    by_cases hi : i < a.length
    · simp (disch := omega) only [dt, df, wi, cond_true, Bool.and_self, Int.toNat_natCast]
      rw [bneF (ha i hi)]
      have := p65 L a c k0 h0 h1 hb ha k n (i + 1) (by omega) (by omega)
      simp only [Int.natCast_add, Int.cast_ofNat_Int] at this
      rw [show k0 + (i : Int) + 1 = k0 + ((i : Int) + 1) by omega]
      exact this
    · simp (disch := omega) only [df, cond_false]
      rw [show i = a.length by omega]
theorem sat65 : Sat prog cxT 65 (c65 m65) := s65 m65 fun x t h => by
  obtain ⟨a, k⟩ := x
  unfold m65 at h
  split at h
  · rename_i hc
    obtain ⟨h1, h2, h3, h4⟩ := hc
    simp only at h1 h2 h3 h4 h
    cases h
    refine ⟨a.length + 1, ?_⟩
    unfold g65
    have := p65 (a.length + 1) a k k h1 h2 h3 (fun i hi => by
      have e := mkB_get k a.length i hi
      rw [← h4] at e
      exact e) (fun k => some k) (a.length + 1) 0 (by omega) (by omega)
    simpa using this
  · cases h

/-! results of bytes -/
def m26 (x : (Int × List Int) × Int) : Option (Int × Int × List Int) := if 0 ≤ x.2 ∧ x.2 ≤ 1000000000000 ∧ x.1.2.length ≤ 1000000000000 then some (x.2 + x.1.2.length, x.1.1, mkB x.2 x.1.2.length) else none
theorem sat26 : SatW prog cxT 26 (c26 m26).nres (c26 m26).n (c26 m26).F := s26 m33 sat33 m26 fun x t h => by
  obtain ⟨⟨c, a⟩, k⟩ := x
  unfold m26 at h
  split at h
  · rename_i hc
    cases h
    refine ⟨0, ?_⟩
    have e : m33 (a, k) = some (k + a.length, mkB k a.length) := if_pos hc
    unfold g26
    simp only [e, Option.isSome_some, Option.getD_some, cond_true]
  · cases h
def m27 (x : (Int × List Int) × Int) : Option Int := m65 (x.1.2, x.2)
theorem sat27 : Sat prog cxT 27 (c27 m27) := s27 m65 sat65 m27 fun x t h => by
  obtain ⟨⟨c, a⟩, k⟩ := x
  have h : m65 (a, k) = some t := h
  refine ⟨0, ?_⟩
  unfold g27
  simp only [h, Option.isSome_some, Option.getD_some, cond_true]
  have : ¬ t < 0 := by
    unfold m65 at h
    split at h
    · rename_i hc
      cases h
      have := hc.1
      simp only at this ⊢
      omega
    · cases h
  rw [df this]
  rfl
def m24 (x : (Int × List Int) × Int × List Int) : Option Bool := if x.1.2.length ≤ 1000000000000 ∧ x.2.2.length ≤ 1000000000000 then some (decide (x.1 = x.2)) else none
theorem sat24 : Sat prog cxT 24 (c24 m24) := s24 m32 sat32 m24 fun x t h => by
  obtain ⟨⟨c, a⟩, d, b⟩ := x
  unfold m24 at h
  split at h
  · rename_i hc
    cases h
    refine ⟨0, ?_⟩
    unfold g24
    have e : m32 (a, b) = some (decide (a = b)) := if_pos hc
    simp only [e, Option.isSome_some, Option.getD_some, cond_true]
    by_cases h1 : c = d
    · rw [bneF h1]
      by_cases h2 : a = b <;> simp [h1, h2]
    · rw [bneT h1]
      simp [h1]
  · cases h

/-! numbers into bytes -/
def numB (n : Int) (z : Nat) : List Int := (List.range z).map fun i => IntKind.wrap .u8 (Int.fdiv n ((2 : Int) ^ (8 * (z - 1 - i))))
theorem numB_len (n : Int) (z : Nat) : (numB n z).length = z := by simp [numB]
theorem six {z : Int} (h : 1 ≤ z ∧ z ≤ 6) : z = 1 ∨ z = 2 ∨ z = 3 ∨ z = 4 ∨ z = 5 ∨ z = 6 := by omega
def m64 (x : Int × Int) : Option (List Int) := if 1 ≤ x.2 ∧ x.2 ≤ 6 then some (numB x.1 x.2.toNat) else none
theorem sat64 : Sat prog cxT 64 (c64 m64) := s64 m64 fun x t h => by
  obtain ⟨n, z⟩ := x
  unfold m64 at h
  split at h
  · rename_i hc
    cases h
    refine ⟨8, ?_⟩
    rcases six hc with h | h | h | h | h | h <;> simp only at h <;> subst h <;> kernel_rfl
  · cases h
def m79 (x : Int × Int) : Option (List Int) := if 1 ≤ x.2 ∧ x.2 ≤ 6 then some (numB x.1 x.2.toNat) else none
theorem sat79 : Sat prog cxT 79 (c79 m79) := s79 m79 fun x t h => by
  obtain ⟨n, z⟩ := x
  unfold m79 at h
  split at h
  · rename_i hc
    cases h
    refine ⟨8, ?_⟩
    rcases six hc with h | h | h | h | h | h <;> simp only at h <;> subst h <;> kernel_rfl
  · cases h
/-! joinPieces -/
def m54 (x : List (List Int)) : Option (List Int) := if x.length ≤ 1000000 ∧ x.flatten.length ≤ 1000000000 then some x.flatten else none
theorem p54 (L : Nat) (a : List (List Int)) (ha : a.length ≤ 1000000) (k : List Int → Option (List Int)) : ∀ (n i : Nat) (o : List Int), i ≤ a.length → a.length < n + i → (o ++ (a.drop i).flatten).length ≤ 1000000000 →
    l54_0 L a n o i k = k (o ++ (a.drop i).flatten)
  | 0, i, o, h2, h3, _ => by omega
  | n + 1, i, o, h2, h3, h4 => by
    unfold l54_0
    by_cases hi : i < a.length
    · rw [drop_cons [] hi, List.flatten_cons] at h4
      simp only [List.length_append] at h4
      simp (disch := omega) only [dt, df, wi, cond_true, Bool.and_self, Int.toNat_natCast]
      have := p54 L a ha k n (i + 1) (o ++ a.getD i []) (by omega) (by omega) (by simp only [List.length_append]; omega)
      simp only [Int.natCast_add, Int.cast_ofNat_Int] at this
      rw [this, drop_cons [] hi, List.flatten_cons, List.append_assoc]
    · simp (disch := omega) only [df, cond_false]
      rw [List.drop_eq_nil_of_le (by omega)]
      simp
theorem sat54 : Sat prog cxT 54 (c54 m54) := s54 m54 fun x t h => by
  unfold m54 at h
  split at h
  · rename_i hc
    cases h
    refine ⟨x.length + 1, ?_⟩
    unfold g54
    have := p54 (x.length + 1) x hc.1 some (x.length + 1) 0 [] (by omega) (by omega) (by simpa using hc.2)
    simpa using this
  · cases h

end Go.Proofs.Try
