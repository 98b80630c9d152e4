/- A part of the proof of FnExactAddressText: LdFa, LdFb. -/
import Derived.Test.YtfibmmgemhdebaaDoorLdBase
set_option maxHeartbeats 0
set_option maxRecDepth 100000
set_option linter.unusedVariables false
set_option linter.unusedSimpArgs false
namespace Go.Proofs.Tryd
open Go Go.VM Go.RowKit
/-! loop.example/g00222/spec.l2Address -/
def ev13 (m32 : (Int × Int × Int) → Option Bool) : Env cxT := { Kc := kcOf [(32, c32 m32)], Kw := kwOf [], lv := fun i => [], xv := fun i => none }
theorem i13 (m32 : (Int × Int × Int) → Option Bool) (L : Nat) (a0 : Int) : evF prog (ev13 m32) (loopN L) f13 (a13.enc a0) =
  tst (m32 (a0, ((0 : Int), (4294967295 : Int)))) false fun (q1 : Bool) => some (n13 q1) := by kernel_rfl
def g13 (m32 : (Int × Int × Int) → Option Bool) (L : Nat) (a0 : Int) : Option Bool :=
  tst (m32 (a0, ((0 : Int), (4294967295 : Int)))) false fun (q1 : Bool) => some q1
theorem e13 (m32 : (Int × Int × Int) → Option Bool) (L : Nat) (a0 : Int) : evF prog (ev13 m32) (loopN L) f13 (a13.enc a0) = (g13 m32 L a0).map n13 := by
  rw [i13]; simp only [g13, map_bif, map_tst, map_bnd, Option.map_some, Option.map_none]
theorem s13 (m32 : (Int × Int × Int) → Option Bool) (h32 : Sat prog cxT 32 (c32 m32)) (m : Int → Option Bool) (hm : ∀ (x : Int) t, m x = some t → ∃ L, g13 m32 L x = some t) : Sat prog cxT 13 (c13 m) :=
  sat_t cxT_ok cxT_pok (by rfl) (fn := f13) rfl a13 n13 dd13 m (ev13 m32) (kok_cons h32 kok_nil) kwok_nil (fun L x => g13 m32 L x) (fun L x => e13 m32 L x) hm hs13
/-! loop.example/g00222/impl.isAddress -/
def ev15 : Env cxT := { Kc := kcOf [], Kw := kwOf [], lv := fun i => [], xv := fun i => none }
theorem i15 (L : Nat) (a0 : Int) : evF prog ev15 (loopN L) f15 (a15.enc a0) =
  bif (decide (a0 ≥ (0 : Int))) then some (n15 (decide (a0 ≤ (4294967295 : Int))))
  else some (n15 Bool.false) := by kernel_rfl
def g15 (L : Nat) (a0 : Int) : Option Bool :=
  bif (decide (a0 ≥ (0 : Int))) then some (decide (a0 ≤ (4294967295 : Int)))
  else some Bool.false
theorem e15 (L : Nat) (a0 : Int) : evF prog ev15 (loopN L) f15 (a15.enc a0) = (g15 L a0).map n15 := by
  rw [i15]; simp only [g15, map_bif, map_tst, map_bnd, Option.map_some, Option.map_none]
theorem s15 (m : Int → Option Bool) (hm : ∀ (x : Int) t, m x = some t → ∃ L, g15 L x = some t) : Sat prog cxT 15 (c15 m) :=
  sat_t cxT_ok cxT_pok (by rfl) (fn := f15) rfl a15 n15 dd15 m ev15 kok_nil kwok_nil (fun L x => g15 L x) (fun L x => e15 L x) hm hs15
/-! loop.example/g00222/impl.numberBytes -/
def ev16 : Env cxT := { Kc := kcOf [], Kw := kwOf [], lv := fun i => if i = 0 then [(0, []), (5, [some 5]), (11, []), (12, [])] else [], xv := fun i => if i = 0 then some [(5, [some 5])] else none }
def S16_0 (a0 : Int) (a1 : Int) (v0_5 : (List Int)) (v0_12 : Int) : St cxT.ty := { slots := [(.inl (.inl (lv (.int .u64 a0)))), junk, junk, junk, junk, (.inl (.inl (ls { own := 1, nm := 320, e := 5, o := true, xs := v0_5 }))), junk, junk, junk, junk, junk, (.inl (.inl (lv (.int .i64 (Nat.cast (List.length (List.replicate (Int.toNat a1) (0 : Int))) : Int))))), (.inl (.inl (lv (.int .i64 v0_12))))] ++ List.replicate 18 junk, D := [], F := [], ctr := 1 }
def X16_0 (a0 : Int) (a1 : Int) (w0_5 : (List Int)) : St cxT.ty := { slots := [junk, junk, junk, junk, junk, (.inl (.inl (ls { own := 1, nm := 320, e := 5, o := true, xs := w0_5 })))] ++ List.replicate 25 junk, D := [], F := [], ctr := 1 }
theorem i16 (L : Nat) (a0 : Int) (a1 : Int) : evF prog ev16 (loopN L) f16 (a16.enc (a0, a1)) =
  bif (((decide ((0 : Int) ≤ a1)) && (decide (a1 ≤ a1))) && (decide (a1 ≤ (1000000000 : Int)))) then headF prog ev16 L f16 0 [1, 1, 0, 1, 0, 0] (outK (outV prog f16) (topK prog ev16 L f16 [1, 1, 0, 1] (outV prog f16)).n (topK prog ev16 L f16 [1, 1, 0, 1] (outV prog f16)).x) L (S16_0 a0 a1 (List.replicate (Int.toNat a1) (0 : Int)) (0 : Int))
  else none := by kernel_rfl
theorem r16_0 (L : Nat) (a0 : Int) (a1 : Int) (k : St cxT.ty → Option (V cxT.ty)) (xk : Nat → St cxT.ty → Option (V cxT.ty)) (g : St cxT.ty → Option (V cxT.ty)) (v0_5 : (List Int)) (v0_12 : Int) : roundF prog ev16 L f16 0 [1, 1, 0, 1, 0, 0] (outK (outV prog f16) k xk) g (S16_0 a0 a1 v0_5 v0_12) =
  bif (decide (v0_12 < (Nat.cast (List.length (List.replicate (Int.toNat a1) (0 : Int))) : Int))) then bif (decide ((Go.IntKind.wrap Go.IntKind.u64 ((8 : Int) * (Go.IntKind.wrap Go.IntKind.u64 (Go.IntKind.wrap Go.IntKind.i64 ((Go.IntKind.wrap Go.IntKind.i64 ((Nat.cast (List.length v0_5) : Int) - (1 : Int))) - v0_12))))) < (0 : Int))) then none
    else bif ((decide ((0 : Int) ≤ v0_12)) && (decide (v0_12 < (Nat.cast (List.length v0_5) : Int)))) then g (S16_0 a0 a1 (List.set v0_5 (Int.toNat v0_12) (Go.IntKind.wrap Go.IntKind.u8 (Int.fdiv a0 ((2 : Int) ^ (min (Int.toNat (Go.IntKind.wrap Go.IntKind.u64 ((8 : Int) * (Go.IntKind.wrap Go.IntKind.u64 (Go.IntKind.wrap Go.IntKind.i64 ((Go.IntKind.wrap Go.IntKind.i64 ((Nat.cast (List.length v0_5) : Int) - (1 : Int))) - v0_12)))))) (Go.IntKind.bits Go.IntKind.u64)))))) (Go.IntKind.wrap Go.IntKind.i64 (v0_12 + (1 : Int))))
    else none
  else k (X16_0 a0 a1 v0_5) := by kernel_rfl
theorem t16_0 (L : Nat) (a0 : Int) (a1 : Int) (w0_5 : (List Int)) : (topK prog ev16 L f16 [1, 1, 0, 1] (outV prog f16)).n (X16_0 a0 a1 w0_5) =
  some (n16 w0_5) := by kernel_rfl
def l16_0 (L : Nat) (a0 : Int) (a1 : Int) : Nat → (List Int) → Int → ((List Int) → Option (List Int)) → Option (List Int)
  | 0, _, _, _ => none
  | n + 1, v0_5, v0_12, k =>
    bif (decide (v0_12 < (Nat.cast (List.length (List.replicate (Int.toNat a1) (0 : Int))) : Int))) then bif (decide ((Go.IntKind.wrap Go.IntKind.u64 ((8 : Int) * (Go.IntKind.wrap Go.IntKind.u64 (Go.IntKind.wrap Go.IntKind.i64 ((Go.IntKind.wrap Go.IntKind.i64 ((Nat.cast (List.length v0_5) : Int) - (1 : Int))) - v0_12))))) < (0 : Int))) then none
      else bif ((decide ((0 : Int) ≤ v0_12)) && (decide (v0_12 < (Nat.cast (List.length v0_5) : Int)))) then l16_0 L a0 a1 n (List.set v0_5 (Int.toNat v0_12) (Go.IntKind.wrap Go.IntKind.u8 (Int.fdiv a0 ((2 : Int) ^ (min (Int.toNat (Go.IntKind.wrap Go.IntKind.u64 ((8 : Int) * (Go.IntKind.wrap Go.IntKind.u64 (Go.IntKind.wrap Go.IntKind.i64 ((Go.IntKind.wrap Go.IntKind.i64 ((Nat.cast (List.length v0_5) : Int) - (1 : Int))) - v0_12)))))) (Go.IntKind.bits Go.IntKind.u64)))))) (Go.IntKind.wrap Go.IntKind.i64 (v0_12 + (1 : Int))) k
      else none
    else k v0_5
theorem h16_0 (L : Nat) (a0 : Int) (a1 : Int) (k : St cxT.ty → Option (V cxT.ty)) (xk : Nat → St cxT.ty → Option (V cxT.ty)) (k' : (List Int) → Option (List Int)) (hk : ∀ (w0_5 : (List Int)), k (X16_0 a0 a1 w0_5) = (k' w0_5).map n16) : ∀ (n : Nat) (v0_5 : (List Int)) (v0_12 : Int), headF prog ev16 L f16 0 [1, 1, 0, 1, 0, 0] (outK (outV prog f16) k xk) n (S16_0 a0 a1 v0_5 v0_12) = (l16_0 L a0 a1 n v0_5 v0_12 k').map n16
  | 0, _, _ => rfl
  | n + 1, v0_5, v0_12 => by
    rw [headF_round, r16_0]
    have ih := h16_0 L a0 a1 k xk k' hk n
    simp only [l16_0, map_bif, map_tst, map_bnd, Option.map_some, Option.map_none, ih, hk]
def g16 (L : Nat) (a0 : Int) (a1 : Int) : Option (List Int) :=
  bif (((decide ((0 : Int) ≤ a1)) && (decide (a1 ≤ a1))) && (decide (a1 ≤ (1000000000 : Int)))) then l16_0 L a0 a1 L (List.replicate (Int.toNat a1) (0 : Int)) (0 : Int) (fun (w0_5 : (List Int)) => some w0_5)
  else none
theorem e16 (L : Nat) (a0 : Int) (a1 : Int) : evF prog ev16 (loopN L) f16 (a16.enc (a0, a1)) = (g16 L a0 a1).map n16 := by
  let K'0 : (List Int) → Option (List Int) := (fun (w0_5 : (List Int)) => some w0_5)
  have hin0 : ∀ (v0_5 : (List Int)) (v0_12 : Int), headF prog ev16 L f16 0 [1, 1, 0, 1, 0, 0] (outK (outV prog f16) (topK prog ev16 L f16 [1, 1, 0, 1] (outV prog f16)).n (topK prog ev16 L f16 [1, 1, 0, 1] (outV prog f16)).x) L (S16_0 a0 a1 v0_5 v0_12) = (l16_0 L a0 a1 L v0_5 v0_12 K'0).map n16 := fun v0_5 v0_12 => h16_0 L a0 a1 _ _ K'0 (fun w0_5 => by rw [t16_0]; simp only [K'0, map_bif, map_tst, map_bnd, Option.map_some, Option.map_none]) L v0_5 v0_12
  rw [i16]; simp only [g16, map_bif, map_tst, map_bnd, Option.map_some, Option.map_none, hin0, K'0]
theorem s16 (m : (Int × Int) → Option (List Int)) (hm : ∀ (x : (Int × Int)) t, m x = some t → ∃ L, g16 L x.1 x.2 = some t) : Sat prog cxT 16 (c16 m) :=
  sat_t cxT_ok cxT_pok (by rfl) (fn := f16) rfl a16 n16 dd16 m ev16 kok_nil kwok_nil (fun L x => g16 L x.1 x.2) (fun L x => e16 L x.1 x.2) hm hs16
/-! loop.example/g00222/spec.l1In -/
def ev32 : Env cxT := { Kc := kcOf [], Kw := kwOf [], lv := fun i => [], xv := fun i => none }
theorem i32 (L : Nat) (a0 : Int) (a1 : Int) (a2 : Int) : evF prog ev32 (loopN L) f32 (a32.enc (a0, a1, a2)) =
  bif (decide (a0 ≥ a1)) then some (n32 (decide (a0 ≤ a2)))
  else some (n32 Bool.false) := by kernel_rfl
def g32 (L : Nat) (a0 : Int) (a1 : Int) (a2 : Int) : Option Bool :=
  bif (decide (a0 ≥ a1)) then some (decide (a0 ≤ a2))
  else some Bool.false
theorem e32 (L : Nat) (a0 : Int) (a1 : Int) (a2 : Int) : evF prog ev32 (loopN L) f32 (a32.enc (a0, a1, a2)) = (g32 L a0 a1 a2).map n32 := by
  rw [i32]; simp only [g32, map_bif, map_tst, map_bnd, Option.map_some, Option.map_none]
theorem s32 (m : (Int × Int × Int) → Option Bool) (hm : ∀ (x : (Int × Int × Int)) t, m x = some t → ∃ L, g32 L x.1 x.2.1 x.2.2 = some t) : Sat prog cxT 32 (c32 m) :=
  sat_t cxT_ok cxT_pok (by rfl) (fn := f32) rfl a32 n32 dd32 m ev32 kok_nil kwok_nil (fun L x => g32 L x.1 x.2.1 x.2.2) (fun L x => e32 L x.1 x.2.1 x.2.2) hm hs32
/-! loop.example/g00222/spec.l1Bytes -/
def ev33 : Env cxT := { Kc := kcOf [], Kw := kwOf [], lv := fun i => if i = 0 then [(0, []), (5, [some 5]), (6, [])] else [], xv := fun i => if i = 0 then some [(5, [some 5])] else none }
def S33_0 (a0 : Int) (a1 : Int) (v0_5 : (List Int)) (v0_6 : Int) : St cxT.ty := { slots := [(.inl (.inl (lv (.int .i64 a0)))), junk, junk, junk, junk, (.inl (.inl (ls { own := 1, nm := 320, e := 5, o := true, xs := v0_5 }))), (.inl (.inl (lv (.int .i64 v0_6))))] ++ List.replicate 17 junk, D := [], F := [], ctr := 1 }
def X33_0 (a0 : Int) (a1 : Int) (w0_5 : (List Int)) : St cxT.ty := { slots := [junk, junk, junk, junk, junk, (.inl (.inl (ls { own := 1, nm := 320, e := 5, o := true, xs := w0_5 })))] ++ List.replicate 18 junk, D := [], F := [], ctr := 1 }
theorem i33 (L : Nat) (a0 : Int) (a1 : Int) : evF prog ev33 (loopN L) f33 (a33.enc (a0, a1)) =
  headF prog ev33 L f33 0 [1, 1, 0, 1, 0, 0] (outK (outV prog f33) (topK prog ev33 L f33 [1, 1, 0, 1] (outV prog f33)).n (topK prog ev33 L f33 [1, 1, 0, 1] (outV prog f33)).x) L (S33_0 a0 a1 ([] : List (Int)) (Go.IntKind.wrap Go.IntKind.i64 (a1 - (1 : Int)))) := by kernel_rfl
theorem r33_0 (L : Nat) (a0 : Int) (a1 : Int) (k : St cxT.ty → Option (V cxT.ty)) (xk : Nat → St cxT.ty → Option (V cxT.ty)) (g : St cxT.ty → Option (V cxT.ty)) (v0_5 : (List Int)) (v0_6 : Int) : roundF prog ev33 L f33 0 [1, 1, 0, 1, 0, 0] (outK (outV prog f33) k xk) g (S33_0 a0 a1 v0_5 v0_6) =
  bif (decide (v0_6 ≥ (0 : Int))) then bif (decide ((Go.IntKind.wrap Go.IntKind.u64 (Go.IntKind.wrap Go.IntKind.i64 ((8 : Int) * v0_6))) < (0 : Int))) then none
    else bif (decide (((List.length v0_5) + (List.length (List.cons (Go.IntKind.wrap Go.IntKind.u8 (Int.fdiv a0 ((2 : Int) ^ (min (Int.toNat (Go.IntKind.wrap Go.IntKind.u64 (Go.IntKind.wrap Go.IntKind.i64 ((8 : Int) * v0_6)))) (Go.IntKind.bits Go.IntKind.i64))))) ([] : List (Int))))) ≤ (1000000000 : Nat))) then g (S33_0 a0 a1 (v0_5 ++ (List.cons (Go.IntKind.wrap Go.IntKind.u8 (Int.fdiv a0 ((2 : Int) ^ (min (Int.toNat (Go.IntKind.wrap Go.IntKind.u64 (Go.IntKind.wrap Go.IntKind.i64 ((8 : Int) * v0_6)))) (Go.IntKind.bits Go.IntKind.i64))))) ([] : List (Int)))) (Go.IntKind.wrap Go.IntKind.i64 (v0_6 - (1 : Int))))
    else none
  else k (X33_0 a0 a1 v0_5) := by kernel_rfl
theorem t33_0 (L : Nat) (a0 : Int) (a1 : Int) (w0_5 : (List Int)) : (topK prog ev33 L f33 [1, 1, 0, 1] (outV prog f33)).n (X33_0 a0 a1 w0_5) =
  some (n33 w0_5) := by kernel_rfl
def l33_0 (L : Nat) (a0 : Int) (a1 : Int) : Nat → (List Int) → Int → ((List Int) → Option (List Int)) → Option (List Int)
  | 0, _, _, _ => none
  | n + 1, v0_5, v0_6, k =>
    bif (decide (v0_6 ≥ (0 : Int))) then bif (decide ((Go.IntKind.wrap Go.IntKind.u64 (Go.IntKind.wrap Go.IntKind.i64 ((8 : Int) * v0_6))) < (0 : Int))) then none
      else bif (decide (((List.length v0_5) + (List.length (List.cons (Go.IntKind.wrap Go.IntKind.u8 (Int.fdiv a0 ((2 : Int) ^ (min (Int.toNat (Go.IntKind.wrap Go.IntKind.u64 (Go.IntKind.wrap Go.IntKind.i64 ((8 : Int) * v0_6)))) (Go.IntKind.bits Go.IntKind.i64))))) ([] : List (Int))))) ≤ (1000000000 : Nat))) then l33_0 L a0 a1 n (v0_5 ++ (List.cons (Go.IntKind.wrap Go.IntKind.u8 (Int.fdiv a0 ((2 : Int) ^ (min (Int.toNat (Go.IntKind.wrap Go.IntKind.u64 (Go.IntKind.wrap Go.IntKind.i64 ((8 : Int) * v0_6)))) (Go.IntKind.bits Go.IntKind.i64))))) ([] : List (Int)))) (Go.IntKind.wrap Go.IntKind.i64 (v0_6 - (1 : Int))) k
      else none
    else k v0_5
theorem h33_0 (L : Nat) (a0 : Int) (a1 : Int) (k : St cxT.ty → Option (V cxT.ty)) (xk : Nat → St cxT.ty → Option (V cxT.ty)) (k' : (List Int) → Option (List Int)) (hk : ∀ (w0_5 : (List Int)), k (X33_0 a0 a1 w0_5) = (k' w0_5).map n33) : ∀ (n : Nat) (v0_5 : (List Int)) (v0_6 : Int), headF prog ev33 L f33 0 [1, 1, 0, 1, 0, 0] (outK (outV prog f33) k xk) n (S33_0 a0 a1 v0_5 v0_6) = (l33_0 L a0 a1 n v0_5 v0_6 k').map n33
  | 0, _, _ => rfl
  | n + 1, v0_5, v0_6 => by
    rw [headF_round, r33_0]
    have ih := h33_0 L a0 a1 k xk k' hk n
    simp only [l33_0, map_bif, map_tst, map_bnd, Option.map_some, Option.map_none, ih, hk]
def g33 (L : Nat) (a0 : Int) (a1 : Int) : Option (List Int) :=
  l33_0 L a0 a1 L ([] : List (Int)) (Go.IntKind.wrap Go.IntKind.i64 (a1 - (1 : Int))) (fun (w0_5 : (List Int)) => some w0_5)
theorem e33 (L : Nat) (a0 : Int) (a1 : Int) : evF prog ev33 (loopN L) f33 (a33.enc (a0, a1)) = (g33 L a0 a1).map n33 := by
  let K'0 : (List Int) → Option (List Int) := (fun (w0_5 : (List Int)) => some w0_5)
  have hin0 : ∀ (v0_5 : (List Int)) (v0_6 : Int), headF prog ev33 L f33 0 [1, 1, 0, 1, 0, 0] (outK (outV prog f33) (topK prog ev33 L f33 [1, 1, 0, 1] (outV prog f33)).n (topK prog ev33 L f33 [1, 1, 0, 1] (outV prog f33)).x) L (S33_0 a0 a1 v0_5 v0_6) = (l33_0 L a0 a1 L v0_5 v0_6 K'0).map n33 := fun v0_5 v0_6 => h33_0 L a0 a1 _ _ K'0 (fun w0_5 => by rw [t33_0]; simp only [K'0, map_bif, map_tst, map_bnd, Option.map_some, Option.map_none]) L v0_5 v0_6
  rw [i33]; simp only [g33, map_bif, map_tst, map_bnd, Option.map_some, Option.map_none, hin0, K'0]
theorem s33 (m : (Int × Int) → Option (List Int)) (hm : ∀ (x : (Int × Int)) t, m x = some t → ∃ L, g33 L x.1 x.2 = some t) : Sat prog cxT 33 (c33 m) :=
  sat_t cxT_ok cxT_pok (by rfl) (fn := f33) rfl a33 n33 dd33 m ev33 kok_nil kwok_nil (fun L x => g33 L x.1 x.2) (fun L x => e33 L x.1 x.2) hm hs33
end Go.Proofs.Tryd

set_option maxHeartbeats 0
set_option maxRecDepth 100000
set_option linter.unusedVariables false
set_option linter.unusedSimpArgs false
namespace Go.Proofs.Tryd
open Go Go.VM Go.RowKit
/-! loop.example/g00222/laws.FnExactAddressText -/
def ev3 (m5 : Int → Option (Int × ByteArray)) (m6 : Int → Option (Int × ByteArray)) (m7 : ((Int × ByteArray) × (Int × ByteArray)) → Option Bool) : Env cxT := { Kc := kcOf [(5, c5 m5), (6, c6 m6), (7, c7 m7)], Kw := kwOf [], lv := fun i => [], xv := fun i => none }
theorem i3 (m5 : Int → Option (Int × ByteArray)) (m6 : Int → Option (Int × ByteArray)) (m7 : ((Int × ByteArray) × (Int × ByteArray)) → Option Bool) (L : Nat) (a0 : Int) : evF prog (ev3 m5 m6 m7) (loopN L) f3 (a3.enc a0) =
  tst (m5 a0) ((0 : Int), ByteArray.empty) fun (q1 : (Int × ByteArray)) => tst (m6 a0) ((0 : Int), ByteArray.empty) fun (q2 : (Int × ByteArray)) => tst (m7 ((q2.1, q2.2), (q1.1, q1.2))) false fun (q3 : Bool) => bif (!q3) then some (n3 Bool.false)
        else some (n3 Bool.true) := by kernel_rfl
def g3 (m5 : Int → Option (Int × ByteArray)) (m6 : Int → Option (Int × ByteArray)) (m7 : ((Int × ByteArray) × (Int × ByteArray)) → Option Bool) (L : Nat) (a0 : Int) : Option Bool :=
  tst (m5 a0) ((0 : Int), ByteArray.empty) fun (q1 : (Int × ByteArray)) => tst (m6 a0) ((0 : Int), ByteArray.empty) fun (q2 : (Int × ByteArray)) => tst (m7 ((q2.1, q2.2), (q1.1, q1.2))) false fun (q3 : Bool) => bif (!q3) then some Bool.false
        else some Bool.true
theorem e3 (m5 : Int → Option (Int × ByteArray)) (m6 : Int → Option (Int × ByteArray)) (m7 : ((Int × ByteArray) × (Int × ByteArray)) → Option Bool) (L : Nat) (a0 : Int) : evF prog (ev3 m5 m6 m7) (loopN L) f3 (a3.enc a0) = (g3 m5 m6 m7 L a0).map n3 := by
  rw [i3]; simp only [g3, map_bif, map_tst, map_bnd, Option.map_some, Option.map_none]
theorem s3 (m5 : Int → Option (Int × ByteArray)) (m6 : Int → Option (Int × ByteArray)) (m7 : ((Int × ByteArray) × (Int × ByteArray)) → Option Bool) (h5 : Sat prog cxT 5 (c5 m5)) (h6 : Sat prog cxT 6 (c6 m6)) (h7 : Sat prog cxT 7 (c7 m7)) (m : Int → Option Bool) (hm : ∀ (x : Int) t, m x = some t → ∃ L, g3 m5 m6 m7 L x = some t) : Sat prog cxT 3 (c3 m) :=
  sat_t cxT_ok cxT_pok (by rfl) (fn := f3) rfl a3 n3 dd3 m (ev3 m5 m6 m7) (kok_cons h5 (kok_cons h6 (kok_cons h7 kok_nil))) kwok_nil (fun L x => g3 m5 m6 m7 L x) (fun L x => e3 m5 m6 m7 L x) hm hs3
/-! loop.example/g00222/spec.AddressText -/
def ev5 (m13 : Int → Option Bool) (m14 : Int → Option ByteArray) : Env cxT := { Kc := kcOf [(13, c13 m13), (14, c14 m14)], Kw := kwOf [], lv := fun i => [], xv := fun i => none }
theorem i5 (m13 : Int → Option Bool) (m14 : Int → Option ByteArray) (L : Nat) (a0 : Int) : evF prog (ev5 m13 m14) (loopN L) f5 (a5.enc a0) =
  tst (m13 a0) false fun (q1 : Bool) => bif (!q1) then some (n5 ((3 : Int), (ByteArray.mk (List.toArray ([] : List (UInt8))))))
    else tst (m14 a0) ByteArray.empty fun (q2 : ByteArray) => some (n5 ((0 : Int), q2)) := by kernel_rfl
def g5 (m13 : Int → Option Bool) (m14 : Int → Option ByteArray) (L : Nat) (a0 : Int) : Option (Int × ByteArray) :=
  tst (m13 a0) false fun (q1 : Bool) => bif (!q1) then some ((3 : Int), (ByteArray.mk (List.toArray ([] : List (UInt8)))))
    else tst (m14 a0) ByteArray.empty fun (q2 : ByteArray) => some ((0 : Int), q2)
theorem e5 (m13 : Int → Option Bool) (m14 : Int → Option ByteArray) (L : Nat) (a0 : Int) : evF prog (ev5 m13 m14) (loopN L) f5 (a5.enc a0) = (g5 m13 m14 L a0).map n5 := by
  rw [i5]; simp only [g5, map_bif, map_tst, map_bnd, Option.map_some, Option.map_none]
theorem s5 (m13 : Int → Option Bool) (m14 : Int → Option ByteArray) (h13 : Sat prog cxT 13 (c13 m13)) (h14 : Sat prog cxT 14 (c14 m14)) (m : Int → Option (Int × ByteArray)) (hm : ∀ (x : Int) t, m x = some t → ∃ L, g5 m13 m14 L x = some t) : Sat prog cxT 5 (c5 m) :=
  sat_t cxT_ok cxT_pok (by rfl) (fn := f5) rfl a5 n5 dd5 m (ev5 m13 m14) (kok_cons h13 (kok_cons h14 kok_nil)) kwok_nil (fun L x => g5 m13 m14 L x) (fun L x => e5 m13 m14 L x) hm hs5
/-! loop.example/g00222/laws.eqTextResult -/
def ev7 : Env cxT := { Kc := kcOf [], Kw := kwOf [], lv := fun i => [], xv := fun i => none }
theorem i7 (L : Nat) (a0_0 : Int) (a0_1 : ByteArray) (a1_0 : Int) (a1_1 : ByteArray) : evF prog ev7 (loopN L) f7 (a7.enc ((a0_0, a0_1), (a1_0, a1_1))) =
  bif (a0_0 != a1_0) then some (n7 Bool.false)
  else bif (!((ByteArray.toList a0_1) == (ByteArray.toList a1_1))) then some (n7 Bool.false)
  else some (n7 Bool.true) := by kernel_rfl
def g7 (L : Nat) (a0_0 : Int) (a0_1 : ByteArray) (a1_0 : Int) (a1_1 : ByteArray) : Option Bool :=
  bif (a0_0 != a1_0) then some Bool.false
  else bif (!((ByteArray.toList a0_1) == (ByteArray.toList a1_1))) then some Bool.false
  else some Bool.true
theorem e7 (L : Nat) (a0_0 : Int) (a0_1 : ByteArray) (a1_0 : Int) (a1_1 : ByteArray) : evF prog ev7 (loopN L) f7 (a7.enc ((a0_0, a0_1), (a1_0, a1_1))) = (g7 L a0_0 a0_1 a1_0 a1_1).map n7 := by
  rw [i7]; simp only [g7, map_bif, map_tst, map_bnd, Option.map_some, Option.map_none]
theorem s7 (m : ((Int × ByteArray) × (Int × ByteArray)) → Option Bool) (hm : ∀ (x : ((Int × ByteArray) × (Int × ByteArray))) t, m x = some t → ∃ L, g7 L x.1.1 x.1.2 x.2.1 x.2.2 = some t) : Sat prog cxT 7 (c7 m) :=
  sat_t cxT_ok cxT_pok (by rfl) (fn := f7) rfl a7 n7 dd7 m ev7 kok_nil kwok_nil (fun L x => g7 L x.1.1 x.1.2 x.2.1 x.2.2) (fun L x => e7 L x.1.1 x.1.2 x.2.1 x.2.2) hm hs7
/-! loop.example/g00222/spec.l2Text -/
def ev14 (m33 : (Int × Int) → Option (List Int)) (m34 : Int → Option ByteArray) : Env cxT := { Kc := kcOf [(33, c33 m33), (34, c34 m34)], Kw := kwOf [], lv := fun i => if i = 0 then [(3, [some 5]), (4, []), (5, [])] else [], xv := fun i => if i = 0 then some [(4, [])] else none }
def S14_0 (a0 : Int) (v0_3 : (List Int)) (v0_4 : ByteArray) (v0_5 : Int) : St cxT.ty := { slots := [junk, junk, junk, (.inl (.inl (ls { own := 1, nm := 192, e := 5, o := true, xs := v0_3 }))), (.inl (.inl (lv (.string v0_4)))), (.inl (.inl (lv (.int .i64 v0_5))))] ++ List.replicate 21 junk, D := [], F := [], ctr := 1 }
def X14_0 (a0 : Int) (w0_4 : ByteArray) : St cxT.ty := { slots := [junk, junk, junk, junk, (.inl (.inl (lv (.string w0_4))))] ++ List.replicate 22 junk, D := [], F := [], ctr := 1 }
theorem i14 (m33 : (Int × Int) → Option (List Int)) (m34 : Int → Option ByteArray) (L : Nat) (a0 : Int) : evF prog (ev14 m33 m34) (loopN L) f14 (a14.enc a0) =
  tst (m33 (a0, (4 : Int))) [] fun (q1 : (List Int)) => bif ((decide ((0 : Int) ≤ (0 : Int))) && (decide ((0 : Int) < (Nat.cast (List.length q1) : Int)))) then tst (m34 (Go.IntKind.wrap Go.IntKind.i64 (List.getD q1 (0 : Nat) (0 : Int)))) ByteArray.empty fun (q3 : ByteArray) => headF prog (ev14 m33 m34) L f14 0 [1, 1, 1, 0, 1, 0, 0] (outK (outV prog f14) (topK prog (ev14 m33 m34) L f14 [1, 1, 1, 0, 1] (outV prog f14)).n (topK prog (ev14 m33 m34) L f14 [1, 1, 1, 0, 1] (outV prog f14)).x) L (S14_0 a0 q1 q3 (1 : Int))
    else none := by kernel_rfl
theorem r14_0 (m33 : (Int × Int) → Option (List Int)) (m34 : Int → Option ByteArray) (L : Nat) (a0 : Int) (k : St cxT.ty → Option (V cxT.ty)) (xk : Nat → St cxT.ty → Option (V cxT.ty)) (g : St cxT.ty → Option (V cxT.ty)) (v0_3 : (List Int)) (v0_4 : ByteArray) (v0_5 : Int) : roundF prog (ev14 m33 m34) L f14 0 [1, 1, 1, 0, 1, 0, 0] (outK (outV prog f14) k xk) g (S14_0 a0 v0_3 v0_4 v0_5) =
  bif (decide (v0_5 < (4 : Int))) then bif (decide (((ByteArray.size v0_4) + (ByteArray.size (ByteArray.mk (List.toArray (List.cons (46 : UInt8) ([] : List (UInt8))))))) ≤ (1000000000 : Nat))) then bif ((decide ((0 : Int) ≤ v0_5)) && (decide (v0_5 < (Nat.cast (List.length v0_3) : Int)))) then tst (m34 (Go.IntKind.wrap Go.IntKind.i64 (List.getD v0_3 (Int.toNat v0_5) (0 : Int)))) ByteArray.empty fun (q4 : ByteArray) => bif (decide (((ByteArray.size (v0_4 ++ (ByteArray.mk (List.toArray (List.cons (46 : UInt8) ([] : List (UInt8))))))) + (ByteArray.size q4)) ≤ (1000000000 : Nat))) then g (S14_0 a0 v0_3 ((v0_4 ++ (ByteArray.mk (List.toArray (List.cons (46 : UInt8) ([] : List (UInt8)))))) ++ q4) (Go.IntKind.wrap Go.IntKind.i64 (v0_5 + (1 : Int))))
          else none
      else none
    else none
  else k (X14_0 a0 v0_4) := by kernel_rfl
theorem t14_0 (m33 : (Int × Int) → Option (List Int)) (m34 : Int → Option ByteArray) (L : Nat) (a0 : Int) (w0_4 : ByteArray) : (topK prog (ev14 m33 m34) L f14 [1, 1, 1, 0, 1] (outV prog f14)).n (X14_0 a0 w0_4) =
  some (n14 w0_4) := by kernel_rfl
def l14_0 (m33 : (Int × Int) → Option (List Int)) (m34 : Int → Option ByteArray) (L : Nat) (a0 : Int) : Nat → (List Int) → ByteArray → Int → (ByteArray → Option ByteArray) → Option ByteArray
  | 0, _, _, _, _ => none
  | n + 1, v0_3, v0_4, v0_5, k =>
    bif (decide (v0_5 < (4 : Int))) then bif (decide (((ByteArray.size v0_4) + (ByteArray.size (ByteArray.mk (List.toArray (List.cons (46 : UInt8) ([] : List (UInt8))))))) ≤ (1000000000 : Nat))) then bif ((decide ((0 : Int) ≤ v0_5)) && (decide (v0_5 < (Nat.cast (List.length v0_3) : Int)))) then tst (m34 (Go.IntKind.wrap Go.IntKind.i64 (List.getD v0_3 (Int.toNat v0_5) (0 : Int)))) ByteArray.empty fun (q5 : ByteArray) => bif (decide (((ByteArray.size (v0_4 ++ (ByteArray.mk (List.toArray (List.cons (46 : UInt8) ([] : List (UInt8))))))) + (ByteArray.size q5)) ≤ (1000000000 : Nat))) then l14_0 m33 m34 L a0 n v0_3 ((v0_4 ++ (ByteArray.mk (List.toArray (List.cons (46 : UInt8) ([] : List (UInt8)))))) ++ q5) (Go.IntKind.wrap Go.IntKind.i64 (v0_5 + (1 : Int))) k
            else none
        else none
      else none
    else k v0_4
theorem h14_0 (m33 : (Int × Int) → Option (List Int)) (m34 : Int → Option ByteArray) (L : Nat) (a0 : Int) (k : St cxT.ty → Option (V cxT.ty)) (xk : Nat → St cxT.ty → Option (V cxT.ty)) (k' : ByteArray → Option ByteArray) (hk : ∀ (w0_4 : ByteArray), k (X14_0 a0 w0_4) = (k' w0_4).map n14) : ∀ (n : Nat) (v0_3 : (List Int)) (v0_4 : ByteArray) (v0_5 : Int), headF prog (ev14 m33 m34) L f14 0 [1, 1, 1, 0, 1, 0, 0] (outK (outV prog f14) k xk) n (S14_0 a0 v0_3 v0_4 v0_5) = (l14_0 m33 m34 L a0 n v0_3 v0_4 v0_5 k').map n14
  | 0, _, _, _ => rfl
  | n + 1, v0_3, v0_4, v0_5 => by
    rw [headF_round, r14_0]
    have ih := h14_0 m33 m34 L a0 k xk k' hk n
    simp only [l14_0, map_bif, map_tst, map_bnd, Option.map_some, Option.map_none, ih, hk]
def g14 (m33 : (Int × Int) → Option (List Int)) (m34 : Int → Option ByteArray) (L : Nat) (a0 : Int) : Option ByteArray :=
  tst (m33 (a0, (4 : Int))) [] fun (q1 : (List Int)) => bif ((decide ((0 : Int) ≤ (0 : Int))) && (decide ((0 : Int) < (Nat.cast (List.length q1) : Int)))) then tst (m34 (Go.IntKind.wrap Go.IntKind.i64 (List.getD q1 (0 : Nat) (0 : Int)))) ByteArray.empty fun (q3 : ByteArray) => l14_0 m33 m34 L a0 L q1 q3 (1 : Int) (fun (w0_4 : ByteArray) => some w0_4)
    else none
theorem e14 (m33 : (Int × Int) → Option (List Int)) (m34 : Int → Option ByteArray) (L : Nat) (a0 : Int) : evF prog (ev14 m33 m34) (loopN L) f14 (a14.enc a0) = (g14 m33 m34 L a0).map n14 := by
  let K'0 : ByteArray → Option ByteArray := (fun (w0_4 : ByteArray) => some w0_4)
  have hin0 : ∀ (v0_3 : (List Int)) (v0_4 : ByteArray) (v0_5 : Int), headF prog (ev14 m33 m34) L f14 0 [1, 1, 1, 0, 1, 0, 0] (outK (outV prog f14) (topK prog (ev14 m33 m34) L f14 [1, 1, 1, 0, 1] (outV prog f14)).n (topK prog (ev14 m33 m34) L f14 [1, 1, 1, 0, 1] (outV prog f14)).x) L (S14_0 a0 v0_3 v0_4 v0_5) = (l14_0 m33 m34 L a0 L v0_3 v0_4 v0_5 K'0).map n14 := fun v0_3 v0_4 v0_5 => h14_0 m33 m34 L a0 _ _ K'0 (fun w0_4 => by rw [t14_0]; simp only [K'0, map_bif, map_tst, map_bnd, Option.map_some, Option.map_none]) L v0_3 v0_4 v0_5
  rw [i14]; simp only [g14, map_bif, map_tst, map_bnd, Option.map_some, Option.map_none, hin0, K'0]
theorem s14 (m33 : (Int × Int) → Option (List Int)) (m34 : Int → Option ByteArray) (h33 : Sat prog cxT 33 (c33 m33)) (h34 : Sat prog cxT 34 (c34 m34)) (m : Int → Option ByteArray) (hm : ∀ (x : Int) t, m x = some t → ∃ L, g14 m33 m34 L x = some t) : Sat prog cxT 14 (c14 m) :=
  sat_t cxT_ok cxT_pok (by rfl) (fn := f14) rfl a14 n14 dd14 m (ev14 m33 m34) (kok_cons h33 (kok_cons h34 kok_nil)) kwok_nil (fun L x => g14 m33 m34 L x) (fun L x => e14 m33 m34 L x) hm hs14
/-! loop.example/g00222/spec.l2Digits -/
def ev34 (m34 : Int → Option ByteArray) : Env cxT := { Kc := kcOf [(34, c34 m34)], Kw := kwOf [], lv := fun i => [], xv := fun i => none }
theorem i34 (m34 : Int → Option ByteArray) (L : Nat) (a0 : Int) : evF prog (ev34 m34) (loopN L) f34 (a34.enc a0) =
  bif (decide (a0 < (10 : Int))) then some (n34 (strV (flatVals cxT (5 : Nat) (List.cons (Go.IntKind.wrap Go.IntKind.u8 (Go.IntKind.wrap Go.IntKind.i64 ((48 : Int) + a0))) ([] : List (Int))))))
  else tst (m34 (Go.IntKind.wrap Go.IntKind.i64 (Int.tdiv a0 (10 : Int)))) ByteArray.empty fun (q1 : ByteArray) => bif (decide (((ByteArray.size q1) + (ByteArray.size (strV (flatVals cxT (5 : Nat) (List.cons (Go.IntKind.wrap Go.IntKind.u8 (Go.IntKind.wrap Go.IntKind.i64 ((48 : Int) + (Int.tmod a0 (10 : Int))))) ([] : List (Int))))))) ≤ (1000000000 : Nat))) then some (n34 (q1 ++ (strV (flatVals cxT (5 : Nat) (List.cons (Go.IntKind.wrap Go.IntKind.u8 (Go.IntKind.wrap Go.IntKind.i64 ((48 : Int) + (Int.tmod a0 (10 : Int))))) ([] : List (Int)))))))
    else none := by kernel_rfl
def g34 (m34 : Int → Option ByteArray) (L : Nat) (a0 : Int) : Option ByteArray :=
  bif (decide (a0 < (10 : Int))) then some (strV (flatVals cxT (5 : Nat) (List.cons (Go.IntKind.wrap Go.IntKind.u8 (Go.IntKind.wrap Go.IntKind.i64 ((48 : Int) + a0))) ([] : List (Int)))))
  else tst (m34 (Go.IntKind.wrap Go.IntKind.i64 (Int.tdiv a0 (10 : Int)))) ByteArray.empty fun (q1 : ByteArray) => bif (decide (((ByteArray.size q1) + (ByteArray.size (strV (flatVals cxT (5 : Nat) (List.cons (Go.IntKind.wrap Go.IntKind.u8 (Go.IntKind.wrap Go.IntKind.i64 ((48 : Int) + (Int.tmod a0 (10 : Int))))) ([] : List (Int))))))) ≤ (1000000000 : Nat))) then some (q1 ++ (strV (flatVals cxT (5 : Nat) (List.cons (Go.IntKind.wrap Go.IntKind.u8 (Go.IntKind.wrap Go.IntKind.i64 ((48 : Int) + (Int.tmod a0 (10 : Int))))) ([] : List (Int))))))
    else none
theorem e34 (m34 : Int → Option ByteArray) (L : Nat) (a0 : Int) : evF prog (ev34 m34) (loopN L) f34 (a34.enc a0) = (g34 m34 L a0).map n34 := by
  rw [i34]; simp only [g34, map_bif, map_tst, map_bnd, Option.map_some, Option.map_none]
theorem s34 (m34 : Int → Option ByteArray) (h34 : Sat prog cxT 34 (c34 m34)) (m : Int → Option ByteArray) (hm : ∀ (x : Int) t, m x = some t → ∃ L, g34 m34 L x = some t) : Sat prog cxT 34 (c34 m) :=
  sat_t cxT_ok cxT_pok (by rfl) (fn := f34) rfl a34 n34 dd34 m (ev34 m34) (kok_cons h34 kok_nil) kwok_nil (fun L x => g34 m34 L x) (fun L x => e34 m34 L x) hm hs34
end Go.Proofs.Tryd
