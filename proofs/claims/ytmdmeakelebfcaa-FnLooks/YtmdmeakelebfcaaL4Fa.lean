/- A part of the proof of FnLooks: L4Fa, L4Fb, L4Fc, L4Fd, L4Fe, L4Ff, L4Fg, L4Fh. -/
import Derived.Test.YtmdmeakelebfcaaL4Base
set_option maxHeartbeats 0
set_option linter.unusedVariables false
set_option linter.unusedSimpArgs false
namespace Go.Proofs.Try
open Go Go.VM Go.RowKit
/-! loop.example/g00222/impl.isWeight -/
def ev57 : Env cxT := { Kc := kcOf [], Kw := kwOf [], lv := fun i => [], xv := fun i => none }
theorem i57 (L : Nat) (a0 : Int) : evF prog ev57 (loopN L) f57 (a57.enc a0) =
  bif (decide (a0 ≥ (0 : Int))) then some (n57 (decide (a0 ≤ (9 : Int))))
  else some (n57 Bool.false) := by kernel_rfl
def g57 (L : Nat) (a0 : Int) : Option Bool :=
  bif (decide (a0 ≥ (0 : Int))) then some (decide (a0 ≤ (9 : Int)))
  else some Bool.false
theorem e57 (L : Nat) (a0 : Int) : evF prog ev57 (loopN L) f57 (a57.enc a0) = (g57 L a0).map n57 := by
  rw [i57]; simp only [g57, map_bif, map_tst, Option.map_some, Option.map_none]
theorem s57 (m : Int → Option Bool) (hm : ∀ (x : Int) t, m x = some t → ∃ L, g57 L x = some t) : Sat prog cxT 57 (c57 m) :=
  sat_t cxT_ok cxT_pok (by rfl) (fn := f57) rfl a57 n57 dd57 m ev57 kok_nil kwok_nil (fun L x => g57 L x) (fun L x => e57 L x) hm hs57
/-! loop.example/g00222/impl.isName -/
def ev56 : Env cxT := { Kc := kcOf [], Kw := kwOf [], lv := fun i => [], xv := fun i => none }
theorem i56 (L : Nat) (a0 : Int) : evF prog ev56 (loopN L) f56 (a56.enc a0) =
  bif (decide (a0 ≥ (1 : Int))) then some (n56 (decide (a0 ≤ (999 : Int))))
  else some (n56 Bool.false) := by kernel_rfl
def g56 (L : Nat) (a0 : Int) : Option Bool :=
  bif (decide (a0 ≥ (1 : Int))) then some (decide (a0 ≤ (999 : Int)))
  else some Bool.false
theorem e56 (L : Nat) (a0 : Int) : evF prog ev56 (loopN L) f56 (a56.enc a0) = (g56 L a0).map n56 := by
  rw [i56]; simp only [g56, map_bif, map_tst, Option.map_some, Option.map_none]
theorem s56 (m : Int → Option Bool) (hm : ∀ (x : Int) t, m x = some t → ∃ L, g56 L x = some t) : Sat prog cxT 56 (c56 m) :=
  sat_t cxT_ok cxT_pok (by rfl) (fn := f56) rfl a56 n56 dd56 m ev56 kok_nil kwok_nil (fun L x => g56 L x) (fun L x => e56 L x) hm hs56
/-! loop.example/g00222/spec.l3Name -/
def ev53 (m54 : (Int × Int × Int) → Option Bool) : Env cxT := { Kc := kcOf [(54, c54 m54)], Kw := kwOf [], lv := fun i => [], xv := fun i => none }
theorem i53 (m54 : (Int × Int × Int) → Option Bool) (L : Nat) (a0 : Int) : evF prog (ev53 m54) (loopN L) f53 (a53.enc a0) =
  tst (m54 (a0, ((1 : Int), (999 : Int)))) false fun (q1 : Bool) => some (n53 q1) := by kernel_rfl
def g53 (m54 : (Int × Int × Int) → Option Bool) (L : Nat) (a0 : Int) : Option Bool :=
  tst (m54 (a0, ((1 : Int), (999 : Int)))) false fun (q1 : Bool) => some q1
theorem e53 (m54 : (Int × Int × Int) → Option Bool) (L : Nat) (a0 : Int) : evF prog (ev53 m54) (loopN L) f53 (a53.enc a0) = (g53 m54 L a0).map n53 := by
  rw [i53]; simp only [g53, map_bif, map_tst, Option.map_some, Option.map_none]
theorem s53 (m54 : (Int × Int × Int) → Option Bool) (h54 : Sat prog cxT 54 (c54 m54)) (m : Int → Option Bool) (hm : ∀ (x : Int) t, m x = some t → ∃ L, g53 m54 L x = some t) : Sat prog cxT 53 (c53 m) :=
  sat_t cxT_ok cxT_pok (by rfl) (fn := f53) rfl a53 n53 dd53 m (ev53 m54) (kok_cons h54 kok_nil) kwok_nil (fun L x => g53 m54 L x) (fun L x => e53 m54 L x) hm hs53
/-! loop.example/g00222/spec.l1In -/
def ev54 : Env cxT := { Kc := kcOf [], Kw := kwOf [], lv := fun i => [], xv := fun i => none }
theorem i54 (L : Nat) (a0 : Int) (a1 : Int) (a2 : Int) : evF prog ev54 (loopN L) f54 (a54.enc (a0, a1, a2)) =
  bif (decide (a0 ≥ a1)) then some (n54 (decide (a0 ≤ a2)))
  else some (n54 Bool.false) := by kernel_rfl
def g54 (L : Nat) (a0 : Int) (a1 : Int) (a2 : Int) : Option Bool :=
  bif (decide (a0 ≥ a1)) then some (decide (a0 ≤ a2))
  else some Bool.false
theorem e54 (L : Nat) (a0 : Int) (a1 : Int) (a2 : Int) : evF prog ev54 (loopN L) f54 (a54.enc (a0, a1, a2)) = (g54 L a0 a1 a2).map n54 := by
  rw [i54]; simp only [g54, map_bif, map_tst, Option.map_some, Option.map_none]
theorem s54 (m : (Int × Int × Int) → Option Bool) (hm : ∀ (x : (Int × Int × Int)) t, m x = some t → ∃ L, g54 L x.1 x.2.1 x.2.2 = some t) : Sat prog cxT 54 (c54 m) :=
  sat_t cxT_ok cxT_pok (by rfl) (fn := f54) rfl a54 n54 dd54 m ev54 kok_nil kwok_nil (fun L x => g54 L x.1 x.2.1 x.2.2) (fun L x => e54 L x.1 x.2.1 x.2.2) hm hs54
/-! loop.example/g00222/impl.tableFault -/
def ev47 : Env cxT := { Kc := kcOf [], Kw := kwOf [], lv := fun i => [], xv := fun i => none }
theorem i47 (L : Nat) (a0 : (List Int)) : evF prog ev47 (loopN L) f47 (a47.enc a0) =
  bif ((Nat.cast (List.length a0) : Int) != (31 : Int)) then some (n47 (1 : Int))
  else some (n47 (0 : Int)) := by kernel_rfl
def g47 (L : Nat) (a0 : (List Int)) : Option Int :=
  bif ((Nat.cast (List.length a0) : Int) != (31 : Int)) then some (1 : Int)
  else some (0 : Int)
theorem e47 (L : Nat) (a0 : (List Int)) : evF prog ev47 (loopN L) f47 (a47.enc a0) = (g47 L a0).map n47 := by
  rw [i47]; simp only [g47, map_bif, map_tst, Option.map_some, Option.map_none]
theorem s47 (m : (List Int) → Option Int) (hm : ∀ (x : (List Int)) t, m x = some t → ∃ L, g47 L x = some t) : Sat prog cxT 47 (c47 m) :=
  sat_t cxT_ok cxT_pok (by rfl) (fn := f47) rfl a47 n47 dd47 m ev47 kok_nil kwok_nil (fun L x => g47 L x) (fun L x => e47 L x) hm hs47
/-! loop.example/g00222/laws.toShare -/
def ev55 : Env cxT := { Kc := kcOf [], Kw := kwOf [], lv := fun i => [], xv := fun i => none }
theorem i55 (L : Nat) (a0_0 : Int) (a0_1 : Int) : evF prog ev55 (loopN L) f55 (a55.enc (a0_0, a0_1)) =
  some (n55 (a0_0, a0_1)) := by kernel_rfl
def g55 (L : Nat) (a0_0 : Int) (a0_1 : Int) : Option (Int × Int) :=
  some (a0_0, a0_1)
theorem e55 (L : Nat) (a0_0 : Int) (a0_1 : Int) : evF prog ev55 (loopN L) f55 (a55.enc (a0_0, a0_1)) = (g55 L a0_0 a0_1).map n55 := by
  rw [i55]; simp only [g55, map_bif, map_tst, Option.map_some, Option.map_none]
theorem s55 (m : (Int × Int) → Option (Int × Int)) (hm : ∀ (x : (Int × Int)) t, m x = some t → ∃ L, g55 L x.1 x.2 = some t) : Sat prog cxT 55 (c55 m) :=
  sat_t cxT_ok cxT_pok (by rfl) (fn := f55) rfl a55 n55 dd55 m ev55 kok_nil kwok_nil (fun L x => g55 L x.1 x.2) (fun L x => e55 L x.1 x.2) hm hs55
/-! loop.example/g00222/laws.eqShare -/
def ev58 : Env cxT := { Kc := kcOf [], Kw := kwOf [], lv := fun i => [], xv := fun i => none }
theorem i58 (L : Nat) (a0_0 : Int) (a0_1 : Int) (a1_0 : Int) (a1_1 : Int) : evF prog ev58 (loopN L) f58 (a58.enc ((a0_0, a0_1), (a1_0, a1_1))) =
  bif (a0_0 != a1_0) then some (n58 Bool.false)
  else bif (a0_1 != a1_1) then some (n58 Bool.false)
  else some (n58 Bool.true) := by kernel_rfl
def g58 (L : Nat) (a0_0 : Int) (a0_1 : Int) (a1_0 : Int) (a1_1 : Int) : Option Bool :=
  bif (a0_0 != a1_0) then some Bool.false
  else bif (a0_1 != a1_1) then some Bool.false
  else some Bool.true
theorem e58 (L : Nat) (a0_0 : Int) (a0_1 : Int) (a1_0 : Int) (a1_1 : Int) : evF prog ev58 (loopN L) f58 (a58.enc ((a0_0, a0_1), (a1_0, a1_1))) = (g58 L a0_0 a0_1 a1_0 a1_1).map n58 := by
  rw [i58]; simp only [g58, map_bif, map_tst, Option.map_some, Option.map_none]
theorem s58 (m : ((Int × Int) × (Int × Int)) → Option Bool) (hm : ∀ (x : ((Int × Int) × (Int × Int))) t, m x = some t → ∃ L, g58 L x.1.1 x.1.2 x.2.1 x.2.2 = some t) : Sat prog cxT 58 (c58 m) :=
  sat_t cxT_ok cxT_pok (by rfl) (fn := f58) rfl a58 n58 dd58 m ev58 kok_nil kwok_nil (fun L x => g58 L x.1.1 x.1.2 x.2.1 x.2.2) (fun L x => e58 L x.1.1 x.1.2 x.2.1 x.2.2) hm hs58
/-! loop.example/g00222/laws.szShareS -/
def ev23 : Env cxT := { Kc := kcOf [], Kw := kwOf [], lv := fun i => [], xv := fun i => none }
theorem i23 (L : Nat) (a0 : (List (Int × Int))) (a1 : Int) : evF prog ev23 (loopN L) f23 (a23.enc (a0, a1)) =
  bif (decide ((Go.IntKind.wrap Go.IntKind.i64 (a1 - (Nat.cast (List.length a0) : Int))) < (0 : Int))) then some (n23 (-(1 : Int)))
  else some (n23 (Go.IntKind.wrap Go.IntKind.i64 (a1 - (Nat.cast (List.length a0) : Int)))) := by kernel_rfl
def g23 (L : Nat) (a0 : (List (Int × Int))) (a1 : Int) : Option Int :=
  bif (decide ((Go.IntKind.wrap Go.IntKind.i64 (a1 - (Nat.cast (List.length a0) : Int))) < (0 : Int))) then some (-(1 : Int))
  else some (Go.IntKind.wrap Go.IntKind.i64 (a1 - (Nat.cast (List.length a0) : Int)))
theorem e23 (L : Nat) (a0 : (List (Int × Int))) (a1 : Int) : evF prog ev23 (loopN L) f23 (a23.enc (a0, a1)) = (g23 L a0 a1).map n23 := by
  rw [i23]; simp only [g23, map_bif, map_tst, Option.map_some, Option.map_none]
theorem s23 (m : ((List (Int × Int)) × Int) → Option Int) (hm : ∀ (x : ((List (Int × Int)) × Int)) t, m x = some t → ∃ L, g23 L x.1 x.2 = some t) : Sat prog cxT 23 (c23 m) :=
  sat_t cxT_ok cxT_pok (by rfl) (fn := f23) rfl a23 n23 dd23 m ev23 kok_nil kwok_nil (fun L x => g23 L x.1 x.2) (fun L x => e23 L x.1 x.2) hm hs23
/-! loop.example/g00222/impl.CountOf -/
def ev17 : Env cxT := { Kc := kcOf [], Kw := kwOf [], lv := fun i => if i = 0 then [(1, []), (5, []), (8, [some 2]), (9, []), (10, [])] else [], xv := fun i => if i = 0 then some [(5, [])] else none }
def S17_0 (a0 : (List Int)) (a1 : Int) (v0_5 : Int) (v0_10 : Int) : St cxT.ty := { slots := [junk, (.inl (.inl (lv (.int .i64 a1)))), junk, junk, junk, (.inl (.inl (lv (.int .i64 v0_5)))), junk, junk, (.inl (.inl (ls { own := 0, nm := 0, e := 2, o := false, xs := a0 }))), (.inl (.inl (lv (.int .i64 (Nat.cast (List.length a0) : Int))))), (.inl (.inl (lv (.int .i64 v0_10))))] ++ List.replicate 10 junk, D := [], F := [], ctr := 1 }
def X17_0 (a0 : (List Int)) (a1 : Int) (w0_5 : Int) : St cxT.ty := { slots := [junk, junk, junk, junk, junk, (.inl (.inl (lv (.int .i64 w0_5))))] ++ List.replicate 15 junk, D := [], F := [], ctr := 1 }
theorem i17 (L : Nat) (a0 : (List Int)) (a1 : Int) : evF prog ev17 (loopN L) f17 (a17.enc (a0, a1)) =
  headF prog ev17 L f17 0 [1, 1, 0, 1, 0, 0] (outK (outV prog f17) (topK prog ev17 L f17 [1, 1, 0, 1] (outV prog f17)).n (topK prog ev17 L f17 [1, 1, 0, 1] (outV prog f17)).x) L (S17_0 a0 a1 (0 : Int) (0 : Int)) := by kernel_rfl
theorem r17_0 (L : Nat) (a0 : (List Int)) (a1 : Int) (k : St cxT.ty → Option (V cxT.ty)) (xk : Nat → St cxT.ty → Option (V cxT.ty)) (g : St cxT.ty → Option (V cxT.ty)) (v0_5 : Int) (v0_10 : Int) : roundF prog ev17 L f17 0 [1, 1, 0, 1, 0, 0] (outK (outV prog f17) k xk) g (S17_0 a0 a1 v0_5 v0_10) =
  bif (decide (v0_10 < (Nat.cast (List.length a0) : Int))) then bif ((decide ((0 : Int) ≤ v0_10)) && (decide (v0_10 < (Nat.cast (List.length a0) : Int)))) then bif ((List.getD a0 (Int.toNat v0_10) (0 : Int)) == a1) then g (S17_0 a0 a1 (Go.IntKind.wrap Go.IntKind.i64 (v0_5 + (1 : Int))) (Go.IntKind.wrap Go.IntKind.i64 (v0_10 + (1 : Int))))
      else g (S17_0 a0 a1 v0_5 (Go.IntKind.wrap Go.IntKind.i64 (v0_10 + (1 : Int))))
    else none
  else k (X17_0 a0 a1 v0_5) := by kernel_rfl
theorem t17_0 (L : Nat) (a0 : (List Int)) (a1 : Int) (w0_5 : Int) : (topK prog ev17 L f17 [1, 1, 0, 1] (outV prog f17)).n (X17_0 a0 a1 w0_5) =
  some (n17 w0_5) := by kernel_rfl
def l17_0 (L : Nat) (a0 : (List Int)) (a1 : Int) : Nat → Int → Int → (Int → Option Int) → Option Int
  | 0, _, _, _ => none
  | n + 1, v0_5, v0_10, k =>
    bif (decide (v0_10 < (Nat.cast (List.length a0) : Int))) then bif ((decide ((0 : Int) ≤ v0_10)) && (decide (v0_10 < (Nat.cast (List.length a0) : Int)))) then bif ((List.getD a0 (Int.toNat v0_10) (0 : Int)) == a1) then l17_0 L a0 a1 n (Go.IntKind.wrap Go.IntKind.i64 (v0_5 + (1 : Int))) (Go.IntKind.wrap Go.IntKind.i64 (v0_10 + (1 : Int))) k
        else l17_0 L a0 a1 n v0_5 (Go.IntKind.wrap Go.IntKind.i64 (v0_10 + (1 : Int))) k
      else none
    else k v0_5
theorem h17_0 (L : Nat) (a0 : (List Int)) (a1 : Int) (k : St cxT.ty → Option (V cxT.ty)) (xk : Nat → St cxT.ty → Option (V cxT.ty)) (k' : Int → Option Int) (hk : ∀ (w0_5 : Int), k (X17_0 a0 a1 w0_5) = (k' w0_5).map n17) : ∀ (n : Nat) (v0_5 : Int) (v0_10 : Int), headF prog ev17 L f17 0 [1, 1, 0, 1, 0, 0] (outK (outV prog f17) k xk) n (S17_0 a0 a1 v0_5 v0_10) = (l17_0 L a0 a1 n v0_5 v0_10 k').map n17
  | 0, _, _ => rfl
  | n + 1, v0_5, v0_10 => by
    rw [headF_round, r17_0]
    have ih := h17_0 L a0 a1 k xk k' hk n
    simp only [l17_0, map_bif, map_tst, Option.map_some, Option.map_none, ih, hk]
def g17 (L : Nat) (a0 : (List Int)) (a1 : Int) : Option Int :=
  l17_0 L a0 a1 L (0 : Int) (0 : Int) (fun (w0_5 : Int) => some w0_5)
theorem e17 (L : Nat) (a0 : (List Int)) (a1 : Int) : evF prog ev17 (loopN L) f17 (a17.enc (a0, a1)) = (g17 L a0 a1).map n17 := by
  let K'0 : Int → Option Int := (fun (w0_5 : Int) => some w0_5)
  have hin0 : ∀ (v0_5 : Int) (v0_10 : Int), headF prog ev17 L f17 0 [1, 1, 0, 1, 0, 0] (outK (outV prog f17) (topK prog ev17 L f17 [1, 1, 0, 1] (outV prog f17)).n (topK prog ev17 L f17 [1, 1, 0, 1] (outV prog f17)).x) L (S17_0 a0 a1 v0_5 v0_10) = (l17_0 L a0 a1 L v0_5 v0_10 K'0).map n17 := fun v0_5 v0_10 => h17_0 L a0 a1 _ _ K'0 (fun w0_5 => by rw [t17_0]; simp only [K'0, map_bif, map_tst, Option.map_some, Option.map_none]) L v0_5 v0_10
  rw [i17]; simp only [g17, map_bif, map_tst, Option.map_some, Option.map_none, hin0, K'0]
theorem s17 (m : ((List Int) × Int) → Option Int) (hm : ∀ (x : ((List Int) × Int)) t, m x = some t → ∃ L, g17 L x.1 x.2 = some t) : Sat prog cxT 17 (c17 m) :=
  sat_t cxT_ok cxT_pok (by rfl) (fn := f17) rfl a17 n17 dd17 m ev17 kok_nil kwok_nil (fun L x => g17 L x.1 x.2) (fun L x => e17 L x.1 x.2) hm hs17
/-! loop.example/g00222/spec.CountOf -/
def ev32 : Env cxT := { Kc := kcOf [], Kw := kwOf [], lv := fun i => if i = 0 then [(0, [some 2]), (1, []), (5, []), (6, [])] else [], xv := fun i => if i = 0 then some [(5, [])] else none }
def S32_0 (a0 : (List Int)) (a1 : Int) (v0_5 : Int) (v0_6 : Int) : St cxT.ty := { slots := [(.inl (.inl (ls { own := 0, nm := 0, e := 2, o := false, xs := a0 }))), (.inl (.inl (lv (.int .i64 a1)))), junk, junk, junk, (.inl (.inl (lv (.int .i64 v0_5)))), (.inl (.inl (lv (.int .i64 v0_6))))] ++ List.replicate 15 junk, D := [], F := [], ctr := 1 }
def X32_0 (a0 : (List Int)) (a1 : Int) (w0_5 : Int) : St cxT.ty := { slots := [junk, junk, junk, junk, junk, (.inl (.inl (lv (.int .i64 w0_5))))] ++ List.replicate 16 junk, D := [], F := [], ctr := 1 }
theorem i32 (L : Nat) (a0 : (List Int)) (a1 : Int) : evF prog ev32 (loopN L) f32 (a32.enc (a0, a1)) =
  headF prog ev32 L f32 0 [1, 1, 0, 1, 0, 0] (outK (outV prog f32) (topK prog ev32 L f32 [1, 1, 0, 1] (outV prog f32)).n (topK prog ev32 L f32 [1, 1, 0, 1] (outV prog f32)).x) L (S32_0 a0 a1 (0 : Int) (0 : Int)) := by kernel_rfl
theorem r32_0 (L : Nat) (a0 : (List Int)) (a1 : Int) (k : St cxT.ty → Option (V cxT.ty)) (xk : Nat → St cxT.ty → Option (V cxT.ty)) (g : St cxT.ty → Option (V cxT.ty)) (v0_5 : Int) (v0_6 : Int) : roundF prog ev32 L f32 0 [1, 1, 0, 1, 0, 0] (outK (outV prog f32) k xk) g (S32_0 a0 a1 v0_5 v0_6) =
  bif (decide (v0_6 < (Nat.cast (List.length a0) : Int))) then bif ((decide ((0 : Int) ≤ v0_6)) && (decide (v0_6 < (Nat.cast (List.length a0) : Int)))) then bif ((List.getD a0 (Int.toNat v0_6) (0 : Int)) == a1) then g (S32_0 a0 a1 (Go.IntKind.wrap Go.IntKind.i64 (v0_5 + (1 : Int))) (Go.IntKind.wrap Go.IntKind.i64 (v0_6 + (1 : Int))))
      else g (S32_0 a0 a1 v0_5 (Go.IntKind.wrap Go.IntKind.i64 (v0_6 + (1 : Int))))
    else none
  else k (X32_0 a0 a1 v0_5) := by kernel_rfl
theorem t32_0 (L : Nat) (a0 : (List Int)) (a1 : Int) (w0_5 : Int) : (topK prog ev32 L f32 [1, 1, 0, 1] (outV prog f32)).n (X32_0 a0 a1 w0_5) =
  some (n32 w0_5) := by kernel_rfl
def l32_0 (L : Nat) (a0 : (List Int)) (a1 : Int) : Nat → Int → Int → (Int → Option Int) → Option Int
  | 0, _, _, _ => none
  | n + 1, v0_5, v0_6, k =>
    bif (decide (v0_6 < (Nat.cast (List.length a0) : Int))) then bif ((decide ((0 : Int) ≤ v0_6)) && (decide (v0_6 < (Nat.cast (List.length a0) : Int)))) then bif ((List.getD a0 (Int.toNat v0_6) (0 : Int)) == a1) then l32_0 L a0 a1 n (Go.IntKind.wrap Go.IntKind.i64 (v0_5 + (1 : Int))) (Go.IntKind.wrap Go.IntKind.i64 (v0_6 + (1 : Int))) k
        else l32_0 L a0 a1 n v0_5 (Go.IntKind.wrap Go.IntKind.i64 (v0_6 + (1 : Int))) k
      else none
    else k v0_5
theorem h32_0 (L : Nat) (a0 : (List Int)) (a1 : Int) (k : St cxT.ty → Option (V cxT.ty)) (xk : Nat → St cxT.ty → Option (V cxT.ty)) (k' : Int → Option Int) (hk : ∀ (w0_5 : Int), k (X32_0 a0 a1 w0_5) = (k' w0_5).map n32) : ∀ (n : Nat) (v0_5 : Int) (v0_6 : Int), headF prog ev32 L f32 0 [1, 1, 0, 1, 0, 0] (outK (outV prog f32) k xk) n (S32_0 a0 a1 v0_5 v0_6) = (l32_0 L a0 a1 n v0_5 v0_6 k').map n32
  | 0, _, _ => rfl
  | n + 1, v0_5, v0_6 => by
    rw [headF_round, r32_0]
    have ih := h32_0 L a0 a1 k xk k' hk n
    simp only [l32_0, map_bif, map_tst, Option.map_some, Option.map_none, ih, hk]
def g32 (L : Nat) (a0 : (List Int)) (a1 : Int) : Option Int :=
  l32_0 L a0 a1 L (0 : Int) (0 : Int) (fun (w0_5 : Int) => some w0_5)
theorem e32 (L : Nat) (a0 : (List Int)) (a1 : Int) : evF prog ev32 (loopN L) f32 (a32.enc (a0, a1)) = (g32 L a0 a1).map n32 := by
  let K'0 : Int → Option Int := (fun (w0_5 : Int) => some w0_5)
  have hin0 : ∀ (v0_5 : Int) (v0_6 : Int), headF prog ev32 L f32 0 [1, 1, 0, 1, 0, 0] (outK (outV prog f32) (topK prog ev32 L f32 [1, 1, 0, 1] (outV prog f32)).n (topK prog ev32 L f32 [1, 1, 0, 1] (outV prog f32)).x) L (S32_0 a0 a1 v0_5 v0_6) = (l32_0 L a0 a1 L v0_5 v0_6 K'0).map n32 := fun v0_5 v0_6 => h32_0 L a0 a1 _ _ K'0 (fun w0_5 => by rw [t32_0]; simp only [K'0, map_bif, map_tst, Option.map_some, Option.map_none]) L v0_5 v0_6
  rw [i32]; simp only [g32, map_bif, map_tst, Option.map_some, Option.map_none, hin0, K'0]
theorem s32 (m : ((List Int) × Int) → Option Int) (hm : ∀ (x : ((List Int) × Int)) t, m x = some t → ∃ L, g32 L x.1 x.2 = some t) : Sat prog cxT 32 (c32 m) :=
  sat_t cxT_ok cxT_pok (by rfl) (fn := f32) rfl a32 n32 dd32 m ev32 kok_nil kwok_nil (fun L x => g32 L x.1 x.2) (fun L x => e32 L x.1 x.2) hm hs32
/-! loop.example/g00222/spec.l1Min -/
def ev61 : Env cxT := { Kc := kcOf [], Kw := kwOf [], lv := fun i => [], xv := fun i => none }
theorem i61 (L : Nat) (a0 : Int) (a1 : Int) : evF prog ev61 (loopN L) f61 (a61.enc (a0, a1)) =
  bif (decide (a0 < a1)) then some (n61 a0)
  else some (n61 a1) := by kernel_rfl
def g61 (L : Nat) (a0 : Int) (a1 : Int) : Option Int :=
  bif (decide (a0 < a1)) then some a0
  else some a1
theorem e61 (L : Nat) (a0 : Int) (a1 : Int) : evF prog ev61 (loopN L) f61 (a61.enc (a0, a1)) = (g61 L a0 a1).map n61 := by
  rw [i61]; simp only [g61, map_bif, map_tst, Option.map_some, Option.map_none]
theorem s61 (m : (Int × Int) → Option Int) (hm : ∀ (x : (Int × Int)) t, m x = some t → ∃ L, g61 L x.1 x.2 = some t) : Sat prog cxT 61 (c61 m) :=
  sat_t cxT_ok cxT_pok (by rfl) (fn := f61) rfl a61 n61 dd61 m ev61 kok_nil kwok_nil (fun L x => g61 L x.1 x.2) (fun L x => e61 L x.1 x.2) hm hs61
/-! loop.example/g00222/spec.l1Max -/
def ev62 : Env cxT := { Kc := kcOf [], Kw := kwOf [], lv := fun i => [], xv := fun i => none }
theorem i62 (L : Nat) (a0 : Int) (a1 : Int) : evF prog ev62 (loopN L) f62 (a62.enc (a0, a1)) =
  bif (decide (a0 > a1)) then some (n62 a0)
  else some (n62 a1) := by kernel_rfl
def g62 (L : Nat) (a0 : Int) (a1 : Int) : Option Int :=
  bif (decide (a0 > a1)) then some a0
  else some a1
theorem e62 (L : Nat) (a0 : Int) (a1 : Int) : evF prog ev62 (loopN L) f62 (a62.enc (a0, a1)) = (g62 L a0 a1).map n62 := by
  rw [i62]; simp only [g62, map_bif, map_tst, Option.map_some, Option.map_none]
theorem s62 (m : (Int × Int) → Option Int) (hm : ∀ (x : (Int × Int)) t, m x = some t → ∃ L, g62 L x.1 x.2 = some t) : Sat prog cxT 62 (c62 m) :=
  sat_t cxT_ok cxT_pok (by rfl) (fn := f62) rfl a62 n62 dd62 m ev62 kok_nil kwok_nil (fun L x => g62 L x.1 x.2) (fun L x => e62 L x.1 x.2) hm hs62
/-! loop.example/g00222/laws.eqSpread -/
def ev36 : Env cxT := { Kc := kcOf [], Kw := kwOf [], lv := fun i => [], xv := fun i => none }
theorem i36 (L : Nat) (a0_0 : Int) (a0_1 : Int) (a0_2 : Int) (a0_3 : Int) (a1_0 : Int) (a1_1 : Int) (a1_2 : Int) (a1_3 : Int) : evF prog ev36 (loopN L) f36 (a36.enc ((a0_0, a0_1, a0_2, a0_3), (a1_0, a1_1, a1_2, a1_3))) =
  bif (a0_0 != a1_0) then some (n36 Bool.false)
  else bif (a0_1 != a1_1) then some (n36 Bool.false)
  else bif (a0_2 != a1_2) then some (n36 Bool.false)
  else bif (a0_3 != a1_3) then some (n36 Bool.false)
  else some (n36 Bool.true) := by kernel_rfl
def g36 (L : Nat) (a0_0 : Int) (a0_1 : Int) (a0_2 : Int) (a0_3 : Int) (a1_0 : Int) (a1_1 : Int) (a1_2 : Int) (a1_3 : Int) : Option Bool :=
  bif (a0_0 != a1_0) then some Bool.false
  else bif (a0_1 != a1_1) then some Bool.false
  else bif (a0_2 != a1_2) then some Bool.false
  else bif (a0_3 != a1_3) then some Bool.false
  else some Bool.true
theorem e36 (L : Nat) (a0_0 : Int) (a0_1 : Int) (a0_2 : Int) (a0_3 : Int) (a1_0 : Int) (a1_1 : Int) (a1_2 : Int) (a1_3 : Int) : evF prog ev36 (loopN L) f36 (a36.enc ((a0_0, a0_1, a0_2, a0_3), (a1_0, a1_1, a1_2, a1_3))) = (g36 L a0_0 a0_1 a0_2 a0_3 a1_0 a1_1 a1_2 a1_3).map n36 := by
  rw [i36]; simp only [g36, map_bif, map_tst, Option.map_some, Option.map_none]
theorem s36 (m : ((Int × Int × Int × Int) × (Int × Int × Int × Int)) → Option Bool) (hm : ∀ (x : ((Int × Int × Int × Int) × (Int × Int × Int × Int))) t, m x = some t → ∃ L, g36 L x.1.1 x.1.2.1 x.1.2.2.1 x.1.2.2.2 x.2.1 x.2.2.1 x.2.2.2.1 x.2.2.2.2 = some t) : Sat prog cxT 36 (c36 m) :=
  sat_t cxT_ok cxT_pok (by rfl) (fn := f36) rfl a36 n36 dd36 m ev36 kok_nil kwok_nil (fun L x => g36 L x.1.1 x.1.2.1 x.1.2.2.1 x.1.2.2.2 x.2.1 x.2.2.1 x.2.2.2.1 x.2.2.2.2) (fun L x => e36 L x.1.1 x.1.2.1 x.1.2.2.1 x.1.2.2.2 x.2.1 x.2.2.1 x.2.2.2.1 x.2.2.2.2) hm hs36
/-! loop.example/g00222/laws.eqIntResult -/
def ev38 : Env cxT := { Kc := kcOf [], Kw := kwOf [], lv := fun i => [], xv := fun i => none }
theorem i38 (L : Nat) (a0_0 : Int) (a0_1 : Int) (a1_0 : Int) (a1_1 : Int) : evF prog ev38 (loopN L) f38 (a38.enc ((a0_0, a0_1), (a1_0, a1_1))) =
  bif (a0_0 != a1_0) then some (n38 Bool.false)
  else bif (a0_1 != a1_1) then some (n38 Bool.false)
  else some (n38 Bool.true) := by kernel_rfl
def g38 (L : Nat) (a0_0 : Int) (a0_1 : Int) (a1_0 : Int) (a1_1 : Int) : Option Bool :=
  bif (a0_0 != a1_0) then some Bool.false
  else bif (a0_1 != a1_1) then some Bool.false
  else some Bool.true
theorem e38 (L : Nat) (a0_0 : Int) (a0_1 : Int) (a1_0 : Int) (a1_1 : Int) : evF prog ev38 (loopN L) f38 (a38.enc ((a0_0, a0_1), (a1_0, a1_1))) = (g38 L a0_0 a0_1 a1_0 a1_1).map n38 := by
  rw [i38]; simp only [g38, map_bif, map_tst, Option.map_some, Option.map_none]
theorem s38 (m : ((Int × Int) × (Int × Int)) → Option Bool) (hm : ∀ (x : ((Int × Int) × (Int × Int))) t, m x = some t → ∃ L, g38 L x.1.1 x.1.2 x.2.1 x.2.2 = some t) : Sat prog cxT 38 (c38 m) :=
  sat_t cxT_ok cxT_pok (by rfl) (fn := f38) rfl a38 n38 dd38 m ev38 kok_nil kwok_nil (fun L x => g38 L x.1.1 x.1.2 x.2.1 x.2.2) (fun L x => e38 L x.1.1 x.1.2 x.2.1 x.2.2) hm hs38
/-! loop.example/g00222/impl.LookTable -/
def ev22 (m47 : (List Int) → Option Int) : Env cxT := { Kc := kcOf [(47, c47 m47)], Kw := kwOf [], lv := fun i => [], xv := fun i => none }
theorem i22 (m47 : (List Int) → Option Int) (L : Nat) (a0 : (List Int)) (a1 : Int) : evF prog (ev22 m47) (loopN L) f22 (a22.enc (a0, a1)) =
  tst (m47 a0) (0 : Int) fun (q1 : Int) => bif (q1 != (0 : Int)) then some (n22 (q1, (0 : Int)))
    else bif (decide (a1 < (0 : Int))) then some (n22 ((3 : Int), (0 : Int)))
    else bif ((decide ((0 : Int) ≤ (Int.tmod a1 (31 : Int)))) && (decide ((Int.tmod a1 (31 : Int)) < (Nat.cast (List.length a0) : Int)))) then bif ((List.getD a0 (Int.toNat (Int.tmod a1 (31 : Int))) (0 : Int)) == (0 : Int)) then some (n22 ((4 : Int), (0 : Int)))
      else some (n22 ((0 : Int), (List.getD a0 (Int.toNat (Int.tmod a1 (31 : Int))) (0 : Int))))
    else none := by kernel_rfl
def g22 (m47 : (List Int) → Option Int) (L : Nat) (a0 : (List Int)) (a1 : Int) : Option (Int × Int) :=
  tst (m47 a0) (0 : Int) fun (q1 : Int) => bif (q1 != (0 : Int)) then some (q1, (0 : Int))
    else bif (decide (a1 < (0 : Int))) then some ((3 : Int), (0 : Int))
    else bif ((decide ((0 : Int) ≤ (Int.tmod a1 (31 : Int)))) && (decide ((Int.tmod a1 (31 : Int)) < (Nat.cast (List.length a0) : Int)))) then bif ((List.getD a0 (Int.toNat (Int.tmod a1 (31 : Int))) (0 : Int)) == (0 : Int)) then some ((4 : Int), (0 : Int))
      else some ((0 : Int), (List.getD a0 (Int.toNat (Int.tmod a1 (31 : Int))) (0 : Int)))
    else none
theorem e22 (m47 : (List Int) → Option Int) (L : Nat) (a0 : (List Int)) (a1 : Int) : evF prog (ev22 m47) (loopN L) f22 (a22.enc (a0, a1)) = (g22 m47 L a0 a1).map n22 := by
  rw [i22]; simp only [g22, map_bif, map_tst, Option.map_some, Option.map_none]
theorem s22 (m47 : (List Int) → Option Int) (h47 : Sat prog cxT 47 (c47 m47)) (m : ((List Int) × Int) → Option (Int × Int)) (hm : ∀ (x : ((List Int) × Int)) t, m x = some t → ∃ L, g22 m47 L x.1 x.2 = some t) : Sat prog cxT 22 (c22 m) :=
  sat_t cxT_ok cxT_pok (by rfl) (fn := f22) rfl a22 n22 dd22 m (ev22 m47) (kok_cons h47 kok_nil) kwok_nil (fun L x => g22 m47 L x.1 x.2) (fun L x => e22 m47 L x.1 x.2) hm hs22
/-! loop.example/g00222/spec.LookTable -/
def ev37 : Env cxT := { Kc := kcOf [], Kw := kwOf [], lv := fun i => [], xv := fun i => none }
theorem i37 (L : Nat) (a0 : (List Int)) (a1 : Int) : evF prog ev37 (loopN L) f37 (a37.enc (a0, a1)) =
  bif ((Nat.cast (List.length a0) : Int) != (31 : Int)) then some (n37 ((1 : Int), (0 : Int)))
  else bif (decide (a1 < (0 : Int))) then some (n37 ((3 : Int), (0 : Int)))
  else bif ((decide ((0 : Int) ≤ (Int.tmod a1 (31 : Int)))) && (decide ((Int.tmod a1 (31 : Int)) < (Nat.cast (List.length a0) : Int)))) then bif ((List.getD a0 (Int.toNat (Int.tmod a1 (31 : Int))) (0 : Int)) == (0 : Int)) then some (n37 ((4 : Int), (0 : Int)))
    else some (n37 ((0 : Int), (List.getD a0 (Int.toNat (Int.tmod a1 (31 : Int))) (0 : Int))))
  else none := by kernel_rfl
def g37 (L : Nat) (a0 : (List Int)) (a1 : Int) : Option (Int × Int) :=
  bif ((Nat.cast (List.length a0) : Int) != (31 : Int)) then some ((1 : Int), (0 : Int))
  else bif (decide (a1 < (0 : Int))) then some ((3 : Int), (0 : Int))
  else bif ((decide ((0 : Int) ≤ (Int.tmod a1 (31 : Int)))) && (decide ((Int.tmod a1 (31 : Int)) < (Nat.cast (List.length a0) : Int)))) then bif ((List.getD a0 (Int.toNat (Int.tmod a1 (31 : Int))) (0 : Int)) == (0 : Int)) then some ((4 : Int), (0 : Int))
    else some ((0 : Int), (List.getD a0 (Int.toNat (Int.tmod a1 (31 : Int))) (0 : Int)))
  else none
theorem e37 (L : Nat) (a0 : (List Int)) (a1 : Int) : evF prog ev37 (loopN L) f37 (a37.enc (a0, a1)) = (g37 L a0 a1).map n37 := by
  rw [i37]; simp only [g37, map_bif, map_tst, Option.map_some, Option.map_none]
theorem s37 (m : ((List Int) × Int) → Option (Int × Int)) (hm : ∀ (x : ((List Int) × Int)) t, m x = some t → ∃ L, g37 L x.1 x.2 = some t) : Sat prog cxT 37 (c37 m) :=
  sat_t cxT_ok cxT_pok (by rfl) (fn := f37) rfl a37 n37 dd37 m ev37 kok_nil kwok_nil (fun L x => g37 L x.1 x.2) (fun L x => e37 L x.1 x.2) hm hs37
/-! loop.example/g00222/impl.MovedOf -/
def ev21 (m47 : (List Int) → Option Int) : Env cxT := { Kc := kcOf [(47, c47 m47)], Kw := kwOf [], lv := fun i => if i = 0 then [(1, [some 2]), (4, []), (5, []), (17, [some 2]), (18, []), (19, [])] else [], xv := fun i => if i = 0 then some [(4, []), (5, [])] else none }
def S21_0 (a0 : (List Int)) (a1 : (List Int)) (v0_4_0 : Int) (v0_4_1 : Int) (v0_5 : Int) (v0_19 : Int) : St cxT.ty := { slots := [junk, (.inl (.inl (ls { own := 0, nm := 0, e := 2, o := false, xs := a1 }))), junk, junk, (.inr (.inr { kind := 0, nm := 256, cells := [(lv (.int .i64 v0_4_0)), (lv (.int .i64 v0_4_1))], s := { own := 0, nm := 0, e := 0, o := false, xs := ([] : List (PUnit)) }, i := 0, off := 0 })), (.inl (.inl (lv (.int .i64 v0_5)))), junk, junk, junk, junk, junk, junk, junk, junk, junk, junk, junk, (.inl (.inl (ls { own := 0, nm := 0, e := 2, o := false, xs := a0 }))), (.inl (.inl (lv (.int .i64 (Nat.cast (List.length a0) : Int))))), (.inl (.inl (lv (.int .i64 v0_19))))] ++ List.replicate 15 junk, D := [], F := [], ctr := 1 }
def X21_0 (a0 : (List Int)) (a1 : (List Int)) (w0_4_0 : Int) (w0_4_1 : Int) (w0_5 : Int) : St cxT.ty := { slots := [junk, junk, junk, junk, (.inr (.inr { kind := 0, nm := 256, cells := [(lv (.int .i64 w0_4_0)), (lv (.int .i64 w0_4_1))], s := { own := 0, nm := 0, e := 0, o := false, xs := ([] : List (PUnit)) }, i := 0, off := 0 })), (.inl (.inl (lv (.int .i64 w0_5))))] ++ List.replicate 29 junk, D := [], F := [], ctr := 1 }
theorem i21 (m47 : (List Int) → Option Int) (L : Nat) (a0 : (List Int)) (a1 : (List Int)) : evF prog (ev21 m47) (loopN L) f21 (a21.enc (a0, a1)) =
  tst (m47 a0) (0 : Int) fun (q1 : Int) => bif (q1 != (0 : Int)) then some (n21 ((1 : Int), (0 : Int)))
    else tst (m47 a1) (0 : Int) fun (q2 : Int) => bif (q2 != (0 : Int)) then some (n21 ((1 : Int), (0 : Int)))
      else headF prog (ev21 m47) L f21 0 [1, 1, 1, 0, 1, 0, 0] (outK (outV prog f21) (topK prog (ev21 m47) L f21 [1, 1, 1, 0, 1] (outV prog f21)).n (topK prog (ev21 m47) L f21 [1, 1, 1, 0, 1] (outV prog f21)).x) L (S21_0 a0 a1 (0 : Int) (0 : Int) (0 : Int) (0 : Int)) := by kernel_rfl
theorem r21_0 (m47 : (List Int) → Option Int) (L : Nat) (a0 : (List Int)) (a1 : (List Int)) (k : St cxT.ty → Option (V cxT.ty)) (xk : Nat → St cxT.ty → Option (V cxT.ty)) (g : St cxT.ty → Option (V cxT.ty)) (v0_4_0 : Int) (v0_4_1 : Int) (v0_5 : Int) (v0_19 : Int) : roundF prog (ev21 m47) L f21 0 [1, 1, 1, 0, 1, 0, 0] (outK (outV prog f21) k xk) g (S21_0 a0 a1 v0_4_0 v0_4_1 v0_5 v0_19) =
  bif (decide (v0_19 < (Nat.cast (List.length a0) : Int))) then bif ((decide ((0 : Int) ≤ v0_19)) && (decide (v0_19 < (Nat.cast (List.length a0) : Int)))) then bif ((decide ((0 : Int) ≤ v0_19)) && (decide (v0_19 < (Nat.cast (List.length a1) : Int)))) then bif ((List.getD a1 (Int.toNat v0_19) (0 : Int)) != (List.getD a0 (Int.toNat v0_19) (0 : Int))) then g (S21_0 a0 a1 v0_4_0 v0_4_1 (Go.IntKind.wrap Go.IntKind.i64 (v0_5 + (1 : Int))) (Go.IntKind.wrap Go.IntKind.i64 (v0_19 + (1 : Int))))
        else g (S21_0 a0 a1 v0_4_0 v0_4_1 v0_5 (Go.IntKind.wrap Go.IntKind.i64 (v0_19 + (1 : Int))))
      else none
    else none
  else k (X21_0 a0 a1 v0_4_0 v0_4_1 v0_5) := by kernel_rfl
theorem t21_0 (m47 : (List Int) → Option Int) (L : Nat) (a0 : (List Int)) (a1 : (List Int)) (w0_4_0 : Int) (w0_4_1 : Int) (w0_5 : Int) : (topK prog (ev21 m47) L f21 [1, 1, 1, 0, 1] (outV prog f21)).n (X21_0 a0 a1 w0_4_0 w0_4_1 w0_5) =
  some (n21 ((0 : Int), w0_5)) := by kernel_rfl
def l21_0 (m47 : (List Int) → Option Int) (L : Nat) (a0 : (List Int)) (a1 : (List Int)) : Nat → Int → Int → Int → Int → (Int → Int → Int → Option (Int × Int)) → Option (Int × Int)
  | 0, _, _, _, _, _ => none
  | n + 1, v0_4_0, v0_4_1, v0_5, v0_19, k =>
    bif (decide (v0_19 < (Nat.cast (List.length a0) : Int))) then bif ((decide ((0 : Int) ≤ v0_19)) && (decide (v0_19 < (Nat.cast (List.length a0) : Int)))) then bif ((decide ((0 : Int) ≤ v0_19)) && (decide (v0_19 < (Nat.cast (List.length a1) : Int)))) then bif ((List.getD a1 (Int.toNat v0_19) (0 : Int)) != (List.getD a0 (Int.toNat v0_19) (0 : Int))) then l21_0 m47 L a0 a1 n v0_4_0 v0_4_1 (Go.IntKind.wrap Go.IntKind.i64 (v0_5 + (1 : Int))) (Go.IntKind.wrap Go.IntKind.i64 (v0_19 + (1 : Int))) k
          else l21_0 m47 L a0 a1 n v0_4_0 v0_4_1 v0_5 (Go.IntKind.wrap Go.IntKind.i64 (v0_19 + (1 : Int))) k
        else none
      else none
    else k v0_4_0 v0_4_1 v0_5
theorem h21_0 (m47 : (List Int) → Option Int) (L : Nat) (a0 : (List Int)) (a1 : (List Int)) (k : St cxT.ty → Option (V cxT.ty)) (xk : Nat → St cxT.ty → Option (V cxT.ty)) (k' : Int → Int → Int → Option (Int × Int)) (hk : ∀ (w0_4_0 : Int) (w0_4_1 : Int) (w0_5 : Int), k (X21_0 a0 a1 w0_4_0 w0_4_1 w0_5) = (k' w0_4_0 w0_4_1 w0_5).map n21) : ∀ (n : Nat) (v0_4_0 : Int) (v0_4_1 : Int) (v0_5 : Int) (v0_19 : Int), headF prog (ev21 m47) L f21 0 [1, 1, 1, 0, 1, 0, 0] (outK (outV prog f21) k xk) n (S21_0 a0 a1 v0_4_0 v0_4_1 v0_5 v0_19) = (l21_0 m47 L a0 a1 n v0_4_0 v0_4_1 v0_5 v0_19 k').map n21
  | 0, _, _, _, _ => rfl
  | n + 1, v0_4_0, v0_4_1, v0_5, v0_19 => by
    rw [headF_round, r21_0]
    have ih := h21_0 m47 L a0 a1 k xk k' hk n
    simp only [l21_0, map_bif, map_tst, Option.map_some, Option.map_none, ih, hk]
def g21 (m47 : (List Int) → Option Int) (L : Nat) (a0 : (List Int)) (a1 : (List Int)) : Option (Int × Int) :=
  tst (m47 a0) (0 : Int) fun (q1 : Int) => bif (q1 != (0 : Int)) then some ((1 : Int), (0 : Int))
    else tst (m47 a1) (0 : Int) fun (q2 : Int) => bif (q2 != (0 : Int)) then some ((1 : Int), (0 : Int))
      else l21_0 m47 L a0 a1 L (0 : Int) (0 : Int) (0 : Int) (0 : Int) (fun (w0_4_0 : Int) (w0_4_1 : Int) (w0_5 : Int) => some ((0 : Int), w0_5))
theorem e21 (m47 : (List Int) → Option Int) (L : Nat) (a0 : (List Int)) (a1 : (List Int)) : evF prog (ev21 m47) (loopN L) f21 (a21.enc (a0, a1)) = (g21 m47 L a0 a1).map n21 := by
  let K'0 : Int → Int → Int → Option (Int × Int) := (fun (w0_4_0 : Int) (w0_4_1 : Int) (w0_5 : Int) => some ((0 : Int), w0_5))
  have hin0 : ∀ (v0_4_0 : Int) (v0_4_1 : Int) (v0_5 : Int) (v0_19 : Int), headF prog (ev21 m47) L f21 0 [1, 1, 1, 0, 1, 0, 0] (outK (outV prog f21) (topK prog (ev21 m47) L f21 [1, 1, 1, 0, 1] (outV prog f21)).n (topK prog (ev21 m47) L f21 [1, 1, 1, 0, 1] (outV prog f21)).x) L (S21_0 a0 a1 v0_4_0 v0_4_1 v0_5 v0_19) = (l21_0 m47 L a0 a1 L v0_4_0 v0_4_1 v0_5 v0_19 K'0).map n21 := fun v0_4_0 v0_4_1 v0_5 v0_19 => h21_0 m47 L a0 a1 _ _ K'0 (fun w0_4_0 w0_4_1 w0_5 => by rw [t21_0]; simp only [K'0, map_bif, map_tst, Option.map_some, Option.map_none]) L v0_4_0 v0_4_1 v0_5 v0_19
  rw [i21]; simp only [g21, map_bif, map_tst, Option.map_some, Option.map_none, hin0, K'0]
theorem s21 (m47 : (List Int) → Option Int) (h47 : Sat prog cxT 47 (c47 m47)) (m : ((List Int) × (List Int)) → Option (Int × Int)) (hm : ∀ (x : ((List Int) × (List Int))) t, m x = some t → ∃ L, g21 m47 L x.1 x.2 = some t) : Sat prog cxT 21 (c21 m) :=
  sat_t cxT_ok cxT_pok (by rfl) (fn := f21) rfl a21 n21 dd21 m (ev21 m47) (kok_cons h47 kok_nil) kwok_nil (fun L x => g21 m47 L x.1 x.2) (fun L x => e21 m47 L x.1 x.2) hm hs21
/-! loop.example/g00222/spec.MovedOf -/
def ev39 : Env cxT := { Kc := kcOf [], Kw := kwOf [], lv := fun i => if i = 0 then [(0, [some 2]), (1, [some 2]), (4, []), (5, []), (6, [])] else [], xv := fun i => if i = 0 then some [(4, []), (5, [])] else none }
def S39_0 (a0 : (List Int)) (a1 : (List Int)) (v0_4_0 : Int) (v0_4_1 : Int) (v0_5 : Int) (v0_6 : Int) : St cxT.ty := { slots := [(.inl (.inl (ls { own := 0, nm := 0, e := 2, o := false, xs := a0 }))), (.inl (.inl (ls { own := 0, nm := 0, e := 2, o := false, xs := a1 }))), junk, junk, (.inr (.inr { kind := 0, nm := 256, cells := [(lv (.int .i64 v0_4_0)), (lv (.int .i64 v0_4_1))], s := { own := 0, nm := 0, e := 0, o := false, xs := ([] : List (PUnit)) }, i := 0, off := 0 })), (.inl (.inl (lv (.int .i64 v0_5)))), (.inl (.inl (lv (.int .i64 v0_6))))] ++ List.replicate 28 junk, D := [], F := [], ctr := 1 }
def X39_0 (a0 : (List Int)) (a1 : (List Int)) (w0_4_0 : Int) (w0_4_1 : Int) (w0_5 : Int) : St cxT.ty := { slots := [junk, junk, junk, junk, (.inr (.inr { kind := 0, nm := 256, cells := [(lv (.int .i64 w0_4_0)), (lv (.int .i64 w0_4_1))], s := { own := 0, nm := 0, e := 0, o := false, xs := ([] : List (PUnit)) }, i := 0, off := 0 })), (.inl (.inl (lv (.int .i64 w0_5))))] ++ List.replicate 29 junk, D := [], F := [], ctr := 1 }
theorem i39 (L : Nat) (a0 : (List Int)) (a1 : (List Int)) : evF prog ev39 (loopN L) f39 (a39.enc (a0, a1)) =
  bif ((Nat.cast (List.length a0) : Int) != (31 : Int)) then some (n39 ((1 : Int), (0 : Int)))
  else bif ((Nat.cast (List.length a1) : Int) != (31 : Int)) then some (n39 ((1 : Int), (0 : Int)))
  else headF prog ev39 L f39 0 [1, 1, 1, 0, 1, 0, 0] (outK (outV prog f39) (topK prog ev39 L f39 [1, 1, 1, 0, 1] (outV prog f39)).n (topK prog ev39 L f39 [1, 1, 1, 0, 1] (outV prog f39)).x) L (S39_0 a0 a1 (0 : Int) (0 : Int) (0 : Int) (0 : Int)) := by kernel_rfl
theorem r39_0 (L : Nat) (a0 : (List Int)) (a1 : (List Int)) (k : St cxT.ty → Option (V cxT.ty)) (xk : Nat → St cxT.ty → Option (V cxT.ty)) (g : St cxT.ty → Option (V cxT.ty)) (v0_4_0 : Int) (v0_4_1 : Int) (v0_5 : Int) (v0_6 : Int) : roundF prog ev39 L f39 0 [1, 1, 1, 0, 1, 0, 0] (outK (outV prog f39) k xk) g (S39_0 a0 a1 v0_4_0 v0_4_1 v0_5 v0_6) =
  bif (decide (v0_6 < (Nat.cast (List.length a0) : Int))) then bif ((decide ((0 : Int) ≤ v0_6)) && (decide (v0_6 < (Nat.cast (List.length a0) : Int)))) then bif ((decide ((0 : Int) ≤ v0_6)) && (decide (v0_6 < (Nat.cast (List.length a1) : Int)))) then bif ((List.getD a0 (Int.toNat v0_6) (0 : Int)) != (List.getD a1 (Int.toNat v0_6) (0 : Int))) then g (S39_0 a0 a1 v0_4_0 v0_4_1 (Go.IntKind.wrap Go.IntKind.i64 (v0_5 + (1 : Int))) (Go.IntKind.wrap Go.IntKind.i64 (v0_6 + (1 : Int))))
        else g (S39_0 a0 a1 v0_4_0 v0_4_1 v0_5 (Go.IntKind.wrap Go.IntKind.i64 (v0_6 + (1 : Int))))
      else none
    else none
  else k (X39_0 a0 a1 v0_4_0 v0_4_1 v0_5) := by kernel_rfl
theorem t39_0 (L : Nat) (a0 : (List Int)) (a1 : (List Int)) (w0_4_0 : Int) (w0_4_1 : Int) (w0_5 : Int) : (topK prog ev39 L f39 [1, 1, 1, 0, 1] (outV prog f39)).n (X39_0 a0 a1 w0_4_0 w0_4_1 w0_5) =
  some (n39 ((0 : Int), w0_5)) := by kernel_rfl
def l39_0 (L : Nat) (a0 : (List Int)) (a1 : (List Int)) : Nat → Int → Int → Int → Int → (Int → Int → Int → Option (Int × Int)) → Option (Int × Int)
  | 0, _, _, _, _, _ => none
  | n + 1, v0_4_0, v0_4_1, v0_5, v0_6, k =>
    bif (decide (v0_6 < (Nat.cast (List.length a0) : Int))) then bif ((decide ((0 : Int) ≤ v0_6)) && (decide (v0_6 < (Nat.cast (List.length a0) : Int)))) then bif ((decide ((0 : Int) ≤ v0_6)) && (decide (v0_6 < (Nat.cast (List.length a1) : Int)))) then bif ((List.getD a0 (Int.toNat v0_6) (0 : Int)) != (List.getD a1 (Int.toNat v0_6) (0 : Int))) then l39_0 L a0 a1 n v0_4_0 v0_4_1 (Go.IntKind.wrap Go.IntKind.i64 (v0_5 + (1 : Int))) (Go.IntKind.wrap Go.IntKind.i64 (v0_6 + (1 : Int))) k
          else l39_0 L a0 a1 n v0_4_0 v0_4_1 v0_5 (Go.IntKind.wrap Go.IntKind.i64 (v0_6 + (1 : Int))) k
        else none
      else none
    else k v0_4_0 v0_4_1 v0_5
theorem h39_0 (L : Nat) (a0 : (List Int)) (a1 : (List Int)) (k : St cxT.ty → Option (V cxT.ty)) (xk : Nat → St cxT.ty → Option (V cxT.ty)) (k' : Int → Int → Int → Option (Int × Int)) (hk : ∀ (w0_4_0 : Int) (w0_4_1 : Int) (w0_5 : Int), k (X39_0 a0 a1 w0_4_0 w0_4_1 w0_5) = (k' w0_4_0 w0_4_1 w0_5).map n39) : ∀ (n : Nat) (v0_4_0 : Int) (v0_4_1 : Int) (v0_5 : Int) (v0_6 : Int), headF prog ev39 L f39 0 [1, 1, 1, 0, 1, 0, 0] (outK (outV prog f39) k xk) n (S39_0 a0 a1 v0_4_0 v0_4_1 v0_5 v0_6) = (l39_0 L a0 a1 n v0_4_0 v0_4_1 v0_5 v0_6 k').map n39
  | 0, _, _, _, _ => rfl
  | n + 1, v0_4_0, v0_4_1, v0_5, v0_6 => by
    rw [headF_round, r39_0]
    have ih := h39_0 L a0 a1 k xk k' hk n
    simp only [l39_0, map_bif, map_tst, Option.map_some, Option.map_none, ih, hk]
def g39 (L : Nat) (a0 : (List Int)) (a1 : (List Int)) : Option (Int × Int) :=
  bif ((Nat.cast (List.length a0) : Int) != (31 : Int)) then some ((1 : Int), (0 : Int))
  else bif ((Nat.cast (List.length a1) : Int) != (31 : Int)) then some ((1 : Int), (0 : Int))
  else l39_0 L a0 a1 L (0 : Int) (0 : Int) (0 : Int) (0 : Int) (fun (w0_4_0 : Int) (w0_4_1 : Int) (w0_5 : Int) => some ((0 : Int), w0_5))
theorem e39 (L : Nat) (a0 : (List Int)) (a1 : (List Int)) : evF prog ev39 (loopN L) f39 (a39.enc (a0, a1)) = (g39 L a0 a1).map n39 := by
  let K'0 : Int → Int → Int → Option (Int × Int) := (fun (w0_4_0 : Int) (w0_4_1 : Int) (w0_5 : Int) => some ((0 : Int), w0_5))
  have hin0 : ∀ (v0_4_0 : Int) (v0_4_1 : Int) (v0_5 : Int) (v0_6 : Int), headF prog ev39 L f39 0 [1, 1, 1, 0, 1, 0, 0] (outK (outV prog f39) (topK prog ev39 L f39 [1, 1, 1, 0, 1] (outV prog f39)).n (topK prog ev39 L f39 [1, 1, 1, 0, 1] (outV prog f39)).x) L (S39_0 a0 a1 v0_4_0 v0_4_1 v0_5 v0_6) = (l39_0 L a0 a1 L v0_4_0 v0_4_1 v0_5 v0_6 K'0).map n39 := fun v0_4_0 v0_4_1 v0_5 v0_6 => h39_0 L a0 a1 _ _ K'0 (fun w0_4_0 w0_4_1 w0_5 => by rw [t39_0]; simp only [K'0, map_bif, map_tst, Option.map_some, Option.map_none]) L v0_4_0 v0_4_1 v0_5 v0_6
  rw [i39]; simp only [g39, map_bif, map_tst, Option.map_some, Option.map_none, hin0, K'0]
theorem s39 (m : ((List Int) × (List Int)) → Option (Int × Int)) (hm : ∀ (x : ((List Int) × (List Int))) t, m x = some t → ∃ L, g39 L x.1 x.2 = some t) : Sat prog cxT 39 (c39 m) :=
  sat_t cxT_ok cxT_pok (by rfl) (fn := f39) rfl a39 n39 dd39 m ev39 kok_nil kwok_nil (fun L x => g39 L x.1 x.2) (fun L x => e39 L x.1 x.2) hm hs39
/-! loop.example/g00222/laws.toInt64S -/
def ev33 : Env cxT := { Kc := kcOf [], Kw := kwOf [], lv := fun i => if i = 0 then [(0, [some 2]), (3, [some 2]), (4, [])] else [], xv := fun i => if i = 0 then some [(3, [some 2])] else none }
def S33_0 (a0 : (List Int)) (v0_3 : (List Int)) (v0_4 : Int) : St cxT.ty := { slots := [(.inl (.inl (ls { own := 0, nm := 0, e := 2, o := false, xs := a0 }))), junk, junk, (.inl (.inl (ls { own := 1, nm := 192, e := 2, o := true, xs := v0_3 }))), (.inl (.inl (lv (.int .i64 v0_4))))] ++ List.replicate 17 junk, D := [], F := [], ctr := 1 }
def X33_0 (a0 : (List Int)) (w0_3 : (List Int)) : St cxT.ty := { slots := [junk, junk, junk, (.inl (.inl (ls { own := 1, nm := 192, e := 2, o := true, xs := w0_3 })))] ++ List.replicate 18 junk, D := [], F := [], ctr := 1 }
theorem i33 (L : Nat) (a0 : (List Int)) : evF prog ev33 (loopN L) f33 (a33.enc a0) =
  bif (((decide ((0 : Int) ≤ (Nat.cast (List.length a0) : Int))) && (decide ((Nat.cast (List.length a0) : Int) ≤ (Nat.cast (List.length a0) : Int)))) && (decide ((Nat.cast (List.length a0) : Int) ≤ (1000000000 : Int)))) then headF prog ev33 L f33 0 [1, 1, 0, 1, 0, 0] (outK (outV prog f33) (topK prog ev33 L f33 [1, 1, 0, 1] (outV prog f33)).n (topK prog ev33 L f33 [1, 1, 0, 1] (outV prog f33)).x) L (S33_0 a0 (List.replicate (Int.toNat (Nat.cast (List.length a0) : Int)) (0 : Int)) (0 : Int))
  else none := by kernel_rfl
theorem r33_0 (L : Nat) (a0 : (List Int)) (k : St cxT.ty → Option (V cxT.ty)) (xk : Nat → St cxT.ty → Option (V cxT.ty)) (g : St cxT.ty → Option (V cxT.ty)) (v0_3 : (List Int)) (v0_4 : Int) : roundF prog ev33 L f33 0 [1, 1, 0, 1, 0, 0] (outK (outV prog f33) k xk) g (S33_0 a0 v0_3 v0_4) =
  bif (decide (v0_4 < (Nat.cast (List.length a0) : Int))) then bif ((decide ((0 : Int) ≤ v0_4)) && (decide (v0_4 < (Nat.cast (List.length a0) : Int)))) then bif ((decide ((0 : Int) ≤ v0_4)) && (decide (v0_4 < (Nat.cast (List.length v0_3) : Int)))) then g (S33_0 a0 (List.set v0_3 (Int.toNat v0_4) (List.getD a0 (Int.toNat v0_4) (0 : Int))) (Go.IntKind.wrap Go.IntKind.i64 (v0_4 + (1 : Int))))
      else none
    else none
  else k (X33_0 a0 v0_3) := by kernel_rfl
theorem t33_0 (L : Nat) (a0 : (List Int)) (w0_3 : (List Int)) : (topK prog ev33 L f33 [1, 1, 0, 1] (outV prog f33)).n (X33_0 a0 w0_3) =
  some (n33 w0_3) := by kernel_rfl
def l33_0 (L : Nat) (a0 : (List Int)) : Nat → (List Int) → Int → ((List Int) → Option (List Int)) → Option (List Int)
  | 0, _, _, _ => none
  | n + 1, v0_3, v0_4, k =>
    bif (decide (v0_4 < (Nat.cast (List.length a0) : Int))) then bif ((decide ((0 : Int) ≤ v0_4)) && (decide (v0_4 < (Nat.cast (List.length a0) : Int)))) then bif ((decide ((0 : Int) ≤ v0_4)) && (decide (v0_4 < (Nat.cast (List.length v0_3) : Int)))) then l33_0 L a0 n (List.set v0_3 (Int.toNat v0_4) (List.getD a0 (Int.toNat v0_4) (0 : Int))) (Go.IntKind.wrap Go.IntKind.i64 (v0_4 + (1 : Int))) k
        else none
      else none
    else k v0_3
theorem h33_0 (L : Nat) (a0 : (List Int)) (k : St cxT.ty → Option (V cxT.ty)) (xk : Nat → St cxT.ty → Option (V cxT.ty)) (k' : (List Int) → Option (List Int)) (hk : ∀ (w0_3 : (List Int)), k (X33_0 a0 w0_3) = (k' w0_3).map n33) : ∀ (n : Nat) (v0_3 : (List Int)) (v0_4 : Int), headF prog ev33 L f33 0 [1, 1, 0, 1, 0, 0] (outK (outV prog f33) k xk) n (S33_0 a0 v0_3 v0_4) = (l33_0 L a0 n v0_3 v0_4 k').map n33
  | 0, _, _ => rfl
  | n + 1, v0_3, v0_4 => by
    rw [headF_round, r33_0]
    have ih := h33_0 L a0 k xk k' hk n
    simp only [l33_0, map_bif, map_tst, Option.map_some, Option.map_none, ih, hk]
def g33 (L : Nat) (a0 : (List Int)) : Option (List Int) :=
  bif (((decide ((0 : Int) ≤ (Nat.cast (List.length a0) : Int))) && (decide ((Nat.cast (List.length a0) : Int) ≤ (Nat.cast (List.length a0) : Int)))) && (decide ((Nat.cast (List.length a0) : Int) ≤ (1000000000 : Int)))) then l33_0 L a0 L (List.replicate (Int.toNat (Nat.cast (List.length a0) : Int)) (0 : Int)) (0 : Int) (fun (w0_3 : (List Int)) => some w0_3)
  else none
theorem e33 (L : Nat) (a0 : (List Int)) : evF prog ev33 (loopN L) f33 (a33.enc a0) = (g33 L a0).map n33 := by
  let K'0 : (List Int) → Option (List Int) := (fun (w0_3 : (List Int)) => some w0_3)
  have hin0 : ∀ (v0_3 : (List Int)) (v0_4 : Int), headF prog ev33 L f33 0 [1, 1, 0, 1, 0, 0] (outK (outV prog f33) (topK prog ev33 L f33 [1, 1, 0, 1] (outV prog f33)).n (topK prog ev33 L f33 [1, 1, 0, 1] (outV prog f33)).x) L (S33_0 a0 v0_3 v0_4) = (l33_0 L a0 L v0_3 v0_4 K'0).map n33 := fun v0_3 v0_4 => h33_0 L a0 _ _ K'0 (fun w0_3 => by rw [t33_0]; simp only [K'0, map_bif, map_tst, Option.map_some, Option.map_none]) L v0_3 v0_4
  rw [i33]; simp only [g33, map_bif, map_tst, Option.map_some, Option.map_none, hin0, K'0]
theorem s33 (m : (List Int) → Option (List Int)) (hm : ∀ (x : (List Int)) t, m x = some t → ∃ L, g33 L x = some t) : Sat prog cxT 33 (c33 m) :=
  sat_t cxT_ok cxT_pok (by rfl) (fn := f33) rfl a33 n33 dd33 m ev33 kok_nil kwok_nil (fun L x => g33 L x) (fun L x => e33 L x) hm hs33
/-! loop.example/g00222/laws.eqInt64S -/
def ev34 : Env cxT := { Kc := kcOf [], Kw := kwOf [], lv := fun i => if i = 0 then [(0, [some 2]), (1, [some 2]), (5, [])] else [], xv := fun i => if i = 0 then some [] else none }
def S34_0 (a0 : (List Int)) (a1 : (List Int)) (v0_5 : Int) : St cxT.ty := { slots := [(.inl (.inl (ls { own := 0, nm := 0, e := 2, o := false, xs := a0 }))), (.inl (.inl (ls { own := 0, nm := 0, e := 2, o := false, xs := a1 }))), junk, junk, junk, (.inl (.inl (lv (.int .i64 v0_5))))] ++ List.replicate 20 junk, D := [], F := [], ctr := 1 }
def X34_0 (a0 : (List Int)) (a1 : (List Int)) : St cxT.ty := { slots := [] ++ List.replicate 26 junk, D := [], F := [], ctr := 1 }
theorem i34 (L : Nat) (a0 : (List Int)) (a1 : (List Int)) : evF prog ev34 (loopN L) f34 (a34.enc (a0, a1)) =
  bif ((Nat.cast (List.length a0) : Int) != (Nat.cast (List.length a1) : Int)) then some (n34 Bool.false)
  else headF prog ev34 L f34 0 [1, 1, 0, 1, 0, 0] (outK (outV prog f34) (topK prog ev34 L f34 [1, 1, 0, 1] (outV prog f34)).n (topK prog ev34 L f34 [1, 1, 0, 1] (outV prog f34)).x) L (S34_0 a0 a1 (0 : Int)) := by kernel_rfl
theorem r34_0 (L : Nat) (a0 : (List Int)) (a1 : (List Int)) (k : St cxT.ty → Option (V cxT.ty)) (xk : Nat → St cxT.ty → Option (V cxT.ty)) (g : St cxT.ty → Option (V cxT.ty)) (v0_5 : Int) : roundF prog ev34 L f34 0 [1, 1, 0, 1, 0, 0] (outK (outV prog f34) k xk) g (S34_0 a0 a1 v0_5) =
  bif (decide (v0_5 < (Nat.cast (List.length a0) : Int))) then bif ((decide ((0 : Int) ≤ v0_5)) && (decide (v0_5 < (Nat.cast (List.length a0) : Int)))) then bif ((decide ((0 : Int) ≤ v0_5)) && (decide (v0_5 < (Nat.cast (List.length a1) : Int)))) then bif ((List.getD a0 (Int.toNat v0_5) (0 : Int)) != (List.getD a1 (Int.toNat v0_5) (0 : Int))) then some (n34 Bool.false)
        else g (S34_0 a0 a1 (Go.IntKind.wrap Go.IntKind.i64 (v0_5 + (1 : Int))))
      else none
    else none
  else k (X34_0 a0 a1) := by kernel_rfl
theorem t34_0 (L : Nat) (a0 : (List Int)) (a1 : (List Int)) : (topK prog ev34 L f34 [1, 1, 0, 1] (outV prog f34)).n (X34_0 a0 a1) =
  some (n34 Bool.true) := by kernel_rfl
def l34_0 (L : Nat) (a0 : (List Int)) (a1 : (List Int)) : Nat → Int → (Option Bool) → Option Bool
  | 0, _, _ => none
  | n + 1, v0_5, k =>
    bif (decide (v0_5 < (Nat.cast (List.length a0) : Int))) then bif ((decide ((0 : Int) ≤ v0_5)) && (decide (v0_5 < (Nat.cast (List.length a0) : Int)))) then bif ((decide ((0 : Int) ≤ v0_5)) && (decide (v0_5 < (Nat.cast (List.length a1) : Int)))) then bif ((List.getD a0 (Int.toNat v0_5) (0 : Int)) != (List.getD a1 (Int.toNat v0_5) (0 : Int))) then some Bool.false
          else l34_0 L a0 a1 n (Go.IntKind.wrap Go.IntKind.i64 (v0_5 + (1 : Int))) k
        else none
      else none
    else k
theorem h34_0 (L : Nat) (a0 : (List Int)) (a1 : (List Int)) (k : St cxT.ty → Option (V cxT.ty)) (xk : Nat → St cxT.ty → Option (V cxT.ty)) (k' : Option Bool) (hk : k (X34_0 a0 a1) = (k').map n34) : ∀ (n : Nat) (v0_5 : Int), headF prog ev34 L f34 0 [1, 1, 0, 1, 0, 0] (outK (outV prog f34) k xk) n (S34_0 a0 a1 v0_5) = (l34_0 L a0 a1 n v0_5 k').map n34
  | 0, _ => rfl
  | n + 1, v0_5 => by
    rw [headF_round, r34_0]
    have ih := h34_0 L a0 a1 k xk k' hk n
    simp only [l34_0, map_bif, map_tst, Option.map_some, Option.map_none, ih, hk]
def g34 (L : Nat) (a0 : (List Int)) (a1 : (List Int)) : Option Bool :=
  bif ((Nat.cast (List.length a0) : Int) != (Nat.cast (List.length a1) : Int)) then some Bool.false
  else l34_0 L a0 a1 L (0 : Int) (some Bool.true)
theorem e34 (L : Nat) (a0 : (List Int)) (a1 : (List Int)) : evF prog ev34 (loopN L) f34 (a34.enc (a0, a1)) = (g34 L a0 a1).map n34 := by
  let K'0 : Option Bool := (some Bool.true)
  have hin0 : ∀ (v0_5 : Int), headF prog ev34 L f34 0 [1, 1, 0, 1, 0, 0] (outK (outV prog f34) (topK prog ev34 L f34 [1, 1, 0, 1] (outV prog f34)).n (topK prog ev34 L f34 [1, 1, 0, 1] (outV prog f34)).x) L (S34_0 a0 a1 v0_5) = (l34_0 L a0 a1 L v0_5 K'0).map n34 := fun v0_5 => h34_0 L a0 a1 _ _ K'0 (by rw [t34_0]; simp only [K'0, map_bif, map_tst, Option.map_some, Option.map_none]) L v0_5
  rw [i34]; simp only [g34, map_bif, map_tst, Option.map_some, Option.map_none, hin0, K'0]
theorem s34 (m : ((List Int) × (List Int)) → Option Bool) (hm : ∀ (x : ((List Int) × (List Int))) t, m x = some t → ∃ L, g34 L x.1 x.2 = some t) : Sat prog cxT 34 (c34 m) :=
  sat_t cxT_ok cxT_pok (by rfl) (fn := f34) rfl a34 n34 dd34 m ev34 kok_nil kwok_nil (fun L x => g34 L x.1 x.2) (fun L x => e34 L x.1 x.2) hm hs34
end Go.Proofs.Try

set_option maxHeartbeats 0
set_option linter.unusedVariables false
set_option linter.unusedSimpArgs false
namespace Go.Proofs.Try
open Go Go.VM Go.RowKit
/-! loop.example/g00222/laws.toShareS -/
def ev25 (m55 : (Int × Int) → Option (Int × Int)) : Env cxT := { Kc := kcOf [(55, c55 m55)], Kw := kwOf [], lv := fun i => if i = 0 then [(0, [some 77]), (3, [some 31]), (4, [])] else [], xv := fun i => if i = 0 then some [(3, [some 31])] else none }
def S25_0 (a0 : (List (Int × Int))) (v0_3 : (List (Int × Int))) (v0_4 : Int) : St cxT.ty := { slots := [(.inl (.inl (ls { own := 0, nm := 0, e := 77, o := false, xs := a0 }))), junk, junk, (.inl (.inl (ls { own := 1, nm := 192, e := 31, o := true, xs := v0_3 }))), (.inl (.inl (lv (.int .i64 v0_4))))] ++ List.replicate 18 junk, D := [], F := [], ctr := 1 }
def X25_0 (a0 : (List (Int × Int))) (w0_3 : (List (Int × Int))) : St cxT.ty := { slots := [junk, junk, junk, (.inl (.inl (ls { own := 1, nm := 192, e := 31, o := true, xs := w0_3 })))] ++ List.replicate 19 junk, D := [], F := [], ctr := 1 }
theorem i25 (m55 : (Int × Int) → Option (Int × Int)) (L : Nat) (a0 : (List (Int × Int))) : evF prog (ev25 m55) (loopN L) f25 (a25.enc a0) =
  bif (((decide ((0 : Int) ≤ (Nat.cast (List.length a0) : Int))) && (decide ((Nat.cast (List.length a0) : Int) ≤ (Nat.cast (List.length a0) : Int)))) && (decide ((Nat.cast (List.length a0) : Int) ≤ (1000000000 : Int)))) then headF prog (ev25 m55) L f25 0 [1, 1, 0, 1, 0, 0] (outK (outV prog f25) (topK prog (ev25 m55) L f25 [1, 1, 0, 1] (outV prog f25)).n (topK prog (ev25 m55) L f25 [1, 1, 0, 1] (outV prog f25)).x) L (S25_0 a0 (List.replicate (Int.toNat (Nat.cast (List.length a0) : Int)) ((0 : Int), (0 : Int))) (0 : Int))
  else none := by kernel_rfl
theorem r25_0 (m55 : (Int × Int) → Option (Int × Int)) (L : Nat) (a0 : (List (Int × Int))) (k : St cxT.ty → Option (V cxT.ty)) (xk : Nat → St cxT.ty → Option (V cxT.ty)) (g : St cxT.ty → Option (V cxT.ty)) (v0_3 : (List (Int × Int))) (v0_4 : Int) : roundF prog (ev25 m55) L f25 0 [1, 1, 0, 1, 0, 0] (outK (outV prog f25) k xk) g (S25_0 a0 v0_3 v0_4) =
  bif (decide (v0_4 < (Nat.cast (List.length a0) : Int))) then bif ((decide ((0 : Int) ≤ v0_4)) && (decide (v0_4 < (Nat.cast (List.length a0) : Int)))) then tst (m55 ((List.getD a0 (Int.toNat v0_4) ((0 : Int), (0 : Int))).1, (List.getD a0 (Int.toNat v0_4) ((0 : Int), (0 : Int))).2)) ((0 : Int), (0 : Int)) fun (q3 : (Int × Int)) => bif ((decide ((0 : Int) ≤ v0_4)) && (decide (v0_4 < (Nat.cast (List.length v0_3) : Int)))) then g (S25_0 a0 (List.set v0_3 (Int.toNat v0_4) (q3.1, q3.2)) (Go.IntKind.wrap Go.IntKind.i64 (v0_4 + (1 : Int))))
        else none
    else none
  else k (X25_0 a0 v0_3) := by kernel_rfl
theorem t25_0 (m55 : (Int × Int) → Option (Int × Int)) (L : Nat) (a0 : (List (Int × Int))) (w0_3 : (List (Int × Int))) : (topK prog (ev25 m55) L f25 [1, 1, 0, 1] (outV prog f25)).n (X25_0 a0 w0_3) =
  some (n25 w0_3) := by kernel_rfl
def l25_0 (m55 : (Int × Int) → Option (Int × Int)) (L : Nat) (a0 : (List (Int × Int))) : Nat → (List (Int × Int)) → Int → ((List (Int × Int)) → Option (List (Int × Int))) → Option (List (Int × Int))
  | 0, _, _, _ => none
  | n + 1, v0_3, v0_4, k =>
    bif (decide (v0_4 < (Nat.cast (List.length a0) : Int))) then bif ((decide ((0 : Int) ≤ v0_4)) && (decide (v0_4 < (Nat.cast (List.length a0) : Int)))) then tst (m55 ((List.getD a0 (Int.toNat v0_4) ((0 : Int), (0 : Int))).1, (List.getD a0 (Int.toNat v0_4) ((0 : Int), (0 : Int))).2)) ((0 : Int), (0 : Int)) fun (q4 : (Int × Int)) => bif ((decide ((0 : Int) ≤ v0_4)) && (decide (v0_4 < (Nat.cast (List.length v0_3) : Int)))) then l25_0 m55 L a0 n (List.set v0_3 (Int.toNat v0_4) (q4.1, q4.2)) (Go.IntKind.wrap Go.IntKind.i64 (v0_4 + (1 : Int))) k
          else none
      else none
    else k v0_3
theorem h25_0 (m55 : (Int × Int) → Option (Int × Int)) (L : Nat) (a0 : (List (Int × Int))) (k : St cxT.ty → Option (V cxT.ty)) (xk : Nat → St cxT.ty → Option (V cxT.ty)) (k' : (List (Int × Int)) → Option (List (Int × Int))) (hk : ∀ (w0_3 : (List (Int × Int))), k (X25_0 a0 w0_3) = (k' w0_3).map n25) : ∀ (n : Nat) (v0_3 : (List (Int × Int))) (v0_4 : Int), headF prog (ev25 m55) L f25 0 [1, 1, 0, 1, 0, 0] (outK (outV prog f25) k xk) n (S25_0 a0 v0_3 v0_4) = (l25_0 m55 L a0 n v0_3 v0_4 k').map n25
  | 0, _, _ => rfl
  | n + 1, v0_3, v0_4 => by
    rw [headF_round, r25_0]
    have ih := h25_0 m55 L a0 k xk k' hk n
    simp only [l25_0, map_bif, map_tst, Option.map_some, Option.map_none, ih, hk]
def g25 (m55 : (Int × Int) → Option (Int × Int)) (L : Nat) (a0 : (List (Int × Int))) : Option (List (Int × Int)) :=
  bif (((decide ((0 : Int) ≤ (Nat.cast (List.length a0) : Int))) && (decide ((Nat.cast (List.length a0) : Int) ≤ (Nat.cast (List.length a0) : Int)))) && (decide ((Nat.cast (List.length a0) : Int) ≤ (1000000000 : Int)))) then l25_0 m55 L a0 L (List.replicate (Int.toNat (Nat.cast (List.length a0) : Int)) ((0 : Int), (0 : Int))) (0 : Int) (fun (w0_3 : (List (Int × Int))) => some w0_3)
  else none
theorem e25 (m55 : (Int × Int) → Option (Int × Int)) (L : Nat) (a0 : (List (Int × Int))) : evF prog (ev25 m55) (loopN L) f25 (a25.enc a0) = (g25 m55 L a0).map n25 := by
  let K'0 : (List (Int × Int)) → Option (List (Int × Int)) := (fun (w0_3 : (List (Int × Int))) => some w0_3)
  have hin0 : ∀ (v0_3 : (List (Int × Int))) (v0_4 : Int), headF prog (ev25 m55) L f25 0 [1, 1, 0, 1, 0, 0] (outK (outV prog f25) (topK prog (ev25 m55) L f25 [1, 1, 0, 1] (outV prog f25)).n (topK prog (ev25 m55) L f25 [1, 1, 0, 1] (outV prog f25)).x) L (S25_0 a0 v0_3 v0_4) = (l25_0 m55 L a0 L v0_3 v0_4 K'0).map n25 := fun v0_3 v0_4 => h25_0 m55 L a0 _ _ K'0 (fun w0_3 => by rw [t25_0]; simp only [K'0, map_bif, map_tst, Option.map_some, Option.map_none]) L v0_3 v0_4
  rw [i25]; simp only [g25, map_bif, map_tst, Option.map_some, Option.map_none, hin0, K'0]
theorem s25 (m55 : (Int × Int) → Option (Int × Int)) (h55 : Sat prog cxT 55 (c55 m55)) (m : (List (Int × Int)) → Option (List (Int × Int))) (hm : ∀ (x : (List (Int × Int))) t, m x = some t → ∃ L, g25 m55 L x = some t) : Sat prog cxT 25 (c25 m) :=
  sat_t cxT_ok cxT_pok (by rfl) (fn := f25) rfl a25 n25 dd25 m (ev25 m55) (kok_cons h55 kok_nil) kwok_nil (fun L x => g25 m55 L x) (fun L x => e25 m55 L x) hm hs25
/-! loop.example/g00222/impl.SharesFault -/
def ev26 (m56 : Int → Option Bool) (m57 : Int → Option Bool) : Env cxT := { Kc := kcOf [(56, c56 m56), (57, c57 m57)], Kw := kwOf [], lv := fun i => if i = 0 then [(3, []), (9, [some 31]), (10, []), (11, [])] else [], xv := fun i => if i = 0 then some [] else none }
def S26_0 (a0 : (List (Int × Int))) (v0_3 : Int) (v0_11 : Int) : St cxT.ty := { slots := [junk, junk, junk, (.inl (.inl (lv (.int .i64 v0_3)))), junk, junk, junk, junk, junk, (.inl (.inl (ls { own := 0, nm := 0, e := 31, o := false, xs := a0 }))), (.inl (.inl (lv (.int .i64 (Nat.cast (List.length a0) : Int))))), (.inl (.inl (lv (.int .i64 v0_11))))] ++ List.replicate 20 junk, D := [], F := [], ctr := 1 }
def X26_0 (a0 : (List (Int × Int))) : St cxT.ty := { slots := [] ++ List.replicate 32 junk, D := [], F := [], ctr := 1 }
theorem i26 (m56 : Int → Option Bool) (m57 : Int → Option Bool) (L : Nat) (a0 : (List (Int × Int))) : evF prog (ev26 m56 m57) (loopN L) f26 (a26.enc a0) =
  bif (decide ((Nat.cast (List.length a0) : Int) > (8 : Int))) then some (n26 (2 : Int))
  else headF prog (ev26 m56 m57) L f26 0 [1, 1, 1, 0, 1, 0, 0] (outK (outV prog f26) (topK prog (ev26 m56 m57) L f26 [1, 1, 1, 0, 1] (outV prog f26)).n (topK prog (ev26 m56 m57) L f26 [1, 1, 1, 0, 1] (outV prog f26)).x) L (S26_0 a0 (0 : Int) (0 : Int)) := by kernel_rfl
theorem r26_0 (m56 : Int → Option Bool) (m57 : Int → Option Bool) (L : Nat) (a0 : (List (Int × Int))) (k : St cxT.ty → Option (V cxT.ty)) (xk : Nat → St cxT.ty → Option (V cxT.ty)) (g : St cxT.ty → Option (V cxT.ty)) (v0_3 : Int) (v0_11 : Int) : roundF prog (ev26 m56 m57) L f26 0 [1, 1, 1, 0, 1, 0, 0] (outK (outV prog f26) k xk) g (S26_0 a0 v0_3 v0_11) =
  bif (decide (v0_11 < (Nat.cast (List.length a0) : Int))) then bif ((decide ((0 : Int) ≤ v0_11)) && (decide (v0_11 < (Nat.cast (List.length a0) : Int)))) then tst (m56 (List.getD a0 (Int.toNat v0_11) ((0 : Int), (0 : Int))).1) false fun (q3 : Bool) => bif (!q3) then some (n26 (3 : Int))
        else tst (m57 (List.getD a0 (Int.toNat v0_11) ((0 : Int), (0 : Int))).2) false fun (q4 : Bool) => bif (!q4) then some (n26 (3 : Int))
          else bif (decide ((List.getD a0 (Int.toNat v0_11) ((0 : Int), (0 : Int))).1 ≤ v0_3)) then some (n26 (1 : Int))
          else g (S26_0 a0 (List.getD a0 (Int.toNat v0_11) ((0 : Int), (0 : Int))).1 (Go.IntKind.wrap Go.IntKind.i64 (v0_11 + (1 : Int))))
    else none
  else k (X26_0 a0) := by kernel_rfl
theorem t26_0 (m56 : Int → Option Bool) (m57 : Int → Option Bool) (L : Nat) (a0 : (List (Int × Int))) : (topK prog (ev26 m56 m57) L f26 [1, 1, 1, 0, 1] (outV prog f26)).n (X26_0 a0) =
  some (n26 (0 : Int)) := by kernel_rfl
def l26_0 (m56 : Int → Option Bool) (m57 : Int → Option Bool) (L : Nat) (a0 : (List (Int × Int))) : Nat → Int → Int → (Option Int) → Option Int
  | 0, _, _, _ => none
  | n + 1, v0_3, v0_11, k =>
    bif (decide (v0_11 < (Nat.cast (List.length a0) : Int))) then bif ((decide ((0 : Int) ≤ v0_11)) && (decide (v0_11 < (Nat.cast (List.length a0) : Int)))) then tst (m56 (List.getD a0 (Int.toNat v0_11) ((0 : Int), (0 : Int))).1) false fun (q4 : Bool) => bif (!q4) then some (3 : Int)
          else tst (m57 (List.getD a0 (Int.toNat v0_11) ((0 : Int), (0 : Int))).2) false fun (q5 : Bool) => bif (!q5) then some (3 : Int)
            else bif (decide ((List.getD a0 (Int.toNat v0_11) ((0 : Int), (0 : Int))).1 ≤ v0_3)) then some (1 : Int)
            else l26_0 m56 m57 L a0 n (List.getD a0 (Int.toNat v0_11) ((0 : Int), (0 : Int))).1 (Go.IntKind.wrap Go.IntKind.i64 (v0_11 + (1 : Int))) k
      else none
    else k
theorem h26_0 (m56 : Int → Option Bool) (m57 : Int → Option Bool) (L : Nat) (a0 : (List (Int × Int))) (k : St cxT.ty → Option (V cxT.ty)) (xk : Nat → St cxT.ty → Option (V cxT.ty)) (k' : Option Int) (hk : k (X26_0 a0) = (k').map n26) : ∀ (n : Nat) (v0_3 : Int) (v0_11 : Int), headF prog (ev26 m56 m57) L f26 0 [1, 1, 1, 0, 1, 0, 0] (outK (outV prog f26) k xk) n (S26_0 a0 v0_3 v0_11) = (l26_0 m56 m57 L a0 n v0_3 v0_11 k').map n26
  | 0, _, _ => rfl
  | n + 1, v0_3, v0_11 => by
    rw [headF_round, r26_0]
    have ih := h26_0 m56 m57 L a0 k xk k' hk n
    simp only [l26_0, map_bif, map_tst, Option.map_some, Option.map_none, ih, hk]
def g26 (m56 : Int → Option Bool) (m57 : Int → Option Bool) (L : Nat) (a0 : (List (Int × Int))) : Option Int :=
  bif (decide ((Nat.cast (List.length a0) : Int) > (8 : Int))) then some (2 : Int)
  else l26_0 m56 m57 L a0 L (0 : Int) (0 : Int) (some (0 : Int))
theorem e26 (m56 : Int → Option Bool) (m57 : Int → Option Bool) (L : Nat) (a0 : (List (Int × Int))) : evF prog (ev26 m56 m57) (loopN L) f26 (a26.enc a0) = (g26 m56 m57 L a0).map n26 := by
  let K'0 : Option Int := (some (0 : Int))
  have hin0 : ∀ (v0_3 : Int) (v0_11 : Int), headF prog (ev26 m56 m57) L f26 0 [1, 1, 1, 0, 1, 0, 0] (outK (outV prog f26) (topK prog (ev26 m56 m57) L f26 [1, 1, 1, 0, 1] (outV prog f26)).n (topK prog (ev26 m56 m57) L f26 [1, 1, 1, 0, 1] (outV prog f26)).x) L (S26_0 a0 v0_3 v0_11) = (l26_0 m56 m57 L a0 L v0_3 v0_11 K'0).map n26 := fun v0_3 v0_11 => h26_0 m56 m57 L a0 _ _ K'0 (by rw [t26_0]; simp only [K'0, map_bif, map_tst, Option.map_some, Option.map_none]) L v0_3 v0_11
  rw [i26]; simp only [g26, map_bif, map_tst, Option.map_some, Option.map_none, hin0, K'0]
theorem s26 (m56 : Int → Option Bool) (m57 : Int → Option Bool) (h56 : Sat prog cxT 56 (c56 m56)) (h57 : Sat prog cxT 57 (c57 m57)) (m : (List (Int × Int)) → Option Int) (hm : ∀ (x : (List (Int × Int))) t, m x = some t → ∃ L, g26 m56 m57 L x = some t) : Sat prog cxT 26 (c26 m) :=
  sat_t cxT_ok cxT_pok (by rfl) (fn := f26) rfl a26 n26 dd26 m (ev26 m56 m57) (kok_cons h56 (kok_cons h57 kok_nil)) kwok_nil (fun L x => g26 m56 m57 L x) (fun L x => e26 m56 m57 L x) hm hs26
/-! loop.example/g00222/spec.SharesFault -/
def ev24 (m53 : Int → Option Bool) (m54 : (Int × Int × Int) → Option Bool) : Env cxT := { Kc := kcOf [(53, c53 m53), (54, c54 m54)], Kw := kwOf [], lv := fun i => if i = 0 then [(0, [some 31]), (3, [])] else [], xv := fun i => if i = 0 then some [] else none }
def S24_0 (a0 : (List (Int × Int))) (v0_3 : Int) : St cxT.ty := { slots := [(.inl (.inl (ls { own := 0, nm := 0, e := 31, o := false, xs := a0 }))), junk, junk, (.inl (.inl (lv (.int .i64 v0_3))))] ++ List.replicate 41 junk, D := [], F := [], ctr := 1 }
def X24_0 (a0 : (List (Int × Int))) : St cxT.ty := { slots := [] ++ List.replicate 45 junk, D := [], F := [], ctr := 1 }
theorem i24 (m53 : Int → Option Bool) (m54 : (Int × Int × Int) → Option Bool) (L : Nat) (a0 : (List (Int × Int))) : evF prog (ev24 m53 m54) (loopN L) f24 (a24.enc a0) =
  bif (decide ((Nat.cast (List.length a0) : Int) > (8 : Int))) then some (n24 (2 : Int))
  else headF prog (ev24 m53 m54) L f24 0 [1, 1, 0, 1, 0, 0] (outK (outV prog f24) (topK prog (ev24 m53 m54) L f24 [1, 1, 0, 1] (outV prog f24)).n (topK prog (ev24 m53 m54) L f24 [1, 1, 0, 1] (outV prog f24)).x) L (S24_0 a0 (0 : Int)) := by kernel_rfl
theorem r24_0 (m53 : Int → Option Bool) (m54 : (Int × Int × Int) → Option Bool) (L : Nat) (a0 : (List (Int × Int))) (k : St cxT.ty → Option (V cxT.ty)) (xk : Nat → St cxT.ty → Option (V cxT.ty)) (g : St cxT.ty → Option (V cxT.ty)) (v0_3 : Int) : roundF prog (ev24 m53 m54) L f24 0 [1, 1, 0, 1, 0, 0] (outK (outV prog f24) k xk) g (S24_0 a0 v0_3) =
  bif (decide (v0_3 < (Nat.cast (List.length a0) : Int))) then bif ((decide ((0 : Int) ≤ v0_3)) && (decide (v0_3 < (Nat.cast (List.length a0) : Int)))) then tst (m53 (List.getD a0 (Int.toNat v0_3) ((0 : Int), (0 : Int))).1) false fun (q3 : Bool) => bif (!q3) then some (n24 (3 : Int))
        else bif ((decide ((0 : Int) ≤ v0_3)) && (decide (v0_3 < (Nat.cast (List.length a0) : Int)))) then tst (m54 ((List.getD a0 (Int.toNat v0_3) ((0 : Int), (0 : Int))).2, ((0 : Int), (9 : Int)))) false fun (q5 : Bool) => bif (!q5) then some (n24 (3 : Int))
            else bif (decide (v0_3 > (0 : Int))) then bif ((decide ((0 : Int) ≤ v0_3)) && (decide (v0_3 < (Nat.cast (List.length a0) : Int)))) then bif ((decide ((0 : Int) ≤ (Go.IntKind.wrap Go.IntKind.i64 (v0_3 - (1 : Int))))) && (decide ((Go.IntKind.wrap Go.IntKind.i64 (v0_3 - (1 : Int))) < (Nat.cast (List.length a0) : Int)))) then bif (decide ((List.getD a0 (Int.toNat v0_3) ((0 : Int), (0 : Int))).1 ≤ (List.getD a0 (Int.toNat (Go.IntKind.wrap Go.IntKind.i64 (v0_3 - (1 : Int)))) ((0 : Int), (0 : Int))).1)) then some (n24 (1 : Int))
                  else g (S24_0 a0 (Go.IntKind.wrap Go.IntKind.i64 (v0_3 + (1 : Int))))
                else none
              else none
            else g (S24_0 a0 (Go.IntKind.wrap Go.IntKind.i64 (v0_3 + (1 : Int))))
        else none
    else none
  else k (X24_0 a0) := by kernel_rfl
theorem t24_0 (m53 : Int → Option Bool) (m54 : (Int × Int × Int) → Option Bool) (L : Nat) (a0 : (List (Int × Int))) : (topK prog (ev24 m53 m54) L f24 [1, 1, 0, 1] (outV prog f24)).n (X24_0 a0) =
  some (n24 (0 : Int)) := by kernel_rfl
def l24_0 (m53 : Int → Option Bool) (m54 : (Int × Int × Int) → Option Bool) (L : Nat) (a0 : (List (Int × Int))) : Nat → Int → (Option Int) → Option Int
  | 0, _, _ => none
  | n + 1, v0_3, k =>
    bif (decide (v0_3 < (Nat.cast (List.length a0) : Int))) then bif ((decide ((0 : Int) ≤ v0_3)) && (decide (v0_3 < (Nat.cast (List.length a0) : Int)))) then tst (m53 (List.getD a0 (Int.toNat v0_3) ((0 : Int), (0 : Int))).1) false fun (q4 : Bool) => bif (!q4) then some (3 : Int)
          else bif ((decide ((0 : Int) ≤ v0_3)) && (decide (v0_3 < (Nat.cast (List.length a0) : Int)))) then tst (m54 ((List.getD a0 (Int.toNat v0_3) ((0 : Int), (0 : Int))).2, ((0 : Int), (9 : Int)))) false fun (q6 : Bool) => bif (!q6) then some (3 : Int)
              else bif (decide (v0_3 > (0 : Int))) then bif ((decide ((0 : Int) ≤ v0_3)) && (decide (v0_3 < (Nat.cast (List.length a0) : Int)))) then bif ((decide ((0 : Int) ≤ (Go.IntKind.wrap Go.IntKind.i64 (v0_3 - (1 : Int))))) && (decide ((Go.IntKind.wrap Go.IntKind.i64 (v0_3 - (1 : Int))) < (Nat.cast (List.length a0) : Int)))) then bif (decide ((List.getD a0 (Int.toNat v0_3) ((0 : Int), (0 : Int))).1 ≤ (List.getD a0 (Int.toNat (Go.IntKind.wrap Go.IntKind.i64 (v0_3 - (1 : Int)))) ((0 : Int), (0 : Int))).1)) then some (1 : Int)
                    else l24_0 m53 m54 L a0 n (Go.IntKind.wrap Go.IntKind.i64 (v0_3 + (1 : Int))) k
                  else none
                else none
              else l24_0 m53 m54 L a0 n (Go.IntKind.wrap Go.IntKind.i64 (v0_3 + (1 : Int))) k
          else none
      else none
    else k
theorem h24_0 (m53 : Int → Option Bool) (m54 : (Int × Int × Int) → Option Bool) (L : Nat) (a0 : (List (Int × Int))) (k : St cxT.ty → Option (V cxT.ty)) (xk : Nat → St cxT.ty → Option (V cxT.ty)) (k' : Option Int) (hk : k (X24_0 a0) = (k').map n24) : ∀ (n : Nat) (v0_3 : Int), headF prog (ev24 m53 m54) L f24 0 [1, 1, 0, 1, 0, 0] (outK (outV prog f24) k xk) n (S24_0 a0 v0_3) = (l24_0 m53 m54 L a0 n v0_3 k').map n24
  | 0, _ => rfl
  | n + 1, v0_3 => by
    rw [headF_round, r24_0]
    have ih := h24_0 m53 m54 L a0 k xk k' hk n
    simp only [l24_0, map_bif, map_tst, Option.map_some, Option.map_none, ih, hk]
def g24 (m53 : Int → Option Bool) (m54 : (Int × Int × Int) → Option Bool) (L : Nat) (a0 : (List (Int × Int))) : Option Int :=
  bif (decide ((Nat.cast (List.length a0) : Int) > (8 : Int))) then some (2 : Int)
  else l24_0 m53 m54 L a0 L (0 : Int) (some (0 : Int))
theorem e24 (m53 : Int → Option Bool) (m54 : (Int × Int × Int) → Option Bool) (L : Nat) (a0 : (List (Int × Int))) : evF prog (ev24 m53 m54) (loopN L) f24 (a24.enc a0) = (g24 m53 m54 L a0).map n24 := by
  let K'0 : Option Int := (some (0 : Int))
  have hin0 : ∀ (v0_3 : Int), headF prog (ev24 m53 m54) L f24 0 [1, 1, 0, 1, 0, 0] (outK (outV prog f24) (topK prog (ev24 m53 m54) L f24 [1, 1, 0, 1] (outV prog f24)).n (topK prog (ev24 m53 m54) L f24 [1, 1, 0, 1] (outV prog f24)).x) L (S24_0 a0 v0_3) = (l24_0 m53 m54 L a0 L v0_3 K'0).map n24 := fun v0_3 => h24_0 m53 m54 L a0 _ _ K'0 (by rw [t24_0]; simp only [K'0, map_bif, map_tst, Option.map_some, Option.map_none]) L v0_3
  rw [i24]; simp only [g24, map_bif, map_tst, Option.map_some, Option.map_none, hin0, K'0]
theorem s24 (m53 : Int → Option Bool) (m54 : (Int × Int × Int) → Option Bool) (h53 : Sat prog cxT 53 (c53 m53)) (h54 : Sat prog cxT 54 (c54 m54)) (m : (List (Int × Int)) → Option Int) (hm : ∀ (x : (List (Int × Int))) t, m x = some t → ∃ L, g24 m53 m54 L x = some t) : Sat prog cxT 24 (c24 m) :=
  sat_t cxT_ok cxT_pok (by rfl) (fn := f24) rfl a24 n24 dd24 m (ev24 m53 m54) (kok_cons h53 (kok_cons h54 kok_nil)) kwok_nil (fun L x => g24 m53 m54 L x) (fun L x => e24 m53 m54 L x) hm hs24
/-! loop.example/g00222/laws.eqShareS -/
def ev27 (m58 : ((Int × Int) × (Int × Int)) → Option Bool) : Env cxT := { Kc := kcOf [(58, c58 m58)], Kw := kwOf [], lv := fun i => if i = 0 then [(0, [some 31]), (1, [some 31]), (5, [])] else [], xv := fun i => if i = 0 then some [] else none }
def S27_0 (a0 : (List (Int × Int))) (a1 : (List (Int × Int))) (v0_5 : Int) : St cxT.ty := { slots := [(.inl (.inl (ls { own := 0, nm := 0, e := 31, o := false, xs := a0 }))), (.inl (.inl (ls { own := 0, nm := 0, e := 31, o := false, xs := a1 }))), junk, junk, junk, (.inl (.inl (lv (.int .i64 v0_5))))] ++ List.replicate 21 junk, D := [], F := [], ctr := 1 }
def X27_0 (a0 : (List (Int × Int))) (a1 : (List (Int × Int))) : St cxT.ty := { slots := [] ++ List.replicate 27 junk, D := [], F := [], ctr := 1 }
theorem i27 (m58 : ((Int × Int) × (Int × Int)) → Option Bool) (L : Nat) (a0 : (List (Int × Int))) (a1 : (List (Int × Int))) : evF prog (ev27 m58) (loopN L) f27 (a27.enc (a0, a1)) =
  bif ((Nat.cast (List.length a0) : Int) != (Nat.cast (List.length a1) : Int)) then some (n27 Bool.false)
  else headF prog (ev27 m58) L f27 0 [1, 1, 0, 1, 0, 0] (outK (outV prog f27) (topK prog (ev27 m58) L f27 [1, 1, 0, 1] (outV prog f27)).n (topK prog (ev27 m58) L f27 [1, 1, 0, 1] (outV prog f27)).x) L (S27_0 a0 a1 (0 : Int)) := by kernel_rfl
theorem r27_0 (m58 : ((Int × Int) × (Int × Int)) → Option Bool) (L : Nat) (a0 : (List (Int × Int))) (a1 : (List (Int × Int))) (k : St cxT.ty → Option (V cxT.ty)) (xk : Nat → St cxT.ty → Option (V cxT.ty)) (g : St cxT.ty → Option (V cxT.ty)) (v0_5 : Int) : roundF prog (ev27 m58) L f27 0 [1, 1, 0, 1, 0, 0] (outK (outV prog f27) k xk) g (S27_0 a0 a1 v0_5) =
  bif (decide (v0_5 < (Nat.cast (List.length a0) : Int))) then bif ((decide ((0 : Int) ≤ v0_5)) && (decide (v0_5 < (Nat.cast (List.length a0) : Int)))) then bif ((decide ((0 : Int) ≤ v0_5)) && (decide (v0_5 < (Nat.cast (List.length a1) : Int)))) then tst (m58 (((List.getD a0 (Int.toNat v0_5) ((0 : Int), (0 : Int))).1, (List.getD a0 (Int.toNat v0_5) ((0 : Int), (0 : Int))).2), ((List.getD a1 (Int.toNat v0_5) ((0 : Int), (0 : Int))).1, (List.getD a1 (Int.toNat v0_5) ((0 : Int), (0 : Int))).2))) false fun (q4 : Bool) => bif (!q4) then some (n27 Bool.false)
          else g (S27_0 a0 a1 (Go.IntKind.wrap Go.IntKind.i64 (v0_5 + (1 : Int))))
      else none
    else none
  else k (X27_0 a0 a1) := by kernel_rfl
theorem t27_0 (m58 : ((Int × Int) × (Int × Int)) → Option Bool) (L : Nat) (a0 : (List (Int × Int))) (a1 : (List (Int × Int))) : (topK prog (ev27 m58) L f27 [1, 1, 0, 1] (outV prog f27)).n (X27_0 a0 a1) =
  some (n27 Bool.true) := by kernel_rfl
def l27_0 (m58 : ((Int × Int) × (Int × Int)) → Option Bool) (L : Nat) (a0 : (List (Int × Int))) (a1 : (List (Int × Int))) : Nat → Int → (Option Bool) → Option Bool
  | 0, _, _ => none
  | n + 1, v0_5, k =>
    bif (decide (v0_5 < (Nat.cast (List.length a0) : Int))) then bif ((decide ((0 : Int) ≤ v0_5)) && (decide (v0_5 < (Nat.cast (List.length a0) : Int)))) then bif ((decide ((0 : Int) ≤ v0_5)) && (decide (v0_5 < (Nat.cast (List.length a1) : Int)))) then tst (m58 (((List.getD a0 (Int.toNat v0_5) ((0 : Int), (0 : Int))).1, (List.getD a0 (Int.toNat v0_5) ((0 : Int), (0 : Int))).2), ((List.getD a1 (Int.toNat v0_5) ((0 : Int), (0 : Int))).1, (List.getD a1 (Int.toNat v0_5) ((0 : Int), (0 : Int))).2))) false fun (q5 : Bool) => bif (!q5) then some Bool.false
            else l27_0 m58 L a0 a1 n (Go.IntKind.wrap Go.IntKind.i64 (v0_5 + (1 : Int))) k
        else none
      else none
    else k
theorem h27_0 (m58 : ((Int × Int) × (Int × Int)) → Option Bool) (L : Nat) (a0 : (List (Int × Int))) (a1 : (List (Int × Int))) (k : St cxT.ty → Option (V cxT.ty)) (xk : Nat → St cxT.ty → Option (V cxT.ty)) (k' : Option Bool) (hk : k (X27_0 a0 a1) = (k').map n27) : ∀ (n : Nat) (v0_5 : Int), headF prog (ev27 m58) L f27 0 [1, 1, 0, 1, 0, 0] (outK (outV prog f27) k xk) n (S27_0 a0 a1 v0_5) = (l27_0 m58 L a0 a1 n v0_5 k').map n27
  | 0, _ => rfl
  | n + 1, v0_5 => by
    rw [headF_round, r27_0]
    have ih := h27_0 m58 L a0 a1 k xk k' hk n
    simp only [l27_0, map_bif, map_tst, Option.map_some, Option.map_none, ih, hk]
def g27 (m58 : ((Int × Int) × (Int × Int)) → Option Bool) (L : Nat) (a0 : (List (Int × Int))) (a1 : (List (Int × Int))) : Option Bool :=
  bif ((Nat.cast (List.length a0) : Int) != (Nat.cast (List.length a1) : Int)) then some Bool.false
  else l27_0 m58 L a0 a1 L (0 : Int) (some Bool.true)
theorem e27 (m58 : ((Int × Int) × (Int × Int)) → Option Bool) (L : Nat) (a0 : (List (Int × Int))) (a1 : (List (Int × Int))) : evF prog (ev27 m58) (loopN L) f27 (a27.enc (a0, a1)) = (g27 m58 L a0 a1).map n27 := by
  let K'0 : Option Bool := (some Bool.true)
  have hin0 : ∀ (v0_5 : Int), headF prog (ev27 m58) L f27 0 [1, 1, 0, 1, 0, 0] (outK (outV prog f27) (topK prog (ev27 m58) L f27 [1, 1, 0, 1] (outV prog f27)).n (topK prog (ev27 m58) L f27 [1, 1, 0, 1] (outV prog f27)).x) L (S27_0 a0 a1 v0_5) = (l27_0 m58 L a0 a1 L v0_5 K'0).map n27 := fun v0_5 => h27_0 m58 L a0 a1 _ _ K'0 (by rw [t27_0]; simp only [K'0, map_bif, map_tst, Option.map_some, Option.map_none]) L v0_5
  rw [i27]; simp only [g27, map_bif, map_tst, Option.map_some, Option.map_none, hin0, K'0]
theorem s27 (m58 : ((Int × Int) × (Int × Int)) → Option Bool) (h58 : Sat prog cxT 58 (c58 m58)) (m : ((List (Int × Int)) × (List (Int × Int))) → Option Bool) (hm : ∀ (x : ((List (Int × Int)) × (List (Int × Int)))) t, m x = some t → ∃ L, g27 m58 L x.1 x.2 = some t) : Sat prog cxT 27 (c27 m) :=
  sat_t cxT_ok cxT_pok (by rfl) (fn := f27) rfl a27 n27 dd27 m (ev27 m58) (kok_cons h58 kok_nil) kwok_nil (fun L x => g27 m58 L x.1 x.2) (fun L x => e27 m58 L x.1 x.2) hm hs27
/-! loop.example/g00222/laws.markShareS -/
def ev29 : Env cxT := { Kc := kcOf [], Kw := kwOf [], lv := fun i => if i = 0 then [(0, [some 31]), (1, []), (5, [])] else [], xv := fun i => if i = 0 then some [(0, [some 31]), (1, [])] else none }
def S29_0 (a0 : (List (Int × Int))) (a1 : Int) (v0_0 : (List (Int × Int))) (v0_1 : Int) (v0_5 : Int) : St cxT.ty := { slots := [(.inl (.inl (ls { own := 1, nm := 0, e := 31, o := true, xs := v0_0 }))), (.inl (.inl (lv (.int .i64 v0_1)))), junk, junk, junk, (.inl (.inl (lv (.int .i64 v0_5))))] ++ List.replicate 21 junk, D := [], F := [], ctr := 1, lo := 1 }
def X29_0 (a0 : (List (Int × Int))) (a1 : Int) (w0_0 : (List (Int × Int))) (w0_1 : Int) : St cxT.ty := { slots := [(.inl (.inl (ls { own := 1, nm := 0, e := 31, o := true, xs := w0_0 }))), (.inl (.inl (lv (.int .i64 w0_1))))] ++ List.replicate 25 junk, D := [], F := [], ctr := 1, lo := 1 }
theorem i29 (L : Nat) (a0 : (List (Int × Int))) (a1 : Int) : evFW prog ev29 (loopN L) f29 1 (a29.enc (a0, a1)) =
  headF prog ev29 L f29 0 [1, 0, 1, 0, 0] (outK (outW prog f29 1) (topK prog ev29 L f29 [1, 0, 1] (outW prog f29 1)).n (topK prog ev29 L f29 [1, 0, 1] (outW prog f29 1)).x) L (S29_0 a0 a1 a0 a1 (0 : Int)) := by kernel_rfl
theorem r29_0 (L : Nat) (a0 : (List (Int × Int))) (a1 : Int) (k : St cxT.ty → Option (List (A cxT.ty))) (xk : Nat → St cxT.ty → Option (List (A cxT.ty))) (g : St cxT.ty → Option (List (A cxT.ty))) (v0_0 : (List (Int × Int))) (v0_1 : Int) (v0_5 : Int) : roundF prog ev29 L f29 0 [1, 0, 1, 0, 0] (outK (outW prog f29 1) k xk) g (S29_0 a0 a1 v0_0 v0_1 v0_5) =
  bif (decide (v0_5 < (Nat.cast (List.length v0_0) : Int))) then bif ((decide ((0 : Int) ≤ v0_5)) && (decide (v0_5 < (Nat.cast (List.length v0_0) : Int)))) then bif ((decide ((0 : Int) ≤ v0_5)) && (decide (v0_5 < (Nat.cast (List.length (List.set v0_0 (Int.toNat v0_5) (v0_1, (List.getD v0_0 (Int.toNat v0_5) ((0 : Int), (0 : Int))).2))) : Int)))) then g (S29_0 a0 a1 (List.set (List.set v0_0 (Int.toNat v0_5) (v0_1, (List.getD v0_0 (Int.toNat v0_5) ((0 : Int), (0 : Int))).2)) (Int.toNat v0_5) ((List.getD (List.set v0_0 (Int.toNat v0_5) (v0_1, (List.getD v0_0 (Int.toNat v0_5) ((0 : Int), (0 : Int))).2)) (Int.toNat v0_5) ((0 : Int), (0 : Int))).1, (Go.IntKind.wrap Go.IntKind.i64 (v0_1 + (1 : Int))))) (Go.IntKind.wrap Go.IntKind.i64 ((Go.IntKind.wrap Go.IntKind.i64 (v0_1 + (1 : Int))) + (1 : Int))) (Go.IntKind.wrap Go.IntKind.i64 (v0_5 + (1 : Int))))
      else none
    else none
  else k (X29_0 a0 a1 v0_0 v0_1) := by kernel_rfl
theorem t29_0 (L : Nat) (a0 : (List (Int × Int))) (a1 : Int) (w0_0 : (List (Int × Int))) (w0_1 : Int) : (topK prog ev29 L f29 [1, 0, 1] (outW prog f29 1)).n (X29_0 a0 a1 w0_0 w0_1) =
  some (n29 (w0_1, w0_0)) := by kernel_rfl
def l29_0 (L : Nat) (a0 : (List (Int × Int))) (a1 : Int) : Nat → (List (Int × Int)) → Int → Int → ((List (Int × Int)) → Int → Option (Int × (List (Int × Int)))) → Option (Int × (List (Int × Int)))
  | 0, _, _, _, _ => none
  | n + 1, v0_0, v0_1, v0_5, k =>
    bif (decide (v0_5 < (Nat.cast (List.length v0_0) : Int))) then bif ((decide ((0 : Int) ≤ v0_5)) && (decide (v0_5 < (Nat.cast (List.length v0_0) : Int)))) then bif ((decide ((0 : Int) ≤ v0_5)) && (decide (v0_5 < (Nat.cast (List.length (List.set v0_0 (Int.toNat v0_5) (v0_1, (List.getD v0_0 (Int.toNat v0_5) ((0 : Int), (0 : Int))).2))) : Int)))) then l29_0 L a0 a1 n (List.set (List.set v0_0 (Int.toNat v0_5) (v0_1, (List.getD v0_0 (Int.toNat v0_5) ((0 : Int), (0 : Int))).2)) (Int.toNat v0_5) ((List.getD (List.set v0_0 (Int.toNat v0_5) (v0_1, (List.getD v0_0 (Int.toNat v0_5) ((0 : Int), (0 : Int))).2)) (Int.toNat v0_5) ((0 : Int), (0 : Int))).1, (Go.IntKind.wrap Go.IntKind.i64 (v0_1 + (1 : Int))))) (Go.IntKind.wrap Go.IntKind.i64 ((Go.IntKind.wrap Go.IntKind.i64 (v0_1 + (1 : Int))) + (1 : Int))) (Go.IntKind.wrap Go.IntKind.i64 (v0_5 + (1 : Int))) k
        else none
      else none
    else k v0_0 v0_1
theorem h29_0 (L : Nat) (a0 : (List (Int × Int))) (a1 : Int) (k : St cxT.ty → Option (List (A cxT.ty))) (xk : Nat → St cxT.ty → Option (List (A cxT.ty))) (k' : (List (Int × Int)) → Int → Option (Int × (List (Int × Int)))) (hk : ∀ (w0_0 : (List (Int × Int))) (w0_1 : Int), k (X29_0 a0 a1 w0_0 w0_1) = (k' w0_0 w0_1).map n29) : ∀ (n : Nat) (v0_0 : (List (Int × Int))) (v0_1 : Int) (v0_5 : Int), headF prog ev29 L f29 0 [1, 0, 1, 0, 0] (outK (outW prog f29 1) k xk) n (S29_0 a0 a1 v0_0 v0_1 v0_5) = (l29_0 L a0 a1 n v0_0 v0_1 v0_5 k').map n29
  | 0, _, _, _ => rfl
  | n + 1, v0_0, v0_1, v0_5 => by
    rw [headF_round, r29_0]
    have ih := h29_0 L a0 a1 k xk k' hk n
    simp only [l29_0, map_bif, map_tst, Option.map_some, Option.map_none, ih, hk]
def g29 (L : Nat) (a0 : (List (Int × Int))) (a1 : Int) : Option (Int × (List (Int × Int))) :=
  l29_0 L a0 a1 L a0 a1 (0 : Int) (fun (w0_0 : (List (Int × Int))) (w0_1 : Int) => some (w0_1, w0_0))
theorem e29 (L : Nat) (a0 : (List (Int × Int))) (a1 : Int) : evFW prog ev29 (loopN L) f29 1 (a29.enc (a0, a1)) = (g29 L a0 a1).map n29 := by
  let K'0 : (List (Int × Int)) → Int → Option (Int × (List (Int × Int))) := (fun (w0_0 : (List (Int × Int))) (w0_1 : Int) => some (w0_1, w0_0))
  have hin0 : ∀ (v0_0 : (List (Int × Int))) (v0_1 : Int) (v0_5 : Int), headF prog ev29 L f29 0 [1, 0, 1, 0, 0] (outK (outW prog f29 1) (topK prog ev29 L f29 [1, 0, 1] (outW prog f29 1)).n (topK prog ev29 L f29 [1, 0, 1] (outW prog f29 1)).x) L (S29_0 a0 a1 v0_0 v0_1 v0_5) = (l29_0 L a0 a1 L v0_0 v0_1 v0_5 K'0).map n29 := fun v0_0 v0_1 v0_5 => h29_0 L a0 a1 _ _ K'0 (fun w0_0 w0_1 => by rw [t29_0]; simp only [K'0, map_bif, map_tst, Option.map_some, Option.map_none]) L v0_0 v0_1 v0_5
  rw [i29]; simp only [g29, map_bif, map_tst, Option.map_some, Option.map_none, hin0, K'0]
theorem s29 (m : ((List (Int × Int)) × Int) → Option (Int × (List (Int × Int)))) (hm : ∀ (x : ((List (Int × Int)) × Int)) t, m x = some t → ∃ L, g29 L x.1 x.2 = some t) : SatW prog cxT 29 (c29 m).nres (c29 m).n (c29 m).F :=
  sat_w cxT_ok cxT_pok (by rfl) (fn := f29) rfl rfl a29 n29 dd29 m ev29 kok_nil kwok_nil (fun L x => g29 L x.1 x.2) (fun L x => e29 L x.1 x.2) hm hs29
/-! loop.example/g00222/laws.heldShareS -/
def ev63 : Env cxT := { Kc := kcOf [], Kw := kwOf [], lv := fun i => if i = 0 then [(0, [some 31]), (1, []), (5, [])] else [], xv := fun i => if i = 0 then some [(1, [])] else none }
def S63_0 (a0 : (List (Int × Int))) (a1 : Int) (v0_1 : Int) (v0_5 : Int) : St cxT.ty := { slots := [(.inl (.inl (ls { own := 0, nm := 0, e := 31, o := false, xs := a0 }))), (.inl (.inl (lv (.int .i64 v0_1)))), junk, junk, junk, (.inl (.inl (lv (.int .i64 v0_5))))] ++ List.replicate 25 junk, D := [], F := [], ctr := 1 }
def X63_0 (a0 : (List (Int × Int))) (a1 : Int) (w0_1 : Int) : St cxT.ty := { slots := [junk, (.inl (.inl (lv (.int .i64 w0_1))))] ++ List.replicate 29 junk, D := [], F := [], ctr := 1 }
theorem i63 (L : Nat) (a0 : (List (Int × Int))) (a1 : Int) : evF prog ev63 (loopN L) f63 (a63.enc (a0, a1)) =
  headF prog ev63 L f63 0 [1, 0, 1, 0, 0] (outK (outV prog f63) (topK prog ev63 L f63 [1, 0, 1] (outV prog f63)).n (topK prog ev63 L f63 [1, 0, 1] (outV prog f63)).x) L (S63_0 a0 a1 a1 (0 : Int)) := by kernel_rfl
theorem r63_0 (L : Nat) (a0 : (List (Int × Int))) (a1 : Int) (k : St cxT.ty → Option (V cxT.ty)) (xk : Nat → St cxT.ty → Option (V cxT.ty)) (g : St cxT.ty → Option (V cxT.ty)) (v0_1 : Int) (v0_5 : Int) : roundF prog ev63 L f63 0 [1, 0, 1, 0, 0] (outK (outV prog f63) k xk) g (S63_0 a0 a1 v0_1 v0_5) =
  bif (decide (v0_5 < (Nat.cast (List.length a0) : Int))) then bif ((decide ((0 : Int) ≤ v0_5)) && (decide (v0_5 < (Nat.cast (List.length a0) : Int)))) then bif ((List.getD a0 (Int.toNat v0_5) ((0 : Int), (0 : Int))).1 != v0_1) then some (n63 (-(1 : Int)))
      else bif ((decide ((0 : Int) ≤ v0_5)) && (decide (v0_5 < (Nat.cast (List.length a0) : Int)))) then bif ((List.getD a0 (Int.toNat v0_5) ((0 : Int), (0 : Int))).2 != (Go.IntKind.wrap Go.IntKind.i64 (v0_1 + (1 : Int)))) then some (n63 (-(1 : Int)))
        else g (S63_0 a0 a1 (Go.IntKind.wrap Go.IntKind.i64 ((Go.IntKind.wrap Go.IntKind.i64 (v0_1 + (1 : Int))) + (1 : Int))) (Go.IntKind.wrap Go.IntKind.i64 (v0_5 + (1 : Int))))
      else none
    else none
  else k (X63_0 a0 a1 v0_1) := by kernel_rfl
theorem t63_0 (L : Nat) (a0 : (List (Int × Int))) (a1 : Int) (w0_1 : Int) : (topK prog ev63 L f63 [1, 0, 1] (outV prog f63)).n (X63_0 a0 a1 w0_1) =
  some (n63 w0_1) := by kernel_rfl
def l63_0 (L : Nat) (a0 : (List (Int × Int))) (a1 : Int) : Nat → Int → Int → (Int → Option Int) → Option Int
  | 0, _, _, _ => none
  | n + 1, v0_1, v0_5, k =>
    bif (decide (v0_5 < (Nat.cast (List.length a0) : Int))) then bif ((decide ((0 : Int) ≤ v0_5)) && (decide (v0_5 < (Nat.cast (List.length a0) : Int)))) then bif ((List.getD a0 (Int.toNat v0_5) ((0 : Int), (0 : Int))).1 != v0_1) then some (-(1 : Int))
        else bif ((decide ((0 : Int) ≤ v0_5)) && (decide (v0_5 < (Nat.cast (List.length a0) : Int)))) then bif ((List.getD a0 (Int.toNat v0_5) ((0 : Int), (0 : Int))).2 != (Go.IntKind.wrap Go.IntKind.i64 (v0_1 + (1 : Int)))) then some (-(1 : Int))
          else l63_0 L a0 a1 n (Go.IntKind.wrap Go.IntKind.i64 ((Go.IntKind.wrap Go.IntKind.i64 (v0_1 + (1 : Int))) + (1 : Int))) (Go.IntKind.wrap Go.IntKind.i64 (v0_5 + (1 : Int))) k
        else none
      else none
    else k v0_1
theorem h63_0 (L : Nat) (a0 : (List (Int × Int))) (a1 : Int) (k : St cxT.ty → Option (V cxT.ty)) (xk : Nat → St cxT.ty → Option (V cxT.ty)) (k' : Int → Option Int) (hk : ∀ (w0_1 : Int), k (X63_0 a0 a1 w0_1) = (k' w0_1).map n63) : ∀ (n : Nat) (v0_1 : Int) (v0_5 : Int), headF prog ev63 L f63 0 [1, 0, 1, 0, 0] (outK (outV prog f63) k xk) n (S63_0 a0 a1 v0_1 v0_5) = (l63_0 L a0 a1 n v0_1 v0_5 k').map n63
  | 0, _, _ => rfl
  | n + 1, v0_1, v0_5 => by
    rw [headF_round, r63_0]
    have ih := h63_0 L a0 a1 k xk k' hk n
    simp only [l63_0, map_bif, map_tst, Option.map_some, Option.map_none, ih, hk]
def g63 (L : Nat) (a0 : (List (Int × Int))) (a1 : Int) : Option Int :=
  l63_0 L a0 a1 L a1 (0 : Int) (fun (w0_1 : Int) => some w0_1)
theorem e63 (L : Nat) (a0 : (List (Int × Int))) (a1 : Int) : evF prog ev63 (loopN L) f63 (a63.enc (a0, a1)) = (g63 L a0 a1).map n63 := by
  let K'0 : Int → Option Int := (fun (w0_1 : Int) => some w0_1)
  have hin0 : ∀ (v0_1 : Int) (v0_5 : Int), headF prog ev63 L f63 0 [1, 0, 1, 0, 0] (outK (outV prog f63) (topK prog ev63 L f63 [1, 0, 1] (outV prog f63)).n (topK prog ev63 L f63 [1, 0, 1] (outV prog f63)).x) L (S63_0 a0 a1 v0_1 v0_5) = (l63_0 L a0 a1 L v0_1 v0_5 K'0).map n63 := fun v0_1 v0_5 => h63_0 L a0 a1 _ _ K'0 (fun w0_1 => by rw [t63_0]; simp only [K'0, map_bif, map_tst, Option.map_some, Option.map_none]) L v0_1 v0_5
  rw [i63]; simp only [g63, map_bif, map_tst, Option.map_some, Option.map_none, hin0, K'0]
theorem s63 (m : ((List (Int × Int)) × Int) → Option Int) (hm : ∀ (x : ((List (Int × Int)) × Int)) t, m x = some t → ∃ L, g63 L x.1 x.2 = some t) : Sat prog cxT 63 (c63 m) :=
  sat_t cxT_ok cxT_pok (by rfl) (fn := f63) rfl a63 n63 dd63 m ev63 kok_nil kwok_nil (fun L x => g63 L x.1 x.2) (fun L x => e63 L x.1 x.2) hm hs63
/-! loop.example/g00222/laws.markSharesResult -/
def ev41 (m29 : ((List (Int × Int)) × Int) → Option (Int × (List (Int × Int)))) : Env cxT := { Kc := kcOf [], Kw := kwOf [(29, c29 m29)], lv := fun i => [], xv := fun i => none }
theorem i41 (m29 : ((List (Int × Int)) × Int) → Option (Int × (List (Int × Int)))) (L : Nat) (a0_0 : Int) (a0_1 : (List (Int × Int))) (a1 : Int) : evFW prog (ev41 m29) (loopN L) f41 1 (a41.enc ((a0_0, a0_1), a1)) =
  tst (m29 (a0_1, a1)) ((0 : Int), []) fun (q1 : (Int × (List (Int × Int)))) => some (n41 (q1.1, a0_0, q1.2)) := by kernel_rfl
def g41 (m29 : ((List (Int × Int)) × Int) → Option (Int × (List (Int × Int)))) (L : Nat) (a0_0 : Int) (a0_1 : (List (Int × Int))) (a1 : Int) : Option (Int × Int × (List (Int × Int))) :=
  tst (m29 (a0_1, a1)) ((0 : Int), []) fun (q1 : (Int × (List (Int × Int)))) => some (q1.1, a0_0, q1.2)
theorem e41 (m29 : ((List (Int × Int)) × Int) → Option (Int × (List (Int × Int)))) (L : Nat) (a0_0 : Int) (a0_1 : (List (Int × Int))) (a1 : Int) : evFW prog (ev41 m29) (loopN L) f41 1 (a41.enc ((a0_0, a0_1), a1)) = (g41 m29 L a0_0 a0_1 a1).map n41 := by
  rw [i41]; simp only [g41, map_bif, map_tst, Option.map_some, Option.map_none]
theorem s41 (m29 : ((List (Int × Int)) × Int) → Option (Int × (List (Int × Int)))) (h29 : SatW prog cxT 29 (c29 m29).nres (c29 m29).n (c29 m29).F) (m : ((Int × (List (Int × Int))) × Int) → Option (Int × Int × (List (Int × Int)))) (hm : ∀ (x : ((Int × (List (Int × Int))) × Int)) t, m x = some t → ∃ L, g41 m29 L x.1.1 x.1.2 x.2 = some t) : SatW prog cxT 41 (c41 m).nres (c41 m).n (c41 m).F :=
  sat_w cxT_ok cxT_pok (by rfl) (fn := f41) rfl rfl a41 n41 dd41 m (ev41 m29) kok_nil (kwok_cons h29 kwok_nil) (fun L x => g41 m29 L x.1.1 x.1.2 x.2) (fun L x => e41 m29 L x.1.1 x.1.2 x.2) hm hs41
/-! loop.example/g00222/laws.heldSharesResult -/
def ev42 (m63 : ((List (Int × Int)) × Int) → Option Int) : Env cxT := { Kc := kcOf [(63, c63 m63)], Kw := kwOf [], lv := fun i => [], xv := fun i => none }
theorem i42 (m63 : ((List (Int × Int)) × Int) → Option Int) (L : Nat) (a0_0 : Int) (a0_1 : (List (Int × Int))) (a1 : Int) : evF prog (ev42 m63) (loopN L) f42 (a42.enc ((a0_0, a0_1), a1)) =
  tst (m63 (a0_1, a1)) (0 : Int) fun (q1 : Int) => bif (decide (q1 < (0 : Int))) then some (n42 (-(1 : Int)))
    else some (n42 q1) := by kernel_rfl
def g42 (m63 : ((List (Int × Int)) × Int) → Option Int) (L : Nat) (a0_0 : Int) (a0_1 : (List (Int × Int))) (a1 : Int) : Option Int :=
  tst (m63 (a0_1, a1)) (0 : Int) fun (q1 : Int) => bif (decide (q1 < (0 : Int))) then some (-(1 : Int))
    else some q1
theorem e42 (m63 : ((List (Int × Int)) × Int) → Option Int) (L : Nat) (a0_0 : Int) (a0_1 : (List (Int × Int))) (a1 : Int) : evF prog (ev42 m63) (loopN L) f42 (a42.enc ((a0_0, a0_1), a1)) = (g42 m63 L a0_0 a0_1 a1).map n42 := by
  rw [i42]; simp only [g42, map_bif, map_tst, Option.map_some, Option.map_none]
theorem s42 (m63 : ((List (Int × Int)) × Int) → Option Int) (h63 : Sat prog cxT 63 (c63 m63)) (m : ((Int × (List (Int × Int))) × Int) → Option Int) (hm : ∀ (x : ((Int × (List (Int × Int))) × Int)) t, m x = some t → ∃ L, g42 m63 L x.1.1 x.1.2 x.2 = some t) : Sat prog cxT 42 (c42 m) :=
  sat_t cxT_ok cxT_pok (by rfl) (fn := f42) rfl a42 n42 dd42 m (ev42 m63) (kok_cons h63 kok_nil) kwok_nil (fun L x => g42 m63 L x.1.1 x.1.2 x.2) (fun L x => e42 m63 L x.1.1 x.1.2 x.2) hm hs42
/-! loop.example/g00222/laws.eqSharesResult -/
def ev40 (m27 : ((List (Int × Int)) × (List (Int × Int))) → Option Bool) : Env cxT := { Kc := kcOf [(27, c27 m27)], Kw := kwOf [], lv := fun i => [], xv := fun i => none }
theorem i40 (m27 : ((List (Int × Int)) × (List (Int × Int))) → Option Bool) (L : Nat) (a0_0 : Int) (a0_1 : (List (Int × Int))) (a1_0 : Int) (a1_1 : (List (Int × Int))) : evF prog (ev40 m27) (loopN L) f40 (a40.enc ((a0_0, a0_1), (a1_0, a1_1))) =
  bif (a0_0 != a1_0) then some (n40 Bool.false)
  else tst (m27 (a0_1, a1_1)) false fun (q1 : Bool) => bif (!q1) then some (n40 Bool.false)
    else some (n40 Bool.true) := by kernel_rfl
def g40 (m27 : ((List (Int × Int)) × (List (Int × Int))) → Option Bool) (L : Nat) (a0_0 : Int) (a0_1 : (List (Int × Int))) (a1_0 : Int) (a1_1 : (List (Int × Int))) : Option Bool :=
  bif (a0_0 != a1_0) then some Bool.false
  else tst (m27 (a0_1, a1_1)) false fun (q1 : Bool) => bif (!q1) then some Bool.false
    else some Bool.true
theorem e40 (m27 : ((List (Int × Int)) × (List (Int × Int))) → Option Bool) (L : Nat) (a0_0 : Int) (a0_1 : (List (Int × Int))) (a1_0 : Int) (a1_1 : (List (Int × Int))) : evF prog (ev40 m27) (loopN L) f40 (a40.enc ((a0_0, a0_1), (a1_0, a1_1))) = (g40 m27 L a0_0 a0_1 a1_0 a1_1).map n40 := by
  rw [i40]; simp only [g40, map_bif, map_tst, Option.map_some, Option.map_none]
theorem s40 (m27 : ((List (Int × Int)) × (List (Int × Int))) → Option Bool) (h27 : Sat prog cxT 27 (c27 m27)) (m : ((Int × (List (Int × Int))) × (Int × (List (Int × Int)))) → Option Bool) (hm : ∀ (x : ((Int × (List (Int × Int))) × (Int × (List (Int × Int))))) t, m x = some t → ∃ L, g40 m27 L x.1.1 x.1.2 x.2.1 x.2.2 = some t) : Sat prog cxT 40 (c40 m) :=
  sat_t cxT_ok cxT_pok (by rfl) (fn := f40) rfl a40 n40 dd40 m (ev40 m27) (kok_cons h27 kok_nil) kwok_nil (fun L x => g40 m27 L x.1.1 x.1.2 x.2.1 x.2.2) (fun L x => e40 m27 L x.1.1 x.1.2 x.2.1 x.2.2) hm hs40
/-! loop.example/g00222/impl.SpreadOf -/
def ev16 (m47 : (List Int) → Option Int) (m26 : (List (Int × Int)) → Option Int) (m17 : ((List Int) × Int) → Option Int) (m48 : ((List Int) × (List (Int × Int))) → Option (List Int)) (m49 : (List Int) → Option Int) (m50 : (List Int) → Option Int) : Env cxT := { Kc := kcOf [(47, c47 m47), (26, c26 m26), (17, c17 m17), (48, c48 m48), (49, c49 m49), (50, c50 m50)], Kw := kwOf [], lv := fun i => [], xv := fun i => none }
theorem i16 (m47 : (List Int) → Option Int) (m26 : (List (Int × Int)) → Option Int) (m17 : ((List Int) × Int) → Option Int) (m48 : ((List Int) × (List (Int × Int))) → Option (List Int)) (m49 : (List Int) → Option Int) (m50 : (List Int) → Option Int) (L : Nat) (a0 : (List Int)) (a1 : (List (Int × Int))) : evF prog (ev16 m47 m26 m17 m48 m49 m50) (loopN L) f16 (a16.enc (a0, a1)) =
  tst (m47 a0) (0 : Int) fun (q1 : Int) => bif (q1 != (0 : Int)) then some (n16 (q1, (0 : Int), (0 : Int), (0 : Int)))
    else tst (m26 a1) (0 : Int) fun (q2 : Int) => bif (q2 != (0 : Int)) then some (n16 (q2, (0 : Int), (0 : Int), (0 : Int)))
      else tst (m17 (a0, (0 : Int))) (0 : Int) fun (q3 : Int) => tst (m48 (a0, a1)) [] fun (q4 : (List Int)) => bif (decide ((Nat.cast (List.length q4) : Int) > (0 : Int))) then tst (m49 q4) (0 : Int) fun (q6 : Int) => tst (m50 q4) (0 : Int) fun (q7 : Int) => some (n16 ((0 : Int), q6, q7, q3))
          else some (n16 ((0 : Int), (0 : Int), (0 : Int), q3)) := by kernel_rfl
def g16 (m47 : (List Int) → Option Int) (m26 : (List (Int × Int)) → Option Int) (m17 : ((List Int) × Int) → Option Int) (m48 : ((List Int) × (List (Int × Int))) → Option (List Int)) (m49 : (List Int) → Option Int) (m50 : (List Int) → Option Int) (L : Nat) (a0 : (List Int)) (a1 : (List (Int × Int))) : Option (Int × Int × Int × Int) :=
  tst (m47 a0) (0 : Int) fun (q1 : Int) => bif (q1 != (0 : Int)) then some (q1, (0 : Int), (0 : Int), (0 : Int))
    else tst (m26 a1) (0 : Int) fun (q2 : Int) => bif (q2 != (0 : Int)) then some (q2, (0 : Int), (0 : Int), (0 : Int))
      else tst (m17 (a0, (0 : Int))) (0 : Int) fun (q3 : Int) => tst (m48 (a0, a1)) [] fun (q4 : (List Int)) => bif (decide ((Nat.cast (List.length q4) : Int) > (0 : Int))) then tst (m49 q4) (0 : Int) fun (q6 : Int) => tst (m50 q4) (0 : Int) fun (q7 : Int) => some ((0 : Int), q6, q7, q3)
          else some ((0 : Int), (0 : Int), (0 : Int), q3)
theorem e16 (m47 : (List Int) → Option Int) (m26 : (List (Int × Int)) → Option Int) (m17 : ((List Int) × Int) → Option Int) (m48 : ((List Int) × (List (Int × Int))) → Option (List Int)) (m49 : (List Int) → Option Int) (m50 : (List Int) → Option Int) (L : Nat) (a0 : (List Int)) (a1 : (List (Int × Int))) : evF prog (ev16 m47 m26 m17 m48 m49 m50) (loopN L) f16 (a16.enc (a0, a1)) = (g16 m47 m26 m17 m48 m49 m50 L a0 a1).map n16 := by
  rw [i16]; simp only [g16, map_bif, map_tst, Option.map_some, Option.map_none]
theorem s16 (m47 : (List Int) → Option Int) (m26 : (List (Int × Int)) → Option Int) (m17 : ((List Int) × Int) → Option Int) (m48 : ((List Int) × (List (Int × Int))) → Option (List Int)) (m49 : (List Int) → Option Int) (m50 : (List Int) → Option Int) (h47 : Sat prog cxT 47 (c47 m47)) (h26 : Sat prog cxT 26 (c26 m26)) (h17 : Sat prog cxT 17 (c17 m17)) (h48 : Sat prog cxT 48 (c48 m48)) (h49 : Sat prog cxT 49 (c49 m49)) (h50 : Sat prog cxT 50 (c50 m50)) (m : ((List Int) × (List (Int × Int))) → Option (Int × Int × Int × Int)) (hm : ∀ (x : ((List Int) × (List (Int × Int)))) t, m x = some t → ∃ L, g16 m47 m26 m17 m48 m49 m50 L x.1 x.2 = some t) : Sat prog cxT 16 (c16 m) :=
  sat_t cxT_ok cxT_pok (by rfl) (fn := f16) rfl a16 n16 dd16 m (ev16 m47 m26 m17 m48 m49 m50) (kok_cons h47 (kok_cons h26 (kok_cons h17 (kok_cons h48 (kok_cons h49 (kok_cons h50 kok_nil)))))) kwok_nil (fun L x => g16 m47 m26 m17 m48 m49 m50 L x.1 x.2) (fun L x => e16 m47 m26 m17 m48 m49 m50 L x.1 x.2) hm hs16
/-! loop.example/g00222/spec.SpreadOf -/
def ev35 (m24 : (List (Int × Int)) → Option Int) (m32 : ((List Int) × Int) → Option Int) (m61 : (Int × Int) → Option Int) (m62 : (Int × Int) → Option Int) : Env cxT := { Kc := kcOf [(24, c24 m24), (32, c32 m32), (61, c61 m61), (62, c62 m62)], Kw := kwOf [], lv := fun i => if i = 0 then [(0, [some 2]), (1, [some 31]), (4, []), (6, []), (7, []), (8, [])] else [], xv := fun i => if i = 0 then some [(4, []), (6, [])] else none }
def S35_0 (a0 : (List Int)) (a1 : (List (Int × Int))) (v0_4_0 : Int) (v0_4_1 : Int) (v0_4_2 : Int) (v0_4_3 : Int) (v0_6_0 : Int) (v0_6_1 : Int) (v0_6_2 : Int) (v0_6_3 : Int) (v0_7 : Bool) (v0_8 : Int) : St cxT.ty := { slots := [(.inl (.inl (ls { own := 0, nm := 0, e := 2, o := false, xs := a0 }))), (.inl (.inl (ls { own := 0, nm := 0, e := 31, o := false, xs := a1 }))), junk, junk, (.inr (.inr { kind := 0, nm := 256, cells := [(lv (.int .i64 v0_4_0)), (lv (.int .i64 v0_4_1)), (lv (.int .i64 v0_4_2)), (lv (.int .i64 v0_4_3))], s := { own := 0, nm := 0, e := 0, o := false, xs := ([] : List (PUnit)) }, i := 0, off := 0 })), junk, (.inr (.inr { kind := 0, nm := 384, cells := [(lv (.int .i64 v0_6_0)), (lv (.int .i64 v0_6_1)), (lv (.int .i64 v0_6_2)), (lv (.int .i64 v0_6_3))], s := { own := 0, nm := 0, e := 0, o := false, xs := ([] : List (PUnit)) }, i := 0, off := 0 })), (.inl (.inl (lv (.bool v0_7)))), (.inl (.inl (lv (.int .i64 v0_8))))] ++ List.replicate 49 junk, D := [], F := [], ctr := 1 }
def X35_0 (a0 : (List Int)) (a1 : (List (Int × Int))) (w0_4_0 : Int) (w0_4_1 : Int) (w0_4_2 : Int) (w0_4_3 : Int) (w0_6_0 : Int) (w0_6_1 : Int) (w0_6_2 : Int) (w0_6_3 : Int) : St cxT.ty := { slots := [junk, junk, junk, junk, (.inr (.inr { kind := 0, nm := 256, cells := [(lv (.int .i64 w0_4_0)), (lv (.int .i64 w0_4_1)), (lv (.int .i64 w0_4_2)), (lv (.int .i64 w0_4_3))], s := { own := 0, nm := 0, e := 0, o := false, xs := ([] : List (PUnit)) }, i := 0, off := 0 })), junk, (.inr (.inr { kind := 0, nm := 384, cells := [(lv (.int .i64 w0_6_0)), (lv (.int .i64 w0_6_1)), (lv (.int .i64 w0_6_2)), (lv (.int .i64 w0_6_3))], s := { own := 0, nm := 0, e := 0, o := false, xs := ([] : List (PUnit)) }, i := 0, off := 0 }))] ++ List.replicate 51 junk, D := [], F := [], ctr := 1 }
theorem i35 (m24 : (List (Int × Int)) → Option Int) (m32 : ((List Int) × Int) → Option Int) (m61 : (Int × Int) → Option Int) (m62 : (Int × Int) → Option Int) (L : Nat) (a0 : (List Int)) (a1 : (List (Int × Int))) : evF prog (ev35 m24 m32 m61 m62) (loopN L) f35 (a35.enc (a0, a1)) =
  bif ((Nat.cast (List.length a0) : Int) != (31 : Int)) then some (n35 ((1 : Int), (0 : Int), (0 : Int), (0 : Int)))
  else tst (m24 a1) (0 : Int) fun (q1 : Int) => bif (q1 != (0 : Int)) then some (n35 (q1, (0 : Int), (0 : Int), (0 : Int)))
    else tst (m32 (a0, (0 : Int))) (0 : Int) fun (q2 : Int) => headF prog (ev35 m24 m32 m61 m62) L f35 0 [1, 1, 1, 1, 1, 0, 1, 0, 0] (outK (outV prog f35) (topK prog (ev35 m24 m32 m61 m62) L f35 [1, 1, 1, 1, 1, 0, 1] (outV prog f35)).n (topK prog (ev35 m24 m32 m61 m62) L f35 [1, 1, 1, 1, 1, 0, 1] (outV prog f35)).x) L (S35_0 a0 a1 (0 : Int) (0 : Int) (0 : Int) (0 : Int) (0 : Int) (0 : Int) (0 : Int) q2 Bool.true (0 : Int)) := by kernel_rfl
theorem r35_0 (m24 : (List (Int × Int)) → Option Int) (m32 : ((List Int) × Int) → Option Int) (m61 : (Int × Int) → Option Int) (m62 : (Int × Int) → Option Int) (L : Nat) (a0 : (List Int)) (a1 : (List (Int × Int))) (k : St cxT.ty → Option (V cxT.ty)) (xk : Nat → St cxT.ty → Option (V cxT.ty)) (g : St cxT.ty → Option (V cxT.ty)) (v0_4_0 : Int) (v0_4_1 : Int) (v0_4_2 : Int) (v0_4_3 : Int) (v0_6_0 : Int) (v0_6_1 : Int) (v0_6_2 : Int) (v0_6_3 : Int) (v0_7 : Bool) (v0_8 : Int) : roundF prog (ev35 m24 m32 m61 m62) L f35 0 [1, 1, 1, 1, 1, 0, 1, 0, 0] (outK (outV prog f35) k xk) g (S35_0 a0 a1 v0_4_0 v0_4_1 v0_4_2 v0_4_3 v0_6_0 v0_6_1 v0_6_2 v0_6_3 v0_7 v0_8) =
  bif (decide (v0_8 < (Nat.cast (List.length a1) : Int))) then bif ((decide ((0 : Int) ≤ v0_8)) && (decide (v0_8 < (Nat.cast (List.length a1) : Int)))) then bif ((List.getD a1 (Int.toNat v0_8) ((0 : Int), (0 : Int))).2 == (0 : Int)) then g (S35_0 a0 a1 v0_4_0 v0_4_1 v0_4_2 v0_4_3 v0_6_0 v0_6_1 v0_6_2 v0_6_3 v0_7 (Go.IntKind.wrap Go.IntKind.i64 (v0_8 + (1 : Int))))
      else bif ((decide ((0 : Int) ≤ v0_8)) && (decide (v0_8 < (Nat.cast (List.length a1) : Int)))) then tst (m32 (a0, (List.getD a1 (Int.toNat v0_8) ((0 : Int), (0 : Int))).1)) (0 : Int) fun (q4 : Int) => bif v0_7 then tst (m61 (q4, q4)) (0 : Int) fun (q6 : Int) => tst (m62 (q4, q4)) (0 : Int) fun (q7 : Int) => g (S35_0 a0 a1 v0_4_0 v0_4_1 v0_4_2 v0_4_3 v0_6_0 q6 q7 v0_6_3 Bool.false (Go.IntKind.wrap Go.IntKind.i64 (v0_8 + (1 : Int))))
          else tst (m61 (v0_6_1, q4)) (0 : Int) fun (q5 : Int) => tst (m62 (v0_6_2, q4)) (0 : Int) fun (q6 : Int) => g (S35_0 a0 a1 v0_4_0 v0_4_1 v0_4_2 v0_4_3 v0_6_0 q5 q6 v0_6_3 Bool.false (Go.IntKind.wrap Go.IntKind.i64 (v0_8 + (1 : Int))))
      else none
    else none
  else k (X35_0 a0 a1 v0_4_0 v0_4_1 v0_4_2 v0_4_3 v0_6_0 v0_6_1 v0_6_2 v0_6_3) := by kernel_rfl
theorem t35_0 (m24 : (List (Int × Int)) → Option Int) (m32 : ((List Int) × Int) → Option Int) (m61 : (Int × Int) → Option Int) (m62 : (Int × Int) → Option Int) (L : Nat) (a0 : (List Int)) (a1 : (List (Int × Int))) (w0_4_0 : Int) (w0_4_1 : Int) (w0_4_2 : Int) (w0_4_3 : Int) (w0_6_0 : Int) (w0_6_1 : Int) (w0_6_2 : Int) (w0_6_3 : Int) : (topK prog (ev35 m24 m32 m61 m62) L f35 [1, 1, 1, 1, 1, 0, 1] (outV prog f35)).n (X35_0 a0 a1 w0_4_0 w0_4_1 w0_4_2 w0_4_3 w0_6_0 w0_6_1 w0_6_2 w0_6_3) =
  some (n35 (w0_6_0, w0_6_1, w0_6_2, w0_6_3)) := by kernel_rfl
def l35_0 (m24 : (List (Int × Int)) → Option Int) (m32 : ((List Int) × Int) → Option Int) (m61 : (Int × Int) → Option Int) (m62 : (Int × Int) → Option Int) (L : Nat) (a0 : (List Int)) (a1 : (List (Int × Int))) : Nat → Int → Int → Int → Int → Int → Int → Int → Int → Bool → Int → (Int → Int → Int → Int → Int → Int → Int → Int → Option (Int × Int × Int × Int)) → Option (Int × Int × Int × Int)
  | 0, _, _, _, _, _, _, _, _, _, _, _ => none
  | n + 1, v0_4_0, v0_4_1, v0_4_2, v0_4_3, v0_6_0, v0_6_1, v0_6_2, v0_6_3, v0_7, v0_8, k =>
    bif (decide (v0_8 < (Nat.cast (List.length a1) : Int))) then bif ((decide ((0 : Int) ≤ v0_8)) && (decide (v0_8 < (Nat.cast (List.length a1) : Int)))) then bif ((List.getD a1 (Int.toNat v0_8) ((0 : Int), (0 : Int))).2 == (0 : Int)) then l35_0 m24 m32 m61 m62 L a0 a1 n v0_4_0 v0_4_1 v0_4_2 v0_4_3 v0_6_0 v0_6_1 v0_6_2 v0_6_3 v0_7 (Go.IntKind.wrap Go.IntKind.i64 (v0_8 + (1 : Int))) k
        else bif ((decide ((0 : Int) ≤ v0_8)) && (decide (v0_8 < (Nat.cast (List.length a1) : Int)))) then tst (m32 (a0, (List.getD a1 (Int.toNat v0_8) ((0 : Int), (0 : Int))).1)) (0 : Int) fun (q5 : Int) => bif v0_7 then tst (m61 (q5, q5)) (0 : Int) fun (q7 : Int) => tst (m62 (q5, q5)) (0 : Int) fun (q8 : Int) => l35_0 m24 m32 m61 m62 L a0 a1 n v0_4_0 v0_4_1 v0_4_2 v0_4_3 v0_6_0 q7 q8 v0_6_3 Bool.false (Go.IntKind.wrap Go.IntKind.i64 (v0_8 + (1 : Int))) k
            else tst (m61 (v0_6_1, q5)) (0 : Int) fun (q6 : Int) => tst (m62 (v0_6_2, q5)) (0 : Int) fun (q7 : Int) => l35_0 m24 m32 m61 m62 L a0 a1 n v0_4_0 v0_4_1 v0_4_2 v0_4_3 v0_6_0 q6 q7 v0_6_3 Bool.false (Go.IntKind.wrap Go.IntKind.i64 (v0_8 + (1 : Int))) k
        else none
      else none
    else k v0_4_0 v0_4_1 v0_4_2 v0_4_3 v0_6_0 v0_6_1 v0_6_2 v0_6_3
theorem h35_0 (m24 : (List (Int × Int)) → Option Int) (m32 : ((List Int) × Int) → Option Int) (m61 : (Int × Int) → Option Int) (m62 : (Int × Int) → Option Int) (L : Nat) (a0 : (List Int)) (a1 : (List (Int × Int))) (k : St cxT.ty → Option (V cxT.ty)) (xk : Nat → St cxT.ty → Option (V cxT.ty)) (k' : Int → Int → Int → Int → Int → Int → Int → Int → Option (Int × Int × Int × Int)) (hk : ∀ (w0_4_0 : Int) (w0_4_1 : Int) (w0_4_2 : Int) (w0_4_3 : Int) (w0_6_0 : Int) (w0_6_1 : Int) (w0_6_2 : Int) (w0_6_3 : Int), k (X35_0 a0 a1 w0_4_0 w0_4_1 w0_4_2 w0_4_3 w0_6_0 w0_6_1 w0_6_2 w0_6_3) = (k' w0_4_0 w0_4_1 w0_4_2 w0_4_3 w0_6_0 w0_6_1 w0_6_2 w0_6_3).map n35) : ∀ (n : Nat) (v0_4_0 : Int) (v0_4_1 : Int) (v0_4_2 : Int) (v0_4_3 : Int) (v0_6_0 : Int) (v0_6_1 : Int) (v0_6_2 : Int) (v0_6_3 : Int) (v0_7 : Bool) (v0_8 : Int), headF prog (ev35 m24 m32 m61 m62) L f35 0 [1, 1, 1, 1, 1, 0, 1, 0, 0] (outK (outV prog f35) k xk) n (S35_0 a0 a1 v0_4_0 v0_4_1 v0_4_2 v0_4_3 v0_6_0 v0_6_1 v0_6_2 v0_6_3 v0_7 v0_8) = (l35_0 m24 m32 m61 m62 L a0 a1 n v0_4_0 v0_4_1 v0_4_2 v0_4_3 v0_6_0 v0_6_1 v0_6_2 v0_6_3 v0_7 v0_8 k').map n35
  | 0, _, _, _, _, _, _, _, _, _, _ => rfl
  | n + 1, v0_4_0, v0_4_1, v0_4_2, v0_4_3, v0_6_0, v0_6_1, v0_6_2, v0_6_3, v0_7, v0_8 => by
    rw [headF_round, r35_0]
    have ih := h35_0 m24 m32 m61 m62 L a0 a1 k xk k' hk n
    simp only [l35_0, map_bif, map_tst, Option.map_some, Option.map_none, ih, hk]
def g35 (m24 : (List (Int × Int)) → Option Int) (m32 : ((List Int) × Int) → Option Int) (m61 : (Int × Int) → Option Int) (m62 : (Int × Int) → Option Int) (L : Nat) (a0 : (List Int)) (a1 : (List (Int × Int))) : Option (Int × Int × Int × Int) :=
  bif ((Nat.cast (List.length a0) : Int) != (31 : Int)) then some ((1 : Int), (0 : Int), (0 : Int), (0 : Int))
  else tst (m24 a1) (0 : Int) fun (q1 : Int) => bif (q1 != (0 : Int)) then some (q1, (0 : Int), (0 : Int), (0 : Int))
    else tst (m32 (a0, (0 : Int))) (0 : Int) fun (q2 : Int) => l35_0 m24 m32 m61 m62 L a0 a1 L (0 : Int) (0 : Int) (0 : Int) (0 : Int) (0 : Int) (0 : Int) (0 : Int) q2 Bool.true (0 : Int) (fun (w0_4_0 : Int) (w0_4_1 : Int) (w0_4_2 : Int) (w0_4_3 : Int) (w0_6_0 : Int) (w0_6_1 : Int) (w0_6_2 : Int) (w0_6_3 : Int) => some (w0_6_0, w0_6_1, w0_6_2, w0_6_3))
theorem e35 (m24 : (List (Int × Int)) → Option Int) (m32 : ((List Int) × Int) → Option Int) (m61 : (Int × Int) → Option Int) (m62 : (Int × Int) → Option Int) (L : Nat) (a0 : (List Int)) (a1 : (List (Int × Int))) : evF prog (ev35 m24 m32 m61 m62) (loopN L) f35 (a35.enc (a0, a1)) = (g35 m24 m32 m61 m62 L a0 a1).map n35 := by
  let K'0 : Int → Int → Int → Int → Int → Int → Int → Int → Option (Int × Int × Int × Int) := (fun (w0_4_0 : Int) (w0_4_1 : Int) (w0_4_2 : Int) (w0_4_3 : Int) (w0_6_0 : Int) (w0_6_1 : Int) (w0_6_2 : Int) (w0_6_3 : Int) => some (w0_6_0, w0_6_1, w0_6_2, w0_6_3))
  have hin0 : ∀ (v0_4_0 : Int) (v0_4_1 : Int) (v0_4_2 : Int) (v0_4_3 : Int) (v0_6_0 : Int) (v0_6_1 : Int) (v0_6_2 : Int) (v0_6_3 : Int) (v0_7 : Bool) (v0_8 : Int), headF prog (ev35 m24 m32 m61 m62) L f35 0 [1, 1, 1, 1, 1, 0, 1, 0, 0] (outK (outV prog f35) (topK prog (ev35 m24 m32 m61 m62) L f35 [1, 1, 1, 1, 1, 0, 1] (outV prog f35)).n (topK prog (ev35 m24 m32 m61 m62) L f35 [1, 1, 1, 1, 1, 0, 1] (outV prog f35)).x) L (S35_0 a0 a1 v0_4_0 v0_4_1 v0_4_2 v0_4_3 v0_6_0 v0_6_1 v0_6_2 v0_6_3 v0_7 v0_8) = (l35_0 m24 m32 m61 m62 L a0 a1 L v0_4_0 v0_4_1 v0_4_2 v0_4_3 v0_6_0 v0_6_1 v0_6_2 v0_6_3 v0_7 v0_8 K'0).map n35 := fun v0_4_0 v0_4_1 v0_4_2 v0_4_3 v0_6_0 v0_6_1 v0_6_2 v0_6_3 v0_7 v0_8 => h35_0 m24 m32 m61 m62 L a0 a1 _ _ K'0 (fun w0_4_0 w0_4_1 w0_4_2 w0_4_3 w0_6_0 w0_6_1 w0_6_2 w0_6_3 => by rw [t35_0]; simp only [K'0, map_bif, map_tst, Option.map_some, Option.map_none]) L v0_4_0 v0_4_1 v0_4_2 v0_4_3 v0_6_0 v0_6_1 v0_6_2 v0_6_3 v0_7 v0_8
  rw [i35]; simp only [g35, map_bif, map_tst, Option.map_some, Option.map_none, hin0, K'0]
theorem s35 (m24 : (List (Int × Int)) → Option Int) (m32 : ((List Int) × Int) → Option Int) (m61 : (Int × Int) → Option Int) (m62 : (Int × Int) → Option Int) (h24 : Sat prog cxT 24 (c24 m24)) (h32 : Sat prog cxT 32 (c32 m32)) (h61 : Sat prog cxT 61 (c61 m61)) (h62 : Sat prog cxT 62 (c62 m62)) (m : ((List Int) × (List (Int × Int))) → Option (Int × Int × Int × Int)) (hm : ∀ (x : ((List Int) × (List (Int × Int)))) t, m x = some t → ∃ L, g35 m24 m32 m61 m62 L x.1 x.2 = some t) : Sat prog cxT 35 (c35 m) :=
  sat_t cxT_ok cxT_pok (by rfl) (fn := f35) rfl a35 n35 dd35 m (ev35 m24 m32 m61 m62) (kok_cons h24 (kok_cons h32 (kok_cons h61 (kok_cons h62 kok_nil)))) kwok_nil (fun L x => g35 m24 m32 m61 m62 L x.1 x.2) (fun L x => e35 m24 m32 m61 m62 L x.1 x.2) hm hs35
/-! loop.example/g00222/impl.countsOf -/
def ev48 (m17 : ((List Int) × Int) → Option Int) : Env cxT := { Kc := kcOf [(17, c17 m17)], Kw := kwOf [], lv := fun i => if i = 0 then [(0, [some 2]), (5, [some 2]), (8, [some 31]), (9, []), (10, [])] else [], xv := fun i => if i = 0 then some [(5, [some 2])] else none }
def S48_0 (a0 : (List Int)) (a1 : (List (Int × Int))) (v0_5 : (List Int)) (v0_10 : Int) : St cxT.ty := { slots := [(.inl (.inl (ls { own := 0, nm := 0, e := 2, o := false, xs := a0 }))), junk, junk, junk, junk, (.inl (.inl (ls { own := 1, nm := 320, e := 2, o := true, xs := v0_5 }))), junk, junk, (.inl (.inl (ls { own := 0, nm := 0, e := 31, o := false, xs := a1 }))), (.inl (.inl (lv (.int .i64 (Nat.cast (List.length a1) : Int))))), (.inl (.inl (lv (.int .i64 v0_10))))] ++ List.replicate 15 junk, D := [], F := [], ctr := 1 }
def X48_0 (a0 : (List Int)) (a1 : (List (Int × Int))) (w0_5 : (List Int)) : St cxT.ty := { slots := [junk, junk, junk, junk, junk, (.inl (.inl (ls { own := 1, nm := 320, e := 2, o := true, xs := w0_5 })))] ++ List.replicate 20 junk, D := [], F := [], ctr := 1 }
theorem i48 (m17 : ((List Int) × Int) → Option Int) (L : Nat) (a0 : (List Int)) (a1 : (List (Int × Int))) : evF prog (ev48 m17) (loopN L) f48 (a48.enc (a0, a1)) =
  headF prog (ev48 m17) L f48 0 [1, 1, 0, 1, 0, 0] (outK (outV prog f48) (topK prog (ev48 m17) L f48 [1, 1, 0, 1] (outV prog f48)).n (topK prog (ev48 m17) L f48 [1, 1, 0, 1] (outV prog f48)).x) L (S48_0 a0 a1 ([] : List (Int)) (0 : Int)) := by kernel_rfl
theorem r48_0 (m17 : ((List Int) × Int) → Option Int) (L : Nat) (a0 : (List Int)) (a1 : (List (Int × Int))) (k : St cxT.ty → Option (V cxT.ty)) (xk : Nat → St cxT.ty → Option (V cxT.ty)) (g : St cxT.ty → Option (V cxT.ty)) (v0_5 : (List Int)) (v0_10 : Int) : roundF prog (ev48 m17) L f48 0 [1, 1, 0, 1, 0, 0] (outK (outV prog f48) k xk) g (S48_0 a0 a1 v0_5 v0_10) =
  bif (decide (v0_10 < (Nat.cast (List.length a1) : Int))) then bif ((decide ((0 : Int) ≤ v0_10)) && (decide (v0_10 < (Nat.cast (List.length a1) : Int)))) then bif (decide ((List.getD a1 (Int.toNat v0_10) ((0 : Int), (0 : Int))).2 > (0 : Int))) then tst (m17 (a0, (List.getD a1 (Int.toNat v0_10) ((0 : Int), (0 : Int))).1)) (0 : Int) fun (q4 : Int) => bif (decide (((List.length v0_5) + (List.length (List.cons q4 ([] : List (Int))))) ≤ (1000000000 : Nat))) then g (S48_0 a0 a1 (v0_5 ++ (List.cons q4 ([] : List (Int)))) (Go.IntKind.wrap Go.IntKind.i64 (v0_10 + (1 : Int))))
          else none
      else g (S48_0 a0 a1 v0_5 (Go.IntKind.wrap Go.IntKind.i64 (v0_10 + (1 : Int))))
    else none
  else k (X48_0 a0 a1 v0_5) := by kernel_rfl
theorem t48_0 (m17 : ((List Int) × Int) → Option Int) (L : Nat) (a0 : (List Int)) (a1 : (List (Int × Int))) (w0_5 : (List Int)) : (topK prog (ev48 m17) L f48 [1, 1, 0, 1] (outV prog f48)).n (X48_0 a0 a1 w0_5) =
  some (n48 w0_5) := by kernel_rfl
def l48_0 (m17 : ((List Int) × Int) → Option Int) (L : Nat) (a0 : (List Int)) (a1 : (List (Int × Int))) : Nat → (List Int) → Int → ((List Int) → Option (List Int)) → Option (List Int)
  | 0, _, _, _ => none
  | n + 1, v0_5, v0_10, k =>
    bif (decide (v0_10 < (Nat.cast (List.length a1) : Int))) then bif ((decide ((0 : Int) ≤ v0_10)) && (decide (v0_10 < (Nat.cast (List.length a1) : Int)))) then bif (decide ((List.getD a1 (Int.toNat v0_10) ((0 : Int), (0 : Int))).2 > (0 : Int))) then tst (m17 (a0, (List.getD a1 (Int.toNat v0_10) ((0 : Int), (0 : Int))).1)) (0 : Int) fun (q5 : Int) => bif (decide (((List.length v0_5) + (List.length (List.cons q5 ([] : List (Int))))) ≤ (1000000000 : Nat))) then l48_0 m17 L a0 a1 n (v0_5 ++ (List.cons q5 ([] : List (Int)))) (Go.IntKind.wrap Go.IntKind.i64 (v0_10 + (1 : Int))) k
            else none
        else l48_0 m17 L a0 a1 n v0_5 (Go.IntKind.wrap Go.IntKind.i64 (v0_10 + (1 : Int))) k
      else none
    else k v0_5
theorem h48_0 (m17 : ((List Int) × Int) → Option Int) (L : Nat) (a0 : (List Int)) (a1 : (List (Int × Int))) (k : St cxT.ty → Option (V cxT.ty)) (xk : Nat → St cxT.ty → Option (V cxT.ty)) (k' : (List Int) → Option (List Int)) (hk : ∀ (w0_5 : (List Int)), k (X48_0 a0 a1 w0_5) = (k' w0_5).map n48) : ∀ (n : Nat) (v0_5 : (List Int)) (v0_10 : Int), headF prog (ev48 m17) L f48 0 [1, 1, 0, 1, 0, 0] (outK (outV prog f48) k xk) n (S48_0 a0 a1 v0_5 v0_10) = (l48_0 m17 L a0 a1 n v0_5 v0_10 k').map n48
  | 0, _, _ => rfl
  | n + 1, v0_5, v0_10 => by
    rw [headF_round, r48_0]
    have ih := h48_0 m17 L a0 a1 k xk k' hk n
    simp only [l48_0, map_bif, map_tst, Option.map_some, Option.map_none, ih, hk]
def g48 (m17 : ((List Int) × Int) → Option Int) (L : Nat) (a0 : (List Int)) (a1 : (List (Int × Int))) : Option (List Int) :=
  l48_0 m17 L a0 a1 L ([] : List (Int)) (0 : Int) (fun (w0_5 : (List Int)) => some w0_5)
theorem e48 (m17 : ((List Int) × Int) → Option Int) (L : Nat) (a0 : (List Int)) (a1 : (List (Int × Int))) : evF prog (ev48 m17) (loopN L) f48 (a48.enc (a0, a1)) = (g48 m17 L a0 a1).map n48 := by
  let K'0 : (List Int) → Option (List Int) := (fun (w0_5 : (List Int)) => some w0_5)
  have hin0 : ∀ (v0_5 : (List Int)) (v0_10 : Int), headF prog (ev48 m17) L f48 0 [1, 1, 0, 1, 0, 0] (outK (outV prog f48) (topK prog (ev48 m17) L f48 [1, 1, 0, 1] (outV prog f48)).n (topK prog (ev48 m17) L f48 [1, 1, 0, 1] (outV prog f48)).x) L (S48_0 a0 a1 v0_5 v0_10) = (l48_0 m17 L a0 a1 L v0_5 v0_10 K'0).map n48 := fun v0_5 v0_10 => h48_0 m17 L a0 a1 _ _ K'0 (fun w0_5 => by rw [t48_0]; simp only [K'0, map_bif, map_tst, Option.map_some, Option.map_none]) L v0_5 v0_10
  rw [i48]; simp only [g48, map_bif, map_tst, Option.map_some, Option.map_none, hin0, K'0]
theorem s48 (m17 : ((List Int) × Int) → Option Int) (h17 : Sat prog cxT 17 (c17 m17)) (m : ((List Int) × (List (Int × Int))) → Option (List Int)) (hm : ∀ (x : ((List Int) × (List (Int × Int)))) t, m x = some t → ∃ L, g48 m17 L x.1 x.2 = some t) : Sat prog cxT 48 (c48 m) :=
  sat_t cxT_ok cxT_pok (by rfl) (fn := f48) rfl a48 n48 dd48 m (ev48 m17) (kok_cons h17 kok_nil) kwok_nil (fun L x => g48 m17 L x.1 x.2) (fun L x => e48 m17 L x.1 x.2) hm hs48
/-! slices.Min[[]int64,int64] -/
def ev49 : Env cxT := { Kc := kcOf [], Kw := kwOf [], lv := fun i => if i = 0 then [(0, [some 2]), (3, []), (4, [])] else [], xv := fun i => if i = 0 then some [(3, [])] else none }
def S49_0 (a0 : (List Int)) (v0_3 : Int) (v0_4 : Int) : St cxT.ty := { slots := [(.inl (.inl (ls { own := 0, nm := 0, e := 2, o := false, xs := a0 }))), junk, junk, (.inl (.inl (lv (.int .i64 v0_3)))), (.inl (.inl (lv (.int .i64 v0_4))))] ++ List.replicate 20 junk, D := [], F := [], ctr := 1 }
def X49_0 (a0 : (List Int)) (w0_3 : Int) : St cxT.ty := { slots := [junk, junk, junk, (.inl (.inl (lv (.int .i64 w0_3))))] ++ List.replicate 21 junk, D := [], F := [], ctr := 1 }
theorem i49 (L : Nat) (a0 : (List Int)) : evF prog ev49 (loopN L) f49 (a49.enc a0) =
  bif (decide ((Nat.cast (List.length a0) : Int) < (1 : Int))) then none
  else bif ((decide ((0 : Int) ≤ (0 : Int))) && (decide ((0 : Int) < (Nat.cast (List.length a0) : Int)))) then headF prog ev49 L f49 0 [1, 1, 1, 0, 1, 0, 0] (outK (outV prog f49) (topK prog ev49 L f49 [1, 1, 1, 0, 1] (outV prog f49)).n (topK prog ev49 L f49 [1, 1, 1, 0, 1] (outV prog f49)).x) L (S49_0 a0 (List.getD a0 (0 : Nat) (0 : Int)) (1 : Int))
  else none := by kernel_rfl
theorem r49_0 (L : Nat) (a0 : (List Int)) (k : St cxT.ty → Option (V cxT.ty)) (xk : Nat → St cxT.ty → Option (V cxT.ty)) (g : St cxT.ty → Option (V cxT.ty)) (v0_3 : Int) (v0_4 : Int) : roundF prog ev49 L f49 0 [1, 1, 1, 0, 1, 0, 0] (outK (outV prog f49) k xk) g (S49_0 a0 v0_3 v0_4) =
  bif (decide (v0_4 < (Nat.cast (List.length a0) : Int))) then bif ((decide ((0 : Int) ≤ v0_4)) && (decide (v0_4 < (Nat.cast (List.length a0) : Int)))) then g (S49_0 a0 (ite ((List.getD a0 (Int.toNat v0_4) (0 : Int)) < v0_3) (List.getD a0 (Int.toNat v0_4) (0 : Int)) v0_3) (Go.IntKind.wrap Go.IntKind.i64 (v0_4 + (1 : Int))))
    else none
  else k (X49_0 a0 v0_3) := by kernel_rfl
theorem t49_0 (L : Nat) (a0 : (List Int)) (w0_3 : Int) : (topK prog ev49 L f49 [1, 1, 1, 0, 1] (outV prog f49)).n (X49_0 a0 w0_3) =
  some (n49 w0_3) := by kernel_rfl
def l49_0 (L : Nat) (a0 : (List Int)) : Nat → Int → Int → (Int → Option Int) → Option Int
  | 0, _, _, _ => none
  | n + 1, v0_3, v0_4, k =>
    bif (decide (v0_4 < (Nat.cast (List.length a0) : Int))) then bif ((decide ((0 : Int) ≤ v0_4)) && (decide (v0_4 < (Nat.cast (List.length a0) : Int)))) then l49_0 L a0 n (ite ((List.getD a0 (Int.toNat v0_4) (0 : Int)) < v0_3) (List.getD a0 (Int.toNat v0_4) (0 : Int)) v0_3) (Go.IntKind.wrap Go.IntKind.i64 (v0_4 + (1 : Int))) k
      else none
    else k v0_3
theorem h49_0 (L : Nat) (a0 : (List Int)) (k : St cxT.ty → Option (V cxT.ty)) (xk : Nat → St cxT.ty → Option (V cxT.ty)) (k' : Int → Option Int) (hk : ∀ (w0_3 : Int), k (X49_0 a0 w0_3) = (k' w0_3).map n49) : ∀ (n : Nat) (v0_3 : Int) (v0_4 : Int), headF prog ev49 L f49 0 [1, 1, 1, 0, 1, 0, 0] (outK (outV prog f49) k xk) n (S49_0 a0 v0_3 v0_4) = (l49_0 L a0 n v0_3 v0_4 k').map n49
  | 0, _, _ => rfl
  | n + 1, v0_3, v0_4 => by
    rw [headF_round, r49_0]
    have ih := h49_0 L a0 k xk k' hk n
    simp only [l49_0, map_bif, map_tst, Option.map_some, Option.map_none, ih, hk]
def g49 (L : Nat) (a0 : (List Int)) : Option Int :=
  bif (decide ((Nat.cast (List.length a0) : Int) < (1 : Int))) then none
  else bif ((decide ((0 : Int) ≤ (0 : Int))) && (decide ((0 : Int) < (Nat.cast (List.length a0) : Int)))) then l49_0 L a0 L (List.getD a0 (0 : Nat) (0 : Int)) (1 : Int) (fun (w0_3 : Int) => some w0_3)
  else none
theorem e49 (L : Nat) (a0 : (List Int)) : evF prog ev49 (loopN L) f49 (a49.enc a0) = (g49 L a0).map n49 := by
  let K'0 : Int → Option Int := (fun (w0_3 : Int) => some w0_3)
  have hin0 : ∀ (v0_3 : Int) (v0_4 : Int), headF prog ev49 L f49 0 [1, 1, 1, 0, 1, 0, 0] (outK (outV prog f49) (topK prog ev49 L f49 [1, 1, 1, 0, 1] (outV prog f49)).n (topK prog ev49 L f49 [1, 1, 1, 0, 1] (outV prog f49)).x) L (S49_0 a0 v0_3 v0_4) = (l49_0 L a0 L v0_3 v0_4 K'0).map n49 := fun v0_3 v0_4 => h49_0 L a0 _ _ K'0 (fun w0_3 => by rw [t49_0]; simp only [K'0, map_bif, map_tst, Option.map_some, Option.map_none]) L v0_3 v0_4
  rw [i49]; simp only [g49, map_bif, map_tst, Option.map_some, Option.map_none, hin0, K'0]
theorem s49 (m : (List Int) → Option Int) (hm : ∀ (x : (List Int)) t, m x = some t → ∃ L, g49 L x = some t) : Sat prog cxT 49 (c49 m) :=
  sat_t cxT_ok cxT_pok (by rfl) (fn := f49) rfl a49 n49 dd49 m ev49 kok_nil kwok_nil (fun L x => g49 L x) (fun L x => e49 L x) hm hs49
/-! slices.Max[[]int64,int64] -/
def ev50 : Env cxT := { Kc := kcOf [], Kw := kwOf [], lv := fun i => if i = 0 then [(0, [some 2]), (3, []), (4, [])] else [], xv := fun i => if i = 0 then some [(3, [])] else none }
def S50_0 (a0 : (List Int)) (v0_3 : Int) (v0_4 : Int) : St cxT.ty := { slots := [(.inl (.inl (ls { own := 0, nm := 0, e := 2, o := false, xs := a0 }))), junk, junk, (.inl (.inl (lv (.int .i64 v0_3)))), (.inl (.inl (lv (.int .i64 v0_4))))] ++ List.replicate 20 junk, D := [], F := [], ctr := 1 }
def X50_0 (a0 : (List Int)) (w0_3 : Int) : St cxT.ty := { slots := [junk, junk, junk, (.inl (.inl (lv (.int .i64 w0_3))))] ++ List.replicate 21 junk, D := [], F := [], ctr := 1 }
theorem i50 (L : Nat) (a0 : (List Int)) : evF prog ev50 (loopN L) f50 (a50.enc a0) =
  bif (decide ((Nat.cast (List.length a0) : Int) < (1 : Int))) then none
  else bif ((decide ((0 : Int) ≤ (0 : Int))) && (decide ((0 : Int) < (Nat.cast (List.length a0) : Int)))) then headF prog ev50 L f50 0 [1, 1, 1, 0, 1, 0, 0] (outK (outV prog f50) (topK prog ev50 L f50 [1, 1, 1, 0, 1] (outV prog f50)).n (topK prog ev50 L f50 [1, 1, 1, 0, 1] (outV prog f50)).x) L (S50_0 a0 (List.getD a0 (0 : Nat) (0 : Int)) (1 : Int))
  else none := by kernel_rfl
theorem r50_0 (L : Nat) (a0 : (List Int)) (k : St cxT.ty → Option (V cxT.ty)) (xk : Nat → St cxT.ty → Option (V cxT.ty)) (g : St cxT.ty → Option (V cxT.ty)) (v0_3 : Int) (v0_4 : Int) : roundF prog ev50 L f50 0 [1, 1, 1, 0, 1, 0, 0] (outK (outV prog f50) k xk) g (S50_0 a0 v0_3 v0_4) =
  bif (decide (v0_4 < (Nat.cast (List.length a0) : Int))) then bif ((decide ((0 : Int) ≤ v0_4)) && (decide (v0_4 < (Nat.cast (List.length a0) : Int)))) then g (S50_0 a0 (ite ((List.getD a0 (Int.toNat v0_4) (0 : Int)) > v0_3) (List.getD a0 (Int.toNat v0_4) (0 : Int)) v0_3) (Go.IntKind.wrap Go.IntKind.i64 (v0_4 + (1 : Int))))
    else none
  else k (X50_0 a0 v0_3) := by kernel_rfl
theorem t50_0 (L : Nat) (a0 : (List Int)) (w0_3 : Int) : (topK prog ev50 L f50 [1, 1, 1, 0, 1] (outV prog f50)).n (X50_0 a0 w0_3) =
  some (n50 w0_3) := by kernel_rfl
def l50_0 (L : Nat) (a0 : (List Int)) : Nat → Int → Int → (Int → Option Int) → Option Int
  | 0, _, _, _ => none
  | n + 1, v0_3, v0_4, k =>
    bif (decide (v0_4 < (Nat.cast (List.length a0) : Int))) then bif ((decide ((0 : Int) ≤ v0_4)) && (decide (v0_4 < (Nat.cast (List.length a0) : Int)))) then l50_0 L a0 n (ite ((List.getD a0 (Int.toNat v0_4) (0 : Int)) > v0_3) (List.getD a0 (Int.toNat v0_4) (0 : Int)) v0_3) (Go.IntKind.wrap Go.IntKind.i64 (v0_4 + (1 : Int))) k
      else none
    else k v0_3
theorem h50_0 (L : Nat) (a0 : (List Int)) (k : St cxT.ty → Option (V cxT.ty)) (xk : Nat → St cxT.ty → Option (V cxT.ty)) (k' : Int → Option Int) (hk : ∀ (w0_3 : Int), k (X50_0 a0 w0_3) = (k' w0_3).map n50) : ∀ (n : Nat) (v0_3 : Int) (v0_4 : Int), headF prog ev50 L f50 0 [1, 1, 1, 0, 1, 0, 0] (outK (outV prog f50) k xk) n (S50_0 a0 v0_3 v0_4) = (l50_0 L a0 n v0_3 v0_4 k').map n50
  | 0, _, _ => rfl
  | n + 1, v0_3, v0_4 => by
    rw [headF_round, r50_0]
    have ih := h50_0 L a0 k xk k' hk n
    simp only [l50_0, map_bif, map_tst, Option.map_some, Option.map_none, ih, hk]
def g50 (L : Nat) (a0 : (List Int)) : Option Int :=
  bif (decide ((Nat.cast (List.length a0) : Int) < (1 : Int))) then none
  else bif ((decide ((0 : Int) ≤ (0 : Int))) && (decide ((0 : Int) < (Nat.cast (List.length a0) : Int)))) then l50_0 L a0 L (List.getD a0 (0 : Nat) (0 : Int)) (1 : Int) (fun (w0_3 : Int) => some w0_3)
  else none
theorem e50 (L : Nat) (a0 : (List Int)) : evF prog ev50 (loopN L) f50 (a50.enc a0) = (g50 L a0).map n50 := by
  let K'0 : Int → Option Int := (fun (w0_3 : Int) => some w0_3)
  have hin0 : ∀ (v0_3 : Int) (v0_4 : Int), headF prog ev50 L f50 0 [1, 1, 1, 0, 1, 0, 0] (outK (outV prog f50) (topK prog ev50 L f50 [1, 1, 1, 0, 1] (outV prog f50)).n (topK prog ev50 L f50 [1, 1, 1, 0, 1] (outV prog f50)).x) L (S50_0 a0 v0_3 v0_4) = (l50_0 L a0 L v0_3 v0_4 K'0).map n50 := fun v0_3 v0_4 => h50_0 L a0 _ _ K'0 (fun w0_3 => by rw [t50_0]; simp only [K'0, map_bif, map_tst, Option.map_some, Option.map_none]) L v0_3 v0_4
  rw [i50]; simp only [g50, map_bif, map_tst, Option.map_some, Option.map_none, hin0, K'0]
theorem s50 (m : (List Int) → Option Int) (hm : ∀ (x : (List Int)) t, m x = some t → ∃ L, g50 L x = some t) : Sat prog cxT 50 (c50 m) :=
  sat_t cxT_ok cxT_pok (by rfl) (fn := f50) rfl a50 n50 dd50 m ev50 kok_nil kwok_nil (fun L x => g50 L x) (fun L x => e50 L x) hm hs50
/-! loop.example/g00222/impl.WithoutShare -/
def ev19 (m26 : (List (Int × Int)) → Option Int) : Env cxT := { Kc := kcOf [(26, c26 m26)], Kw := kwOf [], lv := fun i => if i = 0 then [(0, [some 31]), (1, []), (4, [none, some 31]), (6, [some 31]), (15, [some 31]), (16, []), (17, [])] else [], xv := fun i => if i = 0 then some [(0, [some 31]), (4, [none, some 31]), (6, [some 31])] else none }
def S19_0 (a0 : (List (Int × Int))) (a1 : Int) (v0_4_0 : Int) (v0_4_1 : (List (Int × Int))) (v0_6 : (List (Int × Int))) (v0_17 : Int) : St cxT.ty := { slots := [(.inl (.inl (ls { own := 0, nm := 0, e := 31, o := false, xs := a0 }))), (.inl (.inl (lv (.int .i64 a1)))), junk, junk, (.inr (.inr { kind := 0, nm := 256, cells := [(lv (.int .i64 v0_4_0)), (ls { own := 1, nm := 258, e := 31, o := true, xs := v0_4_1 })], s := { own := 0, nm := 0, e := 0, o := false, xs := ([] : List (PUnit)) }, i := 0, off := 0 })), junk, (.inl (.inl (ls { own := 1, nm := 384, e := 31, o := true, xs := v0_6 }))), junk, junk, junk, junk, junk, junk, junk, junk, (.inl (.inl (ls { own := 0, nm := 0, e := 31, o := false, xs := a0 }))), (.inl (.inl (lv (.int .i64 (Nat.cast (List.length a0) : Int))))), (.inl (.inl (lv (.int .i64 v0_17))))] ++ List.replicate 20 junk, D := [], F := [], ctr := 1 }
def X19_0 (a0 : (List (Int × Int))) (a1 : Int) (w0_4_0 : Int) (w0_4_1 : (List (Int × Int))) (w0_6 : (List (Int × Int))) : St cxT.ty := { slots := [(.inl (.inl (ls { own := 0, nm := 0, e := 31, o := false, xs := a0 }))), junk, junk, junk, (.inr (.inr { kind := 0, nm := 256, cells := [(lv (.int .i64 w0_4_0)), (ls { own := 1, nm := 258, e := 31, o := true, xs := w0_4_1 })], s := { own := 0, nm := 0, e := 0, o := false, xs := ([] : List (PUnit)) }, i := 0, off := 0 })), junk, (.inl (.inl (ls { own := 1, nm := 384, e := 31, o := true, xs := w0_6 })))] ++ List.replicate 31 junk, D := [], F := [], ctr := 1 }
theorem i19 (m26 : (List (Int × Int)) → Option Int) (L : Nat) (a0 : (List (Int × Int))) (a1 : Int) : evF prog (ev19 m26) (loopN L) f19 (a19.enc (a0, a1)) =
  tst (m26 a0) (0 : Int) fun (q1 : Int) => bif (q1 != (0 : Int)) then some (n19 (q1, ([] : List (Int × Int))))
    else headF prog (ev19 m26) L f19 0 [1, 1, 1, 0, 1, 0, 0] (outK (outV prog f19) (topK prog (ev19 m26) L f19 [1, 1, 1, 0, 1] (outV prog f19)).n (topK prog (ev19 m26) L f19 [1, 1, 1, 0, 1] (outV prog f19)).x) L (S19_0 a0 a1 (0 : Int) ([] : List (Int × Int)) ([] : List (Int × Int)) (0 : Int)) := by kernel_rfl
theorem r19_0 (m26 : (List (Int × Int)) → Option Int) (L : Nat) (a0 : (List (Int × Int))) (a1 : Int) (k : St cxT.ty → Option (V cxT.ty)) (xk : Nat → St cxT.ty → Option (V cxT.ty)) (g : St cxT.ty → Option (V cxT.ty)) (v0_4_0 : Int) (v0_4_1 : (List (Int × Int))) (v0_6 : (List (Int × Int))) (v0_17 : Int) : roundF prog (ev19 m26) L f19 0 [1, 1, 1, 0, 1, 0, 0] (outK (outV prog f19) k xk) g (S19_0 a0 a1 v0_4_0 v0_4_1 v0_6 v0_17) =
  bif (decide (v0_17 < (Nat.cast (List.length a0) : Int))) then bif ((decide ((0 : Int) ≤ v0_17)) && (decide (v0_17 < (Nat.cast (List.length a0) : Int)))) then bif ((List.getD a0 (Int.toNat v0_17) ((0 : Int), (0 : Int))).1 != a1) then bif (decide (((List.length v0_6) + (List.length (List.cons ((List.getD a0 (Int.toNat v0_17) ((0 : Int), (0 : Int))).1, (List.getD a0 (Int.toNat v0_17) ((0 : Int), (0 : Int))).2) ([] : List (Int × Int))))) ≤ (1000000000 : Nat))) then g (S19_0 a0 a1 v0_4_0 v0_4_1 (v0_6 ++ (List.cons ((List.getD a0 (Int.toNat v0_17) ((0 : Int), (0 : Int))).1, (List.getD a0 (Int.toNat v0_17) ((0 : Int), (0 : Int))).2) ([] : List (Int × Int)))) (Go.IntKind.wrap Go.IntKind.i64 (v0_17 + (1 : Int))))
        else none
      else g (S19_0 a0 a1 v0_4_0 v0_4_1 v0_6 (Go.IntKind.wrap Go.IntKind.i64 (v0_17 + (1 : Int))))
    else none
  else k (X19_0 a0 a1 v0_4_0 v0_4_1 v0_6) := by kernel_rfl
theorem t19_0 (m26 : (List (Int × Int)) → Option Int) (L : Nat) (a0 : (List (Int × Int))) (a1 : Int) (w0_4_0 : Int) (w0_4_1 : (List (Int × Int))) (w0_6 : (List (Int × Int))) : (topK prog (ev19 m26) L f19 [1, 1, 1, 0, 1] (outV prog f19)).n (X19_0 a0 a1 w0_4_0 w0_4_1 w0_6) =
  bif ((Nat.cast (List.length w0_6) : Int) == (Nat.cast (List.length a0) : Int)) then some (n19 ((4 : Int), ([] : List (Int × Int))))
  else some (n19 ((0 : Int), w0_6)) := by kernel_rfl
def l19_0 (m26 : (List (Int × Int)) → Option Int) (L : Nat) (a0 : (List (Int × Int))) (a1 : Int) : Nat → Int → (List (Int × Int)) → (List (Int × Int)) → Int → (Int → (List (Int × Int)) → (List (Int × Int)) → Option (Int × (List (Int × Int)))) → Option (Int × (List (Int × Int)))
  | 0, _, _, _, _, _ => none
  | n + 1, v0_4_0, v0_4_1, v0_6, v0_17, k =>
    bif (decide (v0_17 < (Nat.cast (List.length a0) : Int))) then bif ((decide ((0 : Int) ≤ v0_17)) && (decide (v0_17 < (Nat.cast (List.length a0) : Int)))) then bif ((List.getD a0 (Int.toNat v0_17) ((0 : Int), (0 : Int))).1 != a1) then bif (decide (((List.length v0_6) + (List.length (List.cons ((List.getD a0 (Int.toNat v0_17) ((0 : Int), (0 : Int))).1, (List.getD a0 (Int.toNat v0_17) ((0 : Int), (0 : Int))).2) ([] : List (Int × Int))))) ≤ (1000000000 : Nat))) then l19_0 m26 L a0 a1 n v0_4_0 v0_4_1 (v0_6 ++ (List.cons ((List.getD a0 (Int.toNat v0_17) ((0 : Int), (0 : Int))).1, (List.getD a0 (Int.toNat v0_17) ((0 : Int), (0 : Int))).2) ([] : List (Int × Int)))) (Go.IntKind.wrap Go.IntKind.i64 (v0_17 + (1 : Int))) k
          else none
        else l19_0 m26 L a0 a1 n v0_4_0 v0_4_1 v0_6 (Go.IntKind.wrap Go.IntKind.i64 (v0_17 + (1 : Int))) k
      else none
    else k v0_4_0 v0_4_1 v0_6
theorem h19_0 (m26 : (List (Int × Int)) → Option Int) (L : Nat) (a0 : (List (Int × Int))) (a1 : Int) (k : St cxT.ty → Option (V cxT.ty)) (xk : Nat → St cxT.ty → Option (V cxT.ty)) (k' : Int → (List (Int × Int)) → (List (Int × Int)) → Option (Int × (List (Int × Int)))) (hk : ∀ (w0_4_0 : Int) (w0_4_1 : (List (Int × Int))) (w0_6 : (List (Int × Int))), k (X19_0 a0 a1 w0_4_0 w0_4_1 w0_6) = (k' w0_4_0 w0_4_1 w0_6).map n19) : ∀ (n : Nat) (v0_4_0 : Int) (v0_4_1 : (List (Int × Int))) (v0_6 : (List (Int × Int))) (v0_17 : Int), headF prog (ev19 m26) L f19 0 [1, 1, 1, 0, 1, 0, 0] (outK (outV prog f19) k xk) n (S19_0 a0 a1 v0_4_0 v0_4_1 v0_6 v0_17) = (l19_0 m26 L a0 a1 n v0_4_0 v0_4_1 v0_6 v0_17 k').map n19
  | 0, _, _, _, _ => rfl
  | n + 1, v0_4_0, v0_4_1, v0_6, v0_17 => by
    rw [headF_round, r19_0]
    have ih := h19_0 m26 L a0 a1 k xk k' hk n
    simp only [l19_0, map_bif, map_tst, Option.map_some, Option.map_none, ih, hk]
def g19 (m26 : (List (Int × Int)) → Option Int) (L : Nat) (a0 : (List (Int × Int))) (a1 : Int) : Option (Int × (List (Int × Int))) :=
  tst (m26 a0) (0 : Int) fun (q1 : Int) => bif (q1 != (0 : Int)) then some (q1, ([] : List (Int × Int)))
    else l19_0 m26 L a0 a1 L (0 : Int) ([] : List (Int × Int)) ([] : List (Int × Int)) (0 : Int) (fun (w0_4_0 : Int) (w0_4_1 : (List (Int × Int))) (w0_6 : (List (Int × Int))) => bif ((Nat.cast (List.length w0_6) : Int) == (Nat.cast (List.length a0) : Int)) then some ((4 : Int), ([] : List (Int × Int)))
      else some ((0 : Int), w0_6))
theorem e19 (m26 : (List (Int × Int)) → Option Int) (L : Nat) (a0 : (List (Int × Int))) (a1 : Int) : evF prog (ev19 m26) (loopN L) f19 (a19.enc (a0, a1)) = (g19 m26 L a0 a1).map n19 := by
  let K'0 : Int → (List (Int × Int)) → (List (Int × Int)) → Option (Int × (List (Int × Int))) := (fun (w0_4_0 : Int) (w0_4_1 : (List (Int × Int))) (w0_6 : (List (Int × Int))) => bif ((Nat.cast (List.length w0_6) : Int) == (Nat.cast (List.length a0) : Int)) then some ((4 : Int), ([] : List (Int × Int)))
      else some ((0 : Int), w0_6))
  have hin0 : ∀ (v0_4_0 : Int) (v0_4_1 : (List (Int × Int))) (v0_6 : (List (Int × Int))) (v0_17 : Int), headF prog (ev19 m26) L f19 0 [1, 1, 1, 0, 1, 0, 0] (outK (outV prog f19) (topK prog (ev19 m26) L f19 [1, 1, 1, 0, 1] (outV prog f19)).n (topK prog (ev19 m26) L f19 [1, 1, 1, 0, 1] (outV prog f19)).x) L (S19_0 a0 a1 v0_4_0 v0_4_1 v0_6 v0_17) = (l19_0 m26 L a0 a1 L v0_4_0 v0_4_1 v0_6 v0_17 K'0).map n19 := fun v0_4_0 v0_4_1 v0_6 v0_17 => h19_0 m26 L a0 a1 _ _ K'0 (fun w0_4_0 w0_4_1 w0_6 => by rw [t19_0]; simp only [K'0, map_bif, map_tst, Option.map_some, Option.map_none]) L v0_4_0 v0_4_1 v0_6 v0_17
  rw [i19]; simp only [g19, map_bif, map_tst, Option.map_some, Option.map_none, hin0, K'0]
theorem s19 (m26 : (List (Int × Int)) → Option Int) (h26 : Sat prog cxT 26 (c26 m26)) (m : ((List (Int × Int)) × Int) → Option (Int × (List (Int × Int)))) (hm : ∀ (x : ((List (Int × Int)) × Int)) t, m x = some t → ∃ L, g19 m26 L x.1 x.2 = some t) : Sat prog cxT 19 (c19 m) :=
  sat_t cxT_ok cxT_pok (by rfl) (fn := f19) rfl a19 n19 dd19 m (ev19 m26) (kok_cons h26 kok_nil) kwok_nil (fun L x => g19 m26 L x.1 x.2) (fun L x => e19 m26 L x.1 x.2) hm hs19
/-! loop.example/g00222/spec.WithoutShare -/
def ev20 (m24 : (List (Int × Int)) → Option Int) : Env cxT := { Kc := kcOf [(24, c24 m24)], Kw := kwOf [], lv := fun i => if i = 0 then [(0, [some 31]), (1, []), (4, [none, some 31]), (6, [none, some 31]), (7, [])] else [], xv := fun i => if i = 0 then some [(0, [some 31]), (4, [none, some 31]), (6, [none, some 31])] else none }
def S20_0 (a0 : (List (Int × Int))) (a1 : Int) (v0_4_0 : Int) (v0_4_1 : (List (Int × Int))) (v0_6_0 : Int) (v0_6_1 : (List (Int × Int))) (v0_7 : Int) : St cxT.ty := { slots := [(.inl (.inl (ls { own := 0, nm := 0, e := 31, o := false, xs := a0 }))), (.inl (.inl (lv (.int .i64 a1)))), junk, junk, (.inr (.inr { kind := 0, nm := 256, cells := [(lv (.int .i64 v0_4_0)), (ls { own := 1, nm := 258, e := 31, o := true, xs := v0_4_1 })], s := { own := 0, nm := 0, e := 0, o := false, xs := ([] : List (PUnit)) }, i := 0, off := 0 })), junk, (.inr (.inr { kind := 0, nm := 384, cells := [(lv (.int .i64 v0_6_0)), (ls { own := 1, nm := 386, e := 31, o := true, xs := v0_6_1 })], s := { own := 0, nm := 0, e := 0, o := false, xs := ([] : List (PUnit)) }, i := 0, off := 0 })), (.inl (.inl (lv (.int .i64 v0_7))))] ++ List.replicate 37 junk, D := [], F := [], ctr := 1 }
def X20_0 (a0 : (List (Int × Int))) (a1 : Int) (w0_4_0 : Int) (w0_4_1 : (List (Int × Int))) (w0_6_0 : Int) (w0_6_1 : (List (Int × Int))) : St cxT.ty := { slots := [(.inl (.inl (ls { own := 0, nm := 0, e := 31, o := false, xs := a0 }))), junk, junk, junk, (.inr (.inr { kind := 0, nm := 256, cells := [(lv (.int .i64 w0_4_0)), (ls { own := 1, nm := 258, e := 31, o := true, xs := w0_4_1 })], s := { own := 0, nm := 0, e := 0, o := false, xs := ([] : List (PUnit)) }, i := 0, off := 0 })), junk, (.inr (.inr { kind := 0, nm := 384, cells := [(lv (.int .i64 w0_6_0)), (ls { own := 1, nm := 386, e := 31, o := true, xs := w0_6_1 })], s := { own := 0, nm := 0, e := 0, o := false, xs := ([] : List (PUnit)) }, i := 0, off := 0 }))] ++ List.replicate 38 junk, D := [], F := [], ctr := 1 }
theorem i20 (m24 : (List (Int × Int)) → Option Int) (L : Nat) (a0 : (List (Int × Int))) (a1 : Int) : evF prog (ev20 m24) (loopN L) f20 (a20.enc (a0, a1)) =
  tst (m24 a0) (0 : Int) fun (q1 : Int) => bif (q1 != (0 : Int)) then some (n20 (q1, ([] : List (Int × Int))))
    else headF prog (ev20 m24) L f20 0 [1, 1, 1, 0, 1, 0, 0] (outK (outV prog f20) (topK prog (ev20 m24) L f20 [1, 1, 1, 0, 1] (outV prog f20)).n (topK prog (ev20 m24) L f20 [1, 1, 1, 0, 1] (outV prog f20)).x) L (S20_0 a0 a1 (0 : Int) ([] : List (Int × Int)) (0 : Int) ([] : List (Int × Int)) (0 : Int)) := by kernel_rfl
theorem r20_0 (m24 : (List (Int × Int)) → Option Int) (L : Nat) (a0 : (List (Int × Int))) (a1 : Int) (k : St cxT.ty → Option (V cxT.ty)) (xk : Nat → St cxT.ty → Option (V cxT.ty)) (g : St cxT.ty → Option (V cxT.ty)) (v0_4_0 : Int) (v0_4_1 : (List (Int × Int))) (v0_6_0 : Int) (v0_6_1 : (List (Int × Int))) (v0_7 : Int) : roundF prog (ev20 m24) L f20 0 [1, 1, 1, 0, 1, 0, 0] (outK (outV prog f20) k xk) g (S20_0 a0 a1 v0_4_0 v0_4_1 v0_6_0 v0_6_1 v0_7) =
  bif (decide (v0_7 < (Nat.cast (List.length a0) : Int))) then bif ((decide ((0 : Int) ≤ v0_7)) && (decide (v0_7 < (Nat.cast (List.length a0) : Int)))) then bif ((List.getD a0 (Int.toNat v0_7) ((0 : Int), (0 : Int))).1 != a1) then bif ((decide ((0 : Int) ≤ v0_7)) && (decide (v0_7 < (Nat.cast (List.length a0) : Int)))) then bif (decide (((List.length v0_6_1) + (List.length (List.cons ((List.getD a0 (Int.toNat v0_7) ((0 : Int), (0 : Int))).1, (List.getD a0 (Int.toNat v0_7) ((0 : Int), (0 : Int))).2) ([] : List (Int × Int))))) ≤ (1000000000 : Nat))) then g (S20_0 a0 a1 v0_4_0 v0_4_1 v0_6_0 (v0_6_1 ++ (List.cons ((List.getD a0 (Int.toNat v0_7) ((0 : Int), (0 : Int))).1, (List.getD a0 (Int.toNat v0_7) ((0 : Int), (0 : Int))).2) ([] : List (Int × Int)))) (Go.IntKind.wrap Go.IntKind.i64 (v0_7 + (1 : Int))))
          else none
        else none
      else g (S20_0 a0 a1 v0_4_0 v0_4_1 v0_6_0 v0_6_1 (Go.IntKind.wrap Go.IntKind.i64 (v0_7 + (1 : Int))))
    else none
  else k (X20_0 a0 a1 v0_4_0 v0_4_1 v0_6_0 v0_6_1) := by kernel_rfl
theorem t20_0 (m24 : (List (Int × Int)) → Option Int) (L : Nat) (a0 : (List (Int × Int))) (a1 : Int) (w0_4_0 : Int) (w0_4_1 : (List (Int × Int))) (w0_6_0 : Int) (w0_6_1 : (List (Int × Int))) : (topK prog (ev20 m24) L f20 [1, 1, 1, 0, 1] (outV prog f20)).n (X20_0 a0 a1 w0_4_0 w0_4_1 w0_6_0 w0_6_1) =
  bif ((Nat.cast (List.length w0_6_1) : Int) == (Nat.cast (List.length a0) : Int)) then some (n20 ((4 : Int), ([] : List (Int × Int))))
  else some (n20 (w0_6_0, w0_6_1)) := by kernel_rfl
def l20_0 (m24 : (List (Int × Int)) → Option Int) (L : Nat) (a0 : (List (Int × Int))) (a1 : Int) : Nat → Int → (List (Int × Int)) → Int → (List (Int × Int)) → Int → (Int → (List (Int × Int)) → Int → (List (Int × Int)) → Option (Int × (List (Int × Int)))) → Option (Int × (List (Int × Int)))
  | 0, _, _, _, _, _, _ => none
  | n + 1, v0_4_0, v0_4_1, v0_6_0, v0_6_1, v0_7, k =>
    bif (decide (v0_7 < (Nat.cast (List.length a0) : Int))) then bif ((decide ((0 : Int) ≤ v0_7)) && (decide (v0_7 < (Nat.cast (List.length a0) : Int)))) then bif ((List.getD a0 (Int.toNat v0_7) ((0 : Int), (0 : Int))).1 != a1) then bif ((decide ((0 : Int) ≤ v0_7)) && (decide (v0_7 < (Nat.cast (List.length a0) : Int)))) then bif (decide (((List.length v0_6_1) + (List.length (List.cons ((List.getD a0 (Int.toNat v0_7) ((0 : Int), (0 : Int))).1, (List.getD a0 (Int.toNat v0_7) ((0 : Int), (0 : Int))).2) ([] : List (Int × Int))))) ≤ (1000000000 : Nat))) then l20_0 m24 L a0 a1 n v0_4_0 v0_4_1 v0_6_0 (v0_6_1 ++ (List.cons ((List.getD a0 (Int.toNat v0_7) ((0 : Int), (0 : Int))).1, (List.getD a0 (Int.toNat v0_7) ((0 : Int), (0 : Int))).2) ([] : List (Int × Int)))) (Go.IntKind.wrap Go.IntKind.i64 (v0_7 + (1 : Int))) k
            else none
          else none
        else l20_0 m24 L a0 a1 n v0_4_0 v0_4_1 v0_6_0 v0_6_1 (Go.IntKind.wrap Go.IntKind.i64 (v0_7 + (1 : Int))) k
      else none
    else k v0_4_0 v0_4_1 v0_6_0 v0_6_1
theorem h20_0 (m24 : (List (Int × Int)) → Option Int) (L : Nat) (a0 : (List (Int × Int))) (a1 : Int) (k : St cxT.ty → Option (V cxT.ty)) (xk : Nat → St cxT.ty → Option (V cxT.ty)) (k' : Int → (List (Int × Int)) → Int → (List (Int × Int)) → Option (Int × (List (Int × Int)))) (hk : ∀ (w0_4_0 : Int) (w0_4_1 : (List (Int × Int))) (w0_6_0 : Int) (w0_6_1 : (List (Int × Int))), k (X20_0 a0 a1 w0_4_0 w0_4_1 w0_6_0 w0_6_1) = (k' w0_4_0 w0_4_1 w0_6_0 w0_6_1).map n20) : ∀ (n : Nat) (v0_4_0 : Int) (v0_4_1 : (List (Int × Int))) (v0_6_0 : Int) (v0_6_1 : (List (Int × Int))) (v0_7 : Int), headF prog (ev20 m24) L f20 0 [1, 1, 1, 0, 1, 0, 0] (outK (outV prog f20) k xk) n (S20_0 a0 a1 v0_4_0 v0_4_1 v0_6_0 v0_6_1 v0_7) = (l20_0 m24 L a0 a1 n v0_4_0 v0_4_1 v0_6_0 v0_6_1 v0_7 k').map n20
  | 0, _, _, _, _, _ => rfl
  | n + 1, v0_4_0, v0_4_1, v0_6_0, v0_6_1, v0_7 => by
    rw [headF_round, r20_0]
    have ih := h20_0 m24 L a0 a1 k xk k' hk n
    simp only [l20_0, map_bif, map_tst, Option.map_some, Option.map_none, ih, hk]
def g20 (m24 : (List (Int × Int)) → Option Int) (L : Nat) (a0 : (List (Int × Int))) (a1 : Int) : Option (Int × (List (Int × Int))) :=
  tst (m24 a0) (0 : Int) fun (q1 : Int) => bif (q1 != (0 : Int)) then some (q1, ([] : List (Int × Int)))
    else l20_0 m24 L a0 a1 L (0 : Int) ([] : List (Int × Int)) (0 : Int) ([] : List (Int × Int)) (0 : Int) (fun (w0_4_0 : Int) (w0_4_1 : (List (Int × Int))) (w0_6_0 : Int) (w0_6_1 : (List (Int × Int))) => bif ((Nat.cast (List.length w0_6_1) : Int) == (Nat.cast (List.length a0) : Int)) then some ((4 : Int), ([] : List (Int × Int)))
      else some (w0_6_0, w0_6_1))
theorem e20 (m24 : (List (Int × Int)) → Option Int) (L : Nat) (a0 : (List (Int × Int))) (a1 : Int) : evF prog (ev20 m24) (loopN L) f20 (a20.enc (a0, a1)) = (g20 m24 L a0 a1).map n20 := by
  let K'0 : Int → (List (Int × Int)) → Int → (List (Int × Int)) → Option (Int × (List (Int × Int))) := (fun (w0_4_0 : Int) (w0_4_1 : (List (Int × Int))) (w0_6_0 : Int) (w0_6_1 : (List (Int × Int))) => bif ((Nat.cast (List.length w0_6_1) : Int) == (Nat.cast (List.length a0) : Int)) then some ((4 : Int), ([] : List (Int × Int)))
      else some (w0_6_0, w0_6_1))
  have hin0 : ∀ (v0_4_0 : Int) (v0_4_1 : (List (Int × Int))) (v0_6_0 : Int) (v0_6_1 : (List (Int × Int))) (v0_7 : Int), headF prog (ev20 m24) L f20 0 [1, 1, 1, 0, 1, 0, 0] (outK (outV prog f20) (topK prog (ev20 m24) L f20 [1, 1, 1, 0, 1] (outV prog f20)).n (topK prog (ev20 m24) L f20 [1, 1, 1, 0, 1] (outV prog f20)).x) L (S20_0 a0 a1 v0_4_0 v0_4_1 v0_6_0 v0_6_1 v0_7) = (l20_0 m24 L a0 a1 L v0_4_0 v0_4_1 v0_6_0 v0_6_1 v0_7 K'0).map n20 := fun v0_4_0 v0_4_1 v0_6_0 v0_6_1 v0_7 => h20_0 m24 L a0 a1 _ _ K'0 (fun w0_4_0 w0_4_1 w0_6_0 w0_6_1 => by rw [t20_0]; simp only [K'0, map_bif, map_tst, Option.map_some, Option.map_none]) L v0_4_0 v0_4_1 v0_6_0 v0_6_1 v0_7
  rw [i20]; simp only [g20, map_bif, map_tst, Option.map_some, Option.map_none, hin0, K'0]
theorem s20 (m24 : (List (Int × Int)) → Option Int) (h24 : Sat prog cxT 24 (c24 m24)) (m : ((List (Int × Int)) × Int) → Option (Int × (List (Int × Int)))) (hm : ∀ (x : ((List (Int × Int)) × Int)) t, m x = some t → ∃ L, g20 m24 L x.1 x.2 = some t) : Sat prog cxT 20 (c20 m) :=
  sat_t cxT_ok cxT_pok (by rfl) (fn := f20) rfl a20 n20 dd20 m (ev20 m24) (kok_cons h24 kok_nil) kwok_nil (fun L x => g20 m24 L x.1 x.2) (fun L x => e20 m24 L x.1 x.2) hm hs20
end Go.Proofs.Try

set_option maxHeartbeats 0
set_option linter.unusedVariables false
set_option linter.unusedSimpArgs false
namespace Go.Proofs.Try
open Go Go.VM Go.RowKit
/-! loop.example/g00222/laws.FnExactSharesFault -/
def ev5 (m23 : ((List (Int × Int)) × Int) → Option Int) (m25 : (List (Int × Int)) → Option (List (Int × Int))) (m24 : (List (Int × Int)) → Option Int) (m26 : (List (Int × Int)) → Option Int) (m27 : ((List (Int × Int)) × (List (Int × Int))) → Option Bool) : Env cxT := { Kc := kcOf [(23, c23 m23), (25, c25 m25), (24, c24 m24), (26, c26 m26), (27, c27 m27)], Kw := kwOf [], lv := fun i => [], xv := fun i => none }
theorem i5 (m23 : ((List (Int × Int)) × Int) → Option Int) (m25 : (List (Int × Int)) → Option (List (Int × Int))) (m24 : (List (Int × Int)) → Option Int) (m26 : (List (Int × Int)) → Option Int) (m27 : ((List (Int × Int)) × (List (Int × Int))) → Option Bool) (L : Nat) (a0 : (List (Int × Int))) : evF prog (ev5 m23 m25 m24 m26 m27) (loopN L) f5 (a5.enc a0) =
  tst (m23 (a0, (1048576 : Int))) (0 : Int) fun (q1 : Int) => bif (decide (q1 < (0 : Int))) then some (n5 Bool.true)
    else tst (m25 a0) [] fun (q2 : (List (Int × Int))) => tst (m24 q2) (0 : Int) fun (q3 : Int) => tst (m25 a0) [] fun (q4 : (List (Int × Int))) => tst (m26 q2) (0 : Int) fun (q5 : Int) => bif (q5 != q3) then some (n5 Bool.false)
            else tst (m25 a0) [] fun (q6 : (List (Int × Int))) => tst (m27 (q2, q2)) false fun (q7 : Bool) => bif (!q7) then some (n5 Bool.false)
                else some (n5 Bool.true) := by kernel_rfl
def g5 (m23 : ((List (Int × Int)) × Int) → Option Int) (m25 : (List (Int × Int)) → Option (List (Int × Int))) (m24 : (List (Int × Int)) → Option Int) (m26 : (List (Int × Int)) → Option Int) (m27 : ((List (Int × Int)) × (List (Int × Int))) → Option Bool) (L : Nat) (a0 : (List (Int × Int))) : Option Bool :=
  tst (m23 (a0, (1048576 : Int))) (0 : Int) fun (q1 : Int) => bif (decide (q1 < (0 : Int))) then some Bool.true
    else tst (m25 a0) [] fun (q2 : (List (Int × Int))) => tst (m24 q2) (0 : Int) fun (q3 : Int) => tst (m25 a0) [] fun (q4 : (List (Int × Int))) => tst (m26 q2) (0 : Int) fun (q5 : Int) => bif (q5 != q3) then some Bool.false
            else tst (m25 a0) [] fun (q6 : (List (Int × Int))) => tst (m27 (q2, q2)) false fun (q7 : Bool) => bif (!q7) then some Bool.false
                else some Bool.true
theorem e5 (m23 : ((List (Int × Int)) × Int) → Option Int) (m25 : (List (Int × Int)) → Option (List (Int × Int))) (m24 : (List (Int × Int)) → Option Int) (m26 : (List (Int × Int)) → Option Int) (m27 : ((List (Int × Int)) × (List (Int × Int))) → Option Bool) (L : Nat) (a0 : (List (Int × Int))) : evF prog (ev5 m23 m25 m24 m26 m27) (loopN L) f5 (a5.enc a0) = (g5 m23 m25 m24 m26 m27 L a0).map n5 := by
  rw [i5]; simp only [g5, map_bif, map_tst, Option.map_some, Option.map_none]
theorem s5 (m23 : ((List (Int × Int)) × Int) → Option Int) (m25 : (List (Int × Int)) → Option (List (Int × Int))) (m24 : (List (Int × Int)) → Option Int) (m26 : (List (Int × Int)) → Option Int) (m27 : ((List (Int × Int)) × (List (Int × Int))) → Option Bool) (h23 : Sat prog cxT 23 (c23 m23)) (h25 : Sat prog cxT 25 (c25 m25)) (h24 : Sat prog cxT 24 (c24 m24)) (h26 : Sat prog cxT 26 (c26 m26)) (h27 : Sat prog cxT 27 (c27 m27)) (m : (List (Int × Int)) → Option Bool) (hm : ∀ (x : (List (Int × Int))) t, m x = some t → ∃ L, g5 m23 m25 m24 m26 m27 L x = some t) : Sat prog cxT 5 (c5 m) :=
  sat_t cxT_ok cxT_pok (by rfl) (fn := f5) rfl a5 n5 dd5 m (ev5 m23 m25 m24 m26 m27) (kok_cons h23 (kok_cons h25 (kok_cons h24 (kok_cons h26 (kok_cons h27 kok_nil))))) kwok_nil (fun L x => g5 m23 m25 m24 m26 m27 L x) (fun L x => e5 m23 m25 m24 m26 m27 L x) hm hs5
/-! loop.example/g00222/laws.FnExactCountOf -/
def ev7 (m33 : (List Int) → Option (List Int)) (m32 : ((List Int) × Int) → Option Int) (m17 : ((List Int) × Int) → Option Int) (m34 : ((List Int) × (List Int)) → Option Bool) : Env cxT := { Kc := kcOf [(33, c33 m33), (32, c32 m32), (17, c17 m17), (34, c34 m34)], Kw := kwOf [], lv := fun i => [], xv := fun i => none }
theorem i7 (m33 : (List Int) → Option (List Int)) (m32 : ((List Int) × Int) → Option Int) (m17 : ((List Int) × Int) → Option Int) (m34 : ((List Int) × (List Int)) → Option Bool) (L : Nat) (a0 : (List Int)) (a1 : Int) : evF prog (ev7 m33 m32 m17 m34) (loopN L) f7 (a7.enc (a0, a1)) =
  bif (decide ((Nat.cast (List.length a0) : Int) > (1048576 : Int))) then some (n7 Bool.true)
  else tst (m33 a0) [] fun (q1 : (List Int)) => tst (m32 (q1, a1)) (0 : Int) fun (q2 : Int) => tst (m33 a0) [] fun (q3 : (List Int)) => tst (m17 (q1, a1)) (0 : Int) fun (q4 : Int) => bif (q4 != q2) then some (n7 Bool.false)
          else tst (m33 a0) [] fun (q5 : (List Int)) => tst (m34 (q1, q1)) false fun (q6 : Bool) => bif (!q6) then some (n7 Bool.false)
              else some (n7 Bool.true) := by kernel_rfl
def g7 (m33 : (List Int) → Option (List Int)) (m32 : ((List Int) × Int) → Option Int) (m17 : ((List Int) × Int) → Option Int) (m34 : ((List Int) × (List Int)) → Option Bool) (L : Nat) (a0 : (List Int)) (a1 : Int) : Option Bool :=
  bif (decide ((Nat.cast (List.length a0) : Int) > (1048576 : Int))) then some Bool.true
  else tst (m33 a0) [] fun (q1 : (List Int)) => tst (m32 (q1, a1)) (0 : Int) fun (q2 : Int) => tst (m33 a0) [] fun (q3 : (List Int)) => tst (m17 (q1, a1)) (0 : Int) fun (q4 : Int) => bif (q4 != q2) then some Bool.false
          else tst (m33 a0) [] fun (q5 : (List Int)) => tst (m34 (q1, q1)) false fun (q6 : Bool) => bif (!q6) then some Bool.false
              else some Bool.true
theorem e7 (m33 : (List Int) → Option (List Int)) (m32 : ((List Int) × Int) → Option Int) (m17 : ((List Int) × Int) → Option Int) (m34 : ((List Int) × (List Int)) → Option Bool) (L : Nat) (a0 : (List Int)) (a1 : Int) : evF prog (ev7 m33 m32 m17 m34) (loopN L) f7 (a7.enc (a0, a1)) = (g7 m33 m32 m17 m34 L a0 a1).map n7 := by
  rw [i7]; simp only [g7, map_bif, map_tst, Option.map_some, Option.map_none]
theorem s7 (m33 : (List Int) → Option (List Int)) (m32 : ((List Int) × Int) → Option Int) (m17 : ((List Int) × Int) → Option Int) (m34 : ((List Int) × (List Int)) → Option Bool) (h33 : Sat prog cxT 33 (c33 m33)) (h32 : Sat prog cxT 32 (c32 m32)) (h17 : Sat prog cxT 17 (c17 m17)) (h34 : Sat prog cxT 34 (c34 m34)) (m : ((List Int) × Int) → Option Bool) (hm : ∀ (x : ((List Int) × Int)) t, m x = some t → ∃ L, g7 m33 m32 m17 m34 L x.1 x.2 = some t) : Sat prog cxT 7 (c7 m) :=
  sat_t cxT_ok cxT_pok (by rfl) (fn := f7) rfl a7 n7 dd7 m (ev7 m33 m32 m17 m34) (kok_cons h33 (kok_cons h32 (kok_cons h17 (kok_cons h34 kok_nil)))) kwok_nil (fun L x => g7 m33 m32 m17 m34 L x.1 x.2) (fun L x => e7 m33 m32 m17 m34 L x.1 x.2) hm hs7
/-! loop.example/g00222/laws.FnExactSpreadOf -/
def ev8 (m23 : ((List (Int × Int)) × Int) → Option Int) (m33 : (List Int) → Option (List Int)) (m25 : (List (Int × Int)) → Option (List (Int × Int))) (m35 : ((List Int) × (List (Int × Int))) → Option (Int × Int × Int × Int)) (m16 : ((List Int) × (List (Int × Int))) → Option (Int × Int × Int × Int)) (m36 : ((Int × Int × Int × Int) × (Int × Int × Int × Int)) → Option Bool) (m34 : ((List Int) × (List Int)) → Option Bool) (m27 : ((List (Int × Int)) × (List (Int × Int))) → Option Bool) : Env cxT := { Kc := kcOf [(23, c23 m23), (33, c33 m33), (25, c25 m25), (35, c35 m35), (16, c16 m16), (36, c36 m36), (34, c34 m34), (27, c27 m27)], Kw := kwOf [], lv := fun i => [], xv := fun i => none }
theorem i8 (m23 : ((List (Int × Int)) × Int) → Option Int) (m33 : (List Int) → Option (List Int)) (m25 : (List (Int × Int)) → Option (List (Int × Int))) (m35 : ((List Int) × (List (Int × Int))) → Option (Int × Int × Int × Int)) (m16 : ((List Int) × (List (Int × Int))) → Option (Int × Int × Int × Int)) (m36 : ((Int × Int × Int × Int) × (Int × Int × Int × Int)) → Option Bool) (m34 : ((List Int) × (List Int)) → Option Bool) (m27 : ((List (Int × Int)) × (List (Int × Int))) → Option Bool) (L : Nat) (a0 : (List Int)) (a1 : (List (Int × Int))) : evF prog (ev8 m23 m33 m25 m35 m16 m36 m34 m27) (loopN L) f8 (a8.enc (a0, a1)) =
  bif (decide ((Nat.cast (List.length a0) : Int) > (1048576 : Int))) then some (n8 Bool.true)
  else tst (m23 (a1, (1048576 : Int))) (0 : Int) fun (q1 : Int) => bif (decide (q1 < (0 : Int))) then some (n8 Bool.true)
    else tst (m33 a0) [] fun (q2 : (List Int)) => tst (m25 a1) [] fun (q3 : (List (Int × Int))) => tst (m35 (q2, q3)) ((0 : Int), (0 : Int), (0 : Int), (0 : Int)) fun (q4 : (Int × Int × Int × Int)) => tst (m33 a0) [] fun (q5 : (List Int)) => tst (m25 a1) [] fun (q6 : (List (Int × Int))) => tst (m16 (q2, q3)) ((0 : Int), (0 : Int), (0 : Int), (0 : Int)) fun (q7 : (Int × Int × Int × Int)) => tst (m36 ((q7.1, (q7.2.1, (q7.2.2.1, q7.2.2.2))), (q4.1, (q4.2.1, (q4.2.2.1, q4.2.2.2))))) false fun (q8 : Bool) => bif (!q8) then some (n8 Bool.false)
                  else tst (m33 a0) [] fun (q9 : (List Int)) => tst (m34 (q2, q2)) false fun (q10 : Bool) => bif (!q10) then some (n8 Bool.false)
                      else tst (m25 a1) [] fun (q11 : (List (Int × Int))) => tst (m27 (q3, q3)) false fun (q12 : Bool) => bif (!q12) then some (n8 Bool.false)
                          else some (n8 Bool.true) := by kernel_rfl
def g8 (m23 : ((List (Int × Int)) × Int) → Option Int) (m33 : (List Int) → Option (List Int)) (m25 : (List (Int × Int)) → Option (List (Int × Int))) (m35 : ((List Int) × (List (Int × Int))) → Option (Int × Int × Int × Int)) (m16 : ((List Int) × (List (Int × Int))) → Option (Int × Int × Int × Int)) (m36 : ((Int × Int × Int × Int) × (Int × Int × Int × Int)) → Option Bool) (m34 : ((List Int) × (List Int)) → Option Bool) (m27 : ((List (Int × Int)) × (List (Int × Int))) → Option Bool) (L : Nat) (a0 : (List Int)) (a1 : (List (Int × Int))) : Option Bool :=
  bif (decide ((Nat.cast (List.length a0) : Int) > (1048576 : Int))) then some Bool.true
  else tst (m23 (a1, (1048576 : Int))) (0 : Int) fun (q1 : Int) => bif (decide (q1 < (0 : Int))) then some Bool.true
    else tst (m33 a0) [] fun (q2 : (List Int)) => tst (m25 a1) [] fun (q3 : (List (Int × Int))) => tst (m35 (q2, q3)) ((0 : Int), (0 : Int), (0 : Int), (0 : Int)) fun (q4 : (Int × Int × Int × Int)) => tst (m33 a0) [] fun (q5 : (List Int)) => tst (m25 a1) [] fun (q6 : (List (Int × Int))) => tst (m16 (q2, q3)) ((0 : Int), (0 : Int), (0 : Int), (0 : Int)) fun (q7 : (Int × Int × Int × Int)) => tst (m36 ((q7.1, (q7.2.1, (q7.2.2.1, q7.2.2.2))), (q4.1, (q4.2.1, (q4.2.2.1, q4.2.2.2))))) false fun (q8 : Bool) => bif (!q8) then some Bool.false
                  else tst (m33 a0) [] fun (q9 : (List Int)) => tst (m34 (q2, q2)) false fun (q10 : Bool) => bif (!q10) then some Bool.false
                      else tst (m25 a1) [] fun (q11 : (List (Int × Int))) => tst (m27 (q3, q3)) false fun (q12 : Bool) => bif (!q12) then some Bool.false
                          else some Bool.true
theorem e8 (m23 : ((List (Int × Int)) × Int) → Option Int) (m33 : (List Int) → Option (List Int)) (m25 : (List (Int × Int)) → Option (List (Int × Int))) (m35 : ((List Int) × (List (Int × Int))) → Option (Int × Int × Int × Int)) (m16 : ((List Int) × (List (Int × Int))) → Option (Int × Int × Int × Int)) (m36 : ((Int × Int × Int × Int) × (Int × Int × Int × Int)) → Option Bool) (m34 : ((List Int) × (List Int)) → Option Bool) (m27 : ((List (Int × Int)) × (List (Int × Int))) → Option Bool) (L : Nat) (a0 : (List Int)) (a1 : (List (Int × Int))) : evF prog (ev8 m23 m33 m25 m35 m16 m36 m34 m27) (loopN L) f8 (a8.enc (a0, a1)) = (g8 m23 m33 m25 m35 m16 m36 m34 m27 L a0 a1).map n8 := by
  rw [i8]; simp only [g8, map_bif, map_tst, Option.map_some, Option.map_none]
theorem s8 (m23 : ((List (Int × Int)) × Int) → Option Int) (m33 : (List Int) → Option (List Int)) (m25 : (List (Int × Int)) → Option (List (Int × Int))) (m35 : ((List Int) × (List (Int × Int))) → Option (Int × Int × Int × Int)) (m16 : ((List Int) × (List (Int × Int))) → Option (Int × Int × Int × Int)) (m36 : ((Int × Int × Int × Int) × (Int × Int × Int × Int)) → Option Bool) (m34 : ((List Int) × (List Int)) → Option Bool) (m27 : ((List (Int × Int)) × (List (Int × Int))) → Option Bool) (h23 : Sat prog cxT 23 (c23 m23)) (h33 : Sat prog cxT 33 (c33 m33)) (h25 : Sat prog cxT 25 (c25 m25)) (h35 : Sat prog cxT 35 (c35 m35)) (h16 : Sat prog cxT 16 (c16 m16)) (h36 : Sat prog cxT 36 (c36 m36)) (h34 : Sat prog cxT 34 (c34 m34)) (h27 : Sat prog cxT 27 (c27 m27)) (m : ((List Int) × (List (Int × Int))) → Option Bool) (hm : ∀ (x : ((List Int) × (List (Int × Int)))) t, m x = some t → ∃ L, g8 m23 m33 m25 m35 m16 m36 m34 m27 L x.1 x.2 = some t) : Sat prog cxT 8 (c8 m) :=
  sat_t cxT_ok cxT_pok (by rfl) (fn := f8) rfl a8 n8 dd8 m (ev8 m23 m33 m25 m35 m16 m36 m34 m27) (kok_cons h23 (kok_cons h33 (kok_cons h25 (kok_cons h35 (kok_cons h16 (kok_cons h36 (kok_cons h34 (kok_cons h27 kok_nil)))))))) kwok_nil (fun L x => g8 m23 m33 m25 m35 m16 m36 m34 m27 L x.1 x.2) (fun L x => e8 m23 m33 m25 m35 m16 m36 m34 m27 L x.1 x.2) hm hs8
/-! loop.example/g00222/laws.FnExactLookTable -/
def ev9 (m33 : (List Int) → Option (List Int)) (m37 : ((List Int) × Int) → Option (Int × Int)) (m22 : ((List Int) × Int) → Option (Int × Int)) (m38 : ((Int × Int) × (Int × Int)) → Option Bool) (m34 : ((List Int) × (List Int)) → Option Bool) : Env cxT := { Kc := kcOf [(33, c33 m33), (37, c37 m37), (22, c22 m22), (38, c38 m38), (34, c34 m34)], Kw := kwOf [], lv := fun i => [], xv := fun i => none }
theorem i9 (m33 : (List Int) → Option (List Int)) (m37 : ((List Int) × Int) → Option (Int × Int)) (m22 : ((List Int) × Int) → Option (Int × Int)) (m38 : ((Int × Int) × (Int × Int)) → Option Bool) (m34 : ((List Int) × (List Int)) → Option Bool) (L : Nat) (a0 : (List Int)) (a1 : Int) : evF prog (ev9 m33 m37 m22 m38 m34) (loopN L) f9 (a9.enc (a0, a1)) =
  bif (decide ((Nat.cast (List.length a0) : Int) > (1048576 : Int))) then some (n9 Bool.true)
  else tst (m33 a0) [] fun (q1 : (List Int)) => tst (m37 (q1, a1)) ((0 : Int), (0 : Int)) fun (q2 : (Int × Int)) => tst (m33 a0) [] fun (q3 : (List Int)) => tst (m22 (q1, a1)) ((0 : Int), (0 : Int)) fun (q4 : (Int × Int)) => tst (m38 ((q4.1, q4.2), (q2.1, q2.2))) false fun (q5 : Bool) => bif (!q5) then some (n9 Bool.false)
            else tst (m33 a0) [] fun (q6 : (List Int)) => tst (m34 (q1, q1)) false fun (q7 : Bool) => bif (!q7) then some (n9 Bool.false)
                else some (n9 Bool.true) := by kernel_rfl
def g9 (m33 : (List Int) → Option (List Int)) (m37 : ((List Int) × Int) → Option (Int × Int)) (m22 : ((List Int) × Int) → Option (Int × Int)) (m38 : ((Int × Int) × (Int × Int)) → Option Bool) (m34 : ((List Int) × (List Int)) → Option Bool) (L : Nat) (a0 : (List Int)) (a1 : Int) : Option Bool :=
  bif (decide ((Nat.cast (List.length a0) : Int) > (1048576 : Int))) then some Bool.true
  else tst (m33 a0) [] fun (q1 : (List Int)) => tst (m37 (q1, a1)) ((0 : Int), (0 : Int)) fun (q2 : (Int × Int)) => tst (m33 a0) [] fun (q3 : (List Int)) => tst (m22 (q1, a1)) ((0 : Int), (0 : Int)) fun (q4 : (Int × Int)) => tst (m38 ((q4.1, q4.2), (q2.1, q2.2))) false fun (q5 : Bool) => bif (!q5) then some Bool.false
            else tst (m33 a0) [] fun (q6 : (List Int)) => tst (m34 (q1, q1)) false fun (q7 : Bool) => bif (!q7) then some Bool.false
                else some Bool.true
theorem e9 (m33 : (List Int) → Option (List Int)) (m37 : ((List Int) × Int) → Option (Int × Int)) (m22 : ((List Int) × Int) → Option (Int × Int)) (m38 : ((Int × Int) × (Int × Int)) → Option Bool) (m34 : ((List Int) × (List Int)) → Option Bool) (L : Nat) (a0 : (List Int)) (a1 : Int) : evF prog (ev9 m33 m37 m22 m38 m34) (loopN L) f9 (a9.enc (a0, a1)) = (g9 m33 m37 m22 m38 m34 L a0 a1).map n9 := by
  rw [i9]; simp only [g9, map_bif, map_tst, Option.map_some, Option.map_none]
theorem s9 (m33 : (List Int) → Option (List Int)) (m37 : ((List Int) × Int) → Option (Int × Int)) (m22 : ((List Int) × Int) → Option (Int × Int)) (m38 : ((Int × Int) × (Int × Int)) → Option Bool) (m34 : ((List Int) × (List Int)) → Option Bool) (h33 : Sat prog cxT 33 (c33 m33)) (h37 : Sat prog cxT 37 (c37 m37)) (h22 : Sat prog cxT 22 (c22 m22)) (h38 : Sat prog cxT 38 (c38 m38)) (h34 : Sat prog cxT 34 (c34 m34)) (m : ((List Int) × Int) → Option Bool) (hm : ∀ (x : ((List Int) × Int)) t, m x = some t → ∃ L, g9 m33 m37 m22 m38 m34 L x.1 x.2 = some t) : Sat prog cxT 9 (c9 m) :=
  sat_t cxT_ok cxT_pok (by rfl) (fn := f9) rfl a9 n9 dd9 m (ev9 m33 m37 m22 m38 m34) (kok_cons h33 (kok_cons h37 (kok_cons h22 (kok_cons h38 (kok_cons h34 kok_nil))))) kwok_nil (fun L x => g9 m33 m37 m22 m38 m34 L x.1 x.2) (fun L x => e9 m33 m37 m22 m38 m34 L x.1 x.2) hm hs9
/-! loop.example/g00222/laws.FnExactMovedOf -/
def ev10 (m33 : (List Int) → Option (List Int)) (m39 : ((List Int) × (List Int)) → Option (Int × Int)) (m21 : ((List Int) × (List Int)) → Option (Int × Int)) (m38 : ((Int × Int) × (Int × Int)) → Option Bool) (m34 : ((List Int) × (List Int)) → Option Bool) : Env cxT := { Kc := kcOf [(33, c33 m33), (39, c39 m39), (21, c21 m21), (38, c38 m38), (34, c34 m34)], Kw := kwOf [], lv := fun i => [], xv := fun i => none }
theorem i10 (m33 : (List Int) → Option (List Int)) (m39 : ((List Int) × (List Int)) → Option (Int × Int)) (m21 : ((List Int) × (List Int)) → Option (Int × Int)) (m38 : ((Int × Int) × (Int × Int)) → Option Bool) (m34 : ((List Int) × (List Int)) → Option Bool) (L : Nat) (a0 : (List Int)) (a1 : (List Int)) : evF prog (ev10 m33 m39 m21 m38 m34) (loopN L) f10 (a10.enc (a0, a1)) =
  bif (decide ((Nat.cast (List.length a0) : Int) > (1048576 : Int))) then some (n10 Bool.true)
  else bif (decide ((Nat.cast (List.length a1) : Int) > (1048576 : Int))) then some (n10 Bool.true)
  else tst (m33 a0) [] fun (q1 : (List Int)) => tst (m33 a1) [] fun (q2 : (List Int)) => tst (m39 (q1, q2)) ((0 : Int), (0 : Int)) fun (q3 : (Int × Int)) => tst (m33 a0) [] fun (q4 : (List Int)) => tst (m33 a1) [] fun (q5 : (List Int)) => tst (m21 (q1, q2)) ((0 : Int), (0 : Int)) fun (q6 : (Int × Int)) => tst (m38 ((q6.1, q6.2), (q3.1, q3.2))) false fun (q7 : Bool) => bif (!q7) then some (n10 Bool.false)
                else tst (m33 a0) [] fun (q8 : (List Int)) => tst (m34 (q1, q1)) false fun (q9 : Bool) => bif (!q9) then some (n10 Bool.false)
                    else tst (m33 a1) [] fun (q10 : (List Int)) => tst (m34 (q2, q2)) false fun (q11 : Bool) => bif (!q11) then some (n10 Bool.false)
                        else some (n10 Bool.true) := by kernel_rfl
def g10 (m33 : (List Int) → Option (List Int)) (m39 : ((List Int) × (List Int)) → Option (Int × Int)) (m21 : ((List Int) × (List Int)) → Option (Int × Int)) (m38 : ((Int × Int) × (Int × Int)) → Option Bool) (m34 : ((List Int) × (List Int)) → Option Bool) (L : Nat) (a0 : (List Int)) (a1 : (List Int)) : Option Bool :=
  bif (decide ((Nat.cast (List.length a0) : Int) > (1048576 : Int))) then some Bool.true
  else bif (decide ((Nat.cast (List.length a1) : Int) > (1048576 : Int))) then some Bool.true
  else tst (m33 a0) [] fun (q1 : (List Int)) => tst (m33 a1) [] fun (q2 : (List Int)) => tst (m39 (q1, q2)) ((0 : Int), (0 : Int)) fun (q3 : (Int × Int)) => tst (m33 a0) [] fun (q4 : (List Int)) => tst (m33 a1) [] fun (q5 : (List Int)) => tst (m21 (q1, q2)) ((0 : Int), (0 : Int)) fun (q6 : (Int × Int)) => tst (m38 ((q6.1, q6.2), (q3.1, q3.2))) false fun (q7 : Bool) => bif (!q7) then some Bool.false
                else tst (m33 a0) [] fun (q8 : (List Int)) => tst (m34 (q1, q1)) false fun (q9 : Bool) => bif (!q9) then some Bool.false
                    else tst (m33 a1) [] fun (q10 : (List Int)) => tst (m34 (q2, q2)) false fun (q11 : Bool) => bif (!q11) then some Bool.false
                        else some Bool.true
theorem e10 (m33 : (List Int) → Option (List Int)) (m39 : ((List Int) × (List Int)) → Option (Int × Int)) (m21 : ((List Int) × (List Int)) → Option (Int × Int)) (m38 : ((Int × Int) × (Int × Int)) → Option Bool) (m34 : ((List Int) × (List Int)) → Option Bool) (L : Nat) (a0 : (List Int)) (a1 : (List Int)) : evF prog (ev10 m33 m39 m21 m38 m34) (loopN L) f10 (a10.enc (a0, a1)) = (g10 m33 m39 m21 m38 m34 L a0 a1).map n10 := by
  rw [i10]; simp only [g10, map_bif, map_tst, Option.map_some, Option.map_none]
theorem s10 (m33 : (List Int) → Option (List Int)) (m39 : ((List Int) × (List Int)) → Option (Int × Int)) (m21 : ((List Int) × (List Int)) → Option (Int × Int)) (m38 : ((Int × Int) × (Int × Int)) → Option Bool) (m34 : ((List Int) × (List Int)) → Option Bool) (h33 : Sat prog cxT 33 (c33 m33)) (h39 : Sat prog cxT 39 (c39 m39)) (h21 : Sat prog cxT 21 (c21 m21)) (h38 : Sat prog cxT 38 (c38 m38)) (h34 : Sat prog cxT 34 (c34 m34)) (m : ((List Int) × (List Int)) → Option Bool) (hm : ∀ (x : ((List Int) × (List Int))) t, m x = some t → ∃ L, g10 m33 m39 m21 m38 m34 L x.1 x.2 = some t) : Sat prog cxT 10 (c10 m) :=
  sat_t cxT_ok cxT_pok (by rfl) (fn := f10) rfl a10 n10 dd10 m (ev10 m33 m39 m21 m38 m34) (kok_cons h33 (kok_cons h39 (kok_cons h21 (kok_cons h38 (kok_cons h34 kok_nil))))) kwok_nil (fun L x => g10 m33 m39 m21 m38 m34 L x.1 x.2) (fun L x => e10 m33 m39 m21 m38 m34 L x.1 x.2) hm hs10
/-! loop.example/g00222/laws.FnExactWithoutShare -/
def ev11 (m23 : ((List (Int × Int)) × Int) → Option Int) (m25 : (List (Int × Int)) → Option (List (Int × Int))) (m20 : ((List (Int × Int)) × Int) → Option (Int × (List (Int × Int)))) (m19 : ((List (Int × Int)) × Int) → Option (Int × (List (Int × Int)))) (m40 : ((Int × (List (Int × Int))) × (Int × (List (Int × Int)))) → Option Bool) (m27 : ((List (Int × Int)) × (List (Int × Int))) → Option Bool) (m29 : ((List (Int × Int)) × Int) → Option (Int × (List (Int × Int)))) (m41 : ((Int × (List (Int × Int))) × Int) → Option (Int × Int × (List (Int × Int)))) (m42 : ((Int × (List (Int × Int))) × Int) → Option Int) : Env cxT := { Kc := kcOf [(23, c23 m23), (25, c25 m25), (20, c20 m20), (19, c19 m19), (40, c40 m40), (27, c27 m27), (42, c42 m42)], Kw := kwOf [(29, c29 m29), (41, c41 m41)], lv := fun i => [], xv := fun i => none }
theorem i11 (m23 : ((List (Int × Int)) × Int) → Option Int) (m25 : (List (Int × Int)) → Option (List (Int × Int))) (m20 : ((List (Int × Int)) × Int) → Option (Int × (List (Int × Int)))) (m19 : ((List (Int × Int)) × Int) → Option (Int × (List (Int × Int)))) (m40 : ((Int × (List (Int × Int))) × (Int × (List (Int × Int)))) → Option Bool) (m27 : ((List (Int × Int)) × (List (Int × Int))) → Option Bool) (m29 : ((List (Int × Int)) × Int) → Option (Int × (List (Int × Int)))) (m41 : ((Int × (List (Int × Int))) × Int) → Option (Int × Int × (List (Int × Int)))) (m42 : ((Int × (List (Int × Int))) × Int) → Option Int) (L : Nat) (a0 : (List (Int × Int))) (a1 : Int) : evF prog (ev11 m23 m25 m20 m19 m40 m27 m29 m41 m42) (loopN L) f11 (a11.enc (a0, a1)) =
  tst (m23 (a0, (1048576 : Int))) (0 : Int) fun (q1 : Int) => bif (decide (q1 < (0 : Int))) then some (n11 Bool.true)
    else tst (m25 a0) [] fun (q2 : (List (Int × Int))) => tst (m20 (q2, a1)) ((0 : Int), []) fun (q3 : (Int × (List (Int × Int)))) => tst (m25 a0) [] fun (q4 : (List (Int × Int))) => tst (m19 (q2, a1)) ((0 : Int), []) fun (q5 : (Int × (List (Int × Int)))) => tst (m40 ((q5.1, q5.2), (q3.1, q3.2))) false fun (q6 : Bool) => bif (!q6) then some (n11 Bool.false)
              else tst (m25 a0) [] fun (q7 : (List (Int × Int))) => tst (m27 (q2, q2)) false fun (q8 : Bool) => bif (!q8) then some (n11 Bool.false)
                  else tst (m29 (q2, (1 : Int))) ((0 : Int), []) fun (q9 : (Int × (List (Int × Int)))) => bif (decide (q9.1 < (0 : Int))) then some (n11 Bool.false)
                    else tst (m40 ((q5.1, q5.2), (q3.1, q3.2))) false fun (q10 : Bool) => bif (!q6) then some (n11 Bool.false)
                      else tst (m41 ((q5.1, q5.2), (1 : Int))) ((0 : Int), (0 : Int), []) fun (q11 : (Int × Int × (List (Int × Int)))) => tst (m42 ((q5.1, q11.2.2), (1 : Int))) (0 : Int) fun (q12 : Int) => bif (decide (q12 < (0 : Int))) then some (n11 Bool.false)
                          else bif (q12 != q11.1) then some (n11 Bool.false)
                          else tst (m25 a0) [] fun (q13 : (List (Int × Int))) => tst (m19 (q2, a1)) ((0 : Int), []) fun (q14 : (Int × (List (Int × Int)))) => tst (m40 ((q5.1, q5.2), (q3.1, q3.2))) false fun (q15 : Bool) => bif (!q6) then some (n11 Bool.false)
                                else tst (m42 ((q5.1, q11.2.2), (1 : Int))) (0 : Int) fun (q16 : Int) => bif (decide (q12 < (0 : Int))) then some (n11 Bool.false)
                                  else bif (q12 != q11.1) then some (n11 Bool.false)
                                  else some (n11 Bool.true) := by kernel_rfl
def g11 (m23 : ((List (Int × Int)) × Int) → Option Int) (m25 : (List (Int × Int)) → Option (List (Int × Int))) (m20 : ((List (Int × Int)) × Int) → Option (Int × (List (Int × Int)))) (m19 : ((List (Int × Int)) × Int) → Option (Int × (List (Int × Int)))) (m40 : ((Int × (List (Int × Int))) × (Int × (List (Int × Int)))) → Option Bool) (m27 : ((List (Int × Int)) × (List (Int × Int))) → Option Bool) (m29 : ((List (Int × Int)) × Int) → Option (Int × (List (Int × Int)))) (m41 : ((Int × (List (Int × Int))) × Int) → Option (Int × Int × (List (Int × Int)))) (m42 : ((Int × (List (Int × Int))) × Int) → Option Int) (L : Nat) (a0 : (List (Int × Int))) (a1 : Int) : Option Bool :=
  tst (m23 (a0, (1048576 : Int))) (0 : Int) fun (q1 : Int) => bif (decide (q1 < (0 : Int))) then some Bool.true
    else tst (m25 a0) [] fun (q2 : (List (Int × Int))) => tst (m20 (q2, a1)) ((0 : Int), []) fun (q3 : (Int × (List (Int × Int)))) => tst (m25 a0) [] fun (q4 : (List (Int × Int))) => tst (m19 (q2, a1)) ((0 : Int), []) fun (q5 : (Int × (List (Int × Int)))) => tst (m40 ((q5.1, q5.2), (q3.1, q3.2))) false fun (q6 : Bool) => bif (!q6) then some Bool.false
              else tst (m25 a0) [] fun (q7 : (List (Int × Int))) => tst (m27 (q2, q2)) false fun (q8 : Bool) => bif (!q8) then some Bool.false
                  else tst (m29 (q2, (1 : Int))) ((0 : Int), []) fun (q9 : (Int × (List (Int × Int)))) => bif (decide (q9.1 < (0 : Int))) then some Bool.false
                    else tst (m40 ((q5.1, q5.2), (q3.1, q3.2))) false fun (q10 : Bool) => bif (!q6) then some Bool.false
                      else tst (m41 ((q5.1, q5.2), (1 : Int))) ((0 : Int), (0 : Int), []) fun (q11 : (Int × Int × (List (Int × Int)))) => tst (m42 ((q5.1, q11.2.2), (1 : Int))) (0 : Int) fun (q12 : Int) => bif (decide (q12 < (0 : Int))) then some Bool.false
                          else bif (q12 != q11.1) then some Bool.false
                          else tst (m25 a0) [] fun (q13 : (List (Int × Int))) => tst (m19 (q2, a1)) ((0 : Int), []) fun (q14 : (Int × (List (Int × Int)))) => tst (m40 ((q5.1, q5.2), (q3.1, q3.2))) false fun (q15 : Bool) => bif (!q6) then some Bool.false
                                else tst (m42 ((q5.1, q11.2.2), (1 : Int))) (0 : Int) fun (q16 : Int) => bif (decide (q12 < (0 : Int))) then some Bool.false
                                  else bif (q12 != q11.1) then some Bool.false
                                  else some Bool.true
theorem e11 (m23 : ((List (Int × Int)) × Int) → Option Int) (m25 : (List (Int × Int)) → Option (List (Int × Int))) (m20 : ((List (Int × Int)) × Int) → Option (Int × (List (Int × Int)))) (m19 : ((List (Int × Int)) × Int) → Option (Int × (List (Int × Int)))) (m40 : ((Int × (List (Int × Int))) × (Int × (List (Int × Int)))) → Option Bool) (m27 : ((List (Int × Int)) × (List (Int × Int))) → Option Bool) (m29 : ((List (Int × Int)) × Int) → Option (Int × (List (Int × Int)))) (m41 : ((Int × (List (Int × Int))) × Int) → Option (Int × Int × (List (Int × Int)))) (m42 : ((Int × (List (Int × Int))) × Int) → Option Int) (L : Nat) (a0 : (List (Int × Int))) (a1 : Int) : evF prog (ev11 m23 m25 m20 m19 m40 m27 m29 m41 m42) (loopN L) f11 (a11.enc (a0, a1)) = (g11 m23 m25 m20 m19 m40 m27 m29 m41 m42 L a0 a1).map n11 := by
  rw [i11]; simp only [g11, map_bif, map_tst, Option.map_some, Option.map_none]
theorem s11 (m23 : ((List (Int × Int)) × Int) → Option Int) (m25 : (List (Int × Int)) → Option (List (Int × Int))) (m20 : ((List (Int × Int)) × Int) → Option (Int × (List (Int × Int)))) (m19 : ((List (Int × Int)) × Int) → Option (Int × (List (Int × Int)))) (m40 : ((Int × (List (Int × Int))) × (Int × (List (Int × Int)))) → Option Bool) (m27 : ((List (Int × Int)) × (List (Int × Int))) → Option Bool) (m29 : ((List (Int × Int)) × Int) → Option (Int × (List (Int × Int)))) (m41 : ((Int × (List (Int × Int))) × Int) → Option (Int × Int × (List (Int × Int)))) (m42 : ((Int × (List (Int × Int))) × Int) → Option Int) (h23 : Sat prog cxT 23 (c23 m23)) (h25 : Sat prog cxT 25 (c25 m25)) (h20 : Sat prog cxT 20 (c20 m20)) (h19 : Sat prog cxT 19 (c19 m19)) (h40 : Sat prog cxT 40 (c40 m40)) (h27 : Sat prog cxT 27 (c27 m27)) (h29 : SatW prog cxT 29 (c29 m29).nres (c29 m29).n (c29 m29).F) (h41 : SatW prog cxT 41 (c41 m41).nres (c41 m41).n (c41 m41).F) (h42 : Sat prog cxT 42 (c42 m42)) (m : ((List (Int × Int)) × Int) → Option Bool) (hm : ∀ (x : ((List (Int × Int)) × Int)) t, m x = some t → ∃ L, g11 m23 m25 m20 m19 m40 m27 m29 m41 m42 L x.1 x.2 = some t) : Sat prog cxT 11 (c11 m) :=
  sat_t cxT_ok cxT_pok (by rfl) (fn := f11) rfl a11 n11 dd11 m (ev11 m23 m25 m20 m19 m40 m27 m29 m41 m42) (kok_cons h23 (kok_cons h25 (kok_cons h20 (kok_cons h19 (kok_cons h40 (kok_cons h27 (kok_cons h42 kok_nil))))))) (kwok_cons h29 (kwok_cons h41 kwok_nil)) (fun L x => g11 m23 m25 m20 m19 m40 m27 m29 m41 m42 L x.1 x.2) (fun L x => e11 m23 m25 m20 m19 m40 m27 m29 m41 m42 L x.1 x.2) hm hs11
end Go.Proofs.Try

set_option maxHeartbeats 0
set_option linter.unusedVariables false
set_option linter.unusedSimpArgs false
namespace Go.Proofs.Try
open Go Go.VM Go.RowKit
/-! loop.example/g00222/impl.leftBy -/
def ev79 : Env cxT := { Kc := kcOf [], Kw := kwOf [], lv := fun i => [], xv := fun i => none }
theorem i79 (L : Nat) (a0 : Int) (a1 : Int) : evF prog ev79 (loopN L) f79 (a79.enc (a0, a1)) =
  bif (a1 == (0 : Int)) then none
  else bif (decide ((Int.tmod a0 a1) < (0 : Int))) then some (n79 (Go.IntKind.wrap Go.IntKind.i64 ((Int.tmod a0 a1) + a1)))
  else some (n79 (Int.tmod a0 a1)) := by kernel_rfl
def g79 (L : Nat) (a0 : Int) (a1 : Int) : Option Int :=
  bif (a1 == (0 : Int)) then none
  else bif (decide ((Int.tmod a0 a1) < (0 : Int))) then some (Go.IntKind.wrap Go.IntKind.i64 ((Int.tmod a0 a1) + a1))
  else some (Int.tmod a0 a1)
theorem e79 (L : Nat) (a0 : Int) (a1 : Int) : evF prog ev79 (loopN L) f79 (a79.enc (a0, a1)) = (g79 L a0 a1).map n79 := by
  rw [i79]; simp only [g79, map_bif, map_tst, Option.map_some, Option.map_none]
theorem s79 (m : (Int × Int) → Option Int) (hm : ∀ (x : (Int × Int)) t, m x = some t → ∃ L, g79 L x.1 x.2 = some t) : Sat prog cxT 79 (c79 m) :=
  sat_t cxT_ok cxT_pok (by rfl) (fn := f79) rfl a79 n79 dd79 m ev79 kok_nil kwok_nil (fun L x => g79 L x.1 x.2) (fun L x => e79 L x.1 x.2) hm hs79
/-! loop.example/g00222/spec.l3Mod -/
def ev80 : Env cxT := { Kc := kcOf [], Kw := kwOf [], lv := fun i => [], xv := fun i => none }
theorem i80 (L : Nat) (a0 : Int) (a1 : Int) : evF prog ev80 (loopN L) f80 (a80.enc (a0, a1)) =
  bif (a1 == (0 : Int)) then none
  else bif (a1 == (0 : Int)) then none
  else some (n80 (Int.tmod (Go.IntKind.wrap Go.IntKind.i64 ((Int.tmod a0 a1) + a1)) a1)) := by kernel_rfl
def g80 (L : Nat) (a0 : Int) (a1 : Int) : Option Int :=
  bif (a1 == (0 : Int)) then none
  else bif (a1 == (0 : Int)) then none
  else some (Int.tmod (Go.IntKind.wrap Go.IntKind.i64 ((Int.tmod a0 a1) + a1)) a1)
theorem e80 (L : Nat) (a0 : Int) (a1 : Int) : evF prog ev80 (loopN L) f80 (a80.enc (a0, a1)) = (g80 L a0 a1).map n80 := by
  rw [i80]; simp only [g80, map_bif, map_tst, Option.map_some, Option.map_none]
theorem s80 (m : (Int × Int) → Option Int) (hm : ∀ (x : (Int × Int)) t, m x = some t → ∃ L, g80 L x.1 x.2 = some t) : Sat prog cxT 80 (c80 m) :=
  sat_t cxT_ok cxT_pok (by rfl) (fn := f80) rfl a80 n80 dd80 m ev80 kok_nil kwok_nil (fun L x => g80 L x.1 x.2) (fun L x => e80 L x.1 x.2) hm hs80
/-! loop.example/g00222/impl.MixNumber -/
def ev77 (m79 : (Int × Int) → Option Int) : Env cxT := { Kc := kcOf [(79, c79 m79)], Kw := kwOf [], lv := fun i => if i = 0 then [(5, []), (6, []), (12, [])] else [], xv := fun i => if i = 0 then some [(5, [])] else none }
def S77_0 (a0 : Int) (a1 : Int) (v0_5 : Int) (v0_6 : Int) (v0_12 : Int) : St cxT.ty := { slots := [junk, junk, junk, junk, junk, (.inl (.inl (lv (.int .i64 v0_5)))), (.inl (.inl (lv (.int .i64 v0_6)))), junk, junk, junk, junk, junk, (.inl (.inl (lv (.int .i64 v0_12))))] ++ List.replicate 12 junk, D := [], F := [], ctr := 1 }
def X77_0 (a0 : Int) (a1 : Int) (w0_5 : Int) : St cxT.ty := { slots := [junk, junk, junk, junk, junk, (.inl (.inl (lv (.int .i64 w0_5))))] ++ List.replicate 19 junk, D := [], F := [], ctr := 1 }
theorem i77 (m79 : (Int × Int) → Option Int) (L : Nat) (a0 : Int) (a1 : Int) : evF prog (ev77 m79) (loopN L) f77 (a77.enc (a0, a1)) =
  tst (m79 (a1, (10007 : Int))) (0 : Int) fun (q1 : Int) => tst (m79 (a0, (4294967296 : Int))) (0 : Int) fun (q2 : Int) => headF prog (ev77 m79) L f77 0 [1, 1, 1, 0, 1, 0, 0] (outK (outV prog f77) (topK prog (ev77 m79) L f77 [1, 1, 1, 0, 1] (outV prog f77)).n (topK prog (ev77 m79) L f77 [1, 1, 1, 0, 1] (outV prog f77)).x) L (S77_0 a0 a1 (Go.IntKind.wrap Go.IntKind.i64 (q1 + (11 : Int))) q2 (0 : Int)) := by kernel_rfl
theorem r77_0 (m79 : (Int × Int) → Option Int) (L : Nat) (a0 : Int) (a1 : Int) (k : St cxT.ty → Option (V cxT.ty)) (xk : Nat → St cxT.ty → Option (V cxT.ty)) (g : St cxT.ty → Option (V cxT.ty)) (v0_5 : Int) (v0_6 : Int) (v0_12 : Int) : roundF prog (ev77 m79) L f77 0 [1, 1, 1, 0, 1, 0, 0] (outK (outV prog f77) k xk) g (S77_0 a0 a1 v0_5 v0_6 v0_12) =
  bif (decide (v0_12 < (4 : Int))) then g (S77_0 a0 a1 (Int.tmod (Go.IntKind.wrap Go.IntKind.i64 ((Go.IntKind.wrap Go.IntKind.i64 ((Go.IntKind.wrap Go.IntKind.i64 (v0_5 * (131 : Int))) + (Int.tmod v0_6 (256 : Int)))) + (1 : Int))) (1000003 : Int)) (Go.IntKind.wrap Go.IntKind.i64 (Int.tdiv v0_6 (256 : Int))) (Go.IntKind.wrap Go.IntKind.i64 (v0_12 + (1 : Int))))
  else k (X77_0 a0 a1 v0_5) := by kernel_rfl
theorem t77_0 (m79 : (Int × Int) → Option Int) (L : Nat) (a0 : Int) (a1 : Int) (w0_5 : Int) : (topK prog (ev77 m79) L f77 [1, 1, 1, 0, 1] (outV prog f77)).n (X77_0 a0 a1 w0_5) =
  some (n77 w0_5) := by kernel_rfl
def l77_0 (m79 : (Int × Int) → Option Int) (L : Nat) (a0 : Int) (a1 : Int) : Nat → Int → Int → Int → (Int → Option Int) → Option Int
  | 0, _, _, _, _ => none
  | n + 1, v0_5, v0_6, v0_12, k =>
    bif (decide (v0_12 < (4 : Int))) then l77_0 m79 L a0 a1 n (Int.tmod (Go.IntKind.wrap Go.IntKind.i64 ((Go.IntKind.wrap Go.IntKind.i64 ((Go.IntKind.wrap Go.IntKind.i64 (v0_5 * (131 : Int))) + (Int.tmod v0_6 (256 : Int)))) + (1 : Int))) (1000003 : Int)) (Go.IntKind.wrap Go.IntKind.i64 (Int.tdiv v0_6 (256 : Int))) (Go.IntKind.wrap Go.IntKind.i64 (v0_12 + (1 : Int))) k
    else k v0_5
theorem h77_0 (m79 : (Int × Int) → Option Int) (L : Nat) (a0 : Int) (a1 : Int) (k : St cxT.ty → Option (V cxT.ty)) (xk : Nat → St cxT.ty → Option (V cxT.ty)) (k' : Int → Option Int) (hk : ∀ (w0_5 : Int), k (X77_0 a0 a1 w0_5) = (k' w0_5).map n77) : ∀ (n : Nat) (v0_5 : Int) (v0_6 : Int) (v0_12 : Int), headF prog (ev77 m79) L f77 0 [1, 1, 1, 0, 1, 0, 0] (outK (outV prog f77) k xk) n (S77_0 a0 a1 v0_5 v0_6 v0_12) = (l77_0 m79 L a0 a1 n v0_5 v0_6 v0_12 k').map n77
  | 0, _, _, _ => rfl
  | n + 1, v0_5, v0_6, v0_12 => by
    rw [headF_round, r77_0]
    have ih := h77_0 m79 L a0 a1 k xk k' hk n
    simp only [l77_0, map_bif, map_tst, Option.map_some, Option.map_none, ih, hk]
def g77 (m79 : (Int × Int) → Option Int) (L : Nat) (a0 : Int) (a1 : Int) : Option Int :=
  tst (m79 (a1, (10007 : Int))) (0 : Int) fun (q1 : Int) => tst (m79 (a0, (4294967296 : Int))) (0 : Int) fun (q2 : Int) => l77_0 m79 L a0 a1 L (Go.IntKind.wrap Go.IntKind.i64 (q1 + (11 : Int))) q2 (0 : Int) (fun (w0_5 : Int) => some w0_5)
theorem e77 (m79 : (Int × Int) → Option Int) (L : Nat) (a0 : Int) (a1 : Int) : evF prog (ev77 m79) (loopN L) f77 (a77.enc (a0, a1)) = (g77 m79 L a0 a1).map n77 := by
  let K'0 : Int → Option Int := (fun (w0_5 : Int) => some w0_5)
  have hin0 : ∀ (v0_5 : Int) (v0_6 : Int) (v0_12 : Int), headF prog (ev77 m79) L f77 0 [1, 1, 1, 0, 1, 0, 0] (outK (outV prog f77) (topK prog (ev77 m79) L f77 [1, 1, 1, 0, 1] (outV prog f77)).n (topK prog (ev77 m79) L f77 [1, 1, 1, 0, 1] (outV prog f77)).x) L (S77_0 a0 a1 v0_5 v0_6 v0_12) = (l77_0 m79 L a0 a1 L v0_5 v0_6 v0_12 K'0).map n77 := fun v0_5 v0_6 v0_12 => h77_0 m79 L a0 a1 _ _ K'0 (fun w0_5 => by rw [t77_0]; simp only [K'0, map_bif, map_tst, Option.map_some, Option.map_none]) L v0_5 v0_6 v0_12
  rw [i77]; simp only [g77, map_bif, map_tst, Option.map_some, Option.map_none, hin0, K'0]
theorem s77 (m79 : (Int × Int) → Option Int) (h79 : Sat prog cxT 79 (c79 m79)) (m : (Int × Int) → Option Int) (hm : ∀ (x : (Int × Int)) t, m x = some t → ∃ L, g77 m79 L x.1 x.2 = some t) : Sat prog cxT 77 (c77 m) :=
  sat_t cxT_ok cxT_pok (by rfl) (fn := f77) rfl a77 n77 dd77 m (ev77 m79) (kok_cons h79 kok_nil) kwok_nil (fun L x => g77 m79 L x.1 x.2) (fun L x => e77 m79 L x.1 x.2) hm hs77
/-! loop.example/g00222/spec.MixNumber -/
def ev78 (m80 : (Int × Int) → Option Int) : Env cxT := { Kc := kcOf [(80, c80 m80)], Kw := kwOf [], lv := fun i => if i = 0 then [(0, []), (5, []), (6, [])] else [], xv := fun i => if i = 0 then some [(5, [])] else none }
def S78_0 (a0 : Int) (a1 : Int) (v0_0 : Int) (v0_5 : Int) (v0_6 : Int) : St cxT.ty := { slots := [(.inl (.inl (lv (.int .i64 v0_0)))), junk, junk, junk, junk, (.inl (.inl (lv (.int .i64 v0_5)))), (.inl (.inl (lv (.int .i64 v0_6))))] ++ List.replicate 19 junk, D := [], F := [], ctr := 1 }
def X78_0 (a0 : Int) (a1 : Int) (w0_5 : Int) : St cxT.ty := { slots := [junk, junk, junk, junk, junk, (.inl (.inl (lv (.int .i64 w0_5))))] ++ List.replicate 20 junk, D := [], F := [], ctr := 1 }
theorem i78 (m80 : (Int × Int) → Option Int) (L : Nat) (a0 : Int) (a1 : Int) : evF prog (ev78 m80) (loopN L) f78 (a78.enc (a0, a1)) =
  tst (m80 (a1, (10007 : Int))) (0 : Int) fun (q1 : Int) => tst (m80 (a0, (4294967296 : Int))) (0 : Int) fun (q2 : Int) => headF prog (ev78 m80) L f78 0 [1, 1, 1, 0, 1, 0, 0] (outK (outV prog f78) (topK prog (ev78 m80) L f78 [1, 1, 1, 0, 1] (outV prog f78)).n (topK prog (ev78 m80) L f78 [1, 1, 1, 0, 1] (outV prog f78)).x) L (S78_0 a0 a1 q2 (Go.IntKind.wrap Go.IntKind.i64 (q1 + (11 : Int))) (0 : Int)) := by kernel_rfl
theorem r78_0 (m80 : (Int × Int) → Option Int) (L : Nat) (a0 : Int) (a1 : Int) (k : St cxT.ty → Option (V cxT.ty)) (xk : Nat → St cxT.ty → Option (V cxT.ty)) (g : St cxT.ty → Option (V cxT.ty)) (v0_0 : Int) (v0_5 : Int) (v0_6 : Int) : roundF prog (ev78 m80) L f78 0 [1, 1, 1, 0, 1, 0, 0] (outK (outV prog f78) k xk) g (S78_0 a0 a1 v0_0 v0_5 v0_6) =
  bif (decide (v0_6 < (4 : Int))) then g (S78_0 a0 a1 (Go.IntKind.wrap Go.IntKind.i64 (Int.tdiv v0_0 (256 : Int))) (Int.tmod (Go.IntKind.wrap Go.IntKind.i64 ((Go.IntKind.wrap Go.IntKind.i64 ((Go.IntKind.wrap Go.IntKind.i64 (v0_5 * (131 : Int))) + (Int.tmod v0_0 (256 : Int)))) + (1 : Int))) (1000003 : Int)) (Go.IntKind.wrap Go.IntKind.i64 (v0_6 + (1 : Int))))
  else k (X78_0 a0 a1 v0_5) := by kernel_rfl
theorem t78_0 (m80 : (Int × Int) → Option Int) (L : Nat) (a0 : Int) (a1 : Int) (w0_5 : Int) : (topK prog (ev78 m80) L f78 [1, 1, 1, 0, 1] (outV prog f78)).n (X78_0 a0 a1 w0_5) =
  some (n78 w0_5) := by kernel_rfl
def l78_0 (m80 : (Int × Int) → Option Int) (L : Nat) (a0 : Int) (a1 : Int) : Nat → Int → Int → Int → (Int → Option Int) → Option Int
  | 0, _, _, _, _ => none
  | n + 1, v0_0, v0_5, v0_6, k =>
    bif (decide (v0_6 < (4 : Int))) then l78_0 m80 L a0 a1 n (Go.IntKind.wrap Go.IntKind.i64 (Int.tdiv v0_0 (256 : Int))) (Int.tmod (Go.IntKind.wrap Go.IntKind.i64 ((Go.IntKind.wrap Go.IntKind.i64 ((Go.IntKind.wrap Go.IntKind.i64 (v0_5 * (131 : Int))) + (Int.tmod v0_0 (256 : Int)))) + (1 : Int))) (1000003 : Int)) (Go.IntKind.wrap Go.IntKind.i64 (v0_6 + (1 : Int))) k
    else k v0_5
theorem h78_0 (m80 : (Int × Int) → Option Int) (L : Nat) (a0 : Int) (a1 : Int) (k : St cxT.ty → Option (V cxT.ty)) (xk : Nat → St cxT.ty → Option (V cxT.ty)) (k' : Int → Option Int) (hk : ∀ (w0_5 : Int), k (X78_0 a0 a1 w0_5) = (k' w0_5).map n78) : ∀ (n : Nat) (v0_0 : Int) (v0_5 : Int) (v0_6 : Int), headF prog (ev78 m80) L f78 0 [1, 1, 1, 0, 1, 0, 0] (outK (outV prog f78) k xk) n (S78_0 a0 a1 v0_0 v0_5 v0_6) = (l78_0 m80 L a0 a1 n v0_0 v0_5 v0_6 k').map n78
  | 0, _, _, _ => rfl
  | n + 1, v0_0, v0_5, v0_6 => by
    rw [headF_round, r78_0]
    have ih := h78_0 m80 L a0 a1 k xk k' hk n
    simp only [l78_0, map_bif, map_tst, Option.map_some, Option.map_none, ih, hk]
def g78 (m80 : (Int × Int) → Option Int) (L : Nat) (a0 : Int) (a1 : Int) : Option Int :=
  tst (m80 (a1, (10007 : Int))) (0 : Int) fun (q1 : Int) => tst (m80 (a0, (4294967296 : Int))) (0 : Int) fun (q2 : Int) => l78_0 m80 L a0 a1 L q2 (Go.IntKind.wrap Go.IntKind.i64 (q1 + (11 : Int))) (0 : Int) (fun (w0_5 : Int) => some w0_5)
theorem e78 (m80 : (Int × Int) → Option Int) (L : Nat) (a0 : Int) (a1 : Int) : evF prog (ev78 m80) (loopN L) f78 (a78.enc (a0, a1)) = (g78 m80 L a0 a1).map n78 := by
  let K'0 : Int → Option Int := (fun (w0_5 : Int) => some w0_5)
  have hin0 : ∀ (v0_0 : Int) (v0_5 : Int) (v0_6 : Int), headF prog (ev78 m80) L f78 0 [1, 1, 1, 0, 1, 0, 0] (outK (outV prog f78) (topK prog (ev78 m80) L f78 [1, 1, 1, 0, 1] (outV prog f78)).n (topK prog (ev78 m80) L f78 [1, 1, 1, 0, 1] (outV prog f78)).x) L (S78_0 a0 a1 v0_0 v0_5 v0_6) = (l78_0 m80 L a0 a1 L v0_0 v0_5 v0_6 K'0).map n78 := fun v0_0 v0_5 v0_6 => h78_0 m80 L a0 a1 _ _ K'0 (fun w0_5 => by rw [t78_0]; simp only [K'0, map_bif, map_tst, Option.map_some, Option.map_none]) L v0_0 v0_5 v0_6
  rw [i78]; simp only [g78, map_bif, map_tst, Option.map_some, Option.map_none, hin0, K'0]
theorem s78 (m80 : (Int × Int) → Option Int) (h80 : Sat prog cxT 80 (c80 m80)) (m : (Int × Int) → Option Int) (hm : ∀ (x : (Int × Int)) t, m x = some t → ∃ L, g78 m80 L x.1 x.2 = some t) : Sat prog cxT 78 (c78 m) :=
  sat_t cxT_ok cxT_pok (by rfl) (fn := f78) rfl a78 n78 dd78 m (ev78 m80) (kok_cons h80 kok_nil) kwok_nil (fun L x => g78 m80 L x.1 x.2) (fun L x => e78 m80 L x.1 x.2) hm hs78
/-! loop.example/g00222/impl.OffsetOf -/
def ev72 (m56 : Int → Option Bool) (m77 : (Int × Int) → Option Int) : Env cxT := { Kc := kcOf [(56, c56 m56), (77, c77 m77)], Kw := kwOf [], lv := fun i => [], xv := fun i => none }
theorem i72 (m56 : Int → Option Bool) (m77 : (Int × Int) → Option Int) (L : Nat) (a0 : Int) : evF prog (ev72 m56 m77) (loopN L) f72 (a72.enc a0) =
  tst (m56 a0) false fun (q1 : Bool) => bif (!q1) then some (n72 ((3 : Int), (0 : Int)))
    else tst (m77 (a0, (3 : Int))) (0 : Int) fun (q2 : Int) => some (n72 ((0 : Int), (Int.tmod q2 (31 : Int)))) := by kernel_rfl
def g72 (m56 : Int → Option Bool) (m77 : (Int × Int) → Option Int) (L : Nat) (a0 : Int) : Option (Int × Int) :=
  tst (m56 a0) false fun (q1 : Bool) => bif (!q1) then some ((3 : Int), (0 : Int))
    else tst (m77 (a0, (3 : Int))) (0 : Int) fun (q2 : Int) => some ((0 : Int), (Int.tmod q2 (31 : Int)))
theorem e72 (m56 : Int → Option Bool) (m77 : (Int × Int) → Option Int) (L : Nat) (a0 : Int) : evF prog (ev72 m56 m77) (loopN L) f72 (a72.enc a0) = (g72 m56 m77 L a0).map n72 := by
  rw [i72]; simp only [g72, map_bif, map_tst, Option.map_some, Option.map_none]
theorem s72 (m56 : Int → Option Bool) (m77 : (Int × Int) → Option Int) (h56 : Sat prog cxT 56 (c56 m56)) (h77 : Sat prog cxT 77 (c77 m77)) (m : Int → Option (Int × Int)) (hm : ∀ (x : Int) t, m x = some t → ∃ L, g72 m56 m77 L x = some t) : Sat prog cxT 72 (c72 m) :=
  sat_t cxT_ok cxT_pok (by rfl) (fn := f72) rfl a72 n72 dd72 m (ev72 m56 m77) (kok_cons h56 (kok_cons h77 kok_nil)) kwok_nil (fun L x => g72 m56 m77 L x) (fun L x => e72 m56 m77 L x) hm hs72
/-! loop.example/g00222/impl.SkipOf -/
def ev73 (m56 : Int → Option Bool) (m77 : (Int × Int) → Option Int) : Env cxT := { Kc := kcOf [(56, c56 m56), (77, c77 m77)], Kw := kwOf [], lv := fun i => [], xv := fun i => none }
theorem i73 (m56 : Int → Option Bool) (m77 : (Int × Int) → Option Int) (L : Nat) (a0 : Int) : evF prog (ev73 m56 m77) (loopN L) f73 (a73.enc a0) =
  tst (m56 a0) false fun (q1 : Bool) => bif (!q1) then some (n73 ((3 : Int), (0 : Int)))
    else tst (m77 (a0, (5 : Int))) (0 : Int) fun (q2 : Int) => some (n73 ((0 : Int), (Go.IntKind.wrap Go.IntKind.i64 ((1 : Int) + (Int.tmod q2 (30 : Int)))))) := by kernel_rfl
def g73 (m56 : Int → Option Bool) (m77 : (Int × Int) → Option Int) (L : Nat) (a0 : Int) : Option (Int × Int) :=
  tst (m56 a0) false fun (q1 : Bool) => bif (!q1) then some ((3 : Int), (0 : Int))
    else tst (m77 (a0, (5 : Int))) (0 : Int) fun (q2 : Int) => some ((0 : Int), (Go.IntKind.wrap Go.IntKind.i64 ((1 : Int) + (Int.tmod q2 (30 : Int)))))
theorem e73 (m56 : Int → Option Bool) (m77 : (Int × Int) → Option Int) (L : Nat) (a0 : Int) : evF prog (ev73 m56 m77) (loopN L) f73 (a73.enc a0) = (g73 m56 m77 L a0).map n73 := by
  rw [i73]; simp only [g73, map_bif, map_tst, Option.map_some, Option.map_none]
theorem s73 (m56 : Int → Option Bool) (m77 : (Int × Int) → Option Int) (h56 : Sat prog cxT 56 (c56 m56)) (h77 : Sat prog cxT 77 (c77 m77)) (m : Int → Option (Int × Int)) (hm : ∀ (x : Int) t, m x = some t → ∃ L, g73 m56 m77 L x = some t) : Sat prog cxT 73 (c73 m) :=
  sat_t cxT_ok cxT_pok (by rfl) (fn := f73) rfl a73 n73 dd73 m (ev73 m56 m77) (kok_cons h56 (kok_cons h77 kok_nil)) kwok_nil (fun L x => g73 m56 m77 L x) (fun L x => e73 m56 m77 L x) hm hs73
/-! loop.example/g00222/spec.l3Offset -/
def ev75 (m78 : (Int × Int) → Option Int) : Env cxT := { Kc := kcOf [(78, c78 m78)], Kw := kwOf [], lv := fun i => [], xv := fun i => none }
theorem i75 (m78 : (Int × Int) → Option Int) (L : Nat) (a0 : Int) : evF prog (ev75 m78) (loopN L) f75 (a75.enc a0) =
  tst (m78 (a0, (3 : Int))) (0 : Int) fun (q1 : Int) => some (n75 (Int.tmod q1 (31 : Int))) := by kernel_rfl
def g75 (m78 : (Int × Int) → Option Int) (L : Nat) (a0 : Int) : Option Int :=
  tst (m78 (a0, (3 : Int))) (0 : Int) fun (q1 : Int) => some (Int.tmod q1 (31 : Int))
theorem e75 (m78 : (Int × Int) → Option Int) (L : Nat) (a0 : Int) : evF prog (ev75 m78) (loopN L) f75 (a75.enc a0) = (g75 m78 L a0).map n75 := by
  rw [i75]; simp only [g75, map_bif, map_tst, Option.map_some, Option.map_none]
theorem s75 (m78 : (Int × Int) → Option Int) (h78 : Sat prog cxT 78 (c78 m78)) (m : Int → Option Int) (hm : ∀ (x : Int) t, m x = some t → ∃ L, g75 m78 L x = some t) : Sat prog cxT 75 (c75 m) :=
  sat_t cxT_ok cxT_pok (by rfl) (fn := f75) rfl a75 n75 dd75 m (ev75 m78) (kok_cons h78 kok_nil) kwok_nil (fun L x => g75 m78 L x) (fun L x => e75 m78 L x) hm hs75
/-! loop.example/g00222/spec.l3Skip -/
def ev76 (m78 : (Int × Int) → Option Int) : Env cxT := { Kc := kcOf [(78, c78 m78)], Kw := kwOf [], lv := fun i => [], xv := fun i => none }
theorem i76 (m78 : (Int × Int) → Option Int) (L : Nat) (a0 : Int) : evF prog (ev76 m78) (loopN L) f76 (a76.enc a0) =
  tst (m78 (a0, (5 : Int))) (0 : Int) fun (q1 : Int) => some (n76 (Go.IntKind.wrap Go.IntKind.i64 ((1 : Int) + (Int.tmod q1 (30 : Int))))) := by kernel_rfl
def g76 (m78 : (Int × Int) → Option Int) (L : Nat) (a0 : Int) : Option Int :=
  tst (m78 (a0, (5 : Int))) (0 : Int) fun (q1 : Int) => some (Go.IntKind.wrap Go.IntKind.i64 ((1 : Int) + (Int.tmod q1 (30 : Int))))
theorem e76 (m78 : (Int × Int) → Option Int) (L : Nat) (a0 : Int) : evF prog (ev76 m78) (loopN L) f76 (a76.enc a0) = (g76 m78 L a0).map n76 := by
  rw [i76]; simp only [g76, map_bif, map_tst, Option.map_some, Option.map_none]
theorem s76 (m78 : (Int × Int) → Option Int) (h78 : Sat prog cxT 78 (c78 m78)) (m : Int → Option Int) (hm : ∀ (x : Int) t, m x = some t → ∃ L, g76 m78 L x = some t) : Sat prog cxT 76 (c76 m) :=
  sat_t cxT_ok cxT_pok (by rfl) (fn := f76) rfl a76 n76 dd76 m (ev76 m78) (kok_cons h78 kok_nil) kwok_nil (fun L x => g76 m78 L x) (fun L x => e76 m78 L x) hm hs76
/-! loop.example/g00222/spec.l3Place -/
def ev71 (m75 : Int → Option Int) (m76 : Int → Option Int) : Env cxT := { Kc := kcOf [(75, c75 m75), (76, c76 m76)], Kw := kwOf [], lv := fun i => [], xv := fun i => none }
theorem i71 (m75 : Int → Option Int) (m76 : Int → Option Int) (L : Nat) (a0 : Int) (a1 : Int) : evF prog (ev71 m75 m76) (loopN L) f71 (a71.enc (a0, a1)) =
  tst (m75 a0) (0 : Int) fun (q1 : Int) => tst (m76 a0) (0 : Int) fun (q2 : Int) => some (n71 (Int.tmod (Go.IntKind.wrap Go.IntKind.i64 (q1 + (Go.IntKind.wrap Go.IntKind.i64 (a1 * q2)))) (31 : Int))) := by kernel_rfl
def g71 (m75 : Int → Option Int) (m76 : Int → Option Int) (L : Nat) (a0 : Int) (a1 : Int) : Option Int :=
  tst (m75 a0) (0 : Int) fun (q1 : Int) => tst (m76 a0) (0 : Int) fun (q2 : Int) => some (Int.tmod (Go.IntKind.wrap Go.IntKind.i64 (q1 + (Go.IntKind.wrap Go.IntKind.i64 (a1 * q2)))) (31 : Int))
theorem e71 (m75 : Int → Option Int) (m76 : Int → Option Int) (L : Nat) (a0 : Int) (a1 : Int) : evF prog (ev71 m75 m76) (loopN L) f71 (a71.enc (a0, a1)) = (g71 m75 m76 L a0 a1).map n71 := by
  rw [i71]; simp only [g71, map_bif, map_tst, Option.map_some, Option.map_none]
theorem s71 (m75 : Int → Option Int) (m76 : Int → Option Int) (h75 : Sat prog cxT 75 (c75 m75)) (h76 : Sat prog cxT 76 (c76 m76)) (m : (Int × Int) → Option Int) (hm : ∀ (x : (Int × Int)) t, m x = some t → ∃ L, g71 m75 m76 L x.1 x.2 = some t) : Sat prog cxT 71 (c71 m) :=
  sat_t cxT_ok cxT_pok (by rfl) (fn := f71) rfl a71 n71 dd71 m (ev71 m75 m76) (kok_cons h75 (kok_cons h76 kok_nil)) kwok_nil (fun L x => g71 m75 m76 L x.1 x.2) (fun L x => e71 m75 m76 L x.1 x.2) hm hs71
/-! loop.example/g00222/spec.l4Free -/
def ev68 (m71 : (Int × Int) → Option Int) : Env cxT := { Kc := kcOf [(71, c71 m71)], Kw := kwOf [], lv := fun i => if i = 0 then [(0, [some 2]), (1, []), (5, [])] else [], xv := fun i => if i = 0 then some [] else none }
def S68_0 (a0 : (List Int)) (a1 : Int) (v0_5 : Int) : St cxT.ty := { slots := [(.inl (.inl (ls { own := 0, nm := 0, e := 2, o := false, xs := a0 }))), (.inl (.inl (lv (.int .i64 a1)))), junk, junk, junk, (.inl (.inl (lv (.int .i64 v0_5))))] ++ List.replicate 14 junk, D := [], F := [], ctr := 1 }
def X68_0 (a0 : (List Int)) (a1 : Int) : St cxT.ty := { slots := [] ++ List.replicate 20 junk, D := [], F := [], ctr := 1 }
theorem i68 (m71 : (Int × Int) → Option Int) (L : Nat) (a0 : (List Int)) (a1 : Int) : evF prog (ev68 m71) (loopN L) f68 (a68.enc (a0, a1)) =
  headF prog (ev68 m71) L f68 0 [1, 0, 1, 0, 0] (outK (outV prog f68) (topK prog (ev68 m71) L f68 [1, 0, 1] (outV prog f68)).n (topK prog (ev68 m71) L f68 [1, 0, 1] (outV prog f68)).x) L (S68_0 a0 a1 (0 : Int)) := by kernel_rfl
theorem r68_0 (m71 : (Int × Int) → Option Int) (L : Nat) (a0 : (List Int)) (a1 : Int) (k : St cxT.ty → Option (V cxT.ty)) (xk : Nat → St cxT.ty → Option (V cxT.ty)) (g : St cxT.ty → Option (V cxT.ty)) (v0_5 : Int) : roundF prog (ev68 m71) L f68 0 [1, 0, 1, 0, 0] (outK (outV prog f68) k xk) g (S68_0 a0 a1 v0_5) =
  bif (decide (v0_5 < (31 : Int))) then tst (m71 (a1, v0_5)) (0 : Int) fun (q2 : Int) => bif ((decide ((0 : Int) ≤ q2)) && (decide (q2 < (Nat.cast (List.length a0) : Int)))) then bif ((List.getD a0 (Int.toNat q2) (0 : Int)) == (0 : Int)) then some (n68 q2)
        else g (S68_0 a0 a1 (Go.IntKind.wrap Go.IntKind.i64 (v0_5 + (1 : Int))))
      else none
  else k (X68_0 a0 a1) := by kernel_rfl
theorem t68_0 (m71 : (Int × Int) → Option Int) (L : Nat) (a0 : (List Int)) (a1 : Int) : (topK prog (ev68 m71) L f68 [1, 0, 1] (outV prog f68)).n (X68_0 a0 a1) =
  some (n68 (-(1 : Int))) := by kernel_rfl
def l68_0 (m71 : (Int × Int) → Option Int) (L : Nat) (a0 : (List Int)) (a1 : Int) : Nat → Int → (Option Int) → Option Int
  | 0, _, _ => none
  | n + 1, v0_5, k =>
    bif (decide (v0_5 < (31 : Int))) then tst (m71 (a1, v0_5)) (0 : Int) fun (q3 : Int) => bif ((decide ((0 : Int) ≤ q3)) && (decide (q3 < (Nat.cast (List.length a0) : Int)))) then bif ((List.getD a0 (Int.toNat q3) (0 : Int)) == (0 : Int)) then some q3
          else l68_0 m71 L a0 a1 n (Go.IntKind.wrap Go.IntKind.i64 (v0_5 + (1 : Int))) k
        else none
    else k
theorem h68_0 (m71 : (Int × Int) → Option Int) (L : Nat) (a0 : (List Int)) (a1 : Int) (k : St cxT.ty → Option (V cxT.ty)) (xk : Nat → St cxT.ty → Option (V cxT.ty)) (k' : Option Int) (hk : k (X68_0 a0 a1) = (k').map n68) : ∀ (n : Nat) (v0_5 : Int), headF prog (ev68 m71) L f68 0 [1, 0, 1, 0, 0] (outK (outV prog f68) k xk) n (S68_0 a0 a1 v0_5) = (l68_0 m71 L a0 a1 n v0_5 k').map n68
  | 0, _ => rfl
  | n + 1, v0_5 => by
    rw [headF_round, r68_0]
    have ih := h68_0 m71 L a0 a1 k xk k' hk n
    simp only [l68_0, map_bif, map_tst, Option.map_some, Option.map_none, ih, hk]
def g68 (m71 : (Int × Int) → Option Int) (L : Nat) (a0 : (List Int)) (a1 : Int) : Option Int :=
  l68_0 m71 L a0 a1 L (0 : Int) (some (-(1 : Int)))
theorem e68 (m71 : (Int × Int) → Option Int) (L : Nat) (a0 : (List Int)) (a1 : Int) : evF prog (ev68 m71) (loopN L) f68 (a68.enc (a0, a1)) = (g68 m71 L a0 a1).map n68 := by
  let K'0 : Option Int := (some (-(1 : Int)))
  have hin0 : ∀ (v0_5 : Int), headF prog (ev68 m71) L f68 0 [1, 0, 1, 0, 0] (outK (outV prog f68) (topK prog (ev68 m71) L f68 [1, 0, 1] (outV prog f68)).n (topK prog (ev68 m71) L f68 [1, 0, 1] (outV prog f68)).x) L (S68_0 a0 a1 v0_5) = (l68_0 m71 L a0 a1 L v0_5 K'0).map n68 := fun v0_5 => h68_0 m71 L a0 a1 _ _ K'0 (by rw [t68_0]; simp only [K'0, map_bif, map_tst, Option.map_some, Option.map_none]) L v0_5
  rw [i68]; simp only [g68, map_bif, map_tst, Option.map_some, Option.map_none, hin0, K'0]
theorem s68 (m71 : (Int × Int) → Option Int) (h71 : Sat prog cxT 71 (c71 m71)) (m : ((List Int) × Int) → Option Int) (hm : ∀ (x : ((List Int) × Int)) t, m x = some t → ∃ L, g68 m71 L x.1 x.2 = some t) : Sat prog cxT 68 (c68 m) :=
  sat_t cxT_ok cxT_pok (by rfl) (fn := f68) rfl a68 n68 dd68 m (ev68 m71) (kok_cons h71 kok_nil) kwok_nil (fun L x => g68 m71 L x.1 x.2) (fun L x => e68 m71 L x.1 x.2) hm hs68
/-! loop.example/g00222/spec.l4Fill -/
def ev46 (m67 : (List (Int × Int)) → Option Int) (m68 : ((List Int) × Int) → Option Int) : Env cxT := { Kc := kcOf [(67, c67 m67), (68, c68 m68)], Kw := kwOf [], lv := fun i => if i = 0 then [(0, [some 31]), (3, [some 2]), (4, [])] else if i = 2 then [(0, [some 31]), (3, [some 2]), (4, []), (5, [])] else if i = 4 then [(0, [some 31]), (3, [some 2]), (4, []), (5, []), (6, [])] else [], xv := fun i => if i = 0 then some [(3, [some 2])] else if i = 2 then some [(0, [some 31]), (3, [some 2]), (4, [])] else if i = 4 then some [(0, [some 31]), (3, [some 2]), (4, []), (5, [])] else none }
def S46_0 (a0 : (List (Int × Int))) (v0_3 : (List Int)) (v0_4 : Int) : St cxT.ty := { slots := [(.inl (.inl (ls { own := 0, nm := 0, e := 31, o := false, xs := a0 }))), junk, junk, (.inl (.inl (ls { own := 1, nm := 192, e := 2, o := true, xs := v0_3 }))), (.inl (.inl (lv (.int .i64 v0_4))))] ++ List.replicate 46 junk, D := [], F := [], ctr := 1 }
def X46_0 (a0 : (List (Int × Int))) (w0_3 : (List Int)) : St cxT.ty := { slots := [junk, junk, junk, (.inl (.inl (ls { own := 1, nm := 192, e := 2, o := true, xs := w0_3 })))] ++ List.replicate 47 junk, D := [], F := [], ctr := 1 }
def S46_2 (a0 : (List (Int × Int))) (v0_3 : (List Int)) (v0_4 : Int) (v2_3 : (List Int)) (v2_5 : Int) : St cxT.ty := { slots := [(.inl (.inl (ls { own := 0, nm := 0, e := 31, o := false, xs := a0 }))), junk, junk, (.inl (.inl (ls { own := 1, nm := 192, e := 2, o := true, xs := v2_3 }))), (.inl (.inl (lv (.int .i64 v0_4)))), (.inl (.inl (lv (.int .i64 v2_5))))] ++ List.replicate 45 junk, D := [], F := [], ctr := 1 }
def X46_2 (a0 : (List (Int × Int))) (v0_3 : (List Int)) (v0_4 : Int) (w2_3 : (List Int)) : St cxT.ty := { slots := [(.inl (.inl (ls { own := 0, nm := 0, e := 31, o := false, xs := a0 }))), junk, junk, (.inl (.inl (ls { own := 1, nm := 192, e := 2, o := true, xs := w2_3 }))), (.inl (.inl (lv (.int .i64 v0_4))))] ++ List.replicate 46 junk, D := [], F := [], ctr := 1 }
def S46_4 (a0 : (List (Int × Int))) (v0_3 : (List Int)) (v0_4 : Int) (v2_3 : (List Int)) (v2_5 : Int) (v4_3 : (List Int)) (v4_6 : Int) : St cxT.ty := { slots := [(.inl (.inl (ls { own := 0, nm := 0, e := 31, o := false, xs := a0 }))), junk, junk, (.inl (.inl (ls { own := 1, nm := 192, e := 2, o := true, xs := v4_3 }))), (.inl (.inl (lv (.int .i64 v0_4)))), (.inl (.inl (lv (.int .i64 v2_5)))), (.inl (.inl (lv (.int .i64 v4_6))))] ++ List.replicate 44 junk, D := [], F := [], ctr := 1 }
def X46_4 (a0 : (List (Int × Int))) (v0_3 : (List Int)) (v0_4 : Int) (v2_3 : (List Int)) (v2_5 : Int) (w4_3 : (List Int)) : St cxT.ty := { slots := [(.inl (.inl (ls { own := 0, nm := 0, e := 31, o := false, xs := a0 }))), junk, junk, (.inl (.inl (ls { own := 1, nm := 192, e := 2, o := true, xs := w4_3 }))), (.inl (.inl (lv (.int .i64 v0_4)))), (.inl (.inl (lv (.int .i64 v2_5))))] ++ List.replicate 45 junk, D := [], F := [], ctr := 1 }
theorem i46 (m67 : (List (Int × Int)) → Option Int) (m68 : ((List Int) × Int) → Option Int) (L : Nat) (a0 : (List (Int × Int))) : evF prog (ev46 m67 m68) (loopN L) f46 (a46.enc a0) =
  tst (m67 a0) (0 : Int) fun (q1 : Int) => bif (q1 == (0 : Int)) then some (n46 (List.replicate (Int.toNat (31 : Int)) (0 : Int)))
    else headF prog (ev46 m67 m68) L f46 0 [1, 1, 1, 0, 1, 0, 0] (outK (outV prog f46) (topK prog (ev46 m67 m68) L f46 [1, 1, 1, 0, 1] (outV prog f46)).n (topK prog (ev46 m67 m68) L f46 [1, 1, 1, 0, 1] (outV prog f46)).x) L (S46_0 a0 (List.replicate (Int.toNat (31 : Int)) (0 : Int)) (0 : Int)) := by kernel_rfl
theorem r46_0 (m67 : (List (Int × Int)) → Option Int) (m68 : ((List Int) × Int) → Option Int) (L : Nat) (a0 : (List (Int × Int))) (k : St cxT.ty → Option (V cxT.ty)) (xk : Nat → St cxT.ty → Option (V cxT.ty)) (g : St cxT.ty → Option (V cxT.ty)) (v0_3 : (List Int)) (v0_4 : Int) : roundF prog (ev46 m67 m68) L f46 0 [1, 1, 1, 0, 1, 0, 0] (outK (outV prog f46) k xk) g (S46_0 a0 v0_3 v0_4) =
  bif (decide (v0_4 < (31 : Int))) then headF prog (ev46 m67 m68) L f46 2 [1, 1, 1, 0, 1, 0, 0, 1, 0, 0, 1, 0, 0] (outK (outV prog f46) (inK prog (ev46 m67 m68) L f46 0 [1, 1, 1, 0, 1, 0, 0] [1, 0, 0, 1] (outK (outV prog f46) k xk) g).n (inK prog (ev46 m67 m68) L f46 0 [1, 1, 1, 0, 1, 0, 0] [1, 0, 0, 1] (outK (outV prog f46) k xk) g).x) L (S46_2 a0 v0_3 v0_4 v0_3 (0 : Int))
  else k (X46_0 a0 v0_3) := by kernel_rfl
theorem t46_0 (m67 : (List (Int × Int)) → Option Int) (m68 : ((List Int) × Int) → Option Int) (L : Nat) (a0 : (List (Int × Int))) (w0_3 : (List Int)) : (topK prog (ev46 m67 m68) L f46 [1, 1, 1, 0, 1] (outV prog f46)).n (X46_0 a0 w0_3) =
  some (n46 w0_3) := by kernel_rfl
theorem r46_2 (m67 : (List (Int × Int)) → Option Int) (m68 : ((List Int) × Int) → Option Int) (L : Nat) (a0 : (List (Int × Int))) (v0_3 : (List Int)) (v0_4 : Int) (k : St cxT.ty → Option (V cxT.ty)) (xk : Nat → St cxT.ty → Option (V cxT.ty)) (g : St cxT.ty → Option (V cxT.ty)) (v2_3 : (List Int)) (v2_5 : Int) : roundF prog (ev46 m67 m68) L f46 2 [1, 1, 1, 0, 1, 0, 0, 1, 0, 0, 1, 0, 0] (outK (outV prog f46) k xk) g (S46_2 a0 v0_3 v0_4 v2_3 v2_5) =
  bif (decide (v2_5 < (Nat.cast (List.length a0) : Int))) then headF prog (ev46 m67 m68) L f46 4 [1, 1, 1, 0, 1, 0, 0, 1, 0, 0, 1, 0, 0, 1, 0, 0, 1, 0, 0] (outK (outV prog f46) (inK prog (ev46 m67 m68) L f46 2 [1, 1, 1, 0, 1, 0, 0, 1, 0, 0, 1, 0, 0] [1, 0, 0, 1] (outK (outV prog f46) k xk) g).n (inK prog (ev46 m67 m68) L f46 2 [1, 1, 1, 0, 1, 0, 0, 1, 0, 0, 1, 0, 0] [1, 0, 0, 1] (outK (outV prog f46) k xk) g).x) L (S46_4 a0 v0_3 v0_4 v2_3 v2_5 v2_3 (0 : Int))
  else k (X46_2 a0 v0_3 v0_4 v2_3) := by kernel_rfl
theorem t46_2 (m67 : (List (Int × Int)) → Option Int) (m68 : ((List Int) × Int) → Option Int) (L : Nat) (a0 : (List (Int × Int))) (v0_3 : (List Int)) (v0_4 : Int) (k : St cxT.ty → Option (V cxT.ty)) (xk : Nat → St cxT.ty → Option (V cxT.ty)) (g : St cxT.ty → Option (V cxT.ty)) (w2_3 : (List Int)) : (inK prog (ev46 m67 m68) L f46 0 [1, 1, 1, 0, 1, 0, 0] [1, 0, 0, 1] (outK (outV prog f46) k xk) g).n (X46_2 a0 v0_3 v0_4 w2_3) =
  g (S46_0 a0 w2_3 (Go.IntKind.wrap Go.IntKind.i64 (v0_4 + (1 : Int)))) := by kernel_rfl
theorem r46_4 (m67 : (List (Int × Int)) → Option Int) (m68 : ((List Int) × Int) → Option Int) (L : Nat) (a0 : (List (Int × Int))) (v0_3 : (List Int)) (v0_4 : Int) (v2_3 : (List Int)) (v2_5 : Int) (k : St cxT.ty → Option (V cxT.ty)) (xk : Nat → St cxT.ty → Option (V cxT.ty)) (g : St cxT.ty → Option (V cxT.ty)) (v4_3 : (List Int)) (v4_6 : Int) : roundF prog (ev46 m67 m68) L f46 4 [1, 1, 1, 0, 1, 0, 0, 1, 0, 0, 1, 0, 0, 1, 0, 0, 1, 0, 0] (outK (outV prog f46) k xk) g (S46_4 a0 v0_3 v0_4 v2_3 v2_5 v4_3 v4_6) =
  bif ((decide ((0 : Int) ≤ v2_5)) && (decide (v2_5 < (Nat.cast (List.length a0) : Int)))) then bif (decide (v4_6 < (List.getD a0 (Int.toNat v2_5) ((0 : Int), (0 : Int))).2)) then bif ((decide ((0 : Int) ≤ v2_5)) && (decide (v2_5 < (Nat.cast (List.length a0) : Int)))) then tst (m68 (v4_3, (List.getD a0 (Int.toNat v2_5) ((0 : Int), (0 : Int))).1)) (0 : Int) fun (q4 : Int) => bif (decide (q4 < (0 : Int))) then some (n46 v4_3)
          else bif ((decide ((0 : Int) ≤ v2_5)) && (decide (v2_5 < (Nat.cast (List.length a0) : Int)))) then bif ((decide ((0 : Int) ≤ q4)) && (decide (q4 < (Nat.cast (List.length v4_3) : Int)))) then g (S46_4 a0 v0_3 v0_4 v2_3 v2_5 (List.set v4_3 (Int.toNat q4) (List.getD a0 (Int.toNat v2_5) ((0 : Int), (0 : Int))).1) (Go.IntKind.wrap Go.IntKind.i64 (v4_6 + (1 : Int))))
            else none
          else none
      else none
    else k (X46_4 a0 v0_3 v0_4 v2_3 v2_5 v4_3)
  else none := by kernel_rfl
theorem t46_4 (m67 : (List (Int × Int)) → Option Int) (m68 : ((List Int) × Int) → Option Int) (L : Nat) (a0 : (List (Int × Int))) (v0_3 : (List Int)) (v0_4 : Int) (v2_3 : (List Int)) (v2_5 : Int) (k : St cxT.ty → Option (V cxT.ty)) (xk : Nat → St cxT.ty → Option (V cxT.ty)) (g : St cxT.ty → Option (V cxT.ty)) (w4_3 : (List Int)) : (inK prog (ev46 m67 m68) L f46 2 [1, 1, 1, 0, 1, 0, 0, 1, 0, 0, 1, 0, 0] [1, 0, 0, 1] (outK (outV prog f46) k xk) g).n (X46_4 a0 v0_3 v0_4 v2_3 v2_5 w4_3) =
  g (S46_2 a0 v0_3 v0_4 w4_3 (Go.IntKind.wrap Go.IntKind.i64 (v2_5 + (1 : Int)))) := by kernel_rfl
def l46_4 (m67 : (List (Int × Int)) → Option Int) (m68 : ((List Int) × Int) → Option Int) (L : Nat) (a0 : (List (Int × Int))) (v0_3 : (List Int)) (v0_4 : Int) (v2_3 : (List Int)) (v2_5 : Int) : Nat → (List Int) → Int → ((List Int) → Option (List Int)) → Option (List Int)
  | 0, _, _, _ => none
  | n + 1, v4_3, v4_6, k =>
    bif ((decide ((0 : Int) ≤ v2_5)) && (decide (v2_5 < (Nat.cast (List.length a0) : Int)))) then bif (decide (v4_6 < (List.getD a0 (Int.toNat v2_5) ((0 : Int), (0 : Int))).2)) then bif ((decide ((0 : Int) ≤ v2_5)) && (decide (v2_5 < (Nat.cast (List.length a0) : Int)))) then tst (m68 (v4_3, (List.getD a0 (Int.toNat v2_5) ((0 : Int), (0 : Int))).1)) (0 : Int) fun (q5 : Int) => bif (decide (q5 < (0 : Int))) then some v4_3
            else bif ((decide ((0 : Int) ≤ v2_5)) && (decide (v2_5 < (Nat.cast (List.length a0) : Int)))) then bif ((decide ((0 : Int) ≤ q5)) && (decide (q5 < (Nat.cast (List.length v4_3) : Int)))) then l46_4 m67 m68 L a0 v0_3 v0_4 v2_3 v2_5 n (List.set v4_3 (Int.toNat q5) (List.getD a0 (Int.toNat v2_5) ((0 : Int), (0 : Int))).1) (Go.IntKind.wrap Go.IntKind.i64 (v4_6 + (1 : Int))) k
              else none
            else none
        else none
      else k v4_3
    else none
theorem h46_4 (m67 : (List (Int × Int)) → Option Int) (m68 : ((List Int) × Int) → Option Int) (L : Nat) (a0 : (List (Int × Int))) (v0_3 : (List Int)) (v0_4 : Int) (v2_3 : (List Int)) (v2_5 : Int) (k : St cxT.ty → Option (V cxT.ty)) (xk : Nat → St cxT.ty → Option (V cxT.ty)) (k' : (List Int) → Option (List Int)) (hk : ∀ (w4_3 : (List Int)), k (X46_4 a0 v0_3 v0_4 v2_3 v2_5 w4_3) = (k' w4_3).map n46) : ∀ (n : Nat) (v4_3 : (List Int)) (v4_6 : Int), headF prog (ev46 m67 m68) L f46 4 [1, 1, 1, 0, 1, 0, 0, 1, 0, 0, 1, 0, 0, 1, 0, 0, 1, 0, 0] (outK (outV prog f46) k xk) n (S46_4 a0 v0_3 v0_4 v2_3 v2_5 v4_3 v4_6) = (l46_4 m67 m68 L a0 v0_3 v0_4 v2_3 v2_5 n v4_3 v4_6 k').map n46
  | 0, _, _ => rfl
  | n + 1, v4_3, v4_6 => by
    rw [headF_round, r46_4]
    have ih := h46_4 m67 m68 L a0 v0_3 v0_4 v2_3 v2_5 k xk k' hk n
    simp only [l46_4, map_bif, map_tst, Option.map_some, Option.map_none, ih, hk]
def l46_2 (m67 : (List (Int × Int)) → Option Int) (m68 : ((List Int) × Int) → Option Int) (L : Nat) (a0 : (List (Int × Int))) (v0_3 : (List Int)) (v0_4 : Int) : Nat → (List Int) → Int → ((List Int) → Option (List Int)) → Option (List Int)
  | 0, _, _, _ => none
  | n + 1, v2_3, v2_5, k =>
    bif (decide (v2_5 < (Nat.cast (List.length a0) : Int))) then l46_4 m67 m68 L a0 v0_3 v0_4 v2_3 v2_5 L v2_3 (0 : Int) (fun (w4_3 : (List Int)) => l46_2 m67 m68 L a0 v0_3 v0_4 n w4_3 (Go.IntKind.wrap Go.IntKind.i64 (v2_5 + (1 : Int))) k)
    else k v2_3
theorem h46_2 (m67 : (List (Int × Int)) → Option Int) (m68 : ((List Int) × Int) → Option Int) (L : Nat) (a0 : (List (Int × Int))) (v0_3 : (List Int)) (v0_4 : Int) (k : St cxT.ty → Option (V cxT.ty)) (xk : Nat → St cxT.ty → Option (V cxT.ty)) (k' : (List Int) → Option (List Int)) (hk : ∀ (w2_3 : (List Int)), k (X46_2 a0 v0_3 v0_4 w2_3) = (k' w2_3).map n46) : ∀ (n : Nat) (v2_3 : (List Int)) (v2_5 : Int), headF prog (ev46 m67 m68) L f46 2 [1, 1, 1, 0, 1, 0, 0, 1, 0, 0, 1, 0, 0] (outK (outV prog f46) k xk) n (S46_2 a0 v0_3 v0_4 v2_3 v2_5) = (l46_2 m67 m68 L a0 v0_3 v0_4 n v2_3 v2_5 k').map n46
  | 0, _, _ => rfl
  | n + 1, v2_3, v2_5 => by
    rw [headF_round, r46_2]
    have ih := h46_2 m67 m68 L a0 v0_3 v0_4 k xk k' hk n
    let K'4 : (List Int) → Option (List Int) := (fun (w4_3 : (List Int)) => l46_2 m67 m68 L a0 v0_3 v0_4 n w4_3 (Go.IntKind.wrap Go.IntKind.i64 (v2_5 + (1 : Int))) k')
    have hin4 : ∀ (v4_3 : (List Int)) (v4_6 : Int), headF prog (ev46 m67 m68) L f46 4 [1, 1, 1, 0, 1, 0, 0, 1, 0, 0, 1, 0, 0, 1, 0, 0, 1, 0, 0] (outK (outV prog f46) (inK prog (ev46 m67 m68) L f46 2 [1, 1, 1, 0, 1, 0, 0, 1, 0, 0, 1, 0, 0] [1, 0, 0, 1] (outK (outV prog f46) k xk) (headF prog (ev46 m67 m68) L f46 2 [1, 1, 1, 0, 1, 0, 0, 1, 0, 0, 1, 0, 0] (outK (outV prog f46) k xk) n)).n (inK prog (ev46 m67 m68) L f46 2 [1, 1, 1, 0, 1, 0, 0, 1, 0, 0, 1, 0, 0] [1, 0, 0, 1] (outK (outV prog f46) k xk) (headF prog (ev46 m67 m68) L f46 2 [1, 1, 1, 0, 1, 0, 0, 1, 0, 0, 1, 0, 0] (outK (outV prog f46) k xk) n)).x) L (S46_4 a0 v0_3 v0_4 v2_3 v2_5 v4_3 v4_6) = (l46_4 m67 m68 L a0 v0_3 v0_4 v2_3 v2_5 L v4_3 v4_6 K'4).map n46 := fun v4_3 v4_6 => h46_4 m67 m68 L a0 v0_3 v0_4 v2_3 v2_5 _ _ (K'4) (fun w4_3 => by rw [t46_4]; simp only [K'4, map_bif, map_tst, Option.map_some, Option.map_none, ih, hk]) L v4_3 v4_6
    simp only [l46_2, map_bif, map_tst, Option.map_some, Option.map_none, ih, hk, hin4, K'4]
def l46_0 (m67 : (List (Int × Int)) → Option Int) (m68 : ((List Int) × Int) → Option Int) (L : Nat) (a0 : (List (Int × Int))) : Nat → (List Int) → Int → ((List Int) → Option (List Int)) → Option (List Int)
  | 0, _, _, _ => none
  | n + 1, v0_3, v0_4, k =>
    bif (decide (v0_4 < (31 : Int))) then l46_2 m67 m68 L a0 v0_3 v0_4 L v0_3 (0 : Int) (fun (w2_3 : (List Int)) => l46_0 m67 m68 L a0 n w2_3 (Go.IntKind.wrap Go.IntKind.i64 (v0_4 + (1 : Int))) k)
    else k v0_3
theorem h46_0 (m67 : (List (Int × Int)) → Option Int) (m68 : ((List Int) × Int) → Option Int) (L : Nat) (a0 : (List (Int × Int))) (k : St cxT.ty → Option (V cxT.ty)) (xk : Nat → St cxT.ty → Option (V cxT.ty)) (k' : (List Int) → Option (List Int)) (hk : ∀ (w0_3 : (List Int)), k (X46_0 a0 w0_3) = (k' w0_3).map n46) : ∀ (n : Nat) (v0_3 : (List Int)) (v0_4 : Int), headF prog (ev46 m67 m68) L f46 0 [1, 1, 1, 0, 1, 0, 0] (outK (outV prog f46) k xk) n (S46_0 a0 v0_3 v0_4) = (l46_0 m67 m68 L a0 n v0_3 v0_4 k').map n46
  | 0, _, _ => rfl
  | n + 1, v0_3, v0_4 => by
    rw [headF_round, r46_0]
    have ih := h46_0 m67 m68 L a0 k xk k' hk n
    let K'2 : (List Int) → Option (List Int) := (fun (w2_3 : (List Int)) => l46_0 m67 m68 L a0 n w2_3 (Go.IntKind.wrap Go.IntKind.i64 (v0_4 + (1 : Int))) k')
    have hin2 : ∀ (v2_3 : (List Int)) (v2_5 : Int), headF prog (ev46 m67 m68) L f46 2 [1, 1, 1, 0, 1, 0, 0, 1, 0, 0, 1, 0, 0] (outK (outV prog f46) (inK prog (ev46 m67 m68) L f46 0 [1, 1, 1, 0, 1, 0, 0] [1, 0, 0, 1] (outK (outV prog f46) k xk) (headF prog (ev46 m67 m68) L f46 0 [1, 1, 1, 0, 1, 0, 0] (outK (outV prog f46) k xk) n)).n (inK prog (ev46 m67 m68) L f46 0 [1, 1, 1, 0, 1, 0, 0] [1, 0, 0, 1] (outK (outV prog f46) k xk) (headF prog (ev46 m67 m68) L f46 0 [1, 1, 1, 0, 1, 0, 0] (outK (outV prog f46) k xk) n)).x) L (S46_2 a0 v0_3 v0_4 v2_3 v2_5) = (l46_2 m67 m68 L a0 v0_3 v0_4 L v2_3 v2_5 K'2).map n46 := fun v2_3 v2_5 => h46_2 m67 m68 L a0 v0_3 v0_4 _ _ (K'2) (fun w2_3 => by rw [t46_2]; simp only [K'2, map_bif, map_tst, Option.map_some, Option.map_none, ih, hk]) L v2_3 v2_5
    simp only [l46_0, map_bif, map_tst, Option.map_some, Option.map_none, ih, hk, hin2, K'2]
def g46 (m67 : (List (Int × Int)) → Option Int) (m68 : ((List Int) × Int) → Option Int) (L : Nat) (a0 : (List (Int × Int))) : Option (List Int) :=
  tst (m67 a0) (0 : Int) fun (q1 : Int) => bif (q1 == (0 : Int)) then some (List.replicate (Int.toNat (31 : Int)) (0 : Int))
    else l46_0 m67 m68 L a0 L (List.replicate (Int.toNat (31 : Int)) (0 : Int)) (0 : Int) (fun (w0_3 : (List Int)) => some w0_3)
theorem e46 (m67 : (List (Int × Int)) → Option Int) (m68 : ((List Int) × Int) → Option Int) (L : Nat) (a0 : (List (Int × Int))) : evF prog (ev46 m67 m68) (loopN L) f46 (a46.enc a0) = (g46 m67 m68 L a0).map n46 := by
  let K'0 : (List Int) → Option (List Int) := (fun (w0_3 : (List Int)) => some w0_3)
  have hin0 : ∀ (v0_3 : (List Int)) (v0_4 : Int), headF prog (ev46 m67 m68) L f46 0 [1, 1, 1, 0, 1, 0, 0] (outK (outV prog f46) (topK prog (ev46 m67 m68) L f46 [1, 1, 1, 0, 1] (outV prog f46)).n (topK prog (ev46 m67 m68) L f46 [1, 1, 1, 0, 1] (outV prog f46)).x) L (S46_0 a0 v0_3 v0_4) = (l46_0 m67 m68 L a0 L v0_3 v0_4 K'0).map n46 := fun v0_3 v0_4 => h46_0 m67 m68 L a0 _ _ K'0 (fun w0_3 => by rw [t46_0]; simp only [K'0, map_bif, map_tst, Option.map_some, Option.map_none]) L v0_3 v0_4
  rw [i46]; simp only [g46, map_bif, map_tst, Option.map_some, Option.map_none, hin0, K'0]
theorem s46 (m67 : (List (Int × Int)) → Option Int) (m68 : ((List Int) × Int) → Option Int) (h67 : Sat prog cxT 67 (c67 m67)) (h68 : Sat prog cxT 68 (c68 m68)) (m : (List (Int × Int)) → Option (List Int)) (hm : ∀ (x : (List (Int × Int))) t, m x = some t → ∃ L, g46 m67 m68 L x = some t) : Sat prog cxT 46 (c46 m) :=
  sat_t cxT_ok cxT_pok (by rfl) (fn := f46) rfl a46 n46 dd46 m (ev46 m67 m68) (kok_cons h67 (kok_cons h68 kok_nil)) kwok_nil (fun L x => g46 m67 m68 L x) (fun L x => e46 m67 m68 L x) hm hs46
/-! loop.example/g00222/spec.FillTable -/
def ev15 (m24 : (List (Int × Int)) → Option Int) (m46 : (List (Int × Int)) → Option (List Int)) : Env cxT := { Kc := kcOf [(24, c24 m24), (46, c46 m46)], Kw := kwOf [], lv := fun i => [], xv := fun i => none }
theorem i15 (m24 : (List (Int × Int)) → Option Int) (m46 : (List (Int × Int)) → Option (List Int)) (L : Nat) (a0 : (List (Int × Int))) : evF prog (ev15 m24 m46) (loopN L) f15 (a15.enc a0) =
  tst (m24 a0) (0 : Int) fun (q1 : Int) => bif (q1 != (0 : Int)) then some (n15 (q1, ([] : List (Int))))
    else tst (m46 a0) [] fun (q2 : (List Int)) => some (n15 ((0 : Int), q2)) := by kernel_rfl
def g15 (m24 : (List (Int × Int)) → Option Int) (m46 : (List (Int × Int)) → Option (List Int)) (L : Nat) (a0 : (List (Int × Int))) : Option (Int × (List Int)) :=
  tst (m24 a0) (0 : Int) fun (q1 : Int) => bif (q1 != (0 : Int)) then some (q1, ([] : List (Int)))
    else tst (m46 a0) [] fun (q2 : (List Int)) => some ((0 : Int), q2)
theorem e15 (m24 : (List (Int × Int)) → Option Int) (m46 : (List (Int × Int)) → Option (List Int)) (L : Nat) (a0 : (List (Int × Int))) : evF prog (ev15 m24 m46) (loopN L) f15 (a15.enc a0) = (g15 m24 m46 L a0).map n15 := by
  rw [i15]; simp only [g15, map_bif, map_tst, Option.map_some, Option.map_none]
theorem s15 (m24 : (List (Int × Int)) → Option Int) (m46 : (List (Int × Int)) → Option (List Int)) (h24 : Sat prog cxT 24 (c24 m24)) (h46 : Sat prog cxT 46 (c46 m46)) (m : (List (Int × Int)) → Option (Int × (List Int))) (hm : ∀ (x : (List (Int × Int))) t, m x = some t → ∃ L, g15 m24 m46 L x = some t) : Sat prog cxT 15 (c15 m) :=
  sat_t cxT_ok cxT_pok (by rfl) (fn := f15) rfl a15 n15 dd15 m (ev15 m24 m46) (kok_cons h24 (kok_cons h46 kok_nil)) kwok_nil (fun L x => g15 m24 m46 L x) (fun L x => e15 m24 m46 L x) hm hs15
/-! loop.example/g00222/laws.eqIntsResult -/
def ev28 (m34 : ((List Int) × (List Int)) → Option Bool) : Env cxT := { Kc := kcOf [(34, c34 m34)], Kw := kwOf [], lv := fun i => [], xv := fun i => none }
theorem i28 (m34 : ((List Int) × (List Int)) → Option Bool) (L : Nat) (a0_0 : Int) (a0_1 : (List Int)) (a1_0 : Int) (a1_1 : (List Int)) : evF prog (ev28 m34) (loopN L) f28 (a28.enc ((a0_0, a0_1), (a1_0, a1_1))) =
  bif (a0_0 != a1_0) then some (n28 Bool.false)
  else tst (m34 (a0_1, a1_1)) false fun (q1 : Bool) => bif (!q1) then some (n28 Bool.false)
    else some (n28 Bool.true) := by kernel_rfl
def g28 (m34 : ((List Int) × (List Int)) → Option Bool) (L : Nat) (a0_0 : Int) (a0_1 : (List Int)) (a1_0 : Int) (a1_1 : (List Int)) : Option Bool :=
  bif (a0_0 != a1_0) then some Bool.false
  else tst (m34 (a0_1, a1_1)) false fun (q1 : Bool) => bif (!q1) then some Bool.false
    else some Bool.true
theorem e28 (m34 : ((List Int) × (List Int)) → Option Bool) (L : Nat) (a0_0 : Int) (a0_1 : (List Int)) (a1_0 : Int) (a1_1 : (List Int)) : evF prog (ev28 m34) (loopN L) f28 (a28.enc ((a0_0, a0_1), (a1_0, a1_1))) = (g28 m34 L a0_0 a0_1 a1_0 a1_1).map n28 := by
  rw [i28]; simp only [g28, map_bif, map_tst, Option.map_some, Option.map_none]
theorem s28 (m34 : ((List Int) × (List Int)) → Option Bool) (h34 : Sat prog cxT 34 (c34 m34)) (m : ((Int × (List Int)) × (Int × (List Int))) → Option Bool) (hm : ∀ (x : ((Int × (List Int)) × (Int × (List Int)))) t, m x = some t → ∃ L, g28 m34 L x.1.1 x.1.2 x.2.1 x.2.2 = some t) : Sat prog cxT 28 (c28 m) :=
  sat_t cxT_ok cxT_pok (by rfl) (fn := f28) rfl a28 n28 dd28 m (ev28 m34) (kok_cons h34 kok_nil) kwok_nil (fun L x => g28 m34 L x.1.1 x.1.2 x.2.1 x.2.2) (fun L x => e28 m34 L x.1.1 x.1.2 x.2.1 x.2.2) hm hs28
/-! loop.example/g00222/laws.markIntsResult -/
def ev30 (m59 : ((List Int) × Int) → Option (Int × (List Int))) : Env cxT := { Kc := kcOf [], Kw := kwOf [(59, c59 m59)], lv := fun i => [], xv := fun i => none }
theorem i30 (m59 : ((List Int) × Int) → Option (Int × (List Int))) (L : Nat) (a0_0 : Int) (a0_1 : (List Int)) (a1 : Int) : evFW prog (ev30 m59) (loopN L) f30 1 (a30.enc ((a0_0, a0_1), a1)) =
  tst (m59 (a0_1, a1)) ((0 : Int), []) fun (q1 : (Int × (List Int))) => some (n30 (q1.1, a0_0, q1.2)) := by kernel_rfl
def g30 (m59 : ((List Int) × Int) → Option (Int × (List Int))) (L : Nat) (a0_0 : Int) (a0_1 : (List Int)) (a1 : Int) : Option (Int × Int × (List Int)) :=
  tst (m59 (a0_1, a1)) ((0 : Int), []) fun (q1 : (Int × (List Int))) => some (q1.1, a0_0, q1.2)
theorem e30 (m59 : ((List Int) × Int) → Option (Int × (List Int))) (L : Nat) (a0_0 : Int) (a0_1 : (List Int)) (a1 : Int) : evFW prog (ev30 m59) (loopN L) f30 1 (a30.enc ((a0_0, a0_1), a1)) = (g30 m59 L a0_0 a0_1 a1).map n30 := by
  rw [i30]; simp only [g30, map_bif, map_tst, Option.map_some, Option.map_none]
theorem s30 (m59 : ((List Int) × Int) → Option (Int × (List Int))) (h59 : SatW prog cxT 59 (c59 m59).nres (c59 m59).n (c59 m59).F) (m : ((Int × (List Int)) × Int) → Option (Int × Int × (List Int))) (hm : ∀ (x : ((Int × (List Int)) × Int)) t, m x = some t → ∃ L, g30 m59 L x.1.1 x.1.2 x.2 = some t) : SatW prog cxT 30 (c30 m).nres (c30 m).n (c30 m).F :=
  sat_w cxT_ok cxT_pok (by rfl) (fn := f30) rfl rfl a30 n30 dd30 m (ev30 m59) kok_nil (kwok_cons h59 kwok_nil) (fun L x => g30 m59 L x.1.1 x.1.2 x.2) (fun L x => e30 m59 L x.1.1 x.1.2 x.2) hm hs30
/-! loop.example/g00222/laws.heldIntsResult -/
def ev31 (m60 : ((List Int) × Int) → Option Int) : Env cxT := { Kc := kcOf [(60, c60 m60)], Kw := kwOf [], lv := fun i => [], xv := fun i => none }
theorem i31 (m60 : ((List Int) × Int) → Option Int) (L : Nat) (a0_0 : Int) (a0_1 : (List Int)) (a1 : Int) : evF prog (ev31 m60) (loopN L) f31 (a31.enc ((a0_0, a0_1), a1)) =
  tst (m60 (a0_1, a1)) (0 : Int) fun (q1 : Int) => bif (decide (q1 < (0 : Int))) then some (n31 (-(1 : Int)))
    else some (n31 q1) := by kernel_rfl
def g31 (m60 : ((List Int) × Int) → Option Int) (L : Nat) (a0_0 : Int) (a0_1 : (List Int)) (a1 : Int) : Option Int :=
  tst (m60 (a0_1, a1)) (0 : Int) fun (q1 : Int) => bif (decide (q1 < (0 : Int))) then some (-(1 : Int))
    else some q1
theorem e31 (m60 : ((List Int) × Int) → Option Int) (L : Nat) (a0_0 : Int) (a0_1 : (List Int)) (a1 : Int) : evF prog (ev31 m60) (loopN L) f31 (a31.enc ((a0_0, a0_1), a1)) = (g31 m60 L a0_0 a0_1 a1).map n31 := by
  rw [i31]; simp only [g31, map_bif, map_tst, Option.map_some, Option.map_none]
theorem s31 (m60 : ((List Int) × Int) → Option Int) (h60 : Sat prog cxT 60 (c60 m60)) (m : ((Int × (List Int)) × Int) → Option Int) (hm : ∀ (x : ((Int × (List Int)) × Int)) t, m x = some t → ∃ L, g31 m60 L x.1.1 x.1.2 x.2 = some t) : Sat prog cxT 31 (c31 m) :=
  sat_t cxT_ok cxT_pok (by rfl) (fn := f31) rfl a31 n31 dd31 m (ev31 m60) (kok_cons h60 kok_nil) kwok_nil (fun L x => g31 m60 L x.1.1 x.1.2 x.2) (fun L x => e31 m60 L x.1.1 x.1.2 x.2) hm hs31
end Go.Proofs.Try

set_option maxHeartbeats 0
set_option linter.unusedVariables false
set_option linter.unusedSimpArgs false
namespace Go.Proofs.Try
open Go Go.VM Go.RowKit
/-! loop.example/g00222/laws.markInt64S -/
def ev59 : Env cxT := { Kc := kcOf [], Kw := kwOf [], lv := fun i => if i = 0 then [(0, [some 2]), (1, []), (5, [])] else [], xv := fun i => if i = 0 then some [(0, [some 2]), (1, [])] else none }
def S59_0 (a0 : (List Int)) (a1 : Int) (v0_0 : (List Int)) (v0_1 : Int) (v0_5 : Int) : St cxT.ty := { slots := [(.inl (.inl (ls { own := 1, nm := 0, e := 2, o := true, xs := v0_0 }))), (.inl (.inl (lv (.int .i64 v0_1)))), junk, junk, junk, (.inl (.inl (lv (.int .i64 v0_5))))] ++ List.replicate 13 junk, D := [], F := [], ctr := 1, lo := 1 }
def X59_0 (a0 : (List Int)) (a1 : Int) (w0_0 : (List Int)) (w0_1 : Int) : St cxT.ty := { slots := [(.inl (.inl (ls { own := 1, nm := 0, e := 2, o := true, xs := w0_0 }))), (.inl (.inl (lv (.int .i64 w0_1))))] ++ List.replicate 17 junk, D := [], F := [], ctr := 1, lo := 1 }
theorem i59 (L : Nat) (a0 : (List Int)) (a1 : Int) : evFW prog ev59 (loopN L) f59 1 (a59.enc (a0, a1)) =
  headF prog ev59 L f59 0 [1, 0, 1, 0, 0] (outK (outW prog f59 1) (topK prog ev59 L f59 [1, 0, 1] (outW prog f59 1)).n (topK prog ev59 L f59 [1, 0, 1] (outW prog f59 1)).x) L (S59_0 a0 a1 a0 a1 (0 : Int)) := by kernel_rfl
theorem r59_0 (L : Nat) (a0 : (List Int)) (a1 : Int) (k : St cxT.ty → Option (List (A cxT.ty))) (xk : Nat → St cxT.ty → Option (List (A cxT.ty))) (g : St cxT.ty → Option (List (A cxT.ty))) (v0_0 : (List Int)) (v0_1 : Int) (v0_5 : Int) : roundF prog ev59 L f59 0 [1, 0, 1, 0, 0] (outK (outW prog f59 1) k xk) g (S59_0 a0 a1 v0_0 v0_1 v0_5) =
  bif (decide (v0_5 < (Nat.cast (List.length v0_0) : Int))) then bif ((decide ((0 : Int) ≤ v0_5)) && (decide (v0_5 < (Nat.cast (List.length v0_0) : Int)))) then g (S59_0 a0 a1 (List.set v0_0 (Int.toNat v0_5) v0_1) (Go.IntKind.wrap Go.IntKind.i64 (v0_1 + (1 : Int))) (Go.IntKind.wrap Go.IntKind.i64 (v0_5 + (1 : Int))))
    else none
  else k (X59_0 a0 a1 v0_0 v0_1) := by kernel_rfl
theorem t59_0 (L : Nat) (a0 : (List Int)) (a1 : Int) (w0_0 : (List Int)) (w0_1 : Int) : (topK prog ev59 L f59 [1, 0, 1] (outW prog f59 1)).n (X59_0 a0 a1 w0_0 w0_1) =
  some (n59 (w0_1, w0_0)) := by kernel_rfl
def l59_0 (L : Nat) (a0 : (List Int)) (a1 : Int) : Nat → (List Int) → Int → Int → ((List Int) → Int → Option (Int × (List Int))) → Option (Int × (List Int))
  | 0, _, _, _, _ => none
  | n + 1, v0_0, v0_1, v0_5, k =>
    bif (decide (v0_5 < (Nat.cast (List.length v0_0) : Int))) then bif ((decide ((0 : Int) ≤ v0_5)) && (decide (v0_5 < (Nat.cast (List.length v0_0) : Int)))) then l59_0 L a0 a1 n (List.set v0_0 (Int.toNat v0_5) v0_1) (Go.IntKind.wrap Go.IntKind.i64 (v0_1 + (1 : Int))) (Go.IntKind.wrap Go.IntKind.i64 (v0_5 + (1 : Int))) k
      else none
    else k v0_0 v0_1
theorem h59_0 (L : Nat) (a0 : (List Int)) (a1 : Int) (k : St cxT.ty → Option (List (A cxT.ty))) (xk : Nat → St cxT.ty → Option (List (A cxT.ty))) (k' : (List Int) → Int → Option (Int × (List Int))) (hk : ∀ (w0_0 : (List Int)) (w0_1 : Int), k (X59_0 a0 a1 w0_0 w0_1) = (k' w0_0 w0_1).map n59) : ∀ (n : Nat) (v0_0 : (List Int)) (v0_1 : Int) (v0_5 : Int), headF prog ev59 L f59 0 [1, 0, 1, 0, 0] (outK (outW prog f59 1) k xk) n (S59_0 a0 a1 v0_0 v0_1 v0_5) = (l59_0 L a0 a1 n v0_0 v0_1 v0_5 k').map n59
  | 0, _, _, _ => rfl
  | n + 1, v0_0, v0_1, v0_5 => by
    rw [headF_round, r59_0]
    have ih := h59_0 L a0 a1 k xk k' hk n
    simp only [l59_0, map_bif, map_tst, Option.map_some, Option.map_none, ih, hk]
def g59 (L : Nat) (a0 : (List Int)) (a1 : Int) : Option (Int × (List Int)) :=
  l59_0 L a0 a1 L a0 a1 (0 : Int) (fun (w0_0 : (List Int)) (w0_1 : Int) => some (w0_1, w0_0))
theorem e59 (L : Nat) (a0 : (List Int)) (a1 : Int) : evFW prog ev59 (loopN L) f59 1 (a59.enc (a0, a1)) = (g59 L a0 a1).map n59 := by
  let K'0 : (List Int) → Int → Option (Int × (List Int)) := (fun (w0_0 : (List Int)) (w0_1 : Int) => some (w0_1, w0_0))
  have hin0 : ∀ (v0_0 : (List Int)) (v0_1 : Int) (v0_5 : Int), headF prog ev59 L f59 0 [1, 0, 1, 0, 0] (outK (outW prog f59 1) (topK prog ev59 L f59 [1, 0, 1] (outW prog f59 1)).n (topK prog ev59 L f59 [1, 0, 1] (outW prog f59 1)).x) L (S59_0 a0 a1 v0_0 v0_1 v0_5) = (l59_0 L a0 a1 L v0_0 v0_1 v0_5 K'0).map n59 := fun v0_0 v0_1 v0_5 => h59_0 L a0 a1 _ _ K'0 (fun w0_0 w0_1 => by rw [t59_0]; simp only [K'0, map_bif, map_tst, Option.map_some, Option.map_none]) L v0_0 v0_1 v0_5
  rw [i59]; simp only [g59, map_bif, map_tst, Option.map_some, Option.map_none, hin0, K'0]
theorem s59 (m : ((List Int) × Int) → Option (Int × (List Int))) (hm : ∀ (x : ((List Int) × Int)) t, m x = some t → ∃ L, g59 L x.1 x.2 = some t) : SatW prog cxT 59 (c59 m).nres (c59 m).n (c59 m).F :=
  sat_w cxT_ok cxT_pok (by rfl) (fn := f59) rfl rfl a59 n59 dd59 m ev59 kok_nil kwok_nil (fun L x => g59 L x.1 x.2) (fun L x => e59 L x.1 x.2) hm hs59
/-! loop.example/g00222/laws.heldInt64S -/
def ev60 : Env cxT := { Kc := kcOf [], Kw := kwOf [], lv := fun i => if i = 0 then [(0, [some 2]), (1, []), (5, [])] else [], xv := fun i => if i = 0 then some [(1, [])] else none }
def S60_0 (a0 : (List Int)) (a1 : Int) (v0_1 : Int) (v0_5 : Int) : St cxT.ty := { slots := [(.inl (.inl (ls { own := 0, nm := 0, e := 2, o := false, xs := a0 }))), (.inl (.inl (lv (.int .i64 v0_1)))), junk, junk, junk, (.inl (.inl (lv (.int .i64 v0_5))))] ++ List.replicate 15 junk, D := [], F := [], ctr := 1 }
def X60_0 (a0 : (List Int)) (a1 : Int) (w0_1 : Int) : St cxT.ty := { slots := [junk, (.inl (.inl (lv (.int .i64 w0_1))))] ++ List.replicate 19 junk, D := [], F := [], ctr := 1 }
theorem i60 (L : Nat) (a0 : (List Int)) (a1 : Int) : evF prog ev60 (loopN L) f60 (a60.enc (a0, a1)) =
  headF prog ev60 L f60 0 [1, 0, 1, 0, 0] (outK (outV prog f60) (topK prog ev60 L f60 [1, 0, 1] (outV prog f60)).n (topK prog ev60 L f60 [1, 0, 1] (outV prog f60)).x) L (S60_0 a0 a1 a1 (0 : Int)) := by kernel_rfl
theorem r60_0 (L : Nat) (a0 : (List Int)) (a1 : Int) (k : St cxT.ty → Option (V cxT.ty)) (xk : Nat → St cxT.ty → Option (V cxT.ty)) (g : St cxT.ty → Option (V cxT.ty)) (v0_1 : Int) (v0_5 : Int) : roundF prog ev60 L f60 0 [1, 0, 1, 0, 0] (outK (outV prog f60) k xk) g (S60_0 a0 a1 v0_1 v0_5) =
  bif (decide (v0_5 < (Nat.cast (List.length a0) : Int))) then bif ((decide ((0 : Int) ≤ v0_5)) && (decide (v0_5 < (Nat.cast (List.length a0) : Int)))) then bif ((List.getD a0 (Int.toNat v0_5) (0 : Int)) != v0_1) then some (n60 (-(1 : Int)))
      else g (S60_0 a0 a1 (Go.IntKind.wrap Go.IntKind.i64 (v0_1 + (1 : Int))) (Go.IntKind.wrap Go.IntKind.i64 (v0_5 + (1 : Int))))
    else none
  else k (X60_0 a0 a1 v0_1) := by kernel_rfl
theorem t60_0 (L : Nat) (a0 : (List Int)) (a1 : Int) (w0_1 : Int) : (topK prog ev60 L f60 [1, 0, 1] (outV prog f60)).n (X60_0 a0 a1 w0_1) =
  some (n60 w0_1) := by kernel_rfl
def l60_0 (L : Nat) (a0 : (List Int)) (a1 : Int) : Nat → Int → Int → (Int → Option Int) → Option Int
  | 0, _, _, _ => none
  | n + 1, v0_1, v0_5, k =>
    bif (decide (v0_5 < (Nat.cast (List.length a0) : Int))) then bif ((decide ((0 : Int) ≤ v0_5)) && (decide (v0_5 < (Nat.cast (List.length a0) : Int)))) then bif ((List.getD a0 (Int.toNat v0_5) (0 : Int)) != v0_1) then some (-(1 : Int))
        else l60_0 L a0 a1 n (Go.IntKind.wrap Go.IntKind.i64 (v0_1 + (1 : Int))) (Go.IntKind.wrap Go.IntKind.i64 (v0_5 + (1 : Int))) k
      else none
    else k v0_1
theorem h60_0 (L : Nat) (a0 : (List Int)) (a1 : Int) (k : St cxT.ty → Option (V cxT.ty)) (xk : Nat → St cxT.ty → Option (V cxT.ty)) (k' : Int → Option Int) (hk : ∀ (w0_1 : Int), k (X60_0 a0 a1 w0_1) = (k' w0_1).map n60) : ∀ (n : Nat) (v0_1 : Int) (v0_5 : Int), headF prog ev60 L f60 0 [1, 0, 1, 0, 0] (outK (outV prog f60) k xk) n (S60_0 a0 a1 v0_1 v0_5) = (l60_0 L a0 a1 n v0_1 v0_5 k').map n60
  | 0, _, _ => rfl
  | n + 1, v0_1, v0_5 => by
    rw [headF_round, r60_0]
    have ih := h60_0 L a0 a1 k xk k' hk n
    simp only [l60_0, map_bif, map_tst, Option.map_some, Option.map_none, ih, hk]
def g60 (L : Nat) (a0 : (List Int)) (a1 : Int) : Option Int :=
  l60_0 L a0 a1 L a1 (0 : Int) (fun (w0_1 : Int) => some w0_1)
theorem e60 (L : Nat) (a0 : (List Int)) (a1 : Int) : evF prog ev60 (loopN L) f60 (a60.enc (a0, a1)) = (g60 L a0 a1).map n60 := by
  let K'0 : Int → Option Int := (fun (w0_1 : Int) => some w0_1)
  have hin0 : ∀ (v0_1 : Int) (v0_5 : Int), headF prog ev60 L f60 0 [1, 0, 1, 0, 0] (outK (outV prog f60) (topK prog ev60 L f60 [1, 0, 1] (outV prog f60)).n (topK prog ev60 L f60 [1, 0, 1] (outV prog f60)).x) L (S60_0 a0 a1 v0_1 v0_5) = (l60_0 L a0 a1 L v0_1 v0_5 K'0).map n60 := fun v0_1 v0_5 => h60_0 L a0 a1 _ _ K'0 (fun w0_1 => by rw [t60_0]; simp only [K'0, map_bif, map_tst, Option.map_some, Option.map_none]) L v0_1 v0_5
  rw [i60]; simp only [g60, map_bif, map_tst, Option.map_some, Option.map_none, hin0, K'0]
theorem s60 (m : ((List Int) × Int) → Option Int) (hm : ∀ (x : ((List Int) × Int)) t, m x = some t → ∃ L, g60 L x.1 x.2 = some t) : Sat prog cxT 60 (c60 m) :=
  sat_t cxT_ok cxT_pok (by rfl) (fn := f60) rfl a60 n60 dd60 m ev60 kok_nil kwok_nil (fun L x => g60 L x.1 x.2) (fun L x => e60 L x.1 x.2) hm hs60
/-! loop.example/g00222/spec.l4Weights -/
def ev67 : Env cxT := { Kc := kcOf [], Kw := kwOf [], lv := fun i => if i = 0 then [(0, [some 31]), (3, []), (4, [])] else [], xv := fun i => if i = 0 then some [(3, [])] else none }
def S67_0 (a0 : (List (Int × Int))) (v0_3 : Int) (v0_4 : Int) : St cxT.ty := { slots := [(.inl (.inl (ls { own := 0, nm := 0, e := 31, o := false, xs := a0 }))), junk, junk, (.inl (.inl (lv (.int .i64 v0_3)))), (.inl (.inl (lv (.int .i64 v0_4))))] ++ List.replicate 14 junk, D := [], F := [], ctr := 1 }
def X67_0 (a0 : (List (Int × Int))) (w0_3 : Int) : St cxT.ty := { slots := [junk, junk, junk, (.inl (.inl (lv (.int .i64 w0_3))))] ++ List.replicate 15 junk, D := [], F := [], ctr := 1 }
theorem i67 (L : Nat) (a0 : (List (Int × Int))) : evF prog ev67 (loopN L) f67 (a67.enc a0) =
  headF prog ev67 L f67 0 [1, 1, 0, 1, 0, 0] (outK (outV prog f67) (topK prog ev67 L f67 [1, 1, 0, 1] (outV prog f67)).n (topK prog ev67 L f67 [1, 1, 0, 1] (outV prog f67)).x) L (S67_0 a0 (0 : Int) (0 : Int)) := by kernel_rfl
theorem r67_0 (L : Nat) (a0 : (List (Int × Int))) (k : St cxT.ty → Option (V cxT.ty)) (xk : Nat → St cxT.ty → Option (V cxT.ty)) (g : St cxT.ty → Option (V cxT.ty)) (v0_3 : Int) (v0_4 : Int) : roundF prog ev67 L f67 0 [1, 1, 0, 1, 0, 0] (outK (outV prog f67) k xk) g (S67_0 a0 v0_3 v0_4) =
  bif (decide (v0_4 < (Nat.cast (List.length a0) : Int))) then bif ((decide ((0 : Int) ≤ v0_4)) && (decide (v0_4 < (Nat.cast (List.length a0) : Int)))) then g (S67_0 a0 (Go.IntKind.wrap Go.IntKind.i64 (v0_3 + (List.getD a0 (Int.toNat v0_4) ((0 : Int), (0 : Int))).2)) (Go.IntKind.wrap Go.IntKind.i64 (v0_4 + (1 : Int))))
    else none
  else k (X67_0 a0 v0_3) := by kernel_rfl
theorem t67_0 (L : Nat) (a0 : (List (Int × Int))) (w0_3 : Int) : (topK prog ev67 L f67 [1, 1, 0, 1] (outV prog f67)).n (X67_0 a0 w0_3) =
  some (n67 w0_3) := by kernel_rfl
def l67_0 (L : Nat) (a0 : (List (Int × Int))) : Nat → Int → Int → (Int → Option Int) → Option Int
  | 0, _, _, _ => none
  | n + 1, v0_3, v0_4, k =>
    bif (decide (v0_4 < (Nat.cast (List.length a0) : Int))) then bif ((decide ((0 : Int) ≤ v0_4)) && (decide (v0_4 < (Nat.cast (List.length a0) : Int)))) then l67_0 L a0 n (Go.IntKind.wrap Go.IntKind.i64 (v0_3 + (List.getD a0 (Int.toNat v0_4) ((0 : Int), (0 : Int))).2)) (Go.IntKind.wrap Go.IntKind.i64 (v0_4 + (1 : Int))) k
      else none
    else k v0_3
theorem h67_0 (L : Nat) (a0 : (List (Int × Int))) (k : St cxT.ty → Option (V cxT.ty)) (xk : Nat → St cxT.ty → Option (V cxT.ty)) (k' : Int → Option Int) (hk : ∀ (w0_3 : Int), k (X67_0 a0 w0_3) = (k' w0_3).map n67) : ∀ (n : Nat) (v0_3 : Int) (v0_4 : Int), headF prog ev67 L f67 0 [1, 1, 0, 1, 0, 0] (outK (outV prog f67) k xk) n (S67_0 a0 v0_3 v0_4) = (l67_0 L a0 n v0_3 v0_4 k').map n67
  | 0, _, _ => rfl
  | n + 1, v0_3, v0_4 => by
    rw [headF_round, r67_0]
    have ih := h67_0 L a0 k xk k' hk n
    simp only [l67_0, map_bif, map_tst, Option.map_some, Option.map_none, ih, hk]
def g67 (L : Nat) (a0 : (List (Int × Int))) : Option Int :=
  l67_0 L a0 L (0 : Int) (0 : Int) (fun (w0_3 : Int) => some w0_3)
theorem e67 (L : Nat) (a0 : (List (Int × Int))) : evF prog ev67 (loopN L) f67 (a67.enc a0) = (g67 L a0).map n67 := by
  let K'0 : Int → Option Int := (fun (w0_3 : Int) => some w0_3)
  have hin0 : ∀ (v0_3 : Int) (v0_4 : Int), headF prog ev67 L f67 0 [1, 1, 0, 1, 0, 0] (outK (outV prog f67) (topK prog ev67 L f67 [1, 1, 0, 1] (outV prog f67)).n (topK prog ev67 L f67 [1, 1, 0, 1] (outV prog f67)).x) L (S67_0 a0 v0_3 v0_4) = (l67_0 L a0 L v0_3 v0_4 K'0).map n67 := fun v0_3 v0_4 => h67_0 L a0 _ _ K'0 (fun w0_3 => by rw [t67_0]; simp only [K'0, map_bif, map_tst, Option.map_some, Option.map_none]) L v0_3 v0_4
  rw [i67]; simp only [g67, map_bif, map_tst, Option.map_some, Option.map_none, hin0, K'0]
theorem s67 (m : (List (Int × Int)) → Option Int) (hm : ∀ (x : (List (Int × Int))) t, m x = some t → ∃ L, g67 L x = some t) : Sat prog cxT 67 (c67 m) :=
  sat_t cxT_ok cxT_pok (by rfl) (fn := f67) rfl a67 n67 dd67 m ev67 kok_nil kwok_nil (fun L x => g67 L x) (fun L x => e67 L x) hm hs67
/-! loop.example/g00222/laws.FnExactFillTable -/
def ev6 (m23 : ((List (Int × Int)) × Int) → Option Int) (m25 : (List (Int × Int)) → Option (List (Int × Int))) (m15 : (List (Int × Int)) → Option (Int × (List Int))) (m14 : (List (Int × Int)) → Option (Int × (List Int))) (m28 : ((Int × (List Int)) × (Int × (List Int))) → Option Bool) (m27 : ((List (Int × Int)) × (List (Int × Int))) → Option Bool) (m29 : ((List (Int × Int)) × Int) → Option (Int × (List (Int × Int)))) (m30 : ((Int × (List Int)) × Int) → Option (Int × Int × (List Int))) (m31 : ((Int × (List Int)) × Int) → Option Int) : Env cxT := { Kc := kcOf [(23, c23 m23), (25, c25 m25), (15, c15 m15), (14, c14 m14), (28, c28 m28), (27, c27 m27), (31, c31 m31)], Kw := kwOf [(29, c29 m29), (30, c30 m30)], lv := fun i => [], xv := fun i => none }
theorem i6 (m23 : ((List (Int × Int)) × Int) → Option Int) (m25 : (List (Int × Int)) → Option (List (Int × Int))) (m15 : (List (Int × Int)) → Option (Int × (List Int))) (m14 : (List (Int × Int)) → Option (Int × (List Int))) (m28 : ((Int × (List Int)) × (Int × (List Int))) → Option Bool) (m27 : ((List (Int × Int)) × (List (Int × Int))) → Option Bool) (m29 : ((List (Int × Int)) × Int) → Option (Int × (List (Int × Int)))) (m30 : ((Int × (List Int)) × Int) → Option (Int × Int × (List Int))) (m31 : ((Int × (List Int)) × Int) → Option Int) (L : Nat) (a0 : (List (Int × Int))) : evF prog (ev6 m23 m25 m15 m14 m28 m27 m29 m30 m31) (loopN L) f6 (a6.enc a0) =
  tst (m23 (a0, (1048576 : Int))) (0 : Int) fun (q1 : Int) => bif (decide (q1 < (0 : Int))) then some (n6 Bool.true)
    else tst (m25 a0) [] fun (q2 : (List (Int × Int))) => tst (m15 q2) ((0 : Int), []) fun (q3 : (Int × (List Int))) => tst (m25 a0) [] fun (q4 : (List (Int × Int))) => tst (m14 q2) ((0 : Int), []) fun (q5 : (Int × (List Int))) => tst (m28 ((q5.1, q5.2), (q3.1, q3.2))) false fun (q6 : Bool) => bif (!q6) then some (n6 Bool.false)
              else tst (m25 a0) [] fun (q7 : (List (Int × Int))) => tst (m27 (q2, q2)) false fun (q8 : Bool) => bif (!q8) then some (n6 Bool.false)
                  else tst (m29 (q2, (1 : Int))) ((0 : Int), []) fun (q9 : (Int × (List (Int × Int)))) => bif (decide (q9.1 < (0 : Int))) then some (n6 Bool.false)
                    else tst (m28 ((q5.1, q5.2), (q3.1, q3.2))) false fun (q10 : Bool) => bif (!q6) then some (n6 Bool.false)
                      else tst (m30 ((q5.1, q5.2), (1 : Int))) ((0 : Int), (0 : Int), []) fun (q11 : (Int × Int × (List Int))) => tst (m31 ((q5.1, q11.2.2), (1 : Int))) (0 : Int) fun (q12 : Int) => bif (decide (q12 < (0 : Int))) then some (n6 Bool.false)
                          else bif (q12 != q11.1) then some (n6 Bool.false)
                          else tst (m25 a0) [] fun (q13 : (List (Int × Int))) => tst (m14 q2) ((0 : Int), []) fun (q14 : (Int × (List Int))) => tst (m28 ((q5.1, q5.2), (q3.1, q3.2))) false fun (q15 : Bool) => bif (!q6) then some (n6 Bool.false)
                                else tst (m31 ((q5.1, q11.2.2), (1 : Int))) (0 : Int) fun (q16 : Int) => bif (decide (q12 < (0 : Int))) then some (n6 Bool.false)
                                  else bif (q12 != q11.1) then some (n6 Bool.false)
                                  else some (n6 Bool.true) := by kernel_rfl
def g6 (m23 : ((List (Int × Int)) × Int) → Option Int) (m25 : (List (Int × Int)) → Option (List (Int × Int))) (m15 : (List (Int × Int)) → Option (Int × (List Int))) (m14 : (List (Int × Int)) → Option (Int × (List Int))) (m28 : ((Int × (List Int)) × (Int × (List Int))) → Option Bool) (m27 : ((List (Int × Int)) × (List (Int × Int))) → Option Bool) (m29 : ((List (Int × Int)) × Int) → Option (Int × (List (Int × Int)))) (m30 : ((Int × (List Int)) × Int) → Option (Int × Int × (List Int))) (m31 : ((Int × (List Int)) × Int) → Option Int) (L : Nat) (a0 : (List (Int × Int))) : Option Bool :=
  tst (m23 (a0, (1048576 : Int))) (0 : Int) fun (q1 : Int) => bif (decide (q1 < (0 : Int))) then some Bool.true
    else tst (m25 a0) [] fun (q2 : (List (Int × Int))) => tst (m15 q2) ((0 : Int), []) fun (q3 : (Int × (List Int))) => tst (m25 a0) [] fun (q4 : (List (Int × Int))) => tst (m14 q2) ((0 : Int), []) fun (q5 : (Int × (List Int))) => tst (m28 ((q5.1, q5.2), (q3.1, q3.2))) false fun (q6 : Bool) => bif (!q6) then some Bool.false
              else tst (m25 a0) [] fun (q7 : (List (Int × Int))) => tst (m27 (q2, q2)) false fun (q8 : Bool) => bif (!q8) then some Bool.false
                  else tst (m29 (q2, (1 : Int))) ((0 : Int), []) fun (q9 : (Int × (List (Int × Int)))) => bif (decide (q9.1 < (0 : Int))) then some Bool.false
                    else tst (m28 ((q5.1, q5.2), (q3.1, q3.2))) false fun (q10 : Bool) => bif (!q6) then some Bool.false
                      else tst (m30 ((q5.1, q5.2), (1 : Int))) ((0 : Int), (0 : Int), []) fun (q11 : (Int × Int × (List Int))) => tst (m31 ((q5.1, q11.2.2), (1 : Int))) (0 : Int) fun (q12 : Int) => bif (decide (q12 < (0 : Int))) then some Bool.false
                          else bif (q12 != q11.1) then some Bool.false
                          else tst (m25 a0) [] fun (q13 : (List (Int × Int))) => tst (m14 q2) ((0 : Int), []) fun (q14 : (Int × (List Int))) => tst (m28 ((q5.1, q5.2), (q3.1, q3.2))) false fun (q15 : Bool) => bif (!q6) then some Bool.false
                                else tst (m31 ((q5.1, q11.2.2), (1 : Int))) (0 : Int) fun (q16 : Int) => bif (decide (q12 < (0 : Int))) then some Bool.false
                                  else bif (q12 != q11.1) then some Bool.false
                                  else some Bool.true
theorem e6 (m23 : ((List (Int × Int)) × Int) → Option Int) (m25 : (List (Int × Int)) → Option (List (Int × Int))) (m15 : (List (Int × Int)) → Option (Int × (List Int))) (m14 : (List (Int × Int)) → Option (Int × (List Int))) (m28 : ((Int × (List Int)) × (Int × (List Int))) → Option Bool) (m27 : ((List (Int × Int)) × (List (Int × Int))) → Option Bool) (m29 : ((List (Int × Int)) × Int) → Option (Int × (List (Int × Int)))) (m30 : ((Int × (List Int)) × Int) → Option (Int × Int × (List Int))) (m31 : ((Int × (List Int)) × Int) → Option Int) (L : Nat) (a0 : (List (Int × Int))) : evF prog (ev6 m23 m25 m15 m14 m28 m27 m29 m30 m31) (loopN L) f6 (a6.enc a0) = (g6 m23 m25 m15 m14 m28 m27 m29 m30 m31 L a0).map n6 := by
  rw [i6]; simp only [g6, map_bif, map_tst, Option.map_some, Option.map_none]
theorem s6 (m23 : ((List (Int × Int)) × Int) → Option Int) (m25 : (List (Int × Int)) → Option (List (Int × Int))) (m15 : (List (Int × Int)) → Option (Int × (List Int))) (m14 : (List (Int × Int)) → Option (Int × (List Int))) (m28 : ((Int × (List Int)) × (Int × (List Int))) → Option Bool) (m27 : ((List (Int × Int)) × (List (Int × Int))) → Option Bool) (m29 : ((List (Int × Int)) × Int) → Option (Int × (List (Int × Int)))) (m30 : ((Int × (List Int)) × Int) → Option (Int × Int × (List Int))) (m31 : ((Int × (List Int)) × Int) → Option Int) (h23 : Sat prog cxT 23 (c23 m23)) (h25 : Sat prog cxT 25 (c25 m25)) (h15 : Sat prog cxT 15 (c15 m15)) (h14 : Sat prog cxT 14 (c14 m14)) (h28 : Sat prog cxT 28 (c28 m28)) (h27 : Sat prog cxT 27 (c27 m27)) (h29 : SatW prog cxT 29 (c29 m29).nres (c29 m29).n (c29 m29).F) (h30 : SatW prog cxT 30 (c30 m30).nres (c30 m30).n (c30 m30).F) (h31 : Sat prog cxT 31 (c31 m31)) (m : (List (Int × Int)) → Option Bool) (hm : ∀ (x : (List (Int × Int))) t, m x = some t → ∃ L, g6 m23 m25 m15 m14 m28 m27 m29 m30 m31 L x = some t) : Sat prog cxT 6 (c6 m) :=
  sat_t cxT_ok cxT_pok (by rfl) (fn := f6) rfl a6 n6 dd6 m (ev6 m23 m25 m15 m14 m28 m27 m29 m30 m31) (kok_cons h23 (kok_cons h25 (kok_cons h15 (kok_cons h14 (kok_cons h28 (kok_cons h27 (kok_cons h31 kok_nil))))))) (kwok_cons h29 (kwok_cons h30 kwok_nil)) (fun L x => g6 m23 m25 m15 m14 m28 m27 m29 m30 m31 L x) (fun L x => e6 m23 m25 m15 m14 m28 m27 m29 m30 m31 L x) hm hs6
end Go.Proofs.Try

set_option maxHeartbeats 0
set_option linter.unusedVariables false
set_option linter.unusedSimpArgs false
namespace Go.Proofs.Try
open Go Go.VM Go.RowKit
/-! loop.example/g00222/spec.l1Source -/
def ev44 : Env cxT := { Kc := kcOf [], Kw := kwOf [], lv := fun i => [], xv := fun i => none }
theorem i44 (L : Nat) (a0 : (List Int)) : evFN prog ev44 (loopN L) f44 (a44.enc a0) =
  some (n44 (a0, (0 : Int))) := by kernel_rfl
def g44 (L : Nat) (a0 : (List Int)) : Option ((List Int) × Int) :=
  some (a0, (0 : Int))
theorem e44 (L : Nat) (a0 : (List Int)) : evFN prog ev44 (loopN L) f44 (a44.enc a0) = (g44 L a0).map n44 := by
  rw [i44]; simp only [g44, map_bif, map_tst, Option.map_some, Option.map_none]
theorem s44 (m : (List Int) → Option ((List Int) × Int)) (hm : ∀ (x : (List Int)) t, m x = some t → ∃ L, g44 L x = some t) : SatN prog cxT 44 (c44 m).F :=
  sat_n cxT_ok cxT_pok (by rfl) (fn := f44) rfl a44 n44 dd44 m ev44 kok_nil kwok_nil (fun L x => g44 L x) (fun L x => e44 L x) hm
/-! loop.example/g00222/spec.l1Next -/
def ev52 : Env cxT := { Kc := kcOf [], Kw := kwOf [], lv := fun i => [], xv := fun i => none }
theorem i52 (L : Nat) (a0_0 : (List Int)) (a0_1 : Int) (a1 : Int) : evFP prog ev52 (loopN L) f52 (a52.enc ((a0_0, a0_1), a1)) =
  bif (decide (a1 < (1 : Int))) then some (n52 ((0 : Int), a0_0, (Go.IntKind.wrap Go.IntKind.i64 (a0_1 + (1 : Int)))))
  else bif ((Nat.cast (List.length a0_0) : Int) == (0 : Int)) then bif (a1 == (0 : Int)) then none
    else some (n52 ((Int.tmod (Go.IntKind.wrap Go.IntKind.i64 ((Go.IntKind.wrap Go.IntKind.i64 ((Go.IntKind.wrap Go.IntKind.i64 (a0_1 + (1 : Int))) - (1 : Int))) * (7 : Int))) a1), a0_0, (Go.IntKind.wrap Go.IntKind.i64 (a0_1 + (1 : Int)))))
  else bif ((Nat.cast (List.length a0_0) : Int) == (0 : Int)) then none
  else bif ((decide ((0 : Int) ≤ (Int.tmod (Go.IntKind.wrap Go.IntKind.i64 ((Go.IntKind.wrap Go.IntKind.i64 (a0_1 + (1 : Int))) - (1 : Int))) (Nat.cast (List.length a0_0) : Int)))) && (decide ((Int.tmod (Go.IntKind.wrap Go.IntKind.i64 ((Go.IntKind.wrap Go.IntKind.i64 (a0_1 + (1 : Int))) - (1 : Int))) (Nat.cast (List.length a0_0) : Int)) < (Nat.cast (List.length a0_0) : Int)))) then bif ((Nat.cast (List.length a0_0) : Int) == (0 : Int)) then none
    else bif (decide (a1 > (200 : Int))) then bif ((Nat.cast (List.length a0_0) : Int) == (0 : Int)) then none
      else bif ((decide ((0 : Int) ≤ (Int.tmod (Go.IntKind.wrap Go.IntKind.i64 ((Go.IntKind.wrap Go.IntKind.i64 ((Go.IntKind.wrap Go.IntKind.i64 (a0_1 + (1 : Int))) - (1 : Int))) + (1 : Int))) (Nat.cast (List.length a0_0) : Int)))) && (decide ((Int.tmod (Go.IntKind.wrap Go.IntKind.i64 ((Go.IntKind.wrap Go.IntKind.i64 ((Go.IntKind.wrap Go.IntKind.i64 (a0_1 + (1 : Int))) - (1 : Int))) + (1 : Int))) (Nat.cast (List.length a0_0) : Int)) < (Nat.cast (List.length a0_0) : Int)))) then bif (a1 == (0 : Int)) then none
        else some (n52 ((Int.tmod (Go.IntKind.wrap Go.IntKind.i64 ((Go.IntKind.wrap Go.IntKind.i64 ((Go.IntKind.wrap Go.IntKind.i64 ((Go.IntKind.wrap Go.IntKind.i64 ((Go.IntKind.wrap Go.IntKind.i64 (List.getD a0_0 (Int.toNat (Int.tmod (Go.IntKind.wrap Go.IntKind.i64 ((Go.IntKind.wrap Go.IntKind.i64 (a0_1 + (1 : Int))) - (1 : Int))) (Nat.cast (List.length a0_0) : Int))) (0 : Int))) + (Go.IntKind.wrap Go.IntKind.i64 ((Go.IntKind.wrap Go.IntKind.i64 (Int.tdiv (Go.IntKind.wrap Go.IntKind.i64 ((Go.IntKind.wrap Go.IntKind.i64 (a0_1 + (1 : Int))) - (1 : Int))) (Nat.cast (List.length a0_0) : Int))) * (37 : Int))))) * (251 : Int))) + (Go.IntKind.wrap Go.IntKind.i64 ((Go.IntKind.wrap Go.IntKind.i64 (List.getD a0_0 (Int.toNat (Int.tmod (Go.IntKind.wrap Go.IntKind.i64 ((Go.IntKind.wrap Go.IntKind.i64 ((Go.IntKind.wrap Go.IntKind.i64 (a0_1 + (1 : Int))) - (1 : Int))) + (1 : Int))) (Nat.cast (List.length a0_0) : Int))) (0 : Int))) * (13 : Int))))) + (Go.IntKind.wrap Go.IntKind.i64 ((Go.IntKind.wrap Go.IntKind.i64 (a0_1 + (1 : Int))) - (1 : Int))))) a1), a0_0, (Go.IntKind.wrap Go.IntKind.i64 (a0_1 + (1 : Int)))))
      else none
    else bif (a1 == (0 : Int)) then none
    else some (n52 ((Int.tmod (Go.IntKind.wrap Go.IntKind.i64 ((Go.IntKind.wrap Go.IntKind.i64 (List.getD a0_0 (Int.toNat (Int.tmod (Go.IntKind.wrap Go.IntKind.i64 ((Go.IntKind.wrap Go.IntKind.i64 (a0_1 + (1 : Int))) - (1 : Int))) (Nat.cast (List.length a0_0) : Int))) (0 : Int))) + (Go.IntKind.wrap Go.IntKind.i64 ((Go.IntKind.wrap Go.IntKind.i64 (Int.tdiv (Go.IntKind.wrap Go.IntKind.i64 ((Go.IntKind.wrap Go.IntKind.i64 (a0_1 + (1 : Int))) - (1 : Int))) (Nat.cast (List.length a0_0) : Int))) * (37 : Int))))) a1), a0_0, (Go.IntKind.wrap Go.IntKind.i64 (a0_1 + (1 : Int)))))
  else none := by kernel_rfl
def g52 (L : Nat) (a0_0 : (List Int)) (a0_1 : Int) (a1 : Int) : Option (Int × (List Int) × Int) :=
  bif (decide (a1 < (1 : Int))) then some ((0 : Int), a0_0, (Go.IntKind.wrap Go.IntKind.i64 (a0_1 + (1 : Int))))
  else bif ((Nat.cast (List.length a0_0) : Int) == (0 : Int)) then bif (a1 == (0 : Int)) then none
    else some ((Int.tmod (Go.IntKind.wrap Go.IntKind.i64 ((Go.IntKind.wrap Go.IntKind.i64 ((Go.IntKind.wrap Go.IntKind.i64 (a0_1 + (1 : Int))) - (1 : Int))) * (7 : Int))) a1), a0_0, (Go.IntKind.wrap Go.IntKind.i64 (a0_1 + (1 : Int))))
  else bif ((Nat.cast (List.length a0_0) : Int) == (0 : Int)) then none
  else bif ((decide ((0 : Int) ≤ (Int.tmod (Go.IntKind.wrap Go.IntKind.i64 ((Go.IntKind.wrap Go.IntKind.i64 (a0_1 + (1 : Int))) - (1 : Int))) (Nat.cast (List.length a0_0) : Int)))) && (decide ((Int.tmod (Go.IntKind.wrap Go.IntKind.i64 ((Go.IntKind.wrap Go.IntKind.i64 (a0_1 + (1 : Int))) - (1 : Int))) (Nat.cast (List.length a0_0) : Int)) < (Nat.cast (List.length a0_0) : Int)))) then bif ((Nat.cast (List.length a0_0) : Int) == (0 : Int)) then none
    else bif (decide (a1 > (200 : Int))) then bif ((Nat.cast (List.length a0_0) : Int) == (0 : Int)) then none
      else bif ((decide ((0 : Int) ≤ (Int.tmod (Go.IntKind.wrap Go.IntKind.i64 ((Go.IntKind.wrap Go.IntKind.i64 ((Go.IntKind.wrap Go.IntKind.i64 (a0_1 + (1 : Int))) - (1 : Int))) + (1 : Int))) (Nat.cast (List.length a0_0) : Int)))) && (decide ((Int.tmod (Go.IntKind.wrap Go.IntKind.i64 ((Go.IntKind.wrap Go.IntKind.i64 ((Go.IntKind.wrap Go.IntKind.i64 (a0_1 + (1 : Int))) - (1 : Int))) + (1 : Int))) (Nat.cast (List.length a0_0) : Int)) < (Nat.cast (List.length a0_0) : Int)))) then bif (a1 == (0 : Int)) then none
        else some ((Int.tmod (Go.IntKind.wrap Go.IntKind.i64 ((Go.IntKind.wrap Go.IntKind.i64 ((Go.IntKind.wrap Go.IntKind.i64 ((Go.IntKind.wrap Go.IntKind.i64 ((Go.IntKind.wrap Go.IntKind.i64 (List.getD a0_0 (Int.toNat (Int.tmod (Go.IntKind.wrap Go.IntKind.i64 ((Go.IntKind.wrap Go.IntKind.i64 (a0_1 + (1 : Int))) - (1 : Int))) (Nat.cast (List.length a0_0) : Int))) (0 : Int))) + (Go.IntKind.wrap Go.IntKind.i64 ((Go.IntKind.wrap Go.IntKind.i64 (Int.tdiv (Go.IntKind.wrap Go.IntKind.i64 ((Go.IntKind.wrap Go.IntKind.i64 (a0_1 + (1 : Int))) - (1 : Int))) (Nat.cast (List.length a0_0) : Int))) * (37 : Int))))) * (251 : Int))) + (Go.IntKind.wrap Go.IntKind.i64 ((Go.IntKind.wrap Go.IntKind.i64 (List.getD a0_0 (Int.toNat (Int.tmod (Go.IntKind.wrap Go.IntKind.i64 ((Go.IntKind.wrap Go.IntKind.i64 ((Go.IntKind.wrap Go.IntKind.i64 (a0_1 + (1 : Int))) - (1 : Int))) + (1 : Int))) (Nat.cast (List.length a0_0) : Int))) (0 : Int))) * (13 : Int))))) + (Go.IntKind.wrap Go.IntKind.i64 ((Go.IntKind.wrap Go.IntKind.i64 (a0_1 + (1 : Int))) - (1 : Int))))) a1), a0_0, (Go.IntKind.wrap Go.IntKind.i64 (a0_1 + (1 : Int))))
      else none
    else bif (a1 == (0 : Int)) then none
    else some ((Int.tmod (Go.IntKind.wrap Go.IntKind.i64 ((Go.IntKind.wrap Go.IntKind.i64 (List.getD a0_0 (Int.toNat (Int.tmod (Go.IntKind.wrap Go.IntKind.i64 ((Go.IntKind.wrap Go.IntKind.i64 (a0_1 + (1 : Int))) - (1 : Int))) (Nat.cast (List.length a0_0) : Int))) (0 : Int))) + (Go.IntKind.wrap Go.IntKind.i64 ((Go.IntKind.wrap Go.IntKind.i64 (Int.tdiv (Go.IntKind.wrap Go.IntKind.i64 ((Go.IntKind.wrap Go.IntKind.i64 (a0_1 + (1 : Int))) - (1 : Int))) (Nat.cast (List.length a0_0) : Int))) * (37 : Int))))) a1), a0_0, (Go.IntKind.wrap Go.IntKind.i64 (a0_1 + (1 : Int))))
  else none
theorem e52 (L : Nat) (a0_0 : (List Int)) (a0_1 : Int) (a1 : Int) : evFP prog ev52 (loopN L) f52 (a52.enc ((a0_0, a0_1), a1)) = (g52 L a0_0 a0_1 a1).map n52 := by
  rw [i52]; simp only [g52, map_bif, map_tst, Option.map_some, Option.map_none]
theorem s52 (m : (((List Int) × Int) × Int) → Option (Int × (List Int) × Int)) (hm : ∀ (x : (((List Int) × Int) × Int)) t, m x = some t → ∃ L, g52 L x.1.1 x.1.2 x.2 = some t) : SatP prog cxT 52 (c52 m).nres (c52 m).F :=
  sat_p cxT_ok cxT_pok (by rfl) (fn := f52) rfl rfl a52 n52 dd52 m ev52 kok_nil kwok_nil (fun L x => g52 L x.1.1 x.1.2 x.2) (fun L x => e52 L x.1.1 x.1.2 x.2) hm
/-! loop.example/g00222/spec.l1Pick -/
def ev65 (m52 : (((List Int) × Int) × Int) → Option (Int × (List Int) × Int)) : Env cxT := { Kc := kcOf [], Kw := kwOf [(52, c52 m52)], lv := fun i => [], xv := fun i => none }
theorem i65 (m52 : (((List Int) × Int) × Int) → Option (Int × (List Int) × Int)) (L : Nat) (a0_0 : (List Int)) (a0_1 : Int) (a1 : (List Int)) : evFP prog (ev65 m52) (loopN L) f65 (a65.enc ((a0_0, a0_1), a1)) =
  tst (m52 ((a0_0, a0_1), (Nat.cast (List.length a1) : Int))) ((0 : Int), [], (0 : Int)) fun (q1 : (Int × (List Int) × Int)) => bif ((decide ((0 : Int) ≤ q1.1)) && (decide (q1.1 < (Nat.cast (List.length a1) : Int)))) then some (n65 ((List.getD a1 (Int.toNat q1.1) (0 : Int)), q1.2.1, q1.2.2))
    else none := by kernel_rfl
def g65 (m52 : (((List Int) × Int) × Int) → Option (Int × (List Int) × Int)) (L : Nat) (a0_0 : (List Int)) (a0_1 : Int) (a1 : (List Int)) : Option (Int × (List Int) × Int) :=
  tst (m52 ((a0_0, a0_1), (Nat.cast (List.length a1) : Int))) ((0 : Int), [], (0 : Int)) fun (q1 : (Int × (List Int) × Int)) => bif ((decide ((0 : Int) ≤ q1.1)) && (decide (q1.1 < (Nat.cast (List.length a1) : Int)))) then some ((List.getD a1 (Int.toNat q1.1) (0 : Int)), q1.2.1, q1.2.2)
    else none
theorem e65 (m52 : (((List Int) × Int) × Int) → Option (Int × (List Int) × Int)) (L : Nat) (a0_0 : (List Int)) (a0_1 : Int) (a1 : (List Int)) : evFP prog (ev65 m52) (loopN L) f65 (a65.enc ((a0_0, a0_1), a1)) = (g65 m52 L a0_0 a0_1 a1).map n65 := by
  rw [i65]; simp only [g65, map_bif, map_tst, Option.map_some, Option.map_none]
theorem s65 (m52 : (((List Int) × Int) × Int) → Option (Int × (List Int) × Int)) (h52 : SatP prog cxT 52 (c52 m52).nres (c52 m52).F) (m : (((List Int) × Int) × (List Int)) → Option (Int × (List Int) × Int)) (hm : ∀ (x : (((List Int) × Int) × (List Int))) t, m x = some t → ∃ L, g65 m52 L x.1.1 x.1.2 x.2 = some t) : SatP prog cxT 65 (c65 m).nres (c65 m).F :=
  sat_p cxT_ok cxT_pok (by rfl) (fn := f65) rfl rfl a65 n65 dd65 m (ev65 m52) kok_nil (kwok_cons h52 kwok_nil) (fun L x => g65 m52 L x.1.1 x.1.2 x.2) (fun L x => e65 m52 L x.1.1 x.1.2 x.2) hm
/-! loop.example/g00222/spec.l4Shares -/
def ev64 (m65 : (((List Int) × Int) × (List Int)) → Option (Int × (List Int) × Int)) (m52 : (((List Int) × Int) × Int) → Option (Int × (List Int) × Int)) : Env cxT := { Kc := kcOf [], Kw := kwOf [(65, c65 m65), (52, c52 m52)], lv := fun i => if i = 0 then [(0, [some 5, none]), (3, [some 31]), (4, []), (5, [])] else [], xv := fun i => if i = 0 then some [(0, [some 5, none]), (3, [some 31])] else none }
def S64_0 (a0_0 : (List Int)) (a0_1 : Int) (v0_0_0 : (List Int)) (v0_0_1 : Int) (v0_3 : (List (Int × Int))) (v0_4 : Int) (v0_5 : Int) : St cxT.ty := { slots := [(.inr (.inr { kind := 0, nm := 0, cells := [(ls { own := 0, nm := 0, e := 5, o := false, xs := v0_0_0 }), (lv (.int .i64 v0_0_1))], s := { own := 0, nm := 0, e := 0, o := false, xs := ([] : List (PUnit)) }, i := 0, off := 0 })), junk, junk, (.inl (.inl (ls { own := 1, nm := 192, e := 31, o := true, xs := v0_3 }))), (.inl (.inl (lv (.int .i64 v0_4)))), (.inl (.inl (lv (.int .i64 v0_5))))] ++ List.replicate 22 junk, D := [], F := [], ctr := 1, lo := 1 }
def X64_0 (a0_0 : (List Int)) (a0_1 : Int) (w0_0_0 : (List Int)) (w0_0_1 : Int) (w0_3 : (List (Int × Int))) : St cxT.ty := { slots := [(.inr (.inr { kind := 0, nm := 0, cells := [(ls { own := 0, nm := 0, e := 5, o := false, xs := w0_0_0 }), (lv (.int .i64 w0_0_1))], s := { own := 0, nm := 0, e := 0, o := false, xs := ([] : List (PUnit)) }, i := 0, off := 0 })), junk, junk, (.inl (.inl (ls { own := 1, nm := 192, e := 31, o := true, xs := w0_3 })))] ++ List.replicate 24 junk, D := [], F := [], ctr := 1, lo := 1 }
theorem i64 (m65 : (((List Int) × Int) × (List Int)) → Option (Int × (List Int) × Int)) (m52 : (((List Int) × Int) × Int) → Option (Int × (List Int) × Int)) (L : Nat) (a0_0 : (List Int)) (a0_1 : Int) : evFP prog (ev64 m65 m52) (loopN L) f64 (a64.enc (a0_0, a0_1)) =
  tst (m65 ((a0_0, a0_1), (List.cons (1 : Int) (List.cons (2 : Int) (List.cons (3 : Int) (List.cons (4 : Int) (List.cons (5 : Int) (List.cons (8 : Int) (List.cons (0 : Int) ([] : List (Int))))))))))) ((0 : Int), [], (0 : Int)) fun (q1 : (Int × (List Int) × Int)) => headF prog (ev64 m65 m52) L f64 0 [1, 1, 1, 0, 1, 0, 0] (outK (outP prog f64) (topK prog (ev64 m65 m52) L f64 [1, 1, 1, 0, 1] (outP prog f64)).n (topK prog (ev64 m65 m52) L f64 [1, 1, 1, 0, 1] (outP prog f64)).x) L (S64_0 a0_0 a0_1 q1.2.1 q1.2.2 ([] : List (Int × Int)) (0 : Int) q1.1) := by kernel_rfl
theorem r64_0 (m65 : (((List Int) × Int) × (List Int)) → Option (Int × (List Int) × Int)) (m52 : (((List Int) × Int) × Int) → Option (Int × (List Int) × Int)) (L : Nat) (a0_0 : (List Int)) (a0_1 : Int) (k : St cxT.ty → Option (List (A cxT.ty))) (xk : Nat → St cxT.ty → Option (List (A cxT.ty))) (g : St cxT.ty → Option (List (A cxT.ty))) (v0_0_0 : (List Int)) (v0_0_1 : Int) (v0_3 : (List (Int × Int))) (v0_4 : Int) (v0_5 : Int) : roundF prog (ev64 m65 m52) L f64 0 [1, 1, 1, 0, 1, 0, 0] (outK (outP prog f64) k xk) g (S64_0 a0_0 a0_1 v0_0_0 v0_0_1 v0_3 v0_4 v0_5) =
  bif (decide (v0_5 > (0 : Int))) then tst (m52 ((v0_0_0, v0_0_1), (60 : Int))) ((0 : Int), [], (0 : Int)) fun (q2 : (Int × (List Int) × Int)) => tst (m65 ((q2.2.1, q2.2.2), (List.cons (1 : Int) (List.cons (1 : Int) (List.cons (1 : Int) (List.cons (2 : Int) (List.cons (3 : Int) (List.cons (0 : Int) (List.cons (9 : Int) ([] : List (Int))))))))))) ((0 : Int), [], (0 : Int)) fun (q3 : (Int × (List Int) × Int)) => bif (decide (((List.length v0_3) + (List.length (List.cons ((Go.IntKind.wrap Go.IntKind.i64 ((Go.IntKind.wrap Go.IntKind.i64 (v0_4 + (1 : Int))) + q2.1)), q3.1) ([] : List (Int × Int))))) ≤ (1000000000 : Nat))) then g (S64_0 a0_0 a0_1 q3.2.1 q3.2.2 (v0_3 ++ (List.cons ((Go.IntKind.wrap Go.IntKind.i64 ((Go.IntKind.wrap Go.IntKind.i64 (v0_4 + (1 : Int))) + q2.1)), q3.1) ([] : List (Int × Int)))) (Go.IntKind.wrap Go.IntKind.i64 ((Go.IntKind.wrap Go.IntKind.i64 (v0_4 + (1 : Int))) + q2.1)) (Go.IntKind.wrap Go.IntKind.i64 (v0_5 - (1 : Int))))
        else none
  else k (X64_0 a0_0 a0_1 v0_0_0 v0_0_1 v0_3) := by kernel_rfl
theorem t64_0 (m65 : (((List Int) × Int) × (List Int)) → Option (Int × (List Int) × Int)) (m52 : (((List Int) × Int) × Int) → Option (Int × (List Int) × Int)) (L : Nat) (a0_0 : (List Int)) (a0_1 : Int) (w0_0_0 : (List Int)) (w0_0_1 : Int) (w0_3 : (List (Int × Int))) : (topK prog (ev64 m65 m52) L f64 [1, 1, 1, 0, 1] (outP prog f64)).n (X64_0 a0_0 a0_1 w0_0_0 w0_0_1 w0_3) =
  some (n64 (w0_3, w0_0_0, w0_0_1)) := by kernel_rfl
def l64_0 (m65 : (((List Int) × Int) × (List Int)) → Option (Int × (List Int) × Int)) (m52 : (((List Int) × Int) × Int) → Option (Int × (List Int) × Int)) (L : Nat) (a0_0 : (List Int)) (a0_1 : Int) : Nat → (List Int) → Int → (List (Int × Int)) → Int → Int → ((List Int) → Int → (List (Int × Int)) → Option ((List (Int × Int)) × (List Int) × Int)) → Option ((List (Int × Int)) × (List Int) × Int)
  | 0, _, _, _, _, _, _ => none
  | n + 1, v0_0_0, v0_0_1, v0_3, v0_4, v0_5, k =>
    bif (decide (v0_5 > (0 : Int))) then tst (m52 ((v0_0_0, v0_0_1), (60 : Int))) ((0 : Int), [], (0 : Int)) fun (q3 : (Int × (List Int) × Int)) => tst (m65 ((q3.2.1, q3.2.2), (List.cons (1 : Int) (List.cons (1 : Int) (List.cons (1 : Int) (List.cons (2 : Int) (List.cons (3 : Int) (List.cons (0 : Int) (List.cons (9 : Int) ([] : List (Int))))))))))) ((0 : Int), [], (0 : Int)) fun (q4 : (Int × (List Int) × Int)) => bif (decide (((List.length v0_3) + (List.length (List.cons ((Go.IntKind.wrap Go.IntKind.i64 ((Go.IntKind.wrap Go.IntKind.i64 (v0_4 + (1 : Int))) + q3.1)), q4.1) ([] : List (Int × Int))))) ≤ (1000000000 : Nat))) then l64_0 m65 m52 L a0_0 a0_1 n q4.2.1 q4.2.2 (v0_3 ++ (List.cons ((Go.IntKind.wrap Go.IntKind.i64 ((Go.IntKind.wrap Go.IntKind.i64 (v0_4 + (1 : Int))) + q3.1)), q4.1) ([] : List (Int × Int)))) (Go.IntKind.wrap Go.IntKind.i64 ((Go.IntKind.wrap Go.IntKind.i64 (v0_4 + (1 : Int))) + q3.1)) (Go.IntKind.wrap Go.IntKind.i64 (v0_5 - (1 : Int))) k
          else none
    else k v0_0_0 v0_0_1 v0_3
theorem h64_0 (m65 : (((List Int) × Int) × (List Int)) → Option (Int × (List Int) × Int)) (m52 : (((List Int) × Int) × Int) → Option (Int × (List Int) × Int)) (L : Nat) (a0_0 : (List Int)) (a0_1 : Int) (k : St cxT.ty → Option (List (A cxT.ty))) (xk : Nat → St cxT.ty → Option (List (A cxT.ty))) (k' : (List Int) → Int → (List (Int × Int)) → Option ((List (Int × Int)) × (List Int) × Int)) (hk : ∀ (w0_0_0 : (List Int)) (w0_0_1 : Int) (w0_3 : (List (Int × Int))), k (X64_0 a0_0 a0_1 w0_0_0 w0_0_1 w0_3) = (k' w0_0_0 w0_0_1 w0_3).map n64) : ∀ (n : Nat) (v0_0_0 : (List Int)) (v0_0_1 : Int) (v0_3 : (List (Int × Int))) (v0_4 : Int) (v0_5 : Int), headF prog (ev64 m65 m52) L f64 0 [1, 1, 1, 0, 1, 0, 0] (outK (outP prog f64) k xk) n (S64_0 a0_0 a0_1 v0_0_0 v0_0_1 v0_3 v0_4 v0_5) = (l64_0 m65 m52 L a0_0 a0_1 n v0_0_0 v0_0_1 v0_3 v0_4 v0_5 k').map n64
  | 0, _, _, _, _, _ => rfl
  | n + 1, v0_0_0, v0_0_1, v0_3, v0_4, v0_5 => by
    rw [headF_round, r64_0]
    have ih := h64_0 m65 m52 L a0_0 a0_1 k xk k' hk n
    simp only [l64_0, map_bif, map_tst, Option.map_some, Option.map_none, ih, hk]
def g64 (m65 : (((List Int) × Int) × (List Int)) → Option (Int × (List Int) × Int)) (m52 : (((List Int) × Int) × Int) → Option (Int × (List Int) × Int)) (L : Nat) (a0_0 : (List Int)) (a0_1 : Int) : Option ((List (Int × Int)) × (List Int) × Int) :=
  tst (m65 ((a0_0, a0_1), (List.cons (1 : Int) (List.cons (2 : Int) (List.cons (3 : Int) (List.cons (4 : Int) (List.cons (5 : Int) (List.cons (8 : Int) (List.cons (0 : Int) ([] : List (Int))))))))))) ((0 : Int), [], (0 : Int)) fun (q1 : (Int × (List Int) × Int)) => l64_0 m65 m52 L a0_0 a0_1 L q1.2.1 q1.2.2 ([] : List (Int × Int)) (0 : Int) q1.1 (fun (w0_0_0 : (List Int)) (w0_0_1 : Int) (w0_3 : (List (Int × Int))) => some (w0_3, w0_0_0, w0_0_1))
theorem e64 (m65 : (((List Int) × Int) × (List Int)) → Option (Int × (List Int) × Int)) (m52 : (((List Int) × Int) × Int) → Option (Int × (List Int) × Int)) (L : Nat) (a0_0 : (List Int)) (a0_1 : Int) : evFP prog (ev64 m65 m52) (loopN L) f64 (a64.enc (a0_0, a0_1)) = (g64 m65 m52 L a0_0 a0_1).map n64 := by
  let K'0 : (List Int) → Int → (List (Int × Int)) → Option ((List (Int × Int)) × (List Int) × Int) := (fun (w0_0_0 : (List Int)) (w0_0_1 : Int) (w0_3 : (List (Int × Int))) => some (w0_3, w0_0_0, w0_0_1))
  have hin0 : ∀ (v0_0_0 : (List Int)) (v0_0_1 : Int) (v0_3 : (List (Int × Int))) (v0_4 : Int) (v0_5 : Int), headF prog (ev64 m65 m52) L f64 0 [1, 1, 1, 0, 1, 0, 0] (outK (outP prog f64) (topK prog (ev64 m65 m52) L f64 [1, 1, 1, 0, 1] (outP prog f64)).n (topK prog (ev64 m65 m52) L f64 [1, 1, 1, 0, 1] (outP prog f64)).x) L (S64_0 a0_0 a0_1 v0_0_0 v0_0_1 v0_3 v0_4 v0_5) = (l64_0 m65 m52 L a0_0 a0_1 L v0_0_0 v0_0_1 v0_3 v0_4 v0_5 K'0).map n64 := fun v0_0_0 v0_0_1 v0_3 v0_4 v0_5 => h64_0 m65 m52 L a0_0 a0_1 _ _ K'0 (fun w0_0_0 w0_0_1 w0_3 => by rw [t64_0]; simp only [K'0, map_bif, map_tst, Option.map_some, Option.map_none]) L v0_0_0 v0_0_1 v0_3 v0_4 v0_5
  rw [i64]; simp only [g64, map_bif, map_tst, Option.map_some, Option.map_none, hin0, K'0]
theorem s64 (m65 : (((List Int) × Int) × (List Int)) → Option (Int × (List Int) × Int)) (m52 : (((List Int) × Int) × Int) → Option (Int × (List Int) × Int)) (h65 : SatP prog cxT 65 (c65 m65).nres (c65 m65).F) (h52 : SatP prog cxT 52 (c52 m52).nres (c52 m52).F) (m : ((List Int) × Int) → Option ((List (Int × Int)) × (List Int) × Int)) (hm : ∀ (x : ((List Int) × Int)) t, m x = some t → ∃ L, g64 m65 m52 L x.1 x.2 = some t) : SatP prog cxT 64 (c64 m).nres (c64 m).F :=
  sat_p cxT_ok cxT_pok (by rfl) (fn := f64) rfl rfl a64 n64 dd64 m (ev64 m65 m52) kok_nil (kwok_cons h65 (kwok_cons h52 kwok_nil)) (fun L x => g64 m65 m52 L x.1 x.2) (fun L x => e64 m65 m52 L x.1 x.2) hm
/-! loop.example/g00222/spec.l4Bent -/
def ev43 (m64 : ((List Int) × Int) → Option ((List (Int × Int)) × (List Int) × Int)) (m52 : (((List Int) × Int) × Int) → Option (Int × (List Int) × Int)) (m65 : (((List Int) × Int) × (List Int)) → Option (Int × (List Int) × Int)) : Env cxT := { Kc := kcOf [], Kw := kwOf [(64, c64 m64), (52, c52 m52), (65, c65 m65)], lv := fun i => [], xv := fun i => none }
theorem i43 (m64 : ((List Int) × Int) → Option ((List (Int × Int)) × (List Int) × Int)) (m52 : (((List Int) × Int) × Int) → Option (Int × (List Int) × Int)) (m65 : (((List Int) × Int) × (List Int)) → Option (Int × (List Int) × Int)) (L : Nat) (a0_0 : (List Int)) (a0_1 : Int) : evFP prog (ev43 m64 m52 m65) (loopN L) f43 (a43.enc (a0_0, a0_1)) =
  tst (m64 (a0_0, a0_1)) ([], [], (0 : Int)) fun (q1 : ((List (Int × Int)) × (List Int) × Int)) => bif ((Nat.cast (List.length q1.1) : Int) == (0 : Int)) then some (n43 (q1.1, q1.2.1, q1.2.2))
    else tst (m52 ((q1.2.1, q1.2.2), (Nat.cast (List.length q1.1) : Int))) ((0 : Int), [], (0 : Int)) fun (q2 : (Int × (List Int) × Int)) => tst (m52 ((q2.2.1, q2.2.2), (16 : Int))) ((0 : Int), [], (0 : Int)) fun (q3 : (Int × (List Int) × Int)) => bif (q3.1 == (0 : Int)) then tst (m65 ((q3.2.1, q3.2.2), (List.cons (0 : Int) (List.cons (1000 : Int) (List.cons (999 : Int) (List.cons (1 : Int) ([] : List (Int)))))))) ((0 : Int), [], (0 : Int)) fun (q5 : (Int × (List Int) × Int)) => bif ((decide ((0 : Int) ≤ q2.1)) && (decide (q2.1 < (Nat.cast (List.length q1.1) : Int)))) then some (n43 ((List.set q1.1 (Int.toNat q2.1) (q5.1, (List.getD q1.1 (Int.toNat q2.1) ((0 : Int), (0 : Int))).2)), q5.2.1, q5.2.2))
            else none
        else bif (q3.1 == (1 : Int)) then tst (m65 ((q3.2.1, q3.2.2), (List.cons (-(1 : Int)) (List.cons (10 : Int) (List.cons (9 : Int) ([] : List (Int))))))) ((0 : Int), [], (0 : Int)) fun (q5 : (Int × (List Int) × Int)) => bif ((decide ((0 : Int) ≤ q2.1)) && (decide (q2.1 < (Nat.cast (List.length q1.1) : Int)))) then some (n43 ((List.set q1.1 (Int.toNat q2.1) ((List.getD q1.1 (Int.toNat q2.1) ((0 : Int), (0 : Int))).1, q5.1)), q5.2.1, q5.2.2))
            else none
        else bif (q3.1 == (2 : Int)) then some (n43 ((List.replicate (Int.toNat (9 : Int)) ((0 : Int), (0 : Int))), q3.2.1, q3.2.2))
        else some (n43 (q1.1, q3.2.1, q3.2.2)) := by kernel_rfl
def g43 (m64 : ((List Int) × Int) → Option ((List (Int × Int)) × (List Int) × Int)) (m52 : (((List Int) × Int) × Int) → Option (Int × (List Int) × Int)) (m65 : (((List Int) × Int) × (List Int)) → Option (Int × (List Int) × Int)) (L : Nat) (a0_0 : (List Int)) (a0_1 : Int) : Option ((List (Int × Int)) × (List Int) × Int) :=
  tst (m64 (a0_0, a0_1)) ([], [], (0 : Int)) fun (q1 : ((List (Int × Int)) × (List Int) × Int)) => bif ((Nat.cast (List.length q1.1) : Int) == (0 : Int)) then some (q1.1, q1.2.1, q1.2.2)
    else tst (m52 ((q1.2.1, q1.2.2), (Nat.cast (List.length q1.1) : Int))) ((0 : Int), [], (0 : Int)) fun (q2 : (Int × (List Int) × Int)) => tst (m52 ((q2.2.1, q2.2.2), (16 : Int))) ((0 : Int), [], (0 : Int)) fun (q3 : (Int × (List Int) × Int)) => bif (q3.1 == (0 : Int)) then tst (m65 ((q3.2.1, q3.2.2), (List.cons (0 : Int) (List.cons (1000 : Int) (List.cons (999 : Int) (List.cons (1 : Int) ([] : List (Int)))))))) ((0 : Int), [], (0 : Int)) fun (q5 : (Int × (List Int) × Int)) => bif ((decide ((0 : Int) ≤ q2.1)) && (decide (q2.1 < (Nat.cast (List.length q1.1) : Int)))) then some ((List.set q1.1 (Int.toNat q2.1) (q5.1, (List.getD q1.1 (Int.toNat q2.1) ((0 : Int), (0 : Int))).2)), q5.2.1, q5.2.2)
            else none
        else bif (q3.1 == (1 : Int)) then tst (m65 ((q3.2.1, q3.2.2), (List.cons (-(1 : Int)) (List.cons (10 : Int) (List.cons (9 : Int) ([] : List (Int))))))) ((0 : Int), [], (0 : Int)) fun (q5 : (Int × (List Int) × Int)) => bif ((decide ((0 : Int) ≤ q2.1)) && (decide (q2.1 < (Nat.cast (List.length q1.1) : Int)))) then some ((List.set q1.1 (Int.toNat q2.1) ((List.getD q1.1 (Int.toNat q2.1) ((0 : Int), (0 : Int))).1, q5.1)), q5.2.1, q5.2.2)
            else none
        else bif (q3.1 == (2 : Int)) then some ((List.replicate (Int.toNat (9 : Int)) ((0 : Int), (0 : Int))), q3.2.1, q3.2.2)
        else some (q1.1, q3.2.1, q3.2.2)
theorem e43 (m64 : ((List Int) × Int) → Option ((List (Int × Int)) × (List Int) × Int)) (m52 : (((List Int) × Int) × Int) → Option (Int × (List Int) × Int)) (m65 : (((List Int) × Int) × (List Int)) → Option (Int × (List Int) × Int)) (L : Nat) (a0_0 : (List Int)) (a0_1 : Int) : evFP prog (ev43 m64 m52 m65) (loopN L) f43 (a43.enc (a0_0, a0_1)) = (g43 m64 m52 m65 L a0_0 a0_1).map n43 := by
  rw [i43]; simp only [g43, map_bif, map_tst, Option.map_some, Option.map_none]
theorem s43 (m64 : ((List Int) × Int) → Option ((List (Int × Int)) × (List Int) × Int)) (m52 : (((List Int) × Int) × Int) → Option (Int × (List Int) × Int)) (m65 : (((List Int) × Int) × (List Int)) → Option (Int × (List Int) × Int)) (h64 : SatP prog cxT 64 (c64 m64).nres (c64 m64).F) (h52 : SatP prog cxT 52 (c52 m52).nres (c52 m52).F) (h65 : SatP prog cxT 65 (c65 m65).nres (c65 m65).F) (m : ((List Int) × Int) → Option ((List (Int × Int)) × (List Int) × Int)) (hm : ∀ (x : ((List Int) × Int)) t, m x = some t → ∃ L, g43 m64 m52 m65 L x.1 x.2 = some t) : SatP prog cxT 43 (c43 m).nres (c43 m).F :=
  sat_p cxT_ok cxT_pok (by rfl) (fn := f43) rfl rfl a43 n43 dd43 m (ev43 m64 m52 m65) kok_nil (kwok_cons h64 (kwok_cons h52 (kwok_cons h65 kwok_nil))) (fun L x => g43 m64 m52 m65 L x.1 x.2) (fun L x => e43 m64 m52 m65 L x.1 x.2) hm
/-! loop.example/g00222/spec.DrawFillTable -/
def ev13 (m44 : (List Int) → Option ((List Int) × Int)) (m43 : ((List Int) × Int) → Option ((List (Int × Int)) × (List Int) × Int)) : Env cxT := { Kc := kcOf [], Kw := kwOf [(44, c44 m44), (43, c43 m43)], lv := fun i => [], xv := fun i => none }
theorem i13 (m44 : (List Int) → Option ((List Int) × Int)) (m43 : ((List Int) × Int) → Option ((List (Int × Int)) × (List Int) × Int)) (L : Nat) (a0 : (List Int)) : evF prog (ev13 m44 m43) (loopN L) f13 (a13.enc a0) =
  tst (m44 a0) ([], (0 : Int)) fun (q1 : ((List Int) × Int)) => tst (m43 (q1.1, q1.2)) ([], [], (0 : Int)) fun (q2 : ((List (Int × Int)) × (List Int) × Int)) => some (n13 q2.1) := by kernel_rfl
def g13 (m44 : (List Int) → Option ((List Int) × Int)) (m43 : ((List Int) × Int) → Option ((List (Int × Int)) × (List Int) × Int)) (L : Nat) (a0 : (List Int)) : Option (List (Int × Int)) :=
  tst (m44 a0) ([], (0 : Int)) fun (q1 : ((List Int) × Int)) => tst (m43 (q1.1, q1.2)) ([], [], (0 : Int)) fun (q2 : ((List (Int × Int)) × (List Int) × Int)) => some q2.1
theorem e13 (m44 : (List Int) → Option ((List Int) × Int)) (m43 : ((List Int) × Int) → Option ((List (Int × Int)) × (List Int) × Int)) (L : Nat) (a0 : (List Int)) : evF prog (ev13 m44 m43) (loopN L) f13 (a13.enc a0) = (g13 m44 m43 L a0).map n13 := by
  rw [i13]; simp only [g13, map_bif, map_tst, Option.map_some, Option.map_none]
theorem s13 (m44 : (List Int) → Option ((List Int) × Int)) (m43 : ((List Int) × Int) → Option ((List (Int × Int)) × (List Int) × Int)) (h44 : SatN prog cxT 44 (c44 m44).F) (h43 : SatP prog cxT 43 (c43 m43).nres (c43 m43).F) (m : (List Int) → Option (List (Int × Int))) (hm : ∀ (x : (List Int)) t, m x = some t → ∃ L, g13 m44 m43 L x = some t) : Sat prog cxT 13 (c13 m) :=
  sat_t cxT_ok cxT_pok (by rfl) (fn := f13) rfl a13 n13 dd13 m (ev13 m44 m43) kok_nil (kwok_cons h44 (kwok_cons h43 kwok_nil)) (fun L x => g13 m44 m43 L x) (fun L x => e13 m44 m43 L x) hm hs13
/-! loop.example/g00222/laws.lwBig -/
def ev12 : Env cxT := { Kc := kcOf [], Kw := kwOf [], lv := fun i => [], xv := fun i => none }
theorem i12 (L : Nat) (a0 : (List Int)) : evF prog ev12 (loopN L) f12 (a12.enc a0) =
  some (n12 (decide ((Nat.cast (List.length a0) : Int) > (1048576 : Int)))) := by kernel_rfl
def g12 (L : Nat) (a0 : (List Int)) : Option Bool :=
  some (decide ((Nat.cast (List.length a0) : Int) > (1048576 : Int)))
theorem e12 (L : Nat) (a0 : (List Int)) : evF prog ev12 (loopN L) f12 (a12.enc a0) = (g12 L a0).map n12 := by
  rw [i12]; simp only [g12, map_bif, map_tst, Option.map_some, Option.map_none]
theorem s12 (m : (List Int) → Option Bool) (hm : ∀ (x : (List Int)) t, m x = some t → ∃ L, g12 L x = some t) : Sat prog cxT 12 (c12 m) :=
  sat_t cxT_ok cxT_pok (by rfl) (fn := f12) rfl a12 n12 dd12 m ev12 kok_nil kwok_nil (fun L x => g12 L x) (fun L x => e12 L x) hm hs12
/-! loop.example/g00222/laws.FnTables -/
def ev3 (m12 : (List Int) → Option Bool) (m13 : (List Int) → Option (List (Int × Int))) (m14 : (List (Int × Int)) → Option (Int × (List Int))) (m15 : (List (Int × Int)) → Option (Int × (List Int))) (m16 : ((List Int) × (List (Int × Int))) → Option (Int × Int × Int × Int)) (m17 : ((List Int) × Int) → Option Int) : Env cxT := { Kc := kcOf [(12, c12 m12), (13, c13 m13), (14, c14 m14), (15, c15 m15), (16, c16 m16), (17, c17 m17)], Kw := kwOf [], lv := fun i => if i = 0 then [(3, [some 31]), (4, [none, some 2]), (5, []), (6, [])] else if i = 2 then [(3, [some 31]), (4, [none, some 2]), (7, []), (8, []), (9, []), (10, [])] else [], xv := fun i => if i = 0 then some [(3, [some 31]), (4, [none, some 2]), (5, [])] else if i = 2 then some [(7, []), (9, [])] else none }
def S3_0 (a0 : (List Int)) (v0_3 : (List (Int × Int))) (v0_4_0 : Int) (v0_4_1 : (List Int)) (v0_5 : Int) (v0_6 : Int) : St cxT.ty := { slots := [junk, junk, junk, (.inl (.inl (ls { own := 1, nm := 192, e := 31, o := true, xs := v0_3 }))), (.inr (.inr { kind := 0, nm := 256, cells := [(lv (.int .i64 v0_4_0)), (ls { own := 1, nm := 258, e := 2, o := true, xs := v0_4_1 })], s := { own := 0, nm := 0, e := 0, o := false, xs := ([] : List (PUnit)) }, i := 0, off := 0 })), (.inl (.inl (lv (.int .i64 v0_5)))), (.inl (.inl (lv (.int .i64 v0_6))))] ++ List.replicate 108 junk, D := [], F := [], ctr := 1 }
def X3_0 (a0 : (List Int)) (w0_3 : (List (Int × Int))) (w0_4_0 : Int) (w0_4_1 : (List Int)) (w0_5 : Int) : St cxT.ty := { slots := [junk, junk, junk, (.inl (.inl (ls { own := 1, nm := 192, e := 31, o := true, xs := w0_3 }))), (.inr (.inr { kind := 0, nm := 256, cells := [(lv (.int .i64 w0_4_0)), (ls { own := 1, nm := 258, e := 2, o := true, xs := w0_4_1 })], s := { own := 0, nm := 0, e := 0, o := false, xs := ([] : List (PUnit)) }, i := 0, off := 0 })), (.inl (.inl (lv (.int .i64 w0_5))))] ++ List.replicate 109 junk, D := [], F := [], ctr := 1 }
def S3_2 (a0 : (List Int)) (v2_3 : (List (Int × Int))) (v2_4_0 : Int) (v2_4_1 : (List Int)) (v2_7_0 : Int) (v2_7_1 : Int) (v2_7_2 : Int) (v2_7_3 : Int) (v2_8 : Int) (v2_9 : Int) (v2_10 : Int) : St cxT.ty := { slots := [junk, junk, junk, (.inl (.inl (ls { own := 1, nm := 192, e := 31, o := true, xs := v2_3 }))), (.inr (.inr { kind := 0, nm := 256, cells := [(lv (.int .i64 v2_4_0)), (ls { own := 1, nm := 258, e := 2, o := true, xs := v2_4_1 })], s := { own := 0, nm := 0, e := 0, o := false, xs := ([] : List (PUnit)) }, i := 0, off := 0 })), junk, junk, (.inr (.inr { kind := 0, nm := 448, cells := [(lv (.int .i64 v2_7_0)), (lv (.int .i64 v2_7_1)), (lv (.int .i64 v2_7_2)), (lv (.int .i64 v2_7_3))], s := { own := 0, nm := 0, e := 0, o := false, xs := ([] : List (PUnit)) }, i := 0, off := 0 })), (.inl (.inl (lv (.int .i64 v2_8)))), (.inl (.inl (lv (.int .i64 v2_9)))), (.inl (.inl (lv (.int .i64 v2_10))))] ++ List.replicate 104 junk, D := [], F := [], ctr := 1 }
def X3_2 (a0 : (List Int)) (w2_7_0 : Int) (w2_7_1 : Int) (w2_7_2 : Int) (w2_7_3 : Int) (w2_9 : Int) : St cxT.ty := { slots := [junk, junk, junk, junk, junk, junk, junk, (.inr (.inr { kind := 0, nm := 448, cells := [(lv (.int .i64 w2_7_0)), (lv (.int .i64 w2_7_1)), (lv (.int .i64 w2_7_2)), (lv (.int .i64 w2_7_3))], s := { own := 0, nm := 0, e := 0, o := false, xs := ([] : List (PUnit)) }, i := 0, off := 0 })), junk, (.inl (.inl (lv (.int .i64 w2_9))))] ++ List.replicate 105 junk, D := [], F := [], ctr := 1 }
theorem i3 (m12 : (List Int) → Option Bool) (m13 : (List Int) → Option (List (Int × Int))) (m14 : (List (Int × Int)) → Option (Int × (List Int))) (m15 : (List (Int × Int)) → Option (Int × (List Int))) (m16 : ((List Int) × (List (Int × Int))) → Option (Int × Int × Int × Int)) (m17 : ((List Int) × Int) → Option Int) (L : Nat) (a0 : (List Int)) : evF prog (ev3 m12 m13 m14 m15 m16 m17) (loopN L) f3 (a3.enc a0) =
  tst (m12 a0) false fun (q1 : Bool) => bif q1 then some (n3 Bool.true)
    else tst (m13 a0) [] fun (q2 : (List (Int × Int))) => tst (m14 q2) ((0 : Int), []) fun (q3 : (Int × (List Int))) => bif (q3.1 != (0 : Int)) then tst (m15 q2) ((0 : Int), []) fun (q5 : (Int × (List Int))) => some (n3 (q5.1 == q3.1))
        else headF prog (ev3 m12 m13 m14 m15 m16 m17) L f3 0 [1, 1, 1, 1, 1, 1, 0, 1, 0, 0] (outK (outV prog f3) (topK prog (ev3 m12 m13 m14 m15 m16 m17) L f3 [1, 1, 1, 1, 1, 1, 0, 1] (outV prog f3)).n (topK prog (ev3 m12 m13 m14 m15 m16 m17) L f3 [1, 1, 1, 1, 1, 1, 0, 1] (outV prog f3)).x) L (S3_0 a0 q2 q3.1 q3.2 (0 : Int) (0 : Int)) := by kernel_rfl
theorem r3_0 (m12 : (List Int) → Option Bool) (m13 : (List Int) → Option (List (Int × Int))) (m14 : (List (Int × Int)) → Option (Int × (List Int))) (m15 : (List (Int × Int)) → Option (Int × (List Int))) (m16 : ((List Int) × (List (Int × Int))) → Option (Int × Int × Int × Int)) (m17 : ((List Int) × Int) → Option Int) (L : Nat) (a0 : (List Int)) (k : St cxT.ty → Option (V cxT.ty)) (xk : Nat → St cxT.ty → Option (V cxT.ty)) (g : St cxT.ty → Option (V cxT.ty)) (v0_3 : (List (Int × Int))) (v0_4_0 : Int) (v0_4_1 : (List Int)) (v0_5 : Int) (v0_6 : Int) : roundF prog (ev3 m12 m13 m14 m15 m16 m17) L f3 0 [1, 1, 1, 1, 1, 1, 0, 1, 0, 0] (outK (outV prog f3) k xk) g (S3_0 a0 v0_3 v0_4_0 v0_4_1 v0_5 v0_6) =
  bif (decide (v0_6 < (Nat.cast (List.length v0_3) : Int))) then bif ((decide ((0 : Int) ≤ v0_6)) && (decide (v0_6 < (Nat.cast (List.length v0_3) : Int)))) then g (S3_0 a0 v0_3 v0_4_0 v0_4_1 (Go.IntKind.wrap Go.IntKind.i64 (v0_5 + (List.getD v0_3 (Int.toNat v0_6) ((0 : Int), (0 : Int))).2)) (Go.IntKind.wrap Go.IntKind.i64 (v0_6 + (1 : Int))))
    else none
  else k (X3_0 a0 v0_3 v0_4_0 v0_4_1 v0_5) := by kernel_rfl
theorem t3_0 (m12 : (List Int) → Option Bool) (m13 : (List Int) → Option (List (Int × Int))) (m14 : (List (Int × Int)) → Option (Int × (List Int))) (m15 : (List (Int × Int)) → Option (Int × (List Int))) (m16 : ((List Int) × (List (Int × Int))) → Option (Int × Int × Int × Int)) (m17 : ((List Int) × Int) → Option Int) (L : Nat) (a0 : (List Int)) (w0_3 : (List (Int × Int))) (w0_4_0 : Int) (w0_4_1 : (List Int)) (w0_5 : Int) : (topK prog (ev3 m12 m13 m14 m15 m16 m17) L f3 [1, 1, 1, 1, 1, 1, 0, 1] (outV prog f3)).n (X3_0 a0 w0_3 w0_4_0 w0_4_1 w0_5) =
  tst (m16 (w0_4_1, w0_3)) ((0 : Int), (0 : Int), (0 : Int), (0 : Int)) fun (q1 : (Int × Int × Int × Int)) => bif ((Nat.cast (List.length w0_4_1) : Int) != (31 : Int)) then some (n3 Bool.false)
    else bif (q1.1 != (0 : Int)) then some (n3 Bool.false)
    else bif (!((w0_5 == (0 : Int)) == (decide (q1.2.2.2 > (0 : Int))))) then some (n3 Bool.false)
    else bif (w0_5 == (0 : Int)) then some (n3 (q1.2.2.2 == (31 : Int)))
    else bif (w0_5 == (0 : Int)) then none
    else headF prog (ev3 m12 m13 m14 m15 m16 m17) L f3 2 [1, 1, 1, 1, 1, 1, 1, 1, 1, 1, 1, 1, 0, 1, 0, 0] (outK (outV prog f3) (topK prog (ev3 m12 m13 m14 m15 m16 m17) L f3 [1, 1, 1, 1, 1, 1, 1, 1, 1, 1, 1, 1, 0, 1] (outV prog f3)).n (topK prog (ev3 m12 m13 m14 m15 m16 m17) L f3 [1, 1, 1, 1, 1, 1, 1, 1, 1, 1, 1, 1, 0, 1] (outV prog f3)).x) L (S3_2 a0 w0_3 w0_4_0 w0_4_1 q1.1 q1.2.1 q1.2.2.1 q1.2.2.2 (Go.IntKind.wrap Go.IntKind.i64 (Int.tdiv (31 : Int) w0_5)) (0 : Int) (0 : Int)) := by kernel_rfl
theorem r3_2 (m12 : (List Int) → Option Bool) (m13 : (List Int) → Option (List (Int × Int))) (m14 : (List (Int × Int)) → Option (Int × (List Int))) (m15 : (List (Int × Int)) → Option (Int × (List Int))) (m16 : ((List Int) × (List (Int × Int))) → Option (Int × Int × Int × Int)) (m17 : ((List Int) × Int) → Option Int) (L : Nat) (a0 : (List Int)) (k : St cxT.ty → Option (V cxT.ty)) (xk : Nat → St cxT.ty → Option (V cxT.ty)) (g : St cxT.ty → Option (V cxT.ty)) (v2_3 : (List (Int × Int))) (v2_4_0 : Int) (v2_4_1 : (List Int)) (v2_7_0 : Int) (v2_7_1 : Int) (v2_7_2 : Int) (v2_7_3 : Int) (v2_8 : Int) (v2_9 : Int) (v2_10 : Int) : roundF prog (ev3 m12 m13 m14 m15 m16 m17) L f3 2 [1, 1, 1, 1, 1, 1, 1, 1, 1, 1, 1, 1, 0, 1, 0, 0] (outK (outV prog f3) k xk) g (S3_2 a0 v2_3 v2_4_0 v2_4_1 v2_7_0 v2_7_1 v2_7_2 v2_7_3 v2_8 v2_9 v2_10) =
  bif (decide (v2_10 < (Nat.cast (List.length v2_3) : Int))) then bif ((decide ((0 : Int) ≤ v2_10)) && (decide (v2_10 < (Nat.cast (List.length v2_3) : Int)))) then tst (m17 (v2_4_1, (List.getD v2_3 (Int.toNat v2_10) ((0 : Int), (0 : Int))).1)) (0 : Int) fun (q3 : Int) => bif ((decide ((0 : Int) ≤ v2_10)) && (decide (v2_10 < (Nat.cast (List.length v2_3) : Int)))) then bif (decide (q3 < (Go.IntKind.wrap Go.IntKind.i64 (v2_8 * (List.getD v2_3 (Int.toNat v2_10) ((0 : Int), (0 : Int))).2)))) then some (n3 Bool.false)
          else bif ((decide ((0 : Int) ≤ v2_10)) && (decide (v2_10 < (Nat.cast (List.length v2_3) : Int)))) then bif (decide (q3 > (Go.IntKind.wrap Go.IntKind.i64 ((Go.IntKind.wrap Go.IntKind.i64 (v2_8 + (1 : Int))) * (List.getD v2_3 (Int.toNat v2_10) ((0 : Int), (0 : Int))).2)))) then some (n3 Bool.false)
            else g (S3_2 a0 v2_3 v2_4_0 v2_4_1 v2_7_0 v2_7_1 v2_7_2 v2_7_3 v2_8 (Go.IntKind.wrap Go.IntKind.i64 (v2_9 + q3)) (Go.IntKind.wrap Go.IntKind.i64 (v2_10 + (1 : Int))))
          else none
        else none
    else none
  else k (X3_2 a0 v2_7_0 v2_7_1 v2_7_2 v2_7_3 v2_9) := by kernel_rfl
theorem t3_2 (m12 : (List Int) → Option Bool) (m13 : (List Int) → Option (List (Int × Int))) (m14 : (List (Int × Int)) → Option (Int × (List Int))) (m15 : (List (Int × Int)) → Option (Int × (List Int))) (m16 : ((List Int) × (List (Int × Int))) → Option (Int × Int × Int × Int)) (m17 : ((List Int) × Int) → Option Int) (L : Nat) (a0 : (List Int)) (w2_7_0 : Int) (w2_7_1 : Int) (w2_7_2 : Int) (w2_7_3 : Int) (w2_9 : Int) : (topK prog (ev3 m12 m13 m14 m15 m16 m17) L f3 [1, 1, 1, 1, 1, 1, 1, 1, 1, 1, 1, 1, 0, 1] (outV prog f3)).n (X3_2 a0 w2_7_0 w2_7_1 w2_7_2 w2_7_3 w2_9) =
  bif (w2_9 == (31 : Int)) then some (n3 (decide (w2_7_1 ≤ w2_7_2)))
  else some (n3 Bool.false) := by kernel_rfl
def l3_2 (m12 : (List Int) → Option Bool) (m13 : (List Int) → Option (List (Int × Int))) (m14 : (List (Int × Int)) → Option (Int × (List Int))) (m15 : (List (Int × Int)) → Option (Int × (List Int))) (m16 : ((List Int) × (List (Int × Int))) → Option (Int × Int × Int × Int)) (m17 : ((List Int) × Int) → Option Int) (L : Nat) (a0 : (List Int)) : Nat → (List (Int × Int)) → Int → (List Int) → Int → Int → Int → Int → Int → Int → Int → (Int → Int → Int → Int → Int → Option Bool) → Option Bool
  | 0, _, _, _, _, _, _, _, _, _, _, _ => none
  | n + 1, v2_3, v2_4_0, v2_4_1, v2_7_0, v2_7_1, v2_7_2, v2_7_3, v2_8, v2_9, v2_10, k =>
    bif (decide (v2_10 < (Nat.cast (List.length v2_3) : Int))) then bif ((decide ((0 : Int) ≤ v2_10)) && (decide (v2_10 < (Nat.cast (List.length v2_3) : Int)))) then tst (m17 (v2_4_1, (List.getD v2_3 (Int.toNat v2_10) ((0 : Int), (0 : Int))).1)) (0 : Int) fun (q4 : Int) => bif ((decide ((0 : Int) ≤ v2_10)) && (decide (v2_10 < (Nat.cast (List.length v2_3) : Int)))) then bif (decide (q4 < (Go.IntKind.wrap Go.IntKind.i64 (v2_8 * (List.getD v2_3 (Int.toNat v2_10) ((0 : Int), (0 : Int))).2)))) then some Bool.false
            else bif ((decide ((0 : Int) ≤ v2_10)) && (decide (v2_10 < (Nat.cast (List.length v2_3) : Int)))) then bif (decide (q4 > (Go.IntKind.wrap Go.IntKind.i64 ((Go.IntKind.wrap Go.IntKind.i64 (v2_8 + (1 : Int))) * (List.getD v2_3 (Int.toNat v2_10) ((0 : Int), (0 : Int))).2)))) then some Bool.false
              else l3_2 m12 m13 m14 m15 m16 m17 L a0 n v2_3 v2_4_0 v2_4_1 v2_7_0 v2_7_1 v2_7_2 v2_7_3 v2_8 (Go.IntKind.wrap Go.IntKind.i64 (v2_9 + q4)) (Go.IntKind.wrap Go.IntKind.i64 (v2_10 + (1 : Int))) k
            else none
          else none
      else none
    else k v2_7_0 v2_7_1 v2_7_2 v2_7_3 v2_9
theorem h3_2 (m12 : (List Int) → Option Bool) (m13 : (List Int) → Option (List (Int × Int))) (m14 : (List (Int × Int)) → Option (Int × (List Int))) (m15 : (List (Int × Int)) → Option (Int × (List Int))) (m16 : ((List Int) × (List (Int × Int))) → Option (Int × Int × Int × Int)) (m17 : ((List Int) × Int) → Option Int) (L : Nat) (a0 : (List Int)) (k : St cxT.ty → Option (V cxT.ty)) (xk : Nat → St cxT.ty → Option (V cxT.ty)) (k' : Int → Int → Int → Int → Int → Option Bool) (hk : ∀ (w2_7_0 : Int) (w2_7_1 : Int) (w2_7_2 : Int) (w2_7_3 : Int) (w2_9 : Int), k (X3_2 a0 w2_7_0 w2_7_1 w2_7_2 w2_7_3 w2_9) = (k' w2_7_0 w2_7_1 w2_7_2 w2_7_3 w2_9).map n3) : ∀ (n : Nat) (v2_3 : (List (Int × Int))) (v2_4_0 : Int) (v2_4_1 : (List Int)) (v2_7_0 : Int) (v2_7_1 : Int) (v2_7_2 : Int) (v2_7_3 : Int) (v2_8 : Int) (v2_9 : Int) (v2_10 : Int), headF prog (ev3 m12 m13 m14 m15 m16 m17) L f3 2 [1, 1, 1, 1, 1, 1, 1, 1, 1, 1, 1, 1, 0, 1, 0, 0] (outK (outV prog f3) k xk) n (S3_2 a0 v2_3 v2_4_0 v2_4_1 v2_7_0 v2_7_1 v2_7_2 v2_7_3 v2_8 v2_9 v2_10) = (l3_2 m12 m13 m14 m15 m16 m17 L a0 n v2_3 v2_4_0 v2_4_1 v2_7_0 v2_7_1 v2_7_2 v2_7_3 v2_8 v2_9 v2_10 k').map n3
  | 0, _, _, _, _, _, _, _, _, _, _ => rfl
  | n + 1, v2_3, v2_4_0, v2_4_1, v2_7_0, v2_7_1, v2_7_2, v2_7_3, v2_8, v2_9, v2_10 => by
    rw [headF_round, r3_2]
    have ih := h3_2 m12 m13 m14 m15 m16 m17 L a0 k xk k' hk n
    simp only [l3_2, map_bif, map_tst, Option.map_some, Option.map_none, ih, hk]
def l3_0 (m12 : (List Int) → Option Bool) (m13 : (List Int) → Option (List (Int × Int))) (m14 : (List (Int × Int)) → Option (Int × (List Int))) (m15 : (List (Int × Int)) → Option (Int × (List Int))) (m16 : ((List Int) × (List (Int × Int))) → Option (Int × Int × Int × Int)) (m17 : ((List Int) × Int) → Option Int) (L : Nat) (a0 : (List Int)) : Nat → (List (Int × Int)) → Int → (List Int) → Int → Int → ((List (Int × Int)) → Int → (List Int) → Int → Option Bool) → Option Bool
  | 0, _, _, _, _, _, _ => none
  | n + 1, v0_3, v0_4_0, v0_4_1, v0_5, v0_6, k =>
    bif (decide (v0_6 < (Nat.cast (List.length v0_3) : Int))) then bif ((decide ((0 : Int) ≤ v0_6)) && (decide (v0_6 < (Nat.cast (List.length v0_3) : Int)))) then l3_0 m12 m13 m14 m15 m16 m17 L a0 n v0_3 v0_4_0 v0_4_1 (Go.IntKind.wrap Go.IntKind.i64 (v0_5 + (List.getD v0_3 (Int.toNat v0_6) ((0 : Int), (0 : Int))).2)) (Go.IntKind.wrap Go.IntKind.i64 (v0_6 + (1 : Int))) k
      else none
    else k v0_3 v0_4_0 v0_4_1 v0_5
theorem h3_0 (m12 : (List Int) → Option Bool) (m13 : (List Int) → Option (List (Int × Int))) (m14 : (List (Int × Int)) → Option (Int × (List Int))) (m15 : (List (Int × Int)) → Option (Int × (List Int))) (m16 : ((List Int) × (List (Int × Int))) → Option (Int × Int × Int × Int)) (m17 : ((List Int) × Int) → Option Int) (L : Nat) (a0 : (List Int)) (k : St cxT.ty → Option (V cxT.ty)) (xk : Nat → St cxT.ty → Option (V cxT.ty)) (k' : (List (Int × Int)) → Int → (List Int) → Int → Option Bool) (hk : ∀ (w0_3 : (List (Int × Int))) (w0_4_0 : Int) (w0_4_1 : (List Int)) (w0_5 : Int), k (X3_0 a0 w0_3 w0_4_0 w0_4_1 w0_5) = (k' w0_3 w0_4_0 w0_4_1 w0_5).map n3) : ∀ (n : Nat) (v0_3 : (List (Int × Int))) (v0_4_0 : Int) (v0_4_1 : (List Int)) (v0_5 : Int) (v0_6 : Int), headF prog (ev3 m12 m13 m14 m15 m16 m17) L f3 0 [1, 1, 1, 1, 1, 1, 0, 1, 0, 0] (outK (outV prog f3) k xk) n (S3_0 a0 v0_3 v0_4_0 v0_4_1 v0_5 v0_6) = (l3_0 m12 m13 m14 m15 m16 m17 L a0 n v0_3 v0_4_0 v0_4_1 v0_5 v0_6 k').map n3
  | 0, _, _, _, _, _ => rfl
  | n + 1, v0_3, v0_4_0, v0_4_1, v0_5, v0_6 => by
    rw [headF_round, r3_0]
    have ih := h3_0 m12 m13 m14 m15 m16 m17 L a0 k xk k' hk n
    simp only [l3_0, map_bif, map_tst, Option.map_some, Option.map_none, ih, hk]
def g3 (m12 : (List Int) → Option Bool) (m13 : (List Int) → Option (List (Int × Int))) (m14 : (List (Int × Int)) → Option (Int × (List Int))) (m15 : (List (Int × Int)) → Option (Int × (List Int))) (m16 : ((List Int) × (List (Int × Int))) → Option (Int × Int × Int × Int)) (m17 : ((List Int) × Int) → Option Int) (L : Nat) (a0 : (List Int)) : Option Bool :=
  tst (m12 a0) false fun (q1 : Bool) => bif q1 then some Bool.true
    else tst (m13 a0) [] fun (q2 : (List (Int × Int))) => tst (m14 q2) ((0 : Int), []) fun (q3 : (Int × (List Int))) => bif (q3.1 != (0 : Int)) then tst (m15 q2) ((0 : Int), []) fun (q5 : (Int × (List Int))) => some (q5.1 == q3.1)
        else l3_0 m12 m13 m14 m15 m16 m17 L a0 L q2 q3.1 q3.2 (0 : Int) (0 : Int) (fun (w0_3 : (List (Int × Int))) (w0_4_0 : Int) (w0_4_1 : (List Int)) (w0_5 : Int) => tst (m16 (w0_4_1, w0_3)) ((0 : Int), (0 : Int), (0 : Int), (0 : Int)) fun (q5 : (Int × Int × Int × Int)) => bif ((Nat.cast (List.length w0_4_1) : Int) != (31 : Int)) then some Bool.false
            else bif (q5.1 != (0 : Int)) then some Bool.false
            else bif (!((w0_5 == (0 : Int)) == (decide (q5.2.2.2 > (0 : Int))))) then some Bool.false
            else bif (w0_5 == (0 : Int)) then some (q5.2.2.2 == (31 : Int))
            else bif (w0_5 == (0 : Int)) then none
            else l3_2 m12 m13 m14 m15 m16 m17 L a0 L w0_3 w0_4_0 w0_4_1 q5.1 q5.2.1 q5.2.2.1 q5.2.2.2 (Go.IntKind.wrap Go.IntKind.i64 (Int.tdiv (31 : Int) w0_5)) (0 : Int) (0 : Int) (fun (w2_7_0 : Int) (w2_7_1 : Int) (w2_7_2 : Int) (w2_7_3 : Int) (w2_9 : Int) => bif (w2_9 == (31 : Int)) then some (decide (w2_7_1 ≤ w2_7_2))
              else some Bool.false))
theorem e3 (m12 : (List Int) → Option Bool) (m13 : (List Int) → Option (List (Int × Int))) (m14 : (List (Int × Int)) → Option (Int × (List Int))) (m15 : (List (Int × Int)) → Option (Int × (List Int))) (m16 : ((List Int) × (List (Int × Int))) → Option (Int × Int × Int × Int)) (m17 : ((List Int) × Int) → Option Int) (L : Nat) (a0 : (List Int)) : evF prog (ev3 m12 m13 m14 m15 m16 m17) (loopN L) f3 (a3.enc a0) = (g3 m12 m13 m14 m15 m16 m17 L a0).map n3 := by
  let K'2 : Int → Int → Int → Int → Int → Option Bool := (fun (w2_7_0 : Int) (w2_7_1 : Int) (w2_7_2 : Int) (w2_7_3 : Int) (w2_9 : Int) => bif (w2_9 == (31 : Int)) then some (decide (w2_7_1 ≤ w2_7_2))
      else some Bool.false)
  have hin2 : ∀ (v2_3 : (List (Int × Int))) (v2_4_0 : Int) (v2_4_1 : (List Int)) (v2_7_0 : Int) (v2_7_1 : Int) (v2_7_2 : Int) (v2_7_3 : Int) (v2_8 : Int) (v2_9 : Int) (v2_10 : Int), headF prog (ev3 m12 m13 m14 m15 m16 m17) L f3 2 [1, 1, 1, 1, 1, 1, 1, 1, 1, 1, 1, 1, 0, 1, 0, 0] (outK (outV prog f3) (topK prog (ev3 m12 m13 m14 m15 m16 m17) L f3 [1, 1, 1, 1, 1, 1, 1, 1, 1, 1, 1, 1, 0, 1] (outV prog f3)).n (topK prog (ev3 m12 m13 m14 m15 m16 m17) L f3 [1, 1, 1, 1, 1, 1, 1, 1, 1, 1, 1, 1, 0, 1] (outV prog f3)).x) L (S3_2 a0 v2_3 v2_4_0 v2_4_1 v2_7_0 v2_7_1 v2_7_2 v2_7_3 v2_8 v2_9 v2_10) = (l3_2 m12 m13 m14 m15 m16 m17 L a0 L v2_3 v2_4_0 v2_4_1 v2_7_0 v2_7_1 v2_7_2 v2_7_3 v2_8 v2_9 v2_10 K'2).map n3 := fun v2_3 v2_4_0 v2_4_1 v2_7_0 v2_7_1 v2_7_2 v2_7_3 v2_8 v2_9 v2_10 => h3_2 m12 m13 m14 m15 m16 m17 L a0 _ _ K'2 (fun w2_7_0 w2_7_1 w2_7_2 w2_7_3 w2_9 => by rw [t3_2]; simp only [K'2, map_bif, map_tst, Option.map_some, Option.map_none]) L v2_3 v2_4_0 v2_4_1 v2_7_0 v2_7_1 v2_7_2 v2_7_3 v2_8 v2_9 v2_10
  let K'0 : (List (Int × Int)) → Int → (List Int) → Int → Option Bool := (fun (w0_3 : (List (Int × Int))) (w0_4_0 : Int) (w0_4_1 : (List Int)) (w0_5 : Int) => tst (m16 (w0_4_1, w0_3)) ((0 : Int), (0 : Int), (0 : Int), (0 : Int)) fun (q3 : (Int × Int × Int × Int)) => bif ((Nat.cast (List.length w0_4_1) : Int) != (31 : Int)) then some Bool.false
        else bif (q3.1 != (0 : Int)) then some Bool.false
        else bif (!((w0_5 == (0 : Int)) == (decide (q3.2.2.2 > (0 : Int))))) then some Bool.false
        else bif (w0_5 == (0 : Int)) then some (q3.2.2.2 == (31 : Int))
        else bif (w0_5 == (0 : Int)) then none
        else l3_2 m12 m13 m14 m15 m16 m17 L a0 L w0_3 w0_4_0 w0_4_1 q3.1 q3.2.1 q3.2.2.1 q3.2.2.2 (Go.IntKind.wrap Go.IntKind.i64 (Int.tdiv (31 : Int) w0_5)) (0 : Int) (0 : Int) (fun (w2_7_0 : Int) (w2_7_1 : Int) (w2_7_2 : Int) (w2_7_3 : Int) (w2_9 : Int) => bif (w2_9 == (31 : Int)) then some (decide (w2_7_1 ≤ w2_7_2))
          else some Bool.false))
  have hin0 : ∀ (v0_3 : (List (Int × Int))) (v0_4_0 : Int) (v0_4_1 : (List Int)) (v0_5 : Int) (v0_6 : Int), headF prog (ev3 m12 m13 m14 m15 m16 m17) L f3 0 [1, 1, 1, 1, 1, 1, 0, 1, 0, 0] (outK (outV prog f3) (topK prog (ev3 m12 m13 m14 m15 m16 m17) L f3 [1, 1, 1, 1, 1, 1, 0, 1] (outV prog f3)).n (topK prog (ev3 m12 m13 m14 m15 m16 m17) L f3 [1, 1, 1, 1, 1, 1, 0, 1] (outV prog f3)).x) L (S3_0 a0 v0_3 v0_4_0 v0_4_1 v0_5 v0_6) = (l3_0 m12 m13 m14 m15 m16 m17 L a0 L v0_3 v0_4_0 v0_4_1 v0_5 v0_6 K'0).map n3 := fun v0_3 v0_4_0 v0_4_1 v0_5 v0_6 => h3_0 m12 m13 m14 m15 m16 m17 L a0 _ _ K'0 (fun w0_3 w0_4_0 w0_4_1 w0_5 => by rw [t3_0]; simp only [K'0, map_bif, map_tst, Option.map_some, Option.map_none, hin2, K'2]) L v0_3 v0_4_0 v0_4_1 v0_5 v0_6
  rw [i3]; simp only [g3, map_bif, map_tst, Option.map_some, Option.map_none, hin2, K'2, hin0, K'0]
theorem s3 (m12 : (List Int) → Option Bool) (m13 : (List Int) → Option (List (Int × Int))) (m14 : (List (Int × Int)) → Option (Int × (List Int))) (m15 : (List (Int × Int)) → Option (Int × (List Int))) (m16 : ((List Int) × (List (Int × Int))) → Option (Int × Int × Int × Int)) (m17 : ((List Int) × Int) → Option Int) (h12 : Sat prog cxT 12 (c12 m12)) (h13 : Sat prog cxT 13 (c13 m13)) (h14 : Sat prog cxT 14 (c14 m14)) (h15 : Sat prog cxT 15 (c15 m15)) (h16 : Sat prog cxT 16 (c16 m16)) (h17 : Sat prog cxT 17 (c17 m17)) (m : (List Int) → Option Bool) (hm : ∀ (x : (List Int)) t, m x = some t → ∃ L, g3 m12 m13 m14 m15 m16 m17 L x = some t) : Sat prog cxT 3 (c3 m) :=
  sat_t cxT_ok cxT_pok (by rfl) (fn := f3) rfl a3 n3 dd3 m (ev3 m12 m13 m14 m15 m16 m17) (kok_cons h12 (kok_cons h13 (kok_cons h14 (kok_cons h15 (kok_cons h16 (kok_cons h17 kok_nil)))))) kwok_nil (fun L x => g3 m12 m13 m14 m15 m16 m17 L x) (fun L x => e3 m12 m13 m14 m15 m16 m17 L x) hm hs3
end Go.Proofs.Try

set_option maxHeartbeats 0
set_option linter.unusedVariables false
set_option linter.unusedSimpArgs false
namespace Go.Proofs.Try
open Go Go.VM Go.RowKit
/-! loop.example/g00222/laws.FnLooks -/
def ev4 (m12 : (List Int) → Option Bool) (m18 : (List Int) → Option ((List (Int × Int)) × Int)) (m19 : ((List (Int × Int)) × Int) → Option (Int × (List (Int × Int)))) (m20 : ((List (Int × Int)) × Int) → Option (Int × (List (Int × Int)))) (m14 : (List (Int × Int)) → Option (Int × (List Int))) (m21 : ((List Int) × (List Int)) → Option (Int × Int)) (m17 : ((List Int) × Int) → Option Int) (m22 : ((List Int) × Int) → Option (Int × Int)) : Env cxT := { Kc := kcOf [(12, c12 m12), (18, c18 m18), (19, c19 m19), (20, c20 m20), (14, c14 m14), (21, c21 m21), (17, c17 m17), (22, c22 m22)], Kw := kwOf [], lv := fun i => if i = 0 then [(3, [some 31]), (5, [none, some 31]), (6, [none, some 2]), (9, [])] else if i = 2 then [(3, [some 31]), (5, [none, some 31]), (6, [none, some 2]), (9, []), (10, []), (11, []), (12, [])] else [], xv := fun i => if i = 0 then some [(3, [some 31]), (5, [none, some 31])] else if i = 2 then some [(3, [some 31]), (5, [none, some 31]), (6, [none, some 2]), (9, []), (10, []), (11, [])] else none }
def S4_0 (a0 : (List Int)) (v0_3 : (List (Int × Int))) (v0_5_0 : Int) (v0_5_1 : (List (Int × Int))) (v0_6_0 : Int) (v0_6_1 : (List Int)) (v0_9 : Int) : St cxT.ty := { slots := [junk, junk, junk, (.inl (.inl (ls { own := 1, nm := 192, e := 31, o := true, xs := v0_3 }))), junk, (.inr (.inr { kind := 0, nm := 320, cells := [(lv (.int .i64 v0_5_0)), (ls { own := 1, nm := 322, e := 31, o := true, xs := v0_5_1 })], s := { own := 0, nm := 0, e := 0, o := false, xs := ([] : List (PUnit)) }, i := 0, off := 0 })), (.inr (.inr { kind := 0, nm := 384, cells := [(lv (.int .i64 v0_6_0)), (ls { own := 1, nm := 386, e := 2, o := true, xs := v0_6_1 })], s := { own := 0, nm := 0, e := 0, o := false, xs := ([] : List (PUnit)) }, i := 0, off := 0 })), junk, junk, (.inl (.inl (lv (.int .i64 v0_9))))] ++ List.replicate 120 junk, D := [], F := [], ctr := 1 }
def X4_0 (a0 : (List Int)) (w0_3 : (List (Int × Int))) (w0_5_0 : Int) (w0_5_1 : (List (Int × Int))) : St cxT.ty := { slots := [junk, junk, junk, (.inl (.inl (ls { own := 1, nm := 192, e := 31, o := true, xs := w0_3 }))), junk, (.inr (.inr { kind := 0, nm := 320, cells := [(lv (.int .i64 w0_5_0)), (ls { own := 1, nm := 322, e := 31, o := true, xs := w0_5_1 })], s := { own := 0, nm := 0, e := 0, o := false, xs := ([] : List (PUnit)) }, i := 0, off := 0 }))] ++ List.replicate 124 junk, D := [], F := [], ctr := 1 }
def S4_2 (a0 : (List Int)) (v0_3 : (List (Int × Int))) (v0_5_0 : Int) (v0_5_1 : (List (Int × Int))) (v0_6_0 : Int) (v0_6_1 : (List Int)) (v0_9 : Int) (v2_3 : (List (Int × Int))) (v2_5_0 : Int) (v2_5_1 : (List (Int × Int))) (v2_6_0 : Int) (v2_6_1 : (List Int)) (v2_10_0 : Int) (v2_10_1 : Int) (v2_11 : Bool) (v2_12 : Int) : St cxT.ty := { slots := [junk, junk, junk, (.inl (.inl (ls { own := 1, nm := 192, e := 31, o := true, xs := v2_3 }))), junk, (.inr (.inr { kind := 0, nm := 320, cells := [(lv (.int .i64 v2_5_0)), (ls { own := 1, nm := 322, e := 31, o := true, xs := v2_5_1 })], s := { own := 0, nm := 0, e := 0, o := false, xs := ([] : List (PUnit)) }, i := 0, off := 0 })), (.inr (.inr { kind := 0, nm := 384, cells := [(lv (.int .i64 v2_6_0)), (ls { own := 1, nm := 386, e := 2, o := true, xs := v2_6_1 })], s := { own := 0, nm := 0, e := 0, o := false, xs := ([] : List (PUnit)) }, i := 0, off := 0 })), junk, junk, (.inl (.inl (lv (.int .i64 v0_9)))), (.inr (.inr { kind := 0, nm := 640, cells := [(lv (.int .i64 v2_10_0)), (lv (.int .i64 v2_10_1))], s := { own := 0, nm := 0, e := 0, o := false, xs := ([] : List (PUnit)) }, i := 0, off := 0 })), (.inl (.inl (lv (.bool v2_11)))), (.inl (.inl (lv (.int .i64 v2_12))))] ++ List.replicate 117 junk, D := [], F := [], ctr := 1 }
def X4_2 (a0 : (List Int)) (v0_3 : (List (Int × Int))) (v0_5_0 : Int) (v0_5_1 : (List (Int × Int))) (v0_6_0 : Int) (v0_6_1 : (List Int)) (v0_9 : Int) (w2_3 : (List (Int × Int))) (w2_5_0 : Int) (w2_5_1 : (List (Int × Int))) (w2_6_0 : Int) (w2_6_1 : (List Int)) (w2_10_0 : Int) (w2_10_1 : Int) (w2_11 : Bool) : St cxT.ty := { slots := [junk, junk, junk, (.inl (.inl (ls { own := 1, nm := 192, e := 31, o := true, xs := w2_3 }))), junk, (.inr (.inr { kind := 0, nm := 320, cells := [(lv (.int .i64 w2_5_0)), (ls { own := 1, nm := 322, e := 31, o := true, xs := w2_5_1 })], s := { own := 0, nm := 0, e := 0, o := false, xs := ([] : List (PUnit)) }, i := 0, off := 0 })), (.inr (.inr { kind := 0, nm := 384, cells := [(lv (.int .i64 w2_6_0)), (ls { own := 1, nm := 386, e := 2, o := true, xs := w2_6_1 })], s := { own := 0, nm := 0, e := 0, o := false, xs := ([] : List (PUnit)) }, i := 0, off := 0 })), junk, junk, (.inl (.inl (lv (.int .i64 v0_9)))), (.inr (.inr { kind := 0, nm := 640, cells := [(lv (.int .i64 w2_10_0)), (lv (.int .i64 w2_10_1))], s := { own := 0, nm := 0, e := 0, o := false, xs := ([] : List (PUnit)) }, i := 0, off := 0 })), (.inl (.inl (lv (.bool w2_11))))] ++ List.replicate 118 junk, D := [], F := [], ctr := 1 }
theorem i4 (m12 : (List Int) → Option Bool) (m18 : (List Int) → Option ((List (Int × Int)) × Int)) (m19 : ((List (Int × Int)) × Int) → Option (Int × (List (Int × Int)))) (m20 : ((List (Int × Int)) × Int) → Option (Int × (List (Int × Int)))) (m14 : (List (Int × Int)) → Option (Int × (List Int))) (m21 : ((List Int) × (List Int)) → Option (Int × Int)) (m17 : ((List Int) × Int) → Option Int) (m22 : ((List Int) × Int) → Option (Int × Int)) (L : Nat) (a0 : (List Int)) : evF prog (ev4 m12 m18 m19 m20 m14 m21 m17 m22) (loopN L) f4 (a4.enc a0) =
  tst (m12 a0) false fun (q1 : Bool) => bif q1 then some (n4 Bool.true)
    else tst (m18 a0) ([], (0 : Int)) fun (q2 : ((List (Int × Int)) × Int)) => tst (m19 (q2.1, q2.2)) ((0 : Int), []) fun (q3 : (Int × (List (Int × Int)))) => bif (q3.1 != (0 : Int)) then tst (m20 (q2.1, q2.2)) ((0 : Int), []) fun (q5 : (Int × (List (Int × Int)))) => some (n4 (q5.1 == q3.1))
        else tst (m14 q2.1) ((0 : Int), []) fun (q4 : (Int × (List Int))) => tst (m14 q3.2) ((0 : Int), []) fun (q5 : (Int × (List Int))) => tst (m21 (q4.2, q5.2)) ((0 : Int), (0 : Int)) fun (q6 : (Int × Int)) => bif (q4.1 != (0 : Int)) then some (n4 Bool.false)
              else bif (q5.1 != (0 : Int)) then some (n4 Bool.false)
              else tst (m17 (q5.2, q2.2)) (0 : Int) fun (q7 : Int) => bif (q7 != (0 : Int)) then some (n4 Bool.false)
                else bif (q6.1 != (0 : Int)) then some (n4 Bool.false)
                else tst (m17 (q4.2, q2.2)) (0 : Int) fun (q8 : Int) => bif (decide (q6.2 < q8)) then some (n4 Bool.false)
                  else headF prog (ev4 m12 m18 m19 m20 m14 m21 m17 m22) L f4 0 [1, 1, 1, 1, 1, 1, 1, 1, 1, 0, 1, 0, 0] (outK (outV prog f4) (topK prog (ev4 m12 m18 m19 m20 m14 m21 m17 m22) L f4 [1, 1, 1, 1, 1, 1, 1, 1, 1, 0, 1] (outV prog f4)).n (topK prog (ev4 m12 m18 m19 m20 m14 m21 m17 m22) L f4 [1, 1, 1, 1, 1, 1, 1, 1, 1, 0, 1] (outV prog f4)).x) L (S4_0 a0 q2.1 q3.1 q3.2 q4.1 q4.2 (0 : Int)) := by kernel_rfl
theorem r4_0 (m12 : (List Int) → Option Bool) (m18 : (List Int) → Option ((List (Int × Int)) × Int)) (m19 : ((List (Int × Int)) × Int) → Option (Int × (List (Int × Int)))) (m20 : ((List (Int × Int)) × Int) → Option (Int × (List (Int × Int)))) (m14 : (List (Int × Int)) → Option (Int × (List Int))) (m21 : ((List Int) × (List Int)) → Option (Int × Int)) (m17 : ((List Int) × Int) → Option Int) (m22 : ((List Int) × Int) → Option (Int × Int)) (L : Nat) (a0 : (List Int)) (k : St cxT.ty → Option (V cxT.ty)) (xk : Nat → St cxT.ty → Option (V cxT.ty)) (g : St cxT.ty → Option (V cxT.ty)) (v0_3 : (List (Int × Int))) (v0_5_0 : Int) (v0_5_1 : (List (Int × Int))) (v0_6_0 : Int) (v0_6_1 : (List Int)) (v0_9 : Int) : roundF prog (ev4 m12 m18 m19 m20 m14 m21 m17 m22) L f4 0 [1, 1, 1, 1, 1, 1, 1, 1, 1, 0, 1, 0, 0] (outK (outV prog f4) k xk) g (S4_0 a0 v0_3 v0_5_0 v0_5_1 v0_6_0 v0_6_1 v0_9) =
  bif (decide (v0_9 < (40 : Int))) then tst (m22 (v0_6_1, (Go.IntKind.wrap Go.IntKind.i64 (v0_9 * (7919 : Int))))) ((0 : Int), (0 : Int)) fun (q2 : (Int × Int)) => headF prog (ev4 m12 m18 m19 m20 m14 m21 m17 m22) L f4 2 [1, 1, 1, 1, 1, 1, 1, 1, 1, 0, 1, 0, 0, 1, 0, 0, 1, 1, 0, 1, 0, 0] (outK (outV prog f4) (inK prog (ev4 m12 m18 m19 m20 m14 m21 m17 m22) L f4 0 [1, 1, 1, 1, 1, 1, 1, 1, 1, 0, 1, 0, 0] [1, 0, 0, 1, 1, 0, 1] (outK (outV prog f4) k xk) g).n (inK prog (ev4 m12 m18 m19 m20 m14 m21 m17 m22) L f4 0 [1, 1, 1, 1, 1, 1, 1, 1, 1, 0, 1, 0, 0] [1, 0, 0, 1, 1, 0, 1] (outK (outV prog f4) k xk) g).x) L (S4_2 a0 v0_3 v0_5_0 v0_5_1 v0_6_0 v0_6_1 v0_9 v0_3 v0_5_0 v0_5_1 v0_6_0 v0_6_1 q2.1 q2.2 Bool.false (0 : Int))
  else k (X4_0 a0 v0_3 v0_5_0 v0_5_1) := by kernel_rfl
theorem t4_0 (m12 : (List Int) → Option Bool) (m18 : (List Int) → Option ((List (Int × Int)) × Int)) (m19 : ((List (Int × Int)) × Int) → Option (Int × (List (Int × Int)))) (m20 : ((List (Int × Int)) × Int) → Option (Int × (List (Int × Int)))) (m14 : (List (Int × Int)) → Option (Int × (List Int))) (m21 : ((List Int) × (List Int)) → Option (Int × Int)) (m17 : ((List Int) × Int) → Option Int) (m22 : ((List Int) × Int) → Option (Int × Int)) (L : Nat) (a0 : (List Int)) (w0_3 : (List (Int × Int))) (w0_5_0 : Int) (w0_5_1 : (List (Int × Int))) : (topK prog (ev4 m12 m18 m19 m20 m14 m21 m17 m22) L f4 [1, 1, 1, 1, 1, 1, 1, 1, 1, 0, 1] (outV prog f4)).n (X4_0 a0 w0_3 w0_5_0 w0_5_1) =
  some (n4 ((Nat.cast (List.length w0_5_1) : Int) == (Go.IntKind.wrap Go.IntKind.i64 ((Nat.cast (List.length w0_3) : Int) - (1 : Int))))) := by kernel_rfl
theorem r4_2 (m12 : (List Int) → Option Bool) (m18 : (List Int) → Option ((List (Int × Int)) × Int)) (m19 : ((List (Int × Int)) × Int) → Option (Int × (List (Int × Int)))) (m20 : ((List (Int × Int)) × Int) → Option (Int × (List (Int × Int)))) (m14 : (List (Int × Int)) → Option (Int × (List Int))) (m21 : ((List Int) × (List Int)) → Option (Int × Int)) (m17 : ((List Int) × Int) → Option Int) (m22 : ((List Int) × Int) → Option (Int × Int)) (L : Nat) (a0 : (List Int)) (v0_3 : (List (Int × Int))) (v0_5_0 : Int) (v0_5_1 : (List (Int × Int))) (v0_6_0 : Int) (v0_6_1 : (List Int)) (v0_9 : Int) (k : St cxT.ty → Option (V cxT.ty)) (xk : Nat → St cxT.ty → Option (V cxT.ty)) (g : St cxT.ty → Option (V cxT.ty)) (v2_3 : (List (Int × Int))) (v2_5_0 : Int) (v2_5_1 : (List (Int × Int))) (v2_6_0 : Int) (v2_6_1 : (List Int)) (v2_10_0 : Int) (v2_10_1 : Int) (v2_11 : Bool) (v2_12 : Int) : roundF prog (ev4 m12 m18 m19 m20 m14 m21 m17 m22) L f4 2 [1, 1, 1, 1, 1, 1, 1, 1, 1, 0, 1, 0, 0, 1, 0, 0, 1, 1, 0, 1, 0, 0] (outK (outV prog f4) k xk) g (S4_2 a0 v0_3 v0_5_0 v0_5_1 v0_6_0 v0_6_1 v0_9 v2_3 v2_5_0 v2_5_1 v2_6_0 v2_6_1 v2_10_0 v2_10_1 v2_11 v2_12) =
  bif (decide (v2_12 < (Nat.cast (List.length v2_3) : Int))) then bif v2_11 then g (S4_2 a0 v0_3 v0_5_0 v0_5_1 v0_6_0 v0_6_1 v0_9 v2_3 v2_5_0 v2_5_1 v2_6_0 v2_6_1 v2_10_0 v2_10_1 Bool.true (Go.IntKind.wrap Go.IntKind.i64 (v2_12 + (1 : Int))))
    else bif ((decide ((0 : Int) ≤ v2_12)) && (decide (v2_12 < (Nat.cast (List.length v2_3) : Int)))) then bif ((List.getD v2_3 (Int.toNat v2_12) ((0 : Int), (0 : Int))).1 == v2_10_1) then bif ((decide ((0 : Int) ≤ v2_12)) && (decide (v2_12 < (Nat.cast (List.length v2_3) : Int)))) then g (S4_2 a0 v0_3 v0_5_0 v0_5_1 v0_6_0 v0_6_1 v0_9 v2_3 v2_5_0 v2_5_1 v2_6_0 v2_6_1 v2_10_0 v2_10_1 (decide ((List.getD v2_3 (Int.toNat v2_12) ((0 : Int), (0 : Int))).2 > (0 : Int))) (Go.IntKind.wrap Go.IntKind.i64 (v2_12 + (1 : Int))))
        else none
      else g (S4_2 a0 v0_3 v0_5_0 v0_5_1 v0_6_0 v0_6_1 v0_9 v2_3 v2_5_0 v2_5_1 v2_6_0 v2_6_1 v2_10_0 v2_10_1 Bool.false (Go.IntKind.wrap Go.IntKind.i64 (v2_12 + (1 : Int))))
    else none
  else k (X4_2 a0 v0_3 v0_5_0 v0_5_1 v0_6_0 v0_6_1 v0_9 v2_3 v2_5_0 v2_5_1 v2_6_0 v2_6_1 v2_10_0 v2_10_1 v2_11) := by kernel_rfl
theorem t4_2 (m12 : (List Int) → Option Bool) (m18 : (List Int) → Option ((List (Int × Int)) × Int)) (m19 : ((List (Int × Int)) × Int) → Option (Int × (List (Int × Int)))) (m20 : ((List (Int × Int)) × Int) → Option (Int × (List (Int × Int)))) (m14 : (List (Int × Int)) → Option (Int × (List Int))) (m21 : ((List Int) × (List Int)) → Option (Int × Int)) (m17 : ((List Int) × Int) → Option Int) (m22 : ((List Int) × Int) → Option (Int × Int)) (L : Nat) (a0 : (List Int)) (v0_3 : (List (Int × Int))) (v0_5_0 : Int) (v0_5_1 : (List (Int × Int))) (v0_6_0 : Int) (v0_6_1 : (List Int)) (v0_9 : Int) (k : St cxT.ty → Option (V cxT.ty)) (xk : Nat → St cxT.ty → Option (V cxT.ty)) (g : St cxT.ty → Option (V cxT.ty)) (w2_3 : (List (Int × Int))) (w2_5_0 : Int) (w2_5_1 : (List (Int × Int))) (w2_6_0 : Int) (w2_6_1 : (List Int)) (w2_10_0 : Int) (w2_10_1 : Int) (w2_11 : Bool) : (inK prog (ev4 m12 m18 m19 m20 m14 m21 m17 m22) L f4 0 [1, 1, 1, 1, 1, 1, 1, 1, 1, 0, 1, 0, 0] [1, 0, 0, 1, 1, 0, 1] (outK (outV prog f4) k xk) g).n (X4_2 a0 v0_3 v0_5_0 v0_5_1 v0_6_0 v0_6_1 v0_9 w2_3 w2_5_0 w2_5_1 w2_6_0 w2_6_1 w2_10_0 w2_10_1 w2_11) =
  bif (w2_10_0 == (0 : Int)) then bif (!w2_11) then some (n4 Bool.false)
    else bif (w2_10_0 != (0 : Int)) then bif (w2_10_0 != (4 : Int)) then some (n4 Bool.false)
      else g (S4_0 a0 w2_3 w2_5_0 w2_5_1 w2_6_0 w2_6_1 (Go.IntKind.wrap Go.IntKind.i64 (v0_9 + (1 : Int))))
    else g (S4_0 a0 w2_3 w2_5_0 w2_5_1 w2_6_0 w2_6_1 (Go.IntKind.wrap Go.IntKind.i64 (v0_9 + (1 : Int))))
  else bif (w2_10_0 != (0 : Int)) then bif (w2_10_0 != (4 : Int)) then some (n4 Bool.false)
    else g (S4_0 a0 w2_3 w2_5_0 w2_5_1 w2_6_0 w2_6_1 (Go.IntKind.wrap Go.IntKind.i64 (v0_9 + (1 : Int))))
  else g (S4_0 a0 w2_3 w2_5_0 w2_5_1 w2_6_0 w2_6_1 (Go.IntKind.wrap Go.IntKind.i64 (v0_9 + (1 : Int)))) := by kernel_rfl
def l4_2 (m12 : (List Int) → Option Bool) (m18 : (List Int) → Option ((List (Int × Int)) × Int)) (m19 : ((List (Int × Int)) × Int) → Option (Int × (List (Int × Int)))) (m20 : ((List (Int × Int)) × Int) → Option (Int × (List (Int × Int)))) (m14 : (List (Int × Int)) → Option (Int × (List Int))) (m21 : ((List Int) × (List Int)) → Option (Int × Int)) (m17 : ((List Int) × Int) → Option Int) (m22 : ((List Int) × Int) → Option (Int × Int)) (L : Nat) (a0 : (List Int)) (v0_3 : (List (Int × Int))) (v0_5_0 : Int) (v0_5_1 : (List (Int × Int))) (v0_6_0 : Int) (v0_6_1 : (List Int)) (v0_9 : Int) : Nat → (List (Int × Int)) → Int → (List (Int × Int)) → Int → (List Int) → Int → Int → Bool → Int → ((List (Int × Int)) → Int → (List (Int × Int)) → Int → (List Int) → Int → Int → Bool → Option Bool) → Option Bool
  | 0, _, _, _, _, _, _, _, _, _, _ => none
  | n + 1, v2_3, v2_5_0, v2_5_1, v2_6_0, v2_6_1, v2_10_0, v2_10_1, v2_11, v2_12, k =>
    bif (decide (v2_12 < (Nat.cast (List.length v2_3) : Int))) then bif v2_11 then l4_2 m12 m18 m19 m20 m14 m21 m17 m22 L a0 v0_3 v0_5_0 v0_5_1 v0_6_0 v0_6_1 v0_9 n v2_3 v2_5_0 v2_5_1 v2_6_0 v2_6_1 v2_10_0 v2_10_1 Bool.true (Go.IntKind.wrap Go.IntKind.i64 (v2_12 + (1 : Int))) k
      else bif ((decide ((0 : Int) ≤ v2_12)) && (decide (v2_12 < (Nat.cast (List.length v2_3) : Int)))) then bif ((List.getD v2_3 (Int.toNat v2_12) ((0 : Int), (0 : Int))).1 == v2_10_1) then bif ((decide ((0 : Int) ≤ v2_12)) && (decide (v2_12 < (Nat.cast (List.length v2_3) : Int)))) then l4_2 m12 m18 m19 m20 m14 m21 m17 m22 L a0 v0_3 v0_5_0 v0_5_1 v0_6_0 v0_6_1 v0_9 n v2_3 v2_5_0 v2_5_1 v2_6_0 v2_6_1 v2_10_0 v2_10_1 (decide ((List.getD v2_3 (Int.toNat v2_12) ((0 : Int), (0 : Int))).2 > (0 : Int))) (Go.IntKind.wrap Go.IntKind.i64 (v2_12 + (1 : Int))) k
          else none
        else l4_2 m12 m18 m19 m20 m14 m21 m17 m22 L a0 v0_3 v0_5_0 v0_5_1 v0_6_0 v0_6_1 v0_9 n v2_3 v2_5_0 v2_5_1 v2_6_0 v2_6_1 v2_10_0 v2_10_1 Bool.false (Go.IntKind.wrap Go.IntKind.i64 (v2_12 + (1 : Int))) k
      else none
    else k v2_3 v2_5_0 v2_5_1 v2_6_0 v2_6_1 v2_10_0 v2_10_1 v2_11
theorem h4_2 (m12 : (List Int) → Option Bool) (m18 : (List Int) → Option ((List (Int × Int)) × Int)) (m19 : ((List (Int × Int)) × Int) → Option (Int × (List (Int × Int)))) (m20 : ((List (Int × Int)) × Int) → Option (Int × (List (Int × Int)))) (m14 : (List (Int × Int)) → Option (Int × (List Int))) (m21 : ((List Int) × (List Int)) → Option (Int × Int)) (m17 : ((List Int) × Int) → Option Int) (m22 : ((List Int) × Int) → Option (Int × Int)) (L : Nat) (a0 : (List Int)) (v0_3 : (List (Int × Int))) (v0_5_0 : Int) (v0_5_1 : (List (Int × Int))) (v0_6_0 : Int) (v0_6_1 : (List Int)) (v0_9 : Int) (k : St cxT.ty → Option (V cxT.ty)) (xk : Nat → St cxT.ty → Option (V cxT.ty)) (k' : (List (Int × Int)) → Int → (List (Int × Int)) → Int → (List Int) → Int → Int → Bool → Option Bool) (hk : ∀ (w2_3 : (List (Int × Int))) (w2_5_0 : Int) (w2_5_1 : (List (Int × Int))) (w2_6_0 : Int) (w2_6_1 : (List Int)) (w2_10_0 : Int) (w2_10_1 : Int) (w2_11 : Bool), k (X4_2 a0 v0_3 v0_5_0 v0_5_1 v0_6_0 v0_6_1 v0_9 w2_3 w2_5_0 w2_5_1 w2_6_0 w2_6_1 w2_10_0 w2_10_1 w2_11) = (k' w2_3 w2_5_0 w2_5_1 w2_6_0 w2_6_1 w2_10_0 w2_10_1 w2_11).map n4) : ∀ (n : Nat) (v2_3 : (List (Int × Int))) (v2_5_0 : Int) (v2_5_1 : (List (Int × Int))) (v2_6_0 : Int) (v2_6_1 : (List Int)) (v2_10_0 : Int) (v2_10_1 : Int) (v2_11 : Bool) (v2_12 : Int), headF prog (ev4 m12 m18 m19 m20 m14 m21 m17 m22) L f4 2 [1, 1, 1, 1, 1, 1, 1, 1, 1, 0, 1, 0, 0, 1, 0, 0, 1, 1, 0, 1, 0, 0] (outK (outV prog f4) k xk) n (S4_2 a0 v0_3 v0_5_0 v0_5_1 v0_6_0 v0_6_1 v0_9 v2_3 v2_5_0 v2_5_1 v2_6_0 v2_6_1 v2_10_0 v2_10_1 v2_11 v2_12) = (l4_2 m12 m18 m19 m20 m14 m21 m17 m22 L a0 v0_3 v0_5_0 v0_5_1 v0_6_0 v0_6_1 v0_9 n v2_3 v2_5_0 v2_5_1 v2_6_0 v2_6_1 v2_10_0 v2_10_1 v2_11 v2_12 k').map n4
  | 0, _, _, _, _, _, _, _, _, _ => rfl
  | n + 1, v2_3, v2_5_0, v2_5_1, v2_6_0, v2_6_1, v2_10_0, v2_10_1, v2_11, v2_12 => by
    rw [headF_round, r4_2]
    have ih := h4_2 m12 m18 m19 m20 m14 m21 m17 m22 L a0 v0_3 v0_5_0 v0_5_1 v0_6_0 v0_6_1 v0_9 k xk k' hk n
    simp only [l4_2, map_bif, map_tst, Option.map_some, Option.map_none, ih, hk]
def l4_0 (m12 : (List Int) → Option Bool) (m18 : (List Int) → Option ((List (Int × Int)) × Int)) (m19 : ((List (Int × Int)) × Int) → Option (Int × (List (Int × Int)))) (m20 : ((List (Int × Int)) × Int) → Option (Int × (List (Int × Int)))) (m14 : (List (Int × Int)) → Option (Int × (List Int))) (m21 : ((List Int) × (List Int)) → Option (Int × Int)) (m17 : ((List Int) × Int) → Option Int) (m22 : ((List Int) × Int) → Option (Int × Int)) (L : Nat) (a0 : (List Int)) : Nat → (List (Int × Int)) → Int → (List (Int × Int)) → Int → (List Int) → Int → ((List (Int × Int)) → Int → (List (Int × Int)) → Option Bool) → Option Bool
  | 0, _, _, _, _, _, _, _ => none
  | n + 1, v0_3, v0_5_0, v0_5_1, v0_6_0, v0_6_1, v0_9, k =>
    bif (decide (v0_9 < (40 : Int))) then tst (m22 (v0_6_1, (Go.IntKind.wrap Go.IntKind.i64 (v0_9 * (7919 : Int))))) ((0 : Int), (0 : Int)) fun (q3 : (Int × Int)) => l4_2 m12 m18 m19 m20 m14 m21 m17 m22 L a0 v0_3 v0_5_0 v0_5_1 v0_6_0 v0_6_1 v0_9 L v0_3 v0_5_0 v0_5_1 v0_6_0 v0_6_1 q3.1 q3.2 Bool.false (0 : Int) (fun (w2_3 : (List (Int × Int))) (w2_5_0 : Int) (w2_5_1 : (List (Int × Int))) (w2_6_0 : Int) (w2_6_1 : (List Int)) (w2_10_0 : Int) (w2_10_1 : Int) (w2_11 : Bool) => bif (w2_10_0 == (0 : Int)) then bif (!w2_11) then some Bool.false
            else bif (w2_10_0 != (0 : Int)) then bif (w2_10_0 != (4 : Int)) then some Bool.false
              else l4_0 m12 m18 m19 m20 m14 m21 m17 m22 L a0 n w2_3 w2_5_0 w2_5_1 w2_6_0 w2_6_1 (Go.IntKind.wrap Go.IntKind.i64 (v0_9 + (1 : Int))) k
            else l4_0 m12 m18 m19 m20 m14 m21 m17 m22 L a0 n w2_3 w2_5_0 w2_5_1 w2_6_0 w2_6_1 (Go.IntKind.wrap Go.IntKind.i64 (v0_9 + (1 : Int))) k
          else bif (w2_10_0 != (0 : Int)) then bif (w2_10_0 != (4 : Int)) then some Bool.false
            else l4_0 m12 m18 m19 m20 m14 m21 m17 m22 L a0 n w2_3 w2_5_0 w2_5_1 w2_6_0 w2_6_1 (Go.IntKind.wrap Go.IntKind.i64 (v0_9 + (1 : Int))) k
          else l4_0 m12 m18 m19 m20 m14 m21 m17 m22 L a0 n w2_3 w2_5_0 w2_5_1 w2_6_0 w2_6_1 (Go.IntKind.wrap Go.IntKind.i64 (v0_9 + (1 : Int))) k)
    else k v0_3 v0_5_0 v0_5_1
theorem h4_0 (m12 : (List Int) → Option Bool) (m18 : (List Int) → Option ((List (Int × Int)) × Int)) (m19 : ((List (Int × Int)) × Int) → Option (Int × (List (Int × Int)))) (m20 : ((List (Int × Int)) × Int) → Option (Int × (List (Int × Int)))) (m14 : (List (Int × Int)) → Option (Int × (List Int))) (m21 : ((List Int) × (List Int)) → Option (Int × Int)) (m17 : ((List Int) × Int) → Option Int) (m22 : ((List Int) × Int) → Option (Int × Int)) (L : Nat) (a0 : (List Int)) (k : St cxT.ty → Option (V cxT.ty)) (xk : Nat → St cxT.ty → Option (V cxT.ty)) (k' : (List (Int × Int)) → Int → (List (Int × Int)) → Option Bool) (hk : ∀ (w0_3 : (List (Int × Int))) (w0_5_0 : Int) (w0_5_1 : (List (Int × Int))), k (X4_0 a0 w0_3 w0_5_0 w0_5_1) = (k' w0_3 w0_5_0 w0_5_1).map n4) : ∀ (n : Nat) (v0_3 : (List (Int × Int))) (v0_5_0 : Int) (v0_5_1 : (List (Int × Int))) (v0_6_0 : Int) (v0_6_1 : (List Int)) (v0_9 : Int), headF prog (ev4 m12 m18 m19 m20 m14 m21 m17 m22) L f4 0 [1, 1, 1, 1, 1, 1, 1, 1, 1, 0, 1, 0, 0] (outK (outV prog f4) k xk) n (S4_0 a0 v0_3 v0_5_0 v0_5_1 v0_6_0 v0_6_1 v0_9) = (l4_0 m12 m18 m19 m20 m14 m21 m17 m22 L a0 n v0_3 v0_5_0 v0_5_1 v0_6_0 v0_6_1 v0_9 k').map n4
  | 0, _, _, _, _, _, _ => rfl
  | n + 1, v0_3, v0_5_0, v0_5_1, v0_6_0, v0_6_1, v0_9 => by
    rw [headF_round, r4_0]
    have ih := h4_0 m12 m18 m19 m20 m14 m21 m17 m22 L a0 k xk k' hk n
    let K'2 : (List (Int × Int)) → Int → (List (Int × Int)) → Int → (List Int) → Int → Int → Bool → Option Bool := (fun (w2_3 : (List (Int × Int))) (w2_5_0 : Int) (w2_5_1 : (List (Int × Int))) (w2_6_0 : Int) (w2_6_1 : (List Int)) (w2_10_0 : Int) (w2_10_1 : Int) (w2_11 : Bool) => bif (w2_10_0 == (0 : Int)) then bif (!w2_11) then some Bool.false
        else bif (w2_10_0 != (0 : Int)) then bif (w2_10_0 != (4 : Int)) then some Bool.false
          else l4_0 m12 m18 m19 m20 m14 m21 m17 m22 L a0 n w2_3 w2_5_0 w2_5_1 w2_6_0 w2_6_1 (Go.IntKind.wrap Go.IntKind.i64 (v0_9 + (1 : Int))) k'
        else l4_0 m12 m18 m19 m20 m14 m21 m17 m22 L a0 n w2_3 w2_5_0 w2_5_1 w2_6_0 w2_6_1 (Go.IntKind.wrap Go.IntKind.i64 (v0_9 + (1 : Int))) k'
      else bif (w2_10_0 != (0 : Int)) then bif (w2_10_0 != (4 : Int)) then some Bool.false
        else l4_0 m12 m18 m19 m20 m14 m21 m17 m22 L a0 n w2_3 w2_5_0 w2_5_1 w2_6_0 w2_6_1 (Go.IntKind.wrap Go.IntKind.i64 (v0_9 + (1 : Int))) k'
      else l4_0 m12 m18 m19 m20 m14 m21 m17 m22 L a0 n w2_3 w2_5_0 w2_5_1 w2_6_0 w2_6_1 (Go.IntKind.wrap Go.IntKind.i64 (v0_9 + (1 : Int))) k')
    have hin2 : ∀ (v2_3 : (List (Int × Int))) (v2_5_0 : Int) (v2_5_1 : (List (Int × Int))) (v2_6_0 : Int) (v2_6_1 : (List Int)) (v2_10_0 : Int) (v2_10_1 : Int) (v2_11 : Bool) (v2_12 : Int), headF prog (ev4 m12 m18 m19 m20 m14 m21 m17 m22) L f4 2 [1, 1, 1, 1, 1, 1, 1, 1, 1, 0, 1, 0, 0, 1, 0, 0, 1, 1, 0, 1, 0, 0] (outK (outV prog f4) (inK prog (ev4 m12 m18 m19 m20 m14 m21 m17 m22) L f4 0 [1, 1, 1, 1, 1, 1, 1, 1, 1, 0, 1, 0, 0] [1, 0, 0, 1, 1, 0, 1] (outK (outV prog f4) k xk) (headF prog (ev4 m12 m18 m19 m20 m14 m21 m17 m22) L f4 0 [1, 1, 1, 1, 1, 1, 1, 1, 1, 0, 1, 0, 0] (outK (outV prog f4) k xk) n)).n (inK prog (ev4 m12 m18 m19 m20 m14 m21 m17 m22) L f4 0 [1, 1, 1, 1, 1, 1, 1, 1, 1, 0, 1, 0, 0] [1, 0, 0, 1, 1, 0, 1] (outK (outV prog f4) k xk) (headF prog (ev4 m12 m18 m19 m20 m14 m21 m17 m22) L f4 0 [1, 1, 1, 1, 1, 1, 1, 1, 1, 0, 1, 0, 0] (outK (outV prog f4) k xk) n)).x) L (S4_2 a0 v0_3 v0_5_0 v0_5_1 v0_6_0 v0_6_1 v0_9 v2_3 v2_5_0 v2_5_1 v2_6_0 v2_6_1 v2_10_0 v2_10_1 v2_11 v2_12) = (l4_2 m12 m18 m19 m20 m14 m21 m17 m22 L a0 v0_3 v0_5_0 v0_5_1 v0_6_0 v0_6_1 v0_9 L v2_3 v2_5_0 v2_5_1 v2_6_0 v2_6_1 v2_10_0 v2_10_1 v2_11 v2_12 K'2).map n4 := fun v2_3 v2_5_0 v2_5_1 v2_6_0 v2_6_1 v2_10_0 v2_10_1 v2_11 v2_12 => h4_2 m12 m18 m19 m20 m14 m21 m17 m22 L a0 v0_3 v0_5_0 v0_5_1 v0_6_0 v0_6_1 v0_9 _ _ (K'2) (fun w2_3 w2_5_0 w2_5_1 w2_6_0 w2_6_1 w2_10_0 w2_10_1 w2_11 => by rw [t4_2]; simp only [K'2, map_bif, map_tst, Option.map_some, Option.map_none, ih, hk]) L v2_3 v2_5_0 v2_5_1 v2_6_0 v2_6_1 v2_10_0 v2_10_1 v2_11 v2_12
    simp only [l4_0, map_bif, map_tst, Option.map_some, Option.map_none, ih, hk, hin2, K'2]
def g4 (m12 : (List Int) → Option Bool) (m18 : (List Int) → Option ((List (Int × Int)) × Int)) (m19 : ((List (Int × Int)) × Int) → Option (Int × (List (Int × Int)))) (m20 : ((List (Int × Int)) × Int) → Option (Int × (List (Int × Int)))) (m14 : (List (Int × Int)) → Option (Int × (List Int))) (m21 : ((List Int) × (List Int)) → Option (Int × Int)) (m17 : ((List Int) × Int) → Option Int) (m22 : ((List Int) × Int) → Option (Int × Int)) (L : Nat) (a0 : (List Int)) : Option Bool :=
  tst (m12 a0) false fun (q1 : Bool) => bif q1 then some Bool.true
    else tst (m18 a0) ([], (0 : Int)) fun (q2 : ((List (Int × Int)) × Int)) => tst (m19 (q2.1, q2.2)) ((0 : Int), []) fun (q3 : (Int × (List (Int × Int)))) => bif (q3.1 != (0 : Int)) then tst (m20 (q2.1, q2.2)) ((0 : Int), []) fun (q5 : (Int × (List (Int × Int)))) => some (q5.1 == q3.1)
        else tst (m14 q2.1) ((0 : Int), []) fun (q4 : (Int × (List Int))) => tst (m14 q3.2) ((0 : Int), []) fun (q5 : (Int × (List Int))) => tst (m21 (q4.2, q5.2)) ((0 : Int), (0 : Int)) fun (q6 : (Int × Int)) => bif (q4.1 != (0 : Int)) then some Bool.false
              else bif (q5.1 != (0 : Int)) then some Bool.false
              else tst (m17 (q5.2, q2.2)) (0 : Int) fun (q7 : Int) => bif (q7 != (0 : Int)) then some Bool.false
                else bif (q6.1 != (0 : Int)) then some Bool.false
                else tst (m17 (q4.2, q2.2)) (0 : Int) fun (q8 : Int) => bif (decide (q6.2 < q8)) then some Bool.false
                  else l4_0 m12 m18 m19 m20 m14 m21 m17 m22 L a0 L q2.1 q3.1 q3.2 q4.1 q4.2 (0 : Int) (fun (w0_3 : (List (Int × Int))) (w0_5_0 : Int) (w0_5_1 : (List (Int × Int))) => some ((Nat.cast (List.length w0_5_1) : Int) == (Go.IntKind.wrap Go.IntKind.i64 ((Nat.cast (List.length w0_3) : Int) - (1 : Int)))))
theorem e4 (m12 : (List Int) → Option Bool) (m18 : (List Int) → Option ((List (Int × Int)) × Int)) (m19 : ((List (Int × Int)) × Int) → Option (Int × (List (Int × Int)))) (m20 : ((List (Int × Int)) × Int) → Option (Int × (List (Int × Int)))) (m14 : (List (Int × Int)) → Option (Int × (List Int))) (m21 : ((List Int) × (List Int)) → Option (Int × Int)) (m17 : ((List Int) × Int) → Option Int) (m22 : ((List Int) × Int) → Option (Int × Int)) (L : Nat) (a0 : (List Int)) : evF prog (ev4 m12 m18 m19 m20 m14 m21 m17 m22) (loopN L) f4 (a4.enc a0) = (g4 m12 m18 m19 m20 m14 m21 m17 m22 L a0).map n4 := by
  let K'0 : (List (Int × Int)) → Int → (List (Int × Int)) → Option Bool := (fun (w0_3 : (List (Int × Int))) (w0_5_0 : Int) (w0_5_1 : (List (Int × Int))) => some ((Nat.cast (List.length w0_5_1) : Int) == (Go.IntKind.wrap Go.IntKind.i64 ((Nat.cast (List.length w0_3) : Int) - (1 : Int)))))
  have hin0 : ∀ (v0_3 : (List (Int × Int))) (v0_5_0 : Int) (v0_5_1 : (List (Int × Int))) (v0_6_0 : Int) (v0_6_1 : (List Int)) (v0_9 : Int), headF prog (ev4 m12 m18 m19 m20 m14 m21 m17 m22) L f4 0 [1, 1, 1, 1, 1, 1, 1, 1, 1, 0, 1, 0, 0] (outK (outV prog f4) (topK prog (ev4 m12 m18 m19 m20 m14 m21 m17 m22) L f4 [1, 1, 1, 1, 1, 1, 1, 1, 1, 0, 1] (outV prog f4)).n (topK prog (ev4 m12 m18 m19 m20 m14 m21 m17 m22) L f4 [1, 1, 1, 1, 1, 1, 1, 1, 1, 0, 1] (outV prog f4)).x) L (S4_0 a0 v0_3 v0_5_0 v0_5_1 v0_6_0 v0_6_1 v0_9) = (l4_0 m12 m18 m19 m20 m14 m21 m17 m22 L a0 L v0_3 v0_5_0 v0_5_1 v0_6_0 v0_6_1 v0_9 K'0).map n4 := fun v0_3 v0_5_0 v0_5_1 v0_6_0 v0_6_1 v0_9 => h4_0 m12 m18 m19 m20 m14 m21 m17 m22 L a0 _ _ K'0 (fun w0_3 w0_5_0 w0_5_1 => by rw [t4_0]; simp only [K'0, map_bif, map_tst, Option.map_some, Option.map_none]) L v0_3 v0_5_0 v0_5_1 v0_6_0 v0_6_1 v0_9
  rw [i4]; simp only [g4, map_bif, map_tst, Option.map_some, Option.map_none, hin0, K'0]
theorem s4 (m12 : (List Int) → Option Bool) (m18 : (List Int) → Option ((List (Int × Int)) × Int)) (m19 : ((List (Int × Int)) × Int) → Option (Int × (List (Int × Int)))) (m20 : ((List (Int × Int)) × Int) → Option (Int × (List (Int × Int)))) (m14 : (List (Int × Int)) → Option (Int × (List Int))) (m21 : ((List Int) × (List Int)) → Option (Int × Int)) (m17 : ((List Int) × Int) → Option Int) (m22 : ((List Int) × Int) → Option (Int × Int)) (h12 : Sat prog cxT 12 (c12 m12)) (h18 : Sat prog cxT 18 (c18 m18)) (h19 : Sat prog cxT 19 (c19 m19)) (h20 : Sat prog cxT 20 (c20 m20)) (h14 : Sat prog cxT 14 (c14 m14)) (h21 : Sat prog cxT 21 (c21 m21)) (h17 : Sat prog cxT 17 (c17 m17)) (h22 : Sat prog cxT 22 (c22 m22)) (m : (List Int) → Option Bool) (hm : ∀ (x : (List Int)) t, m x = some t → ∃ L, g4 m12 m18 m19 m20 m14 m21 m17 m22 L x = some t) : Sat prog cxT 4 (c4 m) :=
  sat_t cxT_ok cxT_pok (by rfl) (fn := f4) rfl a4 n4 dd4 m (ev4 m12 m18 m19 m20 m14 m21 m17 m22) (kok_cons h12 (kok_cons h18 (kok_cons h19 (kok_cons h20 (kok_cons h14 (kok_cons h21 (kok_cons h17 (kok_cons h22 kok_nil)))))))) kwok_nil (fun L x => g4 m12 m18 m19 m20 m14 m21 m17 m22 L x) (fun L x => e4 m12 m18 m19 m20 m14 m21 m17 m22 L x) hm hs4
end Go.Proofs.Try

set_option maxHeartbeats 0
set_option linter.unusedVariables false
set_option linter.unusedSimpArgs false
namespace Go.Proofs.Try
open Go Go.VM Go.RowKit
/-! loop.example/g00222/spec.l1Chance -/
def ev51 (m52 : (((List Int) × Int) × Int) → Option (Int × (List Int) × Int)) : Env cxT := { Kc := kcOf [], Kw := kwOf [(52, c52 m52)], lv := fun i => [], xv := fun i => none }
theorem i51 (m52 : (((List Int) × Int) × Int) → Option (Int × (List Int) × Int)) (L : Nat) (a0_0 : (List Int)) (a0_1 : Int) (a1 : Int) : evFP prog (ev51 m52) (loopN L) f51 (a51.enc ((a0_0, a0_1), a1)) =
  tst (m52 ((a0_0, a0_1), a1)) ((0 : Int), [], (0 : Int)) fun (q1 : (Int × (List Int) × Int)) => some (n51 ((q1.1 == (0 : Int)), q1.2.1, q1.2.2)) := by kernel_rfl
def g51 (m52 : (((List Int) × Int) × Int) → Option (Int × (List Int) × Int)) (L : Nat) (a0_0 : (List Int)) (a0_1 : Int) (a1 : Int) : Option (Bool × (List Int) × Int) :=
  tst (m52 ((a0_0, a0_1), a1)) ((0 : Int), [], (0 : Int)) fun (q1 : (Int × (List Int) × Int)) => some ((q1.1 == (0 : Int)), q1.2.1, q1.2.2)
theorem e51 (m52 : (((List Int) × Int) × Int) → Option (Int × (List Int) × Int)) (L : Nat) (a0_0 : (List Int)) (a0_1 : Int) (a1 : Int) : evFP prog (ev51 m52) (loopN L) f51 (a51.enc ((a0_0, a0_1), a1)) = (g51 m52 L a0_0 a0_1 a1).map n51 := by
  rw [i51]; simp only [g51, map_bif, map_tst, Option.map_some, Option.map_none]
theorem s51 (m52 : (((List Int) × Int) × Int) → Option (Int × (List Int) × Int)) (h52 : SatP prog cxT 52 (c52 m52).nres (c52 m52).F) (m : (((List Int) × Int) × Int) → Option (Bool × (List Int) × Int)) (hm : ∀ (x : (((List Int) × Int) × Int)) t, m x = some t → ∃ L, g51 m52 L x.1.1 x.1.2 x.2 = some t) : SatP prog cxT 51 (c51 m).nres (c51 m).F :=
  sat_p cxT_ok cxT_pok (by rfl) (fn := f51) rfl rfl a51 n51 dd51 m (ev51 m52) kok_nil (kwok_cons h52 kwok_nil) (fun L x => g51 m52 L x.1.1 x.1.2 x.2) (fun L x => e51 m52 L x.1.1 x.1.2 x.2) hm
end Go.Proofs.Try
