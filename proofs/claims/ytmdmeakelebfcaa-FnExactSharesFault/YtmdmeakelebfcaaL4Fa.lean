/- A part of the proof of FnExactSharesFault: L4Fa. -/
import Derived.Test.YtmdmeakelebfcaaL4Con
set_option maxHeartbeats 0
set_option linter.unusedVariables false
set_option linter.unusedSimpArgs false
namespace Go.Proofs.Try
open Go Go.VM Go.RowKit
/-! loop.example/g00222/impl.isWeight -/
def ev57 : Env cxT := { Kc := kcOf [], Kw := kwOf [], lv := fun i => [], xv := fun i => none }
theorem i57 (L : Nat) (a0 : Int) : evF prog ev57 (loopN L) f57 (a57.enc a0) =
  bif (decide (a0 ≥ (0 : Int))) then some (n57 (decide (a0 ≤ (9 : Int))))
  else some (n57 Bool.false) := by kernel_rfl
def g57 (L : Nat) (a0 : Int) : Option Bool :=
  bif (decide (a0 ≥ (0 : Int))) then some (decide (a0 ≤ (9 : Int)))
  else some Bool.false
theorem e57 (L : Nat) (a0 : Int) : evF prog ev57 (loopN L) f57 (a57.enc a0) = (g57 L a0).map n57 := by
  rw [i57]; simp only [g57, map_bif, map_tst, Option.map_some, Option.map_none]
theorem s57 (m : Int → Option Bool) (hm : ∀ (x : Int) t, m x = some t → ∃ L, g57 L x = some t) : Sat prog cxT 57 (c57 m) :=
  sat_t cxT_ok cxT_pok (by rfl) (fn := f57) rfl a57 n57 dd57 m ev57 kok_nil kwok_nil (fun L x => g57 L x) (fun L x => e57 L x) hm hs57
/-! loop.example/g00222/impl.isName -/
def ev56 : Env cxT := { Kc := kcOf [], Kw := kwOf [], lv := fun i => [], xv := fun i => none }
theorem i56 (L : Nat) (a0 : Int) : evF prog ev56 (loopN L) f56 (a56.enc a0) =
  bif (decide (a0 ≥ (1 : Int))) then some (n56 (decide (a0 ≤ (999 : Int))))
  else some (n56 Bool.false) := by kernel_rfl
def g56 (L : Nat) (a0 : Int) : Option Bool :=
  bif (decide (a0 ≥ (1 : Int))) then some (decide (a0 ≤ (999 : Int)))
  else some Bool.false
theorem e56 (L : Nat) (a0 : Int) : evF prog ev56 (loopN L) f56 (a56.enc a0) = (g56 L a0).map n56 := by
  rw [i56]; simp only [g56, map_bif, map_tst, Option.map_some, Option.map_none]
theorem s56 (m : Int → Option Bool) (hm : ∀ (x : Int) t, m x = some t → ∃ L, g56 L x = some t) : Sat prog cxT 56 (c56 m) :=
  sat_t cxT_ok cxT_pok (by rfl) (fn := f56) rfl a56 n56 dd56 m ev56 kok_nil kwok_nil (fun L x => g56 L x) (fun L x => e56 L x) hm hs56
/-! loop.example/g00222/spec.l3Name -/
def ev53 (m54 : (Int × Int × Int) → Option Bool) : Env cxT := { Kc := kcOf [(54, c54 m54)], Kw := kwOf [], lv := fun i => [], xv := fun i => none }
theorem i53 (m54 : (Int × Int × Int) → Option Bool) (L : Nat) (a0 : Int) : evF prog (ev53 m54) (loopN L) f53 (a53.enc a0) =
  tst (m54 (a0, ((1 : Int), (999 : Int)))) false fun (q1 : Bool) => some (n53 q1) := by kernel_rfl
def g53 (m54 : (Int × Int × Int) → Option Bool) (L : Nat) (a0 : Int) : Option Bool :=
  tst (m54 (a0, ((1 : Int), (999 : Int)))) false fun (q1 : Bool) => some q1
theorem e53 (m54 : (Int × Int × Int) → Option Bool) (L : Nat) (a0 : Int) : evF prog (ev53 m54) (loopN L) f53 (a53.enc a0) = (g53 m54 L a0).map n53 := by
  rw [i53]; simp only [g53, map_bif, map_tst, Option.map_some, Option.map_none]
theorem s53 (m54 : (Int × Int × Int) → Option Bool) (h54 : Sat prog cxT 54 (c54 m54)) (m : Int → Option Bool) (hm : ∀ (x : Int) t, m x = some t → ∃ L, g53 m54 L x = some t) : Sat prog cxT 53 (c53 m) :=
  sat_t cxT_ok cxT_pok (by rfl) (fn := f53) rfl a53 n53 dd53 m (ev53 m54) (kok_cons h54 kok_nil) kwok_nil (fun L x => g53 m54 L x) (fun L x => e53 m54 L x) hm hs53
/-! loop.example/g00222/spec.l1In -/
def ev54 : Env cxT := { Kc := kcOf [], Kw := kwOf [], lv := fun i => [], xv := fun i => none }
theorem i54 (L : Nat) (a0 : Int) (a1 : Int) (a2 : Int) : evF prog ev54 (loopN L) f54 (a54.enc (a0, a1, a2)) =
  bif (decide (a0 ≥ a1)) then some (n54 (decide (a0 ≤ a2)))
  else some (n54 Bool.false) := by kernel_rfl
def g54 (L : Nat) (a0 : Int) (a1 : Int) (a2 : Int) : Option Bool :=
  bif (decide (a0 ≥ a1)) then some (decide (a0 ≤ a2))
  else some Bool.false
theorem e54 (L : Nat) (a0 : Int) (a1 : Int) (a2 : Int) : evF prog ev54 (loopN L) f54 (a54.enc (a0, a1, a2)) = (g54 L a0 a1 a2).map n54 := by
  rw [i54]; simp only [g54, map_bif, map_tst, Option.map_some, Option.map_none]
theorem s54 (m : (Int × Int × Int) → Option Bool) (hm : ∀ (x : (Int × Int × Int)) t, m x = some t → ∃ L, g54 L x.1 x.2.1 x.2.2 = some t) : Sat prog cxT 54 (c54 m) :=
  sat_t cxT_ok cxT_pok (by rfl) (fn := f54) rfl a54 n54 dd54 m ev54 kok_nil kwok_nil (fun L x => g54 L x.1 x.2.1 x.2.2) (fun L x => e54 L x.1 x.2.1 x.2.2) hm hs54
/-! loop.example/g00222/impl.tableFault -/
def ev47 : Env cxT := { Kc := kcOf [], Kw := kwOf [], lv := fun i => [], xv := fun i => none }
theorem i47 (L : Nat) (a0 : (List Int)) : evF prog ev47 (loopN L) f47 (a47.enc a0) =
  bif ((Nat.cast (List.length a0) : Int) != (31 : Int)) then some (n47 (1 : Int))
  else some (n47 (0 : Int)) := by kernel_rfl
def g47 (L : Nat) (a0 : (List Int)) : Option Int :=
  bif ((Nat.cast (List.length a0) : Int) != (31 : Int)) then some (1 : Int)
  else some (0 : Int)
theorem e47 (L : Nat) (a0 : (List Int)) : evF prog ev47 (loopN L) f47 (a47.enc a0) = (g47 L a0).map n47 := by
  rw [i47]; simp only [g47, map_bif, map_tst, Option.map_some, Option.map_none]
theorem s47 (m : (List Int) → Option Int) (hm : ∀ (x : (List Int)) t, m x = some t → ∃ L, g47 L x = some t) : Sat prog cxT 47 (c47 m) :=
  sat_t cxT_ok cxT_pok (by rfl) (fn := f47) rfl a47 n47 dd47 m ev47 kok_nil kwok_nil (fun L x => g47 L x) (fun L x => e47 L x) hm hs47
/-! loop.example/g00222/laws.toShare -/
def ev55 : Env cxT := { Kc := kcOf [], Kw := kwOf [], lv := fun i => [], xv := fun i => none }
theorem i55 (L : Nat) (a0_0 : Int) (a0_1 : Int) : evF prog ev55 (loopN L) f55 (a55.enc (a0_0, a0_1)) =
  some (n55 (a0_0, a0_1)) := by kernel_rfl
def g55 (L : Nat) (a0_0 : Int) (a0_1 : Int) : Option (Int × Int) :=
  some (a0_0, a0_1)
theorem e55 (L : Nat) (a0_0 : Int) (a0_1 : Int) : evF prog ev55 (loopN L) f55 (a55.enc (a0_0, a0_1)) = (g55 L a0_0 a0_1).map n55 := by
  rw [i55]; simp only [g55, map_bif, map_tst, Option.map_some, Option.map_none]
theorem s55 (m : (Int × Int) → Option (Int × Int)) (hm : ∀ (x : (Int × Int)) t, m x = some t → ∃ L, g55 L x.1 x.2 = some t) : Sat prog cxT 55 (c55 m) :=
  sat_t cxT_ok cxT_pok (by rfl) (fn := f55) rfl a55 n55 dd55 m ev55 kok_nil kwok_nil (fun L x => g55 L x.1 x.2) (fun L x => e55 L x.1 x.2) hm hs55
/-! loop.example/g00222/laws.eqShare -/
def ev58 : Env cxT := { Kc := kcOf [], Kw := kwOf [], lv := fun i => [], xv := fun i => none }
theorem i58 (L : Nat) (a0_0 : Int) (a0_1 : Int) (a1_0 : Int) (a1_1 : Int) : evF prog ev58 (loopN L) f58 (a58.enc ((a0_0, a0_1), (a1_0, a1_1))) =
  bif (a0_0 != a1_0) then some (n58 Bool.false)
  else bif (a0_1 != a1_1) then some (n58 Bool.false)
  else some (n58 Bool.true) := by kernel_rfl
def g58 (L : Nat) (a0_0 : Int) (a0_1 : Int) (a1_0 : Int) (a1_1 : Int) : Option Bool :=
  bif (a0_0 != a1_0) then some Bool.false
  else bif (a0_1 != a1_1) then some Bool.false
  else some Bool.true
theorem e58 (L : Nat) (a0_0 : Int) (a0_1 : Int) (a1_0 : Int) (a1_1 : Int) : evF prog ev58 (loopN L) f58 (a58.enc ((a0_0, a0_1), (a1_0, a1_1))) = (g58 L a0_0 a0_1 a1_0 a1_1).map n58 := by
  rw [i58]; simp only [g58, map_bif, map_tst, Option.map_some, Option.map_none]
theorem s58 (m : ((Int × Int) × (Int × Int)) → Option Bool) (hm : ∀ (x : ((Int × Int) × (Int × Int))) t, m x = some t → ∃ L, g58 L x.1.1 x.1.2 x.2.1 x.2.2 = some t) : Sat prog cxT 58 (c58 m) :=
  sat_t cxT_ok cxT_pok (by rfl) (fn := f58) rfl a58 n58 dd58 m ev58 kok_nil kwok_nil (fun L x => g58 L x.1.1 x.1.2 x.2.1 x.2.2) (fun L x => e58 L x.1.1 x.1.2 x.2.1 x.2.2) hm hs58
/-! loop.example/g00222/laws.szShareS -/
def ev23 : Env cxT := { Kc := kcOf [], Kw := kwOf [], lv := fun i => [], xv := fun i => none }
theorem i23 (L : Nat) (a0 : (List (Int × Int))) (a1 : Int) : evF prog ev23 (loopN L) f23 (a23.enc (a0, a1)) =
  bif (decide ((Go.IntKind.wrap Go.IntKind.i64 (a1 - (Nat.cast (List.length a0) : Int))) < (0 : Int))) then some (n23 (-(1 : Int)))
  else some (n23 (Go.IntKind.wrap Go.IntKind.i64 (a1 - (Nat.cast (List.length a0) : Int)))) := by kernel_rfl
def g23 (L : Nat) (a0 : (List (Int × Int))) (a1 : Int) : Option Int :=
  bif (decide ((Go.IntKind.wrap Go.IntKind.i64 (a1 - (Nat.cast (List.length a0) : Int))) < (0 : Int))) then some (-(1 : Int))
  else some (Go.IntKind.wrap Go.IntKind.i64 (a1 - (Nat.cast (List.length a0) : Int)))
theorem e23 (L : Nat) (a0 : (List (Int × Int))) (a1 : Int) : evF prog ev23 (loopN L) f23 (a23.enc (a0, a1)) = (g23 L a0 a1).map n23 := by
  rw [i23]; simp only [g23, map_bif, map_tst, Option.map_some, Option.map_none]
theorem s23 (m : ((List (Int × Int)) × Int) → Option Int) (hm : ∀ (x : ((List (Int × Int)) × Int)) t, m x = some t → ∃ L, g23 L x.1 x.2 = some t) : Sat prog cxT 23 (c23 m) :=
  sat_t cxT_ok cxT_pok (by rfl) (fn := f23) rfl a23 n23 dd23 m ev23 kok_nil kwok_nil (fun L x => g23 L x.1 x.2) (fun L x => e23 L x.1 x.2) hm hs23
/-! loop.example/g00222/impl.CountOf -/
def ev17 : Env cxT := { Kc := kcOf [], Kw := kwOf [], lv := fun i => if i = 0 then [(1, []), (5, []), (8, [some 2]), (9, []), (10, [])] else [], xv := fun i => if i = 0 then some [(5, [])] else none }
def S17_0 (a0 : (List Int)) (a1 : Int) (v0_5 : Int) (v0_10 : Int) : St cxT.ty := { slots := [junk, (.inl (.inl (lv (.int .i64 a1)))), junk, junk, junk, (.inl (.inl (lv (.int .i64 v0_5)))), junk, junk, (.inl (.inl (ls { own := 0, nm := 0, e := 2, o := false, xs := a0 }))), (.inl (.inl (lv (.int .i64 (Nat.cast (List.length a0) : Int))))), (.inl (.inl (lv (.int .i64 v0_10))))] ++ List.replicate 10 junk, D := [], F := [], ctr := 1 }
def X17_0 (a0 : (List Int)) (a1 : Int) (w0_5 : Int) : St cxT.ty := { slots := [junk, junk, junk, junk, junk, (.inl (.inl (lv (.int .i64 w0_5))))] ++ List.replicate 15 junk, D := [], F := [], ctr := 1 }
theorem i17 (L : Nat) (a0 : (List Int)) (a1 : Int) : evF prog ev17 (loopN L) f17 (a17.enc (a0, a1)) =
  headF prog ev17 L f17 0 [1, 1, 0, 1, 0, 0] (outK (outV prog f17) (topK prog ev17 L f17 [1, 1, 0, 1] (outV prog f17)).n (topK prog ev17 L f17 [1, 1, 0, 1] (outV prog f17)).x) L (S17_0 a0 a1 (0 : Int) (0 : Int)) := by kernel_rfl
theorem r17_0 (L : Nat) (a0 : (List Int)) (a1 : Int) (k : St cxT.ty → Option (V cxT.ty)) (xk : Nat → St cxT.ty → Option (V cxT.ty)) (g : St cxT.ty → Option (V cxT.ty)) (v0_5 : Int) (v0_10 : Int) : roundF prog ev17 L f17 0 [1, 1, 0, 1, 0, 0] (outK (outV prog f17) k xk) g (S17_0 a0 a1 v0_5 v0_10) =
  bif (decide (v0_10 < (Nat.cast (List.length a0) : Int))) then bif ((decide ((0 : Int) ≤ v0_10)) && (decide (v0_10 < (Nat.cast (List.length a0) : Int)))) then bif ((List.getD a0 (Int.toNat v0_10) (0 : Int)) == a1) then g (S17_0 a0 a1 (Go.IntKind.wrap Go.IntKind.i64 (v0_5 + (1 : Int))) (Go.IntKind.wrap Go.IntKind.i64 (v0_10 + (1 : Int))))
      else g (S17_0 a0 a1 v0_5 (Go.IntKind.wrap Go.IntKind.i64 (v0_10 + (1 : Int))))
    else none
  else k (X17_0 a0 a1 v0_5) := by kernel_rfl
theorem t17_0 (L : Nat) (a0 : (List Int)) (a1 : Int) (w0_5 : Int) : (topK prog ev17 L f17 [1, 1, 0, 1] (outV prog f17)).n (X17_0 a0 a1 w0_5) =
  some (n17 w0_5) := by kernel_rfl
def l17_0 (L : Nat) (a0 : (List Int)) (a1 : Int) : Nat → Int → Int → (Int → Option Int) → Option Int
  | 0, _, _, _ => none
  | n + 1, v0_5, v0_10, k =>
    bif (decide (v0_10 < (Nat.cast (List.length a0) : Int))) then bif ((decide ((0 : Int) ≤ v0_10)) && (decide (v0_10 < (Nat.cast (List.length a0) : Int)))) then bif ((List.getD a0 (Int.toNat v0_10) (0 : Int)) == a1) then l17_0 L a0 a1 n (Go.IntKind.wrap Go.IntKind.i64 (v0_5 + (1 : Int))) (Go.IntKind.wrap Go.IntKind.i64 (v0_10 + (1 : Int))) k
        else l17_0 L a0 a1 n v0_5 (Go.IntKind.wrap Go.IntKind.i64 (v0_10 + (1 : Int))) k
      else none
    else k v0_5
theorem h17_0 (L : Nat) (a0 : (List Int)) (a1 : Int) (k : St cxT.ty → Option (V cxT.ty)) (xk : Nat → St cxT.ty → Option (V cxT.ty)) (k' : Int → Option Int) (hk : ∀ (w0_5 : Int), k (X17_0 a0 a1 w0_5) = (k' w0_5).map n17) : ∀ (n : Nat) (v0_5 : Int) (v0_10 : Int), headF prog ev17 L f17 0 [1, 1, 0, 1, 0, 0] (outK (outV prog f17) k xk) n (S17_0 a0 a1 v0_5 v0_10) = (l17_0 L a0 a1 n v0_5 v0_10 k').map n17
  | 0, _, _ => rfl
  | n + 1, v0_5, v0_10 => by
    rw [headF_round, r17_0]
    have ih := h17_0 L a0 a1 k xk k' hk n
    simp only [l17_0, map_bif, map_tst, Option.map_some, Option.map_none, ih, hk]
def g17 (L : Nat) (a0 : (List Int)) (a1 : Int) : Option Int :=
  l17_0 L a0 a1 L (0 : Int) (0 : Int) (fun (w0_5 : Int) => some w0_5)
theorem e17 (L : Nat) (a0 : (List Int)) (a1 : Int) : evF prog ev17 (loopN L) f17 (a17.enc (a0, a1)) = (g17 L a0 a1).map n17 := by
  let K'0 : Int → Option Int := (fun (w0_5 : Int) => some w0_5)
  have hin0 : ∀ (v0_5 : Int) (v0_10 : Int), headF prog ev17 L f17 0 [1, 1, 0, 1, 0, 0] (outK (outV prog f17) (topK prog ev17 L f17 [1, 1, 0, 1] (outV prog f17)).n (topK prog ev17 L f17 [1, 1, 0, 1] (outV prog f17)).x) L (S17_0 a0 a1 v0_5 v0_10) = (l17_0 L a0 a1 L v0_5 v0_10 K'0).map n17 := fun v0_5 v0_10 => h17_0 L a0 a1 _ _ K'0 (fun w0_5 => by rw [t17_0]; simp only [K'0, map_bif, map_tst, Option.map_some, Option.map_none]) L v0_5 v0_10
  rw [i17]; simp only [g17, map_bif, map_tst, Option.map_some, Option.map_none, hin0, K'0]
theorem s17 (m : ((List Int) × Int) → Option Int) (hm : ∀ (x : ((List Int) × Int)) t, m x = some t → ∃ L, g17 L x.1 x.2 = some t) : Sat prog cxT 17 (c17 m) :=
  sat_t cxT_ok cxT_pok (by rfl) (fn := f17) rfl a17 n17 dd17 m ev17 kok_nil kwok_nil (fun L x => g17 L x.1 x.2) (fun L x => e17 L x.1 x.2) hm hs17
/-! loop.example/g00222/spec.CountOf -/
def ev32 : Env cxT := { Kc := kcOf [], Kw := kwOf [], lv := fun i => if i = 0 then [(0, [some 2]), (1, []), (5, []), (6, [])] else [], xv := fun i => if i = 0 then some [(5, [])] else none }
def S32_0 (a0 : (List Int)) (a1 : Int) (v0_5 : Int) (v0_6 : Int) : St cxT.ty := { slots := [(.inl (.inl (ls { own := 0, nm := 0, e := 2, o := false, xs := a0 }))), (.inl (.inl (lv (.int .i64 a1)))), junk, junk, junk, (.inl (.inl (lv (.int .i64 v0_5)))), (.inl (.inl (lv (.int .i64 v0_6))))] ++ List.replicate 15 junk, D := [], F := [], ctr := 1 }
def X32_0 (a0 : (List Int)) (a1 : Int) (w0_5 : Int) : St cxT.ty := { slots := [junk, junk, junk, junk, junk, (.inl (.inl (lv (.int .i64 w0_5))))] ++ List.replicate 16 junk, D := [], F := [], ctr := 1 }
theorem i32 (L : Nat) (a0 : (List Int)) (a1 : Int) : evF prog ev32 (loopN L) f32 (a32.enc (a0, a1)) =
  headF prog ev32 L f32 0 [1, 1, 0, 1, 0, 0] (outK (outV prog f32) (topK prog ev32 L f32 [1, 1, 0, 1] (outV prog f32)).n (topK prog ev32 L f32 [1, 1, 0, 1] (outV prog f32)).x) L (S32_0 a0 a1 (0 : Int) (0 : Int)) := by kernel_rfl
theorem r32_0 (L : Nat) (a0 : (List Int)) (a1 : Int) (k : St cxT.ty → Option (V cxT.ty)) (xk : Nat → St cxT.ty → Option (V cxT.ty)) (g : St cxT.ty → Option (V cxT.ty)) (v0_5 : Int) (v0_6 : Int) : roundF prog ev32 L f32 0 [1, 1, 0, 1, 0, 0] (outK (outV prog f32) k xk) g (S32_0 a0 a1 v0_5 v0_6) =
  bif (decide (v0_6 < (Nat.cast (List.length a0) : Int))) then bif ((decide ((0 : Int) ≤ v0_6)) && (decide (v0_6 < (Nat.cast (List.length a0) : Int)))) then bif ((List.getD a0 (Int.toNat v0_6) (0 : Int)) == a1) then g (S32_0 a0 a1 (Go.IntKind.wrap Go.IntKind.i64 (v0_5 + (1 : Int))) (Go.IntKind.wrap Go.IntKind.i64 (v0_6 + (1 : Int))))
      else g (S32_0 a0 a1 v0_5 (Go.IntKind.wrap Go.IntKind.i64 (v0_6 + (1 : Int))))
    else none
  else k (X32_0 a0 a1 v0_5) := by kernel_rfl
theorem t32_0 (L : Nat) (a0 : (List Int)) (a1 : Int) (w0_5 : Int) : (topK prog ev32 L f32 [1, 1, 0, 1] (outV prog f32)).n (X32_0 a0 a1 w0_5) =
  some (n32 w0_5) := by kernel_rfl
def l32_0 (L : Nat) (a0 : (List Int)) (a1 : Int) : Nat → Int → Int → (Int → Option Int) → Option Int
  | 0, _, _, _ => none
  | n + 1, v0_5, v0_6, k =>
    bif (decide (v0_6 < (Nat.cast (List.length a0) : Int))) then bif ((decide ((0 : Int) ≤ v0_6)) && (decide (v0_6 < (Nat.cast (List.length a0) : Int)))) then bif ((List.getD a0 (Int.toNat v0_6) (0 : Int)) == a1) then l32_0 L a0 a1 n (Go.IntKind.wrap Go.IntKind.i64 (v0_5 + (1 : Int))) (Go.IntKind.wrap Go.IntKind.i64 (v0_6 + (1 : Int))) k
        else l32_0 L a0 a1 n v0_5 (Go.IntKind.wrap Go.IntKind.i64 (v0_6 + (1 : Int))) k
      else none
    else k v0_5
theorem h32_0 (L : Nat) (a0 : (List Int)) (a1 : Int) (k : St cxT.ty → Option (V cxT.ty)) (xk : Nat → St cxT.ty → Option (V cxT.ty)) (k' : Int → Option Int) (hk : ∀ (w0_5 : Int), k (X32_0 a0 a1 w0_5) = (k' w0_5).map n32) : ∀ (n : Nat) (v0_5 : Int) (v0_6 : Int), headF prog ev32 L f32 0 [1, 1, 0, 1, 0, 0] (outK (outV prog f32) k xk) n (S32_0 a0 a1 v0_5 v0_6) = (l32_0 L a0 a1 n v0_5 v0_6 k').map n32
  | 0, _, _ => rfl
  | n + 1, v0_5, v0_6 => by
    rw [headF_round, r32_0]
    have ih := h32_0 L a0 a1 k xk k' hk n
    simp only [l32_0, map_bif, map_tst, Option.map_some, Option.map_none, ih, hk]
def g32 (L : Nat) (a0 : (List Int)) (a1 : Int) : Option Int :=
  l32_0 L a0 a1 L (0 : Int) (0 : Int) (fun (w0_5 : Int) => some w0_5)
theorem e32 (L : Nat) (a0 : (List Int)) (a1 : Int) : evF prog ev32 (loopN L) f32 (a32.enc (a0, a1)) = (g32 L a0 a1).map n32 := by
  let K'0 : Int → Option Int := (fun (w0_5 : Int) => some w0_5)
  have hin0 : ∀ (v0_5 : Int) (v0_6 : Int), headF prog ev32 L f32 0 [1, 1, 0, 1, 0, 0] (outK (outV prog f32) (topK prog ev32 L f32 [1, 1, 0, 1] (outV prog f32)).n (topK prog ev32 L f32 [1, 1, 0, 1] (outV prog f32)).x) L (S32_0 a0 a1 v0_5 v0_6) = (l32_0 L a0 a1 L v0_5 v0_6 K'0).map n32 := fun v0_5 v0_6 => h32_0 L a0 a1 _ _ K'0 (fun w0_5 => by rw [t32_0]; simp only [K'0, map_bif, map_tst, Option.map_some, Option.map_none]) L v0_5 v0_6
  rw [i32]; simp only [g32, map_bif, map_tst, Option.map_some, Option.map_none, hin0, K'0]
theorem s32 (m : ((List Int) × Int) → Option Int) (hm : ∀ (x : ((List Int) × Int)) t, m x = some t → ∃ L, g32 L x.1 x.2 = some t) : Sat prog cxT 32 (c32 m) :=
  sat_t cxT_ok cxT_pok (by rfl) (fn := f32) rfl a32 n32 dd32 m ev32 kok_nil kwok_nil (fun L x => g32 L x.1 x.2) (fun L x => e32 L x.1 x.2) hm hs32
/-! loop.example/g00222/spec.l1Min -/
def ev61 : Env cxT := { Kc := kcOf [], Kw := kwOf [], lv := fun i => [], xv := fun i => none }
theorem i61 (L : Nat) (a0 : Int) (a1 : Int) : evF prog ev61 (loopN L) f61 (a61.enc (a0, a1)) =
  bif (decide (a0 < a1)) then some (n61 a0)
  else some (n61 a1) := by kernel_rfl
def g61 (L : Nat) (a0 : Int) (a1 : Int) : Option Int :=
  bif (decide (a0 < a1)) then some a0
  else some a1
theorem e61 (L : Nat) (a0 : Int) (a1 : Int) : evF prog ev61 (loopN L) f61 (a61.enc (a0, a1)) = (g61 L a0 a1).map n61 := by
  rw [i61]; simp only [g61, map_bif, map_tst, Option.map_some, Option.map_none]
theorem s61 (m : (Int × Int) → Option Int) (hm : ∀ (x : (Int × Int)) t, m x = some t → ∃ L, g61 L x.1 x.2 = some t) : Sat prog cxT 61 (c61 m) :=
  sat_t cxT_ok cxT_pok (by rfl) (fn := f61) rfl a61 n61 dd61 m ev61 kok_nil kwok_nil (fun L x => g61 L x.1 x.2) (fun L x => e61 L x.1 x.2) hm hs61
/-! loop.example/g00222/spec.l1Max -/
def ev62 : Env cxT := { Kc := kcOf [], Kw := kwOf [], lv := fun i => [], xv := fun i => none }
theorem i62 (L : Nat) (a0 : Int) (a1 : Int) : evF prog ev62 (loopN L) f62 (a62.enc (a0, a1)) =
  bif (decide (a0 > a1)) then some (n62 a0)
  else some (n62 a1) := by kernel_rfl
def g62 (L : Nat) (a0 : Int) (a1 : Int) : Option Int :=
  bif (decide (a0 > a1)) then some a0
  else some a1
theorem e62 (L : Nat) (a0 : Int) (a1 : Int) : evF prog ev62 (loopN L) f62 (a62.enc (a0, a1)) = (g62 L a0 a1).map n62 := by
  rw [i62]; simp only [g62, map_bif, map_tst, Option.map_some, Option.map_none]
theorem s62 (m : (Int × Int) → Option Int) (hm : ∀ (x : (Int × Int)) t, m x = some t → ∃ L, g62 L x.1 x.2 = some t) : Sat prog cxT 62 (c62 m) :=
  sat_t cxT_ok cxT_pok (by rfl) (fn := f62) rfl a62 n62 dd62 m ev62 kok_nil kwok_nil (fun L x => g62 L x.1 x.2) (fun L x => e62 L x.1 x.2) hm hs62
/-! loop.example/g00222/laws.eqSpread -/
def ev36 : Env cxT := { Kc := kcOf [], Kw := kwOf [], lv := fun i => [], xv := fun i => none }
theorem i36 (L : Nat) (a0_0 : Int) (a0_1 : Int) (a0_2 : Int) (a0_3 : Int) (a1_0 : Int) (a1_1 : Int) (a1_2 : Int) (a1_3 : Int) : evF prog ev36 (loopN L) f36 (a36.enc ((a0_0, a0_1, a0_2, a0_3), (a1_0, a1_1, a1_2, a1_3))) =
  bif (a0_0 != a1_0) then some (n36 Bool.false)
  else bif (a0_1 != a1_1) then some (n36 Bool.false)
  else bif (a0_2 != a1_2) then some (n36 Bool.false)
  else bif (a0_3 != a1_3) then some (n36 Bool.false)
  else some (n36 Bool.true) := by kernel_rfl
def g36 (L : Nat) (a0_0 : Int) (a0_1 : Int) (a0_2 : Int) (a0_3 : Int) (a1_0 : Int) (a1_1 : Int) (a1_2 : Int) (a1_3 : Int) : Option Bool :=
  bif (a0_0 != a1_0) then some Bool.false
  else bif (a0_1 != a1_1) then some Bool.false
  else bif (a0_2 != a1_2) then some Bool.false
  else bif (a0_3 != a1_3) then some Bool.false
  else some Bool.true
theorem e36 (L : Nat) (a0_0 : Int) (a0_1 : Int) (a0_2 : Int) (a0_3 : Int) (a1_0 : Int) (a1_1 : Int) (a1_2 : Int) (a1_3 : Int) : evF prog ev36 (loopN L) f36 (a36.enc ((a0_0, a0_1, a0_2, a0_3), (a1_0, a1_1, a1_2, a1_3))) = (g36 L a0_0 a0_1 a0_2 a0_3 a1_0 a1_1 a1_2 a1_3).map n36 := by
  rw [i36]; simp only [g36, map_bif, map_tst, Option.map_some, Option.map_none]
theorem s36 (m : ((Int × Int × Int × Int) × (Int × Int × Int × Int)) → Option Bool) (hm : ∀ (x : ((Int × Int × Int × Int) × (Int × Int × Int × Int))) t, m x = some t → ∃ L, g36 L x.1.1 x.1.2.1 x.1.2.2.1 x.1.2.2.2 x.2.1 x.2.2.1 x.2.2.2.1 x.2.2.2.2 = some t) : Sat prog cxT 36 (c36 m) :=
  sat_t cxT_ok cxT_pok (by rfl) (fn := f36) rfl a36 n36 dd36 m ev36 kok_nil kwok_nil (fun L x => g36 L x.1.1 x.1.2.1 x.1.2.2.1 x.1.2.2.2 x.2.1 x.2.2.1 x.2.2.2.1 x.2.2.2.2) (fun L x => e36 L x.1.1 x.1.2.1 x.1.2.2.1 x.1.2.2.2 x.2.1 x.2.2.1 x.2.2.2.1 x.2.2.2.2) hm hs36
/-! loop.example/g00222/laws.eqIntResult -/
def ev38 : Env cxT := { Kc := kcOf [], Kw := kwOf [], lv := fun i => [], xv := fun i => none }
theorem i38 (L : Nat) (a0_0 : Int) (a0_1 : Int) (a1_0 : Int) (a1_1 : Int) : evF prog ev38 (loopN L) f38 (a38.enc ((a0_0, a0_1), (a1_0, a1_1))) =
  bif (a0_0 != a1_0) then some (n38 Bool.false)
  else bif (a0_1 != a1_1) then some (n38 Bool.false)
  else some (n38 Bool.true) := by kernel_rfl
def g38 (L : Nat) (a0_0 : Int) (a0_1 : Int) (a1_0 : Int) (a1_1 : Int) : Option Bool :=
  bif (a0_0 != a1_0) then some Bool.false
  else bif (a0_1 != a1_1) then some Bool.false
  else some Bool.true
theorem e38 (L : Nat) (a0_0 : Int) (a0_1 : Int) (a1_0 : Int) (a1_1 : Int) : evF prog ev38 (loopN L) f38 (a38.enc ((a0_0, a0_1), (a1_0, a1_1))) = (g38 L a0_0 a0_1 a1_0 a1_1).map n38 := by
  rw [i38]; simp only [g38, map_bif, map_tst, Option.map_some, Option.map_none]
theorem s38 (m : ((Int × Int) × (Int × Int)) → Option Bool) (hm : ∀ (x : ((Int × Int) × (Int × Int))) t, m x = some t → ∃ L, g38 L x.1.1 x.1.2 x.2.1 x.2.2 = some t) : Sat prog cxT 38 (c38 m) :=
  sat_t cxT_ok cxT_pok (by rfl) (fn := f38) rfl a38 n38 dd38 m ev38 kok_nil kwok_nil (fun L x => g38 L x.1.1 x.1.2 x.2.1 x.2.2) (fun L x => e38 L x.1.1 x.1.2 x.2.1 x.2.2) hm hs38
/-! loop.example/g00222/impl.LookTable -/
def ev22 (m47 : (List Int) → Option Int) : Env cxT := { Kc := kcOf [(47, c47 m47)], Kw := kwOf [], lv := fun i => [], xv := fun i => none }
theorem i22 (m47 : (List Int) → Option Int) (L : Nat) (a0 : (List Int)) (a1 : Int) : evF prog (ev22 m47) (loopN L) f22 (a22.enc (a0, a1)) =
  tst (m47 a0) (0 : Int) fun (q1 : Int) => bif (q1 != (0 : Int)) then some (n22 (q1, (0 : Int)))
    else bif (decide (a1 < (0 : Int))) then some (n22 ((3 : Int), (0 : Int)))
    else bif ((decide ((0 : Int) ≤ (Int.tmod a1 (31 : Int)))) && (decide ((Int.tmod a1 (31 : Int)) < (Nat.cast (List.length a0) : Int)))) then bif ((List.getD a0 (Int.toNat (Int.tmod a1 (31 : Int))) (0 : Int)) == (0 : Int)) then some (n22 ((4 : Int), (0 : Int)))
      else some (n22 ((0 : Int), (List.getD a0 (Int.toNat (Int.tmod a1 (31 : Int))) (0 : Int))))
    else none := by kernel_rfl
def g22 (m47 : (List Int) → Option Int) (L : Nat) (a0 : (List Int)) (a1 : Int) : Option (Int × Int) :=
  tst (m47 a0) (0 : Int) fun (q1 : Int) => bif (q1 != (0 : Int)) then some (q1, (0 : Int))
    else bif (decide (a1 < (0 : Int))) then some ((3 : Int), (0 : Int))
    else bif ((decide ((0 : Int) ≤ (Int.tmod a1 (31 : Int)))) && (decide ((Int.tmod a1 (31 : Int)) < (Nat.cast (List.length a0) : Int)))) then bif ((List.getD a0 (Int.toNat (Int.tmod a1 (31 : Int))) (0 : Int)) == (0 : Int)) then some ((4 : Int), (0 : Int))
      else some ((0 : Int), (List.getD a0 (Int.toNat (Int.tmod a1 (31 : Int))) (0 : Int)))
    else none
theorem e22 (m47 : (List Int) → Option Int) (L : Nat) (a0 : (List Int)) (a1 : Int) : evF prog (ev22 m47) (loopN L) f22 (a22.enc (a0, a1)) = (g22 m47 L a0 a1).map n22 := by
  rw [i22]; simp only [g22, map_bif, map_tst, Option.map_some, Option.map_none]
theorem s22 (m47 : (List Int) → Option Int) (h47 : Sat prog cxT 47 (c47 m47)) (m : ((List Int) × Int) → Option (Int × Int)) (hm : ∀ (x : ((List Int) × Int)) t, m x = some t → ∃ L, g22 m47 L x.1 x.2 = some t) : Sat prog cxT 22 (c22 m) :=
  sat_t cxT_ok cxT_pok (by rfl) (fn := f22) rfl a22 n22 dd22 m (ev22 m47) (kok_cons h47 kok_nil) kwok_nil (fun L x => g22 m47 L x.1 x.2) (fun L x => e22 m47 L x.1 x.2) hm hs22
/-! loop.example/g00222/spec.LookTable -/
def ev37 : Env cxT := { Kc := kcOf [], Kw := kwOf [], lv := fun i => [], xv := fun i => none }
theorem i37 (L : Nat) (a0 : (List Int)) (a1 : Int) : evF prog ev37 (loopN L) f37 (a37.enc (a0, a1)) =
  bif ((Nat.cast (List.length a0) : Int) != (31 : Int)) then some (n37 ((1 : Int), (0 : Int)))
  else bif (decide (a1 < (0 : Int))) then some (n37 ((3 : Int), (0 : Int)))
  else bif ((decide ((0 : Int) ≤ (Int.tmod a1 (31 : Int)))) && (decide ((Int.tmod a1 (31 : Int)) < (Nat.cast (List.length a0) : Int)))) then bif ((List.getD a0 (Int.toNat (Int.tmod a1 (31 : Int))) (0 : Int)) == (0 : Int)) then some (n37 ((4 : Int), (0 : Int)))
    else some (n37 ((0 : Int), (List.getD a0 (Int.toNat (Int.tmod a1 (31 : Int))) (0 : Int))))
  else none := by kernel_rfl
def g37 (L : Nat) (a0 : (List Int)) (a1 : Int) : Option (Int × Int) :=
  bif ((Nat.cast (List.length a0) : Int) != (31 : Int)) then some ((1 : Int), (0 : Int))
  else bif (decide (a1 < (0 : Int))) then some ((3 : Int), (0 : Int))
  else bif ((decide ((0 : Int) ≤ (Int.tmod a1 (31 : Int)))) && (decide ((Int.tmod a1 (31 : Int)) < (Nat.cast (List.length a0) : Int)))) then bif ((List.getD a0 (Int.toNat (Int.tmod a1 (31 : Int))) (0 : Int)) == (0 : Int)) then some ((4 : Int), (0 : Int))
    else some ((0 : Int), (List.getD a0 (Int.toNat (Int.tmod a1 (31 : Int))) (0 : Int)))
  else none
theorem e37 (L : Nat) (a0 : (List Int)) (a1 : Int) : evF prog ev37 (loopN L) f37 (a37.enc (a0, a1)) = (g37 L a0 a1).map n37 := by
  rw [i37]; simp only [g37, map_bif, map_tst, Option.map_some, Option.map_none]
theorem s37 (m : ((List Int) × Int) → Option (Int × Int)) (hm : ∀ (x : ((List Int) × Int)) t, m x = some t → ∃ L, g37 L x.1 x.2 = some t) : Sat prog cxT 37 (c37 m) :=
  sat_t cxT_ok cxT_pok (by rfl) (fn := f37) rfl a37 n37 dd37 m ev37 kok_nil kwok_nil (fun L x => g37 L x.1 x.2) (fun L x => e37 L x.1 x.2) hm hs37
/-! loop.example/g00222/impl.MovedOf -/
def ev21 (m47 : (List Int) → Option Int) : Env cxT := { Kc := kcOf [(47, c47 m47)], Kw := kwOf [], lv := fun i => if i = 0 then [(1, [some 2]), (4, []), (5, []), (17, [some 2]), (18, []), (19, [])] else [], xv := fun i => if i = 0 then some [(4, []), (5, [])] else none }
def S21_0 (a0 : (List Int)) (a1 : (List Int)) (v0_4_0 : Int) (v0_4_1 : Int) (v0_5 : Int) (v0_19 : Int) : St cxT.ty := { slots := [junk, (.inl (.inl (ls { own := 0, nm := 0, e := 2, o := false, xs := a1 }))), junk, junk, (.inr (.inr { kind := 0, nm := 256, cells := [(lv (.int .i64 v0_4_0)), (lv (.int .i64 v0_4_1))], s := { own := 0, nm := 0, e := 0, o := false, xs := ([] : List (PUnit)) }, i := 0, off := 0 })), (.inl (.inl (lv (.int .i64 v0_5)))), junk, junk, junk, junk, junk, junk, junk, junk, junk, junk, junk, (.inl (.inl (ls { own := 0, nm := 0, e := 2, o := false, xs := a0 }))), (.inl (.inl (lv (.int .i64 (Nat.cast (List.length a0) : Int))))), (.inl (.inl (lv (.int .i64 v0_19))))] ++ List.replicate 15 junk, D := [], F := [], ctr := 1 }
def X21_0 (a0 : (List Int)) (a1 : (List Int)) (w0_4_0 : Int) (w0_4_1 : Int) (w0_5 : Int) : St cxT.ty := { slots := [junk, junk, junk, junk, (.inr (.inr { kind := 0, nm := 256, cells := [(lv (.int .i64 w0_4_0)), (lv (.int .i64 w0_4_1))], s := { own := 0, nm := 0, e := 0, o := false, xs := ([] : List (PUnit)) }, i := 0, off := 0 })), (.inl (.inl (lv (.int .i64 w0_5))))] ++ List.replicate 29 junk, D := [], F := [], ctr := 1 }
theorem i21 (m47 : (List Int) → Option Int) (L : Nat) (a0 : (List Int)) (a1 : (List Int)) : evF prog (ev21 m47) (loopN L) f21 (a21.enc (a0, a1)) =
  tst (m47 a0) (0 : Int) fun (q1 : Int) => bif (q1 != (0 : Int)) then some (n21 ((1 : Int), (0 : Int)))
    else tst (m47 a1) (0 : Int) fun (q2 : Int) => bif (q2 != (0 : Int)) then some (n21 ((1 : Int), (0 : Int)))
      else headF prog (ev21 m47) L f21 0 [1, 1, 1, 0, 1, 0, 0] (outK (outV prog f21) (topK prog (ev21 m47) L f21 [1, 1, 1, 0, 1] (outV prog f21)).n (topK prog (ev21 m47) L f21 [1, 1, 1, 0, 1] (outV prog f21)).x) L (S21_0 a0 a1 (0 : Int) (0 : Int) (0 : Int) (0 : Int)) := by kernel_rfl
theorem r21_0 (m47 : (List Int) → Option Int) (L : Nat) (a0 : (List Int)) (a1 : (List Int)) (k : St cxT.ty → Option (V cxT.ty)) (xk : Nat → St cxT.ty → Option (V cxT.ty)) (g : St cxT.ty → Option (V cxT.ty)) (v0_4_0 : Int) (v0_4_1 : Int) (v0_5 : Int) (v0_19 : Int) : roundF prog (ev21 m47) L f21 0 [1, 1, 1, 0, 1, 0, 0] (outK (outV prog f21) k xk) g (S21_0 a0 a1 v0_4_0 v0_4_1 v0_5 v0_19) =
  bif (decide (v0_19 < (Nat.cast (List.length a0) : Int))) then bif ((decide ((0 : Int) ≤ v0_19)) && (decide (v0_19 < (Nat.cast (List.length a0) : Int)))) then bif ((decide ((0 : Int) ≤ v0_19)) && (decide (v0_19 < (Nat.cast (List.length a1) : Int)))) then bif ((List.getD a1 (Int.toNat v0_19) (0 : Int)) != (List.getD a0 (Int.toNat v0_19) (0 : Int))) then g (S21_0 a0 a1 v0_4_0 v0_4_1 (Go.IntKind.wrap Go.IntKind.i64 (v0_5 + (1 : Int))) (Go.IntKind.wrap Go.IntKind.i64 (v0_19 + (1 : Int))))
        else g (S21_0 a0 a1 v0_4_0 v0_4_1 v0_5 (Go.IntKind.wrap Go.IntKind.i64 (v0_19 + (1 : Int))))
      else none
    else none
  else k (X21_0 a0 a1 v0_4_0 v0_4_1 v0_5) := by kernel_rfl
theorem t21_0 (m47 : (List Int) → Option Int) (L : Nat) (a0 : (List Int)) (a1 : (List Int)) (w0_4_0 : Int) (w0_4_1 : Int) (w0_5 : Int) : (topK prog (ev21 m47) L f21 [1, 1, 1, 0, 1] (outV prog f21)).n (X21_0 a0 a1 w0_4_0 w0_4_1 w0_5) =
  some (n21 ((0 : Int), w0_5)) := by kernel_rfl
def l21_0 (m47 : (List Int) → Option Int) (L : Nat) (a0 : (List Int)) (a1 : (List Int)) : Nat → Int → Int → Int → Int → (Int → Int → Int → Option (Int × Int)) → Option (Int × Int)
  | 0, _, _, _, _, _ => none
  | n + 1, v0_4_0, v0_4_1, v0_5, v0_19, k =>
    bif (decide (v0_19 < (Nat.cast (List.length a0) : Int))) then bif ((decide ((0 : Int) ≤ v0_19)) && (decide (v0_19 < (Nat.cast (List.length a0) : Int)))) then bif ((decide ((0 : Int) ≤ v0_19)) && (decide (v0_19 < (Nat.cast (List.length a1) : Int)))) then bif ((List.getD a1 (Int.toNat v0_19) (0 : Int)) != (List.getD a0 (Int.toNat v0_19) (0 : Int))) then l21_0 m47 L a0 a1 n v0_4_0 v0_4_1 (Go.IntKind.wrap Go.IntKind.i64 (v0_5 + (1 : Int))) (Go.IntKind.wrap Go.IntKind.i64 (v0_19 + (1 : Int))) k
          else l21_0 m47 L a0 a1 n v0_4_0 v0_4_1 v0_5 (Go.IntKind.wrap Go.IntKind.i64 (v0_19 + (1 : Int))) k
        else none
      else none
    else k v0_4_0 v0_4_1 v0_5
theorem h21_0 (m47 : (List Int) → Option Int) (L : Nat) (a0 : (List Int)) (a1 : (List Int)) (k : St cxT.ty → Option (V cxT.ty)) (xk : Nat → St cxT.ty → Option (V cxT.ty)) (k' : Int → Int → Int → Option (Int × Int)) (hk : ∀ (w0_4_0 : Int) (w0_4_1 : Int) (w0_5 : Int), k (X21_0 a0 a1 w0_4_0 w0_4_1 w0_5) = (k' w0_4_0 w0_4_1 w0_5).map n21) : ∀ (n : Nat) (v0_4_0 : Int) (v0_4_1 : Int) (v0_5 : Int) (v0_19 : Int), headF prog (ev21 m47) L f21 0 [1, 1, 1, 0, 1, 0, 0] (outK (outV prog f21) k xk) n (S21_0 a0 a1 v0_4_0 v0_4_1 v0_5 v0_19) = (l21_0 m47 L a0 a1 n v0_4_0 v0_4_1 v0_5 v0_19 k').map n21
  | 0, _, _, _, _ => rfl
  | n + 1, v0_4_0, v0_4_1, v0_5, v0_19 => by
    rw [headF_round, r21_0]
    have ih := h21_0 m47 L a0 a1 k xk k' hk n
    simp only [l21_0, map_bif, map_tst, Option.map_some, Option.map_none, ih, hk]
def g21 (m47 : (List Int) → Option Int) (L : Nat) (a0 : (List Int)) (a1 : (List Int)) : Option (Int × Int) :=
  tst (m47 a0) (0 : Int) fun (q1 : Int) => bif (q1 != (0 : Int)) then some ((1 : Int), (0 : Int))
    else tst (m47 a1) (0 : Int) fun (q2 : Int) => bif (q2 != (0 : Int)) then some ((1 : Int), (0 : Int))
      else l21_0 m47 L a0 a1 L (0 : Int) (0 : Int) (0 : Int) (0 : Int) (fun (w0_4_0 : Int) (w0_4_1 : Int) (w0_5 : Int) => some ((0 : Int), w0_5))
theorem e21 (m47 : (List Int) → Option Int) (L : Nat) (a0 : (List Int)) (a1 : (List Int)) : evF prog (ev21 m47) (loopN L) f21 (a21.enc (a0, a1)) = (g21 m47 L a0 a1).map n21 := by
  let K'0 : Int → Int → Int → Option (Int × Int) := (fun (w0_4_0 : Int) (w0_4_1 : Int) (w0_5 : Int) => some ((0 : Int), w0_5))
  have hin0 : ∀ (v0_4_0 : Int) (v0_4_1 : Int) (v0_5 : Int) (v0_19 : Int), headF prog (ev21 m47) L f21 0 [1, 1, 1, 0, 1, 0, 0] (outK (outV prog f21) (topK prog (ev21 m47) L f21 [1, 1, 1, 0, 1] (outV prog f21)).n (topK prog (ev21 m47) L f21 [1, 1, 1, 0, 1] (outV prog f21)).x) L (S21_0 a0 a1 v0_4_0 v0_4_1 v0_5 v0_19) = (l21_0 m47 L a0 a1 L v0_4_0 v0_4_1 v0_5 v0_19 K'0).map n21 := fun v0_4_0 v0_4_1 v0_5 v0_19 => h21_0 m47 L a0 a1 _ _ K'0 (fun w0_4_0 w0_4_1 w0_5 => by rw [t21_0]; simp only [K'0, map_bif, map_tst, Option.map_some, Option.map_none]) L v0_4_0 v0_4_1 v0_5 v0_19
  rw [i21]; simp only [g21, map_bif, map_tst, Option.map_some, Option.map_none, hin0, K'0]
theorem s21 (m47 : (List Int) → Option Int) (h47 : Sat prog cxT 47 (c47 m47)) (m : ((List Int) × (List Int)) → Option (Int × Int)) (hm : ∀ (x : ((List Int) × (List Int))) t, m x = some t → ∃ L, g21 m47 L x.1 x.2 = some t) : Sat prog cxT 21 (c21 m) :=
  sat_t cxT_ok cxT_pok (by rfl) (fn := f21) rfl a21 n21 dd21 m (ev21 m47) (kok_cons h47 kok_nil) kwok_nil (fun L x => g21 m47 L x.1 x.2) (fun L x => e21 m47 L x.1 x.2) hm hs21
/-! loop.example/g00222/spec.MovedOf -/
def ev39 : Env cxT := { Kc := kcOf [], Kw := kwOf [], lv := fun i => if i = 0 then [(0, [some 2]), (1, [some 2]), (4, []), (5, []), (6, [])] else [], xv := fun i => if i = 0 then some [(4, []), (5, [])] else none }
def S39_0 (a0 : (List Int)) (a1 : (List Int)) (v0_4_0 : Int) (v0_4_1 : Int) (v0_5 : Int) (v0_6 : Int) : St cxT.ty := { slots := [(.inl (.inl (ls { own := 0, nm := 0, e := 2, o := false, xs := a0 }))), (.inl (.inl (ls { own := 0, nm := 0, e := 2, o := false, xs := a1 }))), junk, junk, (.inr (.inr { kind := 0, nm := 256, cells := [(lv (.int .i64 v0_4_0)), (lv (.int .i64 v0_4_1))], s := { own := 0, nm := 0, e := 0, o := false, xs := ([] : List (PUnit)) }, i := 0, off := 0 })), (.inl (.inl (lv (.int .i64 v0_5)))), (.inl (.inl (lv (.int .i64 v0_6))))] ++ List.replicate 28 junk, D := [], F := [], ctr := 1 }
def X39_0 (a0 : (List Int)) (a1 : (List Int)) (w0_4_0 : Int) (w0_4_1 : Int) (w0_5 : Int) : St cxT.ty := { slots := [junk, junk, junk, junk, (.inr (.inr { kind := 0, nm := 256, cells := [(lv (.int .i64 w0_4_0)), (lv (.int .i64 w0_4_1))], s := { own := 0, nm := 0, e := 0, o := false, xs := ([] : List (PUnit)) }, i := 0, off := 0 })), (.inl (.inl (lv (.int .i64 w0_5))))] ++ List.replicate 29 junk, D := [], F := [], ctr := 1 }
theorem i39 (L : Nat) (a0 : (List Int)) (a1 : (List Int)) : evF prog ev39 (loopN L) f39 (a39.enc (a0, a1)) =
  bif ((Nat.cast (List.length a0) : Int) != (31 : Int)) then some (n39 ((1 : Int), (0 : Int)))
  else bif ((Nat.cast (List.length a1) : Int) != (31 : Int)) then some (n39 ((1 : Int), (0 : Int)))
  else headF prog ev39 L f39 0 [1, 1, 1, 0, 1, 0, 0] (outK (outV prog f39) (topK prog ev39 L f39 [1, 1, 1, 0, 1] (outV prog f39)).n (topK prog ev39 L f39 [1, 1, 1, 0, 1] (outV prog f39)).x) L (S39_0 a0 a1 (0 : Int) (0 : Int) (0 : Int) (0 : Int)) := by kernel_rfl
theorem r39_0 (L : Nat) (a0 : (List Int)) (a1 : (List Int)) (k : St cxT.ty → Option (V cxT.ty)) (xk : Nat → St cxT.ty → Option (V cxT.ty)) (g : St cxT.ty → Option (V cxT.ty)) (v0_4_0 : Int) (v0_4_1 : Int) (v0_5 : Int) (v0_6 : Int) : roundF prog ev39 L f39 0 [1, 1, 1, 0, 1, 0, 0] (outK (outV prog f39) k xk) g (S39_0 a0 a1 v0_4_0 v0_4_1 v0_5 v0_6) =
  bif (decide (v0_6 < (Nat.cast (List.length a0) : Int))) then bif ((decide ((0 : Int) ≤ v0_6)) && (decide (v0_6 < (Nat.cast (List.length a0) : Int)))) then bif ((decide ((0 : Int) ≤ v0_6)) && (decide (v0_6 < (Nat.cast (List.length a1) : Int)))) then bif ((List.getD a0 (Int.toNat v0_6) (0 : Int)) != (List.getD a1 (Int.toNat v0_6) (0 : Int))) then g (S39_0 a0 a1 v0_4_0 v0_4_1 (Go.IntKind.wrap Go.IntKind.i64 (v0_5 + (1 : Int))) (Go.IntKind.wrap Go.IntKind.i64 (v0_6 + (1 : Int))))
        else g (S39_0 a0 a1 v0_4_0 v0_4_1 v0_5 (Go.IntKind.wrap Go.IntKind.i64 (v0_6 + (1 : Int))))
      else none
    else none
  else k (X39_0 a0 a1 v0_4_0 v0_4_1 v0_5) := by kernel_rfl
theorem t39_0 (L : Nat) (a0 : (List Int)) (a1 : (List Int)) (w0_4_0 : Int) (w0_4_1 : Int) (w0_5 : Int) : (topK prog ev39 L f39 [1, 1, 1, 0, 1] (outV prog f39)).n (X39_0 a0 a1 w0_4_0 w0_4_1 w0_5) =
  some (n39 ((0 : Int), w0_5)) := by kernel_rfl
def l39_0 (L : Nat) (a0 : (List Int)) (a1 : (List Int)) : Nat → Int → Int → Int → Int → (Int → Int → Int → Option (Int × Int)) → Option (Int × Int)
  | 0, _, _, _, _, _ => none
  | n + 1, v0_4_0, v0_4_1, v0_5, v0_6, k =>
    bif (decide (v0_6 < (Nat.cast (List.length a0) : Int))) then bif ((decide ((0 : Int) ≤ v0_6)) && (decide (v0_6 < (Nat.cast (List.length a0) : Int)))) then bif ((decide ((0 : Int) ≤ v0_6)) && (decide (v0_6 < (Nat.cast (List.length a1) : Int)))) then bif ((List.getD a0 (Int.toNat v0_6) (0 : Int)) != (List.getD a1 (Int.toNat v0_6) (0 : Int))) then l39_0 L a0 a1 n v0_4_0 v0_4_1 (Go.IntKind.wrap Go.IntKind.i64 (v0_5 + (1 : Int))) (Go.IntKind.wrap Go.IntKind.i64 (v0_6 + (1 : Int))) k
          else l39_0 L a0 a1 n v0_4_0 v0_4_1 v0_5 (Go.IntKind.wrap Go.IntKind.i64 (v0_6 + (1 : Int))) k
        else none
      else none
    else k v0_4_0 v0_4_1 v0_5
theorem h39_0 (L : Nat) (a0 : (List Int)) (a1 : (List Int)) (k : St cxT.ty → Option (V cxT.ty)) (xk : Nat → St cxT.ty → Option (V cxT.ty)) (k' : Int → Int → Int → Option (Int × Int)) (hk : ∀ (w0_4_0 : Int) (w0_4_1 : Int) (w0_5 : Int), k (X39_0 a0 a1 w0_4_0 w0_4_1 w0_5) = (k' w0_4_0 w0_4_1 w0_5).map n39) : ∀ (n : Nat) (v0_4_0 : Int) (v0_4_1 : Int) (v0_5 : Int) (v0_6 : Int), headF prog ev39 L f39 0 [1, 1, 1, 0, 1, 0, 0] (outK (outV prog f39) k xk) n (S39_0 a0 a1 v0_4_0 v0_4_1 v0_5 v0_6) = (l39_0 L a0 a1 n v0_4_0 v0_4_1 v0_5 v0_6 k').map n39
  | 0, _, _, _, _ => rfl
  | n + 1, v0_4_0, v0_4_1, v0_5, v0_6 => by
    rw [headF_round, r39_0]
    have ih := h39_0 L a0 a1 k xk k' hk n
    simp only [l39_0, map_bif, map_tst, Option.map_some, Option.map_none, ih, hk]
def g39 (L : Nat) (a0 : (List Int)) (a1 : (List Int)) : Option (Int × Int) :=
  bif ((Nat.cast (List.length a0) : Int) != (31 : Int)) then some ((1 : Int), (0 : Int))
  else bif ((Nat.cast (List.length a1) : Int) != (31 : Int)) then some ((1 : Int), (0 : Int))
  else l39_0 L a0 a1 L (0 : Int) (0 : Int) (0 : Int) (0 : Int) (fun (w0_4_0 : Int) (w0_4_1 : Int) (w0_5 : Int) => some ((0 : Int), w0_5))
theorem e39 (L : Nat) (a0 : (List Int)) (a1 : (List Int)) : evF prog ev39 (loopN L) f39 (a39.enc (a0, a1)) = (g39 L a0 a1).map n39 := by
  let K'0 : Int → Int → Int → Option (Int × Int) := (fun (w0_4_0 : Int) (w0_4_1 : Int) (w0_5 : Int) => some ((0 : Int), w0_5))
  have hin0 : ∀ (v0_4_0 : Int) (v0_4_1 : Int) (v0_5 : Int) (v0_6 : Int), headF prog ev39 L f39 0 [1, 1, 1, 0, 1, 0, 0] (outK (outV prog f39) (topK prog ev39 L f39 [1, 1, 1, 0, 1] (outV prog f39)).n (topK prog ev39 L f39 [1, 1, 1, 0, 1] (outV prog f39)).x) L (S39_0 a0 a1 v0_4_0 v0_4_1 v0_5 v0_6) = (l39_0 L a0 a1 L v0_4_0 v0_4_1 v0_5 v0_6 K'0).map n39 := fun v0_4_0 v0_4_1 v0_5 v0_6 => h39_0 L a0 a1 _ _ K'0 (fun w0_4_0 w0_4_1 w0_5 => by rw [t39_0]; simp only [K'0, map_bif, map_tst, Option.map_some, Option.map_none]) L v0_4_0 v0_4_1 v0_5 v0_6
  rw [i39]; simp only [g39, map_bif, map_tst, Option.map_some, Option.map_none, hin0, K'0]
theorem s39 (m : ((List Int) × (List Int)) → Option (Int × Int)) (hm : ∀ (x : ((List Int) × (List Int))) t, m x = some t → ∃ L, g39 L x.1 x.2 = some t) : Sat prog cxT 39 (c39 m) :=
  sat_t cxT_ok cxT_pok (by rfl) (fn := f39) rfl a39 n39 dd39 m ev39 kok_nil kwok_nil (fun L x => g39 L x.1 x.2) (fun L x => e39 L x.1 x.2) hm hs39
/-! loop.example/g00222/laws.toInt64S -/
def ev33 : Env cxT := { Kc := kcOf [], Kw := kwOf [], lv := fun i => if i = 0 then [(0, [some 2]), (3, [some 2]), (4, [])] else [], xv := fun i => if i = 0 then some [(3, [some 2])] else none }
def S33_0 (a0 : (List Int)) (v0_3 : (List Int)) (v0_4 : Int) : St cxT.ty := { slots := [(.inl (.inl (ls { own := 0, nm := 0, e := 2, o := false, xs := a0 }))), junk, junk, (.inl (.inl (ls { own := 1, nm := 192, e := 2, o := true, xs := v0_3 }))), (.inl (.inl (lv (.int .i64 v0_4))))] ++ List.replicate 17 junk, D := [], F := [], ctr := 1 }
def X33_0 (a0 : (List Int)) (w0_3 : (List Int)) : St cxT.ty := { slots := [junk, junk, junk, (.inl (.inl (ls { own := 1, nm := 192, e := 2, o := true, xs := w0_3 })))] ++ List.replicate 18 junk, D := [], F := [], ctr := 1 }
theorem i33 (L : Nat) (a0 : (List Int)) : evF prog ev33 (loopN L) f33 (a33.enc a0) =
  bif (((decide ((0 : Int) ≤ (Nat.cast (List.length a0) : Int))) && (decide ((Nat.cast (List.length a0) : Int) ≤ (Nat.cast (List.length a0) : Int)))) && (decide ((Nat.cast (List.length a0) : Int) ≤ (1000000000 : Int)))) then headF prog ev33 L f33 0 [1, 1, 0, 1, 0, 0] (outK (outV prog f33) (topK prog ev33 L f33 [1, 1, 0, 1] (outV prog f33)).n (topK prog ev33 L f33 [1, 1, 0, 1] (outV prog f33)).x) L (S33_0 a0 (List.replicate (Int.toNat (Nat.cast (List.length a0) : Int)) (0 : Int)) (0 : Int))
  else none := by kernel_rfl
theorem r33_0 (L : Nat) (a0 : (List Int)) (k : St cxT.ty → Option (V cxT.ty)) (xk : Nat → St cxT.ty → Option (V cxT.ty)) (g : St cxT.ty → Option (V cxT.ty)) (v0_3 : (List Int)) (v0_4 : Int) : roundF prog ev33 L f33 0 [1, 1, 0, 1, 0, 0] (outK (outV prog f33) k xk) g (S33_0 a0 v0_3 v0_4) =
  bif (decide (v0_4 < (Nat.cast (List.length a0) : Int))) then bif ((decide ((0 : Int) ≤ v0_4)) && (decide (v0_4 < (Nat.cast (List.length a0) : Int)))) then bif ((decide ((0 : Int) ≤ v0_4)) && (decide (v0_4 < (Nat.cast (List.length v0_3) : Int)))) then g (S33_0 a0 (List.set v0_3 (Int.toNat v0_4) (List.getD a0 (Int.toNat v0_4) (0 : Int))) (Go.IntKind.wrap Go.IntKind.i64 (v0_4 + (1 : Int))))
      else none
    else none
  else k (X33_0 a0 v0_3) := by kernel_rfl
theorem t33_0 (L : Nat) (a0 : (List Int)) (w0_3 : (List Int)) : (topK prog ev33 L f33 [1, 1, 0, 1] (outV prog f33)).n (X33_0 a0 w0_3) =
  some (n33 w0_3) := by kernel_rfl
def l33_0 (L : Nat) (a0 : (List Int)) : Nat → (List Int) → Int → ((List Int) → Option (List Int)) → Option (List Int)
  | 0, _, _, _ => none
  | n + 1, v0_3, v0_4, k =>
    bif (decide (v0_4 < (Nat.cast (List.length a0) : Int))) then bif ((decide ((0 : Int) ≤ v0_4)) && (decide (v0_4 < (Nat.cast (List.length a0) : Int)))) then bif ((decide ((0 : Int) ≤ v0_4)) && (decide (v0_4 < (Nat.cast (List.length v0_3) : Int)))) then l33_0 L a0 n (List.set v0_3 (Int.toNat v0_4) (List.getD a0 (Int.toNat v0_4) (0 : Int))) (Go.IntKind.wrap Go.IntKind.i64 (v0_4 + (1 : Int))) k
        else none
      else none
    else k v0_3
theorem h33_0 (L : Nat) (a0 : (List Int)) (k : St cxT.ty → Option (V cxT.ty)) (xk : Nat → St cxT.ty → Option (V cxT.ty)) (k' : (List Int) → Option (List Int)) (hk : ∀ (w0_3 : (List Int)), k (X33_0 a0 w0_3) = (k' w0_3).map n33) : ∀ (n : Nat) (v0_3 : (List Int)) (v0_4 : Int), headF prog ev33 L f33 0 [1, 1, 0, 1, 0, 0] (outK (outV prog f33) k xk) n (S33_0 a0 v0_3 v0_4) = (l33_0 L a0 n v0_3 v0_4 k').map n33
  | 0, _, _ => rfl
  | n + 1, v0_3, v0_4 => by
    rw [headF_round, r33_0]
    have ih := h33_0 L a0 k xk k' hk n
    simp only [l33_0, map_bif, map_tst, Option.map_some, Option.map_none, ih, hk]
def g33 (L : Nat) (a0 : (List Int)) : Option (List Int) :=
  bif (((decide ((0 : Int) ≤ (Nat.cast (List.length a0) : Int))) && (decide ((Nat.cast (List.length a0) : Int) ≤ (Nat.cast (List.length a0) : Int)))) && (decide ((Nat.cast (List.length a0) : Int) ≤ (1000000000 : Int)))) then l33_0 L a0 L (List.replicate (Int.toNat (Nat.cast (List.length a0) : Int)) (0 : Int)) (0 : Int) (fun (w0_3 : (List Int)) => some w0_3)
  else none
theorem e33 (L : Nat) (a0 : (List Int)) : evF prog ev33 (loopN L) f33 (a33.enc a0) = (g33 L a0).map n33 := by
  let K'0 : (List Int) → Option (List Int) := (fun (w0_3 : (List Int)) => some w0_3)
  have hin0 : ∀ (v0_3 : (List Int)) (v0_4 : Int), headF prog ev33 L f33 0 [1, 1, 0, 1, 0, 0] (outK (outV prog f33) (topK prog ev33 L f33 [1, 1, 0, 1] (outV prog f33)).n (topK prog ev33 L f33 [1, 1, 0, 1] (outV prog f33)).x) L (S33_0 a0 v0_3 v0_4) = (l33_0 L a0 L v0_3 v0_4 K'0).map n33 := fun v0_3 v0_4 => h33_0 L a0 _ _ K'0 (fun w0_3 => by rw [t33_0]; simp only [K'0, map_bif, map_tst, Option.map_some, Option.map_none]) L v0_3 v0_4
  rw [i33]; simp only [g33, map_bif, map_tst, Option.map_some, Option.map_none, hin0, K'0]
theorem s33 (m : (List Int) → Option (List Int)) (hm : ∀ (x : (List Int)) t, m x = some t → ∃ L, g33 L x = some t) : Sat prog cxT 33 (c33 m) :=
  sat_t cxT_ok cxT_pok (by rfl) (fn := f33) rfl a33 n33 dd33 m ev33 kok_nil kwok_nil (fun L x => g33 L x) (fun L x => e33 L x) hm hs33
/-! loop.example/g00222/laws.eqInt64S -/
def ev34 : Env cxT := { Kc := kcOf [], Kw := kwOf [], lv := fun i => if i = 0 then [(0, [some 2]), (1, [some 2]), (5, [])] else [], xv := fun i => if i = 0 then some [] else none }
def S34_0 (a0 : (List Int)) (a1 : (List Int)) (v0_5 : Int) : St cxT.ty := { slots := [(.inl (.inl (ls { own := 0, nm := 0, e := 2, o := false, xs := a0 }))), (.inl (.inl (ls { own := 0, nm := 0, e := 2, o := false, xs := a1 }))), junk, junk, junk, (.inl (.inl (lv (.int .i64 v0_5))))] ++ List.replicate 20 junk, D := [], F := [], ctr := 1 }
def X34_0 (a0 : (List Int)) (a1 : (List Int)) : St cxT.ty := { slots := [] ++ List.replicate 26 junk, D := [], F := [], ctr := 1 }
theorem i34 (L : Nat) (a0 : (List Int)) (a1 : (List Int)) : evF prog ev34 (loopN L) f34 (a34.enc (a0, a1)) =
  bif ((Nat.cast (List.length a0) : Int) != (Nat.cast (List.length a1) : Int)) then some (n34 Bool.false)
  else headF prog ev34 L f34 0 [1, 1, 0, 1, 0, 0] (outK (outV prog f34) (topK prog ev34 L f34 [1, 1, 0, 1] (outV prog f34)).n (topK prog ev34 L f34 [1, 1, 0, 1] (outV prog f34)).x) L (S34_0 a0 a1 (0 : Int)) := by kernel_rfl
theorem r34_0 (L : Nat) (a0 : (List Int)) (a1 : (List Int)) (k : St cxT.ty → Option (V cxT.ty)) (xk : Nat → St cxT.ty → Option (V cxT.ty)) (g : St cxT.ty → Option (V cxT.ty)) (v0_5 : Int) : roundF prog ev34 L f34 0 [1, 1, 0, 1, 0, 0] (outK (outV prog f34) k xk) g (S34_0 a0 a1 v0_5) =
  bif (decide (v0_5 < (Nat.cast (List.length a0) : Int))) then bif ((decide ((0 : Int) ≤ v0_5)) && (decide (v0_5 < (Nat.cast (List.length a0) : Int)))) then bif ((decide ((0 : Int) ≤ v0_5)) && (decide (v0_5 < (Nat.cast (List.length a1) : Int)))) then bif ((List.getD a0 (Int.toNat v0_5) (0 : Int)) != (List.getD a1 (Int.toNat v0_5) (0 : Int))) then some (n34 Bool.false)
        else g (S34_0 a0 a1 (Go.IntKind.wrap Go.IntKind.i64 (v0_5 + (1 : Int))))
      else none
    else none
  else k (X34_0 a0 a1) := by kernel_rfl
theorem t34_0 (L : Nat) (a0 : (List Int)) (a1 : (List Int)) : (topK prog ev34 L f34 [1, 1, 0, 1] (outV prog f34)).n (X34_0 a0 a1) =
  some (n34 Bool.true) := by kernel_rfl
def l34_0 (L : Nat) (a0 : (List Int)) (a1 : (List Int)) : Nat → Int → (Option Bool) → Option Bool
  | 0, _, _ => none
  | n + 1, v0_5, k =>
    bif (decide (v0_5 < (Nat.cast (List.length a0) : Int))) then bif ((decide ((0 : Int) ≤ v0_5)) && (decide (v0_5 < (Nat.cast (List.length a0) : Int)))) then bif ((decide ((0 : Int) ≤ v0_5)) && (decide (v0_5 < (Nat.cast (List.length a1) : Int)))) then bif ((List.getD a0 (Int.toNat v0_5) (0 : Int)) != (List.getD a1 (Int.toNat v0_5) (0 : Int))) then some Bool.false
          else l34_0 L a0 a1 n (Go.IntKind.wrap Go.IntKind.i64 (v0_5 + (1 : Int))) k
        else none
      else none
    else k
theorem h34_0 (L : Nat) (a0 : (List Int)) (a1 : (List Int)) (k : St cxT.ty → Option (V cxT.ty)) (xk : Nat → St cxT.ty → Option (V cxT.ty)) (k' : Option Bool) (hk : k (X34_0 a0 a1) = (k').map n34) : ∀ (n : Nat) (v0_5 : Int), headF prog ev34 L f34 0 [1, 1, 0, 1, 0, 0] (outK (outV prog f34) k xk) n (S34_0 a0 a1 v0_5) = (l34_0 L a0 a1 n v0_5 k').map n34
  | 0, _ => rfl
  | n + 1, v0_5 => by
    rw [headF_round, r34_0]
    have ih := h34_0 L a0 a1 k xk k' hk n
    simp only [l34_0, map_bif, map_tst, Option.map_some, Option.map_none, ih, hk]
def g34 (L : Nat) (a0 : (List Int)) (a1 : (List Int)) : Option Bool :=
  bif ((Nat.cast (List.length a0) : Int) != (Nat.cast (List.length a1) : Int)) then some Bool.false
  else l34_0 L a0 a1 L (0 : Int) (some Bool.true)
theorem e34 (L : Nat) (a0 : (List Int)) (a1 : (List Int)) : evF prog ev34 (loopN L) f34 (a34.enc (a0, a1)) = (g34 L a0 a1).map n34 := by
  let K'0 : Option Bool := (some Bool.true)
  have hin0 : ∀ (v0_5 : Int), headF prog ev34 L f34 0 [1, 1, 0, 1, 0, 0] (outK (outV prog f34) (topK prog ev34 L f34 [1, 1, 0, 1] (outV prog f34)).n (topK prog ev34 L f34 [1, 1, 0, 1] (outV prog f34)).x) L (S34_0 a0 a1 v0_5) = (l34_0 L a0 a1 L v0_5 K'0).map n34 := fun v0_5 => h34_0 L a0 a1 _ _ K'0 (by rw [t34_0]; simp only [K'0, map_bif, map_tst, Option.map_some, Option.map_none]) L v0_5
  rw [i34]; simp only [g34, map_bif, map_tst, Option.map_some, Option.map_none, hin0, K'0]
theorem s34 (m : ((List Int) × (List Int)) → Option Bool) (hm : ∀ (x : ((List Int) × (List Int))) t, m x = some t → ∃ L, g34 L x.1 x.2 = some t) : Sat prog cxT 34 (c34 m) :=
  sat_t cxT_ok cxT_pok (by rfl) (fn := f34) rfl a34 n34 dd34 m ev34 kok_nil kwok_nil (fun L x => g34 L x.1 x.2) (fun L x => e34 L x.1 x.2) hm hs34
end Go.Proofs.Try
