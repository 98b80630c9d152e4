/- A part of the proof of FnExactNewCluster: LhFa, LhFb, LhFb2. -/
import Derived.Test.YtalbnpcbmakijaaLhBase
set_option maxHeartbeats 0
set_option maxRecDepth 100000
set_option linter.unusedVariables false
set_option linter.unusedSimpArgs false
namespace Go.Proofs.Try
open Go Go.VM Go.RowKit
/-! loop.example/g00222/spec.l1In -/
def ev9 : Env cxT := { Kc := kcOf [], Kw := kwOf [], lv := fun i => [], xv := fun i => none }
def G9 {B : Type} (u : Bool → B) (a0 : Int) (a1 : Int) (a2 : Int) : Option B :=
  bif (decide (a0 ≥ a1)) then some (u (decide (a0 ≤ a2)))
  else some (u false)
def g9 (L : Nat) (a0 : Int) (a1 : Int) (a2 : Int) : Option Bool := G9 (fun x => x) a0 a1 a2
theorem e9 (L : Nat) (a0 : Int) (a1 : Int) (a2 : Int) : evF prog ev9 (loopN L) f9 (a9.enc (a0, a1, a2)) = (g9 L a0 a1 a2).map n9 := by
  refine .trans (b := G9 n9 a0 a1 a2) (by kernel_rfl) ?_
  unfold g9 G9
  repeat' first | with_reducible refine cgB ?_ ?_ | with_reducible refine cgT fun _ => ?_ | with_reducible refine cgN fun _ => ?_ | exact rfl
def w9 (L : Nat) (x : (Int × Int × Int)) : Option Bool := g9 L x.1 x.2.1 x.2.2
theorem s9 (m : Y9) (hm : ∀ (x : (Int × Int × Int)) t, m x = some t → ∃ L, w9 L x = some t) : Sat prog cxT 9 (c9 m) :=
  sat_t cxT_ok cxT_pok (by rfl) (fn := f9) rfl a9 n9 dd9 m ev9 kok_nil kwok_nil (w9) (fun L x => e9 L x.1 x.2.1 x.2.2) hm hs9
/-! loop.example/g00222/spec.l9Bad -/
def ev10 : Env cxT := { Kc := kcOf [], Kw := kwOf [], lv := fun i => [], xv := fun i => none }
def G10 {B : Type} (u : R5 → B) (a0 : Int) : Option B :=
  some (u (a0, [], [], ([] : List W2), ([] : List S10)))
def g10 (L : Nat) (a0 : Int) : Option R5 := G10 (fun x => x) a0
theorem e10 (L : Nat) (a0 : Int) : evF prog ev10 (loopN L) f10 (a10.enc a0) = (g10 L a0).map n10 := by
  refine .trans (b := G10 n10 a0) (by kernel_rfl) ?_
  unfold g10 G10
  repeat' first | with_reducible refine cgB ?_ ?_ | with_reducible refine cgT fun _ => ?_ | with_reducible refine cgN fun _ => ?_ | exact rfl
def w10 (L : Nat) (x : Int) : Option R5 := g10 L x
theorem s10 (m : Y10) (hm : ∀ (x : Int) t, m x = some t → ∃ L, w10 L x = some t) : Sat prog cxT 10 (c10 m) :=
  sat_t cxT_ok cxT_pok (by rfl) (fn := f10) rfl a10 n10 dd10 m ev10 kok_nil kwok_nil (w10) (fun L x => e10 L x) hm hs10
/-! loop.example/g00222/impl.isPeers -/
def ev11 (m16 : Y16) : Env cxT := { Kc := kcOf [(16, c16 m16)], Kw := kwOf [], lv := fun i => [], xv := fun i => none }
def G11 {B : Type} (u : Bool → B) (m16 : Y16) (a0 : Int) : Option B :=
  tst (m16 (a0, ((1 : Int), (5 : Int)))) false fun (q1 : Bool) => some (u q1)
def g11 (m16 : Y16) (L : Nat) (a0 : Int) : Option Bool := G11 (fun x => x) m16 a0
theorem e11 (m16 : Y16) (L : Nat) (a0 : Int) : evF prog (ev11 m16) (loopN L) f11 (a11.enc a0) = (g11 m16 L a0).map n11 := by
  refine .trans (b := G11 n11 m16 a0) (by kernel_rfl) ?_
  unfold g11 G11
  repeat' first | with_reducible refine cgB ?_ ?_ | with_reducible refine cgT fun _ => ?_ | with_reducible refine cgN fun _ => ?_ | exact rfl
def w11 (m16 : Y16) (L : Nat) (x : Int) : Option Bool := g11 m16 L x
theorem s11 (m16 : Y16) (h16 : Sat prog cxT 16 (c16 m16)) (m : Y11) (hm : ∀ (x : Int) t, m x = some t → ∃ L, w11 m16 L x = some t) : Sat prog cxT 11 (c11 m) :=
  sat_t cxT_ok cxT_pok (by rfl) (fn := f11) rfl a11 n11 dd11 m (ev11 m16) (kok_cons h16 kok_nil) kwok_nil (w11 m16) (fun L x => e11 m16 L x) hm hs11
/-! loop.example/g00222/impl.NewNode -/
def ev12 (m11 : Y11) (m17 : Y17) : Env cxT := { Kc := kcOf [(11, c11 m11), (17, c17 m17)], Kw := kwOf [], lv := fun i => [], xv := fun i => none }
def G12 {B : Type} (u : (Int × Int × Int × Int × Int × (List E9) × Int × Int × (List Int) × (List Int) × (List Int) × (List M9)) → B) (m11 : Y11) (m17 : Y17) (a0 : Int) (a1 : Int) : Option B :=
  tst (m11 a1) false fun (q1 : Bool) => bif (!q1) then some (u ((3 : Int), (0 : Int), (0 : Int), (0 : Int), (0 : Int), [], (0 : Int), (0 : Int), ([] : List (Int)), ([] : List (Int)), ([] : List (Int)), []))
    else tst (m17 (a0, a1)) false fun (q2 : Bool) => bif (!q2) then some (u ((3 : Int), (0 : Int), (0 : Int), (0 : Int), (0 : Int), [], (0 : Int), (0 : Int), ([] : List (Int)), ([] : List (Int)), ([] : List (Int)), []))
      else some (u ((0 : Int), a0, a1, (0 : Int), (-(1 : Int)), [], (0 : Int), (0 : Int), ([] : List (Int)), ([] : List (Int)), ([] : List (Int)), []))
def g12 (m11 : Y11) (m17 : Y17) (L : Nat) (a0 : Int) (a1 : Int) : Option (Int × Int × Int × Int × Int × (List E9) × Int × Int × (List Int) × (List Int) × (List Int) × (List M9)) := G12 (fun x => x) m11 m17 a0 a1
theorem e12 (m11 : Y11) (m17 : Y17) (L : Nat) (a0 : Int) (a1 : Int) : evF prog (ev12 m11 m17) (loopN L) f12 (a12.enc (a0, a1)) = (g12 m11 m17 L a0 a1).map n12 := by
  refine .trans (b := G12 n12 m11 m17 a0 a1) (by kernel_rfl) ?_
  unfold g12 G12
  repeat' first | with_reducible refine cgB ?_ ?_ | with_reducible refine cgT fun _ => ?_ | with_reducible refine cgN fun _ => ?_ | exact rfl
def w12 (m11 : Y11) (m17 : Y17) (L : Nat) (x : (Int × Int)) : Option (Int × Int × Int × Int × Int × (List E9) × Int × Int × (List Int) × (List Int) × (List Int) × (List M9)) := g12 m11 m17 L x.1 x.2
theorem s12 (m11 : Y11) (m17 : Y17) (h11 : Sat prog cxT 11 (c11 m11)) (h17 : Sat prog cxT 17 (c17 m17)) (m : Y12) (hm : ∀ (x : (Int × Int)) t, m x = some t → ∃ L, w12 m11 m17 L x = some t) : Sat prog cxT 12 (c12 m) :=
  sat_t cxT_ok cxT_pok (by rfl) (fn := f12) rfl a12 n12 dd12 m (ev12 m11 m17) (kok_cons h11 (kok_cons h17 kok_nil)) kwok_nil (w12 m11 m17) (fun L x => e12 m11 m17 L x.1 x.2) hm hs12
/-! loop.example/g00222/impl.isFromTo -/
def ev16 : Env cxT := { Kc := kcOf [], Kw := kwOf [], lv := fun i => [], xv := fun i => none }
def G16 {B : Type} (u : Bool → B) (a0 : Int) (a1 : Int) (a2 : Int) : Option B :=
  bif (decide (a0 ≥ a1)) then some (u (decide (a0 ≤ a2)))
  else some (u false)
def g16 (L : Nat) (a0 : Int) (a1 : Int) (a2 : Int) : Option Bool := G16 (fun x => x) a0 a1 a2
theorem e16 (L : Nat) (a0 : Int) (a1 : Int) (a2 : Int) : evF prog ev16 (loopN L) f16 (a16.enc (a0, a1, a2)) = (g16 L a0 a1 a2).map n16 := by
  refine .trans (b := G16 n16 a0 a1 a2) (by kernel_rfl) ?_
  unfold g16 G16
  repeat' first | with_reducible refine cgB ?_ ?_ | with_reducible refine cgT fun _ => ?_ | with_reducible refine cgN fun _ => ?_ | exact rfl
def w16 (L : Nat) (x : (Int × Int × Int)) : Option Bool := g16 L x.1 x.2.1 x.2.2
theorem s16 (m : Y16) (hm : ∀ (x : (Int × Int × Int)) t, m x = some t → ∃ L, w16 L x = some t) : Sat prog cxT 16 (c16 m) :=
  sat_t cxT_ok cxT_pok (by rfl) (fn := f16) rfl a16 n16 dd16 m ev16 kok_nil kwok_nil (w16) (fun L x => e16 L x.1 x.2.1 x.2.2) hm hs16
/-! loop.example/g00222/impl.isId -/
def ev17 : Env cxT := { Kc := kcOf [], Kw := kwOf [], lv := fun i => [], xv := fun i => none }
def G17 {B : Type} (u : Bool → B) (a0 : Int) (a1 : Int) : Option B :=
  bif (decide (a0 ≥ (0 : Int))) then some (u (decide (a0 < a1)))
  else some (u false)
def g17 (L : Nat) (a0 : Int) (a1 : Int) : Option Bool := G17 (fun x => x) a0 a1
theorem e17 (L : Nat) (a0 : Int) (a1 : Int) : evF prog ev17 (loopN L) f17 (a17.enc (a0, a1)) = (g17 L a0 a1).map n17 := by
  refine .trans (b := G17 n17 a0 a1) (by kernel_rfl) ?_
  unfold g17 G17
  repeat' first | with_reducible refine cgB ?_ ?_ | with_reducible refine cgT fun _ => ?_ | with_reducible refine cgN fun _ => ?_ | exact rfl
def w17 (L : Nat) (x : (Int × Int)) : Option Bool := g17 L x.1 x.2
theorem s17 (m : Y17) (hm : ∀ (x : (Int × Int)) t, m x = some t → ∃ L, w17 L x = some t) : Sat prog cxT 17 (c17 m) :=
  sat_t cxT_ok cxT_pok (by rfl) (fn := f17) rfl a17 n17 dd17 m ev17 kok_nil kwok_nil (w17) (fun L x => e17 L x.1 x.2) hm hs17
/-! loop.example/g00222/spec.NewCluster -/
def ev4 (m9 : Y9) (m10 : Y10) : Env cxT := { Kc := kcOf [(9, c9 m9), (10, c10 m10)], Kw := kwOf [], lv := fun i => if i = 0 then [(0, []), (2, [none, some 38, some 56, some 59, some 66]), (3, [none, some 38, some 56, some 59, some 66]), (4, [])] else [], xv := fun i => if i = 0 then some [(2, [none, some 38, some 56, some 59, some 66]), (3, [none, some 38, some 56, some 59, some 66])] else none }
def S4_0 (a0 : Int) (v0_2_0 : Int) (v0_2_1 : (List N10)) (v0_2_2 : (List M9)) (v0_2_3 : (List W2)) (v0_2_4 : (List S10)) (v0_3_0 : Int) (v0_3_1 : (List N10)) (v0_3_2 : (List M9)) (v0_3_3 : (List W2)) (v0_3_4 : (List S10)) (v0_4 : Int) : St cxT.ty := { slots := [(.inl (.inl (lv (.int .i64 a0)))), junk, (.inr (.inr { kind := 0, nm := 128, cells := [(lv (.int .i64 v0_2_0)), (ls { own := 1, nm := 130, e := 38, o := true, xs := v0_2_1 }), (ls { own := 1, nm := 131, e := 56, o := true, xs := v0_2_2 }), (ls { own := 1, nm := 132, e := 59, o := true, xs := v0_2_3 }), (ls { own := 1, nm := 133, e := 66, o := true, xs := v0_2_4 })], s := { own := 0, nm := 0, e := 0, o := false, xs := ([] : List (PUnit)) }, i := 0, off := 0 })), (.inr (.inr { kind := 0, nm := 192, cells := [(lv (.int .i64 v0_3_0)), (ls { own := 1, nm := 194, e := 38, o := true, xs := v0_3_1 }), (ls { own := 1, nm := 195, e := 56, o := true, xs := v0_3_2 }), (ls { own := 1, nm := 196, e := 59, o := true, xs := v0_3_3 }), (ls { own := 1, nm := 197, e := 66, o := true, xs := v0_3_4 })], s := { own := 0, nm := 0, e := 0, o := false, xs := ([] : List (PUnit)) }, i := 0, off := 0 })), (.inl (.inl (lv (.int .i64 v0_4))))] ++ List.replicate 21 junk, D := [], F := [], ctr := 1 }
def X4_0 (a0 : Int) (w0_2_0 : Int) (w0_2_1 : (List N10)) (w0_2_2 : (List M9)) (w0_2_3 : (List W2)) (w0_2_4 : (List S10)) (w0_3_0 : Int) (w0_3_1 : (List N10)) (w0_3_2 : (List M9)) (w0_3_3 : (List W2)) (w0_3_4 : (List S10)) : St cxT.ty := { slots := [junk, junk, (.inr (.inr { kind := 0, nm := 128, cells := [(lv (.int .i64 w0_2_0)), (ls { own := 1, nm := 130, e := 38, o := true, xs := w0_2_1 }), (ls { own := 1, nm := 131, e := 56, o := true, xs := w0_2_2 }), (ls { own := 1, nm := 132, e := 59, o := true, xs := w0_2_3 }), (ls { own := 1, nm := 133, e := 66, o := true, xs := w0_2_4 })], s := { own := 0, nm := 0, e := 0, o := false, xs := ([] : List (PUnit)) }, i := 0, off := 0 })), (.inr (.inr { kind := 0, nm := 192, cells := [(lv (.int .i64 w0_3_0)), (ls { own := 1, nm := 194, e := 38, o := true, xs := w0_3_1 }), (ls { own := 1, nm := 195, e := 56, o := true, xs := w0_3_2 }), (ls { own := 1, nm := 196, e := 59, o := true, xs := w0_3_3 }), (ls { own := 1, nm := 197, e := 66, o := true, xs := w0_3_4 })], s := { own := 0, nm := 0, e := 0, o := false, xs := ([] : List (PUnit)) }, i := 0, off := 0 }))] ++ List.replicate 22 junk, D := [], F := [], ctr := 1 }
def G4 {B : Type} (u : R5 → B) (hh0 : Int → (List N10) → (List M9) → (List W2) → (List S10) → Int → (List N10) → (List M9) → (List W2) → (List S10) → Int → Option B) (m9 : Y9) (m10 : Y10) (a0 : Int) : Option B :=
  tst (m9 (a0, ((1 : Int), (5 : Int)))) false fun (q1 : Bool) => bif (!q1) then tst (m10 (3 : Int)) ((0 : Int), [], [], [], []) fun (q3 : R5) => some (u (q3.1, q3.2.1, q3.2.2.1, q3.2.2.2.1, q3.2.2.2.2))
    else hh0 (0 : Int) [] [] ([] : List W2) ([] : List S10) (0 : Int) [] [] ([] : List W2) ([] : List S10) (0 : Int)
def B4_0 {B : Type} (u : R5 → B) (gg : Int → (List N10) → (List M9) → (List W2) → (List S10) → Int → (List N10) → (List M9) → (List W2) → (List S10) → Int → Option B) (kk : Int → (List N10) → (List M9) → (List W2) → (List S10) → Int → (List N10) → (List M9) → (List W2) → (List S10) → Option B) (m9 : Y9) (m10 : Y10) (a0 : Int) (v0_2_0 : Int) (v0_2_1 : (List N10)) (v0_2_2 : (List M9)) (v0_2_3 : (List W2)) (v0_2_4 : (List S10)) (v0_3_0 : Int) (v0_3_1 : (List N10)) (v0_3_2 : (List M9)) (v0_3_3 : (List W2)) (v0_3_4 : (List S10)) (v0_4 : Int) : Option B :=
  bif (decide (v0_4 < a0)) then bif (decide (((List.length v0_3_1) + (List.length (List.cons (v0_4, (a0, ((0 : Int), ((-(1 : Int)), (([] : List E9), ((0 : Int), ((0 : Int), (([] : List (Int)), (([] : List (Int)), ([] : List (Int))))))))))) []))) ≤ (1000000000 : Nat))) then gg v0_2_0 v0_2_1 v0_2_2 v0_2_3 v0_2_4 v0_3_0 (v0_3_1 ++ (List.cons (v0_4, (a0, ((0 : Int), ((-(1 : Int)), (([] : List E9), ((0 : Int), ((0 : Int), (([] : List (Int)), (([] : List (Int)), ([] : List (Int))))))))))) [])) v0_3_2 v0_3_3 v0_3_4 (IntKind.wrap .i64 (v0_4 + (1 : Int)))
    else none
  else kk v0_2_0 v0_2_1 v0_2_2 v0_2_3 v0_2_4 v0_3_0 v0_3_1 v0_3_2 v0_3_3 v0_3_4
def A4_0 {B : Type} (u : R5 → B) (m9 : Y9) (m10 : Y10) (a0 : Int) (w0_2_0 : Int) (w0_2_1 : (List N10)) (w0_2_2 : (List M9)) (w0_2_3 : (List W2)) (w0_2_4 : (List S10)) (w0_3_0 : Int) (w0_3_1 : (List N10)) (w0_3_2 : (List M9)) (w0_3_3 : (List W2)) (w0_3_4 : (List S10)) : Option B :=
  some (u (w0_3_0, w0_3_1, w0_3_2, w0_3_3, w0_3_4))
def l4_0 (m9 : Y9) (m10 : Y10) (L : Nat) (a0 : Int) : Nat → Int → (List N10) → (List M9) → (List W2) → (List S10) → Int → (List N10) → (List M9) → (List W2) → (List S10) → Int → (Int → (List N10) → (List M9) → (List W2) → (List S10) → Int → (List N10) → (List M9) → (List W2) → (List S10) → Option R5) → Option R5
  | 0, _, _, _, _, _, _, _, _, _, _, _, _ => none
  | n + 1, v0_2_0, v0_2_1, v0_2_2, v0_2_3, v0_2_4, v0_3_0, v0_3_1, v0_3_2, v0_3_3, v0_3_4, v0_4, k => B4_0 (fun x => x) (fun v0_2_0 v0_2_1 v0_2_2 v0_2_3 v0_2_4 v0_3_0 v0_3_1 v0_3_2 v0_3_3 v0_3_4 v0_4 => l4_0 m9 m10 L a0 n v0_2_0 v0_2_1 v0_2_2 v0_2_3 v0_2_4 v0_3_0 v0_3_1 v0_3_2 v0_3_3 v0_3_4 v0_4 k) k m9 m10 a0 v0_2_0 v0_2_1 v0_2_2 v0_2_3 v0_2_4 v0_3_0 v0_3_1 v0_3_2 v0_3_3 v0_3_4 v0_4
theorem h4_0 (m9 : Y9) (m10 : Y10) (L : Nat) (a0 : Int) (k : St cxT.ty → Option (V cxT.ty)) (xk : Nat → St cxT.ty → Option (V cxT.ty)) (k' : Int → (List N10) → (List M9) → (List W2) → (List S10) → Int → (List N10) → (List M9) → (List W2) → (List S10) → Option R5) (hk : ∀ (w0_2_0 : Int) (w0_2_1 : (List N10)) (w0_2_2 : (List M9)) (w0_2_3 : (List W2)) (w0_2_4 : (List S10)) (w0_3_0 : Int) (w0_3_1 : (List N10)) (w0_3_2 : (List M9)) (w0_3_3 : (List W2)) (w0_3_4 : (List S10)), k (X4_0 a0 w0_2_0 w0_2_1 w0_2_2 w0_2_3 w0_2_4 w0_3_0 w0_3_1 w0_3_2 w0_3_3 w0_3_4) = (k' w0_2_0 w0_2_1 w0_2_2 w0_2_3 w0_2_4 w0_3_0 w0_3_1 w0_3_2 w0_3_3 w0_3_4).map n4) : ∀ (n : Nat) (v0_2_0 : Int) (v0_2_1 : (List N10)) (v0_2_2 : (List M9)) (v0_2_3 : (List W2)) (v0_2_4 : (List S10)) (v0_3_0 : Int) (v0_3_1 : (List N10)) (v0_3_2 : (List M9)) (v0_3_3 : (List W2)) (v0_3_4 : (List S10)) (v0_4 : Int), headF prog (ev4 m9 m10) L f4 0 [1, 1, 1, 0, 1, 0, 0] (outK (outV prog f4) k xk) n (S4_0 a0 v0_2_0 v0_2_1 v0_2_2 v0_2_3 v0_2_4 v0_3_0 v0_3_1 v0_3_2 v0_3_3 v0_3_4 v0_4) = (l4_0 m9 m10 L a0 n v0_2_0 v0_2_1 v0_2_2 v0_2_3 v0_2_4 v0_3_0 v0_3_1 v0_3_2 v0_3_3 v0_3_4 v0_4 k').map n4
  | 0, _, _, _, _, _, _, _, _, _, _, _ => rfl
  | n + 1, v0_2_0, v0_2_1, v0_2_2, v0_2_3, v0_2_4, v0_3_0, v0_3_1, v0_3_2, v0_3_3, v0_3_4, v0_4 => by
    rw [headF_round]
    have ih := h4_0 m9 m10 L a0 k xk k' hk n
    refine .trans (b := B4_0 n4 (fun v0_2_0 v0_2_1 v0_2_2 v0_2_3 v0_2_4 v0_3_0 v0_3_1 v0_3_2 v0_3_3 v0_3_4 v0_4 => (headF prog (ev4 m9 m10) L f4 0 [1, 1, 1, 0, 1, 0, 0] (outK (outV prog f4) k xk) n) (S4_0 a0 v0_2_0 v0_2_1 v0_2_2 v0_2_3 v0_2_4 v0_3_0 v0_3_1 v0_3_2 v0_3_3 v0_3_4 v0_4)) (fun w0_2_0 w0_2_1 w0_2_2 w0_2_3 w0_2_4 w0_3_0 w0_3_1 w0_3_2 w0_3_3 w0_3_4 => k (X4_0 a0 w0_2_0 w0_2_1 w0_2_2 w0_2_3 w0_2_4 w0_3_0 w0_3_1 w0_3_2 w0_3_3 w0_3_4)) m9 m10 a0 v0_2_0 v0_2_1 v0_2_2 v0_2_3 v0_2_4 v0_3_0 v0_3_1 v0_3_2 v0_3_3 v0_3_4 v0_4) (by kernel_rfl) ?_
    unfold l4_0 B4_0
    repeat' first | with_reducible refine cgB ?_ ?_ | with_reducible refine cgT fun _ => ?_ | with_reducible refine cgN fun _ => ?_ | exact ih _ _ _ _ _ _ _ _ _ _ _ | exact hk _ _ _ _ _ _ _ _ _ _ | exact rfl
def g4 (m9 : Y9) (m10 : Y10) (L : Nat) (a0 : Int) : Option R5 := G4 (fun x => x) (fun v0_2_0 v0_2_1 v0_2_2 v0_2_3 v0_2_4 v0_3_0 v0_3_1 v0_3_2 v0_3_3 v0_3_4 v0_4 => l4_0 m9 m10 L a0 L v0_2_0 v0_2_1 v0_2_2 v0_2_3 v0_2_4 v0_3_0 v0_3_1 v0_3_2 v0_3_3 v0_3_4 v0_4 (fun w0_2_0 w0_2_1 w0_2_2 w0_2_3 w0_2_4 w0_3_0 w0_3_1 w0_3_2 w0_3_3 w0_3_4 => A4_0 (fun x => x) m9 m10 a0 w0_2_0 w0_2_1 w0_2_2 w0_2_3 w0_2_4 w0_3_0 w0_3_1 w0_3_2 w0_3_3 w0_3_4)) m9 m10 a0
theorem e4 (m9 : Y9) (m10 : Y10) (L : Nat) (a0 : Int) : evF prog (ev4 m9 m10) (loopN L) f4 (a4.enc a0) = (g4 m9 m10 L a0).map n4 := by
  have hin0 : ∀ (v0_2_0 : Int) (v0_2_1 : (List N10)) (v0_2_2 : (List M9)) (v0_2_3 : (List W2)) (v0_2_4 : (List S10)) (v0_3_0 : Int) (v0_3_1 : (List N10)) (v0_3_2 : (List M9)) (v0_3_3 : (List W2)) (v0_3_4 : (List S10)) (v0_4 : Int), headF prog (ev4 m9 m10) L f4 0 [1, 1, 1, 0, 1, 0, 0] (outK (outV prog f4) (topK prog (ev4 m9 m10) L f4 [1, 1, 1, 0, 1] (outV prog f4)).n (topK prog (ev4 m9 m10) L f4 [1, 1, 1, 0, 1] (outV prog f4)).x) L (S4_0 a0 v0_2_0 v0_2_1 v0_2_2 v0_2_3 v0_2_4 v0_3_0 v0_3_1 v0_3_2 v0_3_3 v0_3_4 v0_4) = ((fun v0_2_0 v0_2_1 v0_2_2 v0_2_3 v0_2_4 v0_3_0 v0_3_1 v0_3_2 v0_3_3 v0_3_4 v0_4 => l4_0 m9 m10 L a0 L v0_2_0 v0_2_1 v0_2_2 v0_2_3 v0_2_4 v0_3_0 v0_3_1 v0_3_2 v0_3_3 v0_3_4 v0_4 (fun w0_2_0 w0_2_1 w0_2_2 w0_2_3 w0_2_4 w0_3_0 w0_3_1 w0_3_2 w0_3_3 w0_3_4 => A4_0 (fun x => x) m9 m10 a0 w0_2_0 w0_2_1 w0_2_2 w0_2_3 w0_2_4 w0_3_0 w0_3_1 w0_3_2 w0_3_3 w0_3_4)) v0_2_0 v0_2_1 v0_2_2 v0_2_3 v0_2_4 v0_3_0 v0_3_1 v0_3_2 v0_3_3 v0_3_4 v0_4).map n4 := fun v0_2_0 v0_2_1 v0_2_2 v0_2_3 v0_2_4 v0_3_0 v0_3_1 v0_3_2 v0_3_3 v0_3_4 v0_4 => h4_0 m9 m10 L a0 _ _ _ (fun w0_2_0 w0_2_1 w0_2_2 w0_2_3 w0_2_4 w0_3_0 w0_3_1 w0_3_2 w0_3_3 w0_3_4 => by refine .trans (b := A4_0 n4 m9 m10 a0 w0_2_0 w0_2_1 w0_2_2 w0_2_3 w0_2_4 w0_3_0 w0_3_1 w0_3_2 w0_3_3 w0_3_4) (by kernel_rfl) ?_; unfold A4_0; repeat' first | with_reducible refine cgB ?_ ?_ | with_reducible refine cgT fun _ => ?_ | with_reducible refine cgN fun _ => ?_ | exact rfl) L v0_2_0 v0_2_1 v0_2_2 v0_2_3 v0_2_4 v0_3_0 v0_3_1 v0_3_2 v0_3_3 v0_3_4 v0_4
  refine .trans (b := G4 n4 (fun v0_2_0 v0_2_1 v0_2_2 v0_2_3 v0_2_4 v0_3_0 v0_3_1 v0_3_2 v0_3_3 v0_3_4 v0_4 => headF prog (ev4 m9 m10) L f4 0 [1, 1, 1, 0, 1, 0, 0] (outK (outV prog f4) (topK prog (ev4 m9 m10) L f4 [1, 1, 1, 0, 1] (outV prog f4)).n (topK prog (ev4 m9 m10) L f4 [1, 1, 1, 0, 1] (outV prog f4)).x) L (S4_0 a0 v0_2_0 v0_2_1 v0_2_2 v0_2_3 v0_2_4 v0_3_0 v0_3_1 v0_3_2 v0_3_3 v0_3_4 v0_4)) m9 m10 a0) (by kernel_rfl) ?_
  unfold g4 G4
  repeat' first | with_reducible refine cgB ?_ ?_ | with_reducible refine cgT fun _ => ?_ | with_reducible refine cgN fun _ => ?_ | exact hin0 _ _ _ _ _ _ _ _ _ _ _ | exact rfl
def w4 (m9 : Y9) (m10 : Y10) (L : Nat) (x : Int) : Option R5 := g4 m9 m10 L x
theorem s4 (m9 : Y9) (m10 : Y10) (h9 : Sat prog cxT 9 (c9 m9)) (h10 : Sat prog cxT 10 (c10 m10)) (m : Y4) (hm : ∀ (x : Int) t, m x = some t → ∃ L, w4 m9 m10 L x = some t) : Sat prog cxT 4 (c4 m) :=
  sat_t cxT_ok cxT_pok (by rfl) (fn := f4) rfl a4 n4 dd4 m (ev4 m9 m10) (kok_cons h9 (kok_cons h10 kok_nil)) kwok_nil (w4 m9 m10) (fun L x => e4 m9 m10 L x) hm hs4
/-! loop.example/g00222/impl.NewCluster -/
def ev5 (m11 : Y11) (m12 : Y12) : Env cxT := { Kc := kcOf [(11, c11 m11), (12, c12 m12)], Kw := kwOf [], lv := fun i => if i = 0 then [(0, []), (2, [none, some 38, some 56, some 59, some 66]), (3, [some 38, some 56, some 59, some 66]), (9, []), (10, [])] else [], xv := fun i => if i = 0 then some [(2, [none, some 38, some 56, some 59, some 66]), (3, [some 38, some 56, some 59, some 66])] else none }
def S5_0 (a0 : Int) (v0_2_0 : Int) (v0_2_1 : (List N10)) (v0_2_2 : (List M9)) (v0_2_3 : (List W2)) (v0_2_4 : (List S10)) (v0_3_0 : (List N10)) (v0_3_1 : (List M9)) (v0_3_2 : (List W2)) (v0_3_3 : (List S10)) (v0_10 : Int) : St cxT.ty := { slots := [(.inl (.inl (lv (.int .i64 a0)))), junk, (.inr (.inr { kind := 0, nm := 128, cells := [(lv (.int .i64 v0_2_0)), (ls { own := 1, nm := 130, e := 38, o := true, xs := v0_2_1 }), (ls { own := 1, nm := 131, e := 56, o := true, xs := v0_2_2 }), (ls { own := 1, nm := 132, e := 59, o := true, xs := v0_2_3 }), (ls { own := 1, nm := 133, e := 66, o := true, xs := v0_2_4 })], s := { own := 0, nm := 0, e := 0, o := false, xs := ([] : List (PUnit)) }, i := 0, off := 0 })), (.inr (.inr { kind := 0, nm := 192, cells := [(ls { own := 1, nm := 193, e := 38, o := true, xs := v0_3_0 }), (ls { own := 1, nm := 194, e := 56, o := true, xs := v0_3_1 }), (ls { own := 1, nm := 195, e := 59, o := true, xs := v0_3_2 }), (ls { own := 1, nm := 196, e := 66, o := true, xs := v0_3_3 })], s := { own := 0, nm := 0, e := 0, o := false, xs := ([] : List (PUnit)) }, i := 0, off := 0 })), junk, junk, junk, junk, junk, (.inl (.inl (lv (.int .i64 a0)))), (.inl (.inl (lv (.int .i64 v0_10))))] ++ List.replicate 14 junk, D := [], F := [], ctr := 1 }
def X5_0 (a0 : Int) (w0_2_0 : Int) (w0_2_1 : (List N10)) (w0_2_2 : (List M9)) (w0_2_3 : (List W2)) (w0_2_4 : (List S10)) (w0_3_0 : (List N10)) (w0_3_1 : (List M9)) (w0_3_2 : (List W2)) (w0_3_3 : (List S10)) : St cxT.ty := { slots := [junk, junk, (.inr (.inr { kind := 0, nm := 128, cells := [(lv (.int .i64 w0_2_0)), (ls { own := 1, nm := 130, e := 38, o := true, xs := w0_2_1 }), (ls { own := 1, nm := 131, e := 56, o := true, xs := w0_2_2 }), (ls { own := 1, nm := 132, e := 59, o := true, xs := w0_2_3 }), (ls { own := 1, nm := 133, e := 66, o := true, xs := w0_2_4 })], s := { own := 0, nm := 0, e := 0, o := false, xs := ([] : List (PUnit)) }, i := 0, off := 0 })), (.inr (.inr { kind := 0, nm := 192, cells := [(ls { own := 1, nm := 193, e := 38, o := true, xs := w0_3_0 }), (ls { own := 1, nm := 194, e := 56, o := true, xs := w0_3_1 }), (ls { own := 1, nm := 195, e := 59, o := true, xs := w0_3_2 }), (ls { own := 1, nm := 196, e := 66, o := true, xs := w0_3_3 })], s := { own := 0, nm := 0, e := 0, o := false, xs := ([] : List (PUnit)) }, i := 0, off := 0 }))] ++ List.replicate 21 junk, D := [], F := [], ctr := 1 }
def G5 {B : Type} (u : R5 → B) (hh0 : Int → (List N10) → (List M9) → (List W2) → (List S10) → (List N10) → (List M9) → (List W2) → (List S10) → Int → Option B) (m11 : Y11) (m12 : Y12) (a0 : Int) : Option B :=
  tst (m11 a0) false fun (q1 : Bool) => bif (!q1) then some (u ((3 : Int), [], [], ([] : List W2), ([] : List S10)))
    else hh0 (0 : Int) [] [] ([] : List W2) ([] : List S10) [] [] ([] : List W2) ([] : List S10) (0 : Int)
def B5_0 {B : Type} (u : R5 → B) (gg : Int → (List N10) → (List M9) → (List W2) → (List S10) → (List N10) → (List M9) → (List W2) → (List S10) → Int → Option B) (kk : Int → (List N10) → (List M9) → (List W2) → (List S10) → (List N10) → (List M9) → (List W2) → (List S10) → Option B) (m11 : Y11) (m12 : Y12) (a0 : Int) (v0_2_0 : Int) (v0_2_1 : (List N10)) (v0_2_2 : (List M9)) (v0_2_3 : (List W2)) (v0_2_4 : (List S10)) (v0_3_0 : (List N10)) (v0_3_1 : (List M9)) (v0_3_2 : (List W2)) (v0_3_3 : (List S10)) (v0_10 : Int) : Option B :=
  bif (decide (v0_10 < a0)) then tst (m12 (v0_10, a0)) ((0 : Int), (0 : Int), (0 : Int), (0 : Int), (0 : Int), [], (0 : Int), (0 : Int), [], [], [], []) fun (q2 : (Int × Int × Int × Int × Int × (List E9) × Int × Int × (List Int) × (List Int) × (List Int) × (List M9))) => bif (decide (((List.length v0_3_0) + (List.length (List.cons (q2.2.1, (q2.2.2.1, (q2.2.2.2.1, (q2.2.2.2.2.1, (q2.2.2.2.2.2.1, (q2.2.2.2.2.2.2.1, (q2.2.2.2.2.2.2.2.1, (q2.2.2.2.2.2.2.2.2.1, (q2.2.2.2.2.2.2.2.2.2.1, q2.2.2.2.2.2.2.2.2.2.2.1))))))))) []))) ≤ (1000000000 : Nat))) then gg v0_2_0 v0_2_1 v0_2_2 v0_2_3 v0_2_4 (v0_3_0 ++ (List.cons (q2.2.1, (q2.2.2.1, (q2.2.2.2.1, (q2.2.2.2.2.1, (q2.2.2.2.2.2.1, (q2.2.2.2.2.2.2.1, (q2.2.2.2.2.2.2.2.1, (q2.2.2.2.2.2.2.2.2.1, (q2.2.2.2.2.2.2.2.2.2.1, q2.2.2.2.2.2.2.2.2.2.2.1))))))))) [])) v0_3_1 v0_3_2 v0_3_3 (IntKind.wrap .i64 (v0_10 + (1 : Int)))
      else none
  else kk v0_2_0 v0_2_1 v0_2_2 v0_2_3 v0_2_4 v0_3_0 v0_3_1 v0_3_2 v0_3_3
def A5_0 {B : Type} (u : R5 → B) (m11 : Y11) (m12 : Y12) (a0 : Int) (w0_2_0 : Int) (w0_2_1 : (List N10)) (w0_2_2 : (List M9)) (w0_2_3 : (List W2)) (w0_2_4 : (List S10)) (w0_3_0 : (List N10)) (w0_3_1 : (List M9)) (w0_3_2 : (List W2)) (w0_3_3 : (List S10)) : Option B :=
  some (u ((0 : Int), w0_3_0, w0_3_1, w0_3_2, w0_3_3))
def l5_0 (m11 : Y11) (m12 : Y12) (L : Nat) (a0 : Int) : Nat → Int → (List N10) → (List M9) → (List W2) → (List S10) → (List N10) → (List M9) → (List W2) → (List S10) → Int → (Int → (List N10) → (List M9) → (List W2) → (List S10) → (List N10) → (List M9) → (List W2) → (List S10) → Option R5) → Option R5
  | 0, _, _, _, _, _, _, _, _, _, _, _ => none
  | n + 1, v0_2_0, v0_2_1, v0_2_2, v0_2_3, v0_2_4, v0_3_0, v0_3_1, v0_3_2, v0_3_3, v0_10, k => B5_0 (fun x => x) (fun v0_2_0 v0_2_1 v0_2_2 v0_2_3 v0_2_4 v0_3_0 v0_3_1 v0_3_2 v0_3_3 v0_10 => l5_0 m11 m12 L a0 n v0_2_0 v0_2_1 v0_2_2 v0_2_3 v0_2_4 v0_3_0 v0_3_1 v0_3_2 v0_3_3 v0_10 k) k m11 m12 a0 v0_2_0 v0_2_1 v0_2_2 v0_2_3 v0_2_4 v0_3_0 v0_3_1 v0_3_2 v0_3_3 v0_10
theorem h5_0 (m11 : Y11) (m12 : Y12) (L : Nat) (a0 : Int) (k : St cxT.ty → Option (V cxT.ty)) (xk : Nat → St cxT.ty → Option (V cxT.ty)) (k' : Int → (List N10) → (List M9) → (List W2) → (List S10) → (List N10) → (List M9) → (List W2) → (List S10) → Option R5) (hk : ∀ (w0_2_0 : Int) (w0_2_1 : (List N10)) (w0_2_2 : (List M9)) (w0_2_3 : (List W2)) (w0_2_4 : (List S10)) (w0_3_0 : (List N10)) (w0_3_1 : (List M9)) (w0_3_2 : (List W2)) (w0_3_3 : (List S10)), k (X5_0 a0 w0_2_0 w0_2_1 w0_2_2 w0_2_3 w0_2_4 w0_3_0 w0_3_1 w0_3_2 w0_3_3) = (k' w0_2_0 w0_2_1 w0_2_2 w0_2_3 w0_2_4 w0_3_0 w0_3_1 w0_3_2 w0_3_3).map n5) : ∀ (n : Nat) (v0_2_0 : Int) (v0_2_1 : (List N10)) (v0_2_2 : (List M9)) (v0_2_3 : (List W2)) (v0_2_4 : (List S10)) (v0_3_0 : (List N10)) (v0_3_1 : (List M9)) (v0_3_2 : (List W2)) (v0_3_3 : (List S10)) (v0_10 : Int), headF prog (ev5 m11 m12) L f5 0 [1, 1, 1, 0, 1, 0, 0] (outK (outV prog f5) k xk) n (S5_0 a0 v0_2_0 v0_2_1 v0_2_2 v0_2_3 v0_2_4 v0_3_0 v0_3_1 v0_3_2 v0_3_3 v0_10) = (l5_0 m11 m12 L a0 n v0_2_0 v0_2_1 v0_2_2 v0_2_3 v0_2_4 v0_3_0 v0_3_1 v0_3_2 v0_3_3 v0_10 k').map n5
  | 0, _, _, _, _, _, _, _, _, _, _ => rfl
  | n + 1, v0_2_0, v0_2_1, v0_2_2, v0_2_3, v0_2_4, v0_3_0, v0_3_1, v0_3_2, v0_3_3, v0_10 => by
    rw [headF_round]
    have ih := h5_0 m11 m12 L a0 k xk k' hk n
    refine .trans (b := B5_0 n5 (fun v0_2_0 v0_2_1 v0_2_2 v0_2_3 v0_2_4 v0_3_0 v0_3_1 v0_3_2 v0_3_3 v0_10 => (headF prog (ev5 m11 m12) L f5 0 [1, 1, 1, 0, 1, 0, 0] (outK (outV prog f5) k xk) n) (S5_0 a0 v0_2_0 v0_2_1 v0_2_2 v0_2_3 v0_2_4 v0_3_0 v0_3_1 v0_3_2 v0_3_3 v0_10)) (fun w0_2_0 w0_2_1 w0_2_2 w0_2_3 w0_2_4 w0_3_0 w0_3_1 w0_3_2 w0_3_3 => k (X5_0 a0 w0_2_0 w0_2_1 w0_2_2 w0_2_3 w0_2_4 w0_3_0 w0_3_1 w0_3_2 w0_3_3)) m11 m12 a0 v0_2_0 v0_2_1 v0_2_2 v0_2_3 v0_2_4 v0_3_0 v0_3_1 v0_3_2 v0_3_3 v0_10) (by kernel_rfl) ?_
    unfold l5_0 B5_0
    repeat' first | with_reducible refine cgB ?_ ?_ | with_reducible refine cgT fun _ => ?_ | with_reducible refine cgN fun _ => ?_ | exact ih _ _ _ _ _ _ _ _ _ _ | exact hk _ _ _ _ _ _ _ _ _ | exact rfl
def g5 (m11 : Y11) (m12 : Y12) (L : Nat) (a0 : Int) : Option R5 := G5 (fun x => x) (fun v0_2_0 v0_2_1 v0_2_2 v0_2_3 v0_2_4 v0_3_0 v0_3_1 v0_3_2 v0_3_3 v0_10 => l5_0 m11 m12 L a0 L v0_2_0 v0_2_1 v0_2_2 v0_2_3 v0_2_4 v0_3_0 v0_3_1 v0_3_2 v0_3_3 v0_10 (fun w0_2_0 w0_2_1 w0_2_2 w0_2_3 w0_2_4 w0_3_0 w0_3_1 w0_3_2 w0_3_3 => A5_0 (fun x => x) m11 m12 a0 w0_2_0 w0_2_1 w0_2_2 w0_2_3 w0_2_4 w0_3_0 w0_3_1 w0_3_2 w0_3_3)) m11 m12 a0
theorem e5 (m11 : Y11) (m12 : Y12) (L : Nat) (a0 : Int) : evF prog (ev5 m11 m12) (loopN L) f5 (a5.enc a0) = (g5 m11 m12 L a0).map n5 := by
  have hin0 : ∀ (v0_2_0 : Int) (v0_2_1 : (List N10)) (v0_2_2 : (List M9)) (v0_2_3 : (List W2)) (v0_2_4 : (List S10)) (v0_3_0 : (List N10)) (v0_3_1 : (List M9)) (v0_3_2 : (List W2)) (v0_3_3 : (List S10)) (v0_10 : Int), headF prog (ev5 m11 m12) L f5 0 [1, 1, 1, 0, 1, 0, 0] (outK (outV prog f5) (topK prog (ev5 m11 m12) L f5 [1, 1, 1, 0, 1] (outV prog f5)).n (topK prog (ev5 m11 m12) L f5 [1, 1, 1, 0, 1] (outV prog f5)).x) L (S5_0 a0 v0_2_0 v0_2_1 v0_2_2 v0_2_3 v0_2_4 v0_3_0 v0_3_1 v0_3_2 v0_3_3 v0_10) = ((fun v0_2_0 v0_2_1 v0_2_2 v0_2_3 v0_2_4 v0_3_0 v0_3_1 v0_3_2 v0_3_3 v0_10 => l5_0 m11 m12 L a0 L v0_2_0 v0_2_1 v0_2_2 v0_2_3 v0_2_4 v0_3_0 v0_3_1 v0_3_2 v0_3_3 v0_10 (fun w0_2_0 w0_2_1 w0_2_2 w0_2_3 w0_2_4 w0_3_0 w0_3_1 w0_3_2 w0_3_3 => A5_0 (fun x => x) m11 m12 a0 w0_2_0 w0_2_1 w0_2_2 w0_2_3 w0_2_4 w0_3_0 w0_3_1 w0_3_2 w0_3_3)) v0_2_0 v0_2_1 v0_2_2 v0_2_3 v0_2_4 v0_3_0 v0_3_1 v0_3_2 v0_3_3 v0_10).map n5 := fun v0_2_0 v0_2_1 v0_2_2 v0_2_3 v0_2_4 v0_3_0 v0_3_1 v0_3_2 v0_3_3 v0_10 => h5_0 m11 m12 L a0 _ _ _ (fun w0_2_0 w0_2_1 w0_2_2 w0_2_3 w0_2_4 w0_3_0 w0_3_1 w0_3_2 w0_3_3 => by refine .trans (b := A5_0 n5 m11 m12 a0 w0_2_0 w0_2_1 w0_2_2 w0_2_3 w0_2_4 w0_3_0 w0_3_1 w0_3_2 w0_3_3) (by kernel_rfl) ?_; unfold A5_0; repeat' first | with_reducible refine cgB ?_ ?_ | with_reducible refine cgT fun _ => ?_ | with_reducible refine cgN fun _ => ?_ | exact rfl) L v0_2_0 v0_2_1 v0_2_2 v0_2_3 v0_2_4 v0_3_0 v0_3_1 v0_3_2 v0_3_3 v0_10
  refine .trans (b := G5 n5 (fun v0_2_0 v0_2_1 v0_2_2 v0_2_3 v0_2_4 v0_3_0 v0_3_1 v0_3_2 v0_3_3 v0_10 => headF prog (ev5 m11 m12) L f5 0 [1, 1, 1, 0, 1, 0, 0] (outK (outV prog f5) (topK prog (ev5 m11 m12) L f5 [1, 1, 1, 0, 1] (outV prog f5)).n (topK prog (ev5 m11 m12) L f5 [1, 1, 1, 0, 1] (outV prog f5)).x) L (S5_0 a0 v0_2_0 v0_2_1 v0_2_2 v0_2_3 v0_2_4 v0_3_0 v0_3_1 v0_3_2 v0_3_3 v0_10)) m11 m12 a0) (by kernel_rfl) ?_
  unfold g5 G5
  repeat' first | with_reducible refine cgB ?_ ?_ | with_reducible refine cgT fun _ => ?_ | with_reducible refine cgN fun _ => ?_ | exact hin0 _ _ _ _ _ _ _ _ _ _ | exact rfl
def w5 (m11 : Y11) (m12 : Y12) (L : Nat) (x : Int) : Option R5 := g5 m11 m12 L x
theorem s5 (m11 : Y11) (m12 : Y12) (h11 : Sat prog cxT 11 (c11 m11)) (h12 : Sat prog cxT 12 (c12 m12)) (m : Y5) (hm : ∀ (x : Int) t, m x = some t → ∃ L, w5 m11 m12 L x = some t) : Sat prog cxT 5 (c5 m) :=
  sat_t cxT_ok cxT_pok (by rfl) (fn := f5) rfl a5 n5 dd5 m (ev5 m11 m12) (kok_cons h11 (kok_cons h12 kok_nil)) kwok_nil (w5 m11 m12) (fun L x => e5 m11 m12 L x) hm hs5
end Go.Proofs.Try

set_option maxHeartbeats 0
set_option maxRecDepth 100000
set_option linter.unusedVariables false
set_option linter.unusedSimpArgs false
namespace Go.Proofs.Try
open Go Go.VM Go.RowKit
/-! loop.example/g00222/laws.eqCmd -/
def ev41 : Env cxT := { Kc := kcOf [], Kw := kwOf [], lv := fun i => [], xv := fun i => none }
def G41 {B : Type} (u : Bool → B) (a0_0 : Int) (a0_1 : Int) (a0_2 : Int) (a0_3 : Int) (a0_4 : Int) (a0_5 : Int) (a1_0 : Int) (a1_1 : Int) (a1_2 : Int) (a1_3 : Int) (a1_4 : Int) (a1_5 : Int) : Option B :=
  bif (a0_0 != a1_0) then some (u false)
  else bif (a0_1 != a1_1) then some (u false)
  else bif (a0_2 != a1_2) then some (u false)
  else bif (a0_3 != a1_3) then some (u false)
  else bif (a0_4 != a1_4) then some (u false)
  else bif (a0_5 != a1_5) then some (u false)
  else some (u true)
def g41 (L : Nat) (a0_0 : Int) (a0_1 : Int) (a0_2 : Int) (a0_3 : Int) (a0_4 : Int) (a0_5 : Int) (a1_0 : Int) (a1_1 : Int) (a1_2 : Int) (a1_3 : Int) (a1_4 : Int) (a1_5 : Int) : Option Bool := G41 (fun x => x) a0_0 a0_1 a0_2 a0_3 a0_4 a0_5 a1_0 a1_1 a1_2 a1_3 a1_4 a1_5
theorem e41 (L : Nat) (a0_0 : Int) (a0_1 : Int) (a0_2 : Int) (a0_3 : Int) (a0_4 : Int) (a0_5 : Int) (a1_0 : Int) (a1_1 : Int) (a1_2 : Int) (a1_3 : Int) (a1_4 : Int) (a1_5 : Int) : evF prog ev41 (loopN L) f41 (a41.enc ((a0_0, a0_1, a0_2, a0_3, a0_4, a0_5), (a1_0, a1_1, a1_2, a1_3, a1_4, a1_5))) = (g41 L a0_0 a0_1 a0_2 a0_3 a0_4 a0_5 a1_0 a1_1 a1_2 a1_3 a1_4 a1_5).map n41 := by
  refine .trans (b := G41 n41 a0_0 a0_1 a0_2 a0_3 a0_4 a0_5 a1_0 a1_1 a1_2 a1_3 a1_4 a1_5) (by kernel_rfl) ?_
  unfold g41 G41
  repeat' first | with_reducible refine cgB ?_ ?_ | with_reducible refine cgT fun _ => ?_ | with_reducible refine cgN fun _ => ?_ | exact rfl
def w41 (L : Nat) (x : ((Int × Int × Int × Int × Int × Int) × (Int × Int × Int × Int × Int × Int))) : Option Bool := g41 L x.1.1 x.1.2.1 x.1.2.2.1 x.1.2.2.2.1 x.1.2.2.2.2.1 x.1.2.2.2.2.2 x.2.1 x.2.2.1 x.2.2.2.1 x.2.2.2.2.1 x.2.2.2.2.2.1 x.2.2.2.2.2.2
theorem s41 (m : Y41) (hm : ∀ (x : ((Int × Int × Int × Int × Int × Int) × (Int × Int × Int × Int × Int × Int))) t, m x = some t → ∃ L, w41 L x = some t) : Sat prog cxT 41 (c41 m) :=
  sat_t cxT_ok cxT_pok (by rfl) (fn := f41) rfl a41 n41 dd41 m ev41 kok_nil kwok_nil (w41) (fun L x => e41 L x.1.1 x.1.2.1 x.1.2.2.1 x.1.2.2.2.1 x.1.2.2.2.2.1 x.1.2.2.2.2.2 x.2.1 x.2.2.1 x.2.2.2.1 x.2.2.2.2.1 x.2.2.2.2.2.1 x.2.2.2.2.2.2) hm hs41
/-! loop.example/g00222/laws.eqEntry -/
def ev40 (m41 : Y41) : Env cxT := { Kc := kcOf [(41, c41 m41)], Kw := kwOf [], lv := fun i => [], xv := fun i => none }
def G40 {B : Type} (u : Bool → B) (m41 : Y41) (a0_0 : Int) (a0_1 : Int) (a0_2 : Int) (a0_3 : Int) (a0_4 : Int) (a0_5 : Int) (a0_6 : Int) (a0_7 : Int) (a0_8 : Int) (a1_0 : Int) (a1_1 : Int) (a1_2 : Int) (a1_3 : Int) (a1_4 : Int) (a1_5 : Int) (a1_6 : Int) (a1_7 : Int) (a1_8 : Int) : Option B :=
  bif (a0_0 != a1_0) then some (u false)
  else bif (a0_1 != a1_1) then some (u false)
  else bif (a0_2 != a1_2) then some (u false)
  else tst (m41 ((a0_3, (a0_4, (a0_5, (a0_6, (a0_7, a0_8))))), (a1_3, (a1_4, (a1_5, (a1_6, (a1_7, a1_8))))))) false fun (q1 : Bool) => bif (!q1) then some (u false)
    else some (u true)
def g40 (m41 : Y41) (L : Nat) (a0_0 : Int) (a0_1 : Int) (a0_2 : Int) (a0_3 : Int) (a0_4 : Int) (a0_5 : Int) (a0_6 : Int) (a0_7 : Int) (a0_8 : Int) (a1_0 : Int) (a1_1 : Int) (a1_2 : Int) (a1_3 : Int) (a1_4 : Int) (a1_5 : Int) (a1_6 : Int) (a1_7 : Int) (a1_8 : Int) : Option Bool := G40 (fun x => x) m41 a0_0 a0_1 a0_2 a0_3 a0_4 a0_5 a0_6 a0_7 a0_8 a1_0 a1_1 a1_2 a1_3 a1_4 a1_5 a1_6 a1_7 a1_8
theorem e40 (m41 : Y41) (L : Nat) (a0_0 : Int) (a0_1 : Int) (a0_2 : Int) (a0_3 : Int) (a0_4 : Int) (a0_5 : Int) (a0_6 : Int) (a0_7 : Int) (a0_8 : Int) (a1_0 : Int) (a1_1 : Int) (a1_2 : Int) (a1_3 : Int) (a1_4 : Int) (a1_5 : Int) (a1_6 : Int) (a1_7 : Int) (a1_8 : Int) : evF prog (ev40 m41) (loopN L) f40 (a40.enc ((a0_0, a0_1, a0_2, a0_3, a0_4, a0_5, a0_6, a0_7, a0_8), (a1_0, a1_1, a1_2, a1_3, a1_4, a1_5, a1_6, a1_7, a1_8))) = (g40 m41 L a0_0 a0_1 a0_2 a0_3 a0_4 a0_5 a0_6 a0_7 a0_8 a1_0 a1_1 a1_2 a1_3 a1_4 a1_5 a1_6 a1_7 a1_8).map n40 := by
  refine .trans (b := G40 n40 m41 a0_0 a0_1 a0_2 a0_3 a0_4 a0_5 a0_6 a0_7 a0_8 a1_0 a1_1 a1_2 a1_3 a1_4 a1_5 a1_6 a1_7 a1_8) (by kernel_rfl) ?_
  unfold g40 G40
  repeat' first | with_reducible refine cgB ?_ ?_ | with_reducible refine cgT fun _ => ?_ | with_reducible refine cgN fun _ => ?_ | exact rfl
def w40 (m41 : Y41) (L : Nat) (x : (E9 × E9)) : Option Bool := g40 m41 L x.1.1 x.1.2.1 x.1.2.2.1 x.1.2.2.2.1 x.1.2.2.2.2.1 x.1.2.2.2.2.2.1 x.1.2.2.2.2.2.2.1 x.1.2.2.2.2.2.2.2.1 x.1.2.2.2.2.2.2.2.2 x.2.1 x.2.2.1 x.2.2.2.1 x.2.2.2.2.1 x.2.2.2.2.2.1 x.2.2.2.2.2.2.1 x.2.2.2.2.2.2.2.1 x.2.2.2.2.2.2.2.2.1 x.2.2.2.2.2.2.2.2.2
theorem s40 (m41 : Y41) (h41 : Sat prog cxT 41 (c41 m41)) (m : Y40) (hm : ∀ (x : (E9 × E9)) t, m x = some t → ∃ L, w40 m41 L x = some t) : Sat prog cxT 40 (c40 m) :=
  sat_t cxT_ok cxT_pok (by rfl) (fn := f40) rfl a40 n40 dd40 m (ev40 m41) (kok_cons h41 kok_nil) kwok_nil (w40 m41) (fun L x => e40 m41 L x.1.1 x.1.2.1 x.1.2.2.1 x.1.2.2.2.1 x.1.2.2.2.2.1 x.1.2.2.2.2.2.1 x.1.2.2.2.2.2.2.1 x.1.2.2.2.2.2.2.2.1 x.1.2.2.2.2.2.2.2.2 x.2.1 x.2.2.1 x.2.2.2.1 x.2.2.2.2.1 x.2.2.2.2.2.1 x.2.2.2.2.2.2.1 x.2.2.2.2.2.2.2.1 x.2.2.2.2.2.2.2.2.1 x.2.2.2.2.2.2.2.2.2) hm hs40
/-! loop.example/g00222/laws.eqInt64S -/
def ev39 : Env cxT := { Kc := kcOf [], Kw := kwOf [], lv := fun i => if i = 0 then [(0, [some 2]), (1, [some 2]), (5, [])] else [], xv := fun i => if i = 0 then some [] else none }
def S39_0 (a0 : (List Int)) (a1 : (List Int)) (v0_5 : Int) : St cxT.ty := { slots := [(.inl (.inl (ls { own := 0, nm := 0, e := 2, o := false, xs := a0 }))), (.inl (.inl (ls { own := 0, nm := 0, e := 2, o := false, xs := a1 }))), junk, junk, junk, (.inl (.inl (lv (.int .i64 v0_5))))] ++ List.replicate 20 junk, D := [], F := [], ctr := 1 }
def X39_0 (a0 : (List Int)) (a1 : (List Int)) : St cxT.ty := { slots := [] ++ List.replicate 26 junk, D := [], F := [], ctr := 1 }
def G39 {B : Type} (u : Bool → B) (hh0 : Int → Option B) (a0 : (List Int)) (a1 : (List Int)) : Option B :=
  bif ((Nat.cast (List.length a0) : Int) != (Nat.cast (List.length a1) : Int)) then some (u false)
  else hh0 (0 : Int)
def B39_0 {B : Type} (u : Bool → B) (gg : Int → Option B) (kk : Option B) (a0 : (List Int)) (a1 : (List Int)) (v0_5 : Int) : Option B :=
  bif (decide (v0_5 < (Nat.cast (List.length a0) : Int))) then bif ((decide ((0 : Int) ≤ v0_5)) && (decide (v0_5 < (Nat.cast (List.length a0) : Int)))) then bif ((decide ((0 : Int) ≤ v0_5)) && (decide (v0_5 < (Nat.cast (List.length a1) : Int)))) then bif ((List.getD a0 v0_5.toNat (0 : Int)) != (List.getD a1 v0_5.toNat (0 : Int))) then some (u false)
        else gg (IntKind.wrap .i64 (v0_5 + (1 : Int)))
      else none
    else none
  else kk
def A39_0 {B : Type} (u : Bool → B) (a0 : (List Int)) (a1 : (List Int)) : Option B :=
  some (u true)
def l39_0 (L : Nat) (a0 : (List Int)) (a1 : (List Int)) : Nat → Int → (Option Bool) → Option Bool
  | 0, _, _ => none
  | n + 1, v0_5, k => B39_0 (fun x => x) (fun v0_5 => l39_0 L a0 a1 n v0_5 k) k a0 a1 v0_5
theorem h39_0 (L : Nat) (a0 : (List Int)) (a1 : (List Int)) (k : St cxT.ty → Option (V cxT.ty)) (xk : Nat → St cxT.ty → Option (V cxT.ty)) (k' : Option Bool) (hk : k (X39_0 a0 a1) = (k').map n39) : ∀ (n : Nat) (v0_5 : Int), headF prog ev39 L f39 0 [1, 1, 0, 1, 0, 0] (outK (outV prog f39) k xk) n (S39_0 a0 a1 v0_5) = (l39_0 L a0 a1 n v0_5 k').map n39
  | 0, _ => rfl
  | n + 1, v0_5 => by
    rw [headF_round]
    have ih := h39_0 L a0 a1 k xk k' hk n
    refine .trans (b := B39_0 n39 (fun v0_5 => (headF prog ev39 L f39 0 [1, 1, 0, 1, 0, 0] (outK (outV prog f39) k xk) n) (S39_0 a0 a1 v0_5)) (k (X39_0 a0 a1)) a0 a1 v0_5) (by kernel_rfl) ?_
    unfold l39_0 B39_0
    repeat' first | with_reducible refine cgB ?_ ?_ | with_reducible refine cgT fun _ => ?_ | with_reducible refine cgN fun _ => ?_ | exact ih _ | exact hk | exact rfl
def g39 (L : Nat) (a0 : (List Int)) (a1 : (List Int)) : Option Bool := G39 (fun x => x) (fun v0_5 => l39_0 L a0 a1 L v0_5 (A39_0 (fun x => x) a0 a1)) a0 a1
theorem e39 (L : Nat) (a0 : (List Int)) (a1 : (List Int)) : evF prog ev39 (loopN L) f39 (a39.enc (a0, a1)) = (g39 L a0 a1).map n39 := by
  have hin0 : ∀ (v0_5 : Int), headF prog ev39 L f39 0 [1, 1, 0, 1, 0, 0] (outK (outV prog f39) (topK prog ev39 L f39 [1, 1, 0, 1] (outV prog f39)).n (topK prog ev39 L f39 [1, 1, 0, 1] (outV prog f39)).x) L (S39_0 a0 a1 v0_5) = ((fun v0_5 => l39_0 L a0 a1 L v0_5 (A39_0 (fun x => x) a0 a1)) v0_5).map n39 := fun v0_5 => h39_0 L a0 a1 _ _ _ (by refine .trans (b := A39_0 n39 a0 a1) (by kernel_rfl) ?_; unfold A39_0; repeat' first | with_reducible refine cgB ?_ ?_ | with_reducible refine cgT fun _ => ?_ | with_reducible refine cgN fun _ => ?_ | exact rfl) L v0_5
  refine .trans (b := G39 n39 (fun v0_5 => headF prog ev39 L f39 0 [1, 1, 0, 1, 0, 0] (outK (outV prog f39) (topK prog ev39 L f39 [1, 1, 0, 1] (outV prog f39)).n (topK prog ev39 L f39 [1, 1, 0, 1] (outV prog f39)).x) L (S39_0 a0 a1 v0_5)) a0 a1) (by kernel_rfl) ?_
  unfold g39 G39
  repeat' first | with_reducible refine cgB ?_ ?_ | with_reducible refine cgT fun _ => ?_ | with_reducible refine cgN fun _ => ?_ | exact hin0 _ | exact rfl
def w39 (L : Nat) (x : ((List Int) × (List Int))) : Option Bool := g39 L x.1 x.2
theorem s39 (m : Y39) (hm : ∀ (x : ((List Int) × (List Int))) t, m x = some t → ∃ L, w39 L x = some t) : Sat prog cxT 39 (c39 m) :=
  sat_t cxT_ok cxT_pok (by rfl) (fn := f39) rfl a39 n39 dd39 m ev39 kok_nil kwok_nil (w39) (fun L x => e39 L x.1 x.2) hm hs39
/-! loop.example/g00222/laws.eqEntryS -/
def ev38 (m40 : Y40) : Env cxT := { Kc := kcOf [(40, c40 m40)], Kw := kwOf [], lv := fun i => if i = 0 then [(0, [some 64]), (1, [some 64]), (5, [])] else [], xv := fun i => if i = 0 then some [] else none }
def S38_0 (a0 : (List E9)) (a1 : (List E9)) (v0_5 : Int) : St cxT.ty := { slots := [(.inl (.inl (ls { own := 0, nm := 0, e := 64, o := false, xs := a0 }))), (.inl (.inl (ls { own := 0, nm := 0, e := 64, o := false, xs := a1 }))), junk, junk, junk, (.inl (.inl (lv (.int .i64 v0_5))))] ++ List.replicate 21 junk, D := [], F := [], ctr := 1 }
def X38_0 (a0 : (List E9)) (a1 : (List E9)) : St cxT.ty := { slots := [] ++ List.replicate 27 junk, D := [], F := [], ctr := 1 }
def G38 {B : Type} (u : Bool → B) (hh0 : Int → Option B) (m40 : Y40) (a0 : (List E9)) (a1 : (List E9)) : Option B :=
  bif ((Nat.cast (List.length a0) : Int) != (Nat.cast (List.length a1) : Int)) then some (u false)
  else hh0 (0 : Int)
def B38_0 {B : Type} (u : Bool → B) (gg : Int → Option B) (kk : Option B) (m40 : Y40) (a0 : (List E9)) (a1 : (List E9)) (v0_5 : Int) : Option B :=
  bif (decide (v0_5 < (Nat.cast (List.length a0) : Int))) then bnd (List.getD a0 v0_5.toNat ((0 : Int), ((0 : Int), ((0 : Int), ((0 : Int), ((0 : Int), ((0 : Int), ((0 : Int), ((0 : Int), (0 : Int)))))))))) fun s1_0 => bnd (List.getD a1 v0_5.toNat ((0 : Int), ((0 : Int), ((0 : Int), ((0 : Int), ((0 : Int), ((0 : Int), ((0 : Int), ((0 : Int), (0 : Int)))))))))) fun s1_1 => bif ((decide ((0 : Int) ≤ v0_5)) && (decide (v0_5 < (Nat.cast (List.length a0) : Int)))) then bif ((decide ((0 : Int) ≤ v0_5)) && (decide (v0_5 < (Nat.cast (List.length a1) : Int)))) then tst (m40 ((s1_0.1, (s1_0.2.1, (s1_0.2.2.1, (s1_0.2.2.2.1, (s1_0.2.2.2.2.1, (s1_0.2.2.2.2.2.1, (s1_0.2.2.2.2.2.2.1, (s1_0.2.2.2.2.2.2.2.1, s1_0.2.2.2.2.2.2.2.2)))))))), (s1_1.1, (s1_1.2.1, (s1_1.2.2.1, (s1_1.2.2.2.1, (s1_1.2.2.2.2.1, (s1_1.2.2.2.2.2.1, (s1_1.2.2.2.2.2.2.1, (s1_1.2.2.2.2.2.2.2.1, s1_1.2.2.2.2.2.2.2.2)))))))))) false fun (q4 : Bool) => bif (!q4) then some (u false)
          else gg (IntKind.wrap .i64 (v0_5 + (1 : Int)))
      else none
    else none
  else kk
def A38_0 {B : Type} (u : Bool → B) (m40 : Y40) (a0 : (List E9)) (a1 : (List E9)) : Option B :=
  some (u true)
def l38_0 (m40 : Y40) (L : Nat) (a0 : (List E9)) (a1 : (List E9)) : Nat → Int → (Option Bool) → Option Bool
  | 0, _, _ => none
  | n + 1, v0_5, k => B38_0 (fun x => x) (fun v0_5 => l38_0 m40 L a0 a1 n v0_5 k) k m40 a0 a1 v0_5
theorem h38_0 (m40 : Y40) (L : Nat) (a0 : (List E9)) (a1 : (List E9)) (k : St cxT.ty → Option (V cxT.ty)) (xk : Nat → St cxT.ty → Option (V cxT.ty)) (k' : Option Bool) (hk : k (X38_0 a0 a1) = (k').map n38) : ∀ (n : Nat) (v0_5 : Int), headF prog (ev38 m40) L f38 0 [1, 1, 0, 1, 0, 0] (outK (outV prog f38) k xk) n (S38_0 a0 a1 v0_5) = (l38_0 m40 L a0 a1 n v0_5 k').map n38
  | 0, _ => rfl
  | n + 1, v0_5 => by
    rw [headF_round]
    have ih := h38_0 m40 L a0 a1 k xk k' hk n
    refine .trans (b := B38_0 n38 (fun v0_5 => (headF prog (ev38 m40) L f38 0 [1, 1, 0, 1, 0, 0] (outK (outV prog f38) k xk) n) (S38_0 a0 a1 v0_5)) (k (X38_0 a0 a1)) m40 a0 a1 v0_5) (by kernel_rfl) ?_
    unfold l38_0 B38_0
    repeat' first | with_reducible refine cgB ?_ ?_ | with_reducible refine cgT fun _ => ?_ | with_reducible refine cgN fun _ => ?_ | exact ih _ | exact hk | exact rfl
def g38 (m40 : Y40) (L : Nat) (a0 : (List E9)) (a1 : (List E9)) : Option Bool := G38 (fun x => x) (fun v0_5 => l38_0 m40 L a0 a1 L v0_5 (A38_0 (fun x => x) m40 a0 a1)) m40 a0 a1
theorem e38 (m40 : Y40) (L : Nat) (a0 : (List E9)) (a1 : (List E9)) : evF prog (ev38 m40) (loopN L) f38 (a38.enc (a0, a1)) = (g38 m40 L a0 a1).map n38 := by
  have hin0 : ∀ (v0_5 : Int), headF prog (ev38 m40) L f38 0 [1, 1, 0, 1, 0, 0] (outK (outV prog f38) (topK prog (ev38 m40) L f38 [1, 1, 0, 1] (outV prog f38)).n (topK prog (ev38 m40) L f38 [1, 1, 0, 1] (outV prog f38)).x) L (S38_0 a0 a1 v0_5) = ((fun v0_5 => l38_0 m40 L a0 a1 L v0_5 (A38_0 (fun x => x) m40 a0 a1)) v0_5).map n38 := fun v0_5 => h38_0 m40 L a0 a1 _ _ _ (by refine .trans (b := A38_0 n38 m40 a0 a1) (by kernel_rfl) ?_; unfold A38_0; repeat' first | with_reducible refine cgB ?_ ?_ | with_reducible refine cgT fun _ => ?_ | with_reducible refine cgN fun _ => ?_ | exact rfl) L v0_5
  refine .trans (b := G38 n38 (fun v0_5 => headF prog (ev38 m40) L f38 0 [1, 1, 0, 1, 0, 0] (outK (outV prog f38) (topK prog (ev38 m40) L f38 [1, 1, 0, 1] (outV prog f38)).n (topK prog (ev38 m40) L f38 [1, 1, 0, 1] (outV prog f38)).x) L (S38_0 a0 a1 v0_5)) m40 a0 a1) (by kernel_rfl) ?_
  unfold g38 G38
  repeat' first | with_reducible refine cgB ?_ ?_ | with_reducible refine cgT fun _ => ?_ | with_reducible refine cgN fun _ => ?_ | exact hin0 _ | exact rfl
def w38 (m40 : Y40) (L : Nat) (x : ((List E9) × (List E9))) : Option Bool := g38 m40 L x.1 x.2
theorem s38 (m40 : Y40) (h40 : Sat prog cxT 40 (c40 m40)) (m : Y38) (hm : ∀ (x : ((List E9) × (List E9))) t, m x = some t → ∃ L, w38 m40 L x = some t) : Sat prog cxT 38 (c38 m) :=
  sat_t cxT_ok cxT_pok (by rfl) (fn := f38) rfl a38 n38 dd38 m (ev38 m40) (kok_cons h40 kok_nil) kwok_nil (w38 m40) (fun L x => e38 m40 L x.1 x.2) hm hs38
/-! loop.example/g00222/laws.eqNode -/
def ev30 (m38 : Y38) (m39 : Y39) : Env cxT := { Kc := kcOf [(38, c38 m38), (39, c39 m39)], Kw := kwOf [], lv := fun i => [], xv := fun i => none }
def G30 {B : Type} (u : Bool → B) (m38 : Y38) (m39 : Y39) (a0_0 : Int) (a0_1 : Int) (a0_2 : Int) (a0_3 : Int) (a0_4 : (List E9)) (a0_5 : Int) (a0_6 : Int) (a0_7 : (List Int)) (a0_8 : (List Int)) (a0_9 : (List Int)) (a1_0 : Int) (a1_1 : Int) (a1_2 : Int) (a1_3 : Int) (a1_4 : (List E9)) (a1_5 : Int) (a1_6 : Int) (a1_7 : (List Int)) (a1_8 : (List Int)) (a1_9 : (List Int)) : Option B :=
  bif (a0_0 != a1_0) then some (u false)
  else bif (a0_1 != a1_1) then some (u false)
  else bif (a0_2 != a1_2) then some (u false)
  else bif (a0_3 != a1_3) then some (u false)
  else tst (m38 (a0_4, a1_4)) false fun (q1 : Bool) => bif (!q1) then some (u false)
    else bif (a0_5 != a1_5) then some (u false)
    else bif (a0_6 != a1_6) then some (u false)
    else tst (m39 (a0_7, a1_7)) false fun (q2 : Bool) => bif (!q2) then some (u false)
      else tst (m39 (a0_8, a1_8)) false fun (q3 : Bool) => bif (!q3) then some (u false)
        else tst (m39 (a0_9, a1_9)) false fun (q4 : Bool) => bif (!q4) then some (u false)
          else some (u true)
def g30 (m38 : Y38) (m39 : Y39) (L : Nat) (a0_0 : Int) (a0_1 : Int) (a0_2 : Int) (a0_3 : Int) (a0_4 : (List E9)) (a0_5 : Int) (a0_6 : Int) (a0_7 : (List Int)) (a0_8 : (List Int)) (a0_9 : (List Int)) (a1_0 : Int) (a1_1 : Int) (a1_2 : Int) (a1_3 : Int) (a1_4 : (List E9)) (a1_5 : Int) (a1_6 : Int) (a1_7 : (List Int)) (a1_8 : (List Int)) (a1_9 : (List Int)) : Option Bool := G30 (fun x => x) m38 m39 a0_0 a0_1 a0_2 a0_3 a0_4 a0_5 a0_6 a0_7 a0_8 a0_9 a1_0 a1_1 a1_2 a1_3 a1_4 a1_5 a1_6 a1_7 a1_8 a1_9
theorem e30 (m38 : Y38) (m39 : Y39) (L : Nat) (a0_0 : Int) (a0_1 : Int) (a0_2 : Int) (a0_3 : Int) (a0_4 : (List E9)) (a0_5 : Int) (a0_6 : Int) (a0_7 : (List Int)) (a0_8 : (List Int)) (a0_9 : (List Int)) (a1_0 : Int) (a1_1 : Int) (a1_2 : Int) (a1_3 : Int) (a1_4 : (List E9)) (a1_5 : Int) (a1_6 : Int) (a1_7 : (List Int)) (a1_8 : (List Int)) (a1_9 : (List Int)) : evF prog (ev30 m38 m39) (loopN L) f30 (a30.enc ((a0_0, a0_1, a0_2, a0_3, a0_4, a0_5, a0_6, a0_7, a0_8, a0_9), (a1_0, a1_1, a1_2, a1_3, a1_4, a1_5, a1_6, a1_7, a1_8, a1_9))) = (g30 m38 m39 L a0_0 a0_1 a0_2 a0_3 a0_4 a0_5 a0_6 a0_7 a0_8 a0_9 a1_0 a1_1 a1_2 a1_3 a1_4 a1_5 a1_6 a1_7 a1_8 a1_9).map n30 := by
  refine .trans (b := G30 n30 m38 m39 a0_0 a0_1 a0_2 a0_3 a0_4 a0_5 a0_6 a0_7 a0_8 a0_9 a1_0 a1_1 a1_2 a1_3 a1_4 a1_5 a1_6 a1_7 a1_8 a1_9) (by kernel_rfl) ?_
  unfold g30 G30
  repeat' first | with_reducible refine cgB ?_ ?_ | with_reducible refine cgT fun _ => ?_ | with_reducible refine cgN fun _ => ?_ | exact rfl
def w30 (m38 : Y38) (m39 : Y39) (L : Nat) (x : (N10 × N10)) : Option Bool := g30 m38 m39 L x.1.1 x.1.2.1 x.1.2.2.1 x.1.2.2.2.1 x.1.2.2.2.2.1 x.1.2.2.2.2.2.1 x.1.2.2.2.2.2.2.1 x.1.2.2.2.2.2.2.2.1 x.1.2.2.2.2.2.2.2.2.1 x.1.2.2.2.2.2.2.2.2.2 x.2.1 x.2.2.1 x.2.2.2.1 x.2.2.2.2.1 x.2.2.2.2.2.1 x.2.2.2.2.2.2.1 x.2.2.2.2.2.2.2.1 x.2.2.2.2.2.2.2.2.1 x.2.2.2.2.2.2.2.2.2.1 x.2.2.2.2.2.2.2.2.2.2
theorem s30 (m38 : Y38) (m39 : Y39) (h38 : Sat prog cxT 38 (c38 m38)) (h39 : Sat prog cxT 39 (c39 m39)) (m : Y30) (hm : ∀ (x : (N10 × N10)) t, m x = some t → ∃ L, w30 m38 m39 L x = some t) : Sat prog cxT 30 (c30 m) :=
  sat_t cxT_ok cxT_pok (by rfl) (fn := f30) rfl a30 n30 dd30 m (ev30 m38 m39) (kok_cons h38 (kok_cons h39 kok_nil)) kwok_nil (w30 m38 m39) (fun L x => e30 m38 m39 L x.1.1 x.1.2.1 x.1.2.2.1 x.1.2.2.2.1 x.1.2.2.2.2.1 x.1.2.2.2.2.2.1 x.1.2.2.2.2.2.2.1 x.1.2.2.2.2.2.2.2.1 x.1.2.2.2.2.2.2.2.2.1 x.1.2.2.2.2.2.2.2.2.2 x.2.1 x.2.2.1 x.2.2.2.1 x.2.2.2.2.1 x.2.2.2.2.2.1 x.2.2.2.2.2.2.1 x.2.2.2.2.2.2.2.1 x.2.2.2.2.2.2.2.2.1 x.2.2.2.2.2.2.2.2.2.1 x.2.2.2.2.2.2.2.2.2.2) hm hs30
/-! loop.example/g00222/laws.eqMail -/
def ev31 (m38 : Y38) : Env cxT := { Kc := kcOf [(38, c38 m38)], Kw := kwOf [], lv := fun i => [], xv := fun i => none }
def G31 {B : Type} (u : Bool → B) (m38 : Y38) (a0_0 : Int) (a0_1 : Int) (a0_2 : Int) (a0_3 : Int) (a0_4 : Int) (a0_5 : Int) (a0_6 : Int) (a0_7 : Bool) (a0_8 : (List E9)) (a1_0 : Int) (a1_1 : Int) (a1_2 : Int) (a1_3 : Int) (a1_4 : Int) (a1_5 : Int) (a1_6 : Int) (a1_7 : Bool) (a1_8 : (List E9)) : Option B :=
  bif (a0_0 != a1_0) then some (u false)
  else bif (a0_1 != a1_1) then some (u false)
  else bif (a0_2 != a1_2) then some (u false)
  else bif (a0_3 != a1_3) then some (u false)
  else bif (a0_4 != a1_4) then some (u false)
  else bif (a0_5 != a1_5) then some (u false)
  else bif (a0_6 != a1_6) then some (u false)
  else bif (!(a0_7 == a1_7)) then some (u false)
  else tst (m38 (a0_8, a1_8)) false fun (q1 : Bool) => bif (!q1) then some (u false)
    else some (u true)
def g31 (m38 : Y38) (L : Nat) (a0_0 : Int) (a0_1 : Int) (a0_2 : Int) (a0_3 : Int) (a0_4 : Int) (a0_5 : Int) (a0_6 : Int) (a0_7 : Bool) (a0_8 : (List E9)) (a1_0 : Int) (a1_1 : Int) (a1_2 : Int) (a1_3 : Int) (a1_4 : Int) (a1_5 : Int) (a1_6 : Int) (a1_7 : Bool) (a1_8 : (List E9)) : Option Bool := G31 (fun x => x) m38 a0_0 a0_1 a0_2 a0_3 a0_4 a0_5 a0_6 a0_7 a0_8 a1_0 a1_1 a1_2 a1_3 a1_4 a1_5 a1_6 a1_7 a1_8
theorem e31 (m38 : Y38) (L : Nat) (a0_0 : Int) (a0_1 : Int) (a0_2 : Int) (a0_3 : Int) (a0_4 : Int) (a0_5 : Int) (a0_6 : Int) (a0_7 : Bool) (a0_8 : (List E9)) (a1_0 : Int) (a1_1 : Int) (a1_2 : Int) (a1_3 : Int) (a1_4 : Int) (a1_5 : Int) (a1_6 : Int) (a1_7 : Bool) (a1_8 : (List E9)) : evF prog (ev31 m38) (loopN L) f31 (a31.enc ((a0_0, a0_1, a0_2, a0_3, a0_4, a0_5, a0_6, a0_7, a0_8), (a1_0, a1_1, a1_2, a1_3, a1_4, a1_5, a1_6, a1_7, a1_8))) = (g31 m38 L a0_0 a0_1 a0_2 a0_3 a0_4 a0_5 a0_6 a0_7 a0_8 a1_0 a1_1 a1_2 a1_3 a1_4 a1_5 a1_6 a1_7 a1_8).map n31 := by
  refine .trans (b := G31 n31 m38 a0_0 a0_1 a0_2 a0_3 a0_4 a0_5 a0_6 a0_7 a0_8 a1_0 a1_1 a1_2 a1_3 a1_4 a1_5 a1_6 a1_7 a1_8) (by kernel_rfl) ?_
  unfold g31 G31
  repeat' first | with_reducible refine cgB ?_ ?_ | with_reducible refine cgT fun _ => ?_ | with_reducible refine cgN fun _ => ?_ | exact rfl
def w31 (m38 : Y38) (L : Nat) (x : (M9 × M9)) : Option Bool := g31 m38 L x.1.1 x.1.2.1 x.1.2.2.1 x.1.2.2.2.1 x.1.2.2.2.2.1 x.1.2.2.2.2.2.1 x.1.2.2.2.2.2.2.1 x.1.2.2.2.2.2.2.2.1 x.1.2.2.2.2.2.2.2.2 x.2.1 x.2.2.1 x.2.2.2.1 x.2.2.2.2.1 x.2.2.2.2.2.1 x.2.2.2.2.2.2.1 x.2.2.2.2.2.2.2.1 x.2.2.2.2.2.2.2.2.1 x.2.2.2.2.2.2.2.2.2
theorem s31 (m38 : Y38) (h38 : Sat prog cxT 38 (c38 m38)) (m : Y31) (hm : ∀ (x : (M9 × M9)) t, m x = some t → ∃ L, w31 m38 L x = some t) : Sat prog cxT 31 (c31 m) :=
  sat_t cxT_ok cxT_pok (by rfl) (fn := f31) rfl a31 n31 dd31 m (ev31 m38) (kok_cons h38 kok_nil) kwok_nil (w31 m38) (fun L x => e31 m38 L x.1.1 x.1.2.1 x.1.2.2.1 x.1.2.2.2.1 x.1.2.2.2.2.1 x.1.2.2.2.2.2.1 x.1.2.2.2.2.2.2.1 x.1.2.2.2.2.2.2.2.1 x.1.2.2.2.2.2.2.2.2 x.2.1 x.2.2.1 x.2.2.2.1 x.2.2.2.2.1 x.2.2.2.2.2.1 x.2.2.2.2.2.2.1 x.2.2.2.2.2.2.2.1 x.2.2.2.2.2.2.2.2.1 x.2.2.2.2.2.2.2.2.2) hm hs31
/-! loop.example/g00222/laws.eqWon -/
def ev32 : Env cxT := { Kc := kcOf [], Kw := kwOf [], lv := fun i => [], xv := fun i => none }
def G32 {B : Type} (u : Bool → B) (a0_0 : Int) (a0_1 : Int) (a1_0 : Int) (a1_1 : Int) : Option B :=
  bif (a0_0 != a1_0) then some (u false)
  else bif (a0_1 != a1_1) then some (u false)
  else some (u true)
def g32 (L : Nat) (a0_0 : Int) (a0_1 : Int) (a1_0 : Int) (a1_1 : Int) : Option Bool := G32 (fun x => x) a0_0 a0_1 a1_0 a1_1
theorem e32 (L : Nat) (a0_0 : Int) (a0_1 : Int) (a1_0 : Int) (a1_1 : Int) : evF prog ev32 (loopN L) f32 (a32.enc ((a0_0, a0_1), (a1_0, a1_1))) = (g32 L a0_0 a0_1 a1_0 a1_1).map n32 := by
  refine .trans (b := G32 n32 a0_0 a0_1 a1_0 a1_1) (by kernel_rfl) ?_
  unfold g32 G32
  repeat' first | with_reducible refine cgB ?_ ?_ | with_reducible refine cgT fun _ => ?_ | with_reducible refine cgN fun _ => ?_ | exact rfl
def w32 (L : Nat) (x : ((Int × Int) × (Int × Int))) : Option Bool := g32 L x.1.1 x.1.2 x.2.1 x.2.2
theorem s32 (m : Y32) (hm : ∀ (x : ((Int × Int) × (Int × Int))) t, m x = some t → ∃ L, w32 L x = some t) : Sat prog cxT 32 (c32 m) :=
  sat_t cxT_ok cxT_pok (by rfl) (fn := f32) rfl a32 n32 dd32 m ev32 kok_nil kwok_nil (w32) (fun L x => e32 L x.1.1 x.1.2 x.2.1 x.2.2) hm hs32
/-! loop.example/g00222/laws.eqSeal -/
def ev33 (m40 : Y40) : Env cxT := { Kc := kcOf [(40, c40 m40)], Kw := kwOf [], lv := fun i => [], xv := fun i => none }
def G33 {B : Type} (u : Bool → B) (m40 : Y40) (a0_0 : Int) (a0_1 : Int) (a0_2 : Int) (a0_3 : Int) (a0_4 : Int) (a0_5 : Int) (a0_6 : Int) (a0_7 : Int) (a0_8 : Int) (a0_9 : Int) (a1_0 : Int) (a1_1 : Int) (a1_2 : Int) (a1_3 : Int) (a1_4 : Int) (a1_5 : Int) (a1_6 : Int) (a1_7 : Int) (a1_8 : Int) (a1_9 : Int) : Option B :=
  bif (a0_0 != a1_0) then some (u false)
  else tst (m40 ((a0_1, (a0_2, (a0_3, (a0_4, (a0_5, (a0_6, (a0_7, (a0_8, a0_9)))))))), (a1_1, (a1_2, (a1_3, (a1_4, (a1_5, (a1_6, (a1_7, (a1_8, a1_9)))))))))) false fun (q1 : Bool) => bif (!q1) then some (u false)
    else some (u true)
def g33 (m40 : Y40) (L : Nat) (a0_0 : Int) (a0_1 : Int) (a0_2 : Int) (a0_3 : Int) (a0_4 : Int) (a0_5 : Int) (a0_6 : Int) (a0_7 : Int) (a0_8 : Int) (a0_9 : Int) (a1_0 : Int) (a1_1 : Int) (a1_2 : Int) (a1_3 : Int) (a1_4 : Int) (a1_5 : Int) (a1_6 : Int) (a1_7 : Int) (a1_8 : Int) (a1_9 : Int) : Option Bool := G33 (fun x => x) m40 a0_0 a0_1 a0_2 a0_3 a0_4 a0_5 a0_6 a0_7 a0_8 a0_9 a1_0 a1_1 a1_2 a1_3 a1_4 a1_5 a1_6 a1_7 a1_8 a1_9
theorem e33 (m40 : Y40) (L : Nat) (a0_0 : Int) (a0_1 : Int) (a0_2 : Int) (a0_3 : Int) (a0_4 : Int) (a0_5 : Int) (a0_6 : Int) (a0_7 : Int) (a0_8 : Int) (a0_9 : Int) (a1_0 : Int) (a1_1 : Int) (a1_2 : Int) (a1_3 : Int) (a1_4 : Int) (a1_5 : Int) (a1_6 : Int) (a1_7 : Int) (a1_8 : Int) (a1_9 : Int) : evF prog (ev33 m40) (loopN L) f33 (a33.enc ((a0_0, a0_1, a0_2, a0_3, a0_4, a0_5, a0_6, a0_7, a0_8, a0_9), (a1_0, a1_1, a1_2, a1_3, a1_4, a1_5, a1_6, a1_7, a1_8, a1_9))) = (g33 m40 L a0_0 a0_1 a0_2 a0_3 a0_4 a0_5 a0_6 a0_7 a0_8 a0_9 a1_0 a1_1 a1_2 a1_3 a1_4 a1_5 a1_6 a1_7 a1_8 a1_9).map n33 := by
  refine .trans (b := G33 n33 m40 a0_0 a0_1 a0_2 a0_3 a0_4 a0_5 a0_6 a0_7 a0_8 a0_9 a1_0 a1_1 a1_2 a1_3 a1_4 a1_5 a1_6 a1_7 a1_8 a1_9) (by kernel_rfl) ?_
  unfold g33 G33
  repeat' first | with_reducible refine cgB ?_ ?_ | with_reducible refine cgT fun _ => ?_ | with_reducible refine cgN fun _ => ?_ | exact rfl
def w33 (m40 : Y40) (L : Nat) (x : (S10 × S10)) : Option Bool := g33 m40 L x.1.1 x.1.2.1 x.1.2.2.1 x.1.2.2.2.1 x.1.2.2.2.2.1 x.1.2.2.2.2.2.1 x.1.2.2.2.2.2.2.1 x.1.2.2.2.2.2.2.2.1 x.1.2.2.2.2.2.2.2.2.1 x.1.2.2.2.2.2.2.2.2.2 x.2.1 x.2.2.1 x.2.2.2.1 x.2.2.2.2.1 x.2.2.2.2.2.1 x.2.2.2.2.2.2.1 x.2.2.2.2.2.2.2.1 x.2.2.2.2.2.2.2.2.1 x.2.2.2.2.2.2.2.2.2.1 x.2.2.2.2.2.2.2.2.2.2
theorem s33 (m40 : Y40) (h40 : Sat prog cxT 40 (c40 m40)) (m : Y33) (hm : ∀ (x : (S10 × S10)) t, m x = some t → ∃ L, w33 m40 L x = some t) : Sat prog cxT 33 (c33 m) :=
  sat_t cxT_ok cxT_pok (by rfl) (fn := f33) rfl a33 n33 dd33 m (ev33 m40) (kok_cons h40 kok_nil) kwok_nil (w33 m40) (fun L x => e33 m40 L x.1.1 x.1.2.1 x.1.2.2.1 x.1.2.2.2.1 x.1.2.2.2.2.1 x.1.2.2.2.2.2.1 x.1.2.2.2.2.2.2.1 x.1.2.2.2.2.2.2.2.1 x.1.2.2.2.2.2.2.2.2.1 x.1.2.2.2.2.2.2.2.2.2 x.2.1 x.2.2.1 x.2.2.2.1 x.2.2.2.2.1 x.2.2.2.2.2.1 x.2.2.2.2.2.2.1 x.2.2.2.2.2.2.2.1 x.2.2.2.2.2.2.2.2.1 x.2.2.2.2.2.2.2.2.2.1 x.2.2.2.2.2.2.2.2.2.2) hm hs33
end Go.Proofs.Try

set_option maxHeartbeats 0
set_option maxRecDepth 100000
set_option linter.unusedVariables false
set_option linter.unusedSimpArgs false
namespace Go.Proofs.Try
open Go Go.VM Go.RowKit
/-! loop.example/g00222/laws.eqNodeS -/
def ev18 (m30 : Y30) : Env cxT := { Kc := kcOf [(30, c30 m30)], Kw := kwOf [], lv := fun i => if i = 0 then [(0, [some 38]), (1, [some 38]), (5, [])] else [], xv := fun i => if i = 0 then some [] else none }
def S18_0 (a0 : (List N10)) (a1 : (List N10)) (v0_5 : Int) : St cxT.ty := { slots := [(.inl (.inl (ls { own := 0, nm := 0, e := 38, o := false, xs := a0 }))), (.inl (.inl (ls { own := 0, nm := 0, e := 38, o := false, xs := a1 }))), junk, junk, junk, (.inl (.inl (lv (.int .i64 v0_5))))] ++ List.replicate 21 junk, D := [], F := [], ctr := 1 }
def X18_0 (a0 : (List N10)) (a1 : (List N10)) : St cxT.ty := { slots := [] ++ List.replicate 27 junk, D := [], F := [], ctr := 1 }
def G18 {B : Type} (u : Bool → B) (hh0 : Int → Option B) (m30 : Y30) (a0 : (List N10)) (a1 : (List N10)) : Option B :=
  bif ((Nat.cast (List.length a0) : Int) != (Nat.cast (List.length a1) : Int)) then some (u false)
  else hh0 (0 : Int)
def B18_0 {B : Type} (u : Bool → B) (gg : Int → Option B) (kk : Option B) (m30 : Y30) (a0 : (List N10)) (a1 : (List N10)) (v0_5 : Int) : Option B :=
  bif (decide (v0_5 < (Nat.cast (List.length a0) : Int))) then bnd (List.getD a0 v0_5.toNat ((0 : Int), ((0 : Int), ((0 : Int), ((0 : Int), (([] : List E9), ((0 : Int), ((0 : Int), (([] : List (Int)), (([] : List (Int)), ([] : List (Int)))))))))))) fun s1_0 => bnd (List.getD a1 v0_5.toNat ((0 : Int), ((0 : Int), ((0 : Int), ((0 : Int), (([] : List E9), ((0 : Int), ((0 : Int), (([] : List (Int)), (([] : List (Int)), ([] : List (Int)))))))))))) fun s1_1 => bif ((decide ((0 : Int) ≤ v0_5)) && (decide (v0_5 < (Nat.cast (List.length a0) : Int)))) then bif ((decide ((0 : Int) ≤ v0_5)) && (decide (v0_5 < (Nat.cast (List.length a1) : Int)))) then tst (m30 ((s1_0.1, (s1_0.2.1, (s1_0.2.2.1, (s1_0.2.2.2.1, (s1_0.2.2.2.2.1, (s1_0.2.2.2.2.2.1, (s1_0.2.2.2.2.2.2.1, (s1_0.2.2.2.2.2.2.2.1, (s1_0.2.2.2.2.2.2.2.2.1, s1_0.2.2.2.2.2.2.2.2.2))))))))), (s1_1.1, (s1_1.2.1, (s1_1.2.2.1, (s1_1.2.2.2.1, (s1_1.2.2.2.2.1, (s1_1.2.2.2.2.2.1, (s1_1.2.2.2.2.2.2.1, (s1_1.2.2.2.2.2.2.2.1, (s1_1.2.2.2.2.2.2.2.2.1, s1_1.2.2.2.2.2.2.2.2.2))))))))))) false fun (q4 : Bool) => bif (!q4) then some (u false)
          else gg (IntKind.wrap .i64 (v0_5 + (1 : Int)))
      else none
    else none
  else kk
def A18_0 {B : Type} (u : Bool → B) (m30 : Y30) (a0 : (List N10)) (a1 : (List N10)) : Option B :=
  some (u true)
def l18_0 (m30 : Y30) (L : Nat) (a0 : (List N10)) (a1 : (List N10)) : Nat → Int → (Option Bool) → Option Bool
  | 0, _, _ => none
  | n + 1, v0_5, k => B18_0 (fun x => x) (fun v0_5 => l18_0 m30 L a0 a1 n v0_5 k) k m30 a0 a1 v0_5
theorem h18_0 (m30 : Y30) (L : Nat) (a0 : (List N10)) (a1 : (List N10)) (k : St cxT.ty → Option (V cxT.ty)) (xk : Nat → St cxT.ty → Option (V cxT.ty)) (k' : Option Bool) (hk : k (X18_0 a0 a1) = (k').map n18) : ∀ (n : Nat) (v0_5 : Int), headF prog (ev18 m30) L f18 0 [1, 1, 0, 1, 0, 0] (outK (outV prog f18) k xk) n (S18_0 a0 a1 v0_5) = (l18_0 m30 L a0 a1 n v0_5 k').map n18
  | 0, _ => rfl
  | n + 1, v0_5 => by
    rw [headF_round]
    have ih := h18_0 m30 L a0 a1 k xk k' hk n
    refine .trans (b := B18_0 n18 (fun v0_5 => (headF prog (ev18 m30) L f18 0 [1, 1, 0, 1, 0, 0] (outK (outV prog f18) k xk) n) (S18_0 a0 a1 v0_5)) (k (X18_0 a0 a1)) m30 a0 a1 v0_5) (by kernel_rfl) ?_
    unfold l18_0 B18_0
    repeat' first | with_reducible refine cgB ?_ ?_ | with_reducible refine cgT fun _ => ?_ | with_reducible refine cgN fun _ => ?_ | exact ih _ | exact hk | exact rfl
def g18 (m30 : Y30) (L : Nat) (a0 : (List N10)) (a1 : (List N10)) : Option Bool := G18 (fun x => x) (fun v0_5 => l18_0 m30 L a0 a1 L v0_5 (A18_0 (fun x => x) m30 a0 a1)) m30 a0 a1
theorem e18 (m30 : Y30) (L : Nat) (a0 : (List N10)) (a1 : (List N10)) : evF prog (ev18 m30) (loopN L) f18 (a18.enc (a0, a1)) = (g18 m30 L a0 a1).map n18 := by
  have hin0 : ∀ (v0_5 : Int), headF prog (ev18 m30) L f18 0 [1, 1, 0, 1, 0, 0] (outK (outV prog f18) (topK prog (ev18 m30) L f18 [1, 1, 0, 1] (outV prog f18)).n (topK prog (ev18 m30) L f18 [1, 1, 0, 1] (outV prog f18)).x) L (S18_0 a0 a1 v0_5) = ((fun v0_5 => l18_0 m30 L a0 a1 L v0_5 (A18_0 (fun x => x) m30 a0 a1)) v0_5).map n18 := fun v0_5 => h18_0 m30 L a0 a1 _ _ _ (by refine .trans (b := A18_0 n18 m30 a0 a1) (by kernel_rfl) ?_; unfold A18_0; repeat' first | with_reducible refine cgB ?_ ?_ | with_reducible refine cgT fun _ => ?_ | with_reducible refine cgN fun _ => ?_ | exact rfl) L v0_5
  refine .trans (b := G18 n18 (fun v0_5 => headF prog (ev18 m30) L f18 0 [1, 1, 0, 1, 0, 0] (outK (outV prog f18) (topK prog (ev18 m30) L f18 [1, 1, 0, 1] (outV prog f18)).n (topK prog (ev18 m30) L f18 [1, 1, 0, 1] (outV prog f18)).x) L (S18_0 a0 a1 v0_5)) m30 a0 a1) (by kernel_rfl) ?_
  unfold g18 G18
  repeat' first | with_reducible refine cgB ?_ ?_ | with_reducible refine cgT fun _ => ?_ | with_reducible refine cgN fun _ => ?_ | exact hin0 _ | exact rfl
def w18 (m30 : Y30) (L : Nat) (x : ((List N10) × (List N10))) : Option Bool := g18 m30 L x.1 x.2
theorem s18 (m30 : Y30) (h30 : Sat prog cxT 30 (c30 m30)) (m : Y18) (hm : ∀ (x : ((List N10) × (List N10))) t, m x = some t → ∃ L, w18 m30 L x = some t) : Sat prog cxT 18 (c18 m) :=
  sat_t cxT_ok cxT_pok (by rfl) (fn := f18) rfl a18 n18 dd18 m (ev18 m30) (kok_cons h30 kok_nil) kwok_nil (w18 m30) (fun L x => e18 m30 L x.1 x.2) hm hs18
/-! loop.example/g00222/laws.eqMailS -/
def ev19 (m31 : Y31) : Env cxT := { Kc := kcOf [(31, c31 m31)], Kw := kwOf [], lv := fun i => if i = 0 then [(0, [some 56]), (1, [some 56]), (5, [])] else [], xv := fun i => if i = 0 then some [] else none }
def S19_0 (a0 : (List M9)) (a1 : (List M9)) (v0_5 : Int) : St cxT.ty := { slots := [(.inl (.inl (ls { own := 0, nm := 0, e := 56, o := false, xs := a0 }))), (.inl (.inl (ls { own := 0, nm := 0, e := 56, o := false, xs := a1 }))), junk, junk, junk, (.inl (.inl (lv (.int .i64 v0_5))))] ++ List.replicate 21 junk, D := [], F := [], ctr := 1 }
def X19_0 (a0 : (List M9)) (a1 : (List M9)) : St cxT.ty := { slots := [] ++ List.replicate 27 junk, D := [], F := [], ctr := 1 }
def G19 {B : Type} (u : Bool → B) (hh0 : Int → Option B) (m31 : Y31) (a0 : (List M9)) (a1 : (List M9)) : Option B :=
  bif ((Nat.cast (List.length a0) : Int) != (Nat.cast (List.length a1) : Int)) then some (u false)
  else hh0 (0 : Int)
def B19_0 {B : Type} (u : Bool → B) (gg : Int → Option B) (kk : Option B) (m31 : Y31) (a0 : (List M9)) (a1 : (List M9)) (v0_5 : Int) : Option B :=
  bif (decide (v0_5 < (Nat.cast (List.length a0) : Int))) then bnd (List.getD a0 v0_5.toNat ((0 : Int), ((0 : Int), ((0 : Int), ((0 : Int), ((0 : Int), ((0 : Int), ((0 : Int), (false, []))))))))) fun s1_0 => bnd (List.getD a1 v0_5.toNat ((0 : Int), ((0 : Int), ((0 : Int), ((0 : Int), ((0 : Int), ((0 : Int), ((0 : Int), (false, []))))))))) fun s1_1 => bif ((decide ((0 : Int) ≤ v0_5)) && (decide (v0_5 < (Nat.cast (List.length a0) : Int)))) then bif ((decide ((0 : Int) ≤ v0_5)) && (decide (v0_5 < (Nat.cast (List.length a1) : Int)))) then tst (m31 ((s1_0.1, (s1_0.2.1, (s1_0.2.2.1, (s1_0.2.2.2.1, (s1_0.2.2.2.2.1, (s1_0.2.2.2.2.2.1, (s1_0.2.2.2.2.2.2.1, (s1_0.2.2.2.2.2.2.2.1, s1_0.2.2.2.2.2.2.2.2)))))))), (s1_1.1, (s1_1.2.1, (s1_1.2.2.1, (s1_1.2.2.2.1, (s1_1.2.2.2.2.1, (s1_1.2.2.2.2.2.1, (s1_1.2.2.2.2.2.2.1, (s1_1.2.2.2.2.2.2.2.1, s1_1.2.2.2.2.2.2.2.2)))))))))) false fun (q4 : Bool) => bif (!q4) then some (u false)
          else gg (IntKind.wrap .i64 (v0_5 + (1 : Int)))
      else none
    else none
  else kk
def A19_0 {B : Type} (u : Bool → B) (m31 : Y31) (a0 : (List M9)) (a1 : (List M9)) : Option B :=
  some (u true)
def l19_0 (m31 : Y31) (L : Nat) (a0 : (List M9)) (a1 : (List M9)) : Nat → Int → (Option Bool) → Option Bool
  | 0, _, _ => none
  | n + 1, v0_5, k => B19_0 (fun x => x) (fun v0_5 => l19_0 m31 L a0 a1 n v0_5 k) k m31 a0 a1 v0_5
theorem h19_0 (m31 : Y31) (L : Nat) (a0 : (List M9)) (a1 : (List M9)) (k : St cxT.ty → Option (V cxT.ty)) (xk : Nat → St cxT.ty → Option (V cxT.ty)) (k' : Option Bool) (hk : k (X19_0 a0 a1) = (k').map n19) : ∀ (n : Nat) (v0_5 : Int), headF prog (ev19 m31) L f19 0 [1, 1, 0, 1, 0, 0] (outK (outV prog f19) k xk) n (S19_0 a0 a1 v0_5) = (l19_0 m31 L a0 a1 n v0_5 k').map n19
  | 0, _ => rfl
  | n + 1, v0_5 => by
    rw [headF_round]
    have ih := h19_0 m31 L a0 a1 k xk k' hk n
    refine .trans (b := B19_0 n19 (fun v0_5 => (headF prog (ev19 m31) L f19 0 [1, 1, 0, 1, 0, 0] (outK (outV prog f19) k xk) n) (S19_0 a0 a1 v0_5)) (k (X19_0 a0 a1)) m31 a0 a1 v0_5) (by kernel_rfl) ?_
    unfold l19_0 B19_0
    repeat' first | with_reducible refine cgB ?_ ?_ | with_reducible refine cgT fun _ => ?_ | with_reducible refine cgN fun _ => ?_ | exact ih _ | exact hk | exact rfl
def g19 (m31 : Y31) (L : Nat) (a0 : (List M9)) (a1 : (List M9)) : Option Bool := G19 (fun x => x) (fun v0_5 => l19_0 m31 L a0 a1 L v0_5 (A19_0 (fun x => x) m31 a0 a1)) m31 a0 a1
theorem e19 (m31 : Y31) (L : Nat) (a0 : (List M9)) (a1 : (List M9)) : evF prog (ev19 m31) (loopN L) f19 (a19.enc (a0, a1)) = (g19 m31 L a0 a1).map n19 := by
  have hin0 : ∀ (v0_5 : Int), headF prog (ev19 m31) L f19 0 [1, 1, 0, 1, 0, 0] (outK (outV prog f19) (topK prog (ev19 m31) L f19 [1, 1, 0, 1] (outV prog f19)).n (topK prog (ev19 m31) L f19 [1, 1, 0, 1] (outV prog f19)).x) L (S19_0 a0 a1 v0_5) = ((fun v0_5 => l19_0 m31 L a0 a1 L v0_5 (A19_0 (fun x => x) m31 a0 a1)) v0_5).map n19 := fun v0_5 => h19_0 m31 L a0 a1 _ _ _ (by refine .trans (b := A19_0 n19 m31 a0 a1) (by kernel_rfl) ?_; unfold A19_0; repeat' first | with_reducible refine cgB ?_ ?_ | with_reducible refine cgT fun _ => ?_ | with_reducible refine cgN fun _ => ?_ | exact rfl) L v0_5
  refine .trans (b := G19 n19 (fun v0_5 => headF prog (ev19 m31) L f19 0 [1, 1, 0, 1, 0, 0] (outK (outV prog f19) (topK prog (ev19 m31) L f19 [1, 1, 0, 1] (outV prog f19)).n (topK prog (ev19 m31) L f19 [1, 1, 0, 1] (outV prog f19)).x) L (S19_0 a0 a1 v0_5)) m31 a0 a1) (by kernel_rfl) ?_
  unfold g19 G19
  repeat' first | with_reducible refine cgB ?_ ?_ | with_reducible refine cgT fun _ => ?_ | with_reducible refine cgN fun _ => ?_ | exact hin0 _ | exact rfl
def w19 (m31 : Y31) (L : Nat) (x : ((List M9) × (List M9))) : Option Bool := g19 m31 L x.1 x.2
theorem s19 (m31 : Y31) (h31 : Sat prog cxT 31 (c31 m31)) (m : Y19) (hm : ∀ (x : ((List M9) × (List M9))) t, m x = some t → ∃ L, w19 m31 L x = some t) : Sat prog cxT 19 (c19 m) :=
  sat_t cxT_ok cxT_pok (by rfl) (fn := f19) rfl a19 n19 dd19 m (ev19 m31) (kok_cons h31 kok_nil) kwok_nil (w19 m31) (fun L x => e19 m31 L x.1 x.2) hm hs19
/-! loop.example/g00222/laws.eqWonS -/
def ev20 (m32 : Y32) : Env cxT := { Kc := kcOf [(32, c32 m32)], Kw := kwOf [], lv := fun i => if i = 0 then [(0, [some 59]), (1, [some 59]), (5, [])] else [], xv := fun i => if i = 0 then some [] else none }
def S20_0 (a0 : (List W2)) (a1 : (List W2)) (v0_5 : Int) : St cxT.ty := { slots := [(.inl (.inl (ls { own := 0, nm := 0, e := 59, o := false, xs := a0 }))), (.inl (.inl (ls { own := 0, nm := 0, e := 59, o := false, xs := a1 }))), junk, junk, junk, (.inl (.inl (lv (.int .i64 v0_5))))] ++ List.replicate 21 junk, D := [], F := [], ctr := 1 }
def X20_0 (a0 : (List W2)) (a1 : (List W2)) : St cxT.ty := { slots := [] ++ List.replicate 27 junk, D := [], F := [], ctr := 1 }
def G20 {B : Type} (u : Bool → B) (hh0 : Int → Option B) (m32 : Y32) (a0 : (List W2)) (a1 : (List W2)) : Option B :=
  bif ((Nat.cast (List.length a0) : Int) != (Nat.cast (List.length a1) : Int)) then some (u false)
  else hh0 (0 : Int)
def B20_0 {B : Type} (u : Bool → B) (gg : Int → Option B) (kk : Option B) (m32 : Y32) (a0 : (List W2)) (a1 : (List W2)) (v0_5 : Int) : Option B :=
  bif (decide (v0_5 < (Nat.cast (List.length a0) : Int))) then bnd (List.getD a0 v0_5.toNat ((0 : Int), (0 : Int))) fun s1_0 => bnd (List.getD a1 v0_5.toNat ((0 : Int), (0 : Int))) fun s1_1 => bif ((decide ((0 : Int) ≤ v0_5)) && (decide (v0_5 < (Nat.cast (List.length a0) : Int)))) then bif ((decide ((0 : Int) ≤ v0_5)) && (decide (v0_5 < (Nat.cast (List.length a1) : Int)))) then tst (m32 ((s1_0.1, s1_0.2), (s1_1.1, s1_1.2))) false fun (q4 : Bool) => bif (!q4) then some (u false)
          else gg (IntKind.wrap .i64 (v0_5 + (1 : Int)))
      else none
    else none
  else kk
def A20_0 {B : Type} (u : Bool → B) (m32 : Y32) (a0 : (List W2)) (a1 : (List W2)) : Option B :=
  some (u true)
def l20_0 (m32 : Y32) (L : Nat) (a0 : (List W2)) (a1 : (List W2)) : Nat → Int → (Option Bool) → Option Bool
  | 0, _, _ => none
  | n + 1, v0_5, k => B20_0 (fun x => x) (fun v0_5 => l20_0 m32 L a0 a1 n v0_5 k) k m32 a0 a1 v0_5
theorem h20_0 (m32 : Y32) (L : Nat) (a0 : (List W2)) (a1 : (List W2)) (k : St cxT.ty → Option (V cxT.ty)) (xk : Nat → St cxT.ty → Option (V cxT.ty)) (k' : Option Bool) (hk : k (X20_0 a0 a1) = (k').map n20) : ∀ (n : Nat) (v0_5 : Int), headF prog (ev20 m32) L f20 0 [1, 1, 0, 1, 0, 0] (outK (outV prog f20) k xk) n (S20_0 a0 a1 v0_5) = (l20_0 m32 L a0 a1 n v0_5 k').map n20
  | 0, _ => rfl
  | n + 1, v0_5 => by
    rw [headF_round]
    have ih := h20_0 m32 L a0 a1 k xk k' hk n
    refine .trans (b := B20_0 n20 (fun v0_5 => (headF prog (ev20 m32) L f20 0 [1, 1, 0, 1, 0, 0] (outK (outV prog f20) k xk) n) (S20_0 a0 a1 v0_5)) (k (X20_0 a0 a1)) m32 a0 a1 v0_5) (by kernel_rfl) ?_
    unfold l20_0 B20_0
    repeat' first | with_reducible refine cgB ?_ ?_ | with_reducible refine cgT fun _ => ?_ | with_reducible refine cgN fun _ => ?_ | exact ih _ | exact hk | exact rfl
def g20 (m32 : Y32) (L : Nat) (a0 : (List W2)) (a1 : (List W2)) : Option Bool := G20 (fun x => x) (fun v0_5 => l20_0 m32 L a0 a1 L v0_5 (A20_0 (fun x => x) m32 a0 a1)) m32 a0 a1
theorem e20 (m32 : Y32) (L : Nat) (a0 : (List W2)) (a1 : (List W2)) : evF prog (ev20 m32) (loopN L) f20 (a20.enc (a0, a1)) = (g20 m32 L a0 a1).map n20 := by
  have hin0 : ∀ (v0_5 : Int), headF prog (ev20 m32) L f20 0 [1, 1, 0, 1, 0, 0] (outK (outV prog f20) (topK prog (ev20 m32) L f20 [1, 1, 0, 1] (outV prog f20)).n (topK prog (ev20 m32) L f20 [1, 1, 0, 1] (outV prog f20)).x) L (S20_0 a0 a1 v0_5) = ((fun v0_5 => l20_0 m32 L a0 a1 L v0_5 (A20_0 (fun x => x) m32 a0 a1)) v0_5).map n20 := fun v0_5 => h20_0 m32 L a0 a1 _ _ _ (by refine .trans (b := A20_0 n20 m32 a0 a1) (by kernel_rfl) ?_; unfold A20_0; repeat' first | with_reducible refine cgB ?_ ?_ | with_reducible refine cgT fun _ => ?_ | with_reducible refine cgN fun _ => ?_ | exact rfl) L v0_5
  refine .trans (b := G20 n20 (fun v0_5 => headF prog (ev20 m32) L f20 0 [1, 1, 0, 1, 0, 0] (outK (outV prog f20) (topK prog (ev20 m32) L f20 [1, 1, 0, 1] (outV prog f20)).n (topK prog (ev20 m32) L f20 [1, 1, 0, 1] (outV prog f20)).x) L (S20_0 a0 a1 v0_5)) m32 a0 a1) (by kernel_rfl) ?_
  unfold g20 G20
  repeat' first | with_reducible refine cgB ?_ ?_ | with_reducible refine cgT fun _ => ?_ | with_reducible refine cgN fun _ => ?_ | exact hin0 _ | exact rfl
def w20 (m32 : Y32) (L : Nat) (x : ((List W2) × (List W2))) : Option Bool := g20 m32 L x.1 x.2
theorem s20 (m32 : Y32) (h32 : Sat prog cxT 32 (c32 m32)) (m : Y20) (hm : ∀ (x : ((List W2) × (List W2))) t, m x = some t → ∃ L, w20 m32 L x = some t) : Sat prog cxT 20 (c20 m) :=
  sat_t cxT_ok cxT_pok (by rfl) (fn := f20) rfl a20 n20 dd20 m (ev20 m32) (kok_cons h32 kok_nil) kwok_nil (w20 m32) (fun L x => e20 m32 L x.1 x.2) hm hs20
/-! loop.example/g00222/laws.eqSealS -/
def ev21 (m33 : Y33) : Env cxT := { Kc := kcOf [(33, c33 m33)], Kw := kwOf [], lv := fun i => if i = 0 then [(0, [some 66]), (1, [some 66]), (5, [])] else [], xv := fun i => if i = 0 then some [] else none }
def S21_0 (a0 : (List S10)) (a1 : (List S10)) (v0_5 : Int) : St cxT.ty := { slots := [(.inl (.inl (ls { own := 0, nm := 0, e := 66, o := false, xs := a0 }))), (.inl (.inl (ls { own := 0, nm := 0, e := 66, o := false, xs := a1 }))), junk, junk, junk, (.inl (.inl (lv (.int .i64 v0_5))))] ++ List.replicate 21 junk, D := [], F := [], ctr := 1 }
def X21_0 (a0 : (List S10)) (a1 : (List S10)) : St cxT.ty := { slots := [] ++ List.replicate 27 junk, D := [], F := [], ctr := 1 }
def G21 {B : Type} (u : Bool → B) (hh0 : Int → Option B) (m33 : Y33) (a0 : (List S10)) (a1 : (List S10)) : Option B :=
  bif ((Nat.cast (List.length a0) : Int) != (Nat.cast (List.length a1) : Int)) then some (u false)
  else hh0 (0 : Int)
def B21_0 {B : Type} (u : Bool → B) (gg : Int → Option B) (kk : Option B) (m33 : Y33) (a0 : (List S10)) (a1 : (List S10)) (v0_5 : Int) : Option B :=
  bif (decide (v0_5 < (Nat.cast (List.length a0) : Int))) then bnd (List.getD a0 v0_5.toNat ((0 : Int), ((0 : Int), ((0 : Int), ((0 : Int), ((0 : Int), ((0 : Int), ((0 : Int), ((0 : Int), ((0 : Int), (0 : Int))))))))))) fun s1_0 => bnd (List.getD a1 v0_5.toNat ((0 : Int), ((0 : Int), ((0 : Int), ((0 : Int), ((0 : Int), ((0 : Int), ((0 : Int), ((0 : Int), ((0 : Int), (0 : Int))))))))))) fun s1_1 => bif ((decide ((0 : Int) ≤ v0_5)) && (decide (v0_5 < (Nat.cast (List.length a0) : Int)))) then bif ((decide ((0 : Int) ≤ v0_5)) && (decide (v0_5 < (Nat.cast (List.length a1) : Int)))) then tst (m33 ((s1_0.1, (s1_0.2.1, (s1_0.2.2.1, (s1_0.2.2.2.1, (s1_0.2.2.2.2.1, (s1_0.2.2.2.2.2.1, (s1_0.2.2.2.2.2.2.1, (s1_0.2.2.2.2.2.2.2.1, (s1_0.2.2.2.2.2.2.2.2.1, s1_0.2.2.2.2.2.2.2.2.2))))))))), (s1_1.1, (s1_1.2.1, (s1_1.2.2.1, (s1_1.2.2.2.1, (s1_1.2.2.2.2.1, (s1_1.2.2.2.2.2.1, (s1_1.2.2.2.2.2.2.1, (s1_1.2.2.2.2.2.2.2.1, (s1_1.2.2.2.2.2.2.2.2.1, s1_1.2.2.2.2.2.2.2.2.2))))))))))) false fun (q4 : Bool) => bif (!q4) then some (u false)
          else gg (IntKind.wrap .i64 (v0_5 + (1 : Int)))
      else none
    else none
  else kk
def A21_0 {B : Type} (u : Bool → B) (m33 : Y33) (a0 : (List S10)) (a1 : (List S10)) : Option B :=
  some (u true)
def l21_0 (m33 : Y33) (L : Nat) (a0 : (List S10)) (a1 : (List S10)) : Nat → Int → (Option Bool) → Option Bool
  | 0, _, _ => none
  | n + 1, v0_5, k => B21_0 (fun x => x) (fun v0_5 => l21_0 m33 L a0 a1 n v0_5 k) k m33 a0 a1 v0_5
theorem h21_0 (m33 : Y33) (L : Nat) (a0 : (List S10)) (a1 : (List S10)) (k : St cxT.ty → Option (V cxT.ty)) (xk : Nat → St cxT.ty → Option (V cxT.ty)) (k' : Option Bool) (hk : k (X21_0 a0 a1) = (k').map n21) : ∀ (n : Nat) (v0_5 : Int), headF prog (ev21 m33) L f21 0 [1, 1, 0, 1, 0, 0] (outK (outV prog f21) k xk) n (S21_0 a0 a1 v0_5) = (l21_0 m33 L a0 a1 n v0_5 k').map n21
  | 0, _ => rfl
  | n + 1, v0_5 => by
    rw [headF_round]
    have ih := h21_0 m33 L a0 a1 k xk k' hk n
    refine .trans (b := B21_0 n21 (fun v0_5 => (headF prog (ev21 m33) L f21 0 [1, 1, 0, 1, 0, 0] (outK (outV prog f21) k xk) n) (S21_0 a0 a1 v0_5)) (k (X21_0 a0 a1)) m33 a0 a1 v0_5) (by kernel_rfl) ?_
    unfold l21_0 B21_0
    repeat' first | with_reducible refine cgB ?_ ?_ | with_reducible refine cgT fun _ => ?_ | with_reducible refine cgN fun _ => ?_ | exact ih _ | exact hk | exact rfl
def g21 (m33 : Y33) (L : Nat) (a0 : (List S10)) (a1 : (List S10)) : Option Bool := G21 (fun x => x) (fun v0_5 => l21_0 m33 L a0 a1 L v0_5 (A21_0 (fun x => x) m33 a0 a1)) m33 a0 a1
theorem e21 (m33 : Y33) (L : Nat) (a0 : (List S10)) (a1 : (List S10)) : evF prog (ev21 m33) (loopN L) f21 (a21.enc (a0, a1)) = (g21 m33 L a0 a1).map n21 := by
  have hin0 : ∀ (v0_5 : Int), headF prog (ev21 m33) L f21 0 [1, 1, 0, 1, 0, 0] (outK (outV prog f21) (topK prog (ev21 m33) L f21 [1, 1, 0, 1] (outV prog f21)).n (topK prog (ev21 m33) L f21 [1, 1, 0, 1] (outV prog f21)).x) L (S21_0 a0 a1 v0_5) = ((fun v0_5 => l21_0 m33 L a0 a1 L v0_5 (A21_0 (fun x => x) m33 a0 a1)) v0_5).map n21 := fun v0_5 => h21_0 m33 L a0 a1 _ _ _ (by refine .trans (b := A21_0 n21 m33 a0 a1) (by kernel_rfl) ?_; unfold A21_0; repeat' first | with_reducible refine cgB ?_ ?_ | with_reducible refine cgT fun _ => ?_ | with_reducible refine cgN fun _ => ?_ | exact rfl) L v0_5
  refine .trans (b := G21 n21 (fun v0_5 => headF prog (ev21 m33) L f21 0 [1, 1, 0, 1, 0, 0] (outK (outV prog f21) (topK prog (ev21 m33) L f21 [1, 1, 0, 1] (outV prog f21)).n (topK prog (ev21 m33) L f21 [1, 1, 0, 1] (outV prog f21)).x) L (S21_0 a0 a1 v0_5)) m33 a0 a1) (by kernel_rfl) ?_
  unfold g21 G21
  repeat' first | with_reducible refine cgB ?_ ?_ | with_reducible refine cgT fun _ => ?_ | with_reducible refine cgN fun _ => ?_ | exact hin0 _ | exact rfl
def w21 (m33 : Y33) (L : Nat) (x : ((List S10) × (List S10))) : Option Bool := g21 m33 L x.1 x.2
theorem s21 (m33 : Y33) (h33 : Sat prog cxT 33 (c33 m33)) (m : Y21) (hm : ∀ (x : ((List S10) × (List S10))) t, m x = some t → ∃ L, w21 m33 L x = some t) : Sat prog cxT 21 (c21 m) :=
  sat_t cxT_ok cxT_pok (by rfl) (fn := f21) rfl a21 n21 dd21 m (ev21 m33) (kok_cons h33 kok_nil) kwok_nil (w21 m33) (fun L x => e21 m33 L x.1 x.2) hm hs21
/-! loop.example/g00222/laws.eqCluster -/
def ev13 (m18 : Y18) (m19 : Y19) (m20 : Y20) (m21 : Y21) : Env cxT := { Kc := kcOf [(18, c18 m18), (19, c19 m19), (20, c20 m20), (21, c21 m21)], Kw := kwOf [], lv := fun i => [], xv := fun i => none }
def G13 {B : Type} (u : Bool → B) (m18 : Y18) (m19 : Y19) (m20 : Y20) (m21 : Y21) (a0_0 : (List N10)) (a0_1 : (List M9)) (a0_2 : (List W2)) (a0_3 : (List S10)) (a1_0 : (List N10)) (a1_1 : (List M9)) (a1_2 : (List W2)) (a1_3 : (List S10)) : Option B :=
  tst (m18 (a0_0, a1_0)) false fun (q1 : Bool) => bif (!q1) then some (u false)
    else tst (m19 (a0_1, a1_1)) false fun (q2 : Bool) => bif (!q2) then some (u false)
      else tst (m20 (a0_2, a1_2)) false fun (q3 : Bool) => bif (!q3) then some (u false)
        else tst (m21 (a0_3, a1_3)) false fun (q4 : Bool) => bif (!q4) then some (u false)
          else some (u true)
def g13 (m18 : Y18) (m19 : Y19) (m20 : Y20) (m21 : Y21) (L : Nat) (a0_0 : (List N10)) (a0_1 : (List M9)) (a0_2 : (List W2)) (a0_3 : (List S10)) (a1_0 : (List N10)) (a1_1 : (List M9)) (a1_2 : (List W2)) (a1_3 : (List S10)) : Option Bool := G13 (fun x => x) m18 m19 m20 m21 a0_0 a0_1 a0_2 a0_3 a1_0 a1_1 a1_2 a1_3
theorem e13 (m18 : Y18) (m19 : Y19) (m20 : Y20) (m21 : Y21) (L : Nat) (a0_0 : (List N10)) (a0_1 : (List M9)) (a0_2 : (List W2)) (a0_3 : (List S10)) (a1_0 : (List N10)) (a1_1 : (List M9)) (a1_2 : (List W2)) (a1_3 : (List S10)) : evF prog (ev13 m18 m19 m20 m21) (loopN L) f13 (a13.enc ((a0_0, a0_1, a0_2, a0_3), (a1_0, a1_1, a1_2, a1_3))) = (g13 m18 m19 m20 m21 L a0_0 a0_1 a0_2 a0_3 a1_0 a1_1 a1_2 a1_3).map n13 := by
  refine .trans (b := G13 n13 m18 m19 m20 m21 a0_0 a0_1 a0_2 a0_3 a1_0 a1_1 a1_2 a1_3) (by kernel_rfl) ?_
  unfold g13 G13
  repeat' first | with_reducible refine cgB ?_ ?_ | with_reducible refine cgT fun _ => ?_ | with_reducible refine cgN fun _ => ?_ | exact rfl
def w13 (m18 : Y18) (m19 : Y19) (m20 : Y20) (m21 : Y21) (L : Nat) (x : (C4 × C4)) : Option Bool := g13 m18 m19 m20 m21 L x.1.1 x.1.2.1 x.1.2.2.1 x.1.2.2.2 x.2.1 x.2.2.1 x.2.2.2.1 x.2.2.2.2
theorem s13 (m18 : Y18) (m19 : Y19) (m20 : Y20) (m21 : Y21) (h18 : Sat prog cxT 18 (c18 m18)) (h19 : Sat prog cxT 19 (c19 m19)) (h20 : Sat prog cxT 20 (c20 m20)) (h21 : Sat prog cxT 21 (c21 m21)) (m : Y13) (hm : ∀ (x : (C4 × C4)) t, m x = some t → ∃ L, w13 m18 m19 m20 m21 L x = some t) : Sat prog cxT 13 (c13 m) :=
  sat_t cxT_ok cxT_pok (by rfl) (fn := f13) rfl a13 n13 dd13 m (ev13 m18 m19 m20 m21) (kok_cons h18 (kok_cons h19 (kok_cons h20 (kok_cons h21 kok_nil)))) kwok_nil (w13 m18 m19 m20 m21) (fun L x => e13 m18 m19 m20 m21 L x.1.1 x.1.2.1 x.1.2.2.1 x.1.2.2.2 x.2.1 x.2.2.1 x.2.2.2.1 x.2.2.2.2) hm hs13
/-! loop.example/g00222/laws.eqClusterResult -/
def ev6 (m13 : Y13) : Env cxT := { Kc := kcOf [(13, c13 m13)], Kw := kwOf [], lv := fun i => [], xv := fun i => none }
def G6 {B : Type} (u : Bool → B) (m13 : Y13) (a0_0 : Int) (a0_1 : (List N10)) (a0_2 : (List M9)) (a0_3 : (List W2)) (a0_4 : (List S10)) (a1_0 : Int) (a1_1 : (List N10)) (a1_2 : (List M9)) (a1_3 : (List W2)) (a1_4 : (List S10)) : Option B :=
  bif (a0_0 != a1_0) then some (u false)
  else tst (m13 ((a0_1, (a0_2, (a0_3, a0_4))), (a1_1, (a1_2, (a1_3, a1_4))))) false fun (q1 : Bool) => bif (!q1) then some (u false)
    else some (u true)
def g6 (m13 : Y13) (L : Nat) (a0_0 : Int) (a0_1 : (List N10)) (a0_2 : (List M9)) (a0_3 : (List W2)) (a0_4 : (List S10)) (a1_0 : Int) (a1_1 : (List N10)) (a1_2 : (List M9)) (a1_3 : (List W2)) (a1_4 : (List S10)) : Option Bool := G6 (fun x => x) m13 a0_0 a0_1 a0_2 a0_3 a0_4 a1_0 a1_1 a1_2 a1_3 a1_4
theorem e6 (m13 : Y13) (L : Nat) (a0_0 : Int) (a0_1 : (List N10)) (a0_2 : (List M9)) (a0_3 : (List W2)) (a0_4 : (List S10)) (a1_0 : Int) (a1_1 : (List N10)) (a1_2 : (List M9)) (a1_3 : (List W2)) (a1_4 : (List S10)) : evF prog (ev6 m13) (loopN L) f6 (a6.enc ((a0_0, a0_1, a0_2, a0_3, a0_4), (a1_0, a1_1, a1_2, a1_3, a1_4))) = (g6 m13 L a0_0 a0_1 a0_2 a0_3 a0_4 a1_0 a1_1 a1_2 a1_3 a1_4).map n6 := by
  refine .trans (b := G6 n6 m13 a0_0 a0_1 a0_2 a0_3 a0_4 a1_0 a1_1 a1_2 a1_3 a1_4) (by kernel_rfl) ?_
  unfold g6 G6
  repeat' first | with_reducible refine cgB ?_ ?_ | with_reducible refine cgT fun _ => ?_ | with_reducible refine cgN fun _ => ?_ | exact rfl
def w6 (m13 : Y13) (L : Nat) (x : (R5 × R5)) : Option Bool := g6 m13 L x.1.1 x.1.2.1 x.1.2.2.1 x.1.2.2.2.1 x.1.2.2.2.2 x.2.1 x.2.2.1 x.2.2.2.1 x.2.2.2.2.1 x.2.2.2.2.2
theorem s6 (m13 : Y13) (h13 : Sat prog cxT 13 (c13 m13)) (m : Y6) (hm : ∀ (x : (R5 × R5)) t, m x = some t → ∃ L, w6 m13 L x = some t) : Sat prog cxT 6 (c6 m) :=
  sat_t cxT_ok cxT_pok (by rfl) (fn := f6) rfl a6 n6 dd6 m (ev6 m13) (kok_cons h13 kok_nil) kwok_nil (w6 m13) (fun L x => e6 m13 L x.1.1 x.1.2.1 x.1.2.2.1 x.1.2.2.2.1 x.1.2.2.2.2 x.2.1 x.2.2.1 x.2.2.2.1 x.2.2.2.2.1 x.2.2.2.2.2) hm hs6
end Go.Proofs.Try
