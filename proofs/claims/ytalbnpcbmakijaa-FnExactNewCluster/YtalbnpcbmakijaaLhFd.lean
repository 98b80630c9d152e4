/- A part of the proof of FnExactNewCluster: LhFd, LhFe. -/
import Derived.Test.YtalbnpcbmakijaaLhBase
set_option maxHeartbeats 0
set_option maxRecDepth 100000
set_option linter.unusedVariables false
set_option linter.unusedSimpArgs false
namespace Go.Proofs.Try
open Go Go.VM Go.RowKit
/-! loop.example/g00222/laws.heldEntryS -/
def ev36 : Env cxT := { Kc := kcOf [], Kw := kwOf [], lv := fun i => if i = 0 then [(0, [some 64]), (1, []), (5, [])] else [], xv := fun i => if i = 0 then some [(1, [])] else none }
def S36_0 (a0 : (List E9)) (a1 : Int) (v0_1 : Int) (v0_5 : Int) : St cxT.ty := { slots := [(.inl (.inl (ls { own := 0, nm := 0, e := 64, o := false, xs := a0 }))), (.inl (.inl (lv (.int .i64 v0_1)))), junk, junk, junk, (.inl (.inl (lv (.int .i64 v0_5))))] ++ List.replicate 94 junk, D := [], F := [], ctr := 1 }
def X36_0 (a0 : (List E9)) (a1 : Int) (w0_1 : Int) : St cxT.ty := { slots := [junk, (.inl (.inl (lv (.int .i64 w0_1))))] ++ List.replicate 98 junk, D := [], F := [], ctr := 1 }
def G36 {B : Type} (u : Int → B) (hh0 : Int → Int → Option B) (a0 : (List E9)) (a1 : Int) : Option B :=
  hh0 a1 (0 : Int)
def B36_0 {B : Type} (u : Int → B) (gg : Int → Int → Option B) (kk : Int → Option B) (a0 : (List E9)) (a1 : Int) (v0_1 : Int) (v0_5 : Int) : Option B :=
  bif (decide (v0_5 < (Nat.cast (List.length a0) : Int))) then bnd (List.getD a0 v0_5.toNat ((0 : Int), ((0 : Int), ((0 : Int), ((0 : Int), ((0 : Int), ((0 : Int), ((0 : Int), ((0 : Int), (0 : Int)))))))))) fun s1_0 => bif ((decide ((0 : Int) ≤ v0_5)) && (decide (v0_5 < (Nat.cast (List.length a0) : Int)))) then bif (s1_0.1 != v0_1) then some (u (-(1 : Int)))
      else bif ((decide ((0 : Int) ≤ v0_5)) && (decide (v0_5 < (Nat.cast (List.length a0) : Int)))) then bif (s1_0.2.1 != (IntKind.wrap .i64 (v0_1 + (1 : Int)))) then some (u (-(1 : Int)))
        else bif ((decide ((0 : Int) ≤ v0_5)) && (decide (v0_5 < (Nat.cast (List.length a0) : Int)))) then bif (s1_0.2.2.1 != (IntKind.wrap .i64 ((IntKind.wrap .i64 (v0_1 + (1 : Int))) + (1 : Int)))) then some (u (-(1 : Int)))
          else bif ((decide ((0 : Int) ≤ v0_5)) && (decide (v0_5 < (Nat.cast (List.length a0) : Int)))) then bif (s1_0.2.2.2.1 != (IntKind.wrap .i64 ((IntKind.wrap .i64 ((IntKind.wrap .i64 (v0_1 + (1 : Int))) + (1 : Int))) + (1 : Int)))) then some (u (-(1 : Int)))
            else bif ((decide ((0 : Int) ≤ v0_5)) && (decide (v0_5 < (Nat.cast (List.length a0) : Int)))) then bif (s1_0.2.2.2.2.1 != (IntKind.wrap .i64 ((IntKind.wrap .i64 ((IntKind.wrap .i64 ((IntKind.wrap .i64 (v0_1 + (1 : Int))) + (1 : Int))) + (1 : Int))) + (1 : Int)))) then some (u (-(1 : Int)))
              else bif ((decide ((0 : Int) ≤ v0_5)) && (decide (v0_5 < (Nat.cast (List.length a0) : Int)))) then bif (s1_0.2.2.2.2.2.1 != (IntKind.wrap .i64 ((IntKind.wrap .i64 ((IntKind.wrap .i64 ((IntKind.wrap .i64 ((IntKind.wrap .i64 (v0_1 + (1 : Int))) + (1 : Int))) + (1 : Int))) + (1 : Int))) + (1 : Int)))) then some (u (-(1 : Int)))
                else bif ((decide ((0 : Int) ≤ v0_5)) && (decide (v0_5 < (Nat.cast (List.length a0) : Int)))) then bif (s1_0.2.2.2.2.2.2.1 != (IntKind.wrap .i64 ((IntKind.wrap .i64 ((IntKind.wrap .i64 ((IntKind.wrap .i64 ((IntKind.wrap .i64 ((IntKind.wrap .i64 (v0_1 + (1 : Int))) + (1 : Int))) + (1 : Int))) + (1 : Int))) + (1 : Int))) + (1 : Int)))) then some (u (-(1 : Int)))
                  else bif ((decide ((0 : Int) ≤ v0_5)) && (decide (v0_5 < (Nat.cast (List.length a0) : Int)))) then bif (s1_0.2.2.2.2.2.2.2.1 != (IntKind.wrap .i64 ((IntKind.wrap .i64 ((IntKind.wrap .i64 ((IntKind.wrap .i64 ((IntKind.wrap .i64 ((IntKind.wrap .i64 ((IntKind.wrap .i64 (v0_1 + (1 : Int))) + (1 : Int))) + (1 : Int))) + (1 : Int))) + (1 : Int))) + (1 : Int))) + (1 : Int)))) then some (u (-(1 : Int)))
                    else bif ((decide ((0 : Int) ≤ v0_5)) && (decide (v0_5 < (Nat.cast (List.length a0) : Int)))) then bif (s1_0.2.2.2.2.2.2.2.2 != (IntKind.wrap .i64 ((IntKind.wrap .i64 ((IntKind.wrap .i64 ((IntKind.wrap .i64 ((IntKind.wrap .i64 ((IntKind.wrap .i64 ((IntKind.wrap .i64 ((IntKind.wrap .i64 (v0_1 + (1 : Int))) + (1 : Int))) + (1 : Int))) + (1 : Int))) + (1 : Int))) + (1 : Int))) + (1 : Int))) + (1 : Int)))) then some (u (-(1 : Int)))
                      else gg (IntKind.wrap .i64 ((IntKind.wrap .i64 ((IntKind.wrap .i64 ((IntKind.wrap .i64 ((IntKind.wrap .i64 ((IntKind.wrap .i64 ((IntKind.wrap .i64 ((IntKind.wrap .i64 ((IntKind.wrap .i64 (v0_1 + (1 : Int))) + (1 : Int))) + (1 : Int))) + (1 : Int))) + (1 : Int))) + (1 : Int))) + (1 : Int))) + (1 : Int))) + (1 : Int))) (IntKind.wrap .i64 (v0_5 + (1 : Int)))
                    else none
                  else none
                else none
              else none
            else none
          else none
        else none
      else none
    else none
  else kk v0_1
def A36_0 {B : Type} (u : Int → B) (a0 : (List E9)) (a1 : Int) (w0_1 : Int) : Option B :=
  some (u w0_1)
def l36_0 (L : Nat) (a0 : (List E9)) (a1 : Int) : Nat → Int → Int → (Int → Option Int) → Option Int
  | 0, _, _, _ => none
  | n + 1, v0_1, v0_5, k => B36_0 (fun x => x) (fun v0_1 v0_5 => l36_0 L a0 a1 n v0_1 v0_5 k) k a0 a1 v0_1 v0_5
theorem h36_0 (L : Nat) (a0 : (List E9)) (a1 : Int) (k : St cxT.ty → Option (V cxT.ty)) (xk : Nat → St cxT.ty → Option (V cxT.ty)) (k' : Int → Option Int) (hk : ∀ (w0_1 : Int), k (X36_0 a0 a1 w0_1) = (k' w0_1).map n36) : ∀ (n : Nat) (v0_1 : Int) (v0_5 : Int), headF prog ev36 L f36 0 [1, 0, 1, 0, 0] (outK (outV prog f36) k xk) n (S36_0 a0 a1 v0_1 v0_5) = (l36_0 L a0 a1 n v0_1 v0_5 k').map n36
  | 0, _, _ => rfl
  | n + 1, v0_1, v0_5 => by
    rw [headF_round]
    have ih := h36_0 L a0 a1 k xk k' hk n
    refine .trans (b := B36_0 n36 (fun v0_1 v0_5 => (headF prog ev36 L f36 0 [1, 0, 1, 0, 0] (outK (outV prog f36) k xk) n) (S36_0 a0 a1 v0_1 v0_5)) (fun w0_1 => k (X36_0 a0 a1 w0_1)) a0 a1 v0_1 v0_5) (by kernel_rfl) ?_
    unfold l36_0 B36_0
    repeat' first | with_reducible refine cgB ?_ ?_ | with_reducible refine cgT fun _ => ?_ | with_reducible refine cgN fun _ => ?_ | exact ih _ _ | exact hk _ | exact rfl
def g36 (L : Nat) (a0 : (List E9)) (a1 : Int) : Option Int := G36 (fun x => x) (fun v0_1 v0_5 => l36_0 L a0 a1 L v0_1 v0_5 (fun w0_1 => A36_0 (fun x => x) a0 a1 w0_1)) a0 a1
theorem e36 (L : Nat) (a0 : (List E9)) (a1 : Int) : evF prog ev36 (loopN L) f36 (a36.enc (a0, a1)) = (g36 L a0 a1).map n36 := by
  have hin0 : ∀ (v0_1 : Int) (v0_5 : Int), headF prog ev36 L f36 0 [1, 0, 1, 0, 0] (outK (outV prog f36) (topK prog ev36 L f36 [1, 0, 1] (outV prog f36)).n (topK prog ev36 L f36 [1, 0, 1] (outV prog f36)).x) L (S36_0 a0 a1 v0_1 v0_5) = ((fun v0_1 v0_5 => l36_0 L a0 a1 L v0_1 v0_5 (fun w0_1 => A36_0 (fun x => x) a0 a1 w0_1)) v0_1 v0_5).map n36 := fun v0_1 v0_5 => h36_0 L a0 a1 _ _ _ (fun w0_1 => by refine .trans (b := A36_0 n36 a0 a1 w0_1) (by kernel_rfl) ?_; unfold A36_0; repeat' first | with_reducible refine cgB ?_ ?_ | with_reducible refine cgT fun _ => ?_ | with_reducible refine cgN fun _ => ?_ | exact rfl) L v0_1 v0_5
  refine .trans (b := G36 n36 (fun v0_1 v0_5 => headF prog ev36 L f36 0 [1, 0, 1, 0, 0] (outK (outV prog f36) (topK prog ev36 L f36 [1, 0, 1] (outV prog f36)).n (topK prog ev36 L f36 [1, 0, 1] (outV prog f36)).x) L (S36_0 a0 a1 v0_1 v0_5)) a0 a1) (by kernel_rfl) ?_
  unfold g36 G36
  repeat' first | with_reducible refine cgB ?_ ?_ | with_reducible refine cgT fun _ => ?_ | with_reducible refine cgN fun _ => ?_ | exact hin0 _ _ | exact rfl
def w36 (L : Nat) (x : ((List E9) × Int)) : Option Int := g36 L x.1 x.2
theorem s36 (m : Y36) (hm : ∀ (x : ((List E9) × Int)) t, m x = some t → ∃ L, w36 L x = some t) : Sat prog cxT 36 (c36 m) :=
  sat_t cxT_ok cxT_pok (by rfl) (fn := f36) rfl a36 n36 dd36 m ev36 kok_nil kwok_nil (w36) (fun L x => e36 L x.1 x.2) hm hs36
/-! loop.example/g00222/laws.heldInt64S -/
def ev37 : Env cxT := { Kc := kcOf [], Kw := kwOf [], lv := fun i => if i = 0 then [(0, [some 2]), (1, []), (5, [])] else [], xv := fun i => if i = 0 then some [(1, [])] else none }
def S37_0 (a0 : (List Int)) (a1 : Int) (v0_1 : Int) (v0_5 : Int) : St cxT.ty := { slots := [(.inl (.inl (ls { own := 0, nm := 0, e := 2, o := false, xs := a0 }))), (.inl (.inl (lv (.int .i64 v0_1)))), junk, junk, junk, (.inl (.inl (lv (.int .i64 v0_5))))] ++ List.replicate 15 junk, D := [], F := [], ctr := 1 }
def X37_0 (a0 : (List Int)) (a1 : Int) (w0_1 : Int) : St cxT.ty := { slots := [junk, (.inl (.inl (lv (.int .i64 w0_1))))] ++ List.replicate 19 junk, D := [], F := [], ctr := 1 }
def G37 {B : Type} (u : Int → B) (hh0 : Int → Int → Option B) (a0 : (List Int)) (a1 : Int) : Option B :=
  hh0 a1 (0 : Int)
def B37_0 {B : Type} (u : Int → B) (gg : Int → Int → Option B) (kk : Int → Option B) (a0 : (List Int)) (a1 : Int) (v0_1 : Int) (v0_5 : Int) : Option B :=
  bif (decide (v0_5 < (Nat.cast (List.length a0) : Int))) then bif ((decide ((0 : Int) ≤ v0_5)) && (decide (v0_5 < (Nat.cast (List.length a0) : Int)))) then bif ((List.getD a0 v0_5.toNat (0 : Int)) != v0_1) then some (u (-(1 : Int)))
      else gg (IntKind.wrap .i64 (v0_1 + (1 : Int))) (IntKind.wrap .i64 (v0_5 + (1 : Int)))
    else none
  else kk v0_1
def A37_0 {B : Type} (u : Int → B) (a0 : (List Int)) (a1 : Int) (w0_1 : Int) : Option B :=
  some (u w0_1)
def l37_0 (L : Nat) (a0 : (List Int)) (a1 : Int) : Nat → Int → Int → (Int → Option Int) → Option Int
  | 0, _, _, _ => none
  | n + 1, v0_1, v0_5, k => B37_0 (fun x => x) (fun v0_1 v0_5 => l37_0 L a0 a1 n v0_1 v0_5 k) k a0 a1 v0_1 v0_5
theorem h37_0 (L : Nat) (a0 : (List Int)) (a1 : Int) (k : St cxT.ty → Option (V cxT.ty)) (xk : Nat → St cxT.ty → Option (V cxT.ty)) (k' : Int → Option Int) (hk : ∀ (w0_1 : Int), k (X37_0 a0 a1 w0_1) = (k' w0_1).map n37) : ∀ (n : Nat) (v0_1 : Int) (v0_5 : Int), headF prog ev37 L f37 0 [1, 0, 1, 0, 0] (outK (outV prog f37) k xk) n (S37_0 a0 a1 v0_1 v0_5) = (l37_0 L a0 a1 n v0_1 v0_5 k').map n37
  | 0, _, _ => rfl
  | n + 1, v0_1, v0_5 => by
    rw [headF_round]
    have ih := h37_0 L a0 a1 k xk k' hk n
    refine .trans (b := B37_0 n37 (fun v0_1 v0_5 => (headF prog ev37 L f37 0 [1, 0, 1, 0, 0] (outK (outV prog f37) k xk) n) (S37_0 a0 a1 v0_1 v0_5)) (fun w0_1 => k (X37_0 a0 a1 w0_1)) a0 a1 v0_1 v0_5) (by kernel_rfl) ?_
    unfold l37_0 B37_0
    repeat' first | with_reducible refine cgB ?_ ?_ | with_reducible refine cgT fun _ => ?_ | with_reducible refine cgN fun _ => ?_ | exact ih _ _ | exact hk _ | exact rfl
def g37 (L : Nat) (a0 : (List Int)) (a1 : Int) : Option Int := G37 (fun x => x) (fun v0_1 v0_5 => l37_0 L a0 a1 L v0_1 v0_5 (fun w0_1 => A37_0 (fun x => x) a0 a1 w0_1)) a0 a1
theorem e37 (L : Nat) (a0 : (List Int)) (a1 : Int) : evF prog ev37 (loopN L) f37 (a37.enc (a0, a1)) = (g37 L a0 a1).map n37 := by
  have hin0 : ∀ (v0_1 : Int) (v0_5 : Int), headF prog ev37 L f37 0 [1, 0, 1, 0, 0] (outK (outV prog f37) (topK prog ev37 L f37 [1, 0, 1] (outV prog f37)).n (topK prog ev37 L f37 [1, 0, 1] (outV prog f37)).x) L (S37_0 a0 a1 v0_1 v0_5) = ((fun v0_1 v0_5 => l37_0 L a0 a1 L v0_1 v0_5 (fun w0_1 => A37_0 (fun x => x) a0 a1 w0_1)) v0_1 v0_5).map n37 := fun v0_1 v0_5 => h37_0 L a0 a1 _ _ _ (fun w0_1 => by refine .trans (b := A37_0 n37 a0 a1 w0_1) (by kernel_rfl) ?_; unfold A37_0; repeat' first | with_reducible refine cgB ?_ ?_ | with_reducible refine cgT fun _ => ?_ | with_reducible refine cgN fun _ => ?_ | exact rfl) L v0_1 v0_5
  refine .trans (b := G37 n37 (fun v0_1 v0_5 => headF prog ev37 L f37 0 [1, 0, 1, 0, 0] (outK (outV prog f37) (topK prog ev37 L f37 [1, 0, 1] (outV prog f37)).n (topK prog ev37 L f37 [1, 0, 1] (outV prog f37)).x) L (S37_0 a0 a1 v0_1 v0_5)) a0 a1) (by kernel_rfl) ?_
  unfold g37 G37
  repeat' first | with_reducible refine cgB ?_ ?_ | with_reducible refine cgT fun _ => ?_ | with_reducible refine cgN fun _ => ?_ | exact hin0 _ _ | exact rfl
def w37 (L : Nat) (x : ((List Int) × Int)) : Option Int := g37 L x.1 x.2
theorem s37 (m : Y37) (hm : ∀ (x : ((List Int) × Int)) t, m x = some t → ∃ L, w37 L x = some t) : Sat prog cxT 37 (c37 m) :=
  sat_t cxT_ok cxT_pok (by rfl) (fn := f37) rfl a37 n37 dd37 m ev37 kok_nil kwok_nil (w37) (fun L x => e37 L x.1 x.2) hm hs37
/-! loop.example/g00222/laws.heldNodeS -/
def ev26 (m36 : Y36) (m37 : Y37) : Env cxT := { Kc := kcOf [(36, c36 m36), (37, c37 m37)], Kw := kwOf [], lv := fun i => if i = 0 then [(0, [some 38]), (1, []), (5, [])] else [], xv := fun i => if i = 0 then some [(1, [])] else none }
def S26_0 (a0 : (List N10)) (a1 : Int) (v0_1 : Int) (v0_5 : Int) : St cxT.ty := { slots := [(.inl (.inl (ls { own := 0, nm := 0, e := 38, o := false, xs := a0 }))), (.inl (.inl (lv (.int .i64 v0_1)))), junk, junk, junk, (.inl (.inl (lv (.int .i64 v0_5))))] ++ List.replicate 97 junk, D := [], F := [], ctr := 1 }
def X26_0 (a0 : (List N10)) (a1 : Int) (w0_1 : Int) : St cxT.ty := { slots := [junk, (.inl (.inl (lv (.int .i64 w0_1))))] ++ List.replicate 101 junk, D := [], F := [], ctr := 1 }
def G26 {B : Type} (u : Int → B) (hh0 : Int → Int → Option B) (m36 : Y36) (m37 : Y37) (a0 : (List N10)) (a1 : Int) : Option B :=
  hh0 a1 (0 : Int)
def B26_0 {B : Type} (u : Int → B) (gg : Int → Int → Option B) (kk : Int → Option B) (m36 : Y36) (m37 : Y37) (a0 : (List N10)) (a1 : Int) (v0_1 : Int) (v0_5 : Int) : Option B :=
  bif (decide (v0_5 < (Nat.cast (List.length a0) : Int))) then bnd (List.getD a0 v0_5.toNat ((0 : Int), ((0 : Int), ((0 : Int), ((0 : Int), (([] : List E9), ((0 : Int), ((0 : Int), (([] : List (Int)), (([] : List (Int)), ([] : List (Int)))))))))))) fun s1_0 => bif ((decide ((0 : Int) ≤ v0_5)) && (decide (v0_5 < (Nat.cast (List.length a0) : Int)))) then bif (s1_0.1 != v0_1) then some (u (-(1 : Int)))
      else bif ((decide ((0 : Int) ≤ v0_5)) && (decide (v0_5 < (Nat.cast (List.length a0) : Int)))) then bif (s1_0.2.1 != (IntKind.wrap .i64 (v0_1 + (1 : Int)))) then some (u (-(1 : Int)))
        else bif ((decide ((0 : Int) ≤ v0_5)) && (decide (v0_5 < (Nat.cast (List.length a0) : Int)))) then bif (s1_0.2.2.1 != (IntKind.wrap .i64 ((IntKind.wrap .i64 (v0_1 + (1 : Int))) + (1 : Int)))) then some (u (-(1 : Int)))
          else bif ((decide ((0 : Int) ≤ v0_5)) && (decide (v0_5 < (Nat.cast (List.length a0) : Int)))) then bif (s1_0.2.2.2.1 != (IntKind.wrap .i64 ((IntKind.wrap .i64 ((IntKind.wrap .i64 (v0_1 + (1 : Int))) + (1 : Int))) + (1 : Int)))) then some (u (-(1 : Int)))
            else bif ((decide ((0 : Int) ≤ v0_5)) && (decide (v0_5 < (Nat.cast (List.length a0) : Int)))) then tst (m36 (s1_0.2.2.2.2.1, (IntKind.wrap .i64 ((IntKind.wrap .i64 ((IntKind.wrap .i64 ((IntKind.wrap .i64 (v0_1 + (1 : Int))) + (1 : Int))) + (1 : Int))) + (1 : Int))))) (0 : Int) fun (q7 : Int) => bif (decide (q7 < (0 : Int))) then some (u (-(1 : Int)))
                else bif ((decide ((0 : Int) ≤ v0_5)) && (decide (v0_5 < (Nat.cast (List.length a0) : Int)))) then bif (s1_0.2.2.2.2.2.1 != q7) then some (u (-(1 : Int)))
                  else bif ((decide ((0 : Int) ≤ v0_5)) && (decide (v0_5 < (Nat.cast (List.length a0) : Int)))) then bif (s1_0.2.2.2.2.2.2.1 != (IntKind.wrap .i64 (q7 + (1 : Int)))) then some (u (-(1 : Int)))
                    else bif ((decide ((0 : Int) ≤ v0_5)) && (decide (v0_5 < (Nat.cast (List.length a0) : Int)))) then tst (m37 (s1_0.2.2.2.2.2.2.2.1, (IntKind.wrap .i64 ((IntKind.wrap .i64 (q7 + (1 : Int))) + (1 : Int))))) (0 : Int) fun (q11 : Int) => bif (decide (q11 < (0 : Int))) then some (u (-(1 : Int)))
                        else bif ((decide ((0 : Int) ≤ v0_5)) && (decide (v0_5 < (Nat.cast (List.length a0) : Int)))) then tst (m37 (s1_0.2.2.2.2.2.2.2.2.1, q11)) (0 : Int) fun (q13 : Int) => bif (decide (q13 < (0 : Int))) then some (u (-(1 : Int)))
                            else bif ((decide ((0 : Int) ≤ v0_5)) && (decide (v0_5 < (Nat.cast (List.length a0) : Int)))) then tst (m37 (s1_0.2.2.2.2.2.2.2.2.2, q13)) (0 : Int) fun (q15 : Int) => bif (decide (q15 < (0 : Int))) then some (u (-(1 : Int)))
                                else gg q15 (IntKind.wrap .i64 (v0_5 + (1 : Int)))
                            else none
                        else none
                    else none
                  else none
                else none
            else none
          else none
        else none
      else none
    else none
  else kk v0_1
def A26_0 {B : Type} (u : Int → B) (m36 : Y36) (m37 : Y37) (a0 : (List N10)) (a1 : Int) (w0_1 : Int) : Option B :=
  some (u w0_1)
def l26_0 (m36 : Y36) (m37 : Y37) (L : Nat) (a0 : (List N10)) (a1 : Int) : Nat → Int → Int → (Int → Option Int) → Option Int
  | 0, _, _, _ => none
  | n + 1, v0_1, v0_5, k => B26_0 (fun x => x) (fun v0_1 v0_5 => l26_0 m36 m37 L a0 a1 n v0_1 v0_5 k) k m36 m37 a0 a1 v0_1 v0_5
theorem h26_0 (m36 : Y36) (m37 : Y37) (L : Nat) (a0 : (List N10)) (a1 : Int) (k : St cxT.ty → Option (V cxT.ty)) (xk : Nat → St cxT.ty → Option (V cxT.ty)) (k' : Int → Option Int) (hk : ∀ (w0_1 : Int), k (X26_0 a0 a1 w0_1) = (k' w0_1).map n26) : ∀ (n : Nat) (v0_1 : Int) (v0_5 : Int), headF prog (ev26 m36 m37) L f26 0 [1, 0, 1, 0, 0] (outK (outV prog f26) k xk) n (S26_0 a0 a1 v0_1 v0_5) = (l26_0 m36 m37 L a0 a1 n v0_1 v0_5 k').map n26
  | 0, _, _ => rfl
  | n + 1, v0_1, v0_5 => by
    rw [headF_round]
    have ih := h26_0 m36 m37 L a0 a1 k xk k' hk n
    refine .trans (b := B26_0 n26 (fun v0_1 v0_5 => (headF prog (ev26 m36 m37) L f26 0 [1, 0, 1, 0, 0] (outK (outV prog f26) k xk) n) (S26_0 a0 a1 v0_1 v0_5)) (fun w0_1 => k (X26_0 a0 a1 w0_1)) m36 m37 a0 a1 v0_1 v0_5) (by kernel_rfl) ?_
    unfold l26_0 B26_0
    repeat' first | with_reducible refine cgB ?_ ?_ | with_reducible refine cgT fun _ => ?_ | with_reducible refine cgN fun _ => ?_ | exact ih _ _ | exact hk _ | exact rfl
def g26 (m36 : Y36) (m37 : Y37) (L : Nat) (a0 : (List N10)) (a1 : Int) : Option Int := G26 (fun x => x) (fun v0_1 v0_5 => l26_0 m36 m37 L a0 a1 L v0_1 v0_5 (fun w0_1 => A26_0 (fun x => x) m36 m37 a0 a1 w0_1)) m36 m37 a0 a1
theorem e26 (m36 : Y36) (m37 : Y37) (L : Nat) (a0 : (List N10)) (a1 : Int) : evF prog (ev26 m36 m37) (loopN L) f26 (a26.enc (a0, a1)) = (g26 m36 m37 L a0 a1).map n26 := by
  have hin0 : ∀ (v0_1 : Int) (v0_5 : Int), headF prog (ev26 m36 m37) L f26 0 [1, 0, 1, 0, 0] (outK (outV prog f26) (topK prog (ev26 m36 m37) L f26 [1, 0, 1] (outV prog f26)).n (topK prog (ev26 m36 m37) L f26 [1, 0, 1] (outV prog f26)).x) L (S26_0 a0 a1 v0_1 v0_5) = ((fun v0_1 v0_5 => l26_0 m36 m37 L a0 a1 L v0_1 v0_5 (fun w0_1 => A26_0 (fun x => x) m36 m37 a0 a1 w0_1)) v0_1 v0_5).map n26 := fun v0_1 v0_5 => h26_0 m36 m37 L a0 a1 _ _ _ (fun w0_1 => by refine .trans (b := A26_0 n26 m36 m37 a0 a1 w0_1) (by kernel_rfl) ?_; unfold A26_0; repeat' first | with_reducible refine cgB ?_ ?_ | with_reducible refine cgT fun _ => ?_ | with_reducible refine cgN fun _ => ?_ | exact rfl) L v0_1 v0_5
  refine .trans (b := G26 n26 (fun v0_1 v0_5 => headF prog (ev26 m36 m37) L f26 0 [1, 0, 1, 0, 0] (outK (outV prog f26) (topK prog (ev26 m36 m37) L f26 [1, 0, 1] (outV prog f26)).n (topK prog (ev26 m36 m37) L f26 [1, 0, 1] (outV prog f26)).x) L (S26_0 a0 a1 v0_1 v0_5)) m36 m37 a0 a1) (by kernel_rfl) ?_
  unfold g26 G26
  repeat' first | with_reducible refine cgB ?_ ?_ | with_reducible refine cgT fun _ => ?_ | with_reducible refine cgN fun _ => ?_ | exact hin0 _ _ | exact rfl
def w26 (m36 : Y36) (m37 : Y37) (L : Nat) (x : ((List N10) × Int)) : Option Int := g26 m36 m37 L x.1 x.2
theorem s26 (m36 : Y36) (m37 : Y37) (h36 : Sat prog cxT 36 (c36 m36)) (h37 : Sat prog cxT 37 (c37 m37)) (m : Y26) (hm : ∀ (x : ((List N10) × Int)) t, m x = some t → ∃ L, w26 m36 m37 L x = some t) : Sat prog cxT 26 (c26 m) :=
  sat_t cxT_ok cxT_pok (by rfl) (fn := f26) rfl a26 n26 dd26 m (ev26 m36 m37) (kok_cons h36 (kok_cons h37 kok_nil)) kwok_nil (w26 m36 m37) (fun L x => e26 m36 m37 L x.1 x.2) hm hs26
/-! loop.example/g00222/laws.heldMailS -/
def ev27 (m36 : Y36) : Env cxT := { Kc := kcOf [(36, c36 m36)], Kw := kwOf [], lv := fun i => if i = 0 then [(0, [some 56]), (1, []), (5, [])] else [], xv := fun i => if i = 0 then some [(1, [])] else none }
def S27_0 (a0 : (List M9)) (a1 : Int) (v0_1 : Int) (v0_5 : Int) : St cxT.ty := { slots := [(.inl (.inl (ls { own := 0, nm := 0, e := 56, o := false, xs := a0 }))), (.inl (.inl (lv (.int .i64 v0_1)))), junk, junk, junk, (.inl (.inl (lv (.int .i64 v0_5))))] ++ List.replicate 90 junk, D := [], F := [], ctr := 1 }
def X27_0 (a0 : (List M9)) (a1 : Int) (w0_1 : Int) : St cxT.ty := { slots := [junk, (.inl (.inl (lv (.int .i64 w0_1))))] ++ List.replicate 94 junk, D := [], F := [], ctr := 1 }
def G27 {B : Type} (u : Int → B) (hh0 : Int → Int → Option B) (m36 : Y36) (a0 : (List M9)) (a1 : Int) : Option B :=
  hh0 a1 (0 : Int)
def B27_0 {B : Type} (u : Int → B) (gg : Int → Int → Option B) (kk : Int → Option B) (m36 : Y36) (a0 : (List M9)) (a1 : Int) (v0_1 : Int) (v0_5 : Int) : Option B :=
  bif (decide (v0_5 < (Nat.cast (List.length a0) : Int))) then bnd (List.getD a0 v0_5.toNat ((0 : Int), ((0 : Int), ((0 : Int), ((0 : Int), ((0 : Int), ((0 : Int), ((0 : Int), (false, []))))))))) fun s1_0 => bif ((decide ((0 : Int) ≤ v0_5)) && (decide (v0_5 < (Nat.cast (List.length a0) : Int)))) then bif (s1_0.1 != v0_1) then some (u (-(1 : Int)))
      else bif ((decide ((0 : Int) ≤ v0_5)) && (decide (v0_5 < (Nat.cast (List.length a0) : Int)))) then bif (s1_0.2.1 != (IntKind.wrap .i64 (v0_1 + (1 : Int)))) then some (u (-(1 : Int)))
        else bif ((decide ((0 : Int) ≤ v0_5)) && (decide (v0_5 < (Nat.cast (List.length a0) : Int)))) then bif (s1_0.2.2.1 != (IntKind.wrap .i64 ((IntKind.wrap .i64 (v0_1 + (1 : Int))) + (1 : Int)))) then some (u (-(1 : Int)))
          else bif ((decide ((0 : Int) ≤ v0_5)) && (decide (v0_5 < (Nat.cast (List.length a0) : Int)))) then bif (s1_0.2.2.2.1 != (IntKind.wrap .i64 ((IntKind.wrap .i64 ((IntKind.wrap .i64 (v0_1 + (1 : Int))) + (1 : Int))) + (1 : Int)))) then some (u (-(1 : Int)))
            else bif ((decide ((0 : Int) ≤ v0_5)) && (decide (v0_5 < (Nat.cast (List.length a0) : Int)))) then bif (s1_0.2.2.2.2.1 != (IntKind.wrap .i64 ((IntKind.wrap .i64 ((IntKind.wrap .i64 ((IntKind.wrap .i64 (v0_1 + (1 : Int))) + (1 : Int))) + (1 : Int))) + (1 : Int)))) then some (u (-(1 : Int)))
              else bif ((decide ((0 : Int) ≤ v0_5)) && (decide (v0_5 < (Nat.cast (List.length a0) : Int)))) then bif (s1_0.2.2.2.2.2.1 != (IntKind.wrap .i64 ((IntKind.wrap .i64 ((IntKind.wrap .i64 ((IntKind.wrap .i64 ((IntKind.wrap .i64 (v0_1 + (1 : Int))) + (1 : Int))) + (1 : Int))) + (1 : Int))) + (1 : Int)))) then some (u (-(1 : Int)))
                else bif ((decide ((0 : Int) ≤ v0_5)) && (decide (v0_5 < (Nat.cast (List.length a0) : Int)))) then bif (s1_0.2.2.2.2.2.2.1 != (IntKind.wrap .i64 ((IntKind.wrap .i64 ((IntKind.wrap .i64 ((IntKind.wrap .i64 ((IntKind.wrap .i64 ((IntKind.wrap .i64 (v0_1 + (1 : Int))) + (1 : Int))) + (1 : Int))) + (1 : Int))) + (1 : Int))) + (1 : Int)))) then some (u (-(1 : Int)))
                  else bif ((decide ((0 : Int) ≤ v0_5)) && (decide (v0_5 < (Nat.cast (List.length a0) : Int)))) then bif (!(s1_0.2.2.2.2.2.2.2.1 == ((Int.tmod (IntKind.wrap .i64 ((IntKind.wrap .i64 ((IntKind.wrap .i64 ((IntKind.wrap .i64 ((IntKind.wrap .i64 ((IntKind.wrap .i64 ((IntKind.wrap .i64 (v0_1 + (1 : Int))) + (1 : Int))) + (1 : Int))) + (1 : Int))) + (1 : Int))) + (1 : Int))) + (1 : Int))) (3 : Int)) == (0 : Int)))) then some (u (-(1 : Int)))
                    else bif ((decide ((0 : Int) ≤ v0_5)) && (decide (v0_5 < (Nat.cast (List.length a0) : Int)))) then tst (m36 (s1_0.2.2.2.2.2.2.2.2, (IntKind.wrap .i64 ((IntKind.wrap .i64 ((IntKind.wrap .i64 ((IntKind.wrap .i64 ((IntKind.wrap .i64 ((IntKind.wrap .i64 ((IntKind.wrap .i64 ((IntKind.wrap .i64 (v0_1 + (1 : Int))) + (1 : Int))) + (1 : Int))) + (1 : Int))) + (1 : Int))) + (1 : Int))) + (1 : Int))) + (1 : Int))))) (0 : Int) fun (q11 : Int) => bif (decide (q11 < (0 : Int))) then some (u (-(1 : Int)))
                        else gg q11 (IntKind.wrap .i64 (v0_5 + (1 : Int)))
                    else none
                  else none
                else none
              else none
            else none
          else none
        else none
      else none
    else none
  else kk v0_1
def A27_0 {B : Type} (u : Int → B) (m36 : Y36) (a0 : (List M9)) (a1 : Int) (w0_1 : Int) : Option B :=
  some (u w0_1)
def l27_0 (m36 : Y36) (L : Nat) (a0 : (List M9)) (a1 : Int) : Nat → Int → Int → (Int → Option Int) → Option Int
  | 0, _, _, _ => none
  | n + 1, v0_1, v0_5, k => B27_0 (fun x => x) (fun v0_1 v0_5 => l27_0 m36 L a0 a1 n v0_1 v0_5 k) k m36 a0 a1 v0_1 v0_5
theorem h27_0 (m36 : Y36) (L : Nat) (a0 : (List M9)) (a1 : Int) (k : St cxT.ty → Option (V cxT.ty)) (xk : Nat → St cxT.ty → Option (V cxT.ty)) (k' : Int → Option Int) (hk : ∀ (w0_1 : Int), k (X27_0 a0 a1 w0_1) = (k' w0_1).map n27) : ∀ (n : Nat) (v0_1 : Int) (v0_5 : Int), headF prog (ev27 m36) L f27 0 [1, 0, 1, 0, 0] (outK (outV prog f27) k xk) n (S27_0 a0 a1 v0_1 v0_5) = (l27_0 m36 L a0 a1 n v0_1 v0_5 k').map n27
  | 0, _, _ => rfl
  | n + 1, v0_1, v0_5 => by
    rw [headF_round]
    have ih := h27_0 m36 L a0 a1 k xk k' hk n
    refine .trans (b := B27_0 n27 (fun v0_1 v0_5 => (headF prog (ev27 m36) L f27 0 [1, 0, 1, 0, 0] (outK (outV prog f27) k xk) n) (S27_0 a0 a1 v0_1 v0_5)) (fun w0_1 => k (X27_0 a0 a1 w0_1)) m36 a0 a1 v0_1 v0_5) (by kernel_rfl) ?_
    unfold l27_0 B27_0
    repeat' first | with_reducible refine cgB ?_ ?_ | with_reducible refine cgT fun _ => ?_ | with_reducible refine cgN fun _ => ?_ | exact ih _ _ | exact hk _ | exact rfl
def g27 (m36 : Y36) (L : Nat) (a0 : (List M9)) (a1 : Int) : Option Int := G27 (fun x => x) (fun v0_1 v0_5 => l27_0 m36 L a0 a1 L v0_1 v0_5 (fun w0_1 => A27_0 (fun x => x) m36 a0 a1 w0_1)) m36 a0 a1
theorem e27 (m36 : Y36) (L : Nat) (a0 : (List M9)) (a1 : Int) : evF prog (ev27 m36) (loopN L) f27 (a27.enc (a0, a1)) = (g27 m36 L a0 a1).map n27 := by
  have hin0 : ∀ (v0_1 : Int) (v0_5 : Int), headF prog (ev27 m36) L f27 0 [1, 0, 1, 0, 0] (outK (outV prog f27) (topK prog (ev27 m36) L f27 [1, 0, 1] (outV prog f27)).n (topK prog (ev27 m36) L f27 [1, 0, 1] (outV prog f27)).x) L (S27_0 a0 a1 v0_1 v0_5) = ((fun v0_1 v0_5 => l27_0 m36 L a0 a1 L v0_1 v0_5 (fun w0_1 => A27_0 (fun x => x) m36 a0 a1 w0_1)) v0_1 v0_5).map n27 := fun v0_1 v0_5 => h27_0 m36 L a0 a1 _ _ _ (fun w0_1 => by refine .trans (b := A27_0 n27 m36 a0 a1 w0_1) (by kernel_rfl) ?_; unfold A27_0; repeat' first | with_reducible refine cgB ?_ ?_ | with_reducible refine cgT fun _ => ?_ | with_reducible refine cgN fun _ => ?_ | exact rfl) L v0_1 v0_5
  refine .trans (b := G27 n27 (fun v0_1 v0_5 => headF prog (ev27 m36) L f27 0 [1, 0, 1, 0, 0] (outK (outV prog f27) (topK prog (ev27 m36) L f27 [1, 0, 1] (outV prog f27)).n (topK prog (ev27 m36) L f27 [1, 0, 1] (outV prog f27)).x) L (S27_0 a0 a1 v0_1 v0_5)) m36 a0 a1) (by kernel_rfl) ?_
  unfold g27 G27
  repeat' first | with_reducible refine cgB ?_ ?_ | with_reducible refine cgT fun _ => ?_ | with_reducible refine cgN fun _ => ?_ | exact hin0 _ _ | exact rfl
def w27 (m36 : Y36) (L : Nat) (x : ((List M9) × Int)) : Option Int := g27 m36 L x.1 x.2
theorem s27 (m36 : Y36) (h36 : Sat prog cxT 36 (c36 m36)) (m : Y27) (hm : ∀ (x : ((List M9) × Int)) t, m x = some t → ∃ L, w27 m36 L x = some t) : Sat prog cxT 27 (c27 m) :=
  sat_t cxT_ok cxT_pok (by rfl) (fn := f27) rfl a27 n27 dd27 m (ev27 m36) (kok_cons h36 kok_nil) kwok_nil (w27 m36) (fun L x => e27 m36 L x.1 x.2) hm hs27
end Go.Proofs.Try

set_option maxHeartbeats 0
set_option maxRecDepth 100000
set_option linter.unusedVariables false
set_option linter.unusedSimpArgs false
namespace Go.Proofs.Try
open Go Go.VM Go.RowKit
/-! loop.example/g00222/laws.heldWonS -/
def ev28 : Env cxT := { Kc := kcOf [], Kw := kwOf [], lv := fun i => if i = 0 then [(0, [some 59]), (1, []), (5, [])] else [], xv := fun i => if i = 0 then some [(1, [])] else none }
def S28_0 (a0 : (List W2)) (a1 : Int) (v0_1 : Int) (v0_5 : Int) : St cxT.ty := { slots := [(.inl (.inl (ls { own := 0, nm := 0, e := 59, o := false, xs := a0 }))), (.inl (.inl (lv (.int .i64 v0_1)))), junk, junk, junk, (.inl (.inl (lv (.int .i64 v0_5))))] ++ List.replicate 25 junk, D := [], F := [], ctr := 1 }
def X28_0 (a0 : (List W2)) (a1 : Int) (w0_1 : Int) : St cxT.ty := { slots := [junk, (.inl (.inl (lv (.int .i64 w0_1))))] ++ List.replicate 29 junk, D := [], F := [], ctr := 1 }
def G28 {B : Type} (u : Int → B) (hh0 : Int → Int → Option B) (a0 : (List W2)) (a1 : Int) : Option B :=
  hh0 a1 (0 : Int)
def B28_0 {B : Type} (u : Int → B) (gg : Int → Int → Option B) (kk : Int → Option B) (a0 : (List W2)) (a1 : Int) (v0_1 : Int) (v0_5 : Int) : Option B :=
  bif (decide (v0_5 < (Nat.cast (List.length a0) : Int))) then bif ((decide ((0 : Int) ≤ v0_5)) && (decide (v0_5 < (Nat.cast (List.length a0) : Int)))) then bif ((List.getD a0 v0_5.toNat ((0 : Int), (0 : Int))).1 != v0_1) then some (u (-(1 : Int)))
      else bif ((decide ((0 : Int) ≤ v0_5)) && (decide (v0_5 < (Nat.cast (List.length a0) : Int)))) then bif ((List.getD a0 v0_5.toNat ((0 : Int), (0 : Int))).2 != (IntKind.wrap .i64 (v0_1 + (1 : Int)))) then some (u (-(1 : Int)))
        else gg (IntKind.wrap .i64 ((IntKind.wrap .i64 (v0_1 + (1 : Int))) + (1 : Int))) (IntKind.wrap .i64 (v0_5 + (1 : Int)))
      else none
    else none
  else kk v0_1
def A28_0 {B : Type} (u : Int → B) (a0 : (List W2)) (a1 : Int) (w0_1 : Int) : Option B :=
  some (u w0_1)
def l28_0 (L : Nat) (a0 : (List W2)) (a1 : Int) : Nat → Int → Int → (Int → Option Int) → Option Int
  | 0, _, _, _ => none
  | n + 1, v0_1, v0_5, k => B28_0 (fun x => x) (fun v0_1 v0_5 => l28_0 L a0 a1 n v0_1 v0_5 k) k a0 a1 v0_1 v0_5
theorem h28_0 (L : Nat) (a0 : (List W2)) (a1 : Int) (k : St cxT.ty → Option (V cxT.ty)) (xk : Nat → St cxT.ty → Option (V cxT.ty)) (k' : Int → Option Int) (hk : ∀ (w0_1 : Int), k (X28_0 a0 a1 w0_1) = (k' w0_1).map n28) : ∀ (n : Nat) (v0_1 : Int) (v0_5 : Int), headF prog ev28 L f28 0 [1, 0, 1, 0, 0] (outK (outV prog f28) k xk) n (S28_0 a0 a1 v0_1 v0_5) = (l28_0 L a0 a1 n v0_1 v0_5 k').map n28
  | 0, _, _ => rfl
  | n + 1, v0_1, v0_5 => by
    rw [headF_round]
    have ih := h28_0 L a0 a1 k xk k' hk n
    refine .trans (b := B28_0 n28 (fun v0_1 v0_5 => (headF prog ev28 L f28 0 [1, 0, 1, 0, 0] (outK (outV prog f28) k xk) n) (S28_0 a0 a1 v0_1 v0_5)) (fun w0_1 => k (X28_0 a0 a1 w0_1)) a0 a1 v0_1 v0_5) (by kernel_rfl) ?_
    unfold l28_0 B28_0
    repeat' first | with_reducible refine cgB ?_ ?_ | with_reducible refine cgT fun _ => ?_ | with_reducible refine cgN fun _ => ?_ | exact ih _ _ | exact hk _ | exact rfl
def g28 (L : Nat) (a0 : (List W2)) (a1 : Int) : Option Int := G28 (fun x => x) (fun v0_1 v0_5 => l28_0 L a0 a1 L v0_1 v0_5 (fun w0_1 => A28_0 (fun x => x) a0 a1 w0_1)) a0 a1
theorem e28 (L : Nat) (a0 : (List W2)) (a1 : Int) : evF prog ev28 (loopN L) f28 (a28.enc (a0, a1)) = (g28 L a0 a1).map n28 := by
  have hin0 : ∀ (v0_1 : Int) (v0_5 : Int), headF prog ev28 L f28 0 [1, 0, 1, 0, 0] (outK (outV prog f28) (topK prog ev28 L f28 [1, 0, 1] (outV prog f28)).n (topK prog ev28 L f28 [1, 0, 1] (outV prog f28)).x) L (S28_0 a0 a1 v0_1 v0_5) = ((fun v0_1 v0_5 => l28_0 L a0 a1 L v0_1 v0_5 (fun w0_1 => A28_0 (fun x => x) a0 a1 w0_1)) v0_1 v0_5).map n28 := fun v0_1 v0_5 => h28_0 L a0 a1 _ _ _ (fun w0_1 => by refine .trans (b := A28_0 n28 a0 a1 w0_1) (by kernel_rfl) ?_; unfold A28_0; repeat' first | with_reducible refine cgB ?_ ?_ | with_reducible refine cgT fun _ => ?_ | with_reducible refine cgN fun _ => ?_ | exact rfl) L v0_1 v0_5
  refine .trans (b := G28 n28 (fun v0_1 v0_5 => headF prog ev28 L f28 0 [1, 0, 1, 0, 0] (outK (outV prog f28) (topK prog ev28 L f28 [1, 0, 1] (outV prog f28)).n (topK prog ev28 L f28 [1, 0, 1] (outV prog f28)).x) L (S28_0 a0 a1 v0_1 v0_5)) a0 a1) (by kernel_rfl) ?_
  unfold g28 G28
  repeat' first | with_reducible refine cgB ?_ ?_ | with_reducible refine cgT fun _ => ?_ | with_reducible refine cgN fun _ => ?_ | exact hin0 _ _ | exact rfl
def w28 (L : Nat) (x : ((List W2) × Int)) : Option Int := g28 L x.1 x.2
theorem s28 (m : Y28) (hm : ∀ (x : ((List W2) × Int)) t, m x = some t → ∃ L, w28 L x = some t) : Sat prog cxT 28 (c28 m) :=
  sat_t cxT_ok cxT_pok (by rfl) (fn := f28) rfl a28 n28 dd28 m ev28 kok_nil kwok_nil (w28) (fun L x => e28 L x.1 x.2) hm hs28
/-! loop.example/g00222/laws.heldSealS -/
def ev29 : Env cxT := { Kc := kcOf [], Kw := kwOf [], lv := fun i => if i = 0 then [(0, [some 66]), (1, []), (5, [])] else [], xv := fun i => if i = 0 then some [(1, [])] else none }
def S29_0 (a0 : (List S10)) (a1 : Int) (v0_1 : Int) (v0_5 : Int) : St cxT.ty := { slots := [(.inl (.inl (ls { own := 0, nm := 0, e := 66, o := false, xs := a0 }))), (.inl (.inl (lv (.int .i64 v0_1)))), junk, junk, junk, (.inl (.inl (lv (.int .i64 v0_5))))] ++ List.replicate 112 junk, D := [], F := [], ctr := 1 }
def X29_0 (a0 : (List S10)) (a1 : Int) (w0_1 : Int) : St cxT.ty := { slots := [junk, (.inl (.inl (lv (.int .i64 w0_1))))] ++ List.replicate 116 junk, D := [], F := [], ctr := 1 }
def G29 {B : Type} (u : Int → B) (hh0 : Int → Int → Option B) (a0 : (List S10)) (a1 : Int) : Option B :=
  hh0 a1 (0 : Int)
def B29_0 {B : Type} (u : Int → B) (gg : Int → Int → Option B) (kk : Int → Option B) (a0 : (List S10)) (a1 : Int) (v0_1 : Int) (v0_5 : Int) : Option B :=
  bif (decide (v0_5 < (Nat.cast (List.length a0) : Int))) then bnd (List.getD a0 v0_5.toNat ((0 : Int), ((0 : Int), ((0 : Int), ((0 : Int), ((0 : Int), ((0 : Int), ((0 : Int), ((0 : Int), ((0 : Int), (0 : Int))))))))))) fun s1_0 => bif ((decide ((0 : Int) ≤ v0_5)) && (decide (v0_5 < (Nat.cast (List.length a0) : Int)))) then bif (s1_0.1 != v0_1) then some (u (-(1 : Int)))
      else bif ((decide ((0 : Int) ≤ v0_5)) && (decide (v0_5 < (Nat.cast (List.length a0) : Int)))) then bif (s1_0.2.1 != (IntKind.wrap .i64 (v0_1 + (1 : Int)))) then some (u (-(1 : Int)))
        else bif ((decide ((0 : Int) ≤ v0_5)) && (decide (v0_5 < (Nat.cast (List.length a0) : Int)))) then bif (s1_0.2.2.1 != (IntKind.wrap .i64 ((IntKind.wrap .i64 (v0_1 + (1 : Int))) + (1 : Int)))) then some (u (-(1 : Int)))
          else bif ((decide ((0 : Int) ≤ v0_5)) && (decide (v0_5 < (Nat.cast (List.length a0) : Int)))) then bif (s1_0.2.2.2.1 != (IntKind.wrap .i64 ((IntKind.wrap .i64 ((IntKind.wrap .i64 (v0_1 + (1 : Int))) + (1 : Int))) + (1 : Int)))) then some (u (-(1 : Int)))
            else bif ((decide ((0 : Int) ≤ v0_5)) && (decide (v0_5 < (Nat.cast (List.length a0) : Int)))) then bif (s1_0.2.2.2.2.1 != (IntKind.wrap .i64 ((IntKind.wrap .i64 ((IntKind.wrap .i64 ((IntKind.wrap .i64 (v0_1 + (1 : Int))) + (1 : Int))) + (1 : Int))) + (1 : Int)))) then some (u (-(1 : Int)))
              else bif ((decide ((0 : Int) ≤ v0_5)) && (decide (v0_5 < (Nat.cast (List.length a0) : Int)))) then bif (s1_0.2.2.2.2.2.1 != (IntKind.wrap .i64 ((IntKind.wrap .i64 ((IntKind.wrap .i64 ((IntKind.wrap .i64 ((IntKind.wrap .i64 (v0_1 + (1 : Int))) + (1 : Int))) + (1 : Int))) + (1 : Int))) + (1 : Int)))) then some (u (-(1 : Int)))
                else bif ((decide ((0 : Int) ≤ v0_5)) && (decide (v0_5 < (Nat.cast (List.length a0) : Int)))) then bif (s1_0.2.2.2.2.2.2.1 != (IntKind.wrap .i64 ((IntKind.wrap .i64 ((IntKind.wrap .i64 ((IntKind.wrap .i64 ((IntKind.wrap .i64 ((IntKind.wrap .i64 (v0_1 + (1 : Int))) + (1 : Int))) + (1 : Int))) + (1 : Int))) + (1 : Int))) + (1 : Int)))) then some (u (-(1 : Int)))
                  else bif ((decide ((0 : Int) ≤ v0_5)) && (decide (v0_5 < (Nat.cast (List.length a0) : Int)))) then bif (s1_0.2.2.2.2.2.2.2.1 != (IntKind.wrap .i64 ((IntKind.wrap .i64 ((IntKind.wrap .i64 ((IntKind.wrap .i64 ((IntKind.wrap .i64 ((IntKind.wrap .i64 ((IntKind.wrap .i64 (v0_1 + (1 : Int))) + (1 : Int))) + (1 : Int))) + (1 : Int))) + (1 : Int))) + (1 : Int))) + (1 : Int)))) then some (u (-(1 : Int)))
                    else bif ((decide ((0 : Int) ≤ v0_5)) && (decide (v0_5 < (Nat.cast (List.length a0) : Int)))) then bif (s1_0.2.2.2.2.2.2.2.2.1 != (IntKind.wrap .i64 ((IntKind.wrap .i64 ((IntKind.wrap .i64 ((IntKind.wrap .i64 ((IntKind.wrap .i64 ((IntKind.wrap .i64 ((IntKind.wrap .i64 ((IntKind.wrap .i64 (v0_1 + (1 : Int))) + (1 : Int))) + (1 : Int))) + (1 : Int))) + (1 : Int))) + (1 : Int))) + (1 : Int))) + (1 : Int)))) then some (u (-(1 : Int)))
                      else bif ((decide ((0 : Int) ≤ v0_5)) && (decide (v0_5 < (Nat.cast (List.length a0) : Int)))) then bif (s1_0.2.2.2.2.2.2.2.2.2 != (IntKind.wrap .i64 ((IntKind.wrap .i64 ((IntKind.wrap .i64 ((IntKind.wrap .i64 ((IntKind.wrap .i64 ((IntKind.wrap .i64 ((IntKind.wrap .i64 ((IntKind.wrap .i64 ((IntKind.wrap .i64 (v0_1 + (1 : Int))) + (1 : Int))) + (1 : Int))) + (1 : Int))) + (1 : Int))) + (1 : Int))) + (1 : Int))) + (1 : Int))) + (1 : Int)))) then some (u (-(1 : Int)))
                        else gg (IntKind.wrap .i64 ((IntKind.wrap .i64 ((IntKind.wrap .i64 ((IntKind.wrap .i64 ((IntKind.wrap .i64 ((IntKind.wrap .i64 ((IntKind.wrap .i64 ((IntKind.wrap .i64 ((IntKind.wrap .i64 ((IntKind.wrap .i64 (v0_1 + (1 : Int))) + (1 : Int))) + (1 : Int))) + (1 : Int))) + (1 : Int))) + (1 : Int))) + (1 : Int))) + (1 : Int))) + (1 : Int))) + (1 : Int))) (IntKind.wrap .i64 (v0_5 + (1 : Int)))
                      else none
                    else none
                  else none
                else none
              else none
            else none
          else none
        else none
      else none
    else none
  else kk v0_1
def A29_0 {B : Type} (u : Int → B) (a0 : (List S10)) (a1 : Int) (w0_1 : Int) : Option B :=
  some (u w0_1)
def l29_0 (L : Nat) (a0 : (List S10)) (a1 : Int) : Nat → Int → Int → (Int → Option Int) → Option Int
  | 0, _, _, _ => none
  | n + 1, v0_1, v0_5, k => B29_0 (fun x => x) (fun v0_1 v0_5 => l29_0 L a0 a1 n v0_1 v0_5 k) k a0 a1 v0_1 v0_5
theorem h29_0 (L : Nat) (a0 : (List S10)) (a1 : Int) (k : St cxT.ty → Option (V cxT.ty)) (xk : Nat → St cxT.ty → Option (V cxT.ty)) (k' : Int → Option Int) (hk : ∀ (w0_1 : Int), k (X29_0 a0 a1 w0_1) = (k' w0_1).map n29) : ∀ (n : Nat) (v0_1 : Int) (v0_5 : Int), headF prog ev29 L f29 0 [1, 0, 1, 0, 0] (outK (outV prog f29) k xk) n (S29_0 a0 a1 v0_1 v0_5) = (l29_0 L a0 a1 n v0_1 v0_5 k').map n29
  | 0, _, _ => rfl
  | n + 1, v0_1, v0_5 => by
    rw [headF_round]
    have ih := h29_0 L a0 a1 k xk k' hk n
    refine .trans (b := B29_0 n29 (fun v0_1 v0_5 => (headF prog ev29 L f29 0 [1, 0, 1, 0, 0] (outK (outV prog f29) k xk) n) (S29_0 a0 a1 v0_1 v0_5)) (fun w0_1 => k (X29_0 a0 a1 w0_1)) a0 a1 v0_1 v0_5) (by kernel_rfl) ?_
    unfold l29_0 B29_0
    repeat' first | with_reducible refine cgB ?_ ?_ | with_reducible refine cgT fun _ => ?_ | with_reducible refine cgN fun _ => ?_ | exact ih _ _ | exact hk _ | exact rfl
def g29 (L : Nat) (a0 : (List S10)) (a1 : Int) : Option Int := G29 (fun x => x) (fun v0_1 v0_5 => l29_0 L a0 a1 L v0_1 v0_5 (fun w0_1 => A29_0 (fun x => x) a0 a1 w0_1)) a0 a1
theorem e29 (L : Nat) (a0 : (List S10)) (a1 : Int) : evF prog ev29 (loopN L) f29 (a29.enc (a0, a1)) = (g29 L a0 a1).map n29 := by
  have hin0 : ∀ (v0_1 : Int) (v0_5 : Int), headF prog ev29 L f29 0 [1, 0, 1, 0, 0] (outK (outV prog f29) (topK prog ev29 L f29 [1, 0, 1] (outV prog f29)).n (topK prog ev29 L f29 [1, 0, 1] (outV prog f29)).x) L (S29_0 a0 a1 v0_1 v0_5) = ((fun v0_1 v0_5 => l29_0 L a0 a1 L v0_1 v0_5 (fun w0_1 => A29_0 (fun x => x) a0 a1 w0_1)) v0_1 v0_5).map n29 := fun v0_1 v0_5 => h29_0 L a0 a1 _ _ _ (fun w0_1 => by refine .trans (b := A29_0 n29 a0 a1 w0_1) (by kernel_rfl) ?_; unfold A29_0; repeat' first | with_reducible refine cgB ?_ ?_ | with_reducible refine cgT fun _ => ?_ | with_reducible refine cgN fun _ => ?_ | exact rfl) L v0_1 v0_5
  refine .trans (b := G29 n29 (fun v0_1 v0_5 => headF prog ev29 L f29 0 [1, 0, 1, 0, 0] (outK (outV prog f29) (topK prog ev29 L f29 [1, 0, 1] (outV prog f29)).n (topK prog ev29 L f29 [1, 0, 1] (outV prog f29)).x) L (S29_0 a0 a1 v0_1 v0_5)) a0 a1) (by kernel_rfl) ?_
  unfold g29 G29
  repeat' first | with_reducible refine cgB ?_ ?_ | with_reducible refine cgT fun _ => ?_ | with_reducible refine cgN fun _ => ?_ | exact hin0 _ _ | exact rfl
def w29 (L : Nat) (x : ((List S10) × Int)) : Option Int := g29 L x.1 x.2
theorem s29 (m : Y29) (hm : ∀ (x : ((List S10) × Int)) t, m x = some t → ∃ L, w29 L x = some t) : Sat prog cxT 29 (c29 m) :=
  sat_t cxT_ok cxT_pok (by rfl) (fn := f29) rfl a29 n29 dd29 m ev29 kok_nil kwok_nil (w29) (fun L x => e29 L x.1 x.2) hm hs29
/-! loop.example/g00222/laws.heldCluster -/
def ev15 (m26 : Y26) (m27 : Y27) (m28 : Y28) (m29 : Y29) : Env cxT := { Kc := kcOf [(26, c26 m26), (27, c27 m27), (28, c28 m28), (29, c29 m29)], Kw := kwOf [], lv := fun i => [], xv := fun i => none }
def G15 {B : Type} (u : Int → B) (m26 : Y26) (m27 : Y27) (m28 : Y28) (m29 : Y29) (a0_0 : (List N10)) (a0_1 : (List M9)) (a0_2 : (List W2)) (a0_3 : (List S10)) (a1 : Int) : Option B :=
  tst (m26 (a0_0, a1)) (0 : Int) fun (q1 : Int) => bif (decide (q1 < (0 : Int))) then some (u (-(1 : Int)))
    else tst (m27 (a0_1, q1)) (0 : Int) fun (q2 : Int) => bif (decide (q2 < (0 : Int))) then some (u (-(1 : Int)))
      else tst (m28 (a0_2, q2)) (0 : Int) fun (q3 : Int) => bif (decide (q3 < (0 : Int))) then some (u (-(1 : Int)))
        else tst (m29 (a0_3, q3)) (0 : Int) fun (q4 : Int) => bif (decide (q4 < (0 : Int))) then some (u (-(1 : Int)))
          else some (u q4)
def g15 (m26 : Y26) (m27 : Y27) (m28 : Y28) (m29 : Y29) (L : Nat) (a0_0 : (List N10)) (a0_1 : (List M9)) (a0_2 : (List W2)) (a0_3 : (List S10)) (a1 : Int) : Option Int := G15 (fun x => x) m26 m27 m28 m29 a0_0 a0_1 a0_2 a0_3 a1
theorem e15 (m26 : Y26) (m27 : Y27) (m28 : Y28) (m29 : Y29) (L : Nat) (a0_0 : (List N10)) (a0_1 : (List M9)) (a0_2 : (List W2)) (a0_3 : (List S10)) (a1 : Int) : evF prog (ev15 m26 m27 m28 m29) (loopN L) f15 (a15.enc ((a0_0, a0_1, a0_2, a0_3), a1)) = (g15 m26 m27 m28 m29 L a0_0 a0_1 a0_2 a0_3 a1).map n15 := by
  refine .trans (b := G15 n15 m26 m27 m28 m29 a0_0 a0_1 a0_2 a0_3 a1) (by kernel_rfl) ?_
  unfold g15 G15
  repeat' first | with_reducible refine cgB ?_ ?_ | with_reducible refine cgT fun _ => ?_ | with_reducible refine cgN fun _ => ?_ | exact rfl
def w15 (m26 : Y26) (m27 : Y27) (m28 : Y28) (m29 : Y29) (L : Nat) (x : (C4 × Int)) : Option Int := g15 m26 m27 m28 m29 L x.1.1 x.1.2.1 x.1.2.2.1 x.1.2.2.2 x.2
theorem s15 (m26 : Y26) (m27 : Y27) (m28 : Y28) (m29 : Y29) (h26 : Sat prog cxT 26 (c26 m26)) (h27 : Sat prog cxT 27 (c27 m27)) (h28 : Sat prog cxT 28 (c28 m28)) (h29 : Sat prog cxT 29 (c29 m29)) (m : Y15) (hm : ∀ (x : (C4 × Int)) t, m x = some t → ∃ L, w15 m26 m27 m28 m29 L x = some t) : Sat prog cxT 15 (c15 m) :=
  sat_t cxT_ok cxT_pok (by rfl) (fn := f15) rfl a15 n15 dd15 m (ev15 m26 m27 m28 m29) (kok_cons h26 (kok_cons h27 (kok_cons h28 (kok_cons h29 kok_nil)))) kwok_nil (w15 m26 m27 m28 m29) (fun L x => e15 m26 m27 m28 m29 L x.1.1 x.1.2.1 x.1.2.2.1 x.1.2.2.2 x.2) hm hs15
/-! loop.example/g00222/laws.heldClusterResult -/
def ev8 (m15 : Y15) : Env cxT := { Kc := kcOf [(15, c15 m15)], Kw := kwOf [], lv := fun i => [], xv := fun i => none }
def G8 {B : Type} (u : Int → B) (m15 : Y15) (a0_0 : Int) (a0_1 : (List N10)) (a0_2 : (List M9)) (a0_3 : (List W2)) (a0_4 : (List S10)) (a1 : Int) : Option B :=
  tst (m15 ((a0_1, (a0_2, (a0_3, a0_4))), a1)) (0 : Int) fun (q1 : Int) => bif (decide (q1 < (0 : Int))) then some (u (-(1 : Int)))
    else some (u q1)
def g8 (m15 : Y15) (L : Nat) (a0_0 : Int) (a0_1 : (List N10)) (a0_2 : (List M9)) (a0_3 : (List W2)) (a0_4 : (List S10)) (a1 : Int) : Option Int := G8 (fun x => x) m15 a0_0 a0_1 a0_2 a0_3 a0_4 a1
theorem e8 (m15 : Y15) (L : Nat) (a0_0 : Int) (a0_1 : (List N10)) (a0_2 : (List M9)) (a0_3 : (List W2)) (a0_4 : (List S10)) (a1 : Int) : evF prog (ev8 m15) (loopN L) f8 (a8.enc ((a0_0, a0_1, a0_2, a0_3, a0_4), a1)) = (g8 m15 L a0_0 a0_1 a0_2 a0_3 a0_4 a1).map n8 := by
  refine .trans (b := G8 n8 m15 a0_0 a0_1 a0_2 a0_3 a0_4 a1) (by kernel_rfl) ?_
  unfold g8 G8
  repeat' first | with_reducible refine cgB ?_ ?_ | with_reducible refine cgT fun _ => ?_ | with_reducible refine cgN fun _ => ?_ | exact rfl
def w8 (m15 : Y15) (L : Nat) (x : (R5 × Int)) : Option Int := g8 m15 L x.1.1 x.1.2.1 x.1.2.2.1 x.1.2.2.2.1 x.1.2.2.2.2 x.2
theorem s8 (m15 : Y15) (h15 : Sat prog cxT 15 (c15 m15)) (m : Y8) (hm : ∀ (x : (R5 × Int)) t, m x = some t → ∃ L, w8 m15 L x = some t) : Sat prog cxT 8 (c8 m) :=
  sat_t cxT_ok cxT_pok (by rfl) (fn := f8) rfl a8 n8 dd8 m (ev8 m15) (kok_cons h15 kok_nil) kwok_nil (w8 m15) (fun L x => e8 m15 L x.1.1 x.1.2.1 x.1.2.2.1 x.1.2.2.2.1 x.1.2.2.2.2 x.2) hm hs8
/-! loop.example/g00222/laws.FnExactNewCluster -/
def ev3 (m4 : Y4) (m5 : Y5) (m6 : Y6) (m7 : Y7) (m8 : Y8) : Env cxT := { Kc := kcOf [(4, c4 m4), (5, c5 m5), (6, c6 m6), (8, c8 m8)], Kw := kwOf [(7, c7 m7)], lv := fun i => [], xv := fun i => none }
def G3 {B : Type} (u : Bool → B) (m4 : Y4) (m5 : Y5) (m6 : Y6) (m7 : Y7) (m8 : Y8) (a0 : Int) : Option B :=
  tst (m4 a0) ((0 : Int), [], [], [], []) fun (q1 : R5) => tst (m5 a0) ((0 : Int), [], [], [], []) fun (q2 : R5) => tst (m6 ((q2.1, (q2.2.1, (q2.2.2.1, (q2.2.2.2.1, q2.2.2.2.2)))), (q1.1, (q1.2.1, (q1.2.2.1, (q1.2.2.2.1, q1.2.2.2.2)))))) false fun (q3 : Bool) => bif (!q3) then some (u false)
        else tst (m7 ((q2.1, (q2.2.1, (q2.2.2.1, (q2.2.2.2.1, q2.2.2.2.2)))), (1 : Int))) ((0 : Int), (0 : Int), [], [], [], []) fun (q4 : (Int × Int × (List N10) × (List M9) × (List W2) × (List S10))) => tst (m8 ((q2.1, (q4.2.2.1, (q4.2.2.2.1, (q4.2.2.2.2.1, q4.2.2.2.2.2)))), (1 : Int))) (0 : Int) fun (q5 : Int) => bif (decide (q5 < (0 : Int))) then some (u false)
            else bif (q5 != q4.1) then some (u false)
            else tst (m5 a0) ((0 : Int), [], [], [], []) fun (q6 : R5) => tst (m6 ((q2.1, (q2.2.1, (q2.2.2.1, (q2.2.2.2.1, q2.2.2.2.2)))), (q1.1, (q1.2.1, (q1.2.2.1, (q1.2.2.2.1, q1.2.2.2.2)))))) false fun (q7 : Bool) => bif (!q3) then some (u false)
                else tst (m8 ((q2.1, (q4.2.2.1, (q4.2.2.2.1, (q4.2.2.2.2.1, q4.2.2.2.2.2)))), (1 : Int))) (0 : Int) fun (q8 : Int) => bif (decide (q5 < (0 : Int))) then some (u false)
                  else bif (q5 != q4.1) then some (u false)
                  else some (u true)
def g3 (m4 : Y4) (m5 : Y5) (m6 : Y6) (m7 : Y7) (m8 : Y8) (L : Nat) (a0 : Int) : Option Bool := G3 (fun x => x) m4 m5 m6 m7 m8 a0
theorem e3 (m4 : Y4) (m5 : Y5) (m6 : Y6) (m7 : Y7) (m8 : Y8) (L : Nat) (a0 : Int) : evFL prog (ev3 m4 m5 m6 m7 m8) (loopN L) f3 (a3.enc a0) = (g3 m4 m5 m6 m7 m8 L a0).map n3 := by
  refine .trans (b := G3 n3 m4 m5 m6 m7 m8 a0) (by kernel_rfl) ?_
  unfold g3 G3
  repeat' first | with_reducible refine cgB ?_ ?_ | with_reducible refine cgT fun _ => ?_ | with_reducible refine cgN fun _ => ?_ | exact rfl
def w3 (m4 : Y4) (m5 : Y5) (m6 : Y6) (m7 : Y7) (m8 : Y8) (L : Nat) (x : Int) : Option Bool := g3 m4 m5 m6 m7 m8 L x
theorem s3 (m4 : Y4) (m5 : Y5) (m6 : Y6) (m7 : Y7) (m8 : Y8) (h4 : Sat prog cxT 4 (c4 m4)) (h5 : Sat prog cxT 5 (c5 m5)) (h6 : Sat prog cxT 6 (c6 m6)) (h7 : SatW prog cxT 7 (c7 m7).nres (c7 m7).n (c7 m7).F) (h8 : Sat prog cxT 8 (c8 m8)) (m : Y3) (hm : ∀ (x : Int) t, m x = some t → ∃ L, w3 m4 m5 m6 m7 m8 L x = some t) : Sat prog cxT 3 (c3 m) :=
  sat_l cxT_ok cxT_pok (by rfl) (fn := f3) rfl a3 n3 dd3 m (ev3 m4 m5 m6 m7 m8) (kok_cons h4 (kok_cons h5 (kok_cons h6 (kok_cons h8 kok_nil)))) (kwok_cons h7 kwok_nil) (w3 m4 m5 m6 m7 m8) (fun L x => e3 m4 m5 m6 m7 m8 L x) hm hs3
end Go.Proofs.Try
