/- A part of the proof of FnExactTakeFrames: L1Fp, L1Pe, L1Pf. -/
import Derived.Test.YtggncacoajjjhaaL1Base
import Derived.Test.YtggncacoajjjhaaL1Pb
set_option maxHeartbeats 0
set_option linter.unusedVariables false
set_option linter.unusedSimpArgs false
namespace Go.Proofs.Try
open Go Go.VM Go.RowKit
/-! loop.example/g00222/spec.l1Source -/
def ev39 : Env cxT := { Kc := kcOf [], Kw := kwOf [], lv := fun i => [], xv := fun i => none }
theorem i39 (L : Nat) (a0 : (List Int)) : evFN prog ev39 (loopN L) f39 (a39.enc a0) =
  some (n39 (a0, (0 : Int))) := by kernel_rfl
def g39 (L : Nat) (a0 : (List Int)) : Option ((List Int) × Int) :=
  some (a0, (0 : Int))
theorem e39 (L : Nat) (a0 : (List Int)) : evFN prog ev39 (loopN L) f39 (a39.enc a0) = (g39 L a0).map n39 := by
  rw [i39]; simp only [g39, map_bif, map_tst, Option.map_some, Option.map_none]
theorem s39 (m : (List Int) → Option ((List Int) × Int)) (hm : ∀ (x : (List Int)) t, m x = some t → ∃ L, g39 L x = some t) : SatN prog cxT 39 (c39 m).F :=
  sat_n cxT_ok cxT_pok (by rfl) (fn := f39) rfl a39 n39 dd39 m ev39 kok_nil kwok_nil (fun L x => g39 L x) (fun L x => e39 L x) hm
/-! loop.example/g00222/spec.l1Next -/
def ev43 : Env cxT := { Kc := kcOf [], Kw := kwOf [], lv := fun i => [], xv := fun i => none }
theorem i43 (L : Nat) (a0_0 : (List Int)) (a0_1 : Int) (a1 : Int) : evFP prog ev43 (loopN L) f43 (a43.enc ((a0_0, a0_1), a1)) =
  bif (decide (a1 < (1 : Int))) then some (n43 ((0 : Int), a0_0, (Go.IntKind.wrap Go.IntKind.i64 (a0_1 + (1 : Int)))))
  else bif ((Nat.cast (List.length a0_0) : Int) == (0 : Int)) then bif (a1 == (0 : Int)) then none
    else some (n43 ((Int.tmod (Go.IntKind.wrap Go.IntKind.i64 ((Go.IntKind.wrap Go.IntKind.i64 ((Go.IntKind.wrap Go.IntKind.i64 (a0_1 + (1 : Int))) - (1 : Int))) * (7 : Int))) a1), a0_0, (Go.IntKind.wrap Go.IntKind.i64 (a0_1 + (1 : Int)))))
  else bif ((Nat.cast (List.length a0_0) : Int) == (0 : Int)) then none
  else bif ((decide ((0 : Int) ≤ (Int.tmod (Go.IntKind.wrap Go.IntKind.i64 ((Go.IntKind.wrap Go.IntKind.i64 (a0_1 + (1 : Int))) - (1 : Int))) (Nat.cast (List.length a0_0) : Int)))) && (decide ((Int.tmod (Go.IntKind.wrap Go.IntKind.i64 ((Go.IntKind.wrap Go.IntKind.i64 (a0_1 + (1 : Int))) - (1 : Int))) (Nat.cast (List.length a0_0) : Int)) < (Nat.cast (List.length a0_0) : Int)))) then bif ((Nat.cast (List.length a0_0) : Int) == (0 : Int)) then none
    else bif (decide (a1 > (200 : Int))) then bif ((Nat.cast (List.length a0_0) : Int) == (0 : Int)) then none
      else bif ((decide ((0 : Int) ≤ (Int.tmod (Go.IntKind.wrap Go.IntKind.i64 ((Go.IntKind.wrap Go.IntKind.i64 ((Go.IntKind.wrap Go.IntKind.i64 (a0_1 + (1 : Int))) - (1 : Int))) + (1 : Int))) (Nat.cast (List.length a0_0) : Int)))) && (decide ((Int.tmod (Go.IntKind.wrap Go.IntKind.i64 ((Go.IntKind.wrap Go.IntKind.i64 ((Go.IntKind.wrap Go.IntKind.i64 (a0_1 + (1 : Int))) - (1 : Int))) + (1 : Int))) (Nat.cast (List.length a0_0) : Int)) < (Nat.cast (List.length a0_0) : Int)))) then bif (a1 == (0 : Int)) then none
        else some (n43 ((Int.tmod (Go.IntKind.wrap Go.IntKind.i64 ((Go.IntKind.wrap Go.IntKind.i64 ((Go.IntKind.wrap Go.IntKind.i64 ((Go.IntKind.wrap Go.IntKind.i64 ((Go.IntKind.wrap Go.IntKind.i64 (List.getD a0_0 (Int.toNat (Int.tmod (Go.IntKind.wrap Go.IntKind.i64 ((Go.IntKind.wrap Go.IntKind.i64 (a0_1 + (1 : Int))) - (1 : Int))) (Nat.cast (List.length a0_0) : Int))) (0 : Int))) + (Go.IntKind.wrap Go.IntKind.i64 ((Go.IntKind.wrap Go.IntKind.i64 (Int.tdiv (Go.IntKind.wrap Go.IntKind.i64 ((Go.IntKind.wrap Go.IntKind.i64 (a0_1 + (1 : Int))) - (1 : Int))) (Nat.cast (List.length a0_0) : Int))) * (37 : Int))))) * (251 : Int))) + (Go.IntKind.wrap Go.IntKind.i64 ((Go.IntKind.wrap Go.IntKind.i64 (List.getD a0_0 (Int.toNat (Int.tmod (Go.IntKind.wrap Go.IntKind.i64 ((Go.IntKind.wrap Go.IntKind.i64 ((Go.IntKind.wrap Go.IntKind.i64 (a0_1 + (1 : Int))) - (1 : Int))) + (1 : Int))) (Nat.cast (List.length a0_0) : Int))) (0 : Int))) * (13 : Int))))) + (Go.IntKind.wrap Go.IntKind.i64 ((Go.IntKind.wrap Go.IntKind.i64 (a0_1 + (1 : Int))) - (1 : Int))))) a1), a0_0, (Go.IntKind.wrap Go.IntKind.i64 (a0_1 + (1 : Int)))))
      else none
    else bif (a1 == (0 : Int)) then none
    else some (n43 ((Int.tmod (Go.IntKind.wrap Go.IntKind.i64 ((Go.IntKind.wrap Go.IntKind.i64 (List.getD a0_0 (Int.toNat (Int.tmod (Go.IntKind.wrap Go.IntKind.i64 ((Go.IntKind.wrap Go.IntKind.i64 (a0_1 + (1 : Int))) - (1 : Int))) (Nat.cast (List.length a0_0) : Int))) (0 : Int))) + (Go.IntKind.wrap Go.IntKind.i64 ((Go.IntKind.wrap Go.IntKind.i64 (Int.tdiv (Go.IntKind.wrap Go.IntKind.i64 ((Go.IntKind.wrap Go.IntKind.i64 (a0_1 + (1 : Int))) - (1 : Int))) (Nat.cast (List.length a0_0) : Int))) * (37 : Int))))) a1), a0_0, (Go.IntKind.wrap Go.IntKind.i64 (a0_1 + (1 : Int)))))
  else none := by kernel_rfl
def g43 (L : Nat) (a0_0 : (List Int)) (a0_1 : Int) (a1 : Int) : Option (Int × (List Int) × Int) :=
  bif (decide (a1 < (1 : Int))) then some ((0 : Int), a0_0, (Go.IntKind.wrap Go.IntKind.i64 (a0_1 + (1 : Int))))
  else bif ((Nat.cast (List.length a0_0) : Int) == (0 : Int)) then bif (a1 == (0 : Int)) then none
    else some ((Int.tmod (Go.IntKind.wrap Go.IntKind.i64 ((Go.IntKind.wrap Go.IntKind.i64 ((Go.IntKind.wrap Go.IntKind.i64 (a0_1 + (1 : Int))) - (1 : Int))) * (7 : Int))) a1), a0_0, (Go.IntKind.wrap Go.IntKind.i64 (a0_1 + (1 : Int))))
  else bif ((Nat.cast (List.length a0_0) : Int) == (0 : Int)) then none
  else bif ((decide ((0 : Int) ≤ (Int.tmod (Go.IntKind.wrap Go.IntKind.i64 ((Go.IntKind.wrap Go.IntKind.i64 (a0_1 + (1 : Int))) - (1 : Int))) (Nat.cast (List.length a0_0) : Int)))) && (decide ((Int.tmod (Go.IntKind.wrap Go.IntKind.i64 ((Go.IntKind.wrap Go.IntKind.i64 (a0_1 + (1 : Int))) - (1 : Int))) (Nat.cast (List.length a0_0) : Int)) < (Nat.cast (List.length a0_0) : Int)))) then bif ((Nat.cast (List.length a0_0) : Int) == (0 : Int)) then none
    else bif (decide (a1 > (200 : Int))) then bif ((Nat.cast (List.length a0_0) : Int) == (0 : Int)) then none
      else bif ((decide ((0 : Int) ≤ (Int.tmod (Go.IntKind.wrap Go.IntKind.i64 ((Go.IntKind.wrap Go.IntKind.i64 ((Go.IntKind.wrap Go.IntKind.i64 (a0_1 + (1 : Int))) - (1 : Int))) + (1 : Int))) (Nat.cast (List.length a0_0) : Int)))) && (decide ((Int.tmod (Go.IntKind.wrap Go.IntKind.i64 ((Go.IntKind.wrap Go.IntKind.i64 ((Go.IntKind.wrap Go.IntKind.i64 (a0_1 + (1 : Int))) - (1 : Int))) + (1 : Int))) (Nat.cast (List.length a0_0) : Int)) < (Nat.cast (List.length a0_0) : Int)))) then bif (a1 == (0 : Int)) then none
        else some ((Int.tmod (Go.IntKind.wrap Go.IntKind.i64 ((Go.IntKind.wrap Go.IntKind.i64 ((Go.IntKind.wrap Go.IntKind.i64 ((Go.IntKind.wrap Go.IntKind.i64 ((Go.IntKind.wrap Go.IntKind.i64 (List.getD a0_0 (Int.toNat (Int.tmod (Go.IntKind.wrap Go.IntKind.i64 ((Go.IntKind.wrap Go.IntKind.i64 (a0_1 + (1 : Int))) - (1 : Int))) (Nat.cast (List.length a0_0) : Int))) (0 : Int))) + (Go.IntKind.wrap Go.IntKind.i64 ((Go.IntKind.wrap Go.IntKind.i64 (Int.tdiv (Go.IntKind.wrap Go.IntKind.i64 ((Go.IntKind.wrap Go.IntKind.i64 (a0_1 + (1 : Int))) - (1 : Int))) (Nat.cast (List.length a0_0) : Int))) * (37 : Int))))) * (251 : Int))) + (Go.IntKind.wrap Go.IntKind.i64 ((Go.IntKind.wrap Go.IntKind.i64 (List.getD a0_0 (Int.toNat (Int.tmod (Go.IntKind.wrap Go.IntKind.i64 ((Go.IntKind.wrap Go.IntKind.i64 ((Go.IntKind.wrap Go.IntKind.i64 (a0_1 + (1 : Int))) - (1 : Int))) + (1 : Int))) (Nat.cast (List.length a0_0) : Int))) (0 : Int))) * (13 : Int))))) + (Go.IntKind.wrap Go.IntKind.i64 ((Go.IntKind.wrap Go.IntKind.i64 (a0_1 + (1 : Int))) - (1 : Int))))) a1), a0_0, (Go.IntKind.wrap Go.IntKind.i64 (a0_1 + (1 : Int))))
      else none
    else bif (a1 == (0 : Int)) then none
    else some ((Int.tmod (Go.IntKind.wrap Go.IntKind.i64 ((Go.IntKind.wrap Go.IntKind.i64 (List.getD a0_0 (Int.toNat (Int.tmod (Go.IntKind.wrap Go.IntKind.i64 ((Go.IntKind.wrap Go.IntKind.i64 (a0_1 + (1 : Int))) - (1 : Int))) (Nat.cast (List.length a0_0) : Int))) (0 : Int))) + (Go.IntKind.wrap Go.IntKind.i64 ((Go.IntKind.wrap Go.IntKind.i64 (Int.tdiv (Go.IntKind.wrap Go.IntKind.i64 ((Go.IntKind.wrap Go.IntKind.i64 (a0_1 + (1 : Int))) - (1 : Int))) (Nat.cast (List.length a0_0) : Int))) * (37 : Int))))) a1), a0_0, (Go.IntKind.wrap Go.IntKind.i64 (a0_1 + (1 : Int))))
  else none
theorem e43 (L : Nat) (a0_0 : (List Int)) (a0_1 : Int) (a1 : Int) : evFP prog ev43 (loopN L) f43 (a43.enc ((a0_0, a0_1), a1)) = (g43 L a0_0 a0_1 a1).map n43 := by
  rw [i43]; simp only [g43, map_bif, map_tst, Option.map_some, Option.map_none]
theorem s43 (m : (((List Int) × Int) × Int) → Option (Int × (List Int) × Int)) (hm : ∀ (x : (((List Int) × Int) × Int)) t, m x = some t → ∃ L, g43 L x.1.1 x.1.2 x.2 = some t) : SatP prog cxT 43 (c43 m).nres (c43 m).F :=
  sat_p cxT_ok cxT_pok (by rfl) (fn := f43) rfl rfl a43 n43 dd43 m ev43 kok_nil kwok_nil (fun L x => g43 L x.1.1 x.1.2 x.2) (fun L x => e43 L x.1.1 x.1.2 x.2) hm
/-! loop.example/g00222/spec.l1Pick -/
def ev40 (m43 : (((List Int) × Int) × Int) → Option (Int × (List Int) × Int)) : Env cxT := { Kc := kcOf [], Kw := kwOf [(43, c43 m43)], lv := fun i => [], xv := fun i => none }
theorem i40 (m43 : (((List Int) × Int) × Int) → Option (Int × (List Int) × Int)) (L : Nat) (a0_0 : (List Int)) (a0_1 : Int) (a1 : (List Int)) : evFP prog (ev40 m43) (loopN L) f40 (a40.enc ((a0_0, a0_1), a1)) =
  tst (m43 ((a0_0, a0_1), (Nat.cast (List.length a1) : Int))) ((0 : Int), [], (0 : Int)) fun (q1 : (Int × (List Int) × Int)) => bif ((decide ((0 : Int) ≤ q1.1)) && (decide (q1.1 < (Nat.cast (List.length a1) : Int)))) then some (n40 ((List.getD a1 (Int.toNat q1.1) (0 : Int)), q1.2.1, q1.2.2))
    else none := by kernel_rfl
def g40 (m43 : (((List Int) × Int) × Int) → Option (Int × (List Int) × Int)) (L : Nat) (a0_0 : (List Int)) (a0_1 : Int) (a1 : (List Int)) : Option (Int × (List Int) × Int) :=
  tst (m43 ((a0_0, a0_1), (Nat.cast (List.length a1) : Int))) ((0 : Int), [], (0 : Int)) fun (q1 : (Int × (List Int) × Int)) => bif ((decide ((0 : Int) ≤ q1.1)) && (decide (q1.1 < (Nat.cast (List.length a1) : Int)))) then some ((List.getD a1 (Int.toNat q1.1) (0 : Int)), q1.2.1, q1.2.2)
    else none
theorem e40 (m43 : (((List Int) × Int) × Int) → Option (Int × (List Int) × Int)) (L : Nat) (a0_0 : (List Int)) (a0_1 : Int) (a1 : (List Int)) : evFP prog (ev40 m43) (loopN L) f40 (a40.enc ((a0_0, a0_1), a1)) = (g40 m43 L a0_0 a0_1 a1).map n40 := by
  rw [i40]; simp only [g40, map_bif, map_tst, Option.map_some, Option.map_none]
theorem s40 (m43 : (((List Int) × Int) × Int) → Option (Int × (List Int) × Int)) (h43 : SatP prog cxT 43 (c43 m43).nres (c43 m43).F) (m : (((List Int) × Int) × (List Int)) → Option (Int × (List Int) × Int)) (hm : ∀ (x : (((List Int) × Int) × (List Int))) t, m x = some t → ∃ L, g40 m43 L x.1.1 x.1.2 x.2 = some t) : SatP prog cxT 40 (c40 m).nres (c40 m).F :=
  sat_p cxT_ok cxT_pok (by rfl) (fn := f40) rfl rfl a40 n40 dd40 m (ev40 m43) kok_nil (kwok_cons h43 kwok_nil) (fun L x => g40 m43 L x.1.1 x.1.2 x.2) (fun L x => e40 m43 L x.1.1 x.1.2 x.2) hm
/-! loop.example/g00222/spec.l1Some -/
def ev49 (m43 : (((List Int) × Int) × Int) → Option (Int × (List Int) × Int)) (m40 : (((List Int) × Int) × (List Int)) → Option (Int × (List Int) × Int)) : Env cxT := { Kc := kcOf [], Kw := kwOf [(43, c43 m43), (40, c40 m40)], lv := fun i => if i = 0 then [(0, [some 5, none]), (1, []), (5, [some 5])] else [], xv := fun i => if i = 0 then some [(0, [some 5, none]), (5, [some 5])] else none }
def S49_0 (a0_0 : (List Int)) (a0_1 : Int) (a1 : Int) (v0_0_0 : (List Int)) (v0_0_1 : Int) (v0_1 : Int) (v0_5 : (List Int)) : St cxT.ty := { slots := [(.inr (.inr { kind := 0, nm := 0, cells := [(ls { own := 0, nm := 0, e := 5, o := false, xs := v0_0_0 }), (lv (.int .i64 v0_0_1))], s := { own := 0, nm := 0, e := 0, o := false, xs := ([] : List (PUnit)) }, i := 0, off := 0 })), (.inl (.inl (lv (.int .i64 v0_1)))), junk, junk, junk, (.inl (.inl (ls { own := 1, nm := 320, e := 5, o := true, xs := v0_5 })))] ++ List.replicate 17 junk, D := [], F := [], ctr := 1, lo := 1 }
def X49_0 (a0_0 : (List Int)) (a0_1 : Int) (a1 : Int) (w0_0_0 : (List Int)) (w0_0_1 : Int) (w0_5 : (List Int)) : St cxT.ty := { slots := [(.inr (.inr { kind := 0, nm := 0, cells := [(ls { own := 0, nm := 0, e := 5, o := false, xs := w0_0_0 }), (lv (.int .i64 w0_0_1))], s := { own := 0, nm := 0, e := 0, o := false, xs := ([] : List (PUnit)) }, i := 0, off := 0 })), junk, junk, junk, junk, (.inl (.inl (ls { own := 1, nm := 320, e := 5, o := true, xs := w0_5 })))] ++ List.replicate 17 junk, D := [], F := [], ctr := 1, lo := 1 }
theorem i49 (m43 : (((List Int) × Int) × Int) → Option (Int × (List Int) × Int)) (m40 : (((List Int) × Int) × (List Int)) → Option (Int × (List Int) × Int)) (L : Nat) (a0_0 : (List Int)) (a0_1 : Int) (a1 : Int) : evFP prog (ev49 m43 m40) (loopN L) f49 (a49.enc ((a0_0, a0_1), a1)) =
  headF prog (ev49 m43 m40) L f49 0 [1, 1, 0, 0, 0] (outK (outP prog f49) (topK prog (ev49 m43 m40) L f49 [1, 1, 0] (outP prog f49)).n (topK prog (ev49 m43 m40) L f49 [1, 1, 0] (outP prog f49)).x) L (S49_0 a0_0 a0_1 a1 a0_0 a0_1 a1 ([] : List (Int))) := by kernel_rfl
theorem r49_0 (m43 : (((List Int) × Int) × Int) → Option (Int × (List Int) × Int)) (m40 : (((List Int) × Int) × (List Int)) → Option (Int × (List Int) × Int)) (L : Nat) (a0_0 : (List Int)) (a0_1 : Int) (a1 : Int) (k : St cxT.ty → Option (List (A cxT.ty))) (xk : Nat → St cxT.ty → Option (List (A cxT.ty))) (g : St cxT.ty → Option (List (A cxT.ty))) (v0_0_0 : (List Int)) (v0_0_1 : Int) (v0_1 : Int) (v0_5 : (List Int)) : roundF prog (ev49 m43 m40) L f49 0 [1, 1, 0, 0, 0] (outK (outP prog f49) k xk) g (S49_0 a0_0 a0_1 a1 v0_0_0 v0_0_1 v0_1 v0_5) =
  bif (decide (v0_1 > (0 : Int))) then tst (m43 ((v0_0_0, v0_0_1), (256 : Int))) ((0 : Int), [], (0 : Int)) fun (q2 : (Int × (List Int) × Int)) => tst (m43 ((q2.2.1, q2.2.2), (256 : Int))) ((0 : Int), [], (0 : Int)) fun (q3 : (Int × (List Int) × Int)) => tst (m40 ((q3.2.1, q3.2.2), (List.cons q2.1 (List.cons q3.1 (List.cons (0 : Int) (List.cons (255 : Int) ([] : List (Int)))))))) ((0 : Int), [], (0 : Int)) fun (q4 : (Int × (List Int) × Int)) => bif (decide (((List.length v0_5) + (List.length (List.cons (Go.IntKind.wrap Go.IntKind.u8 q4.1) ([] : List (Int))))) ≤ (1000000000 : Nat))) then g (S49_0 a0_0 a0_1 a1 q4.2.1 q4.2.2 (Go.IntKind.wrap Go.IntKind.i64 (v0_1 - (1 : Int))) (v0_5 ++ (List.cons (Go.IntKind.wrap Go.IntKind.u8 q4.1) ([] : List (Int)))))
          else none
  else k (X49_0 a0_0 a0_1 a1 v0_0_0 v0_0_1 v0_5) := by kernel_rfl
theorem t49_0 (m43 : (((List Int) × Int) × Int) → Option (Int × (List Int) × Int)) (m40 : (((List Int) × Int) × (List Int)) → Option (Int × (List Int) × Int)) (L : Nat) (a0_0 : (List Int)) (a0_1 : Int) (a1 : Int) (w0_0_0 : (List Int)) (w0_0_1 : Int) (w0_5 : (List Int)) : (topK prog (ev49 m43 m40) L f49 [1, 1, 0] (outP prog f49)).n (X49_0 a0_0 a0_1 a1 w0_0_0 w0_0_1 w0_5) =
  some (n49 (w0_5, w0_0_0, w0_0_1)) := by kernel_rfl
def l49_0 (m43 : (((List Int) × Int) × Int) → Option (Int × (List Int) × Int)) (m40 : (((List Int) × Int) × (List Int)) → Option (Int × (List Int) × Int)) (L : Nat) (a0_0 : (List Int)) (a0_1 : Int) (a1 : Int) : Nat → (List Int) → Int → Int → (List Int) → ((List Int) → Int → (List Int) → Option ((List Int) × (List Int) × Int)) → Option ((List Int) × (List Int) × Int)
  | 0, _, _, _, _, _ => none
  | n + 1, v0_0_0, v0_0_1, v0_1, v0_5, k =>
    bif (decide (v0_1 > (0 : Int))) then tst (m43 ((v0_0_0, v0_0_1), (256 : Int))) ((0 : Int), [], (0 : Int)) fun (q3 : (Int × (List Int) × Int)) => tst (m43 ((q3.2.1, q3.2.2), (256 : Int))) ((0 : Int), [], (0 : Int)) fun (q4 : (Int × (List Int) × Int)) => tst (m40 ((q4.2.1, q4.2.2), (List.cons q3.1 (List.cons q4.1 (List.cons (0 : Int) (List.cons (255 : Int) ([] : List (Int)))))))) ((0 : Int), [], (0 : Int)) fun (q5 : (Int × (List Int) × Int)) => bif (decide (((List.length v0_5) + (List.length (List.cons (Go.IntKind.wrap Go.IntKind.u8 q5.1) ([] : List (Int))))) ≤ (1000000000 : Nat))) then l49_0 m43 m40 L a0_0 a0_1 a1 n q5.2.1 q5.2.2 (Go.IntKind.wrap Go.IntKind.i64 (v0_1 - (1 : Int))) (v0_5 ++ (List.cons (Go.IntKind.wrap Go.IntKind.u8 q5.1) ([] : List (Int)))) k
            else none
    else k v0_0_0 v0_0_1 v0_5
theorem h49_0 (m43 : (((List Int) × Int) × Int) → Option (Int × (List Int) × Int)) (m40 : (((List Int) × Int) × (List Int)) → Option (Int × (List Int) × Int)) (L : Nat) (a0_0 : (List Int)) (a0_1 : Int) (a1 : Int) (k : St cxT.ty → Option (List (A cxT.ty))) (xk : Nat → St cxT.ty → Option (List (A cxT.ty))) (k' : (List Int) → Int → (List Int) → Option ((List Int) × (List Int) × Int)) (hk : ∀ (w0_0_0 : (List Int)) (w0_0_1 : Int) (w0_5 : (List Int)), k (X49_0 a0_0 a0_1 a1 w0_0_0 w0_0_1 w0_5) = (k' w0_0_0 w0_0_1 w0_5).map n49) : ∀ (n : Nat) (v0_0_0 : (List Int)) (v0_0_1 : Int) (v0_1 : Int) (v0_5 : (List Int)), headF prog (ev49 m43 m40) L f49 0 [1, 1, 0, 0, 0] (outK (outP prog f49) k xk) n (S49_0 a0_0 a0_1 a1 v0_0_0 v0_0_1 v0_1 v0_5) = (l49_0 m43 m40 L a0_0 a0_1 a1 n v0_0_0 v0_0_1 v0_1 v0_5 k').map n49
  | 0, _, _, _, _ => rfl
  | n + 1, v0_0_0, v0_0_1, v0_1, v0_5 => by
    rw [headF_round, r49_0]
    have ih := h49_0 m43 m40 L a0_0 a0_1 a1 k xk k' hk n
    simp only [l49_0, map_bif, map_tst, Option.map_some, Option.map_none, ih, hk]
def g49 (m43 : (((List Int) × Int) × Int) → Option (Int × (List Int) × Int)) (m40 : (((List Int) × Int) × (List Int)) → Option (Int × (List Int) × Int)) (L : Nat) (a0_0 : (List Int)) (a0_1 : Int) (a1 : Int) : Option ((List Int) × (List Int) × Int) :=
  l49_0 m43 m40 L a0_0 a0_1 a1 L a0_0 a0_1 a1 ([] : List (Int)) (fun (w0_0_0 : (List Int)) (w0_0_1 : Int) (w0_5 : (List Int)) => some (w0_5, w0_0_0, w0_0_1))
theorem e49 (m43 : (((List Int) × Int) × Int) → Option (Int × (List Int) × Int)) (m40 : (((List Int) × Int) × (List Int)) → Option (Int × (List Int) × Int)) (L : Nat) (a0_0 : (List Int)) (a0_1 : Int) (a1 : Int) : evFP prog (ev49 m43 m40) (loopN L) f49 (a49.enc ((a0_0, a0_1), a1)) = (g49 m43 m40 L a0_0 a0_1 a1).map n49 := by
  let K'0 : (List Int) → Int → (List Int) → Option ((List Int) × (List Int) × Int) := (fun (w0_0_0 : (List Int)) (w0_0_1 : Int) (w0_5 : (List Int)) => some (w0_5, w0_0_0, w0_0_1))
  have hin0 : ∀ (v0_0_0 : (List Int)) (v0_0_1 : Int) (v0_1 : Int) (v0_5 : (List Int)), headF prog (ev49 m43 m40) L f49 0 [1, 1, 0, 0, 0] (outK (outP prog f49) (topK prog (ev49 m43 m40) L f49 [1, 1, 0] (outP prog f49)).n (topK prog (ev49 m43 m40) L f49 [1, 1, 0] (outP prog f49)).x) L (S49_0 a0_0 a0_1 a1 v0_0_0 v0_0_1 v0_1 v0_5) = (l49_0 m43 m40 L a0_0 a0_1 a1 L v0_0_0 v0_0_1 v0_1 v0_5 K'0).map n49 := fun v0_0_0 v0_0_1 v0_1 v0_5 => h49_0 m43 m40 L a0_0 a0_1 a1 _ _ K'0 (fun w0_0_0 w0_0_1 w0_5 => by rw [t49_0]; simp only [K'0, map_bif, map_tst, Option.map_some, Option.map_none]) L v0_0_0 v0_0_1 v0_1 v0_5
  rw [i49]; simp only [g49, map_bif, map_tst, Option.map_some, Option.map_none, hin0, K'0]
theorem s49 (m43 : (((List Int) × Int) × Int) → Option (Int × (List Int) × Int)) (m40 : (((List Int) × Int) × (List Int)) → Option (Int × (List Int) × Int)) (h43 : SatP prog cxT 43 (c43 m43).nres (c43 m43).F) (h40 : SatP prog cxT 40 (c40 m40).nres (c40 m40).F) (m : (((List Int) × Int) × Int) → Option ((List Int) × (List Int) × Int)) (hm : ∀ (x : (((List Int) × Int) × Int)) t, m x = some t → ∃ L, g49 m43 m40 L x.1.1 x.1.2 x.2 = some t) : SatP prog cxT 49 (c49 m).nres (c49 m).F :=
  sat_p cxT_ok cxT_pok (by rfl) (fn := f49) rfl rfl a49 n49 dd49 m (ev49 m43 m40) kok_nil (kwok_cons h43 (kwok_cons h40 kwok_nil)) (fun L x => g49 m43 m40 L x.1.1 x.1.2 x.2) (fun L x => e49 m43 m40 L x.1.1 x.1.2 x.2) hm
/-! loop.example/g00222/laws.lwBig -/
def ev12 : Env cxT := { Kc := kcOf [], Kw := kwOf [], lv := fun i => [], xv := fun i => none }
theorem i12 (L : Nat) (a0 : (List Int)) : evF prog ev12 (loopN L) f12 (a12.enc a0) =
  some (n12 (decide ((Nat.cast (List.length a0) : Int) > (1048576 : Int)))) := by kernel_rfl
def g12 (L : Nat) (a0 : (List Int)) : Option Bool :=
  some (decide ((Nat.cast (List.length a0) : Int) > (1048576 : Int)))
theorem e12 (L : Nat) (a0 : (List Int)) : evF prog ev12 (loopN L) f12 (a12.enc a0) = (g12 L a0).map n12 := by
  rw [i12]; simp only [g12, map_bif, map_tst, Option.map_some, Option.map_none]
theorem s12 (m : (List Int) → Option Bool) (hm : ∀ (x : (List Int)) t, m x = some t → ∃ L, g12 L x = some t) : Sat prog cxT 12 (c12 m) :=
  sat_t cxT_ok cxT_pok (by rfl) (fn := f12) rfl a12 n12 dd12 m ev12 kok_nil kwok_nil (fun L x => g12 L x) (fun L x => e12 L x) hm hs12
/-! loop.example/g00222/spec.DrawPutNumber -/
def ev13 (m39 : (List Int) → Option ((List Int) × Int)) (m40 : (((List Int) × Int) × (List Int)) → Option (Int × (List Int) × Int)) (m42 : (Int × Int) → Option Int) (m41 : (Int × Int) → Option Int) (m43 : (((List Int) × Int) × Int) → Option (Int × (List Int) × Int)) : Env cxT := { Kc := kcOf [(42, c42 m42), (41, c41 m41)], Kw := kwOf [(39, c39 m39), (40, c40 m40), (43, c43 m43)], lv := fun i => [], xv := fun i => none }
theorem i13 (m39 : (List Int) → Option ((List Int) × Int)) (m40 : (((List Int) × Int) × (List Int)) → Option (Int × (List Int) × Int)) (m42 : (Int × Int) → Option Int) (m41 : (Int × Int) → Option Int) (m43 : (((List Int) × Int) × Int) → Option (Int × (List Int) × Int)) (L : Nat) (a0 : (List Int)) : evF prog (ev13 m39 m40 m42 m41 m43) (loopN L) f13 (a13.enc a0) =
  tst (m39 a0) ([], (0 : Int)) fun (q1 : ((List Int) × Int)) => tst (m40 ((q1.1, q1.2), (List.cons (1 : Int) (List.cons (2 : Int) (List.cons (4 : Int) (List.cons (6 : Int) (List.cons (2 : Int) (List.cons (0 : Int) (List.cons (7 : Int) ([] : List (Int))))))))))) ((0 : Int), [], (0 : Int)) fun (q2 : (Int × (List Int) × Int)) => tst (m42 ((6 : Int), q2.1)) (0 : Int) fun (q3 : Int) => tst (m41 ((1 : Int), q3)) (0 : Int) fun (q4 : Int) => bif (decide ((Go.IntKind.wrap Go.IntKind.u64 (Go.IntKind.wrap Go.IntKind.i64 ((8 : Int) * q4))) < (0 : Int))) then none
          else tst (m43 ((q2.2.1, q2.2.2), (200 : Int))) ((0 : Int), [], (0 : Int)) fun (q5 : (Int × (List Int) × Int)) => tst (m43 ((q5.2.1, q5.2.2), (60000 : Int))) ((0 : Int), [], (0 : Int)) fun (q6 : (Int × (List Int) × Int)) => tst (m40 ((q6.2.1, q6.2.2), (List.cons q5.1 (List.cons q6.1 (List.cons (Go.IntKind.wrap Go.IntKind.i64 ((Go.IntKind.wrap Go.IntKind.i64 ((1 : Int) * ((2 : Int) ^ (min (Int.toNat (Go.IntKind.wrap Go.IntKind.u64 (Go.IntKind.wrap Go.IntKind.i64 ((8 : Int) * q4)))) (Go.IntKind.bits Go.IntKind.i64))))) - (1 : Int))) (List.cons (Go.IntKind.wrap Go.IntKind.i64 ((1 : Int) * ((2 : Int) ^ (min (Int.toNat (Go.IntKind.wrap Go.IntKind.u64 (Go.IntKind.wrap Go.IntKind.i64 ((8 : Int) * q4)))) (Go.IntKind.bits Go.IntKind.i64))))) (List.cons (0 : Int) (List.cons (-(1 : Int)) (List.cons (4611686018427387904 : Int) ([] : List (Int))))))))))) ((0 : Int), [], (0 : Int)) fun (q7 : (Int × (List Int) × Int)) => some (n13 (q7.1, q2.1)) := by kernel_rfl
def g13 (m39 : (List Int) → Option ((List Int) × Int)) (m40 : (((List Int) × Int) × (List Int)) → Option (Int × (List Int) × Int)) (m42 : (Int × Int) → Option Int) (m41 : (Int × Int) → Option Int) (m43 : (((List Int) × Int) × Int) → Option (Int × (List Int) × Int)) (L : Nat) (a0 : (List Int)) : Option (Int × Int) :=
  tst (m39 a0) ([], (0 : Int)) fun (q1 : ((List Int) × Int)) => tst (m40 ((q1.1, q1.2), (List.cons (1 : Int) (List.cons (2 : Int) (List.cons (4 : Int) (List.cons (6 : Int) (List.cons (2 : Int) (List.cons (0 : Int) (List.cons (7 : Int) ([] : List (Int))))))))))) ((0 : Int), [], (0 : Int)) fun (q2 : (Int × (List Int) × Int)) => tst (m42 ((6 : Int), q2.1)) (0 : Int) fun (q3 : Int) => tst (m41 ((1 : Int), q3)) (0 : Int) fun (q4 : Int) => bif (decide ((Go.IntKind.wrap Go.IntKind.u64 (Go.IntKind.wrap Go.IntKind.i64 ((8 : Int) * q4))) < (0 : Int))) then none
          else tst (m43 ((q2.2.1, q2.2.2), (200 : Int))) ((0 : Int), [], (0 : Int)) fun (q5 : (Int × (List Int) × Int)) => tst (m43 ((q5.2.1, q5.2.2), (60000 : Int))) ((0 : Int), [], (0 : Int)) fun (q6 : (Int × (List Int) × Int)) => tst (m40 ((q6.2.1, q6.2.2), (List.cons q5.1 (List.cons q6.1 (List.cons (Go.IntKind.wrap Go.IntKind.i64 ((Go.IntKind.wrap Go.IntKind.i64 ((1 : Int) * ((2 : Int) ^ (min (Int.toNat (Go.IntKind.wrap Go.IntKind.u64 (Go.IntKind.wrap Go.IntKind.i64 ((8 : Int) * q4)))) (Go.IntKind.bits Go.IntKind.i64))))) - (1 : Int))) (List.cons (Go.IntKind.wrap Go.IntKind.i64 ((1 : Int) * ((2 : Int) ^ (min (Int.toNat (Go.IntKind.wrap Go.IntKind.u64 (Go.IntKind.wrap Go.IntKind.i64 ((8 : Int) * q4)))) (Go.IntKind.bits Go.IntKind.i64))))) (List.cons (0 : Int) (List.cons (-(1 : Int)) (List.cons (4611686018427387904 : Int) ([] : List (Int))))))))))) ((0 : Int), [], (0 : Int)) fun (q7 : (Int × (List Int) × Int)) => some (q7.1, q2.1)
theorem e13 (m39 : (List Int) → Option ((List Int) × Int)) (m40 : (((List Int) × Int) × (List Int)) → Option (Int × (List Int) × Int)) (m42 : (Int × Int) → Option Int) (m41 : (Int × Int) → Option Int) (m43 : (((List Int) × Int) × Int) → Option (Int × (List Int) × Int)) (L : Nat) (a0 : (List Int)) : evF prog (ev13 m39 m40 m42 m41 m43) (loopN L) f13 (a13.enc a0) = (g13 m39 m40 m42 m41 m43 L a0).map n13 := by
  rw [i13]; simp only [g13, map_bif, map_tst, Option.map_some, Option.map_none]
theorem s13 (m39 : (List Int) → Option ((List Int) × Int)) (m40 : (((List Int) × Int) × (List Int)) → Option (Int × (List Int) × Int)) (m42 : (Int × Int) → Option Int) (m41 : (Int × Int) → Option Int) (m43 : (((List Int) × Int) × Int) → Option (Int × (List Int) × Int)) (h39 : SatN prog cxT 39 (c39 m39).F) (h40 : SatP prog cxT 40 (c40 m40).nres (c40 m40).F) (h42 : Sat prog cxT 42 (c42 m42)) (h41 : Sat prog cxT 41 (c41 m41)) (h43 : SatP prog cxT 43 (c43 m43).nres (c43 m43).F) (m : (List Int) → Option (Int × Int)) (hm : ∀ (x : (List Int)) t, m x = some t → ∃ L, g13 m39 m40 m42 m41 m43 L x = some t) : Sat prog cxT 13 (c13 m) :=
  sat_t cxT_ok cxT_pok (by rfl) (fn := f13) rfl a13 n13 dd13 m (ev13 m39 m40 m42 m41 m43) (kok_cons h42 (kok_cons h41 kok_nil)) (kwok_cons h39 (kwok_cons h40 (kwok_cons h43 kwok_nil))) (fun L x => g13 m39 m40 m42 m41 m43 L x) (fun L x => e13 m39 m40 m42 m41 m43 L x) hm hs13
/-! loop.example/g00222/spec.DrawSumWords -/
def ev17 (m39 : (List Int) → Option ((List Int) × Int)) (m43 : (((List Int) × Int) × Int) → Option (Int × (List Int) × Int)) (m49 : (((List Int) × Int) × Int) → Option ((List Int) × (List Int) × Int)) : Env cxT := { Kc := kcOf [], Kw := kwOf [(39, c39 m39), (43, c43 m43), (49, c49 m49)], lv := fun i => [], xv := fun i => none }
theorem i17 (m39 : (List Int) → Option ((List Int) × Int)) (m43 : (((List Int) × Int) × Int) → Option (Int × (List Int) × Int)) (m49 : (((List Int) × Int) × Int) → Option ((List Int) × (List Int) × Int)) (L : Nat) (a0 : (List Int)) : evF prog (ev17 m39 m43 m49) (loopN L) f17 (a17.enc a0) =
  tst (m39 a0) ([], (0 : Int)) fun (q1 : ((List Int) × Int)) => tst (m43 ((q1.1, q1.2), (30 : Int))) ((0 : Int), [], (0 : Int)) fun (q2 : (Int × (List Int) × Int)) => tst (m49 ((q2.2.1, q2.2.2), q2.1)) ([], [], (0 : Int)) fun (q3 : ((List Int) × (List Int) × Int)) => some (n17 q3.1) := by kernel_rfl
def g17 (m39 : (List Int) → Option ((List Int) × Int)) (m43 : (((List Int) × Int) × Int) → Option (Int × (List Int) × Int)) (m49 : (((List Int) × Int) × Int) → Option ((List Int) × (List Int) × Int)) (L : Nat) (a0 : (List Int)) : Option (List Int) :=
  tst (m39 a0) ([], (0 : Int)) fun (q1 : ((List Int) × Int)) => tst (m43 ((q1.1, q1.2), (30 : Int))) ((0 : Int), [], (0 : Int)) fun (q2 : (Int × (List Int) × Int)) => tst (m49 ((q2.2.1, q2.2.2), q2.1)) ([], [], (0 : Int)) fun (q3 : ((List Int) × (List Int) × Int)) => some q3.1
theorem e17 (m39 : (List Int) → Option ((List Int) × Int)) (m43 : (((List Int) × Int) × Int) → Option (Int × (List Int) × Int)) (m49 : (((List Int) × Int) × Int) → Option ((List Int) × (List Int) × Int)) (L : Nat) (a0 : (List Int)) : evF prog (ev17 m39 m43 m49) (loopN L) f17 (a17.enc a0) = (g17 m39 m43 m49 L a0).map n17 := by
  rw [i17]; simp only [g17, map_bif, map_tst, Option.map_some, Option.map_none]
theorem s17 (m39 : (List Int) → Option ((List Int) × Int)) (m43 : (((List Int) × Int) × Int) → Option (Int × (List Int) × Int)) (m49 : (((List Int) × Int) × Int) → Option ((List Int) × (List Int) × Int)) (h39 : SatN prog cxT 39 (c39 m39).F) (h43 : SatP prog cxT 43 (c43 m43).nres (c43 m43).F) (h49 : SatP prog cxT 49 (c49 m49).nres (c49 m49).F) (m : (List Int) → Option (List Int)) (hm : ∀ (x : (List Int)) t, m x = some t → ∃ L, g17 m39 m43 m49 L x = some t) : Sat prog cxT 17 (c17 m) :=
  sat_t cxT_ok cxT_pok (by rfl) (fn := f17) rfl a17 n17 dd17 m (ev17 m39 m43 m49) kok_nil (kwok_cons h39 (kwok_cons h43 (kwok_cons h49 kwok_nil))) (fun L x => g17 m39 m43 m49 L x) (fun L x => e17 m39 m43 m49 L x) hm hs17
/-! loop.example/g00222/laws.FnNumbers -/
def ev3 (m12 : (List Int) → Option Bool) (m13 : (List Int) → Option (Int × Int)) (m14 : (Int × Int) → Option (Int × (List Int))) (m15 : (Int × Int) → Option (Int × (List Int))) (m16 : ((List Int) × Int × Int) → Option (Int × Int)) : Env cxT := { Kc := kcOf [(12, c12 m12), (13, c13 m13), (14, c14 m14), (15, c15 m15), (16, c16 m16)], Kw := kwOf [], lv := fun i => [], xv := fun i => none }
theorem i3 (m12 : (List Int) → Option Bool) (m13 : (List Int) → Option (Int × Int)) (m14 : (Int × Int) → Option (Int × (List Int))) (m15 : (Int × Int) → Option (Int × (List Int))) (m16 : ((List Int) × Int × Int) → Option (Int × Int)) (L : Nat) (a0 : (List Int)) : evF prog (ev3 m12 m13 m14 m15 m16) (loopN L) f3 (a3.enc a0) =
  tst (m12 a0) false fun (q1 : Bool) => bif q1 then some (n3 Bool.true)
    else tst (m13 a0) ((0 : Int), (0 : Int)) fun (q2 : (Int × Int)) => tst (m14 (q2.1, q2.2)) ((0 : Int), []) fun (q3 : (Int × (List Int))) => bif (q3.1 != (0 : Int)) then tst (m15 (q2.1, q2.2)) ((0 : Int), []) fun (q5 : (Int × (List Int))) => some (n3 (q5.1 == q3.1))
        else bif (decide (((List.length (List.cons (9 : Int) ([] : List (Int)))) + (List.length q3.2)) ≤ (1000000000 : Nat))) then tst (m16 (((List.cons (9 : Int) ([] : List (Int))) ++ q3.2), ((1 : Int), q2.2))) ((0 : Int), (0 : Int)) fun (q5 : (Int × Int)) => bif ((Nat.cast (List.length q3.2) : Int) == q2.2) then bif (q5.1 == (0 : Int)) then some (n3 (q5.2 == q2.1))
              else some (n3 Bool.false)
            else some (n3 Bool.false)
        else none := by kernel_rfl
def g3 (m12 : (List Int) → Option Bool) (m13 : (List Int) → Option (Int × Int)) (m14 : (Int × Int) → Option (Int × (List Int))) (m15 : (Int × Int) → Option (Int × (List Int))) (m16 : ((List Int) × Int × Int) → Option (Int × Int)) (L : Nat) (a0 : (List Int)) : Option Bool :=
  tst (m12 a0) false fun (q1 : Bool) => bif q1 then some Bool.true
    else tst (m13 a0) ((0 : Int), (0 : Int)) fun (q2 : (Int × Int)) => tst (m14 (q2.1, q2.2)) ((0 : Int), []) fun (q3 : (Int × (List Int))) => bif (q3.1 != (0 : Int)) then tst (m15 (q2.1, q2.2)) ((0 : Int), []) fun (q5 : (Int × (List Int))) => some (q5.1 == q3.1)
        else bif (decide (((List.length (List.cons (9 : Int) ([] : List (Int)))) + (List.length q3.2)) ≤ (1000000000 : Nat))) then tst (m16 (((List.cons (9 : Int) ([] : List (Int))) ++ q3.2), ((1 : Int), q2.2))) ((0 : Int), (0 : Int)) fun (q5 : (Int × Int)) => bif ((Nat.cast (List.length q3.2) : Int) == q2.2) then bif (q5.1 == (0 : Int)) then some (q5.2 == q2.1)
              else some Bool.false
            else some Bool.false
        else none
theorem e3 (m12 : (List Int) → Option Bool) (m13 : (List Int) → Option (Int × Int)) (m14 : (Int × Int) → Option (Int × (List Int))) (m15 : (Int × Int) → Option (Int × (List Int))) (m16 : ((List Int) × Int × Int) → Option (Int × Int)) (L : Nat) (a0 : (List Int)) : evF prog (ev3 m12 m13 m14 m15 m16) (loopN L) f3 (a3.enc a0) = (g3 m12 m13 m14 m15 m16 L a0).map n3 := by
  rw [i3]; simp only [g3, map_bif, map_tst, Option.map_some, Option.map_none]
theorem s3 (m12 : (List Int) → Option Bool) (m13 : (List Int) → Option (Int × Int)) (m14 : (Int × Int) → Option (Int × (List Int))) (m15 : (Int × Int) → Option (Int × (List Int))) (m16 : ((List Int) × Int × Int) → Option (Int × Int)) (h12 : Sat prog cxT 12 (c12 m12)) (h13 : Sat prog cxT 13 (c13 m13)) (h14 : Sat prog cxT 14 (c14 m14)) (h15 : Sat prog cxT 15 (c15 m15)) (h16 : Sat prog cxT 16 (c16 m16)) (m : (List Int) → Option Bool) (hm : ∀ (x : (List Int)) t, m x = some t → ∃ L, g3 m12 m13 m14 m15 m16 L x = some t) : Sat prog cxT 3 (c3 m) :=
  sat_t cxT_ok cxT_pok (by rfl) (fn := f3) rfl a3 n3 dd3 m (ev3 m12 m13 m14 m15 m16) (kok_cons h12 (kok_cons h13 (kok_cons h14 (kok_cons h15 (kok_cons h16 kok_nil))))) kwok_nil (fun L x => g3 m12 m13 m14 m15 m16 L x) (fun L x => e3 m12 m13 m14 m15 m16 L x) hm hs3
/-! loop.example/g00222/laws.FnSums -/
def ev4 (m12 : (List Int) → Option Bool) (m17 : (List Int) → Option (List Int)) (m18 : (List Int) → Option Int) (m19 : (List Int) → Option Bool) (m20 : (List Int) → Option Int) : Env cxT := { Kc := kcOf [(12, c12 m12), (17, c17 m17), (18, c18 m18), (19, c19 m19), (20, c20 m20)], Kw := kwOf [], lv := fun i => [], xv := fun i => none }
theorem i4 (m12 : (List Int) → Option Bool) (m17 : (List Int) → Option (List Int)) (m18 : (List Int) → Option Int) (m19 : (List Int) → Option Bool) (m20 : (List Int) → Option Int) (L : Nat) (a0 : (List Int)) : evF prog (ev4 m12 m17 m18 m19 m20) (loopN L) f4 (a4.enc a0) =
  tst (m12 a0) false fun (q1 : Bool) => bif q1 then some (n4 Bool.true)
    else tst (m17 a0) [] fun (q2 : (List Int)) => bif ((Int.tmod (Nat.cast (List.length q2) : Int) (2 : Int)) == (1 : Int)) then bif (decide (((List.length q2) + (List.length (List.cons (0 : Int) ([] : List (Int))))) ≤ (1000000000 : Nat))) then tst (m18 (q2 ++ (List.cons (0 : Int) ([] : List (Int))))) (0 : Int) fun (q5 : Int) => bif (decide (q5 < (0 : Int))) then some (n4 Bool.false)
            else bif (decide (q5 > (65535 : Int))) then some (n4 Bool.false)
            else bif (decide (((List.length ([] : List (Int))) + (List.length (q2 ++ (List.cons (0 : Int) ([] : List (Int)))))) ≤ (1000000000 : Nat))) then bif (decide (((List.length (([] : List (Int)) ++ (q2 ++ (List.cons (0 : Int) ([] : List (Int)))))) + (List.length (List.cons (Go.IntKind.wrap Go.IntKind.u8 (Go.IntKind.wrap Go.IntKind.i64 (Int.tdiv q5 (256 : Int)))) (List.cons (Go.IntKind.wrap Go.IntKind.u8 (Int.tmod q5 (256 : Int))) ([] : List (Int)))))) ≤ (1000000000 : Nat))) then tst (m19 ((([] : List (Int)) ++ (q2 ++ (List.cons (0 : Int) ([] : List (Int))))) ++ (List.cons (Go.IntKind.wrap Go.IntKind.u8 (Go.IntKind.wrap Go.IntKind.i64 (Int.tdiv q5 (256 : Int)))) (List.cons (Go.IntKind.wrap Go.IntKind.u8 (Int.tmod q5 (256 : Int))) ([] : List (Int)))))) false fun (q8 : Bool) => bif q8 then bif (decide (((List.length ([] : List (Int))) + (List.length ((([] : List (Int)) ++ (q2 ++ (List.cons (0 : Int) ([] : List (Int))))) ++ (List.cons (Go.IntKind.wrap Go.IntKind.u8 (Go.IntKind.wrap Go.IntKind.i64 (Int.tdiv q5 (256 : Int)))) (List.cons (Go.IntKind.wrap Go.IntKind.u8 (Int.tmod q5 (256 : Int))) ([] : List (Int))))))) ≤ (1000000000 : Nat))) then bif (decide (((List.length (([] : List (Int)) ++ ((([] : List (Int)) ++ (q2 ++ (List.cons (0 : Int) ([] : List (Int))))) ++ (List.cons (Go.IntKind.wrap Go.IntKind.u8 (Go.IntKind.wrap Go.IntKind.i64 (Int.tdiv q5 (256 : Int)))) (List.cons (Go.IntKind.wrap Go.IntKind.u8 (Int.tmod q5 (256 : Int))) ([] : List (Int))))))) + (List.length (List.cons (0 : Int) (List.cons (1 : Int) ([] : List (Int)))))) ≤ (1000000000 : Nat))) then tst (m19 ((([] : List (Int)) ++ ((([] : List (Int)) ++ (q2 ++ (List.cons (0 : Int) ([] : List (Int))))) ++ (List.cons (Go.IntKind.wrap Go.IntKind.u8 (Go.IntKind.wrap Go.IntKind.i64 (Int.tdiv q5 (256 : Int)))) (List.cons (Go.IntKind.wrap Go.IntKind.u8 (Int.tmod q5 (256 : Int))) ([] : List (Int)))))) ++ (List.cons (0 : Int) (List.cons (1 : Int) ([] : List (Int)))))) false fun (q12 : Bool) => bif (!q12) then tst (m20 (q2 ++ (List.cons (0 : Int) ([] : List (Int))))) (0 : Int) fun (q14 : Int) => some (n4 (q5 == q14))
                          else some (n4 Bool.false)
                      else none
                    else none
                  else some (n4 Bool.false)
              else none
            else none
        else none
      else tst (m18 q2) (0 : Int) fun (q3 : Int) => bif (decide (q3 < (0 : Int))) then some (n4 Bool.false)
        else bif (decide (q3 > (65535 : Int))) then some (n4 Bool.false)
        else bif (decide (((List.length ([] : List (Int))) + (List.length q2)) ≤ (1000000000 : Nat))) then bif (decide (((List.length (([] : List (Int)) ++ q2)) + (List.length (List.cons (Go.IntKind.wrap Go.IntKind.u8 (Go.IntKind.wrap Go.IntKind.i64 (Int.tdiv q3 (256 : Int)))) (List.cons (Go.IntKind.wrap Go.IntKind.u8 (Int.tmod q3 (256 : Int))) ([] : List (Int)))))) ≤ (1000000000 : Nat))) then tst (m19 ((([] : List (Int)) ++ q2) ++ (List.cons (Go.IntKind.wrap Go.IntKind.u8 (Go.IntKind.wrap Go.IntKind.i64 (Int.tdiv q3 (256 : Int)))) (List.cons (Go.IntKind.wrap Go.IntKind.u8 (Int.tmod q3 (256 : Int))) ([] : List (Int)))))) false fun (q6 : Bool) => bif q6 then bif (decide (((List.length ([] : List (Int))) + (List.length ((([] : List (Int)) ++ q2) ++ (List.cons (Go.IntKind.wrap Go.IntKind.u8 (Go.IntKind.wrap Go.IntKind.i64 (Int.tdiv q3 (256 : Int)))) (List.cons (Go.IntKind.wrap Go.IntKind.u8 (Int.tmod q3 (256 : Int))) ([] : List (Int))))))) ≤ (1000000000 : Nat))) then bif (decide (((List.length (([] : List (Int)) ++ ((([] : List (Int)) ++ q2) ++ (List.cons (Go.IntKind.wrap Go.IntKind.u8 (Go.IntKind.wrap Go.IntKind.i64 (Int.tdiv q3 (256 : Int)))) (List.cons (Go.IntKind.wrap Go.IntKind.u8 (Int.tmod q3 (256 : Int))) ([] : List (Int))))))) + (List.length (List.cons (0 : Int) (List.cons (1 : Int) ([] : List (Int)))))) ≤ (1000000000 : Nat))) then tst (m19 ((([] : List (Int)) ++ ((([] : List (Int)) ++ q2) ++ (List.cons (Go.IntKind.wrap Go.IntKind.u8 (Go.IntKind.wrap Go.IntKind.i64 (Int.tdiv q3 (256 : Int)))) (List.cons (Go.IntKind.wrap Go.IntKind.u8 (Int.tmod q3 (256 : Int))) ([] : List (Int)))))) ++ (List.cons (0 : Int) (List.cons (1 : Int) ([] : List (Int)))))) false fun (q10 : Bool) => bif (!q10) then tst (m20 q2) (0 : Int) fun (q12 : Int) => some (n4 (q3 == q12))
                      else some (n4 Bool.false)
                  else none
                else none
              else some (n4 Bool.false)
          else none
        else none := by kernel_rfl
def g4 (m12 : (List Int) → Option Bool) (m17 : (List Int) → Option (List Int)) (m18 : (List Int) → Option Int) (m19 : (List Int) → Option Bool) (m20 : (List Int) → Option Int) (L : Nat) (a0 : (List Int)) : Option Bool :=
  tst (m12 a0) false fun (q1 : Bool) => bif q1 then some Bool.true
    else tst (m17 a0) [] fun (q2 : (List Int)) => bif ((Int.tmod (Nat.cast (List.length q2) : Int) (2 : Int)) == (1 : Int)) then bif (decide (((List.length q2) + (List.length (List.cons (0 : Int) ([] : List (Int))))) ≤ (1000000000 : Nat))) then tst (m18 (q2 ++ (List.cons (0 : Int) ([] : List (Int))))) (0 : Int) fun (q5 : Int) => bif (decide (q5 < (0 : Int))) then some Bool.false
            else bif (decide (q5 > (65535 : Int))) then some Bool.false
            else bif (decide (((List.length ([] : List (Int))) + (List.length (q2 ++ (List.cons (0 : Int) ([] : List (Int)))))) ≤ (1000000000 : Nat))) then bif (decide (((List.length (([] : List (Int)) ++ (q2 ++ (List.cons (0 : Int) ([] : List (Int)))))) + (List.length (List.cons (Go.IntKind.wrap Go.IntKind.u8 (Go.IntKind.wrap Go.IntKind.i64 (Int.tdiv q5 (256 : Int)))) (List.cons (Go.IntKind.wrap Go.IntKind.u8 (Int.tmod q5 (256 : Int))) ([] : List (Int)))))) ≤ (1000000000 : Nat))) then tst (m19 ((([] : List (Int)) ++ (q2 ++ (List.cons (0 : Int) ([] : List (Int))))) ++ (List.cons (Go.IntKind.wrap Go.IntKind.u8 (Go.IntKind.wrap Go.IntKind.i64 (Int.tdiv q5 (256 : Int)))) (List.cons (Go.IntKind.wrap Go.IntKind.u8 (Int.tmod q5 (256 : Int))) ([] : List (Int)))))) false fun (q8 : Bool) => bif q8 then bif (decide (((List.length ([] : List (Int))) + (List.length ((([] : List (Int)) ++ (q2 ++ (List.cons (0 : Int) ([] : List (Int))))) ++ (List.cons (Go.IntKind.wrap Go.IntKind.u8 (Go.IntKind.wrap Go.IntKind.i64 (Int.tdiv q5 (256 : Int)))) (List.cons (Go.IntKind.wrap Go.IntKind.u8 (Int.tmod q5 (256 : Int))) ([] : List (Int))))))) ≤ (1000000000 : Nat))) then bif (decide (((List.length (([] : List (Int)) ++ ((([] : List (Int)) ++ (q2 ++ (List.cons (0 : Int) ([] : List (Int))))) ++ (List.cons (Go.IntKind.wrap Go.IntKind.u8 (Go.IntKind.wrap Go.IntKind.i64 (Int.tdiv q5 (256 : Int)))) (List.cons (Go.IntKind.wrap Go.IntKind.u8 (Int.tmod q5 (256 : Int))) ([] : List (Int))))))) + (List.length (List.cons (0 : Int) (List.cons (1 : Int) ([] : List (Int)))))) ≤ (1000000000 : Nat))) then tst (m19 ((([] : List (Int)) ++ ((([] : List (Int)) ++ (q2 ++ (List.cons (0 : Int) ([] : List (Int))))) ++ (List.cons (Go.IntKind.wrap Go.IntKind.u8 (Go.IntKind.wrap Go.IntKind.i64 (Int.tdiv q5 (256 : Int)))) (List.cons (Go.IntKind.wrap Go.IntKind.u8 (Int.tmod q5 (256 : Int))) ([] : List (Int)))))) ++ (List.cons (0 : Int) (List.cons (1 : Int) ([] : List (Int)))))) false fun (q12 : Bool) => bif (!q12) then tst (m20 (q2 ++ (List.cons (0 : Int) ([] : List (Int))))) (0 : Int) fun (q14 : Int) => some (q5 == q14)
                          else some Bool.false
                      else none
                    else none
                  else some Bool.false
              else none
            else none
        else none
      else tst (m18 q2) (0 : Int) fun (q3 : Int) => bif (decide (q3 < (0 : Int))) then some Bool.false
        else bif (decide (q3 > (65535 : Int))) then some Bool.false
        else bif (decide (((List.length ([] : List (Int))) + (List.length q2)) ≤ (1000000000 : Nat))) then bif (decide (((List.length (([] : List (Int)) ++ q2)) + (List.length (List.cons (Go.IntKind.wrap Go.IntKind.u8 (Go.IntKind.wrap Go.IntKind.i64 (Int.tdiv q3 (256 : Int)))) (List.cons (Go.IntKind.wrap Go.IntKind.u8 (Int.tmod q3 (256 : Int))) ([] : List (Int)))))) ≤ (1000000000 : Nat))) then tst (m19 ((([] : List (Int)) ++ q2) ++ (List.cons (Go.IntKind.wrap Go.IntKind.u8 (Go.IntKind.wrap Go.IntKind.i64 (Int.tdiv q3 (256 : Int)))) (List.cons (Go.IntKind.wrap Go.IntKind.u8 (Int.tmod q3 (256 : Int))) ([] : List (Int)))))) false fun (q6 : Bool) => bif q6 then bif (decide (((List.length ([] : List (Int))) + (List.length ((([] : List (Int)) ++ q2) ++ (List.cons (Go.IntKind.wrap Go.IntKind.u8 (Go.IntKind.wrap Go.IntKind.i64 (Int.tdiv q3 (256 : Int)))) (List.cons (Go.IntKind.wrap Go.IntKind.u8 (Int.tmod q3 (256 : Int))) ([] : List (Int))))))) ≤ (1000000000 : Nat))) then bif (decide (((List.length (([] : List (Int)) ++ ((([] : List (Int)) ++ q2) ++ (List.cons (Go.IntKind.wrap Go.IntKind.u8 (Go.IntKind.wrap Go.IntKind.i64 (Int.tdiv q3 (256 : Int)))) (List.cons (Go.IntKind.wrap Go.IntKind.u8 (Int.tmod q3 (256 : Int))) ([] : List (Int))))))) + (List.length (List.cons (0 : Int) (List.cons (1 : Int) ([] : List (Int)))))) ≤ (1000000000 : Nat))) then tst (m19 ((([] : List (Int)) ++ ((([] : List (Int)) ++ q2) ++ (List.cons (Go.IntKind.wrap Go.IntKind.u8 (Go.IntKind.wrap Go.IntKind.i64 (Int.tdiv q3 (256 : Int)))) (List.cons (Go.IntKind.wrap Go.IntKind.u8 (Int.tmod q3 (256 : Int))) ([] : List (Int)))))) ++ (List.cons (0 : Int) (List.cons (1 : Int) ([] : List (Int)))))) false fun (q10 : Bool) => bif (!q10) then tst (m20 q2) (0 : Int) fun (q12 : Int) => some (q3 == q12)
                      else some Bool.false
                  else none
                else none
              else some Bool.false
          else none
        else none
theorem e4 (m12 : (List Int) → Option Bool) (m17 : (List Int) → Option (List Int)) (m18 : (List Int) → Option Int) (m19 : (List Int) → Option Bool) (m20 : (List Int) → Option Int) (L : Nat) (a0 : (List Int)) : evF prog (ev4 m12 m17 m18 m19 m20) (loopN L) f4 (a4.enc a0) = (g4 m12 m17 m18 m19 m20 L a0).map n4 := by
  rw [i4]; simp only [g4, map_bif, map_tst, Option.map_some, Option.map_none]
theorem s4 (m12 : (List Int) → Option Bool) (m17 : (List Int) → Option (List Int)) (m18 : (List Int) → Option Int) (m19 : (List Int) → Option Bool) (m20 : (List Int) → Option Int) (h12 : Sat prog cxT 12 (c12 m12)) (h17 : Sat prog cxT 17 (c17 m17)) (h18 : Sat prog cxT 18 (c18 m18)) (h19 : Sat prog cxT 19 (c19 m19)) (h20 : Sat prog cxT 20 (c20 m20)) (m : (List Int) → Option Bool) (hm : ∀ (x : (List Int)) t, m x = some t → ∃ L, g4 m12 m17 m18 m19 m20 L x = some t) : Sat prog cxT 4 (c4 m) :=
  sat_t cxT_ok cxT_pok (by rfl) (fn := f4) rfl a4 n4 dd4 m (ev4 m12 m17 m18 m19 m20) (kok_cons h12 (kok_cons h17 (kok_cons h18 (kok_cons h19 (kok_cons h20 kok_nil))))) kwok_nil (fun L x => g4 m12 m17 m18 m19 m20 L x) (fun L x => e4 m12 m17 m18 m19 m20 L x) hm hs4
end Go.Proofs.Try

set_option maxHeartbeats 0
set_option linter.unusedVariables false
set_option linter.unusedSimpArgs false
namespace Go.Proofs.Try
open Go Go.VM Go.RowKit

/-! Draws -/
abbrev Src := List Int × Int
def okS (s : Src) (b : Int) : Prop := okB s.1 = true ∧ s.1.length ≤ 2000000 ∧ 0 ≤ s.2 ∧ s.2 ≤ b
instance (s : Src) (b : Int) : Decidable (okS s b) := by unfold okS; infer_instance
theorem okS.up {s : Src} {b c : Int} (h : okS s b) (hc : b ≤ c) : okS s c := ⟨h.1, h.2.1, h.2.2.1, Int.le_trans h.2.2.2 hc⟩
theorem okS.add {s : Src} {b : Int} (h : okS s b) {k : Int} (hk : 0 ≤ k) : okS (s.1, s.2 + k) (b + k) := by
  obtain ⟨h1, h2, h3, h4⟩ := h
  exact ⟨h1, h2, by simp only; omega, by simp only; omega⟩

def m39 (c : List Int) : Option (List Int × Int) := some (c, 0)
theorem sat39 : SatN prog cxT 39 (c39 m39).F := s39 m39 fun x t h => by
  cases h
  exact ⟨0, rfl⟩

def m43 (x : Src × Int) : Option (Int × List Int × Int) := if okS x.1 1000000000 then g43 0 x.1.1 x.1.2 x.2 else none
theorem sat43 : SatP prog cxT 43 (c43 m43).nres (c43 m43).F := s43 m43 fun x t h => by
  unfold m43 at h
  split at h
  · exact ⟨0, h⟩
  · cases h
theorem tmod_range (a : Int) {n : Int} (ha : 0 ≤ a) (hn : 1 ≤ n) : 0 ≤ a.tmod n ∧ a.tmod n < n := by
  rw [Int.tmod_eq_emod_of_nonneg ha]
  exact ⟨Int.emod_nonneg a (by omega), Int.emod_lt_of_pos a (by omega)⟩
theorem nx {s : Src} {b : Int} (h : okS s b) (hb : b ≤ 1000000000) (n : Int) : ∃ v, m43 (s, n) = some (v, s.1, s.2 + 1) ∧ (n < 1 → v = 0) ∧ (1 ≤ n → 0 ≤ v ∧ v < n) := by
  have hs := h.up hb
  obtain ⟨h1, h2, h3, h4⟩ := hs
  obtain ⟨c, at'⟩ := s
  simp only at h1 h2 h3 h4
  have e0 : m43 ((c, at'), n) = g43 0 c at' n := if_pos ⟨h1, h2, h3, h4⟩
  rw [e0]
  unfold g43
  have w1 : IntKind.wrap .i64 (at' + 1) = at' + 1 := wi (by omega) (by omega)
  have w2 : IntKind.wrap .i64 (at' + 1 - 1) = at' := by rw [Int.add_sub_cancel]; exact wi (by omega) (by omega)
  by_cases hn : n < 1
  · rw [dt hn, cond_true, w1]
    exact ⟨0, rfl, fun _ => rfl, fun h => by omega⟩
  · rw [df hn, cond_false]
    have hn0 : (n == 0) = false := by simp; omega
    by_cases hl : c.length = 0
    · have e1 : ((Nat.cast c.length : Int) == 0) = true := by simp [hl]
      simp only [e1, hn0, cond_true, cond_false, w1, w2]
      refine ⟨_, rfl, fun h => by omega, fun h => tmod_range _ ?_ h⟩
      rw [wi (by omega) (by omega)]
      omega
    · have e1 : ((Nat.cast c.length : Int) == 0) = false := by simp; intro h; simp [h] at hl
      have hk : (1 : Int) ≤ (c.length : Int) := by omega
      have r1 := tmod_range at' h3 hk
      have r2 := tmod_range (at' + 1) (by omega) hk
      have hq : 0 ≤ at'.tdiv (c.length : Int) ∧ at'.tdiv (c.length : Int) ≤ at' := by
        rw [Int.tdiv_eq_ediv_of_nonneg h3]
        exact ⟨Int.ediv_nonneg h3 (by omega), Int.ediv_le_self _ h3⟩
      have wq : IntKind.wrap .i64 (at'.tdiv (c.length : Int)) = at'.tdiv (c.length : Int) := wi (by omega) (by omega)
      have g1 := okB_get h1 (i := (at'.tmod (c.length : Int)).toNat) (by omega)
      have g2 := okB_get h1 (i := ((at' + 1).tmod (c.length : Int)).toNat) (by omega)
      have w3 : IntKind.wrap .i64 (at' + 1) = at' + 1 := w1
      simp only [e1, hn0, cond_false, w1, w2, dt r1.1, dt r1.2, dt r2.1, dt r2.2, Bool.and_self, cond_true, wq]
      generalize c.getD (at'.tmod (c.length : Int)).toNat 0 = x at g1 ⊢
      generalize c.getD ((at' + 1).tmod (c.length : Int)).toNat 0 = y at g2 ⊢
      generalize at'.tdiv (c.length : Int) = q at hq ⊢
      by_cases hb2 : n > 200
      · rw [dt hb2, cond_true]
        refine ⟨_, rfl, fun h => by omega, fun h => tmod_range _ ?_ h⟩
        simp (disch := omega) only [wi]
        omega
      · rw [df hb2, cond_false]
        refine ⟨_, rfl, fun h => by omega, fun h => tmod_range _ ?_ h⟩
        simp (disch := omega) only [wi]
        omega

def m40 (x : Src × List Int) : Option (Int × List Int × Int) := if okS x.1 1000000000 ∧ 1 ≤ x.2.length ∧ x.2.length ≤ 1000 then g40 m43 0 x.1.1 x.1.2 x.2 else none
theorem sat40 : SatP prog cxT 40 (c40 m40).nres (c40 m40).F := s40 m43 sat43 m40 fun x t h => by
  unfold m40 at h
  split at h
  · exact ⟨0, h⟩
  · cases h
theorem pick {s : Src} {b : Int} (h : okS s b) (hb : b ≤ 1000000000) (l : List Int) (h1 : 1 ≤ l.length) (h2 : l.length ≤ 1000) : ∃ v ∈ l, m40 (s, l) = some (v, s.1, s.2 + 1) := by
  obtain ⟨v, e, _, hv⟩ := nx h hb (l.length : Int)
  have hv := hv (by omega)
  have e0 : m40 (s, l) = g40 m43 0 s.1 s.2 l := if_pos ⟨h.up hb, h1, h2⟩
  refine ⟨l.getD v.toNat 0, ?_, ?_⟩
  · have : v.toNat < l.length := by omega
    simp only [List.getD, List.getElem?_eq_getElem this, Option.getD_some]
    exact List.getElem_mem this
  · rw [e0]
    unfold g40
    rw [e, tst_some, dt hv.1, dt hv.2]
    rfl

def m49 (x : Src × Int) : Option (List Int × List Int × Int) := if okS x.1 900000000 ∧ x.2 ≤ 1000 then g49 m43 m40 1001 x.1.1 x.1.2 x.2 else none
theorem sat49 : SatP prog cxT 49 (c49 m49).nres (c49 m49).F := s49 m43 m40 sat43 sat40 m49 fun x t h => by
  unfold m49 at h
  split at h
  · exact ⟨_, h⟩
  · cases h
theorem some_loop (c : List Int) (a0 n0 : Int) (k : List Int → Int → List Int → Option (List Int × List Int × Int)) : ∀ (f : Nat) (at' n : Int) (o : List Int), okS (c, at') (900000000 + 3 * (1000 - n)) → n ≤ 1000 → (n < f ∧ 0 < f) → okB o = true → (o.length : Int) ≤ 1000 - n →
    ∃ at2 o2, l49_0 m43 m40 1001 c a0 n0 f c at' n o k = k c at2 o2 ∧ okB o2 = true ∧ (0 ≤ n → (o2.length : Int) = o.length + n) ∧ (n < 0 → o2 = o) ∧ at' ≤ at2 ∧ at2 ≤ at' + 3 * max n 0
  | 0, at', n, o, hs, hn, hf, ho, hl => by omega
  | f + 1, at', n, o, hs, hn, hf, ho, hl => by
    by_cases hz : n > 0
    · obtain ⟨v1, e1, _, r1⟩ := nx hs (by omega) 256
      have s1 := hs.add (k := 1) (by omega)
      obtain ⟨v2, e2, _, r2⟩ := nx s1 (by omega) 256
      have s2 := s1.add (k := 1) (by omega)
      obtain ⟨v3, m3, e3⟩ := pick s2 (by omega) [v1, v2, 0, 255] (by simp) (by simp)
      have s3 := s2.add (k := 1) (by omega)
      simp only at e1 e2 e3 s1 s2 s3
      have hv : 0 ≤ v3 ∧ v3 ≤ 255 := by
        have := r1 (by omega)
        have := r2 (by omega)
        simp only [List.mem_cons, List.not_mem_nil, or_false] at m3
        omega
      obtain ⟨at2, o2, q1, q2, q3, q4, q5, q6⟩ := some_loop c a0 n0 k f (at' + 1 + 1 + 1) (n - 1) (o ++ [v3]) (s3.up (by omega)) (by omega) (by omega) (by
        unfold okB at ho ⊢
        rw [List.all_append, ho]
        simp [hv]) (by simp; omega)
      refine ⟨at2, o2, ?_, q2, fun h => by have := q3 (by omega); simp at this; omega, fun h => by omega, by omega, by omega⟩
      rw [l49_0, dt hz, cond_true, e1, tst_some, e2, tst_some, e3, tst_some]
      simp only [wb hv.1 hv.2, wi (show (-9223372036854775808 : Int) ≤ n - 1 by omega) (by omega)]
      rw [dt (by simp; omega), cond_true]
      exact q1
    · refine ⟨at', o, ?_, ho, fun h => by omega, fun _ => rfl, by omega, by omega⟩
      rw [l49_0, df hz, cond_false]
theorem some49 {s : Src} {b : Int} (h : okS s b) (hb : b ≤ 900000000) (n : Int) (hn : n ≤ 1000) : ∃ at2 o, m49 (s, n) = some (o, s.1, at2) ∧ okB o = true ∧ (0 ≤ n → (o.length : Int) = n) ∧ (n < 0 → o = []) ∧ s.2 ≤ at2 ∧ at2 ≤ s.2 + 3000 := by
  have e0 : m49 (s, n) = g49 m43 m40 1001 s.1 s.2 n := if_pos ⟨h.up hb, hn⟩
  obtain ⟨at2, o2, q1, q2, q3, q4, q5, q6⟩ := some_loop s.1 s.2 n (fun w0 w1 w5 => some (w5, w0, w1)) 1001 s.2 n [] (h.up (by omega)) hn (by omega) rfl (by simp; omega)
  refine ⟨at2, o2, ?_, q2, fun h => by have := q3 h; simpa using this, q4, q5, by omega⟩
  rw [e0]
  exact q1

def okC (c : List Int) : Prop := okB c = true ∧ c.length ≤ 1048576
instance (c : List Int) : Decidable (okC c) := by unfold okC; infer_instance
theorem okC.src {c : List Int} (h : okC c) : okS (c, 0) 0 := ⟨h.1, Nat.le_trans h.2 (by decide), Int.le_refl _, Int.le_refl _⟩
def m12 (c : List Int) : Option Bool := some (decide ((c.length : Int) > 1048576))
theorem sat12 : Sat prog cxT 12 (c12 m12) := s12 m12 fun x t h => by
  cases h
  exact ⟨0, rfl⟩
end Go.Proofs.Try

set_option maxHeartbeats 0
set_option linter.unusedVariables false
set_option linter.unusedSimpArgs false
namespace Go.Proofs.Try
open Go Go.VM Go.RowKit

theorem okB_app {a b : List Int} (h1 : okB a = true) (h2 : okB b = true) : okB (a ++ b) = true := by
  unfold okB at *
  rw [List.all_append, h1, h2]
  rfl
theorem bs {α : Type} [BEq α] [LawfulBEq α] (a : α) : (a == a) = true := by simp

/-! FnNumbers -/
theorem iv_in {x : Int} (h1 : -9223372036854775808 ≤ x) (h2 : x ≤ 9223372036854775807) : iv x = true := by unfold iv; rw [dt h1, dt h2]; rfl
theorem wrap_iv (x : Int) : iv (IntKind.wrap .i64 x) = true := by
  refine iv_in ?_ ?_ <;> (unfold IntKind.wrap; simp [IntKind.bits, IntKind.signed]; omega)
def m13 (c : List Int) : Option (Int × Int) := if okC c then g13 m39 m40 m42 m41 m43 0 c else none
theorem sat13 : Sat prog cxT 13 (c13 m13) := s13 m39 m40 m42 m41 m43 sat39 sat40 sat42 sat41 sat43 m13 fun x t h => by
  unfold m13 at h
  split at h
  · exact ⟨0, h⟩
  · cases h
theorem drawNum {c : List Int} (h : okC c) : ∃ n z, m13 c = some (n, z) ∧ iv n = true ∧ iv z = true := by
  have e0 : m13 c = g13 m39 m40 m42 m41 m43 0 c := if_pos h
  rw [e0]
  have s0 := h.src
  obtain ⟨z, mz, e1⟩ := pick s0 (by omega) [1, 2, 4, 6, 2, 0, 7] (by simp) (by simp)
  have s1 := s0.add (k := 1) (by omega)
  have hz : 0 ≤ z ∧ z ≤ 7 := by
    simp only [List.mem_cons, List.not_mem_nil, or_false] at mz
    omega
  obtain ⟨v, e2, _, r2⟩ := nx s1 (by omega) 200
  have s2 := s1.add (k := 1) (by omega)
  obtain ⟨u, e3, _, r3⟩ := nx s2 (by omega) 60000
  have s3 := s2.add (k := 1) (by omega)
  have r2 := r2 (by omega)
  have r3 := r3 (by omega)
  simp only at e1 e2 e3 s1 s2 s3
  have e4 : m42 (6, z) = some (if 6 < z then 6 else z) := rfl
  obtain ⟨y, hy, hy1, hy2⟩ : ∃ y, m42 (6, z) = some y ∧ y ≤ 6 ∧ 0 ≤ y := ⟨_, e4, by split <;> omega, by split <;> omega⟩
  have e5 : m41 (1, y) = some (if 1 > y then 1 else y) := rfl
  obtain ⟨x, hx, hx1, hx2⟩ : ∃ x, m41 (1, y) = some x ∧ 1 ≤ x ∧ x ≤ 6 := ⟨_, e5, by split <;> omega, by split <;> omega⟩
  obtain ⟨n, mn, e6⟩ := pick s3 (by omega) [v, u, IntKind.wrap .i64 (IntKind.wrap .i64 (1 * 2 ^ min (IntKind.wrap .u64 (IntKind.wrap .i64 (8 * x))).toNat (IntKind.bits .i64)) - 1), IntKind.wrap .i64 (1 * 2 ^ min (IntKind.wrap .u64 (IntKind.wrap .i64 (8 * x))).toNat (IntKind.bits .i64)), 0, -1, 4611686018427387904] (by simp) (by simp)
  simp only at e6
  refine ⟨n, z, ?_, ?_, iv_in (by omega) (by omega)⟩
  · unfold g13
    rw [show m39 c = some (c, 0) from rfl, tst_some]
    simp only
    rw [e1, tst_some]
    simp only
    rw [hy, tst_some, hx, tst_some]
    have hw : ¬ IntKind.wrap .u64 (IntKind.wrap .i64 (8 * x)) < 0 := by
      rw [wi (by omega) (by omega), wu (by omega) (by omega)]; omega
    rw [df hw, cond_false, e2, tst_some]
    simp only
    rw [e3, tst_some]
    simp only
    rw [e6, tst_some]
  · simp only [List.mem_cons, List.not_mem_nil, or_false] at mn
    rcases mn with rfl | rfl | rfl | rfl | rfl | rfl | rfl
    · exact iv_in (by omega) (by omega)
    · exact iv_in (by omega) (by omega)
    · exact wrap_iv _
    · exact wrap_iv _
    · rfl
    · rfl
    · rfl
theorem numB_ok (n : Int) (z : Nat) : okB (numB n z) = true := by
  unfold okB numB
  rw [List.all_eq_true]
  intro x hx
  obtain ⟨i, _, rfl⟩ := List.mem_map.1 hx
  rw [wbm]
  simp
  omega
theorem num_numB {n z : Int} (h : 1 ≤ z ∧ z ≤ 6 ∧ 0 ≤ n ∧ n ≤ 256 ^ z.toNat - 1) : num (numB n z.toNat) 0 = n := by
  obtain ⟨h1, h2, h3, h4⟩ := h
  rcases six ⟨h1, h2⟩ with h | h | h | h | h | h <;> subst h <;>
    simp [numB, List.range, List.range.loop, num, wbm, Int.fdiv_eq_ediv_of_nonneg] at h4 ⊢ <;> omega
def m3 (c : List Int) : Option Bool := if okB c = true then some true else none
theorem sat3 : Sat prog cxT 3 (c3 m3) := s3 m12 m13 mPut mPut m16 sat12 sat13 sat14 sat15 sat16 m3 fun x t h => by
  unfold m3 at h
  split at h
  · rename_i hc
    cases h
    refine ⟨0, ?_⟩
    unfold g3
    rw [show m12 x = some (decide ((x.length : Int) > 1048576)) from rfl, tst_some]
    by_cases hb : (x.length : Int) > 1048576
    · rw [dt hb]; rfl
    · rw [df hb, cond_false]
      obtain ⟨n, z, e13, hn, hz⟩ := drawNum (c := x) ⟨hc, by omega⟩
      rw [e13, tst_some]
      simp only
      have e1 : mPut (n, z) = some (putN n z) := if_pos ⟨hn, hz⟩
      rw [e1, tst_some]
      by_cases hk : 1 ≤ z ∧ z ≤ 6 ∧ 0 ≤ n ∧ n ≤ 256 ^ z.toNat - 1
      · rw [putN_in hk]
        simp only
        have hl : (numB n z.toNat).length = z.toNat := numB_len n _
        rw [bneF rfl, cond_false, dt (by simp [hl]; omega), cond_true]
        have ht : takeN ([9] ++ numB n z.toNat) 1 z = (0, n) := by
          rw [takeN_in ⟨hk.1, hk.2.1, by omega, by simp [hl]; omega⟩]
          have : (List.drop (Int.toNat 1) ([9] ++ numB n z.toNat)).take z.toNat = numB n z.toNat := by
            show (numB n z.toNat).take z.toNat = _
            exact List.take_of_length_le (by rw [hl]; exact Nat.le_refl _)
          rw [this, num_numB hk]
        have e16 : m16 ([9] ++ numB n z.toNat, 1, z) = some (0, n) := by
          refine (if_pos ⟨okB_app rfl (numB_ok n _), ?_, hz⟩).trans (by rw [ht])
          simp [hl]; omega
        rw [e16, tst_some]
        simp only
        rw [show ((Nat.cast (numB n z.toNat).length : Int) == z) = true by rw [hl]; simp; omega]
        simp
      · rw [putN_out hk]
        simp
        rw [tst_some]
        rfl
  · cases h

/-! FnSums -/
theorem sw_app : ∀ (a b : List Int) (h : Int), a.length % 2 = 0 → sw (a ++ b) h = sw b (sw a h)
  | [], b, h, _ => by cases b with
    | nil => rfl
    | cons x r => rfl
  | [x], b, h, hl => by simp at hl
  | x :: y :: r, b, h, hl => by
    show sw (r ++ b) _ = sw b (sw r _)
    exact sw_app r b _ (by simp at hl; omega)
def m17 (c : List Int) : Option (List Int) := if okC c then g17 m39 m43 m49 0 c else none
theorem sat17 : Sat prog cxT 17 (c17 m17) := s17 m39 m43 m49 sat39 sat43 sat49 m17 fun x t h => by
  unfold m17 at h
  split at h
  · exact ⟨0, h⟩
  · cases h
theorem drawSum {c : List Int} (h : okC c) : ∃ d, m17 c = some d ∧ okB d = true ∧ d.length ≤ 30 := by
  have e0 : m17 c = g17 m39 m43 m49 0 c := if_pos h
  rw [e0]
  have s0 := h.src
  obtain ⟨v, e2, _, r2⟩ := nx s0 (by omega) 30
  have s1 := s0.add (k := 1) (by omega)
  have r2 := r2 (by omega)
  obtain ⟨at2, o, e3, k1, k2, _⟩ := some49 s1 (by omega) v (by omega)
  simp only at e2 e3
  refine ⟨o, ?_, k1, by have := k2 r2.1; omega⟩
  unfold g17
  rw [show m39 c = some (c, 0) from rfl, tst_some]
  simp only
  rw [e2, tst_some]
  simp only
  rw [e3, tst_some]
theorem sumW_in {d : List Int} (h : okB d = true) : 0 ≤ sumW d ∧ sumW d ≤ 65535 := by
  have := sw_bound d 0 h (by omega) (by omega)
  unfold sumW
  omega
theorem whole {d : List Int} (h : okB d = true) (he : d.length % 2 = 0) : sw (d ++ [sumW d / 256, sumW d % 256]) 0 = 65535 := by
  rw [sw_app _ _ _ he]
  show nrm _ = _
  have hb := sumW_in h
  have : sw d 0 = 65535 - sumW d := by unfold sumW; omega
  rw [this]
  unfold nrm
  split <;> omega
theorem turned {d : List Int} (h : okB d = true) (he : d.length % 2 = 0) : sw (d ++ [sumW d / 256, sumW d % 256] ++ [0, 1]) 0 = 1 := by
  rw [sw_app _ _ _ (by simp; omega), whole h he]
  rfl
theorem m18_at {d : List Int} (h : okB d = true) (hl : d.length ≤ 100) : m18 d = some (sumW d) := if_pos ⟨h, by omega⟩
theorem m20_at {d : List Int} (h : okB d = true) (hl : d.length ≤ 100) : m20 d = some (sumW d) := if_pos ⟨h, by omega⟩
theorem m19_at {d : List Int} (h : okB d = true) (hl : d.length ≤ 100) : m19 d = some (sumW d == 0) := if_pos ⟨h, by omega⟩
theorem tail4 {d : List Int} (h : okB d = true) (he : d.length % 2 = 0) (hl : d.length ≤ 40) :
  (tst (m18 d) (0 : Int) fun (q3 : Int) => bif (decide (q3 < (0 : Int))) then some Bool.false
        else bif (decide (q3 > (65535 : Int))) then some Bool.false
        else bif (decide (((List.length ([] : List (Int))) + (List.length d)) ≤ (1000000000 : Nat))) then bif (decide (((List.length (([] : List (Int)) ++ d)) + (List.length (List.cons (Go.IntKind.wrap Go.IntKind.u8 (Go.IntKind.wrap Go.IntKind.i64 (Int.tdiv q3 (256 : Int)))) (List.cons (Go.IntKind.wrap Go.IntKind.u8 (Int.tmod q3 (256 : Int))) ([] : List (Int)))))) ≤ (1000000000 : Nat))) then tst (m19 ((([] : List (Int)) ++ d) ++ (List.cons (Go.IntKind.wrap Go.IntKind.u8 (Go.IntKind.wrap Go.IntKind.i64 (Int.tdiv q3 (256 : Int)))) (List.cons (Go.IntKind.wrap Go.IntKind.u8 (Int.tmod q3 (256 : Int))) ([] : List (Int)))))) false fun (q6 : Bool) => bif q6 then bif (decide (((List.length ([] : List (Int))) + (List.length ((([] : List (Int)) ++ d) ++ (List.cons (Go.IntKind.wrap Go.IntKind.u8 (Go.IntKind.wrap Go.IntKind.i64 (Int.tdiv q3 (256 : Int)))) (List.cons (Go.IntKind.wrap Go.IntKind.u8 (Int.tmod q3 (256 : Int))) ([] : List (Int))))))) ≤ (1000000000 : Nat))) then bif (decide (((List.length (([] : List (Int)) ++ ((([] : List (Int)) ++ d) ++ (List.cons (Go.IntKind.wrap Go.IntKind.u8 (Go.IntKind.wrap Go.IntKind.i64 (Int.tdiv q3 (256 : Int)))) (List.cons (Go.IntKind.wrap Go.IntKind.u8 (Int.tmod q3 (256 : Int))) ([] : List (Int))))))) + (List.length (List.cons (0 : Int) (List.cons (1 : Int) ([] : List (Int)))))) ≤ (1000000000 : Nat))) then tst (m19 ((([] : List (Int)) ++ ((([] : List (Int)) ++ d) ++ (List.cons (Go.IntKind.wrap Go.IntKind.u8 (Go.IntKind.wrap Go.IntKind.i64 (Int.tdiv q3 (256 : Int)))) (List.cons (Go.IntKind.wrap Go.IntKind.u8 (Int.tmod q3 (256 : Int))) ([] : List (Int)))))) ++ (List.cons (0 : Int) (List.cons (1 : Int) ([] : List (Int)))))) false fun (q10 : Bool) => bif (!q10) then tst (m20 d) (0 : Int) fun (q12 : Int) => some (q3 == q12)
                      else some Bool.false
                  else none
                else none
              else some Bool.false
          else none
        else none) = some true := by
  have hb := sumW_in h
  rw [m18_at h (by omega), tst_some, df (by omega), df (by omega), cond_false, cond_false]
  have w1 : IntKind.wrap .u8 (IntKind.wrap .i64 ((sumW d).tdiv 256)) = sumW d / 256 := by
    rw [Int.tdiv_eq_ediv_of_nonneg hb.1, wi (by omega) (by omega), wb (by omega) (by omega)]
  have w2 : IntKind.wrap .u8 ((sumW d).tmod 256) = sumW d % 256 := by
    rw [Int.tmod_eq_emod_of_nonneg hb.1, wb (by omega) (by omega)]
  have k1 : okB (d ++ [sumW d / 256, sumW d % 256]) = true := okB_app h (by unfold okB; simp; omega)
  have k2 : okB (d ++ [sumW d / 256, sumW d % 256] ++ [0, 1]) = true := okB_app k1 rfl
  have e1 : m19 (d ++ [sumW d / 256, sumW d % 256]) = some true := by
    rw [m19_at k1 (by simp; omega)]
    have := whole h he
    unfold sumW at this ⊢
    rw [this]; rfl
  have e2 : m19 (d ++ [sumW d / 256, sumW d % 256] ++ [0, 1]) = some false := by
    rw [m19_at k2 (by simp; omega)]
    have := turned h he
    unfold sumW at this ⊢
    rw [this]; rfl
  simp only [w1, w2, List.nil_append]
  rw [dt (by simp; omega), cond_true, dt (by simp; omega), cond_true, e1, tst_some, cond_true, dt (by simp; omega), cond_true, dt (by simp; omega), cond_true, e2, tst_some]
  simp only [Bool.not_false, cond_true]
  rw [m20_at h (by omega), tst_some, bs]
theorem sat4 : Sat prog cxT 4 (c4 m3) := s4 m12 m17 m18 m19 m20 sat12 sat17 sat18 sat19 sat20 m3 fun x t h => by
  unfold m3 at h
  split at h
  · rename_i hc
    cases h
    refine ⟨0, ?_⟩
    unfold g4
    rw [show m12 x = some (decide ((x.length : Int) > 1048576)) from rfl, tst_some]
    by_cases hb : (x.length : Int) > 1048576
    · rw [dt hb]; rfl
    · rw [df hb, cond_false]
      obtain ⟨d, e17, hd, hl⟩ := drawSum (c := x) ⟨hc, by omega⟩
      rw [e17, tst_some]
      have ht : (Nat.cast d.length : Int).tmod 2 = ((d.length % 2 : Nat) : Int) := by
        rw [Int.tmod_eq_emod_of_nonneg (by omega)]; omega
      rw [ht]
      by_cases he : d.length % 2 = 0
      · rw [show (((d.length % 2 : Nat) : Int) == 1) = false by rw [he]; rfl, cond_false]
        exact tail4 hd he (by omega)
      · have he : d.length % 2 = 1 := by omega
        rw [show (((d.length % 2 : Nat) : Int) == 1) = true by rw [he]; rfl, cond_true, dt (by simp; omega), cond_true]
        exact tail4 (okB_app hd rfl) (by simp; omega) (by simp; omega)
  · cases h
end Go.Proofs.Try
