/- A part of the proof of FnExactUnpackCmd: L6Fe, L6Ff, L6Fg. -/
import Derived.Test.YthfopihmealhkaaL6Base
set_option maxHeartbeats 0
set_option maxRecDepth 100000
set_option linter.unusedVariables false
set_option linter.unusedSimpArgs false
namespace Go.Proofs.Try
open Go Go.VM Go.RowKit
/-! loop.example/g00222/spec.l1Take -/
def ev63 : Env cxT := { Kc := kcOf [], Kw := kwOf [], lv := fun i => if i = 0 then [(0, [some 5]), (1, []), (2, []), (7, []), (8, [])] else [], xv := fun i => if i = 0 then some [(7, [])] else none }
def S63_0 (a0 : (List Int)) (a1 : Int) (a2 : Int) (v0_7 : Int) (v0_8 : Int) : St cxT.ty := { slots := [(.inl (.inl (ls { own := 0, nm := 0, e := 5, o := false, xs := a0 }))), (.inl (.inl (lv (.int .i64 a1)))), (.inl (.inl (lv (.int .i64 a2)))), junk, junk, junk, junk, (.inl (.inl (lv (.int .i64 v0_7)))), (.inl (.inl (lv (.int .i64 v0_8))))] ++ List.replicate 16 junk, D := [], F := [], ctr := 1 }
def X63_0 (a0 : (List Int)) (a1 : Int) (a2 : Int) (w0_7 : Int) : St cxT.ty := { slots := [junk, junk, junk, junk, junk, junk, junk, (.inl (.inl (lv (.int .i64 w0_7))))] ++ List.replicate 17 junk, D := [], F := [], ctr := 1 }
theorem i63 (L : Nat) (a0 : (List Int)) (a1 : Int) (a2 : Int) : evF prog ev63 (loopN L) f63 (a63.enc (a0, a1, a2)) =
  headF prog ev63 L f63 0 [1, 1, 0, 1, 0, 0] (outK (outV prog f63) (topK prog ev63 L f63 [1, 1, 0, 1] (outV prog f63)).n (topK prog ev63 L f63 [1, 1, 0, 1] (outV prog f63)).x) L (S63_0 a0 a1 a2 (0 : Int) (0 : Int)) := by kernel_rfl
theorem r63_0 (L : Nat) (a0 : (List Int)) (a1 : Int) (a2 : Int) (k : St cxT.ty → Option (V cxT.ty)) (xk : Nat → St cxT.ty → Option (V cxT.ty)) (g : St cxT.ty → Option (V cxT.ty)) (v0_7 : Int) (v0_8 : Int) : roundF prog ev63 L f63 0 [1, 1, 0, 1, 0, 0] (outK (outV prog f63) k xk) g (S63_0 a0 a1 a2 v0_7 v0_8) =
  bif (decide (v0_8 < a2)) then bif ((decide ((0 : Int) ≤ (Go.IntKind.wrap Go.IntKind.i64 (a1 + v0_8)))) && (decide ((Go.IntKind.wrap Go.IntKind.i64 (a1 + v0_8)) < (Nat.cast (List.length a0) : Int)))) then g (S63_0 a0 a1 a2 (Go.IntKind.wrap Go.IntKind.i64 ((Go.IntKind.wrap Go.IntKind.i64 (v0_7 * (256 : Int))) + (Go.IntKind.wrap Go.IntKind.i64 (List.getD a0 (Int.toNat (Go.IntKind.wrap Go.IntKind.i64 (a1 + v0_8))) (0 : Int))))) (Go.IntKind.wrap Go.IntKind.i64 (v0_8 + (1 : Int))))
    else none
  else k (X63_0 a0 a1 a2 v0_7) := by kernel_rfl
theorem t63_0 (L : Nat) (a0 : (List Int)) (a1 : Int) (a2 : Int) (w0_7 : Int) : (topK prog ev63 L f63 [1, 1, 0, 1] (outV prog f63)).n (X63_0 a0 a1 a2 w0_7) =
  some (n63 w0_7) := by kernel_rfl
def l63_0 (L : Nat) (a0 : (List Int)) (a1 : Int) (a2 : Int) : Nat → Int → Int → (Int → Option Int) → Option Int
  | 0, _, _, _ => none
  | n + 1, v0_7, v0_8, k =>
    bif (decide (v0_8 < a2)) then bif ((decide ((0 : Int) ≤ (Go.IntKind.wrap Go.IntKind.i64 (a1 + v0_8)))) && (decide ((Go.IntKind.wrap Go.IntKind.i64 (a1 + v0_8)) < (Nat.cast (List.length a0) : Int)))) then l63_0 L a0 a1 a2 n (Go.IntKind.wrap Go.IntKind.i64 ((Go.IntKind.wrap Go.IntKind.i64 (v0_7 * (256 : Int))) + (Go.IntKind.wrap Go.IntKind.i64 (List.getD a0 (Int.toNat (Go.IntKind.wrap Go.IntKind.i64 (a1 + v0_8))) (0 : Int))))) (Go.IntKind.wrap Go.IntKind.i64 (v0_8 + (1 : Int))) k
      else none
    else k v0_7
theorem h63_0 (L : Nat) (a0 : (List Int)) (a1 : Int) (a2 : Int) (k : St cxT.ty → Option (V cxT.ty)) (xk : Nat → St cxT.ty → Option (V cxT.ty)) (k' : Int → Option Int) (hk : ∀ (w0_7 : Int), k (X63_0 a0 a1 a2 w0_7) = (k' w0_7).map n63) : ∀ (n : Nat) (v0_7 : Int) (v0_8 : Int), headF prog ev63 L f63 0 [1, 1, 0, 1, 0, 0] (outK (outV prog f63) k xk) n (S63_0 a0 a1 a2 v0_7 v0_8) = (l63_0 L a0 a1 a2 n v0_7 v0_8 k').map n63
  | 0, _, _ => rfl
  | n + 1, v0_7, v0_8 => by
    rw [headF_round, r63_0]
    have ih := h63_0 L a0 a1 a2 k xk k' hk n
    simp only [l63_0, map_bif, map_tst, map_bnd, Option.map_some, Option.map_none, ih, hk]
def g63 (L : Nat) (a0 : (List Int)) (a1 : Int) (a2 : Int) : Option Int :=
  l63_0 L a0 a1 a2 L (0 : Int) (0 : Int) (fun (w0_7 : Int) => some w0_7)
theorem e63 (L : Nat) (a0 : (List Int)) (a1 : Int) (a2 : Int) : evF prog ev63 (loopN L) f63 (a63.enc (a0, a1, a2)) = (g63 L a0 a1 a2).map n63 := by
  let K'0 : Int → Option Int := (fun (w0_7 : Int) => some w0_7)
  have hin0 : ∀ (v0_7 : Int) (v0_8 : Int), headF prog ev63 L f63 0 [1, 1, 0, 1, 0, 0] (outK (outV prog f63) (topK prog ev63 L f63 [1, 1, 0, 1] (outV prog f63)).n (topK prog ev63 L f63 [1, 1, 0, 1] (outV prog f63)).x) L (S63_0 a0 a1 a2 v0_7 v0_8) = (l63_0 L a0 a1 a2 L v0_7 v0_8 K'0).map n63 := fun v0_7 v0_8 => h63_0 L a0 a1 a2 _ _ K'0 (fun w0_7 => by rw [t63_0]; simp only [K'0, map_bif, map_tst, map_bnd, Option.map_some, Option.map_none]) L v0_7 v0_8
  rw [i63]; simp only [g63, map_bif, map_tst, map_bnd, Option.map_some, Option.map_none, hin0, K'0]
theorem s63 (m : ((List Int) × Int × Int) → Option Int) (hm : ∀ (x : ((List Int) × Int × Int)) t, m x = some t → ∃ L, g63 L x.1 x.2.1 x.2.2 = some t) : Sat prog cxT 63 (c63 m) :=
  sat_t cxT_ok cxT_pok (by rfl) (fn := f63) rfl a63 n63 dd63 m ev63 kok_nil kwok_nil (fun L x => g63 L x.1 x.2.1 x.2.2) (fun L x => e63 L x.1 x.2.1 x.2.2) hm hs63
/-! loop.example/g00222/spec.l5Needs -/
def ev90 (m105 : (Int × Int × Int) → Option Bool) : Env cxT := { Kc := kcOf [(105, c105 m105)], Kw := kwOf [], lv := fun i => [], xv := fun i => none }
theorem i90 (m105 : (Int × Int × Int) → Option Bool) (L : Nat) (a0 : Int) : evF prog (ev90 m105) (loopN L) f90 (a90.enc a0) =
  tst (m105 (a0, ((5 : Int), (8 : Int)))) false fun (q1 : Bool) => bif (a0 != (5 : Int)) then bif (a0 == (1 : Int)) then some (n90 ((a0 != (6 : Int)), Bool.true, (a0 != (4 : Int)), q1))
      else some (n90 ((a0 != (6 : Int)), q1, (a0 != (4 : Int)), q1))
    else bif (a0 == (1 : Int)) then some (n90 (Bool.false, Bool.true, (a0 != (4 : Int)), q1))
    else some (n90 (Bool.false, q1, (a0 != (4 : Int)), q1)) := by kernel_rfl
def g90 (m105 : (Int × Int × Int) → Option Bool) (L : Nat) (a0 : Int) : Option (Bool × Bool × Bool × Bool) :=
  tst (m105 (a0, ((5 : Int), (8 : Int)))) false fun (q1 : Bool) => bif (a0 != (5 : Int)) then bif (a0 == (1 : Int)) then some ((a0 != (6 : Int)), Bool.true, (a0 != (4 : Int)), q1)
      else some ((a0 != (6 : Int)), q1, (a0 != (4 : Int)), q1)
    else bif (a0 == (1 : Int)) then some (Bool.false, Bool.true, (a0 != (4 : Int)), q1)
    else some (Bool.false, q1, (a0 != (4 : Int)), q1)
theorem e90 (m105 : (Int × Int × Int) → Option Bool) (L : Nat) (a0 : Int) : evF prog (ev90 m105) (loopN L) f90 (a90.enc a0) = (g90 m105 L a0).map n90 := by
  rw [i90]; simp only [g90, map_bif, map_tst, map_bnd, Option.map_some, Option.map_none]
theorem s90 (m105 : (Int × Int × Int) → Option Bool) (h105 : Sat prog cxT 105 (c105 m105)) (m : Int → Option (Bool × Bool × Bool × Bool)) (hm : ∀ (x : Int) t, m x = some t → ∃ L, g90 m105 L x = some t) : Sat prog cxT 90 (c90 m) :=
  sat_t cxT_ok cxT_pok (by rfl) (fn := f90) rfl a90 n90 dd90 m (ev90 m105) (kok_cons h105 kok_nil) kwok_nil (fun L x => g90 m105 L x) (fun L x => e90 m105 L x) hm hs90
/-! loop.example/g00222/spec.l5Number -/
def ev108 (m105 : (Int × Int × Int) → Option Bool) (m150 : Int → Option Bool) : Env cxT := { Kc := kcOf [(105, c105 m105), (150, c150 m150)], Kw := kwOf [], lv := fun i => [], xv := fun i => none }
theorem i108 (m105 : (Int × Int × Int) → Option Bool) (m150 : Int → Option Bool) (L : Nat) (a0_0 : Int) (a0_1 : Int) (a0_2 : Int) (a0_3 : Int) (a0_4 : Int) (a0_5 : Int) : evF prog (ev108 m105 m150) (loopN L) f108 (a108.enc (a0_0, a0_1, a0_2, a0_3, a0_4, a0_5)) =
  bif (a0_0 == (1 : Int)) then tst (m105 (a0_4, ((0 : Int), (9 : Int)))) false fun (q2 : Bool) => some (n108 q2)
  else bif (a0_0 == (2 : Int)) then tst (m105 (a0_4, ((0 : Int), (9 : Int)))) false fun (q2 : Bool) => some (n108 q2)
  else bif (a0_0 == (3 : Int)) then tst (m105 (a0_4, ((1 : Int), (3 : Int)))) false fun (q2 : Bool) => some (n108 q2)
  else bif (a0_0 == (9 : Int)) then tst (m105 (a0_4, ((0 : Int), (1 : Int)))) false fun (q2 : Bool) => some (n108 q2)
  else tst (m150 a0_4) false fun (q1 : Bool) => some (n108 q1) := by kernel_rfl
def g108 (m105 : (Int × Int × Int) → Option Bool) (m150 : Int → Option Bool) (L : Nat) (a0_0 : Int) (a0_1 : Int) (a0_2 : Int) (a0_3 : Int) (a0_4 : Int) (a0_5 : Int) : Option Bool :=
  bif (a0_0 == (1 : Int)) then tst (m105 (a0_4, ((0 : Int), (9 : Int)))) false fun (q2 : Bool) => some q2
  else bif (a0_0 == (2 : Int)) then tst (m105 (a0_4, ((0 : Int), (9 : Int)))) false fun (q2 : Bool) => some q2
  else bif (a0_0 == (3 : Int)) then tst (m105 (a0_4, ((1 : Int), (3 : Int)))) false fun (q2 : Bool) => some q2
  else bif (a0_0 == (9 : Int)) then tst (m105 (a0_4, ((0 : Int), (1 : Int)))) false fun (q2 : Bool) => some q2
  else tst (m150 a0_4) false fun (q1 : Bool) => some q1
theorem e108 (m105 : (Int × Int × Int) → Option Bool) (m150 : Int → Option Bool) (L : Nat) (a0_0 : Int) (a0_1 : Int) (a0_2 : Int) (a0_3 : Int) (a0_4 : Int) (a0_5 : Int) : evF prog (ev108 m105 m150) (loopN L) f108 (a108.enc (a0_0, a0_1, a0_2, a0_3, a0_4, a0_5)) = (g108 m105 m150 L a0_0 a0_1 a0_2 a0_3 a0_4 a0_5).map n108 := by
  rw [i108]; simp only [g108, map_bif, map_tst, map_bnd, Option.map_some, Option.map_none]
theorem s108 (m105 : (Int × Int × Int) → Option Bool) (m150 : Int → Option Bool) (h105 : Sat prog cxT 105 (c105 m105)) (h150 : Sat prog cxT 150 (c150 m150)) (m : (Int × Int × Int × Int × Int × Int) → Option Bool) (hm : ∀ (x : (Int × Int × Int × Int × Int × Int)) t, m x = some t → ∃ L, g108 m105 m150 L x.1 x.2.1 x.2.2.1 x.2.2.2.1 x.2.2.2.2.1 x.2.2.2.2.2 = some t) : Sat prog cxT 108 (c108 m) :=
  sat_t cxT_ok cxT_pok (by rfl) (fn := f108) rfl a108 n108 dd108 m (ev108 m105 m150) (kok_cons h105 (kok_cons h150 kok_nil)) kwok_nil (fun L x => g108 m105 m150 L x.1 x.2.1 x.2.2.1 x.2.2.2.1 x.2.2.2.2.1 x.2.2.2.2.2) (fun L x => e108 m105 m150 L x.1 x.2.1 x.2.2.1 x.2.2.2.1 x.2.2.2.2.1 x.2.2.2.2.2) hm hs108
/-! loop.example/g00222/spec.l6Cmd -/
/-! loop.example/g00222/spec.PackCmd -/
/-! loop.example/g00222/spec.UnpackCmd -/
def ev22 (m63 : ((List Int) × Int × Int) → Option Int) (m56 : (Int × Int × Int × Int × Int × Int) → Option Int) : Env cxT := { Kc := kcOf [(63, c63 m63), (56, c56 m56)], Kw := kwOf [], lv := fun i => [], xv := fun i => none }
theorem i22 (m63 : ((List Int) × Int × Int) → Option Int) (m56 : (Int × Int × Int × Int × Int × Int) → Option Int) (L : Nat) (a0 : (List Int)) : evF prog (ev22 m63 m56) (loopN L) f22 (a22.enc a0) =
  bif ((Nat.cast (List.length a0) : Int) != (14 : Int)) then some (n22 ((5 : Int), (0 : Int), (0 : Int), (0 : Int), (0 : Int), (0 : Int), (0 : Int)))
  else bif ((decide ((0 : Int) ≤ (0 : Int))) && (decide ((0 : Int) < (Nat.cast (List.length a0) : Int)))) then tst (m63 (a0, ((1 : Int), (4 : Int)))) (0 : Int) fun (q2 : Int) => tst (m63 (a0, ((5 : Int), (2 : Int)))) (0 : Int) fun (q3 : Int) => tst (m63 (a0, ((7 : Int), (4 : Int)))) (0 : Int) fun (q4 : Int) => tst (m63 (a0, ((11 : Int), (2 : Int)))) (0 : Int) fun (q5 : Int) => bif ((decide ((0 : Int) ≤ (13 : Int))) && (decide ((13 : Int) < (Nat.cast (List.length a0) : Int)))) then tst (m56 ((Go.IntKind.wrap Go.IntKind.i64 (List.getD a0 (0 : Nat) (0 : Int))), ((Go.IntKind.wrap Go.IntKind.i64 (q2 - (1 : Int))), (q3, (q4, (q5, (Go.IntKind.wrap Go.IntKind.i64 (List.getD a0 (13 : Nat) (0 : Int))))))))) (0 : Int) fun (q7 : Int) => bif (q7 != (0 : Int)) then some (n22 ((5 : Int), (0 : Int), (0 : Int), (0 : Int), (0 : Int), (0 : Int), (0 : Int)))
                else some (n22 ((0 : Int), (Go.IntKind.wrap Go.IntKind.i64 (List.getD a0 (0 : Nat) (0 : Int))), (Go.IntKind.wrap Go.IntKind.i64 (q2 - (1 : Int))), q3, q4, q5, (Go.IntKind.wrap Go.IntKind.i64 (List.getD a0 (13 : Nat) (0 : Int)))))
            else none
  else none := by kernel_rfl
def g22 (m63 : ((List Int) × Int × Int) → Option Int) (m56 : (Int × Int × Int × Int × Int × Int) → Option Int) (L : Nat) (a0 : (List Int)) : Option (Int × Int × Int × Int × Int × Int × Int) :=
  bif ((Nat.cast (List.length a0) : Int) != (14 : Int)) then some ((5 : Int), (0 : Int), (0 : Int), (0 : Int), (0 : Int), (0 : Int), (0 : Int))
  else bif ((decide ((0 : Int) ≤ (0 : Int))) && (decide ((0 : Int) < (Nat.cast (List.length a0) : Int)))) then tst (m63 (a0, ((1 : Int), (4 : Int)))) (0 : Int) fun (q2 : Int) => tst (m63 (a0, ((5 : Int), (2 : Int)))) (0 : Int) fun (q3 : Int) => tst (m63 (a0, ((7 : Int), (4 : Int)))) (0 : Int) fun (q4 : Int) => tst (m63 (a0, ((11 : Int), (2 : Int)))) (0 : Int) fun (q5 : Int) => bif ((decide ((0 : Int) ≤ (13 : Int))) && (decide ((13 : Int) < (Nat.cast (List.length a0) : Int)))) then tst (m56 ((Go.IntKind.wrap Go.IntKind.i64 (List.getD a0 (0 : Nat) (0 : Int))), ((Go.IntKind.wrap Go.IntKind.i64 (q2 - (1 : Int))), (q3, (q4, (q5, (Go.IntKind.wrap Go.IntKind.i64 (List.getD a0 (13 : Nat) (0 : Int))))))))) (0 : Int) fun (q7 : Int) => bif (q7 != (0 : Int)) then some ((5 : Int), (0 : Int), (0 : Int), (0 : Int), (0 : Int), (0 : Int), (0 : Int))
                else some ((0 : Int), (Go.IntKind.wrap Go.IntKind.i64 (List.getD a0 (0 : Nat) (0 : Int))), (Go.IntKind.wrap Go.IntKind.i64 (q2 - (1 : Int))), q3, q4, q5, (Go.IntKind.wrap Go.IntKind.i64 (List.getD a0 (13 : Nat) (0 : Int))))
            else none
  else none
theorem e22 (m63 : ((List Int) × Int × Int) → Option Int) (m56 : (Int × Int × Int × Int × Int × Int) → Option Int) (L : Nat) (a0 : (List Int)) : evF prog (ev22 m63 m56) (loopN L) f22 (a22.enc a0) = (g22 m63 m56 L a0).map n22 := by
  rw [i22]; simp only [g22, map_bif, map_tst, map_bnd, Option.map_some, Option.map_none]
theorem s22 (m63 : ((List Int) × Int × Int) → Option Int) (m56 : (Int × Int × Int × Int × Int × Int) → Option Int) (h63 : Sat prog cxT 63 (c63 m63)) (h56 : Sat prog cxT 56 (c56 m56)) (m : (List Int) → Option (Int × Int × Int × Int × Int × Int × Int)) (hm : ∀ (x : (List Int)) t, m x = some t → ∃ L, g22 m63 m56 L x = some t) : Sat prog cxT 22 (c22 m) :=
  sat_t cxT_ok cxT_pok (by rfl) (fn := f22) rfl a22 n22 dd22 m (ev22 m63 m56) (kok_cons h63 (kok_cons h56 kok_nil)) kwok_nil (fun L x => g22 m63 m56 L x) (fun L x => e22 m63 m56 L x) hm hs22
/-! loop.example/g00222/spec.l6Next -/
/-! loop.example/g00222/spec.UnpackConfig -/
/-! loop.example/g00222/impl.TakeNumber -/
def ev163 (m188 : Int → Option Bool) : Env cxT := { Kc := kcOf [(188, c188 m188)], Kw := kwOf [], lv := fun i => if i = 0 then [(6, []), (7, []), (31, [some 5]), (32, []), (33, [])] else [], xv := fun i => if i = 0 then some [(6, []), (7, [])] else none }
def S163_0 (a0 : (List Int)) (a1 : Int) (a2 : Int) (v0_6_0 : Int) (v0_6_1 : Int) (v0_7 : Int) (v0_33 : Int) : St cxT.ty := { slots := [junk, junk, junk, junk, junk, junk, (.inr (.inr { kind := 0, nm := 384, cells := [(lv (.int .i64 v0_6_0)), (lv (.int .i64 v0_6_1))], s := { own := 0, nm := 0, e := 0, o := false, xs := ([] : List (PUnit)) }, i := 0, off := 0 })), (.inl (.inl (lv (.int .u64 v0_7)))), junk, junk, junk, junk, junk, junk, junk, junk, junk, junk, junk, junk, junk, junk, junk, junk, junk, junk, junk, junk, junk, junk, junk, (.inl (.inl (ls { own := 0, nm := 0, e := 5, o := false, xs := (List.drop (Int.toNat a1) (List.take (Int.toNat (Go.IntKind.wrap Go.IntKind.i64 (a1 + a2))) a0)) }))), (.inl (.inl (lv (.int .i64 (Nat.cast (List.length (List.drop (Int.toNat a1) (List.take (Int.toNat (Go.IntKind.wrap Go.IntKind.i64 (a1 + a2))) a0))) : Int))))), (.inl (.inl (lv (.int .i64 v0_33))))] ++ List.replicate 12 junk, D := [], F := [], ctr := 1 }
def X163_0 (a0 : (List Int)) (a1 : Int) (a2 : Int) (w0_6_0 : Int) (w0_6_1 : Int) (w0_7 : Int) : St cxT.ty := { slots := [junk, junk, junk, junk, junk, junk, (.inr (.inr { kind := 0, nm := 384, cells := [(lv (.int .i64 w0_6_0)), (lv (.int .i64 w0_6_1))], s := { own := 0, nm := 0, e := 0, o := false, xs := ([] : List (PUnit)) }, i := 0, off := 0 })), (.inl (.inl (lv (.int .u64 w0_7))))] ++ List.replicate 38 junk, D := [], F := [], ctr := 1 }
theorem i163 (m188 : Int → Option Bool) (L : Nat) (a0 : (List Int)) (a1 : Int) (a2 : Int) : evF prog (ev163 m188) (loopN L) f163 (a163.enc (a0, a1, a2)) =
  tst (m188 a2) false fun (q1 : Bool) => bif (!q1) then some (n163 ((3 : Int), (0 : Int)))
    else bif (decide (a1 < (0 : Int))) then some (n163 ((3 : Int), (0 : Int)))
    else bif (decide (a1 > (Go.IntKind.wrap Go.IntKind.i64 ((Nat.cast (List.length a0) : Int) - a2)))) then some (n163 ((3 : Int), (0 : Int)))
    else bif (((decide ((0 : Int) ≤ a1)) && (decide (a1 ≤ (Go.IntKind.wrap Go.IntKind.i64 (a1 + a2))))) && (decide ((Go.IntKind.wrap Go.IntKind.i64 (a1 + a2)) ≤ (Nat.cast (List.length a0) : Int)))) then headF prog (ev163 m188) L f163 0 [1, 1, 1, 0, 1, 0, 0] (outK (outV prog f163) (topK prog (ev163 m188) L f163 [1, 1, 1, 0, 1] (outV prog f163)).n (topK prog (ev163 m188) L f163 [1, 1, 1, 0, 1] (outV prog f163)).x) L (S163_0 a0 a1 a2 (0 : Int) (0 : Int) (0 : Int) (0 : Int))
    else none := by kernel_rfl
theorem r163_0 (m188 : Int → Option Bool) (L : Nat) (a0 : (List Int)) (a1 : Int) (a2 : Int) (k : St cxT.ty → Option (V cxT.ty)) (xk : Nat → St cxT.ty → Option (V cxT.ty)) (g : St cxT.ty → Option (V cxT.ty)) (v0_6_0 : Int) (v0_6_1 : Int) (v0_7 : Int) (v0_33 : Int) : roundF prog (ev163 m188) L f163 0 [1, 1, 1, 0, 1, 0, 0] (outK (outV prog f163) k xk) g (S163_0 a0 a1 a2 v0_6_0 v0_6_1 v0_7 v0_33) =
  bif (decide (v0_33 < (Nat.cast (List.length (List.drop (Int.toNat a1) (List.take (Int.toNat (Go.IntKind.wrap Go.IntKind.i64 (a1 + a2))) a0))) : Int))) then bif ((decide ((0 : Int) ≤ v0_33)) && (decide (v0_33 < (Nat.cast (List.length (List.drop (Int.toNat a1) (List.take (Int.toNat (Go.IntKind.wrap Go.IntKind.i64 (a1 + a2))) a0))) : Int)))) then g (S163_0 a0 a1 a2 v0_6_0 v0_6_1 (Go.IntKind.wrap Go.IntKind.u64 (Nat.cast (BitVec.toNat (HOr.hOr (BitVec.ofInt (Go.IntKind.bits Go.IntKind.u64) (Go.IntKind.wrap Go.IntKind.u64 (v0_7 * ((2 : Int) ^ (min (Int.toNat (8 : Int)) (Go.IntKind.bits Go.IntKind.u64)))))) (BitVec.ofInt (Go.IntKind.bits Go.IntKind.u64) (Go.IntKind.wrap Go.IntKind.u64 (List.getD (List.drop (Int.toNat a1) (List.take (Int.toNat (Go.IntKind.wrap Go.IntKind.i64 (a1 + a2))) a0)) (Int.toNat v0_33) (0 : Int)))))) : Int)) (Go.IntKind.wrap Go.IntKind.i64 (v0_33 + (1 : Int))))
    else none
  else k (X163_0 a0 a1 a2 v0_6_0 v0_6_1 v0_7) := by kernel_rfl
theorem t163_0 (m188 : Int → Option Bool) (L : Nat) (a0 : (List Int)) (a1 : Int) (a2 : Int) (w0_6_0 : Int) (w0_6_1 : Int) (w0_7 : Int) : (topK prog (ev163 m188) L f163 [1, 1, 1, 0, 1] (outV prog f163)).n (X163_0 a0 a1 a2 w0_6_0 w0_6_1 w0_7) =
  some (n163 ((0 : Int), (Go.IntKind.wrap Go.IntKind.i64 w0_7))) := by kernel_rfl
def l163_0 (m188 : Int → Option Bool) (L : Nat) (a0 : (List Int)) (a1 : Int) (a2 : Int) : Nat → Int → Int → Int → Int → (Int → Int → Int → Option (Int × Int)) → Option (Int × Int)
  | 0, _, _, _, _, _ => none
  | n + 1, v0_6_0, v0_6_1, v0_7, v0_33, k =>
    bif (decide (v0_33 < (Nat.cast (List.length (List.drop (Int.toNat a1) (List.take (Int.toNat (Go.IntKind.wrap Go.IntKind.i64 (a1 + a2))) a0))) : Int))) then bif ((decide ((0 : Int) ≤ v0_33)) && (decide (v0_33 < (Nat.cast (List.length (List.drop (Int.toNat a1) (List.take (Int.toNat (Go.IntKind.wrap Go.IntKind.i64 (a1 + a2))) a0))) : Int)))) then l163_0 m188 L a0 a1 a2 n v0_6_0 v0_6_1 (Go.IntKind.wrap Go.IntKind.u64 (Nat.cast (BitVec.toNat (HOr.hOr (BitVec.ofInt (Go.IntKind.bits Go.IntKind.u64) (Go.IntKind.wrap Go.IntKind.u64 (v0_7 * ((2 : Int) ^ (min (Int.toNat (8 : Int)) (Go.IntKind.bits Go.IntKind.u64)))))) (BitVec.ofInt (Go.IntKind.bits Go.IntKind.u64) (Go.IntKind.wrap Go.IntKind.u64 (List.getD (List.drop (Int.toNat a1) (List.take (Int.toNat (Go.IntKind.wrap Go.IntKind.i64 (a1 + a2))) a0)) (Int.toNat v0_33) (0 : Int)))))) : Int)) (Go.IntKind.wrap Go.IntKind.i64 (v0_33 + (1 : Int))) k
      else none
    else k v0_6_0 v0_6_1 v0_7
theorem h163_0 (m188 : Int → Option Bool) (L : Nat) (a0 : (List Int)) (a1 : Int) (a2 : Int) (k : St cxT.ty → Option (V cxT.ty)) (xk : Nat → St cxT.ty → Option (V cxT.ty)) (k' : Int → Int → Int → Option (Int × Int)) (hk : ∀ (w0_6_0 : Int) (w0_6_1 : Int) (w0_7 : Int), k (X163_0 a0 a1 a2 w0_6_0 w0_6_1 w0_7) = (k' w0_6_0 w0_6_1 w0_7).map n163) : ∀ (n : Nat) (v0_6_0 : Int) (v0_6_1 : Int) (v0_7 : Int) (v0_33 : Int), headF prog (ev163 m188) L f163 0 [1, 1, 1, 0, 1, 0, 0] (outK (outV prog f163) k xk) n (S163_0 a0 a1 a2 v0_6_0 v0_6_1 v0_7 v0_33) = (l163_0 m188 L a0 a1 a2 n v0_6_0 v0_6_1 v0_7 v0_33 k').map n163
  | 0, _, _, _, _ => rfl
  | n + 1, v0_6_0, v0_6_1, v0_7, v0_33 => by
    rw [headF_round, r163_0]
    have ih := h163_0 m188 L a0 a1 a2 k xk k' hk n
    simp only [l163_0, map_bif, map_tst, map_bnd, Option.map_some, Option.map_none, ih, hk]
def g163 (m188 : Int → Option Bool) (L : Nat) (a0 : (List Int)) (a1 : Int) (a2 : Int) : Option (Int × Int) :=
  tst (m188 a2) false fun (q1 : Bool) => bif (!q1) then some ((3 : Int), (0 : Int))
    else bif (decide (a1 < (0 : Int))) then some ((3 : Int), (0 : Int))
    else bif (decide (a1 > (Go.IntKind.wrap Go.IntKind.i64 ((Nat.cast (List.length a0) : Int) - a2)))) then some ((3 : Int), (0 : Int))
    else bif (((decide ((0 : Int) ≤ a1)) && (decide (a1 ≤ (Go.IntKind.wrap Go.IntKind.i64 (a1 + a2))))) && (decide ((Go.IntKind.wrap Go.IntKind.i64 (a1 + a2)) ≤ (Nat.cast (List.length a0) : Int)))) then l163_0 m188 L a0 a1 a2 L (0 : Int) (0 : Int) (0 : Int) (0 : Int) (fun (w0_6_0 : Int) (w0_6_1 : Int) (w0_7 : Int) => some ((0 : Int), (Go.IntKind.wrap Go.IntKind.i64 w0_7)))
    else none
theorem e163 (m188 : Int → Option Bool) (L : Nat) (a0 : (List Int)) (a1 : Int) (a2 : Int) : evF prog (ev163 m188) (loopN L) f163 (a163.enc (a0, a1, a2)) = (g163 m188 L a0 a1 a2).map n163 := by
  let K'0 : Int → Int → Int → Option (Int × Int) := (fun (w0_6_0 : Int) (w0_6_1 : Int) (w0_7 : Int) => some ((0 : Int), (Go.IntKind.wrap Go.IntKind.i64 w0_7)))
  have hin0 : ∀ (v0_6_0 : Int) (v0_6_1 : Int) (v0_7 : Int) (v0_33 : Int), headF prog (ev163 m188) L f163 0 [1, 1, 1, 0, 1, 0, 0] (outK (outV prog f163) (topK prog (ev163 m188) L f163 [1, 1, 1, 0, 1] (outV prog f163)).n (topK prog (ev163 m188) L f163 [1, 1, 1, 0, 1] (outV prog f163)).x) L (S163_0 a0 a1 a2 v0_6_0 v0_6_1 v0_7 v0_33) = (l163_0 m188 L a0 a1 a2 L v0_6_0 v0_6_1 v0_7 v0_33 K'0).map n163 := fun v0_6_0 v0_6_1 v0_7 v0_33 => h163_0 m188 L a0 a1 a2 _ _ K'0 (fun w0_6_0 w0_6_1 w0_7 => by rw [t163_0]; simp only [K'0, map_bif, map_tst, map_bnd, Option.map_some, Option.map_none]) L v0_6_0 v0_6_1 v0_7 v0_33
  rw [i163]; simp only [g163, map_bif, map_tst, map_bnd, Option.map_some, Option.map_none, hin0, K'0]
theorem s163 (m188 : Int → Option Bool) (h188 : Sat prog cxT 188 (c188 m188)) (m : ((List Int) × Int × Int) → Option (Int × Int)) (hm : ∀ (x : ((List Int) × Int × Int)) t, m x = some t → ∃ L, g163 m188 L x.1 x.2.1 x.2.2 = some t) : Sat prog cxT 163 (c163 m) :=
  sat_t cxT_ok cxT_pok (by rfl) (fn := f163) rfl a163 n163 dd163 m (ev163 m188) (kok_cons h188 kok_nil) kwok_nil (fun L x => g163 m188 L x.1 x.2.1 x.2.2) (fun L x => e163 m188 L x.1 x.2.1 x.2.2) hm hs163
/-! loop.example/g00222/impl.isNumberSize -/
def ev188 : Env cxT := { Kc := kcOf [], Kw := kwOf [], lv := fun i => [], xv := fun i => none }
theorem i188 (L : Nat) (a0 : Int) : evF prog ev188 (loopN L) f188 (a188.enc a0) =
  bif (decide (a0 ≥ (1 : Int))) then some (n188 (decide (a0 ≤ (6 : Int))))
  else some (n188 Bool.false) := by kernel_rfl
def g188 (L : Nat) (a0 : Int) : Option Bool :=
  bif (decide (a0 ≥ (1 : Int))) then some (decide (a0 ≤ (6 : Int)))
  else some Bool.false
theorem e188 (L : Nat) (a0 : Int) : evF prog ev188 (loopN L) f188 (a188.enc a0) = (g188 L a0).map n188 := by
  rw [i188]; simp only [g188, map_bif, map_tst, map_bnd, Option.map_some, Option.map_none]
theorem s188 (m : Int → Option Bool) (hm : ∀ (x : Int) t, m x = some t → ∃ L, g188 L x = some t) : Sat prog cxT 188 (c188 m) :=
  sat_t cxT_ok cxT_pok (by rfl) (fn := f188) rfl a188 n188 dd188 m ev188 kok_nil kwok_nil (fun L x => g188 L x) (fun L x => e188 L x) hm hs188
/-! bytes.Equal -/
def ev115 : Env cxT := { Kc := kcOf [], Kw := kwOf [], lv := fun i => [], xv := fun i => none }
theorem i115 (L : Nat) (a0 : (List Int)) (a1 : (List Int)) : evF prog ev115 (loopN L) f115 (a115.enc (a0, a1)) =
  some (n115 ((ByteArray.toList (strV (flatVals cxT (5 : Nat) a0))) == (ByteArray.toList (strV (flatVals cxT (5 : Nat) a1))))) := by kernel_rfl
def g115 (L : Nat) (a0 : (List Int)) (a1 : (List Int)) : Option Bool :=
  some ((ByteArray.toList (strV (flatVals cxT (5 : Nat) a0))) == (ByteArray.toList (strV (flatVals cxT (5 : Nat) a1))))
theorem e115 (L : Nat) (a0 : (List Int)) (a1 : (List Int)) : evF prog ev115 (loopN L) f115 (a115.enc (a0, a1)) = (g115 L a0 a1).map n115 := by
  rw [i115]; simp only [g115, map_bif, map_tst, map_bnd, Option.map_some, Option.map_none]
theorem s115 (m : ((List Int) × (List Int)) → Option Bool) (hm : ∀ (x : ((List Int) × (List Int))) t, m x = some t → ∃ L, g115 L x.1 x.2 = some t) : Sat prog cxT 115 (c115 m) :=
  sat_t cxT_ok cxT_pok (by rfl) (fn := f115) rfl a115 n115 dd115 m ev115 kok_nil kwok_nil (fun L x => g115 L x.1 x.2) (fun L x => e115 L x.1 x.2) hm hs115
/-! loop.example/g00222/impl.isWritten -/
def ev65 (m115 : ((List Int) × (List Int)) → Option Bool) : Env cxT := { Kc := kcOf [(115, c115 m115)], Kw := kwOf [], lv := fun i => [], xv := fun i => none }
theorem i65 (m115 : ((List Int) × (List Int)) → Option Bool) (L : Nat) (a0_0 : Int) (a0_1 : (List Int)) (a1 : (List Int)) : evF prog (ev65 m115) (loopN L) f65 (a65.enc ((a0_0, a0_1), a1)) =
  bif (a0_0 == (0 : Int)) then tst (m115 (a0_1, a1)) false fun (q2 : Bool) => some (n65 q2)
  else some (n65 Bool.false) := by kernel_rfl
def g65 (m115 : ((List Int) × (List Int)) → Option Bool) (L : Nat) (a0_0 : Int) (a0_1 : (List Int)) (a1 : (List Int)) : Option Bool :=
  bif (a0_0 == (0 : Int)) then tst (m115 (a0_1, a1)) false fun (q2 : Bool) => some q2
  else some Bool.false
theorem e65 (m115 : ((List Int) × (List Int)) → Option Bool) (L : Nat) (a0_0 : Int) (a0_1 : (List Int)) (a1 : (List Int)) : evF prog (ev65 m115) (loopN L) f65 (a65.enc ((a0_0, a0_1), a1)) = (g65 m115 L a0_0 a0_1 a1).map n65 := by
  rw [i65]; simp only [g65, map_bif, map_tst, map_bnd, Option.map_some, Option.map_none]
theorem s65 (m115 : ((List Int) × (List Int)) → Option Bool) (h115 : Sat prog cxT 115 (c115 m115)) (m : ((Int × (List Int)) × (List Int)) → Option Bool) (hm : ∀ (x : ((Int × (List Int)) × (List Int))) t, m x = some t → ∃ L, g65 m115 L x.1.1 x.1.2 x.2 = some t) : Sat prog cxT 65 (c65 m) :=
  sat_t cxT_ok cxT_pok (by rfl) (fn := f65) rfl a65 n65 dd65 m (ev65 m115) (kok_cons h115 kok_nil) kwok_nil (fun L x => g65 m115 L x.1.1 x.1.2 x.2) (fun L x => e65 m115 L x.1.1 x.1.2 x.2) hm hs65
/-! loop.example/g00222/impl.PackCmd -/
def ev18 (m58 : (Int × Int × Int × Int × Int × Int) → Option Int) (m60 : (Int × Int) → Option (List Int)) (m61 : Int → Option (List Int)) (m59 : (List (List Int)) → Option (List Int)) : Env cxT := { Kc := kcOf [(58, c58 m58), (60, c60 m60), (61, c61 m61), (59, c59 m59)], Kw := kwOf [], lv := fun i => [], xv := fun i => none }
theorem i18 (m58 : (Int × Int × Int × Int × Int × Int) → Option Int) (m60 : (Int × Int) → Option (List Int)) (m61 : Int → Option (List Int)) (m59 : (List (List Int)) → Option (List Int)) (L : Nat) (a0_0 : Int) (a0_1 : Int) (a0_2 : Int) (a0_3 : Int) (a0_4 : Int) (a0_5 : Int) : evF prog (ev18 m58 m60 m61 m59) (loopN L) f18 (a18.enc (a0_0, a0_1, a0_2, a0_3, a0_4, a0_5)) =
  tst (m58 (a0_0, (a0_1, (a0_2, (a0_3, (a0_4, a0_5)))))) (0 : Int) fun (q1 : Int) => bif (q1 != (0 : Int)) then some (n18 (q1, ([] : List (Int))))
    else tst (m60 (a0_0, (1 : Int))) [] fun (q2 : (List Int)) => tst (m60 ((Go.IntKind.wrap Go.IntKind.i64 (a0_1 + (1 : Int))), (4 : Int))) [] fun (q3 : (List Int)) => tst (m61 a0_2) [] fun (q4 : (List Int)) => tst (m60 (a0_3, (4 : Int))) [] fun (q5 : (List Int)) => tst (m60 (a0_4, (2 : Int))) [] fun (q6 : (List Int)) => tst (m60 (a0_5, (1 : Int))) [] fun (q7 : (List Int)) => tst (m59 (List.cons q2 (List.cons q3 (List.cons q4 (List.cons q5 (List.cons q6 (List.cons q7 ([] : List (List Int))))))))) [] fun (q8 : (List Int)) => some (n18 ((0 : Int), q8)) := by kernel_rfl
def g18 (m58 : (Int × Int × Int × Int × Int × Int) → Option Int) (m60 : (Int × Int) → Option (List Int)) (m61 : Int → Option (List Int)) (m59 : (List (List Int)) → Option (List Int)) (L : Nat) (a0_0 : Int) (a0_1 : Int) (a0_2 : Int) (a0_3 : Int) (a0_4 : Int) (a0_5 : Int) : Option (Int × (List Int)) :=
  tst (m58 (a0_0, (a0_1, (a0_2, (a0_3, (a0_4, a0_5)))))) (0 : Int) fun (q1 : Int) => bif (q1 != (0 : Int)) then some (q1, ([] : List (Int)))
    else tst (m60 (a0_0, (1 : Int))) [] fun (q2 : (List Int)) => tst (m60 ((Go.IntKind.wrap Go.IntKind.i64 (a0_1 + (1 : Int))), (4 : Int))) [] fun (q3 : (List Int)) => tst (m61 a0_2) [] fun (q4 : (List Int)) => tst (m60 (a0_3, (4 : Int))) [] fun (q5 : (List Int)) => tst (m60 (a0_4, (2 : Int))) [] fun (q6 : (List Int)) => tst (m60 (a0_5, (1 : Int))) [] fun (q7 : (List Int)) => tst (m59 (List.cons q2 (List.cons q3 (List.cons q4 (List.cons q5 (List.cons q6 (List.cons q7 ([] : List (List Int))))))))) [] fun (q8 : (List Int)) => some ((0 : Int), q8)
theorem e18 (m58 : (Int × Int × Int × Int × Int × Int) → Option Int) (m60 : (Int × Int) → Option (List Int)) (m61 : Int → Option (List Int)) (m59 : (List (List Int)) → Option (List Int)) (L : Nat) (a0_0 : Int) (a0_1 : Int) (a0_2 : Int) (a0_3 : Int) (a0_4 : Int) (a0_5 : Int) : evF prog (ev18 m58 m60 m61 m59) (loopN L) f18 (a18.enc (a0_0, a0_1, a0_2, a0_3, a0_4, a0_5)) = (g18 m58 m60 m61 m59 L a0_0 a0_1 a0_2 a0_3 a0_4 a0_5).map n18 := by
  rw [i18]; simp only [g18, map_bif, map_tst, map_bnd, Option.map_some, Option.map_none]
theorem s18 (m58 : (Int × Int × Int × Int × Int × Int) → Option Int) (m60 : (Int × Int) → Option (List Int)) (m61 : Int → Option (List Int)) (m59 : (List (List Int)) → Option (List Int)) (h58 : Sat prog cxT 58 (c58 m58)) (h60 : Sat prog cxT 60 (c60 m60)) (h61 : Sat prog cxT 61 (c61 m61)) (h59 : Sat prog cxT 59 (c59 m59)) (m : (Int × Int × Int × Int × Int × Int) → Option (Int × (List Int))) (hm : ∀ (x : (Int × Int × Int × Int × Int × Int)) t, m x = some t → ∃ L, g18 m58 m60 m61 m59 L x.1 x.2.1 x.2.2.1 x.2.2.2.1 x.2.2.2.2.1 x.2.2.2.2.2 = some t) : Sat prog cxT 18 (c18 m) :=
  sat_t cxT_ok cxT_pok (by rfl) (fn := f18) rfl a18 n18 dd18 m (ev18 m58 m60 m61 m59) (kok_cons h58 (kok_cons h60 (kok_cons h61 (kok_cons h59 kok_nil)))) kwok_nil (fun L x => g18 m58 m60 m61 m59 L x.1 x.2.1 x.2.2.1 x.2.2.2.1 x.2.2.2.2.1 x.2.2.2.2.2) (fun L x => e18 m58 m60 m61 m59 L x.1 x.2.1 x.2.2.1 x.2.2.2.1 x.2.2.2.2.1 x.2.2.2.2.2) hm hs18
/-! loop.example/g00222/laws.FnExactPackCmd -/
def ev4 (m17 : (Int × Int × Int × Int × Int × Int) → Option (Int × Int × Int × Int × Int × Int)) (m16 : (Int × Int × Int × Int × Int × Int) → Option (Int × (List Int))) (m18 : (Int × Int × Int × Int × Int × Int) → Option (Int × (List Int))) (m19 : ((Int × (List Int)) × (Int × (List Int))) → Option Bool) (m20 : ((Int × (List Int)) × Int) → Option (Int × Int × (List Int))) (m21 : ((Int × (List Int)) × Int) → Option Int) : Env cxT := { Kc := kcOf [(17, c17 m17), (16, c16 m16), (18, c18 m18), (19, c19 m19), (21, c21 m21)], Kw := kwOf [(20, c20 m20)], lv := fun i => [], xv := fun i => none }
theorem i4 (m17 : (Int × Int × Int × Int × Int × Int) → Option (Int × Int × Int × Int × Int × Int)) (m16 : (Int × Int × Int × Int × Int × Int) → Option (Int × (List Int))) (m18 : (Int × Int × Int × Int × Int × Int) → Option (Int × (List Int))) (m19 : ((Int × (List Int)) × (Int × (List Int))) → Option Bool) (m20 : ((Int × (List Int)) × Int) → Option (Int × Int × (List Int))) (m21 : ((Int × (List Int)) × Int) → Option Int) (L : Nat) (a0_0 : Int) (a0_1 : Int) (a0_2 : Int) (a0_3 : Int) (a0_4 : Int) (a0_5 : Int) : evFL prog (ev4 m17 m16 m18 m19 m20 m21) (loopN L) f4 (a4.enc (a0_0, a0_1, a0_2, a0_3, a0_4, a0_5)) =
  tst (m17 (a0_0, (a0_1, (a0_2, (a0_3, (a0_4, a0_5)))))) ((0 : Int), (0 : Int), (0 : Int), (0 : Int), (0 : Int), (0 : Int)) fun (q1 : (Int × Int × Int × Int × Int × Int)) => tst (m16 (q1.1, (q1.2.1, (q1.2.2.1, (q1.2.2.2.1, (q1.2.2.2.2.1, q1.2.2.2.2.2)))))) ((0 : Int), []) fun (q2 : (Int × (List Int))) => tst (m17 (a0_0, (a0_1, (a0_2, (a0_3, (a0_4, a0_5)))))) ((0 : Int), (0 : Int), (0 : Int), (0 : Int), (0 : Int), (0 : Int)) fun (q3 : (Int × Int × Int × Int × Int × Int)) => tst (m18 (q1.1, (q1.2.1, (q1.2.2.1, (q1.2.2.2.1, (q1.2.2.2.2.1, q1.2.2.2.2.2)))))) ((0 : Int), []) fun (q4 : (Int × (List Int))) => tst (m19 ((q4.1, q4.2), (q2.1, q2.2))) false fun (q5 : Bool) => bif (!q5) then some (n4 Bool.false)
            else tst (m20 ((q4.1, q4.2), (1 : Int))) ((0 : Int), (0 : Int), []) fun (q6 : (Int × Int × (List Int))) => tst (m21 ((q4.1, q6.2.2), (1 : Int))) (0 : Int) fun (q7 : Int) => bif (decide (q7 < (0 : Int))) then some (n4 Bool.false)
                else bif (q7 != q6.1) then some (n4 Bool.false)
                else tst (m17 (a0_0, (a0_1, (a0_2, (a0_3, (a0_4, a0_5)))))) ((0 : Int), (0 : Int), (0 : Int), (0 : Int), (0 : Int), (0 : Int)) fun (q8 : (Int × Int × Int × Int × Int × Int)) => tst (m18 (q1.1, (q1.2.1, (q1.2.2.1, (q1.2.2.2.1, (q1.2.2.2.2.1, q1.2.2.2.2.2)))))) ((0 : Int), []) fun (q9 : (Int × (List Int))) => tst (m19 ((q4.1, q4.2), (q2.1, q2.2))) false fun (q10 : Bool) => bif (!q5) then some (n4 Bool.false)
                      else tst (m21 ((q4.1, q6.2.2), (1 : Int))) (0 : Int) fun (q11 : Int) => bif (decide (q7 < (0 : Int))) then some (n4 Bool.false)
                        else bif (q7 != q6.1) then some (n4 Bool.false)
                        else some (n4 Bool.true) := by kernel_rfl
def g4 (m17 : (Int × Int × Int × Int × Int × Int) → Option (Int × Int × Int × Int × Int × Int)) (m16 : (Int × Int × Int × Int × Int × Int) → Option (Int × (List Int))) (m18 : (Int × Int × Int × Int × Int × Int) → Option (Int × (List Int))) (m19 : ((Int × (List Int)) × (Int × (List Int))) → Option Bool) (m20 : ((Int × (List Int)) × Int) → Option (Int × Int × (List Int))) (m21 : ((Int × (List Int)) × Int) → Option Int) (L : Nat) (a0_0 : Int) (a0_1 : Int) (a0_2 : Int) (a0_3 : Int) (a0_4 : Int) (a0_5 : Int) : Option Bool :=
  tst (m17 (a0_0, (a0_1, (a0_2, (a0_3, (a0_4, a0_5)))))) ((0 : Int), (0 : Int), (0 : Int), (0 : Int), (0 : Int), (0 : Int)) fun (q1 : (Int × Int × Int × Int × Int × Int)) => tst (m16 (q1.1, (q1.2.1, (q1.2.2.1, (q1.2.2.2.1, (q1.2.2.2.2.1, q1.2.2.2.2.2)))))) ((0 : Int), []) fun (q2 : (Int × (List Int))) => tst (m17 (a0_0, (a0_1, (a0_2, (a0_3, (a0_4, a0_5)))))) ((0 : Int), (0 : Int), (0 : Int), (0 : Int), (0 : Int), (0 : Int)) fun (q3 : (Int × Int × Int × Int × Int × Int)) => tst (m18 (q1.1, (q1.2.1, (q1.2.2.1, (q1.2.2.2.1, (q1.2.2.2.2.1, q1.2.2.2.2.2)))))) ((0 : Int), []) fun (q4 : (Int × (List Int))) => tst (m19 ((q4.1, q4.2), (q2.1, q2.2))) false fun (q5 : Bool) => bif (!q5) then some Bool.false
            else tst (m20 ((q4.1, q4.2), (1 : Int))) ((0 : Int), (0 : Int), []) fun (q6 : (Int × Int × (List Int))) => tst (m21 ((q4.1, q6.2.2), (1 : Int))) (0 : Int) fun (q7 : Int) => bif (decide (q7 < (0 : Int))) then some Bool.false
                else bif (q7 != q6.1) then some Bool.false
                else tst (m17 (a0_0, (a0_1, (a0_2, (a0_3, (a0_4, a0_5)))))) ((0 : Int), (0 : Int), (0 : Int), (0 : Int), (0 : Int), (0 : Int)) fun (q8 : (Int × Int × Int × Int × Int × Int)) => tst (m18 (q1.1, (q1.2.1, (q1.2.2.1, (q1.2.2.2.1, (q1.2.2.2.2.1, q1.2.2.2.2.2)))))) ((0 : Int), []) fun (q9 : (Int × (List Int))) => tst (m19 ((q4.1, q4.2), (q2.1, q2.2))) false fun (q10 : Bool) => bif (!q5) then some Bool.false
                      else tst (m21 ((q4.1, q6.2.2), (1 : Int))) (0 : Int) fun (q11 : Int) => bif (decide (q7 < (0 : Int))) then some Bool.false
                        else bif (q7 != q6.1) then some Bool.false
                        else some Bool.true
theorem e4 (m17 : (Int × Int × Int × Int × Int × Int) → Option (Int × Int × Int × Int × Int × Int)) (m16 : (Int × Int × Int × Int × Int × Int) → Option (Int × (List Int))) (m18 : (Int × Int × Int × Int × Int × Int) → Option (Int × (List Int))) (m19 : ((Int × (List Int)) × (Int × (List Int))) → Option Bool) (m20 : ((Int × (List Int)) × Int) → Option (Int × Int × (List Int))) (m21 : ((Int × (List Int)) × Int) → Option Int) (L : Nat) (a0_0 : Int) (a0_1 : Int) (a0_2 : Int) (a0_3 : Int) (a0_4 : Int) (a0_5 : Int) : evFL prog (ev4 m17 m16 m18 m19 m20 m21) (loopN L) f4 (a4.enc (a0_0, a0_1, a0_2, a0_3, a0_4, a0_5)) = (g4 m17 m16 m18 m19 m20 m21 L a0_0 a0_1 a0_2 a0_3 a0_4 a0_5).map n4 := by
  rw [i4]; simp only [g4, map_bif, map_tst, map_bnd, Option.map_some, Option.map_none]
/-! loop.example/g00222/laws.FnExactUnpackCmd -/
def ev5 (m23 : (List Int) → Option (List Int)) (m22 : (List Int) → Option (Int × Int × Int × Int × Int × Int × Int)) (m24 : (List Int) → Option (Int × Int × Int × Int × Int × Int × Int)) (m25 : ((Int × Int × Int × Int × Int × Int × Int) × (Int × Int × Int × Int × Int × Int × Int)) → Option Bool) (m26 : ((List Int) × (List Int)) → Option Bool) : Env cxT := { Kc := kcOf [(23, c23 m23), (22, c22 m22), (24, c24 m24), (25, c25 m25), (26, c26 m26)], Kw := kwOf [], lv := fun i => [], xv := fun i => none }
theorem i5 (m23 : (List Int) → Option (List Int)) (m22 : (List Int) → Option (Int × Int × Int × Int × Int × Int × Int)) (m24 : (List Int) → Option (Int × Int × Int × Int × Int × Int × Int)) (m25 : ((Int × Int × Int × Int × Int × Int × Int) × (Int × Int × Int × Int × Int × Int × Int)) → Option Bool) (m26 : ((List Int) × (List Int)) → Option Bool) (L : Nat) (a0 : (List Int)) : evFL prog (ev5 m23 m22 m24 m25 m26) (loopN L) f5 (a5.enc a0) =
  bif (decide ((Nat.cast (List.length a0) : Int) > (1048576 : Int))) then some (n5 Bool.true)
  else tst (m23 a0) [] fun (q1 : (List Int)) => tst (m22 q1) ((0 : Int), (0 : Int), (0 : Int), (0 : Int), (0 : Int), (0 : Int), (0 : Int)) fun (q2 : (Int × Int × Int × Int × Int × Int × Int)) => tst (m23 a0) [] fun (q3 : (List Int)) => tst (m24 q1) ((0 : Int), (0 : Int), (0 : Int), (0 : Int), (0 : Int), (0 : Int), (0 : Int)) fun (q4 : (Int × Int × Int × Int × Int × Int × Int)) => tst (m25 ((q4.1, (q4.2.1, (q4.2.2.1, (q4.2.2.2.1, (q4.2.2.2.2.1, (q4.2.2.2.2.2.1, q4.2.2.2.2.2.2)))))), (q2.1, (q2.2.1, (q2.2.2.1, (q2.2.2.2.1, (q2.2.2.2.2.1, (q2.2.2.2.2.2.1, q2.2.2.2.2.2.2)))))))) false fun (q5 : Bool) => bif (!q5) then some (n5 Bool.false)
            else tst (m23 a0) [] fun (q6 : (List Int)) => tst (m26 (q1, q1)) false fun (q7 : Bool) => bif (!q7) then some (n5 Bool.false)
                else some (n5 Bool.true) := by kernel_rfl
def g5 (m23 : (List Int) → Option (List Int)) (m22 : (List Int) → Option (Int × Int × Int × Int × Int × Int × Int)) (m24 : (List Int) → Option (Int × Int × Int × Int × Int × Int × Int)) (m25 : ((Int × Int × Int × Int × Int × Int × Int) × (Int × Int × Int × Int × Int × Int × Int)) → Option Bool) (m26 : ((List Int) × (List Int)) → Option Bool) (L : Nat) (a0 : (List Int)) : Option Bool :=
  bif (decide ((Nat.cast (List.length a0) : Int) > (1048576 : Int))) then some Bool.true
  else tst (m23 a0) [] fun (q1 : (List Int)) => tst (m22 q1) ((0 : Int), (0 : Int), (0 : Int), (0 : Int), (0 : Int), (0 : Int), (0 : Int)) fun (q2 : (Int × Int × Int × Int × Int × Int × Int)) => tst (m23 a0) [] fun (q3 : (List Int)) => tst (m24 q1) ((0 : Int), (0 : Int), (0 : Int), (0 : Int), (0 : Int), (0 : Int), (0 : Int)) fun (q4 : (Int × Int × Int × Int × Int × Int × Int)) => tst (m25 ((q4.1, (q4.2.1, (q4.2.2.1, (q4.2.2.2.1, (q4.2.2.2.2.1, (q4.2.2.2.2.2.1, q4.2.2.2.2.2.2)))))), (q2.1, (q2.2.1, (q2.2.2.1, (q2.2.2.2.1, (q2.2.2.2.2.1, (q2.2.2.2.2.2.1, q2.2.2.2.2.2.2)))))))) false fun (q5 : Bool) => bif (!q5) then some Bool.false
            else tst (m23 a0) [] fun (q6 : (List Int)) => tst (m26 (q1, q1)) false fun (q7 : Bool) => bif (!q7) then some Bool.false
                else some Bool.true
theorem e5 (m23 : (List Int) → Option (List Int)) (m22 : (List Int) → Option (Int × Int × Int × Int × Int × Int × Int)) (m24 : (List Int) → Option (Int × Int × Int × Int × Int × Int × Int)) (m25 : ((Int × Int × Int × Int × Int × Int × Int) × (Int × Int × Int × Int × Int × Int × Int)) → Option Bool) (m26 : ((List Int) × (List Int)) → Option Bool) (L : Nat) (a0 : (List Int)) : evFL prog (ev5 m23 m22 m24 m25 m26) (loopN L) f5 (a5.enc a0) = (g5 m23 m22 m24 m25 m26 L a0).map n5 := by
  rw [i5]; simp only [g5, map_bif, map_tst, map_bnd, Option.map_some, Option.map_none]
theorem s5 (m23 : (List Int) → Option (List Int)) (m22 : (List Int) → Option (Int × Int × Int × Int × Int × Int × Int)) (m24 : (List Int) → Option (Int × Int × Int × Int × Int × Int × Int)) (m25 : ((Int × Int × Int × Int × Int × Int × Int) × (Int × Int × Int × Int × Int × Int × Int)) → Option Bool) (m26 : ((List Int) × (List Int)) → Option Bool) (h23 : Sat prog cxT 23 (c23 m23)) (h22 : Sat prog cxT 22 (c22 m22)) (h24 : Sat prog cxT 24 (c24 m24)) (h25 : Sat prog cxT 25 (c25 m25)) (h26 : Sat prog cxT 26 (c26 m26)) (m : (List Int) → Option Bool) (hm : ∀ (x : (List Int)) t, m x = some t → ∃ L, g5 m23 m22 m24 m25 m26 L x = some t) : Sat prog cxT 5 (c5 m) :=
  sat_l cxT_ok cxT_pok (by rfl) (fn := f5) rfl a5 n5 dd5 m (ev5 m23 m22 m24 m25 m26) (kok_cons h23 (kok_cons h22 (kok_cons h24 (kok_cons h25 (kok_cons h26 kok_nil))))) kwok_nil (fun L x => g5 m23 m22 m24 m25 m26 L x) (fun L x => e5 m23 m22 m24 m25 m26 L x) hm hs5
/-! loop.example/g00222/laws.FnExactUnpackConfig -/
def g7 (m23 : (List Int) → Option (List Int)) (m33 : (List Int) → Option (Int × Int × (List (Int × (Int × (Int × (Int × Bool))))) × (List (Int × (Int × (Int × (List Int))))))) (m34 : (List Int) → Option (Int × Int × (List (Int × (Int × (Int × (Int × Bool))))) × (List (Int × (Int × (Int × (List Int))))))) (m35 : ((Int × Int × (List (Int × (Int × (Int × (Int × Bool))))) × (List (Int × (Int × (Int × (List Int)))))) × (Int × Int × (List (Int × (Int × (Int × (Int × Bool))))) × (List (Int × (Int × (Int × (List Int))))))) → Option Bool) (m26 : ((List Int) × (List Int)) → Option Bool) (m36 : ((List Int) × Int) → Option (Int × (List Int))) (m37 : ((Int × Int × (List (Int × (Int × (Int × (Int × Bool))))) × (List (Int × (Int × (Int × (List Int)))))) × Int) → Option (Int × Int × Int × (List (Int × (Int × (Int × (Int × Bool))))) × (List (Int × (Int × (Int × (List Int))))))) (m38 : ((Int × Int × (List (Int × (Int × (Int × (Int × Bool))))) × (List (Int × (Int × (Int × (List Int)))))) × Int) → Option Int) (L : Nat) (a0 : (List Int)) : Option Bool :=
  bif (decide ((Nat.cast (List.length a0) : Int) > (1048576 : Int))) then some Bool.true
  else tst (m23 a0) [] fun (q1 : (List Int)) => tst (m33 q1) ((0 : Int), (0 : Int), [], []) fun (q2 : (Int × Int × (List (Int × (Int × (Int × (Int × Bool))))) × (List (Int × (Int × (Int × (List Int))))))) => tst (m23 a0) [] fun (q3 : (List Int)) => tst (m34 q1) ((0 : Int), (0 : Int), [], []) fun (q4 : (Int × Int × (List (Int × (Int × (Int × (Int × Bool))))) × (List (Int × (Int × (Int × (List Int))))))) => tst (m35 ((q4.1, (q4.2.1, (q4.2.2.1, q4.2.2.2))), (q2.1, (q2.2.1, (q2.2.2.1, q2.2.2.2))))) false fun (q5 : Bool) => bif (!q5) then some Bool.false
            else tst (m23 a0) [] fun (q6 : (List Int)) => tst (m26 (q1, q1)) false fun (q7 : Bool) => bif (!q7) then some Bool.false
                else tst (m36 (q1, (1 : Int))) ((0 : Int), []) fun (q8 : (Int × (List Int))) => bif (decide (q8.1 < (0 : Int))) then some Bool.false
                  else tst (m35 ((q4.1, (q4.2.1, (q4.2.2.1, q4.2.2.2))), (q2.1, (q2.2.1, (q2.2.2.1, q2.2.2.2))))) false fun (q9 : Bool) => bif (!q5) then some Bool.false
                    else tst (m37 ((q4.1, (q4.2.1, (q4.2.2.1, q4.2.2.2))), (1 : Int))) ((0 : Int), (0 : Int), (0 : Int), [], []) fun (q10 : (Int × Int × Int × (List (Int × (Int × (Int × (Int × Bool))))) × (List (Int × (Int × (Int × (List Int))))))) => tst (m38 ((q4.1, (q4.2.1, (q10.2.2.2.1, q10.2.2.2.2))), (1 : Int))) (0 : Int) fun (q11 : Int) => bif (decide (q11 < (0 : Int))) then some Bool.false
                        else bif (q11 != q10.1) then some Bool.false
                        else tst (m23 a0) [] fun (q12 : (List Int)) => tst (m34 q1) ((0 : Int), (0 : Int), [], []) fun (q13 : (Int × Int × (List (Int × (Int × (Int × (Int × Bool))))) × (List (Int × (Int × (Int × (List Int))))))) => tst (m35 ((q4.1, (q4.2.1, (q4.2.2.1, q4.2.2.2))), (q2.1, (q2.2.1, (q2.2.2.1, q2.2.2.2))))) false fun (q14 : Bool) => bif (!q5) then some Bool.false
                              else tst (m38 ((q4.1, (q4.2.1, (q10.2.2.2.1, q10.2.2.2.2))), (1 : Int))) (0 : Int) fun (q15 : Int) => bif (decide (q11 < (0 : Int))) then some Bool.false
                                else bif (q11 != q10.1) then some Bool.false
                                else some Bool.true
end Go.Proofs.Try

set_option maxHeartbeats 0
set_option maxRecDepth 100000
set_option linter.unusedVariables false
set_option linter.unusedSimpArgs false
namespace Go.Proofs.Try
open Go Go.VM Go.RowKit
/-! loop.example/g00222/impl.isYesOrNo -/
def ev161 : Env cxT := { Kc := kcOf [], Kw := kwOf [], lv := fun i => [], xv := fun i => none }
theorem i161 (L : Nat) (a0 : Int) : evF prog ev161 (loopN L) f161 (a161.enc a0) =
  bif (a0 == (0 : Int)) then some (n161 Bool.true)
  else some (n161 (a0 == (1 : Int))) := by kernel_rfl
def g161 (L : Nat) (a0 : Int) : Option Bool :=
  bif (a0 == (0 : Int)) then some Bool.true
  else some (a0 == (1 : Int))
theorem e161 (L : Nat) (a0 : Int) : evF prog ev161 (loopN L) f161 (a161.enc a0) = (g161 L a0).map n161 := by
  rw [i161]; simp only [g161, map_bif, map_tst, map_bnd, Option.map_some, Option.map_none]
theorem s161 (m : Int → Option Bool) (hm : ∀ (x : Int) t, m x = some t → ∃ L, g161 L x = some t) : Sat prog cxT 161 (c161 m) :=
  sat_t cxT_ok cxT_pok (by rfl) (fn := f161) rfl a161 n161 dd161 m ev161 kok_nil kwok_nil (fun L x => g161 L x) (fun L x => e161 L x) hm hs161
end Go.Proofs.Try

set_option maxHeartbeats 0
set_option maxRecDepth 100000
set_option linter.unusedVariables false
set_option linter.unusedSimpArgs false
namespace Go.Proofs.Try
open Go Go.VM Go.RowKit
/-! (*loop.example/g00222/impl.unread).number -/
def ev113 (m163 : ((List Int) × Int × Int) → Option (Int × Int)) : Env cxT := { Kc := kcOf [(163, c163 m163)], Kw := kwOf [], lv := fun i => [], xv := fun i => none }
theorem i113 (m163 : ((List Int) × Int × Int) → Option (Int × Int)) (L : Nat) (a0 : (List Int)) (a1 : Int) : evFP prog (ev113 m163) (loopN L) f113 (a113.enc (a0, a1)) =
  tst (m163 (a0, ((0 : Int), a1))) ((0 : Int), (0 : Int)) fun (q1 : (Int × Int)) => bif (q1.1 != (0 : Int)) then some (n113 ((0 : Int), a0))
    else bif (((decide ((0 : Int) ≤ a1)) && (decide (a1 ≤ (Nat.cast (List.length a0) : Int)))) && (decide ((Nat.cast (List.length a0) : Int) ≤ (Nat.cast (List.length a0) : Int)))) then some (n113 (q1.2, (List.drop (Int.toNat a1) (List.take (Int.toNat (Nat.cast (List.length a0) : Int)) a0))))
    else none := by kernel_rfl
def g113 (m163 : ((List Int) × Int × Int) → Option (Int × Int)) (L : Nat) (a0 : (List Int)) (a1 : Int) : Option (Int × (List Int)) :=
  tst (m163 (a0, ((0 : Int), a1))) ((0 : Int), (0 : Int)) fun (q1 : (Int × Int)) => bif (q1.1 != (0 : Int)) then some ((0 : Int), a0)
    else bif (((decide ((0 : Int) ≤ a1)) && (decide (a1 ≤ (Nat.cast (List.length a0) : Int)))) && (decide ((Nat.cast (List.length a0) : Int) ≤ (Nat.cast (List.length a0) : Int)))) then some (q1.2, (List.drop (Int.toNat a1) (List.take (Int.toNat (Nat.cast (List.length a0) : Int)) a0)))
    else none
theorem e113 (m163 : ((List Int) × Int × Int) → Option (Int × Int)) (L : Nat) (a0 : (List Int)) (a1 : Int) : evFP prog (ev113 m163) (loopN L) f113 (a113.enc (a0, a1)) = (g113 m163 L a0 a1).map n113 := by
  rw [i113]; simp only [g113, map_bif, map_tst, map_bnd, Option.map_some, Option.map_none]
theorem s113 (m163 : ((List Int) × Int × Int) → Option (Int × Int)) (h163 : Sat prog cxT 163 (c163 m163)) (m : ((List Int) × Int) → Option (Int × (List Int))) (hm : ∀ (x : ((List Int) × Int)) t, m x = some t → ∃ L, g113 m163 L x.1 x.2 = some t) : SatP prog cxT 113 (c113 m).nres (c113 m).F :=
  sat_p cxT_ok cxT_pok (by rfl) (fn := f113) rfl rfl a113 n113 dd113 m (ev113 m163) (kok_cons h163 kok_nil) kwok_nil (fun L x => g113 m163 L x.1 x.2) (fun L x => e113 m163 L x.1 x.2) hm
/-! (*loop.example/g00222/impl.reader).name -/
def ev114 (m113 : ((List Int) × Int) → Option (Int × (List Int))) : Env cxT := { Kc := kcOf [], Kw := kwOf [(113, c113 m113)], lv := fun i => [], xv := fun i => none }
theorem i114 (m113 : ((List Int) × Int) → Option (Int × (List Int))) (L : Nat) (a0 : (List Int)) : evFP prog (ev114 m113) (loopN L) f114 (a114.enc a0) =
  tst (m113 (a0, (2 : Int))) ((0 : Int), []) fun (q1 : (Int × (List Int))) => some (n114 (q1.1, q1.2)) := by kernel_rfl
def g114 (m113 : ((List Int) × Int) → Option (Int × (List Int))) (L : Nat) (a0 : (List Int)) : Option (Int × (List Int)) :=
  tst (m113 (a0, (2 : Int))) ((0 : Int), []) fun (q1 : (Int × (List Int))) => some (q1.1, q1.2)
theorem e114 (m113 : ((List Int) × Int) → Option (Int × (List Int))) (L : Nat) (a0 : (List Int)) : evFP prog (ev114 m113) (loopN L) f114 (a114.enc a0) = (g114 m113 L a0).map n114 := by
  rw [i114]; simp only [g114, map_bif, map_tst, map_bnd, Option.map_some, Option.map_none]
theorem s114 (m113 : ((List Int) × Int) → Option (Int × (List Int))) (h113 : SatP prog cxT 113 (c113 m113).nres (c113 m113).F) (m : (List Int) → Option (Int × (List Int))) (hm : ∀ (x : (List Int)) t, m x = some t → ∃ L, g114 m113 L x = some t) : SatP prog cxT 114 (c114 m).nres (c114 m).F :=
  sat_p cxT_ok cxT_pok (by rfl) (fn := f114) rfl rfl a114 n114 dd114 m (ev114 m113) kok_nil (kwok_cons h113 kwok_nil) (fun L x => g114 m113 L x) (fun L x => e114 m113 L x) hm
/-! loop.example/g00222/impl.UnpackCmd -/
def ev24 (m64 : (List Int) → Option (Int × Int × Int × Int × Int × Int × (List Int))) (m18 : (Int × Int × Int × Int × Int × Int) → Option (Int × (List Int))) (m65 : ((Int × (List Int)) × (List Int)) → Option Bool) : Env cxT := { Kc := kcOf [(18, c18 m18), (65, c65 m65)], Kw := kwOf [(64, c64 m64)], lv := fun i => [], xv := fun i => none }
theorem i24 (m64 : (List Int) → Option (Int × Int × Int × Int × Int × Int × (List Int))) (m18 : (Int × Int × Int × Int × Int × Int) → Option (Int × (List Int))) (m65 : ((Int × (List Int)) × (List Int)) → Option Bool) (L : Nat) (a0 : (List Int)) : evF prog (ev24 m64 m18 m65) (loopN L) f24 (a24.enc a0) =
  tst (m64 a0) ((0 : Int), (0 : Int), (0 : Int), (0 : Int), (0 : Int), (0 : Int), []) fun (q1 : (Int × Int × Int × Int × Int × Int × (List Int))) => tst (m18 (q1.1, (q1.2.1, (q1.2.2.1, (q1.2.2.2.1, (q1.2.2.2.2.1, q1.2.2.2.2.2.1)))))) ((0 : Int), []) fun (q2 : (Int × (List Int))) => tst (m65 ((q2.1, q2.2), a0)) false fun (q3 : Bool) => bif (!q3) then some (n24 ((5 : Int), (0 : Int), (0 : Int), (0 : Int), (0 : Int), (0 : Int), (0 : Int)))
        else some (n24 ((0 : Int), q1.1, q1.2.1, q1.2.2.1, q1.2.2.2.1, q1.2.2.2.2.1, q1.2.2.2.2.2.1)) := by kernel_rfl
def g24 (m64 : (List Int) → Option (Int × Int × Int × Int × Int × Int × (List Int))) (m18 : (Int × Int × Int × Int × Int × Int) → Option (Int × (List Int))) (m65 : ((Int × (List Int)) × (List Int)) → Option Bool) (L : Nat) (a0 : (List Int)) : Option (Int × Int × Int × Int × Int × Int × Int) :=
  tst (m64 a0) ((0 : Int), (0 : Int), (0 : Int), (0 : Int), (0 : Int), (0 : Int), []) fun (q1 : (Int × Int × Int × Int × Int × Int × (List Int))) => tst (m18 (q1.1, (q1.2.1, (q1.2.2.1, (q1.2.2.2.1, (q1.2.2.2.2.1, q1.2.2.2.2.2.1)))))) ((0 : Int), []) fun (q2 : (Int × (List Int))) => tst (m65 ((q2.1, q2.2), a0)) false fun (q3 : Bool) => bif (!q3) then some ((5 : Int), (0 : Int), (0 : Int), (0 : Int), (0 : Int), (0 : Int), (0 : Int))
        else some ((0 : Int), q1.1, q1.2.1, q1.2.2.1, q1.2.2.2.1, q1.2.2.2.2.1, q1.2.2.2.2.2.1)
theorem e24 (m64 : (List Int) → Option (Int × Int × Int × Int × Int × Int × (List Int))) (m18 : (Int × Int × Int × Int × Int × Int) → Option (Int × (List Int))) (m65 : ((Int × (List Int)) × (List Int)) → Option Bool) (L : Nat) (a0 : (List Int)) : evF prog (ev24 m64 m18 m65) (loopN L) f24 (a24.enc a0) = (g24 m64 m18 m65 L a0).map n24 := by
  rw [i24]; simp only [g24, map_bif, map_tst, map_bnd, Option.map_some, Option.map_none]
theorem s24 (m64 : (List Int) → Option (Int × Int × Int × Int × Int × Int × (List Int))) (m18 : (Int × Int × Int × Int × Int × Int) → Option (Int × (List Int))) (m65 : ((Int × (List Int)) × (List Int)) → Option Bool) (h64 : SatP prog cxT 64 (c64 m64).nres (c64 m64).F) (h18 : Sat prog cxT 18 (c18 m18)) (h65 : Sat prog cxT 65 (c65 m65)) (m : (List Int) → Option (Int × Int × Int × Int × Int × Int × Int)) (hm : ∀ (x : (List Int)) t, m x = some t → ∃ L, g24 m64 m18 m65 L x = some t) : Sat prog cxT 24 (c24 m) :=
  sat_t cxT_ok cxT_pok (by rfl) (fn := f24) rfl a24 n24 dd24 m (ev24 m64 m18 m65) (kok_cons h18 (kok_cons h65 kok_nil)) (kwok_cons h64 kwok_nil) (fun L x => g24 m64 m18 m65 L x) (fun L x => e24 m64 m18 m65 L x) hm hs24
end Go.Proofs.Try
