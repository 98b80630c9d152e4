/- A part of the proof of FnExactVerdictFor: LqFc, LqFe. -/
import Derived.Test.YtklmlomaleaaaaaLqBase
set_option linter.unusedVariables false
set_option maxHeartbeats 0
set_option maxRecDepth 100000
set_option linter.unusedVariables false
set_option linter.unusedSimpArgs false
namespace Go.Proofs.Try
open Go Go.VM Go.RowKit
/-! loop.example/g00222/laws.szConfig -/
/-! loop.example/g00222/laws.szBackendS -/
/-! loop.example/g00222/laws.szVipS -/
/-! loop.example/g00222/laws.szVip -/
/-! loop.example/g00222/laws.szInt64S -/
/-! loop.example/g00222/laws.toConfig -/
/-! loop.example/g00222/laws.toBackendS -/
/-! loop.example/g00222/laws.toVipS -/
/-! loop.example/g00222/laws.toBackend -/
/-! loop.example/g00222/laws.toVip -/
/-! loop.example/g00222/laws.toInt64S -/
/-! loop.example/g00222/laws.eqConfig -/
/-! loop.example/g00222/laws.eqBackendS -/
/-! loop.example/g00222/laws.eqVipS -/
/-! loop.example/g00222/laws.eqBackend -/
/-! loop.example/g00222/laws.eqVip -/
/-! loop.example/g00222/laws.eqInt64S -/
/-! loop.example/g00222/laws.markConfig -/
/-! loop.example/g00222/laws.markBackendS -/
/-! loop.example/g00222/laws.markVipS -/
/-! loop.example/g00222/laws.markInt64S -/
end Go.Proofs.Try

set_option maxHeartbeats 0
set_option maxRecDepth 100000
set_option linter.unusedVariables false
set_option linter.unusedSimpArgs false
namespace Go.Proofs.Try
open Go Go.VM Go.RowKit
/-! loop.example/g00222/laws.eqCmdsResult -/
/-! loop.example/g00222/laws.eqCmdS -/
/-! loop.example/g00222/laws.eqCmd -/
/-! loop.example/g00222/laws.markVerdictS -/
/-! loop.example/g00222/laws.markCmdsResult -/
/-! loop.example/g00222/laws.heldCmdsResult -/
/-! loop.example/g00222/laws.markCmdS -/
/-! loop.example/g00222/laws.heldCmdS -/
/-! loop.example/g00222/spec.l12Verdict -/
def ev51 (m71 : ((List (Int × (Int × (Bool × Int)))) × Int × Int) → Option Int) : Env cxT := { Kc := kcOf [(71, c71 m71)], Kw := kwOf [], lv := fun i => if i = 0 then [(0, [some 80]), (1, []), (2, []), (7, []), (8, []), (9, [])] else [], xv := fun i => if i = 0 then some [(2, []), (7, []), (8, [])] else none }
def S51_0 (a0 : (List (Int × (Int × (Bool × Int))))) (a1 : Int) (a2 : Int) (v0_7 : Int) (v0_8 : Int) (v0_9 : Int) : St cxT.ty := { slots := [(.inl (.inl (ls { own := 0, nm := 0, e := 80, o := false, xs := a0 }))), (.inl (.inl (lv (.int .i64 a1)))), (.inl (.inl (lv (.int .i64 a2)))), junk, junk, junk, junk, (.inl (.inl (lv (.int .i64 v0_7)))), (.inl (.inl (lv (.int .i64 v0_8)))), (.inl (.inl (lv (.int .i64 v0_9))))] ++ List.replicate 25 junk, D := [], F := [], ctr := 1 }
def X51_0 (a0 : (List (Int × (Int × (Bool × Int))))) (a1 : Int) (a2 : Int) (w0_7 : Int) (w0_8 : Int) : St cxT.ty := { slots := [junk, junk, (.inl (.inl (lv (.int .i64 a2)))), junk, junk, junk, junk, (.inl (.inl (lv (.int .i64 w0_7)))), (.inl (.inl (lv (.int .i64 w0_8))))] ++ List.replicate 26 junk, D := [], F := [], ctr := 1 }
theorem i51 (m71 : ((List (Int × (Int × (Bool × Int)))) × Int × Int) → Option Int) (L : Nat) (a0 : (List (Int × (Int × (Bool × Int))))) (a1 : Int) (a2 : Int) : evF prog (ev51 m71) (loopN L) f51 (a51.enc (a0, a1, a2)) =
  headF prog (ev51 m71) L f51 0 [1, 1, 1, 0, 1, 0, 0] (outK (outV prog f51) (topK prog (ev51 m71) L f51 [1, 1, 1, 0, 1] (outV prog f51)).n (topK prog (ev51 m71) L f51 [1, 1, 1, 0, 1] (outV prog f51)).x) L (S51_0 a0 a1 a2 (0 : Int) (0 : Int) (0 : Int)) := by kernel_rfl
theorem r51_0 (m71 : ((List (Int × (Int × (Bool × Int)))) × Int × Int) → Option Int) (L : Nat) (a0 : (List (Int × (Int × (Bool × Int))))) (a1 : Int) (a2 : Int) (k : St cxT.ty → Option (V cxT.ty)) (xk : Nat → St cxT.ty → Option (V cxT.ty)) (g : St cxT.ty → Option (V cxT.ty)) (v0_7 : Int) (v0_8 : Int) (v0_9 : Int) : roundF prog (ev51 m71) L f51 0 [1, 1, 1, 0, 1, 0, 0] (outK (outV prog f51) k xk) g (S51_0 a0 a1 a2 v0_7 v0_8 v0_9) =
  bif (decide (v0_9 < a2)) then tst (m71 (a0, (v0_9, a1))) (0 : Int) fun (q2 : Int) => bif (q2 == (1 : Int)) then g (S51_0 a0 a1 a2 (Go.IntKind.wrap Go.IntKind.i64 (v0_7 + (1 : Int))) v0_8 (Go.IntKind.wrap Go.IntKind.i64 (v0_9 + (1 : Int))))
      else bif (q2 == (2 : Int)) then g (S51_0 a0 a1 a2 v0_7 (Go.IntKind.wrap Go.IntKind.i64 (v0_8 + (1 : Int))) (Go.IntKind.wrap Go.IntKind.i64 (v0_9 + (1 : Int))))
      else g (S51_0 a0 a1 a2 v0_7 v0_8 (Go.IntKind.wrap Go.IntKind.i64 (v0_9 + (1 : Int))))
  else k (X51_0 a0 a1 a2 v0_7 v0_8) := by kernel_rfl
theorem t51_0 (m71 : ((List (Int × (Int × (Bool × Int)))) × Int × Int) → Option Int) (L : Nat) (a0 : (List (Int × (Int × (Bool × Int))))) (a1 : Int) (a2 : Int) (w0_7 : Int) (w0_8 : Int) : (topK prog (ev51 m71) L f51 [1, 1, 1, 0, 1] (outV prog f51)).n (X51_0 a0 a1 a2 w0_7 w0_8) =
  bif (decide ((Go.IntKind.wrap Go.IntKind.i64 ((2 : Int) * w0_7)) > a2)) then some (n51 (1 : Int))
  else bif (decide ((Go.IntKind.wrap Go.IntKind.i64 ((2 : Int) * w0_8)) > a2)) then some (n51 (2 : Int))
  else some (n51 (0 : Int)) := by kernel_rfl
def l51_0 (m71 : ((List (Int × (Int × (Bool × Int)))) × Int × Int) → Option Int) (L : Nat) (a0 : (List (Int × (Int × (Bool × Int))))) (a1 : Int) (a2 : Int) : Nat → Int → Int → Int → (Int → Int → Option Int) → Option Int
  | 0, _, _, _, _ => none
  | n + 1, v0_7, v0_8, v0_9, k =>
    bif (decide (v0_9 < a2)) then tst (m71 (a0, (v0_9, a1))) (0 : Int) fun (q3 : Int) => bif (q3 == (1 : Int)) then l51_0 m71 L a0 a1 a2 n (Go.IntKind.wrap Go.IntKind.i64 (v0_7 + (1 : Int))) v0_8 (Go.IntKind.wrap Go.IntKind.i64 (v0_9 + (1 : Int))) k
        else bif (q3 == (2 : Int)) then l51_0 m71 L a0 a1 a2 n v0_7 (Go.IntKind.wrap Go.IntKind.i64 (v0_8 + (1 : Int))) (Go.IntKind.wrap Go.IntKind.i64 (v0_9 + (1 : Int))) k
        else l51_0 m71 L a0 a1 a2 n v0_7 v0_8 (Go.IntKind.wrap Go.IntKind.i64 (v0_9 + (1 : Int))) k
    else k v0_7 v0_8
theorem h51_0 (m71 : ((List (Int × (Int × (Bool × Int)))) × Int × Int) → Option Int) (L : Nat) (a0 : (List (Int × (Int × (Bool × Int))))) (a1 : Int) (a2 : Int) (k : St cxT.ty → Option (V cxT.ty)) (xk : Nat → St cxT.ty → Option (V cxT.ty)) (k' : Int → Int → Option Int) (hk : ∀ (w0_7 : Int) (w0_8 : Int), k (X51_0 a0 a1 a2 w0_7 w0_8) = (k' w0_7 w0_8).map n51) : ∀ (n : Nat) (v0_7 : Int) (v0_8 : Int) (v0_9 : Int), headF prog (ev51 m71) L f51 0 [1, 1, 1, 0, 1, 0, 0] (outK (outV prog f51) k xk) n (S51_0 a0 a1 a2 v0_7 v0_8 v0_9) = (l51_0 m71 L a0 a1 a2 n v0_7 v0_8 v0_9 k').map n51
  | 0, _, _, _ => rfl
  | n + 1, v0_7, v0_8, v0_9 => by
    rw [headF_round, r51_0]
    have ih := h51_0 m71 L a0 a1 a2 k xk k' hk n
    simp only [l51_0, map_bif, map_tst, map_bnd, Option.map_some, Option.map_none, ih, hk]
def g51 (m71 : ((List (Int × (Int × (Bool × Int)))) × Int × Int) → Option Int) (L : Nat) (a0 : (List (Int × (Int × (Bool × Int))))) (a1 : Int) (a2 : Int) : Option Int :=
  l51_0 m71 L a0 a1 a2 L (0 : Int) (0 : Int) (0 : Int) (fun (w0_7 : Int) (w0_8 : Int) => bif (decide ((Go.IntKind.wrap Go.IntKind.i64 ((2 : Int) * w0_7)) > a2)) then some (1 : Int)
    else bif (decide ((Go.IntKind.wrap Go.IntKind.i64 ((2 : Int) * w0_8)) > a2)) then some (2 : Int)
    else some (0 : Int))
theorem e51 (m71 : ((List (Int × (Int × (Bool × Int)))) × Int × Int) → Option Int) (L : Nat) (a0 : (List (Int × (Int × (Bool × Int))))) (a1 : Int) (a2 : Int) : evF prog (ev51 m71) (loopN L) f51 (a51.enc (a0, a1, a2)) = (g51 m71 L a0 a1 a2).map n51 := by
  let K'0 : Int → Int → Option Int := (fun (w0_7 : Int) (w0_8 : Int) => bif (decide ((Go.IntKind.wrap Go.IntKind.i64 ((2 : Int) * w0_7)) > a2)) then some (1 : Int)
      else bif (decide ((Go.IntKind.wrap Go.IntKind.i64 ((2 : Int) * w0_8)) > a2)) then some (2 : Int)
      else some (0 : Int))
  have hin0 : ∀ (v0_7 : Int) (v0_8 : Int) (v0_9 : Int), headF prog (ev51 m71) L f51 0 [1, 1, 1, 0, 1, 0, 0] (outK (outV prog f51) (topK prog (ev51 m71) L f51 [1, 1, 1, 0, 1] (outV prog f51)).n (topK prog (ev51 m71) L f51 [1, 1, 1, 0, 1] (outV prog f51)).x) L (S51_0 a0 a1 a2 v0_7 v0_8 v0_9) = (l51_0 m71 L a0 a1 a2 L v0_7 v0_8 v0_9 K'0).map n51 := fun v0_7 v0_8 v0_9 => h51_0 m71 L a0 a1 a2 _ _ K'0 (fun w0_7 w0_8 => by rw [t51_0]; simp only [K'0, map_bif, map_tst, map_bnd, Option.map_some, Option.map_none]) L v0_7 v0_8 v0_9
  rw [i51]; simp only [g51, map_bif, map_tst, map_bnd, Option.map_some, Option.map_none, hin0, K'0]
theorem s51 (m71 : ((List (Int × (Int × (Bool × Int)))) × Int × Int) → Option Int) (h71 : Sat prog cxT 71 (c71 m71)) (m : ((List (Int × (Int × (Bool × Int)))) × Int × Int) → Option Int) (hm : ∀ (x : ((List (Int × (Int × (Bool × Int)))) × Int × Int)) t, m x = some t → ∃ L, g51 m71 L x.1 x.2.1 x.2.2 = some t) : Sat prog cxT 51 (c51 m) :=
  sat_t cxT_ok cxT_pok (by rfl) (fn := f51) rfl a51 n51 dd51 m (ev51 m71) (kok_cons h71 kok_nil) kwok_nil (fun L x => g51 m71 L x.1 x.2.1 x.2.2) (fun L x => e51 m71 L x.1 x.2.1 x.2.2) hm hs51
/-! loop.example/g00222/spec.l12Says -/
def ev71 : Env cxT := { Kc := kcOf [], Kw := kwOf [], lv := fun i => if i = 0 then [(0, [some 80]), (1, []), (2, []), (7, []), (8, [])] else [], xv := fun i => if i = 0 then some [(0, [some 80]), (7, [])] else none }
def S71_0 (a0 : (List (Int × (Int × (Bool × Int))))) (a1 : Int) (a2 : Int) (v0_7 : Int) (v0_8 : Int) : St cxT.ty := { slots := [(.inl (.inl (ls { own := 0, nm := 0, e := 80, o := false, xs := a0 }))), (.inl (.inl (lv (.int .i64 a1)))), (.inl (.inl (lv (.int .i64 a2)))), junk, junk, junk, junk, (.inl (.inl (lv (.int .i64 v0_7)))), (.inl (.inl (lv (.int .i64 v0_8))))] ++ List.replicate 43 junk, D := [], F := [], ctr := 1 }
def X71_0 (a0 : (List (Int × (Int × (Bool × Int))))) (a1 : Int) (a2 : Int) (w0_7 : Int) : St cxT.ty := { slots := [(.inl (.inl (ls { own := 0, nm := 0, e := 80, o := false, xs := a0 }))), junk, junk, junk, junk, junk, junk, (.inl (.inl (lv (.int .i64 w0_7))))] ++ List.replicate 44 junk, D := [], F := [], ctr := 1 }
theorem i71 (L : Nat) (a0 : (List (Int × (Int × (Bool × Int))))) (a1 : Int) (a2 : Int) : evF prog ev71 (loopN L) f71 (a71.enc (a0, a1, a2)) =
  headF prog ev71 L f71 0 [1, 1, 0, 1, 0, 0] (outK (outV prog f71) (topK prog ev71 L f71 [1, 1, 0, 1] (outV prog f71)).n (topK prog ev71 L f71 [1, 1, 0, 1] (outV prog f71)).x) L (S71_0 a0 a1 a2 (-(1 : Int)) (0 : Int)) := by kernel_rfl
theorem r71_0 (L : Nat) (a0 : (List (Int × (Int × (Bool × Int))))) (a1 : Int) (a2 : Int) (k : St cxT.ty → Option (V cxT.ty)) (xk : Nat → St cxT.ty → Option (V cxT.ty)) (g : St cxT.ty → Option (V cxT.ty)) (v0_7 : Int) (v0_8 : Int) : roundF prog ev71 L f71 0 [1, 1, 0, 1, 0, 0] (outK (outV prog f71) k xk) g (S71_0 a0 a1 a2 v0_7 v0_8) =
  bif (decide (v0_8 < (Nat.cast (List.length a0) : Int))) then bif ((decide ((0 : Int) ≤ v0_8)) && (decide (v0_8 < (Nat.cast (List.length a0) : Int)))) then bif ((List.getD a0 (Int.toNat v0_8) ((0 : Int), ((0 : Int), (Bool.false, (0 : Int))))).1 == a1) then bif ((List.getD a0 (Int.toNat v0_8) ((0 : Int), ((0 : Int), (Bool.false, (0 : Int))))).2.1 == a2) then bif (decide (v0_7 < (0 : Int))) then g (S71_0 a0 a1 a2 v0_8 (Go.IntKind.wrap Go.IntKind.i64 (v0_8 + (1 : Int))))
          else bif ((decide ((0 : Int) ≤ v0_7)) && (decide (v0_7 < (Nat.cast (List.length a0) : Int)))) then bif (decide ((List.getD a0 (Int.toNat v0_8) ((0 : Int), ((0 : Int), (Bool.false, (0 : Int))))).2.2.2 > (List.getD a0 (Int.toNat v0_7) ((0 : Int), ((0 : Int), (Bool.false, (0 : Int))))).2.2.2)) then g (S71_0 a0 a1 a2 v0_8 (Go.IntKind.wrap Go.IntKind.i64 (v0_8 + (1 : Int))))
            else g (S71_0 a0 a1 a2 v0_7 (Go.IntKind.wrap Go.IntKind.i64 (v0_8 + (1 : Int))))
          else none
        else g (S71_0 a0 a1 a2 v0_7 (Go.IntKind.wrap Go.IntKind.i64 (v0_8 + (1 : Int))))
      else g (S71_0 a0 a1 a2 v0_7 (Go.IntKind.wrap Go.IntKind.i64 (v0_8 + (1 : Int))))
    else none
  else k (X71_0 a0 a1 a2 v0_7) := by kernel_rfl
theorem t71_0 (L : Nat) (a0 : (List (Int × (Int × (Bool × Int))))) (a1 : Int) (a2 : Int) (w0_7 : Int) : (topK prog ev71 L f71 [1, 1, 0, 1] (outV prog f71)).n (X71_0 a0 a1 a2 w0_7) =
  bif (decide (w0_7 < (0 : Int))) then some (n71 (0 : Int))
  else bif ((decide ((0 : Int) ≤ w0_7)) && (decide (w0_7 < (Nat.cast (List.length a0) : Int)))) then bif (List.getD a0 (Int.toNat w0_7) ((0 : Int), ((0 : Int), (Bool.false, (0 : Int))))).2.2.1 then some (n71 (1 : Int))
    else some (n71 (2 : Int))
  else none := by kernel_rfl
def l71_0 (L : Nat) (a0 : (List (Int × (Int × (Bool × Int))))) (a1 : Int) (a2 : Int) : Nat → Int → Int → (Int → Option Int) → Option Int
  | 0, _, _, _ => none
  | n + 1, v0_7, v0_8, k =>
    bif (decide (v0_8 < (Nat.cast (List.length a0) : Int))) then bif ((decide ((0 : Int) ≤ v0_8)) && (decide (v0_8 < (Nat.cast (List.length a0) : Int)))) then bif ((List.getD a0 (Int.toNat v0_8) ((0 : Int), ((0 : Int), (Bool.false, (0 : Int))))).1 == a1) then bif ((List.getD a0 (Int.toNat v0_8) ((0 : Int), ((0 : Int), (Bool.false, (0 : Int))))).2.1 == a2) then bif (decide (v0_7 < (0 : Int))) then l71_0 L a0 a1 a2 n v0_8 (Go.IntKind.wrap Go.IntKind.i64 (v0_8 + (1 : Int))) k
            else bif ((decide ((0 : Int) ≤ v0_7)) && (decide (v0_7 < (Nat.cast (List.length a0) : Int)))) then bif (decide ((List.getD a0 (Int.toNat v0_8) ((0 : Int), ((0 : Int), (Bool.false, (0 : Int))))).2.2.2 > (List.getD a0 (Int.toNat v0_7) ((0 : Int), ((0 : Int), (Bool.false, (0 : Int))))).2.2.2)) then l71_0 L a0 a1 a2 n v0_8 (Go.IntKind.wrap Go.IntKind.i64 (v0_8 + (1 : Int))) k
              else l71_0 L a0 a1 a2 n v0_7 (Go.IntKind.wrap Go.IntKind.i64 (v0_8 + (1 : Int))) k
            else none
          else l71_0 L a0 a1 a2 n v0_7 (Go.IntKind.wrap Go.IntKind.i64 (v0_8 + (1 : Int))) k
        else l71_0 L a0 a1 a2 n v0_7 (Go.IntKind.wrap Go.IntKind.i64 (v0_8 + (1 : Int))) k
      else none
    else k v0_7
theorem h71_0 (L : Nat) (a0 : (List (Int × (Int × (Bool × Int))))) (a1 : Int) (a2 : Int) (k : St cxT.ty → Option (V cxT.ty)) (xk : Nat → St cxT.ty → Option (V cxT.ty)) (k' : Int → Option Int) (hk : ∀ (w0_7 : Int), k (X71_0 a0 a1 a2 w0_7) = (k' w0_7).map n71) : ∀ (n : Nat) (v0_7 : Int) (v0_8 : Int), headF prog ev71 L f71 0 [1, 1, 0, 1, 0, 0] (outK (outV prog f71) k xk) n (S71_0 a0 a1 a2 v0_7 v0_8) = (l71_0 L a0 a1 a2 n v0_7 v0_8 k').map n71
  | 0, _, _ => rfl
  | n + 1, v0_7, v0_8 => by
    rw [headF_round, r71_0]
    have ih := h71_0 L a0 a1 a2 k xk k' hk n
    simp only [l71_0, map_bif, map_tst, map_bnd, Option.map_some, Option.map_none, ih, hk]
def g71 (L : Nat) (a0 : (List (Int × (Int × (Bool × Int))))) (a1 : Int) (a2 : Int) : Option Int :=
  l71_0 L a0 a1 a2 L (-(1 : Int)) (0 : Int) (fun (w0_7 : Int) => bif (decide (w0_7 < (0 : Int))) then some (0 : Int)
    else bif ((decide ((0 : Int) ≤ w0_7)) && (decide (w0_7 < (Nat.cast (List.length a0) : Int)))) then bif (List.getD a0 (Int.toNat w0_7) ((0 : Int), ((0 : Int), (Bool.false, (0 : Int))))).2.2.1 then some (1 : Int)
      else some (2 : Int)
    else none)
theorem e71 (L : Nat) (a0 : (List (Int × (Int × (Bool × Int))))) (a1 : Int) (a2 : Int) : evF prog ev71 (loopN L) f71 (a71.enc (a0, a1, a2)) = (g71 L a0 a1 a2).map n71 := by
  let K'0 : Int → Option Int := (fun (w0_7 : Int) => bif (decide (w0_7 < (0 : Int))) then some (0 : Int)
      else bif ((decide ((0 : Int) ≤ w0_7)) && (decide (w0_7 < (Nat.cast (List.length a0) : Int)))) then bif (List.getD a0 (Int.toNat w0_7) ((0 : Int), ((0 : Int), (Bool.false, (0 : Int))))).2.2.1 then some (1 : Int)
        else some (2 : Int)
      else none)
  have hin0 : ∀ (v0_7 : Int) (v0_8 : Int), headF prog ev71 L f71 0 [1, 1, 0, 1, 0, 0] (outK (outV prog f71) (topK prog ev71 L f71 [1, 1, 0, 1] (outV prog f71)).n (topK prog ev71 L f71 [1, 1, 0, 1] (outV prog f71)).x) L (S71_0 a0 a1 a2 v0_7 v0_8) = (l71_0 L a0 a1 a2 L v0_7 v0_8 K'0).map n71 := fun v0_7 v0_8 => h71_0 L a0 a1 a2 _ _ K'0 (fun w0_7 => by rw [t71_0]; simp only [K'0, map_bif, map_tst, map_bnd, Option.map_some, Option.map_none]) L v0_7 v0_8
  rw [i71]; simp only [g71, map_bif, map_tst, map_bnd, Option.map_some, Option.map_none, hin0, K'0]
theorem s71 (m : ((List (Int × (Int × (Bool × Int)))) × Int × Int) → Option Int) (hm : ∀ (x : ((List (Int × (Int × (Bool × Int)))) × Int × Int)) t, m x = some t → ∃ L, g71 L x.1 x.2.1 x.2.2 = some t) : Sat prog cxT 71 (c71 m) :=
  sat_t cxT_ok cxT_pok (by rfl) (fn := f71) rfl a71 n71 dd71 m ev71 kok_nil kwok_nil (fun L x => g71 L x.1 x.2.1 x.2.2) (fun L x => e71 L x.1 x.2.1 x.2.2) hm hs71
/-! loop.example/g00222/spec.VerdictFor -/
def ev25 (m21 : (List (Int × (Int × (Bool × Int)))) → Option Int) (m40 : Int → Option Bool) (m41 : (Int × Int × Int) → Option Bool) (m51 : ((List (Int × (Int × (Bool × Int)))) × Int × Int) → Option Int) : Env cxT := { Kc := kcOf [(21, c21 m21), (40, c40 m40), (41, c41 m41), (51, c51 m51)], Kw := kwOf [], lv := fun i => [], xv := fun i => none }
theorem i25 (m21 : (List (Int × (Int × (Bool × Int)))) → Option Int) (m40 : Int → Option Bool) (m41 : (Int × Int × Int) → Option Bool) (m51 : ((List (Int × (Int × (Bool × Int)))) × Int × Int) → Option Int) (L : Nat) (a0 : (List (Int × (Int × (Bool × Int))))) (a1 : Int) (a2 : Int) : evF prog (ev25 m21 m40 m41 m51) (loopN L) f25 (a25.enc (a0, a1, a2)) =
  tst (m21 a0) (0 : Int) fun (q1 : Int) => bif (q1 != (0 : Int)) then some (n25 (q1, (0 : Int)))
    else tst (m40 a1) false fun (q2 : Bool) => bif (!q2) then some (n25 ((3 : Int), (0 : Int)))
      else tst (m41 (a2, ((1 : Int), (10 : Int)))) false fun (q3 : Bool) => bif (!q3) then some (n25 ((3 : Int), (0 : Int)))
        else tst (m51 (a0, (a1, a2))) (0 : Int) fun (q4 : Int) => some (n25 ((0 : Int), q4)) := by kernel_rfl
def g25 (m21 : (List (Int × (Int × (Bool × Int)))) → Option Int) (m40 : Int → Option Bool) (m41 : (Int × Int × Int) → Option Bool) (m51 : ((List (Int × (Int × (Bool × Int)))) × Int × Int) → Option Int) (L : Nat) (a0 : (List (Int × (Int × (Bool × Int))))) (a1 : Int) (a2 : Int) : Option (Int × Int) :=
  tst (m21 a0) (0 : Int) fun (q1 : Int) => bif (q1 != (0 : Int)) then some (q1, (0 : Int))
    else tst (m40 a1) false fun (q2 : Bool) => bif (!q2) then some ((3 : Int), (0 : Int))
      else tst (m41 (a2, ((1 : Int), (10 : Int)))) false fun (q3 : Bool) => bif (!q3) then some ((3 : Int), (0 : Int))
        else tst (m51 (a0, (a1, a2))) (0 : Int) fun (q4 : Int) => some ((0 : Int), q4)
theorem e25 (m21 : (List (Int × (Int × (Bool × Int)))) → Option Int) (m40 : Int → Option Bool) (m41 : (Int × Int × Int) → Option Bool) (m51 : ((List (Int × (Int × (Bool × Int)))) × Int × Int) → Option Int) (L : Nat) (a0 : (List (Int × (Int × (Bool × Int))))) (a1 : Int) (a2 : Int) : evF prog (ev25 m21 m40 m41 m51) (loopN L) f25 (a25.enc (a0, a1, a2)) = (g25 m21 m40 m41 m51 L a0 a1 a2).map n25 := by
  rw [i25]; simp only [g25, map_bif, map_tst, map_bnd, Option.map_some, Option.map_none]
theorem s25 (m21 : (List (Int × (Int × (Bool × Int)))) → Option Int) (m40 : Int → Option Bool) (m41 : (Int × Int × Int) → Option Bool) (m51 : ((List (Int × (Int × (Bool × Int)))) × Int × Int) → Option Int) (h21 : Sat prog cxT 21 (c21 m21)) (h40 : Sat prog cxT 40 (c40 m40)) (h41 : Sat prog cxT 41 (c41 m41)) (h51 : Sat prog cxT 51 (c51 m51)) (m : ((List (Int × (Int × (Bool × Int)))) × Int × Int) → Option (Int × Int)) (hm : ∀ (x : ((List (Int × (Int × (Bool × Int)))) × Int × Int)) t, m x = some t → ∃ L, g25 m21 m40 m41 m51 L x.1 x.2.1 x.2.2 = some t) : Sat prog cxT 25 (c25 m) :=
  sat_t cxT_ok cxT_pok (by rfl) (fn := f25) rfl a25 n25 dd25 m (ev25 m21 m40 m41 m51) (kok_cons h21 (kok_cons h40 (kok_cons h41 (kok_cons h51 kok_nil)))) kwok_nil (fun L x => g25 m21 m40 m41 m51 L x.1 x.2.1 x.2.2) (fun L x => e25 m21 m40 m41 m51 L x.1 x.2.1 x.2.2) hm hs25
/-! loop.example/g00222/spec.UpCmds -/
end Go.Proofs.Try
