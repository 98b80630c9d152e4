/- A part of the proof of FnExactPacketFault: L2Fa. -/
import Derived.Test.YtaegcoihgnobiaaL2Con
set_option maxHeartbeats 0
set_option linter.unusedVariables false
set_option linter.unusedSimpArgs false
namespace Go.Proofs.Try
open Go Go.VM Go.RowKit
/-! loop.example/g00222/laws.FnExactPacketFault -/
def ev4 (m17 : ((Int × Int × Int × Int × Int × (List Int)) × Int) → Option Int) (m19 : (Int × Int × Int × Int × Int × (List Int)) → Option (Int × Int × Int × Int × Int × (List Int))) (m18 : (Int × Int × Int × Int × Int × (List Int)) → Option Int) (m20 : (Int × Int × Int × Int × Int × (List Int)) → Option Int) (m21 : ((Int × Int × Int × Int × Int × (List Int)) × (Int × Int × Int × Int × Int × (List Int))) → Option Bool) : Env cxT := { Kc := kcOf [(17, c17 m17), (19, c19 m19), (18, c18 m18), (20, c20 m20), (21, c21 m21)], Kw := kwOf [], lv := fun i => [], xv := fun i => none }
theorem i4 (m17 : ((Int × Int × Int × Int × Int × (List Int)) × Int) → Option Int) (m19 : (Int × Int × Int × Int × Int × (List Int)) → Option (Int × Int × Int × Int × Int × (List Int))) (m18 : (Int × Int × Int × Int × Int × (List Int)) → Option Int) (m20 : (Int × Int × Int × Int × Int × (List Int)) → Option Int) (m21 : ((Int × Int × Int × Int × Int × (List Int)) × (Int × Int × Int × Int × Int × (List Int))) → Option Bool) (L : Nat) (a0_0 : Int) (a0_1 : Int) (a0_2 : Int) (a0_3 : Int) (a0_4 : Int) (a0_5 : (List Int)) : evF prog (ev4 m17 m19 m18 m20 m21) (loopN L) f4 (a4.enc (a0_0, a0_1, a0_2, a0_3, a0_4, a0_5)) =
  bif (Option.isSome (m17 ((a0_0, (a0_1, (a0_2, (a0_3, (a0_4, a0_5))))), (1048576 : Int)))) then bif (decide ((Option.getD (m17 ((a0_0, (a0_1, (a0_2, (a0_3, (a0_4, a0_5))))), (1048576 : Int))) (0 : Int)) < (0 : Int))) then some (n4 Bool.true)
    else bif (Option.isSome (m19 (a0_0, (a0_1, (a0_2, (a0_3, (a0_4, a0_5))))))) then bif (Option.isSome (m18 ((Option.getD (m19 (a0_0, (a0_1, (a0_2, (a0_3, (a0_4, a0_5)))))) ((0 : Int), ((0 : Int), ((0 : Int), ((0 : Int), ((0 : Int), [])))))).1, ((Option.getD (m19 (a0_0, (a0_1, (a0_2, (a0_3, (a0_4, a0_5)))))) ((0 : Int), ((0 : Int), ((0 : Int), ((0 : Int), ((0 : Int), [])))))).2.1, ((Option.getD (m19 (a0_0, (a0_1, (a0_2, (a0_3, (a0_4, a0_5)))))) ((0 : Int), ((0 : Int), ((0 : Int), ((0 : Int), ((0 : Int), [])))))).2.2.1, ((Option.getD (m19 (a0_0, (a0_1, (a0_2, (a0_3, (a0_4, a0_5)))))) ((0 : Int), ((0 : Int), ((0 : Int), ((0 : Int), ((0 : Int), [])))))).2.2.2.1, ((Option.getD (m19 (a0_0, (a0_1, (a0_2, (a0_3, (a0_4, a0_5)))))) ((0 : Int), ((0 : Int), ((0 : Int), ((0 : Int), ((0 : Int), [])))))).2.2.2.2.1, (Option.getD (m19 (a0_0, (a0_1, (a0_2, (a0_3, (a0_4, a0_5)))))) ((0 : Int), ((0 : Int), ((0 : Int), ((0 : Int), ((0 : Int), [])))))).2.2.2.2.2))))))) then bif (Option.isSome (m19 (a0_0, (a0_1, (a0_2, (a0_3, (a0_4, a0_5))))))) then bif (Option.isSome (m20 ((Option.getD (m19 (a0_0, (a0_1, (a0_2, (a0_3, (a0_4, a0_5)))))) ((0 : Int), ((0 : Int), ((0 : Int), ((0 : Int), ((0 : Int), [])))))).1, ((Option.getD (m19 (a0_0, (a0_1, (a0_2, (a0_3, (a0_4, a0_5)))))) ((0 : Int), ((0 : Int), ((0 : Int), ((0 : Int), ((0 : Int), [])))))).2.1, ((Option.getD (m19 (a0_0, (a0_1, (a0_2, (a0_3, (a0_4, a0_5)))))) ((0 : Int), ((0 : Int), ((0 : Int), ((0 : Int), ((0 : Int), [])))))).2.2.1, ((Option.getD (m19 (a0_0, (a0_1, (a0_2, (a0_3, (a0_4, a0_5)))))) ((0 : Int), ((0 : Int), ((0 : Int), ((0 : Int), ((0 : Int), [])))))).2.2.2.1, ((Option.getD (m19 (a0_0, (a0_1, (a0_2, (a0_3, (a0_4, a0_5)))))) ((0 : Int), ((0 : Int), ((0 : Int), ((0 : Int), ((0 : Int), [])))))).2.2.2.2.1, (Option.getD (m19 (a0_0, (a0_1, (a0_2, (a0_3, (a0_4, a0_5)))))) ((0 : Int), ((0 : Int), ((0 : Int), ((0 : Int), ((0 : Int), [])))))).2.2.2.2.2))))))) then bif ((Option.getD (m20 ((Option.getD (m19 (a0_0, (a0_1, (a0_2, (a0_3, (a0_4, a0_5)))))) ((0 : Int), ((0 : Int), ((0 : Int), ((0 : Int), ((0 : Int), [])))))).1, ((Option.getD (m19 (a0_0, (a0_1, (a0_2, (a0_3, (a0_4, a0_5)))))) ((0 : Int), ((0 : Int), ((0 : Int), ((0 : Int), ((0 : Int), [])))))).2.1, ((Option.getD (m19 (a0_0, (a0_1, (a0_2, (a0_3, (a0_4, a0_5)))))) ((0 : Int), ((0 : Int), ((0 : Int), ((0 : Int), ((0 : Int), [])))))).2.2.1, ((Option.getD (m19 (a0_0, (a0_1, (a0_2, (a0_3, (a0_4, a0_5)))))) ((0 : Int), ((0 : Int), ((0 : Int), ((0 : Int), ((0 : Int), [])))))).2.2.2.1, ((Option.getD (m19 (a0_0, (a0_1, (a0_2, (a0_3, (a0_4, a0_5)))))) ((0 : Int), ((0 : Int), ((0 : Int), ((0 : Int), ((0 : Int), [])))))).2.2.2.2.1, (Option.getD (m19 (a0_0, (a0_1, (a0_2, (a0_3, (a0_4, a0_5)))))) ((0 : Int), ((0 : Int), ((0 : Int), ((0 : Int), ((0 : Int), [])))))).2.2.2.2.2)))))) (0 : Int)) != (Option.getD (m18 ((Option.getD (m19 (a0_0, (a0_1, (a0_2, (a0_3, (a0_4, a0_5)))))) ((0 : Int), ((0 : Int), ((0 : Int), ((0 : Int), ((0 : Int), [])))))).1, ((Option.getD (m19 (a0_0, (a0_1, (a0_2, (a0_3, (a0_4, a0_5)))))) ((0 : Int), ((0 : Int), ((0 : Int), ((0 : Int), ((0 : Int), [])))))).2.1, ((Option.getD (m19 (a0_0, (a0_1, (a0_2, (a0_3, (a0_4, a0_5)))))) ((0 : Int), ((0 : Int), ((0 : Int), ((0 : Int), ((0 : Int), [])))))).2.2.1, ((Option.getD (m19 (a0_0, (a0_1, (a0_2, (a0_3, (a0_4, a0_5)))))) ((0 : Int), ((0 : Int), ((0 : Int), ((0 : Int), ((0 : Int), [])))))).2.2.2.1, ((Option.getD (m19 (a0_0, (a0_1, (a0_2, (a0_3, (a0_4, a0_5)))))) ((0 : Int), ((0 : Int), ((0 : Int), ((0 : Int), ((0 : Int), [])))))).2.2.2.2.1, (Option.getD (m19 (a0_0, (a0_1, (a0_2, (a0_3, (a0_4, a0_5)))))) ((0 : Int), ((0 : Int), ((0 : Int), ((0 : Int), ((0 : Int), [])))))).2.2.2.2.2)))))) (0 : Int))) then some (n4 Bool.false)
            else bif (Option.isSome (m19 (a0_0, (a0_1, (a0_2, (a0_3, (a0_4, a0_5))))))) then bif (Option.isSome (m21 (((Option.getD (m19 (a0_0, (a0_1, (a0_2, (a0_3, (a0_4, a0_5)))))) ((0 : Int), ((0 : Int), ((0 : Int), ((0 : Int), ((0 : Int), [])))))).1, ((Option.getD (m19 (a0_0, (a0_1, (a0_2, (a0_3, (a0_4, a0_5)))))) ((0 : Int), ((0 : Int), ((0 : Int), ((0 : Int), ((0 : Int), [])))))).2.1, ((Option.getD (m19 (a0_0, (a0_1, (a0_2, (a0_3, (a0_4, a0_5)))))) ((0 : Int), ((0 : Int), ((0 : Int), ((0 : Int), ((0 : Int), [])))))).2.2.1, ((Option.getD (m19 (a0_0, (a0_1, (a0_2, (a0_3, (a0_4, a0_5)))))) ((0 : Int), ((0 : Int), ((0 : Int), ((0 : Int), ((0 : Int), [])))))).2.2.2.1, ((Option.getD (m19 (a0_0, (a0_1, (a0_2, (a0_3, (a0_4, a0_5)))))) ((0 : Int), ((0 : Int), ((0 : Int), ((0 : Int), ((0 : Int), [])))))).2.2.2.2.1, (Option.getD (m19 (a0_0, (a0_1, (a0_2, (a0_3, (a0_4, a0_5)))))) ((0 : Int), ((0 : Int), ((0 : Int), ((0 : Int), ((0 : Int), [])))))).2.2.2.2.2))))), ((Option.getD (m19 (a0_0, (a0_1, (a0_2, (a0_3, (a0_4, a0_5)))))) ((0 : Int), ((0 : Int), ((0 : Int), ((0 : Int), ((0 : Int), [])))))).1, ((Option.getD (m19 (a0_0, (a0_1, (a0_2, (a0_3, (a0_4, a0_5)))))) ((0 : Int), ((0 : Int), ((0 : Int), ((0 : Int), ((0 : Int), [])))))).2.1, ((Option.getD (m19 (a0_0, (a0_1, (a0_2, (a0_3, (a0_4, a0_5)))))) ((0 : Int), ((0 : Int), ((0 : Int), ((0 : Int), ((0 : Int), [])))))).2.2.1, ((Option.getD (m19 (a0_0, (a0_1, (a0_2, (a0_3, (a0_4, a0_5)))))) ((0 : Int), ((0 : Int), ((0 : Int), ((0 : Int), ((0 : Int), [])))))).2.2.2.1, ((Option.getD (m19 (a0_0, (a0_1, (a0_2, (a0_3, (a0_4, a0_5)))))) ((0 : Int), ((0 : Int), ((0 : Int), ((0 : Int), ((0 : Int), [])))))).2.2.2.2.1, (Option.getD (m19 (a0_0, (a0_1, (a0_2, (a0_3, (a0_4, a0_5)))))) ((0 : Int), ((0 : Int), ((0 : Int), ((0 : Int), ((0 : Int), [])))))).2.2.2.2.2)))))))) then bif (!(Option.getD (m21 (((Option.getD (m19 (a0_0, (a0_1, (a0_2, (a0_3, (a0_4, a0_5)))))) ((0 : Int), ((0 : Int), ((0 : Int), ((0 : Int), ((0 : Int), [])))))).1, ((Option.getD (m19 (a0_0, (a0_1, (a0_2, (a0_3, (a0_4, a0_5)))))) ((0 : Int), ((0 : Int), ((0 : Int), ((0 : Int), ((0 : Int), [])))))).2.1, ((Option.getD (m19 (a0_0, (a0_1, (a0_2, (a0_3, (a0_4, a0_5)))))) ((0 : Int), ((0 : Int), ((0 : Int), ((0 : Int), ((0 : Int), [])))))).2.2.1, ((Option.getD (m19 (a0_0, (a0_1, (a0_2, (a0_3, (a0_4, a0_5)))))) ((0 : Int), ((0 : Int), ((0 : Int), ((0 : Int), ((0 : Int), [])))))).2.2.2.1, ((Option.getD (m19 (a0_0, (a0_1, (a0_2, (a0_3, (a0_4, a0_5)))))) ((0 : Int), ((0 : Int), ((0 : Int), ((0 : Int), ((0 : Int), [])))))).2.2.2.2.1, (Option.getD (m19 (a0_0, (a0_1, (a0_2, (a0_3, (a0_4, a0_5)))))) ((0 : Int), ((0 : Int), ((0 : Int), ((0 : Int), ((0 : Int), [])))))).2.2.2.2.2))))), ((Option.getD (m19 (a0_0, (a0_1, (a0_2, (a0_3, (a0_4, a0_5)))))) ((0 : Int), ((0 : Int), ((0 : Int), ((0 : Int), ((0 : Int), [])))))).1, ((Option.getD (m19 (a0_0, (a0_1, (a0_2, (a0_3, (a0_4, a0_5)))))) ((0 : Int), ((0 : Int), ((0 : Int), ((0 : Int), ((0 : Int), [])))))).2.1, ((Option.getD (m19 (a0_0, (a0_1, (a0_2, (a0_3, (a0_4, a0_5)))))) ((0 : Int), ((0 : Int), ((0 : Int), ((0 : Int), ((0 : Int), [])))))).2.2.1, ((Option.getD (m19 (a0_0, (a0_1, (a0_2, (a0_3, (a0_4, a0_5)))))) ((0 : Int), ((0 : Int), ((0 : Int), ((0 : Int), ((0 : Int), [])))))).2.2.2.1, ((Option.getD (m19 (a0_0, (a0_1, (a0_2, (a0_3, (a0_4, a0_5)))))) ((0 : Int), ((0 : Int), ((0 : Int), ((0 : Int), ((0 : Int), [])))))).2.2.2.2.1, (Option.getD (m19 (a0_0, (a0_1, (a0_2, (a0_3, (a0_4, a0_5)))))) ((0 : Int), ((0 : Int), ((0 : Int), ((0 : Int), ((0 : Int), [])))))).2.2.2.2.2))))))) Bool.false)) then some (n4 Bool.false)
                else some (n4 Bool.true)
              else none
            else none
          else none
        else none
      else none
    else none
  else none := by kernel_rfl
def g4 (m17 : ((Int × Int × Int × Int × Int × (List Int)) × Int) → Option Int) (m19 : (Int × Int × Int × Int × Int × (List Int)) → Option (Int × Int × Int × Int × Int × (List Int))) (m18 : (Int × Int × Int × Int × Int × (List Int)) → Option Int) (m20 : (Int × Int × Int × Int × Int × (List Int)) → Option Int) (m21 : ((Int × Int × Int × Int × Int × (List Int)) × (Int × Int × Int × Int × Int × (List Int))) → Option Bool) (L : Nat) (a0_0 : Int) (a0_1 : Int) (a0_2 : Int) (a0_3 : Int) (a0_4 : Int) (a0_5 : (List Int)) : Option Bool :=
  bif (Option.isSome (m17 ((a0_0, (a0_1, (a0_2, (a0_3, (a0_4, a0_5))))), (1048576 : Int)))) then bif (decide ((Option.getD (m17 ((a0_0, (a0_1, (a0_2, (a0_3, (a0_4, a0_5))))), (1048576 : Int))) (0 : Int)) < (0 : Int))) then some Bool.true
    else bif (Option.isSome (m19 (a0_0, (a0_1, (a0_2, (a0_3, (a0_4, a0_5))))))) then bif (Option.isSome (m18 ((Option.getD (m19 (a0_0, (a0_1, (a0_2, (a0_3, (a0_4, a0_5)))))) ((0 : Int), ((0 : Int), ((0 : Int), ((0 : Int), ((0 : Int), [])))))).1, ((Option.getD (m19 (a0_0, (a0_1, (a0_2, (a0_3, (a0_4, a0_5)))))) ((0 : Int), ((0 : Int), ((0 : Int), ((0 : Int), ((0 : Int), [])))))).2.1, ((Option.getD (m19 (a0_0, (a0_1, (a0_2, (a0_3, (a0_4, a0_5)))))) ((0 : Int), ((0 : Int), ((0 : Int), ((0 : Int), ((0 : Int), [])))))).2.2.1, ((Option.getD (m19 (a0_0, (a0_1, (a0_2, (a0_3, (a0_4, a0_5)))))) ((0 : Int), ((0 : Int), ((0 : Int), ((0 : Int), ((0 : Int), [])))))).2.2.2.1, ((Option.getD (m19 (a0_0, (a0_1, (a0_2, (a0_3, (a0_4, a0_5)))))) ((0 : Int), ((0 : Int), ((0 : Int), ((0 : Int), ((0 : Int), [])))))).2.2.2.2.1, (Option.getD (m19 (a0_0, (a0_1, (a0_2, (a0_3, (a0_4, a0_5)))))) ((0 : Int), ((0 : Int), ((0 : Int), ((0 : Int), ((0 : Int), [])))))).2.2.2.2.2))))))) then bif (Option.isSome (m19 (a0_0, (a0_1, (a0_2, (a0_3, (a0_4, a0_5))))))) then bif (Option.isSome (m20 ((Option.getD (m19 (a0_0, (a0_1, (a0_2, (a0_3, (a0_4, a0_5)))))) ((0 : Int), ((0 : Int), ((0 : Int), ((0 : Int), ((0 : Int), [])))))).1, ((Option.getD (m19 (a0_0, (a0_1, (a0_2, (a0_3, (a0_4, a0_5)))))) ((0 : Int), ((0 : Int), ((0 : Int), ((0 : Int), ((0 : Int), [])))))).2.1, ((Option.getD (m19 (a0_0, (a0_1, (a0_2, (a0_3, (a0_4, a0_5)))))) ((0 : Int), ((0 : Int), ((0 : Int), ((0 : Int), ((0 : Int), [])))))).2.2.1, ((Option.getD (m19 (a0_0, (a0_1, (a0_2, (a0_3, (a0_4, a0_5)))))) ((0 : Int), ((0 : Int), ((0 : Int), ((0 : Int), ((0 : Int), [])))))).2.2.2.1, ((Option.getD (m19 (a0_0, (a0_1, (a0_2, (a0_3, (a0_4, a0_5)))))) ((0 : Int), ((0 : Int), ((0 : Int), ((0 : Int), ((0 : Int), [])))))).2.2.2.2.1, (Option.getD (m19 (a0_0, (a0_1, (a0_2, (a0_3, (a0_4, a0_5)))))) ((0 : Int), ((0 : Int), ((0 : Int), ((0 : Int), ((0 : Int), [])))))).2.2.2.2.2))))))) then bif ((Option.getD (m20 ((Option.getD (m19 (a0_0, (a0_1, (a0_2, (a0_3, (a0_4, a0_5)))))) ((0 : Int), ((0 : Int), ((0 : Int), ((0 : Int), ((0 : Int), [])))))).1, ((Option.getD (m19 (a0_0, (a0_1, (a0_2, (a0_3, (a0_4, a0_5)))))) ((0 : Int), ((0 : Int), ((0 : Int), ((0 : Int), ((0 : Int), [])))))).2.1, ((Option.getD (m19 (a0_0, (a0_1, (a0_2, (a0_3, (a0_4, a0_5)))))) ((0 : Int), ((0 : Int), ((0 : Int), ((0 : Int), ((0 : Int), [])))))).2.2.1, ((Option.getD (m19 (a0_0, (a0_1, (a0_2, (a0_3, (a0_4, a0_5)))))) ((0 : Int), ((0 : Int), ((0 : Int), ((0 : Int), ((0 : Int), [])))))).2.2.2.1, ((Option.getD (m19 (a0_0, (a0_1, (a0_2, (a0_3, (a0_4, a0_5)))))) ((0 : Int), ((0 : Int), ((0 : Int), ((0 : Int), ((0 : Int), [])))))).2.2.2.2.1, (Option.getD (m19 (a0_0, (a0_1, (a0_2, (a0_3, (a0_4, a0_5)))))) ((0 : Int), ((0 : Int), ((0 : Int), ((0 : Int), ((0 : Int), [])))))).2.2.2.2.2)))))) (0 : Int)) != (Option.getD (m18 ((Option.getD (m19 (a0_0, (a0_1, (a0_2, (a0_3, (a0_4, a0_5)))))) ((0 : Int), ((0 : Int), ((0 : Int), ((0 : Int), ((0 : Int), [])))))).1, ((Option.getD (m19 (a0_0, (a0_1, (a0_2, (a0_3, (a0_4, a0_5)))))) ((0 : Int), ((0 : Int), ((0 : Int), ((0 : Int), ((0 : Int), [])))))).2.1, ((Option.getD (m19 (a0_0, (a0_1, (a0_2, (a0_3, (a0_4, a0_5)))))) ((0 : Int), ((0 : Int), ((0 : Int), ((0 : Int), ((0 : Int), [])))))).2.2.1, ((Option.getD (m19 (a0_0, (a0_1, (a0_2, (a0_3, (a0_4, a0_5)))))) ((0 : Int), ((0 : Int), ((0 : Int), ((0 : Int), ((0 : Int), [])))))).2.2.2.1, ((Option.getD (m19 (a0_0, (a0_1, (a0_2, (a0_3, (a0_4, a0_5)))))) ((0 : Int), ((0 : Int), ((0 : Int), ((0 : Int), ((0 : Int), [])))))).2.2.2.2.1, (Option.getD (m19 (a0_0, (a0_1, (a0_2, (a0_3, (a0_4, a0_5)))))) ((0 : Int), ((0 : Int), ((0 : Int), ((0 : Int), ((0 : Int), [])))))).2.2.2.2.2)))))) (0 : Int))) then some Bool.false
            else bif (Option.isSome (m19 (a0_0, (a0_1, (a0_2, (a0_3, (a0_4, a0_5))))))) then bif (Option.isSome (m21 (((Option.getD (m19 (a0_0, (a0_1, (a0_2, (a0_3, (a0_4, a0_5)))))) ((0 : Int), ((0 : Int), ((0 : Int), ((0 : Int), ((0 : Int), [])))))).1, ((Option.getD (m19 (a0_0, (a0_1, (a0_2, (a0_3, (a0_4, a0_5)))))) ((0 : Int), ((0 : Int), ((0 : Int), ((0 : Int), ((0 : Int), [])))))).2.1, ((Option.getD (m19 (a0_0, (a0_1, (a0_2, (a0_3, (a0_4, a0_5)))))) ((0 : Int), ((0 : Int), ((0 : Int), ((0 : Int), ((0 : Int), [])))))).2.2.1, ((Option.getD (m19 (a0_0, (a0_1, (a0_2, (a0_3, (a0_4, a0_5)))))) ((0 : Int), ((0 : Int), ((0 : Int), ((0 : Int), ((0 : Int), [])))))).2.2.2.1, ((Option.getD (m19 (a0_0, (a0_1, (a0_2, (a0_3, (a0_4, a0_5)))))) ((0 : Int), ((0 : Int), ((0 : Int), ((0 : Int), ((0 : Int), [])))))).2.2.2.2.1, (Option.getD (m19 (a0_0, (a0_1, (a0_2, (a0_3, (a0_4, a0_5)))))) ((0 : Int), ((0 : Int), ((0 : Int), ((0 : Int), ((0 : Int), [])))))).2.2.2.2.2))))), ((Option.getD (m19 (a0_0, (a0_1, (a0_2, (a0_3, (a0_4, a0_5)))))) ((0 : Int), ((0 : Int), ((0 : Int), ((0 : Int), ((0 : Int), [])))))).1, ((Option.getD (m19 (a0_0, (a0_1, (a0_2, (a0_3, (a0_4, a0_5)))))) ((0 : Int), ((0 : Int), ((0 : Int), ((0 : Int), ((0 : Int), [])))))).2.1, ((Option.getD (m19 (a0_0, (a0_1, (a0_2, (a0_3, (a0_4, a0_5)))))) ((0 : Int), ((0 : Int), ((0 : Int), ((0 : Int), ((0 : Int), [])))))).2.2.1, ((Option.getD (m19 (a0_0, (a0_1, (a0_2, (a0_3, (a0_4, a0_5)))))) ((0 : Int), ((0 : Int), ((0 : Int), ((0 : Int), ((0 : Int), [])))))).2.2.2.1, ((Option.getD (m19 (a0_0, (a0_1, (a0_2, (a0_3, (a0_4, a0_5)))))) ((0 : Int), ((0 : Int), ((0 : Int), ((0 : Int), ((0 : Int), [])))))).2.2.2.2.1, (Option.getD (m19 (a0_0, (a0_1, (a0_2, (a0_3, (a0_4, a0_5)))))) ((0 : Int), ((0 : Int), ((0 : Int), ((0 : Int), ((0 : Int), [])))))).2.2.2.2.2)))))))) then bif (!(Option.getD (m21 (((Option.getD (m19 (a0_0, (a0_1, (a0_2, (a0_3, (a0_4, a0_5)))))) ((0 : Int), ((0 : Int), ((0 : Int), ((0 : Int), ((0 : Int), [])))))).1, ((Option.getD (m19 (a0_0, (a0_1, (a0_2, (a0_3, (a0_4, a0_5)))))) ((0 : Int), ((0 : Int), ((0 : Int), ((0 : Int), ((0 : Int), [])))))).2.1, ((Option.getD (m19 (a0_0, (a0_1, (a0_2, (a0_3, (a0_4, a0_5)))))) ((0 : Int), ((0 : Int), ((0 : Int), ((0 : Int), ((0 : Int), [])))))).2.2.1, ((Option.getD (m19 (a0_0, (a0_1, (a0_2, (a0_3, (a0_4, a0_5)))))) ((0 : Int), ((0 : Int), ((0 : Int), ((0 : Int), ((0 : Int), [])))))).2.2.2.1, ((Option.getD (m19 (a0_0, (a0_1, (a0_2, (a0_3, (a0_4, a0_5)))))) ((0 : Int), ((0 : Int), ((0 : Int), ((0 : Int), ((0 : Int), [])))))).2.2.2.2.1, (Option.getD (m19 (a0_0, (a0_1, (a0_2, (a0_3, (a0_4, a0_5)))))) ((0 : Int), ((0 : Int), ((0 : Int), ((0 : Int), ((0 : Int), [])))))).2.2.2.2.2))))), ((Option.getD (m19 (a0_0, (a0_1, (a0_2, (a0_3, (a0_4, a0_5)))))) ((0 : Int), ((0 : Int), ((0 : Int), ((0 : Int), ((0 : Int), [])))))).1, ((Option.getD (m19 (a0_0, (a0_1, (a0_2, (a0_3, (a0_4, a0_5)))))) ((0 : Int), ((0 : Int), ((0 : Int), ((0 : Int), ((0 : Int), [])))))).2.1, ((Option.getD (m19 (a0_0, (a0_1, (a0_2, (a0_3, (a0_4, a0_5)))))) ((0 : Int), ((0 : Int), ((0 : Int), ((0 : Int), ((0 : Int), [])))))).2.2.1, ((Option.getD (m19 (a0_0, (a0_1, (a0_2, (a0_3, (a0_4, a0_5)))))) ((0 : Int), ((0 : Int), ((0 : Int), ((0 : Int), ((0 : Int), [])))))).2.2.2.1, ((Option.getD (m19 (a0_0, (a0_1, (a0_2, (a0_3, (a0_4, a0_5)))))) ((0 : Int), ((0 : Int), ((0 : Int), ((0 : Int), ((0 : Int), [])))))).2.2.2.2.1, (Option.getD (m19 (a0_0, (a0_1, (a0_2, (a0_3, (a0_4, a0_5)))))) ((0 : Int), ((0 : Int), ((0 : Int), ((0 : Int), ((0 : Int), [])))))).2.2.2.2.2))))))) Bool.false)) then some Bool.false
                else some Bool.true
              else none
            else none
          else none
        else none
      else none
    else none
  else none
theorem e4 (m17 : ((Int × Int × Int × Int × Int × (List Int)) × Int) → Option Int) (m19 : (Int × Int × Int × Int × Int × (List Int)) → Option (Int × Int × Int × Int × Int × (List Int))) (m18 : (Int × Int × Int × Int × Int × (List Int)) → Option Int) (m20 : (Int × Int × Int × Int × Int × (List Int)) → Option Int) (m21 : ((Int × Int × Int × Int × Int × (List Int)) × (Int × Int × Int × Int × Int × (List Int))) → Option Bool) (L : Nat) (a0_0 : Int) (a0_1 : Int) (a0_2 : Int) (a0_3 : Int) (a0_4 : Int) (a0_5 : (List Int)) : evF prog (ev4 m17 m19 m18 m20 m21) (loopN L) f4 (a4.enc (a0_0, a0_1, a0_2, a0_3, a0_4, a0_5)) = (g4 m17 m19 m18 m20 m21 L a0_0 a0_1 a0_2 a0_3 a0_4 a0_5).map n4 := by
  rw [i4]; simp only [g4, map_bif, Option.map_some, Option.map_none]
theorem s4 (m17 : ((Int × Int × Int × Int × Int × (List Int)) × Int) → Option Int) (m19 : (Int × Int × Int × Int × Int × (List Int)) → Option (Int × Int × Int × Int × Int × (List Int))) (m18 : (Int × Int × Int × Int × Int × (List Int)) → Option Int) (m20 : (Int × Int × Int × Int × Int × (List Int)) → Option Int) (m21 : ((Int × Int × Int × Int × Int × (List Int)) × (Int × Int × Int × Int × Int × (List Int))) → Option Bool) (h17 : Sat prog cxT 17 (c17 m17)) (h19 : Sat prog cxT 19 (c19 m19)) (h18 : Sat prog cxT 18 (c18 m18)) (h20 : Sat prog cxT 20 (c20 m20)) (h21 : Sat prog cxT 21 (c21 m21)) (m : (Int × Int × Int × Int × Int × (List Int)) → Option Bool) (hm : ∀ (x : (Int × Int × Int × Int × Int × (List Int))) t, m x = some t → ∃ L, g4 m17 m19 m18 m20 m21 L x.1 x.2.1 x.2.2.1 x.2.2.2.1 x.2.2.2.2.1 x.2.2.2.2.2 = some t) : Sat prog cxT 4 (c4 m) :=
  sat_t cxT_ok cxT_pok (by rfl) (fn := f4) rfl a4 n4 dd4 m (ev4 m17 m19 m18 m20 m21) (kok_cons h17 (kok_cons h19 (kok_cons h18 (kok_cons h20 (kok_cons h21 kok_nil))))) kwok_nil (fun L x => g4 m17 m19 m18 m20 m21 L x.1 x.2.1 x.2.2.1 x.2.2.2.1 x.2.2.2.2.1 x.2.2.2.2.2) (fun L x => e4 m17 m19 m18 m20 m21 L x.1 x.2.1 x.2.2.1 x.2.2.2.1 x.2.2.2.2.1 x.2.2.2.2.2) hm hs4
/-! loop.example/g00222/laws.szPacket -/
def ev17 (m59 : ((List Int) × Int) → Option Int) : Env cxT := { Kc := kcOf [(59, c59 m59)], Kw := kwOf [], lv := fun i => [], xv := fun i => none }
theorem i17 (m59 : ((List Int) × Int) → Option Int) (L : Nat) (a0_0 : Int) (a0_1 : Int) (a0_2 : Int) (a0_3 : Int) (a0_4 : Int) (a0_5 : (List Int)) (a1 : Int) : evF prog (ev17 m59) (loopN L) f17 (a17.enc ((a0_0, a0_1, a0_2, a0_3, a0_4, a0_5), a1)) =
  bif (Option.isSome (m59 (a0_5, a1))) then bif (decide ((Option.getD (m59 (a0_5, a1)) (0 : Int)) < (0 : Int))) then some (n17 (-(1 : Int)))
    else some (n17 (Option.getD (m59 (a0_5, a1)) (0 : Int)))
  else none := by kernel_rfl
def g17 (m59 : ((List Int) × Int) → Option Int) (L : Nat) (a0_0 : Int) (a0_1 : Int) (a0_2 : Int) (a0_3 : Int) (a0_4 : Int) (a0_5 : (List Int)) (a1 : Int) : Option Int :=
  bif (Option.isSome (m59 (a0_5, a1))) then bif (decide ((Option.getD (m59 (a0_5, a1)) (0 : Int)) < (0 : Int))) then some (-(1 : Int))
    else some (Option.getD (m59 (a0_5, a1)) (0 : Int))
  else none
theorem e17 (m59 : ((List Int) × Int) → Option Int) (L : Nat) (a0_0 : Int) (a0_1 : Int) (a0_2 : Int) (a0_3 : Int) (a0_4 : Int) (a0_5 : (List Int)) (a1 : Int) : evF prog (ev17 m59) (loopN L) f17 (a17.enc ((a0_0, a0_1, a0_2, a0_3, a0_4, a0_5), a1)) = (g17 m59 L a0_0 a0_1 a0_2 a0_3 a0_4 a0_5 a1).map n17 := by
  rw [i17]; simp only [g17, map_bif, Option.map_some, Option.map_none]
theorem s17 (m59 : ((List Int) × Int) → Option Int) (h59 : Sat prog cxT 59 (c59 m59)) (m : ((Int × Int × Int × Int × Int × (List Int)) × Int) → Option Int) (hm : ∀ (x : ((Int × Int × Int × Int × Int × (List Int)) × Int)) t, m x = some t → ∃ L, g17 m59 L x.1.1 x.1.2.1 x.1.2.2.1 x.1.2.2.2.1 x.1.2.2.2.2.1 x.1.2.2.2.2.2 x.2 = some t) : Sat prog cxT 17 (c17 m) :=
  sat_t cxT_ok cxT_pok (by rfl) (fn := f17) rfl a17 n17 dd17 m (ev17 m59) (kok_cons h59 kok_nil) kwok_nil (fun L x => g17 m59 L x.1.1 x.1.2.1 x.1.2.2.1 x.1.2.2.2.1 x.1.2.2.2.2.1 x.1.2.2.2.2.2 x.2) (fun L x => e17 m59 L x.1.1 x.1.2.1 x.1.2.2.1 x.1.2.2.2.1 x.1.2.2.2.2.1 x.1.2.2.2.2.2 x.2) hm hs17
/-! loop.example/g00222/laws.szByteS -/
def ev59 : Env cxT := { Kc := kcOf [], Kw := kwOf [], lv := fun i => [], xv := fun i => none }
theorem i59 (L : Nat) (a0 : (List Int)) (a1 : Int) : evF prog ev59 (loopN L) f59 (a59.enc (a0, a1)) =
  bif (decide ((Go.IntKind.wrap Go.IntKind.i64 (a1 - (Nat.cast (List.length a0) : Int))) < (0 : Int))) then some (n59 (-(1 : Int)))
  else some (n59 (Go.IntKind.wrap Go.IntKind.i64 (a1 - (Nat.cast (List.length a0) : Int)))) := by kernel_rfl
def g59 (L : Nat) (a0 : (List Int)) (a1 : Int) : Option Int :=
  bif (decide ((Go.IntKind.wrap Go.IntKind.i64 (a1 - (Nat.cast (List.length a0) : Int))) < (0 : Int))) then some (-(1 : Int))
  else some (Go.IntKind.wrap Go.IntKind.i64 (a1 - (Nat.cast (List.length a0) : Int)))
theorem e59 (L : Nat) (a0 : (List Int)) (a1 : Int) : evF prog ev59 (loopN L) f59 (a59.enc (a0, a1)) = (g59 L a0 a1).map n59 := by
  rw [i59]; simp only [g59, map_bif, Option.map_some, Option.map_none]
theorem s59 (m : ((List Int) × Int) → Option Int) (hm : ∀ (x : ((List Int) × Int)) t, m x = some t → ∃ L, g59 L x.1 x.2 = some t) : Sat prog cxT 59 (c59 m) :=
  sat_t cxT_ok cxT_pok (by rfl) (fn := f59) rfl a59 n59 dd59 m ev59 kok_nil kwok_nil (fun L x => g59 L x.1 x.2) (fun L x => e59 L x.1 x.2) hm hs59
/-! loop.example/g00222/spec.PacketFault -/
def ev18 (m58 : Int → Option Bool) (m60 : Int → Option Bool) : Env cxT := { Kc := kcOf [(58, c58 m58), (60, c60 m60)], Kw := kwOf [], lv := fun i => [], xv := fun i => none }
theorem i18 (m58 : Int → Option Bool) (m60 : Int → Option Bool) (L : Nat) (a0_0 : Int) (a0_1 : Int) (a0_2 : Int) (a0_3 : Int) (a0_4 : Int) (a0_5 : (List Int)) : evF prog (ev18 m58 m60) (loopN L) f18 (a18.enc (a0_0, a0_1, a0_2, a0_3, a0_4, a0_5)) =
  bif (Option.isSome (m58 a0_0)) then bif (!(Option.getD (m58 a0_0) Bool.false)) then some (n18 (3 : Int))
    else bif (Option.isSome (m58 a0_1)) then bif (!(Option.getD (m58 a0_1) Bool.false)) then some (n18 (3 : Int))
      else bif (a0_2 != (6 : Int)) then bif (a0_2 != (17 : Int)) then some (n18 (3 : Int))
        else bif (Option.isSome (m60 a0_3)) then bif (!(Option.getD (m60 a0_3) Bool.false)) then some (n18 (3 : Int))
          else bif (Option.isSome (m60 a0_4)) then bif (!(Option.getD (m60 a0_4) Bool.false)) then some (n18 (3 : Int))
            else bif (decide ((Nat.cast (List.length a0_5) : Int) > (200 : Int))) then some (n18 (2 : Int))
            else some (n18 (0 : Int))
          else none
        else none
      else bif (Option.isSome (m60 a0_3)) then bif (!(Option.getD (m60 a0_3) Bool.false)) then some (n18 (3 : Int))
        else bif (Option.isSome (m60 a0_4)) then bif (!(Option.getD (m60 a0_4) Bool.false)) then some (n18 (3 : Int))
          else bif (decide ((Nat.cast (List.length a0_5) : Int) > (200 : Int))) then some (n18 (2 : Int))
          else some (n18 (0 : Int))
        else none
      else none
    else none
  else none := by kernel_rfl
def g18 (m58 : Int → Option Bool) (m60 : Int → Option Bool) (L : Nat) (a0_0 : Int) (a0_1 : Int) (a0_2 : Int) (a0_3 : Int) (a0_4 : Int) (a0_5 : (List Int)) : Option Int :=
  bif (Option.isSome (m58 a0_0)) then bif (!(Option.getD (m58 a0_0) Bool.false)) then some (3 : Int)
    else bif (Option.isSome (m58 a0_1)) then bif (!(Option.getD (m58 a0_1) Bool.false)) then some (3 : Int)
      else bif (a0_2 != (6 : Int)) then bif (a0_2 != (17 : Int)) then some (3 : Int)
        else bif (Option.isSome (m60 a0_3)) then bif (!(Option.getD (m60 a0_3) Bool.false)) then some (3 : Int)
          else bif (Option.isSome (m60 a0_4)) then bif (!(Option.getD (m60 a0_4) Bool.false)) then some (3 : Int)
            else bif (decide ((Nat.cast (List.length a0_5) : Int) > (200 : Int))) then some (2 : Int)
            else some (0 : Int)
          else none
        else none
      else bif (Option.isSome (m60 a0_3)) then bif (!(Option.getD (m60 a0_3) Bool.false)) then some (3 : Int)
        else bif (Option.isSome (m60 a0_4)) then bif (!(Option.getD (m60 a0_4) Bool.false)) then some (3 : Int)
          else bif (decide ((Nat.cast (List.length a0_5) : Int) > (200 : Int))) then some (2 : Int)
          else some (0 : Int)
        else none
      else none
    else none
  else none
theorem e18 (m58 : Int → Option Bool) (m60 : Int → Option Bool) (L : Nat) (a0_0 : Int) (a0_1 : Int) (a0_2 : Int) (a0_3 : Int) (a0_4 : Int) (a0_5 : (List Int)) : evF prog (ev18 m58 m60) (loopN L) f18 (a18.enc (a0_0, a0_1, a0_2, a0_3, a0_4, a0_5)) = (g18 m58 m60 L a0_0 a0_1 a0_2 a0_3 a0_4 a0_5).map n18 := by
  rw [i18]; simp only [g18, map_bif, Option.map_some, Option.map_none]
theorem s18 (m58 : Int → Option Bool) (m60 : Int → Option Bool) (h58 : Sat prog cxT 58 (c58 m58)) (h60 : Sat prog cxT 60 (c60 m60)) (m : (Int × Int × Int × Int × Int × (List Int)) → Option Int) (hm : ∀ (x : (Int × Int × Int × Int × Int × (List Int))) t, m x = some t → ∃ L, g18 m58 m60 L x.1 x.2.1 x.2.2.1 x.2.2.2.1 x.2.2.2.2.1 x.2.2.2.2.2 = some t) : Sat prog cxT 18 (c18 m) :=
  sat_t cxT_ok cxT_pok (by rfl) (fn := f18) rfl a18 n18 dd18 m (ev18 m58 m60) (kok_cons h58 (kok_cons h60 kok_nil)) kwok_nil (fun L x => g18 m58 m60 L x.1 x.2.1 x.2.2.1 x.2.2.2.1 x.2.2.2.2.1 x.2.2.2.2.2) (fun L x => e18 m58 m60 L x.1 x.2.1 x.2.2.1 x.2.2.2.1 x.2.2.2.2.1 x.2.2.2.2.2) hm hs18
/-! loop.example/g00222/spec.l2Address -/
def ev58 (m49 : (Int × Int × Int) → Option Bool) : Env cxT := { Kc := kcOf [(49, c49 m49)], Kw := kwOf [], lv := fun i => [], xv := fun i => none }
theorem i58 (m49 : (Int × Int × Int) → Option Bool) (L : Nat) (a0 : Int) : evF prog (ev58 m49) (loopN L) f58 (a58.enc a0) =
  bif (Option.isSome (m49 (a0, ((0 : Int), (4294967295 : Int))))) then some (n58 (Option.getD (m49 (a0, ((0 : Int), (4294967295 : Int)))) Bool.false))
  else none := by kernel_rfl
def g58 (m49 : (Int × Int × Int) → Option Bool) (L : Nat) (a0 : Int) : Option Bool :=
  bif (Option.isSome (m49 (a0, ((0 : Int), (4294967295 : Int))))) then some (Option.getD (m49 (a0, ((0 : Int), (4294967295 : Int)))) Bool.false)
  else none
theorem e58 (m49 : (Int × Int × Int) → Option Bool) (L : Nat) (a0 : Int) : evF prog (ev58 m49) (loopN L) f58 (a58.enc a0) = (g58 m49 L a0).map n58 := by
  rw [i58]; simp only [g58, map_bif, Option.map_some, Option.map_none]
theorem s58 (m49 : (Int × Int × Int) → Option Bool) (h49 : Sat prog cxT 49 (c49 m49)) (m : Int → Option Bool) (hm : ∀ (x : Int) t, m x = some t → ∃ L, g58 m49 L x = some t) : Sat prog cxT 58 (c58 m) :=
  sat_t cxT_ok cxT_pok (by rfl) (fn := f58) rfl a58 n58 dd58 m (ev58 m49) (kok_cons h49 kok_nil) kwok_nil (fun L x => g58 m49 L x) (fun L x => e58 m49 L x) hm hs58
/-! loop.example/g00222/spec.l2Port -/
def ev60 (m49 : (Int × Int × Int) → Option Bool) : Env cxT := { Kc := kcOf [(49, c49 m49)], Kw := kwOf [], lv := fun i => [], xv := fun i => none }
theorem i60 (m49 : (Int × Int × Int) → Option Bool) (L : Nat) (a0 : Int) : evF prog (ev60 m49) (loopN L) f60 (a60.enc a0) =
  bif (Option.isSome (m49 (a0, ((0 : Int), (65535 : Int))))) then some (n60 (Option.getD (m49 (a0, ((0 : Int), (65535 : Int)))) Bool.false))
  else none := by kernel_rfl
def g60 (m49 : (Int × Int × Int) → Option Bool) (L : Nat) (a0 : Int) : Option Bool :=
  bif (Option.isSome (m49 (a0, ((0 : Int), (65535 : Int))))) then some (Option.getD (m49 (a0, ((0 : Int), (65535 : Int)))) Bool.false)
  else none
theorem e60 (m49 : (Int × Int × Int) → Option Bool) (L : Nat) (a0 : Int) : evF prog (ev60 m49) (loopN L) f60 (a60.enc a0) = (g60 m49 L a0).map n60 := by
  rw [i60]; simp only [g60, map_bif, Option.map_some, Option.map_none]
theorem s60 (m49 : (Int × Int × Int) → Option Bool) (h49 : Sat prog cxT 49 (c49 m49)) (m : Int → Option Bool) (hm : ∀ (x : Int) t, m x = some t → ∃ L, g60 m49 L x = some t) : Sat prog cxT 60 (c60 m) :=
  sat_t cxT_ok cxT_pok (by rfl) (fn := f60) rfl a60 n60 dd60 m (ev60 m49) (kok_cons h49 kok_nil) kwok_nil (fun L x => g60 m49 L x) (fun L x => e60 m49 L x) hm hs60
/-! loop.example/g00222/spec.l1In -/
def ev49 : Env cxT := { Kc := kcOf [], Kw := kwOf [], lv := fun i => [], xv := fun i => none }
theorem i49 (L : Nat) (a0 : Int) (a1 : Int) (a2 : Int) : evF prog ev49 (loopN L) f49 (a49.enc (a0, a1, a2)) =
  bif (decide (a0 ≥ a1)) then some (n49 (decide (a0 ≤ a2)))
  else some (n49 Bool.false) := by kernel_rfl
def g49 (L : Nat) (a0 : Int) (a1 : Int) (a2 : Int) : Option Bool :=
  bif (decide (a0 ≥ a1)) then some (decide (a0 ≤ a2))
  else some Bool.false
theorem e49 (L : Nat) (a0 : Int) (a1 : Int) (a2 : Int) : evF prog ev49 (loopN L) f49 (a49.enc (a0, a1, a2)) = (g49 L a0 a1 a2).map n49 := by
  rw [i49]; simp only [g49, map_bif, Option.map_some, Option.map_none]
theorem s49 (m : (Int × Int × Int) → Option Bool) (hm : ∀ (x : (Int × Int × Int)) t, m x = some t → ∃ L, g49 L x.1 x.2.1 x.2.2 = some t) : Sat prog cxT 49 (c49 m) :=
  sat_t cxT_ok cxT_pok (by rfl) (fn := f49) rfl a49 n49 dd49 m ev49 kok_nil kwok_nil (fun L x => g49 L x.1 x.2.1 x.2.2) (fun L x => e49 L x.1 x.2.1 x.2.2) hm hs49
/-! loop.example/g00222/laws.toPacket -/
def ev19 (m29 : (List Int) → Option (List Int)) : Env cxT := { Kc := kcOf [(29, c29 m29)], Kw := kwOf [], lv := fun i => [], xv := fun i => none }
theorem i19 (m29 : (List Int) → Option (List Int)) (L : Nat) (a0_0 : Int) (a0_1 : Int) (a0_2 : Int) (a0_3 : Int) (a0_4 : Int) (a0_5 : (List Int)) : evF prog (ev19 m29) (loopN L) f19 (a19.enc (a0_0, a0_1, a0_2, a0_3, a0_4, a0_5)) =
  bif (Option.isSome (m29 a0_5)) then some (n19 (a0_0, a0_1, a0_2, a0_3, a0_4, (Option.getD (m29 a0_5) [])))
  else none := by kernel_rfl
def g19 (m29 : (List Int) → Option (List Int)) (L : Nat) (a0_0 : Int) (a0_1 : Int) (a0_2 : Int) (a0_3 : Int) (a0_4 : Int) (a0_5 : (List Int)) : Option (Int × Int × Int × Int × Int × (List Int)) :=
  bif (Option.isSome (m29 a0_5)) then some (a0_0, a0_1, a0_2, a0_3, a0_4, (Option.getD (m29 a0_5) []))
  else none
theorem e19 (m29 : (List Int) → Option (List Int)) (L : Nat) (a0_0 : Int) (a0_1 : Int) (a0_2 : Int) (a0_3 : Int) (a0_4 : Int) (a0_5 : (List Int)) : evF prog (ev19 m29) (loopN L) f19 (a19.enc (a0_0, a0_1, a0_2, a0_3, a0_4, a0_5)) = (g19 m29 L a0_0 a0_1 a0_2 a0_3 a0_4 a0_5).map n19 := by
  rw [i19]; simp only [g19, map_bif, Option.map_some, Option.map_none]
theorem s19 (m29 : (List Int) → Option (List Int)) (h29 : Sat prog cxT 29 (c29 m29)) (m : (Int × Int × Int × Int × Int × (List Int)) → Option (Int × Int × Int × Int × Int × (List Int))) (hm : ∀ (x : (Int × Int × Int × Int × Int × (List Int))) t, m x = some t → ∃ L, g19 m29 L x.1 x.2.1 x.2.2.1 x.2.2.2.1 x.2.2.2.2.1 x.2.2.2.2.2 = some t) : Sat prog cxT 19 (c19 m) :=
  sat_t cxT_ok cxT_pok (by rfl) (fn := f19) rfl a19 n19 dd19 m (ev19 m29) (kok_cons h29 kok_nil) kwok_nil (fun L x => g19 m29 L x.1 x.2.1 x.2.2.1 x.2.2.2.1 x.2.2.2.2.1 x.2.2.2.2.2) (fun L x => e19 m29 L x.1 x.2.1 x.2.2.1 x.2.2.2.1 x.2.2.2.2.1 x.2.2.2.2.2) hm hs19
/-! loop.example/g00222/laws.toByteS -/
def ev29 : Env cxT := { Kc := kcOf [], Kw := kwOf [], lv := fun i => if i = 0 then [(0, [some 5]), (3, [some 5]), (4, [])] else [], xv := fun i => if i = 0 then some [(3, [some 5])] else none }
def S29_0 (a0 : (List Int)) (v0_3 : (List Int)) (v0_4 : Int) : St cxT.ty := { slots := [(.inl (.inl (ls { own := 0, nm := 0, e := 5, o := false, xs := a0 }))), junk, junk, (.inl (.inl (ls { own := 1, nm := 192, e := 5, o := true, xs := v0_3 }))), (.inl (.inl (lv (.int .i64 v0_4))))] ++ List.replicate 17 junk, D := [], F := [], ctr := 1 }
def X29_0 (a0 : (List Int)) (w0_3 : (List Int)) : St cxT.ty := { slots := [junk, junk, junk, (.inl (.inl (ls { own := 1, nm := 192, e := 5, o := true, xs := w0_3 })))] ++ List.replicate 18 junk, D := [], F := [], ctr := 1 }
theorem i29 (L : Nat) (a0 : (List Int)) : evF prog ev29 (loopN L) f29 (a29.enc a0) =
  bif (((decide ((0 : Int) ≤ (Nat.cast (List.length a0) : Int))) && (decide ((Nat.cast (List.length a0) : Int) ≤ (Nat.cast (List.length a0) : Int)))) && (decide ((Nat.cast (List.length a0) : Int) ≤ (1000000000 : Int)))) then headF prog ev29 L f29 0 [1, 1, 0, 1, 0, 0] (outK (outV prog f29) (topK prog ev29 L f29 [1, 1, 0, 1] (outV prog f29)).n (topK prog ev29 L f29 [1, 1, 0, 1] (outV prog f29)).x) L (S29_0 a0 (List.replicate (Int.toNat (Nat.cast (List.length a0) : Int)) (0 : Int)) (0 : Int))
  else none := by kernel_rfl
theorem r29_0 (L : Nat) (a0 : (List Int)) (k : St cxT.ty → Option (V cxT.ty)) (xk : Nat → St cxT.ty → Option (V cxT.ty)) (g : St cxT.ty → Option (V cxT.ty)) (v0_3 : (List Int)) (v0_4 : Int) : roundF prog ev29 L f29 0 [1, 1, 0, 1, 0, 0] (outK (outV prog f29) k xk) g (S29_0 a0 v0_3 v0_4) =
  bif (decide (v0_4 < (Nat.cast (List.length a0) : Int))) then bif ((decide ((0 : Int) ≤ v0_4)) && (decide (v0_4 < (Nat.cast (List.length a0) : Int)))) then bif ((decide ((0 : Int) ≤ v0_4)) && (decide (v0_4 < (Nat.cast (List.length v0_3) : Int)))) then g (S29_0 a0 (List.set v0_3 (Int.toNat v0_4) (List.getD a0 (Int.toNat v0_4) (0 : Int))) (Go.IntKind.wrap Go.IntKind.i64 (v0_4 + (1 : Int))))
      else none
    else none
  else k (X29_0 a0 v0_3) := by kernel_rfl
theorem t29_0 (L : Nat) (a0 : (List Int)) (w0_3 : (List Int)) : (topK prog ev29 L f29 [1, 1, 0, 1] (outV prog f29)).n (X29_0 a0 w0_3) =
  some (n29 w0_3) := by kernel_rfl
def l29_0 (L : Nat) (a0 : (List Int)) : Nat → (List Int) → Int → ((List Int) → Option (List Int)) → Option (List Int)
  | 0, _, _, _ => none
  | n + 1, v0_3, v0_4, k =>
    bif (decide (v0_4 < (Nat.cast (List.length a0) : Int))) then bif ((decide ((0 : Int) ≤ v0_4)) && (decide (v0_4 < (Nat.cast (List.length a0) : Int)))) then bif ((decide ((0 : Int) ≤ v0_4)) && (decide (v0_4 < (Nat.cast (List.length v0_3) : Int)))) then l29_0 L a0 n (List.set v0_3 (Int.toNat v0_4) (List.getD a0 (Int.toNat v0_4) (0 : Int))) (Go.IntKind.wrap Go.IntKind.i64 (v0_4 + (1 : Int))) k
        else none
      else none
    else k v0_3
theorem h29_0 (L : Nat) (a0 : (List Int)) (k : St cxT.ty → Option (V cxT.ty)) (xk : Nat → St cxT.ty → Option (V cxT.ty)) (k' : (List Int) → Option (List Int)) (hk : ∀ (w0_3 : (List Int)), k (X29_0 a0 w0_3) = (k' w0_3).map n29) : ∀ (n : Nat) (v0_3 : (List Int)) (v0_4 : Int), headF prog ev29 L f29 0 [1, 1, 0, 1, 0, 0] (outK (outV prog f29) k xk) n (S29_0 a0 v0_3 v0_4) = (l29_0 L a0 n v0_3 v0_4 k').map n29
  | 0, _, _ => rfl
  | n + 1, v0_3, v0_4 => by
    rw [headF_round, r29_0]
    have ih := h29_0 L a0 k xk k' hk n
    simp only [l29_0, map_bif, Option.map_some, Option.map_none, ih, hk]
def g29 (L : Nat) (a0 : (List Int)) : Option (List Int) :=
  bif (((decide ((0 : Int) ≤ (Nat.cast (List.length a0) : Int))) && (decide ((Nat.cast (List.length a0) : Int) ≤ (Nat.cast (List.length a0) : Int)))) && (decide ((Nat.cast (List.length a0) : Int) ≤ (1000000000 : Int)))) then l29_0 L a0 L (List.replicate (Int.toNat (Nat.cast (List.length a0) : Int)) (0 : Int)) (0 : Int) (fun (w0_3 : (List Int)) => some w0_3)
  else none
theorem e29 (L : Nat) (a0 : (List Int)) : evF prog ev29 (loopN L) f29 (a29.enc a0) = (g29 L a0).map n29 := by
  let K'0 : (List Int) → Option (List Int) := (fun (w0_3 : (List Int)) => some w0_3)
  have hin0 : ∀ (v0_3 : (List Int)) (v0_4 : Int), headF prog ev29 L f29 0 [1, 1, 0, 1, 0, 0] (outK (outV prog f29) (topK prog ev29 L f29 [1, 1, 0, 1] (outV prog f29)).n (topK prog ev29 L f29 [1, 1, 0, 1] (outV prog f29)).x) L (S29_0 a0 v0_3 v0_4) = (l29_0 L a0 L v0_3 v0_4 K'0).map n29 := fun v0_3 v0_4 => h29_0 L a0 _ _ K'0 (fun w0_3 => by rw [t29_0]; simp only [K'0, map_bif, Option.map_some, Option.map_none]) L v0_3 v0_4
  rw [i29]; simp only [g29, map_bif, Option.map_some, Option.map_none, hin0, K'0]
theorem s29 (m : (List Int) → Option (List Int)) (hm : ∀ (x : (List Int)) t, m x = some t → ∃ L, g29 L x = some t) : Sat prog cxT 29 (c29 m) :=
  sat_t cxT_ok cxT_pok (by rfl) (fn := f29) rfl a29 n29 dd29 m ev29 kok_nil kwok_nil (fun L x => g29 L x) (fun L x => e29 L x) hm hs29
/-! loop.example/g00222/impl.PacketFault -/
def ev20 (m51 : Int → Option Bool) (m61 : Int → Option Bool) (m62 : Int → Option Bool) : Env cxT := { Kc := kcOf [(51, c51 m51), (61, c61 m61), (62, c62 m62)], Kw := kwOf [], lv := fun i => [], xv := fun i => none }
theorem i20 (m51 : Int → Option Bool) (m61 : Int → Option Bool) (m62 : Int → Option Bool) (L : Nat) (a0_0 : Int) (a0_1 : Int) (a0_2 : Int) (a0_3 : Int) (a0_4 : Int) (a0_5 : (List Int)) : evF prog (ev20 m51 m61 m62) (loopN L) f20 (a20.enc (a0_0, a0_1, a0_2, a0_3, a0_4, a0_5)) =
  bif (Option.isSome (m51 a0_0)) then bif (!(Option.getD (m51 a0_0) Bool.false)) then some (n20 (3 : Int))
    else bif (Option.isSome (m51 a0_1)) then bif (!(Option.getD (m51 a0_1) Bool.false)) then some (n20 (3 : Int))
      else bif (Option.isSome (m61 a0_2)) then bif (!(Option.getD (m61 a0_2) Bool.false)) then some (n20 (3 : Int))
        else bif (Option.isSome (m62 a0_3)) then bif (!(Option.getD (m62 a0_3) Bool.false)) then some (n20 (3 : Int))
          else bif (Option.isSome (m62 a0_4)) then bif (!(Option.getD (m62 a0_4) Bool.false)) then some (n20 (3 : Int))
            else bif (decide ((Nat.cast (List.length a0_5) : Int) > (200 : Int))) then some (n20 (2 : Int))
            else some (n20 (0 : Int))
          else none
        else none
      else none
    else none
  else none := by kernel_rfl
def g20 (m51 : Int → Option Bool) (m61 : Int → Option Bool) (m62 : Int → Option Bool) (L : Nat) (a0_0 : Int) (a0_1 : Int) (a0_2 : Int) (a0_3 : Int) (a0_4 : Int) (a0_5 : (List Int)) : Option Int :=
  bif (Option.isSome (m51 a0_0)) then bif (!(Option.getD (m51 a0_0) Bool.false)) then some (3 : Int)
    else bif (Option.isSome (m51 a0_1)) then bif (!(Option.getD (m51 a0_1) Bool.false)) then some (3 : Int)
      else bif (Option.isSome (m61 a0_2)) then bif (!(Option.getD (m61 a0_2) Bool.false)) then some (3 : Int)
        else bif (Option.isSome (m62 a0_3)) then bif (!(Option.getD (m62 a0_3) Bool.false)) then some (3 : Int)
          else bif (Option.isSome (m62 a0_4)) then bif (!(Option.getD (m62 a0_4) Bool.false)) then some (3 : Int)
            else bif (decide ((Nat.cast (List.length a0_5) : Int) > (200 : Int))) then some (2 : Int)
            else some (0 : Int)
          else none
        else none
      else none
    else none
  else none
theorem e20 (m51 : Int → Option Bool) (m61 : Int → Option Bool) (m62 : Int → Option Bool) (L : Nat) (a0_0 : Int) (a0_1 : Int) (a0_2 : Int) (a0_3 : Int) (a0_4 : Int) (a0_5 : (List Int)) : evF prog (ev20 m51 m61 m62) (loopN L) f20 (a20.enc (a0_0, a0_1, a0_2, a0_3, a0_4, a0_5)) = (g20 m51 m61 m62 L a0_0 a0_1 a0_2 a0_3 a0_4 a0_5).map n20 := by
  rw [i20]; simp only [g20, map_bif, Option.map_some, Option.map_none]
theorem s20 (m51 : Int → Option Bool) (m61 : Int → Option Bool) (m62 : Int → Option Bool) (h51 : Sat prog cxT 51 (c51 m51)) (h61 : Sat prog cxT 61 (c61 m61)) (h62 : Sat prog cxT 62 (c62 m62)) (m : (Int × Int × Int × Int × Int × (List Int)) → Option Int) (hm : ∀ (x : (Int × Int × Int × Int × Int × (List Int))) t, m x = some t → ∃ L, g20 m51 m61 m62 L x.1 x.2.1 x.2.2.1 x.2.2.2.1 x.2.2.2.2.1 x.2.2.2.2.2 = some t) : Sat prog cxT 20 (c20 m) :=
  sat_t cxT_ok cxT_pok (by rfl) (fn := f20) rfl a20 n20 dd20 m (ev20 m51 m61 m62) (kok_cons h51 (kok_cons h61 (kok_cons h62 kok_nil))) kwok_nil (fun L x => g20 m51 m61 m62 L x.1 x.2.1 x.2.2.1 x.2.2.2.1 x.2.2.2.2.1 x.2.2.2.2.2) (fun L x => e20 m51 m61 m62 L x.1 x.2.1 x.2.2.1 x.2.2.2.1 x.2.2.2.2.1 x.2.2.2.2.2) hm hs20
/-! loop.example/g00222/impl.isAddress -/
def ev51 : Env cxT := { Kc := kcOf [], Kw := kwOf [], lv := fun i => [], xv := fun i => none }
theorem i51 (L : Nat) (a0 : Int) : evF prog ev51 (loopN L) f51 (a51.enc a0) =
  bif (decide (a0 ≥ (0 : Int))) then some (n51 (decide (a0 ≤ (4294967295 : Int))))
  else some (n51 Bool.false) := by kernel_rfl
def g51 (L : Nat) (a0 : Int) : Option Bool :=
  bif (decide (a0 ≥ (0 : Int))) then some (decide (a0 ≤ (4294967295 : Int)))
  else some Bool.false
theorem e51 (L : Nat) (a0 : Int) : evF prog ev51 (loopN L) f51 (a51.enc a0) = (g51 L a0).map n51 := by
  rw [i51]; simp only [g51, map_bif, Option.map_some, Option.map_none]
theorem s51 (m : Int → Option Bool) (hm : ∀ (x : Int) t, m x = some t → ∃ L, g51 L x = some t) : Sat prog cxT 51 (c51 m) :=
  sat_t cxT_ok cxT_pok (by rfl) (fn := f51) rfl a51 n51 dd51 m ev51 kok_nil kwok_nil (fun L x => g51 L x) (fun L x => e51 L x) hm hs51
/-! loop.example/g00222/impl.isProto -/
def ev61 : Env cxT := { Kc := kcOf [], Kw := kwOf [], lv := fun i => [], xv := fun i => none }
theorem i61 (L : Nat) (a0 : Int) : evF prog ev61 (loopN L) f61 (a61.enc a0) =
  bif (a0 == (6 : Int)) then some (n61 Bool.true)
  else some (n61 (a0 == (17 : Int))) := by kernel_rfl
def g61 (L : Nat) (a0 : Int) : Option Bool :=
  bif (a0 == (6 : Int)) then some Bool.true
  else some (a0 == (17 : Int))
theorem e61 (L : Nat) (a0 : Int) : evF prog ev61 (loopN L) f61 (a61.enc a0) = (g61 L a0).map n61 := by
  rw [i61]; simp only [g61, map_bif, Option.map_some, Option.map_none]
theorem s61 (m : Int → Option Bool) (hm : ∀ (x : Int) t, m x = some t → ∃ L, g61 L x = some t) : Sat prog cxT 61 (c61 m) :=
  sat_t cxT_ok cxT_pok (by rfl) (fn := f61) rfl a61 n61 dd61 m ev61 kok_nil kwok_nil (fun L x => g61 L x) (fun L x => e61 L x) hm hs61
/-! loop.example/g00222/impl.isPort -/
def ev62 : Env cxT := { Kc := kcOf [], Kw := kwOf [], lv := fun i => [], xv := fun i => none }
theorem i62 (L : Nat) (a0 : Int) : evF prog ev62 (loopN L) f62 (a62.enc a0) =
  bif (decide (a0 ≥ (0 : Int))) then some (n62 (decide (a0 ≤ (65535 : Int))))
  else some (n62 Bool.false) := by kernel_rfl
def g62 (L : Nat) (a0 : Int) : Option Bool :=
  bif (decide (a0 ≥ (0 : Int))) then some (decide (a0 ≤ (65535 : Int)))
  else some Bool.false
theorem e62 (L : Nat) (a0 : Int) : evF prog ev62 (loopN L) f62 (a62.enc a0) = (g62 L a0).map n62 := by
  rw [i62]; simp only [g62, map_bif, Option.map_some, Option.map_none]
theorem s62 (m : Int → Option Bool) (hm : ∀ (x : Int) t, m x = some t → ∃ L, g62 L x = some t) : Sat prog cxT 62 (c62 m) :=
  sat_t cxT_ok cxT_pok (by rfl) (fn := f62) rfl a62 n62 dd62 m ev62 kok_nil kwok_nil (fun L x => g62 L x) (fun L x => e62 L x) hm hs62
/-! loop.example/g00222/laws.eqPacket -/
def ev21 (m32 : ((List Int) × (List Int)) → Option Bool) : Env cxT := { Kc := kcOf [(32, c32 m32)], Kw := kwOf [], lv := fun i => [], xv := fun i => none }
theorem i21 (m32 : ((List Int) × (List Int)) → Option Bool) (L : Nat) (a0_0 : Int) (a0_1 : Int) (a0_2 : Int) (a0_3 : Int) (a0_4 : Int) (a0_5 : (List Int)) (a1_0 : Int) (a1_1 : Int) (a1_2 : Int) (a1_3 : Int) (a1_4 : Int) (a1_5 : (List Int)) : evF prog (ev21 m32) (loopN L) f21 (a21.enc ((a0_0, a0_1, a0_2, a0_3, a0_4, a0_5), (a1_0, a1_1, a1_2, a1_3, a1_4, a1_5))) =
  bif (a0_0 != a1_0) then some (n21 Bool.false)
  else bif (a0_1 != a1_1) then some (n21 Bool.false)
  else bif (a0_2 != a1_2) then some (n21 Bool.false)
  else bif (a0_3 != a1_3) then some (n21 Bool.false)
  else bif (a0_4 != a1_4) then some (n21 Bool.false)
  else bif (Option.isSome (m32 (a0_5, a1_5))) then bif (!(Option.getD (m32 (a0_5, a1_5)) Bool.false)) then some (n21 Bool.false)
    else some (n21 Bool.true)
  else none := by kernel_rfl
def g21 (m32 : ((List Int) × (List Int)) → Option Bool) (L : Nat) (a0_0 : Int) (a0_1 : Int) (a0_2 : Int) (a0_3 : Int) (a0_4 : Int) (a0_5 : (List Int)) (a1_0 : Int) (a1_1 : Int) (a1_2 : Int) (a1_3 : Int) (a1_4 : Int) (a1_5 : (List Int)) : Option Bool :=
  bif (a0_0 != a1_0) then some Bool.false
  else bif (a0_1 != a1_1) then some Bool.false
  else bif (a0_2 != a1_2) then some Bool.false
  else bif (a0_3 != a1_3) then some Bool.false
  else bif (a0_4 != a1_4) then some Bool.false
  else bif (Option.isSome (m32 (a0_5, a1_5))) then bif (!(Option.getD (m32 (a0_5, a1_5)) Bool.false)) then some Bool.false
    else some Bool.true
  else none
theorem e21 (m32 : ((List Int) × (List Int)) → Option Bool) (L : Nat) (a0_0 : Int) (a0_1 : Int) (a0_2 : Int) (a0_3 : Int) (a0_4 : Int) (a0_5 : (List Int)) (a1_0 : Int) (a1_1 : Int) (a1_2 : Int) (a1_3 : Int) (a1_4 : Int) (a1_5 : (List Int)) : evF prog (ev21 m32) (loopN L) f21 (a21.enc ((a0_0, a0_1, a0_2, a0_3, a0_4, a0_5), (a1_0, a1_1, a1_2, a1_3, a1_4, a1_5))) = (g21 m32 L a0_0 a0_1 a0_2 a0_3 a0_4 a0_5 a1_0 a1_1 a1_2 a1_3 a1_4 a1_5).map n21 := by
  rw [i21]; simp only [g21, map_bif, Option.map_some, Option.map_none]
theorem s21 (m32 : ((List Int) × (List Int)) → Option Bool) (h32 : Sat prog cxT 32 (c32 m32)) (m : ((Int × Int × Int × Int × Int × (List Int)) × (Int × Int × Int × Int × Int × (List Int))) → Option Bool) (hm : ∀ (x : ((Int × Int × Int × Int × Int × (List Int)) × (Int × Int × Int × Int × Int × (List Int)))) t, m x = some t → ∃ L, g21 m32 L x.1.1 x.1.2.1 x.1.2.2.1 x.1.2.2.2.1 x.1.2.2.2.2.1 x.1.2.2.2.2.2 x.2.1 x.2.2.1 x.2.2.2.1 x.2.2.2.2.1 x.2.2.2.2.2.1 x.2.2.2.2.2.2 = some t) : Sat prog cxT 21 (c21 m) :=
  sat_t cxT_ok cxT_pok (by rfl) (fn := f21) rfl a21 n21 dd21 m (ev21 m32) (kok_cons h32 kok_nil) kwok_nil (fun L x => g21 m32 L x.1.1 x.1.2.1 x.1.2.2.1 x.1.2.2.2.1 x.1.2.2.2.2.1 x.1.2.2.2.2.2 x.2.1 x.2.2.1 x.2.2.2.1 x.2.2.2.2.1 x.2.2.2.2.2.1 x.2.2.2.2.2.2) (fun L x => e21 m32 L x.1.1 x.1.2.1 x.1.2.2.1 x.1.2.2.2.1 x.1.2.2.2.2.1 x.1.2.2.2.2.2 x.2.1 x.2.2.1 x.2.2.2.1 x.2.2.2.2.1 x.2.2.2.2.2.1 x.2.2.2.2.2.2) hm hs21
/-! loop.example/g00222/laws.eqByteS -/
def ev32 : Env cxT := { Kc := kcOf [], Kw := kwOf [], lv := fun i => if i = 0 then [(0, [some 5]), (1, [some 5]), (5, [])] else [], xv := fun i => if i = 0 then some [] else none }
def S32_0 (a0 : (List Int)) (a1 : (List Int)) (v0_5 : Int) : St cxT.ty := { slots := [(.inl (.inl (ls { own := 0, nm := 0, e := 5, o := false, xs := a0 }))), (.inl (.inl (ls { own := 0, nm := 0, e := 5, o := false, xs := a1 }))), junk, junk, junk, (.inl (.inl (lv (.int .i64 v0_5))))] ++ List.replicate 20 junk, D := [], F := [], ctr := 1 }
def X32_0 (a0 : (List Int)) (a1 : (List Int)) : St cxT.ty := { slots := [] ++ List.replicate 26 junk, D := [], F := [], ctr := 1 }
theorem i32 (L : Nat) (a0 : (List Int)) (a1 : (List Int)) : evF prog ev32 (loopN L) f32 (a32.enc (a0, a1)) =
  bif ((Nat.cast (List.length a0) : Int) != (Nat.cast (List.length a1) : Int)) then some (n32 Bool.false)
  else headF prog ev32 L f32 0 [1, 1, 0, 1, 0, 0] (outK (outV prog f32) (topK prog ev32 L f32 [1, 1, 0, 1] (outV prog f32)).n (topK prog ev32 L f32 [1, 1, 0, 1] (outV prog f32)).x) L (S32_0 a0 a1 (0 : Int)) := by kernel_rfl
theorem r32_0 (L : Nat) (a0 : (List Int)) (a1 : (List Int)) (k : St cxT.ty → Option (V cxT.ty)) (xk : Nat → St cxT.ty → Option (V cxT.ty)) (g : St cxT.ty → Option (V cxT.ty)) (v0_5 : Int) : roundF prog ev32 L f32 0 [1, 1, 0, 1, 0, 0] (outK (outV prog f32) k xk) g (S32_0 a0 a1 v0_5) =
  bif (decide (v0_5 < (Nat.cast (List.length a0) : Int))) then bif ((decide ((0 : Int) ≤ v0_5)) && (decide (v0_5 < (Nat.cast (List.length a0) : Int)))) then bif ((decide ((0 : Int) ≤ v0_5)) && (decide (v0_5 < (Nat.cast (List.length a1) : Int)))) then bif ((List.getD a0 (Int.toNat v0_5) (0 : Int)) != (List.getD a1 (Int.toNat v0_5) (0 : Int))) then some (n32 Bool.false)
        else g (S32_0 a0 a1 (Go.IntKind.wrap Go.IntKind.i64 (v0_5 + (1 : Int))))
      else none
    else none
  else k (X32_0 a0 a1) := by kernel_rfl
theorem t32_0 (L : Nat) (a0 : (List Int)) (a1 : (List Int)) : (topK prog ev32 L f32 [1, 1, 0, 1] (outV prog f32)).n (X32_0 a0 a1) =
  some (n32 Bool.true) := by kernel_rfl
def l32_0 (L : Nat) (a0 : (List Int)) (a1 : (List Int)) : Nat → Int → (Option Bool) → Option Bool
  | 0, _, _ => none
  | n + 1, v0_5, k =>
    bif (decide (v0_5 < (Nat.cast (List.length a0) : Int))) then bif ((decide ((0 : Int) ≤ v0_5)) && (decide (v0_5 < (Nat.cast (List.length a0) : Int)))) then bif ((decide ((0 : Int) ≤ v0_5)) && (decide (v0_5 < (Nat.cast (List.length a1) : Int)))) then bif ((List.getD a0 (Int.toNat v0_5) (0 : Int)) != (List.getD a1 (Int.toNat v0_5) (0 : Int))) then some Bool.false
          else l32_0 L a0 a1 n (Go.IntKind.wrap Go.IntKind.i64 (v0_5 + (1 : Int))) k
        else none
      else none
    else k
theorem h32_0 (L : Nat) (a0 : (List Int)) (a1 : (List Int)) (k : St cxT.ty → Option (V cxT.ty)) (xk : Nat → St cxT.ty → Option (V cxT.ty)) (k' : Option Bool) (hk : k (X32_0 a0 a1) = (k').map n32) : ∀ (n : Nat) (v0_5 : Int), headF prog ev32 L f32 0 [1, 1, 0, 1, 0, 0] (outK (outV prog f32) k xk) n (S32_0 a0 a1 v0_5) = (l32_0 L a0 a1 n v0_5 k').map n32
  | 0, _ => rfl
  | n + 1, v0_5 => by
    rw [headF_round, r32_0]
    have ih := h32_0 L a0 a1 k xk k' hk n
    simp only [l32_0, map_bif, Option.map_some, Option.map_none, ih, hk]
def g32 (L : Nat) (a0 : (List Int)) (a1 : (List Int)) : Option Bool :=
  bif ((Nat.cast (List.length a0) : Int) != (Nat.cast (List.length a1) : Int)) then some Bool.false
  else l32_0 L a0 a1 L (0 : Int) (some Bool.true)
theorem e32 (L : Nat) (a0 : (List Int)) (a1 : (List Int)) : evF prog ev32 (loopN L) f32 (a32.enc (a0, a1)) = (g32 L a0 a1).map n32 := by
  let K'0 : Option Bool := (some Bool.true)
  have hin0 : ∀ (v0_5 : Int), headF prog ev32 L f32 0 [1, 1, 0, 1, 0, 0] (outK (outV prog f32) (topK prog ev32 L f32 [1, 1, 0, 1] (outV prog f32)).n (topK prog ev32 L f32 [1, 1, 0, 1] (outV prog f32)).x) L (S32_0 a0 a1 v0_5) = (l32_0 L a0 a1 L v0_5 K'0).map n32 := fun v0_5 => h32_0 L a0 a1 _ _ K'0 (by rw [t32_0]; simp only [K'0, map_bif, Option.map_some, Option.map_none]) L v0_5
  rw [i32]; simp only [g32, map_bif, Option.map_some, Option.map_none, hin0, K'0]
theorem s32 (m : ((List Int) × (List Int)) → Option Bool) (hm : ∀ (x : ((List Int) × (List Int))) t, m x = some t → ∃ L, g32 L x.1 x.2 = some t) : Sat prog cxT 32 (c32 m) :=
  sat_t cxT_ok cxT_pok (by rfl) (fn := f32) rfl a32 n32 dd32 m ev32 kok_nil kwok_nil (fun L x => g32 L x.1 x.2) (fun L x => e32 L x.1 x.2) hm hs32
end Go.Proofs.Try
