/- A part of the proof of FnExactUnwrapGre: L2Fa, L2Pa. -/
import Derived.Test.YtaegcoihgnobiaaL2Base
import Derived.Test.YtaegcoihgnobiaaVmOpen
set_option maxHeartbeats 0
set_option linter.unusedVariables false
set_option linter.unusedSimpArgs false
namespace Go.Proofs.Try
open Go Go.VM Go.RowKit
/-! loop.example/g00222/laws.FnExactPacketFault -/
def ev4 (m17 : ((Int × Int × Int × Int × Int × (List Int)) × Int) → Option Int) (m19 : (Int × Int × Int × Int × Int × (List Int)) → Option (Int × Int × Int × Int × Int × (List Int))) (m18 : (Int × Int × Int × Int × Int × (List Int)) → Option Int) (m20 : (Int × Int × Int × Int × Int × (List Int)) → Option Int) (m21 : ((Int × Int × Int × Int × Int × (List Int)) × (Int × Int × Int × Int × Int × (List Int))) → Option Bool) : Env cxT := { Kc := kcOf [(17, c17 m17), (19, c19 m19), (18, c18 m18), (20, c20 m20), (21, c21 m21)], Kw := kwOf [], lv := fun i => [], xv := fun i => none }
theorem i4 (m17 : ((Int × Int × Int × Int × Int × (List Int)) × Int) → Option Int) (m19 : (Int × Int × Int × Int × Int × (List Int)) → Option (Int × Int × Int × Int × Int × (List Int))) (m18 : (Int × Int × Int × Int × Int × (List Int)) → Option Int) (m20 : (Int × Int × Int × Int × Int × (List Int)) → Option Int) (m21 : ((Int × Int × Int × Int × Int × (List Int)) × (Int × Int × Int × Int × Int × (List Int))) → Option Bool) (L : Nat) (a0_0 : Int) (a0_1 : Int) (a0_2 : Int) (a0_3 : Int) (a0_4 : Int) (a0_5 : (List Int)) : evF prog (ev4 m17 m19 m18 m20 m21) (loopN L) f4 (a4.enc (a0_0, a0_1, a0_2, a0_3, a0_4, a0_5)) =
  bif (Option.isSome (m17 ((a0_0, (a0_1, (a0_2, (a0_3, (a0_4, a0_5))))), (1048576 : Int)))) then bif (decide ((Option.getD (m17 ((a0_0, (a0_1, (a0_2, (a0_3, (a0_4, a0_5))))), (1048576 : Int))) (0 : Int)) < (0 : Int))) then some (n4 Bool.true)
    else bif (Option.isSome (m19 (a0_0, (a0_1, (a0_2, (a0_3, (a0_4, a0_5))))))) then bif (Option.isSome (m18 ((Option.getD (m19 (a0_0, (a0_1, (a0_2, (a0_3, (a0_4, a0_5)))))) ((0 : Int), ((0 : Int), ((0 : Int), ((0 : Int), ((0 : Int), [])))))).1, ((Option.getD (m19 (a0_0, (a0_1, (a0_2, (a0_3, (a0_4, a0_5)))))) ((0 : Int), ((0 : Int), ((0 : Int), ((0 : Int), ((0 : Int), [])))))).2.1, ((Option.getD (m19 (a0_0, (a0_1, (a0_2, (a0_3, (a0_4, a0_5)))))) ((0 : Int), ((0 : Int), ((0 : Int), ((0 : Int), ((0 : Int), [])))))).2.2.1, ((Option.getD (m19 (a0_0, (a0_1, (a0_2, (a0_3, (a0_4, a0_5)))))) ((0 : Int), ((0 : Int), ((0 : Int), ((0 : Int), ((0 : Int), [])))))).2.2.2.1, ((Option.getD (m19 (a0_0, (a0_1, (a0_2, (a0_3, (a0_4, a0_5)))))) ((0 : Int), ((0 : Int), ((0 : Int), ((0 : Int), ((0 : Int), [])))))).2.2.2.2.1, (Option.getD (m19 (a0_0, (a0_1, (a0_2, (a0_3, (a0_4, a0_5)))))) ((0 : Int), ((0 : Int), ((0 : Int), ((0 : Int), ((0 : Int), [])))))).2.2.2.2.2))))))) then bif (Option.isSome (m19 (a0_0, (a0_1, (a0_2, (a0_3, (a0_4, a0_5))))))) then bif (Option.isSome (m20 ((Option.getD (m19 (a0_0, (a0_1, (a0_2, (a0_3, (a0_4, a0_5)))))) ((0 : Int), ((0 : Int), ((0 : Int), ((0 : Int), ((0 : Int), [])))))).1, ((Option.getD (m19 (a0_0, (a0_1, (a0_2, (a0_3, (a0_4, a0_5)))))) ((0 : Int), ((0 : Int), ((0 : Int), ((0 : Int), ((0 : Int), [])))))).2.1, ((Option.getD (m19 (a0_0, (a0_1, (a0_2, (a0_3, (a0_4, a0_5)))))) ((0 : Int), ((0 : Int), ((0 : Int), ((0 : Int), ((0 : Int), [])))))).2.2.1, ((Option.getD (m19 (a0_0, (a0_1, (a0_2, (a0_3, (a0_4, a0_5)))))) ((0 : Int), ((0 : Int), ((0 : Int), ((0 : Int), ((0 : Int), [])))))).2.2.2.1, ((Option.getD (m19 (a0_0, (a0_1, (a0_2, (a0_3, (a0_4, a0_5)))))) ((0 : Int), ((0 : Int), ((0 : Int), ((0 : Int), ((0 : Int), [])))))).2.2.2.2.1, (Option.getD (m19 (a0_0, (a0_1, (a0_2, (a0_3, (a0_4, a0_5)))))) ((0 : Int), ((0 : Int), ((0 : Int), ((0 : Int), ((0 : Int), [])))))).2.2.2.2.2))))))) then bif ((Option.getD (m20 ((Option.getD (m19 (a0_0, (a0_1, (a0_2, (a0_3, (a0_4, a0_5)))))) ((0 : Int), ((0 : Int), ((0 : Int), ((0 : Int), ((0 : Int), [])))))).1, ((Option.getD (m19 (a0_0, (a0_1, (a0_2, (a0_3, (a0_4, a0_5)))))) ((0 : Int), ((0 : Int), ((0 : Int), ((0 : Int), ((0 : Int), [])))))).2.1, ((Option.getD (m19 (a0_0, (a0_1, (a0_2, (a0_3, (a0_4, a0_5)))))) ((0 : Int), ((0 : Int), ((0 : Int), ((0 : Int), ((0 : Int), [])))))).2.2.1, ((Option.getD (m19 (a0_0, (a0_1, (a0_2, (a0_3, (a0_4, a0_5)))))) ((0 : Int), ((0 : Int), ((0 : Int), ((0 : Int), ((0 : Int), [])))))).2.2.2.1, ((Option.getD (m19 (a0_0, (a0_1, (a0_2, (a0_3, (a0_4, a0_5)))))) ((0 : Int), ((0 : Int), ((0 : Int), ((0 : Int), ((0 : Int), [])))))).2.2.2.2.1, (Option.getD (m19 (a0_0, (a0_1, (a0_2, (a0_3, (a0_4, a0_5)))))) ((0 : Int), ((0 : Int), ((0 : Int), ((0 : Int), ((0 : Int), [])))))).2.2.2.2.2)))))) (0 : Int)) != (Option.getD (m18 ((Option.getD (m19 (a0_0, (a0_1, (a0_2, (a0_3, (a0_4, a0_5)))))) ((0 : Int), ((0 : Int), ((0 : Int), ((0 : Int), ((0 : Int), [])))))).1, ((Option.getD (m19 (a0_0, (a0_1, (a0_2, (a0_3, (a0_4, a0_5)))))) ((0 : Int), ((0 : Int), ((0 : Int), ((0 : Int), ((0 : Int), [])))))).2.1, ((Option.getD (m19 (a0_0, (a0_1, (a0_2, (a0_3, (a0_4, a0_5)))))) ((0 : Int), ((0 : Int), ((0 : Int), ((0 : Int), ((0 : Int), [])))))).2.2.1, ((Option.getD (m19 (a0_0, (a0_1, (a0_2, (a0_3, (a0_4, a0_5)))))) ((0 : Int), ((0 : Int), ((0 : Int), ((0 : Int), ((0 : Int), [])))))).2.2.2.1, ((Option.getD (m19 (a0_0, (a0_1, (a0_2, (a0_3, (a0_4, a0_5)))))) ((0 : Int), ((0 : Int), ((0 : Int), ((0 : Int), ((0 : Int), [])))))).2.2.2.2.1, (Option.getD (m19 (a0_0, (a0_1, (a0_2, (a0_3, (a0_4, a0_5)))))) ((0 : Int), ((0 : Int), ((0 : Int), ((0 : Int), ((0 : Int), [])))))).2.2.2.2.2)))))) (0 : Int))) then some (n4 Bool.false)
            else bif (Option.isSome (m19 (a0_0, (a0_1, (a0_2, (a0_3, (a0_4, a0_5))))))) then bif (Option.isSome (m21 (((Option.getD (m19 (a0_0, (a0_1, (a0_2, (a0_3, (a0_4, a0_5)))))) ((0 : Int), ((0 : Int), ((0 : Int), ((0 : Int), ((0 : Int), [])))))).1, ((Option.getD (m19 (a0_0, (a0_1, (a0_2, (a0_3, (a0_4, a0_5)))))) ((0 : Int), ((0 : Int), ((0 : Int), ((0 : Int), ((0 : Int), [])))))).2.1, ((Option.getD (m19 (a0_0, (a0_1, (a0_2, (a0_3, (a0_4, a0_5)))))) ((0 : Int), ((0 : Int), ((0 : Int), ((0 : Int), ((0 : Int), [])))))).2.2.1, ((Option.getD (m19 (a0_0, (a0_1, (a0_2, (a0_3, (a0_4, a0_5)))))) ((0 : Int), ((0 : Int), ((0 : Int), ((0 : Int), ((0 : Int), [])))))).2.2.2.1, ((Option.getD (m19 (a0_0, (a0_1, (a0_2, (a0_3, (a0_4, a0_5)))))) ((0 : Int), ((0 : Int), ((0 : Int), ((0 : Int), ((0 : Int), [])))))).2.2.2.2.1, (Option.getD (m19 (a0_0, (a0_1, (a0_2, (a0_3, (a0_4, a0_5)))))) ((0 : Int), ((0 : Int), ((0 : Int), ((0 : Int), ((0 : Int), [])))))).2.2.2.2.2))))), ((Option.getD (m19 (a0_0, (a0_1, (a0_2, (a0_3, (a0_4, a0_5)))))) ((0 : Int), ((0 : Int), ((0 : Int), ((0 : Int), ((0 : Int), [])))))).1, ((Option.getD (m19 (a0_0, (a0_1, (a0_2, (a0_3, (a0_4, a0_5)))))) ((0 : Int), ((0 : Int), ((0 : Int), ((0 : Int), ((0 : Int), [])))))).2.1, ((Option.getD (m19 (a0_0, (a0_1, (a0_2, (a0_3, (a0_4, a0_5)))))) ((0 : Int), ((0 : Int), ((0 : Int), ((0 : Int), ((0 : Int), [])))))).2.2.1, ((Option.getD (m19 (a0_0, (a0_1, (a0_2, (a0_3, (a0_4, a0_5)))))) ((0 : Int), ((0 : Int), ((0 : Int), ((0 : Int), ((0 : Int), [])))))).2.2.2.1, ((Option.getD (m19 (a0_0, (a0_1, (a0_2, (a0_3, (a0_4, a0_5)))))) ((0 : Int), ((0 : Int), ((0 : Int), ((0 : Int), ((0 : Int), [])))))).2.2.2.2.1, (Option.getD (m19 (a0_0, (a0_1, (a0_2, (a0_3, (a0_4, a0_5)))))) ((0 : Int), ((0 : Int), ((0 : Int), ((0 : Int), ((0 : Int), [])))))).2.2.2.2.2)))))))) then bif (!(Option.getD (m21 (((Option.getD (m19 (a0_0, (a0_1, (a0_2, (a0_3, (a0_4, a0_5)))))) ((0 : Int), ((0 : Int), ((0 : Int), ((0 : Int), ((0 : Int), [])))))).1, ((Option.getD (m19 (a0_0, (a0_1, (a0_2, (a0_3, (a0_4, a0_5)))))) ((0 : Int), ((0 : Int), ((0 : Int), ((0 : Int), ((0 : Int), [])))))).2.1, ((Option.getD (m19 (a0_0, (a0_1, (a0_2, (a0_3, (a0_4, a0_5)))))) ((0 : Int), ((0 : Int), ((0 : Int), ((0 : Int), ((0 : Int), [])))))).2.2.1, ((Option.getD (m19 (a0_0, (a0_1, (a0_2, (a0_3, (a0_4, a0_5)))))) ((0 : Int), ((0 : Int), ((0 : Int), ((0 : Int), ((0 : Int), [])))))).2.2.2.1, ((Option.getD (m19 (a0_0, (a0_1, (a0_2, (a0_3, (a0_4, a0_5)))))) ((0 : Int), ((0 : Int), ((0 : Int), ((0 : Int), ((0 : Int), [])))))).2.2.2.2.1, (Option.getD (m19 (a0_0, (a0_1, (a0_2, (a0_3, (a0_4, a0_5)))))) ((0 : Int), ((0 : Int), ((0 : Int), ((0 : Int), ((0 : Int), [])))))).2.2.2.2.2))))), ((Option.getD (m19 (a0_0, (a0_1, (a0_2, (a0_3, (a0_4, a0_5)))))) ((0 : Int), ((0 : Int), ((0 : Int), ((0 : Int), ((0 : Int), [])))))).1, ((Option.getD (m19 (a0_0, (a0_1, (a0_2, (a0_3, (a0_4, a0_5)))))) ((0 : Int), ((0 : Int), ((0 : Int), ((0 : Int), ((0 : Int), [])))))).2.1, ((Option.getD (m19 (a0_0, (a0_1, (a0_2, (a0_3, (a0_4, a0_5)))))) ((0 : Int), ((0 : Int), ((0 : Int), ((0 : Int), ((0 : Int), [])))))).2.2.1, ((Option.getD (m19 (a0_0, (a0_1, (a0_2, (a0_3, (a0_4, a0_5)))))) ((0 : Int), ((0 : Int), ((0 : Int), ((0 : Int), ((0 : Int), [])))))).2.2.2.1, ((Option.getD (m19 (a0_0, (a0_1, (a0_2, (a0_3, (a0_4, a0_5)))))) ((0 : Int), ((0 : Int), ((0 : Int), ((0 : Int), ((0 : Int), [])))))).2.2.2.2.1, (Option.getD (m19 (a0_0, (a0_1, (a0_2, (a0_3, (a0_4, a0_5)))))) ((0 : Int), ((0 : Int), ((0 : Int), ((0 : Int), ((0 : Int), [])))))).2.2.2.2.2))))))) Bool.false)) then some (n4 Bool.false)
                else some (n4 Bool.true)
              else none
            else none
          else none
        else none
      else none
    else none
  else none := by kernel_rfl
def g4 (m17 : ((Int × Int × Int × Int × Int × (List Int)) × Int) → Option Int) (m19 : (Int × Int × Int × Int × Int × (List Int)) → Option (Int × Int × Int × Int × Int × (List Int))) (m18 : (Int × Int × Int × Int × Int × (List Int)) → Option Int) (m20 : (Int × Int × Int × Int × Int × (List Int)) → Option Int) (m21 : ((Int × Int × Int × Int × Int × (List Int)) × (Int × Int × Int × Int × Int × (List Int))) → Option Bool) (L : Nat) (a0_0 : Int) (a0_1 : Int) (a0_2 : Int) (a0_3 : Int) (a0_4 : Int) (a0_5 : (List Int)) : Option Bool :=
  bif (Option.isSome (m17 ((a0_0, (a0_1, (a0_2, (a0_3, (a0_4, a0_5))))), (1048576 : Int)))) then bif (decide ((Option.getD (m17 ((a0_0, (a0_1, (a0_2, (a0_3, (a0_4, a0_5))))), (1048576 : Int))) (0 : Int)) < (0 : Int))) then some Bool.true
    else bif (Option.isSome (m19 (a0_0, (a0_1, (a0_2, (a0_3, (a0_4, a0_5))))))) then bif (Option.isSome (m18 ((Option.getD (m19 (a0_0, (a0_1, (a0_2, (a0_3, (a0_4, a0_5)))))) ((0 : Int), ((0 : Int), ((0 : Int), ((0 : Int), ((0 : Int), [])))))).1, ((Option.getD (m19 (a0_0, (a0_1, (a0_2, (a0_3, (a0_4, a0_5)))))) ((0 : Int), ((0 : Int), ((0 : Int), ((0 : Int), ((0 : Int), [])))))).2.1, ((Option.getD (m19 (a0_0, (a0_1, (a0_2, (a0_3, (a0_4, a0_5)))))) ((0 : Int), ((0 : Int), ((0 : Int), ((0 : Int), ((0 : Int), [])))))).2.2.1, ((Option.getD (m19 (a0_0, (a0_1, (a0_2, (a0_3, (a0_4, a0_5)))))) ((0 : Int), ((0 : Int), ((0 : Int), ((0 : Int), ((0 : Int), [])))))).2.2.2.1, ((Option.getD (m19 (a0_0, (a0_1, (a0_2, (a0_3, (a0_4, a0_5)))))) ((0 : Int), ((0 : Int), ((0 : Int), ((0 : Int), ((0 : Int), [])))))).2.2.2.2.1, (Option.getD (m19 (a0_0, (a0_1, (a0_2, (a0_3, (a0_4, a0_5)))))) ((0 : Int), ((0 : Int), ((0 : Int), ((0 : Int), ((0 : Int), [])))))).2.2.2.2.2))))))) then bif (Option.isSome (m19 (a0_0, (a0_1, (a0_2, (a0_3, (a0_4, a0_5))))))) then bif (Option.isSome (m20 ((Option.getD (m19 (a0_0, (a0_1, (a0_2, (a0_3, (a0_4, a0_5)))))) ((0 : Int), ((0 : Int), ((0 : Int), ((0 : Int), ((0 : Int), [])))))).1, ((Option.getD (m19 (a0_0, (a0_1, (a0_2, (a0_3, (a0_4, a0_5)))))) ((0 : Int), ((0 : Int), ((0 : Int), ((0 : Int), ((0 : Int), [])))))).2.1, ((Option.getD (m19 (a0_0, (a0_1, (a0_2, (a0_3, (a0_4, a0_5)))))) ((0 : Int), ((0 : Int), ((0 : Int), ((0 : Int), ((0 : Int), [])))))).2.2.1, ((Option.getD (m19 (a0_0, (a0_1, (a0_2, (a0_3, (a0_4, a0_5)))))) ((0 : Int), ((0 : Int), ((0 : Int), ((0 : Int), ((0 : Int), [])))))).2.2.2.1, ((Option.getD (m19 (a0_0, (a0_1, (a0_2, (a0_3, (a0_4, a0_5)))))) ((0 : Int), ((0 : Int), ((0 : Int), ((0 : Int), ((0 : Int), [])))))).2.2.2.2.1, (Option.getD (m19 (a0_0, (a0_1, (a0_2, (a0_3, (a0_4, a0_5)))))) ((0 : Int), ((0 : Int), ((0 : Int), ((0 : Int), ((0 : Int), [])))))).2.2.2.2.2))))))) then bif ((Option.getD (m20 ((Option.getD (m19 (a0_0, (a0_1, (a0_2, (a0_3, (a0_4, a0_5)))))) ((0 : Int), ((0 : Int), ((0 : Int), ((0 : Int), ((0 : Int), [])))))).1, ((Option.getD (m19 (a0_0, (a0_1, (a0_2, (a0_3, (a0_4, a0_5)))))) ((0 : Int), ((0 : Int), ((0 : Int), ((0 : Int), ((0 : Int), [])))))).2.1, ((Option.getD (m19 (a0_0, (a0_1, (a0_2, (a0_3, (a0_4, a0_5)))))) ((0 : Int), ((0 : Int), ((0 : Int), ((0 : Int), ((0 : Int), [])))))).2.2.1, ((Option.getD (m19 (a0_0, (a0_1, (a0_2, (a0_3, (a0_4, a0_5)))))) ((0 : Int), ((0 : Int), ((0 : Int), ((0 : Int), ((0 : Int), [])))))).2.2.2.1, ((Option.getD (m19 (a0_0, (a0_1, (a0_2, (a0_3, (a0_4, a0_5)))))) ((0 : Int), ((0 : Int), ((0 : Int), ((0 : Int), ((0 : Int), [])))))).2.2.2.2.1, (Option.getD (m19 (a0_0, (a0_1, (a0_2, (a0_3, (a0_4, a0_5)))))) ((0 : Int), ((0 : Int), ((0 : Int), ((0 : Int), ((0 : Int), [])))))).2.2.2.2.2)))))) (0 : Int)) != (Option.getD (m18 ((Option.getD (m19 (a0_0, (a0_1, (a0_2, (a0_3, (a0_4, a0_5)))))) ((0 : Int), ((0 : Int), ((0 : Int), ((0 : Int), ((0 : Int), [])))))).1, ((Option.getD (m19 (a0_0, (a0_1, (a0_2, (a0_3, (a0_4, a0_5)))))) ((0 : Int), ((0 : Int), ((0 : Int), ((0 : Int), ((0 : Int), [])))))).2.1, ((Option.getD (m19 (a0_0, (a0_1, (a0_2, (a0_3, (a0_4, a0_5)))))) ((0 : Int), ((0 : Int), ((0 : Int), ((0 : Int), ((0 : Int), [])))))).2.2.1, ((Option.getD (m19 (a0_0, (a0_1, (a0_2, (a0_3, (a0_4, a0_5)))))) ((0 : Int), ((0 : Int), ((0 : Int), ((0 : Int), ((0 : Int), [])))))).2.2.2.1, ((Option.getD (m19 (a0_0, (a0_1, (a0_2, (a0_3, (a0_4, a0_5)))))) ((0 : Int), ((0 : Int), ((0 : Int), ((0 : Int), ((0 : Int), [])))))).2.2.2.2.1, (Option.getD (m19 (a0_0, (a0_1, (a0_2, (a0_3, (a0_4, a0_5)))))) ((0 : Int), ((0 : Int), ((0 : Int), ((0 : Int), ((0 : Int), [])))))).2.2.2.2.2)))))) (0 : Int))) then some Bool.false
            else bif (Option.isSome (m19 (a0_0, (a0_1, (a0_2, (a0_3, (a0_4, a0_5))))))) then bif (Option.isSome (m21 (((Option.getD (m19 (a0_0, (a0_1, (a0_2, (a0_3, (a0_4, a0_5)))))) ((0 : Int), ((0 : Int), ((0 : Int), ((0 : Int), ((0 : Int), [])))))).1, ((Option.getD (m19 (a0_0, (a0_1, (a0_2, (a0_3, (a0_4, a0_5)))))) ((0 : Int), ((0 : Int), ((0 : Int), ((0 : Int), ((0 : Int), [])))))).2.1, ((Option.getD (m19 (a0_0, (a0_1, (a0_2, (a0_3, (a0_4, a0_5)))))) ((0 : Int), ((0 : Int), ((0 : Int), ((0 : Int), ((0 : Int), [])))))).2.2.1, ((Option.getD (m19 (a0_0, (a0_1, (a0_2, (a0_3, (a0_4, a0_5)))))) ((0 : Int), ((0 : Int), ((0 : Int), ((0 : Int), ((0 : Int), [])))))).2.2.2.1, ((Option.getD (m19 (a0_0, (a0_1, (a0_2, (a0_3, (a0_4, a0_5)))))) ((0 : Int), ((0 : Int), ((0 : Int), ((0 : Int), ((0 : Int), [])))))).2.2.2.2.1, (Option.getD (m19 (a0_0, (a0_1, (a0_2, (a0_3, (a0_4, a0_5)))))) ((0 : Int), ((0 : Int), ((0 : Int), ((0 : Int), ((0 : Int), [])))))).2.2.2.2.2))))), ((Option.getD (m19 (a0_0, (a0_1, (a0_2, (a0_3, (a0_4, a0_5)))))) ((0 : Int), ((0 : Int), ((0 : Int), ((0 : Int), ((0 : Int), [])))))).1, ((Option.getD (m19 (a0_0, (a0_1, (a0_2, (a0_3, (a0_4, a0_5)))))) ((0 : Int), ((0 : Int), ((0 : Int), ((0 : Int), ((0 : Int), [])))))).2.1, ((Option.getD (m19 (a0_0, (a0_1, (a0_2, (a0_3, (a0_4, a0_5)))))) ((0 : Int), ((0 : Int), ((0 : Int), ((0 : Int), ((0 : Int), [])))))).2.2.1, ((Option.getD (m19 (a0_0, (a0_1, (a0_2, (a0_3, (a0_4, a0_5)))))) ((0 : Int), ((0 : Int), ((0 : Int), ((0 : Int), ((0 : Int), [])))))).2.2.2.1, ((Option.getD (m19 (a0_0, (a0_1, (a0_2, (a0_3, (a0_4, a0_5)))))) ((0 : Int), ((0 : Int), ((0 : Int), ((0 : Int), ((0 : Int), [])))))).2.2.2.2.1, (Option.getD (m19 (a0_0, (a0_1, (a0_2, (a0_3, (a0_4, a0_5)))))) ((0 : Int), ((0 : Int), ((0 : Int), ((0 : Int), ((0 : Int), [])))))).2.2.2.2.2)))))))) then bif (!(Option.getD (m21 (((Option.getD (m19 (a0_0, (a0_1, (a0_2, (a0_3, (a0_4, a0_5)))))) ((0 : Int), ((0 : Int), ((0 : Int), ((0 : Int), ((0 : Int), [])))))).1, ((Option.getD (m19 (a0_0, (a0_1, (a0_2, (a0_3, (a0_4, a0_5)))))) ((0 : Int), ((0 : Int), ((0 : Int), ((0 : Int), ((0 : Int), [])))))).2.1, ((Option.getD (m19 (a0_0, (a0_1, (a0_2, (a0_3, (a0_4, a0_5)))))) ((0 : Int), ((0 : Int), ((0 : Int), ((0 : Int), ((0 : Int), [])))))).2.2.1, ((Option.getD (m19 (a0_0, (a0_1, (a0_2, (a0_3, (a0_4, a0_5)))))) ((0 : Int), ((0 : Int), ((0 : Int), ((0 : Int), ((0 : Int), [])))))).2.2.2.1, ((Option.getD (m19 (a0_0, (a0_1, (a0_2, (a0_3, (a0_4, a0_5)))))) ((0 : Int), ((0 : Int), ((0 : Int), ((0 : Int), ((0 : Int), [])))))).2.2.2.2.1, (Option.getD (m19 (a0_0, (a0_1, (a0_2, (a0_3, (a0_4, a0_5)))))) ((0 : Int), ((0 : Int), ((0 : Int), ((0 : Int), ((0 : Int), [])))))).2.2.2.2.2))))), ((Option.getD (m19 (a0_0, (a0_1, (a0_2, (a0_3, (a0_4, a0_5)))))) ((0 : Int), ((0 : Int), ((0 : Int), ((0 : Int), ((0 : Int), [])))))).1, ((Option.getD (m19 (a0_0, (a0_1, (a0_2, (a0_3, (a0_4, a0_5)))))) ((0 : Int), ((0 : Int), ((0 : Int), ((0 : Int), ((0 : Int), [])))))).2.1, ((Option.getD (m19 (a0_0, (a0_1, (a0_2, (a0_3, (a0_4, a0_5)))))) ((0 : Int), ((0 : Int), ((0 : Int), ((0 : Int), ((0 : Int), [])))))).2.2.1, ((Option.getD (m19 (a0_0, (a0_1, (a0_2, (a0_3, (a0_4, a0_5)))))) ((0 : Int), ((0 : Int), ((0 : Int), ((0 : Int), ((0 : Int), [])))))).2.2.2.1, ((Option.getD (m19 (a0_0, (a0_1, (a0_2, (a0_3, (a0_4, a0_5)))))) ((0 : Int), ((0 : Int), ((0 : Int), ((0 : Int), ((0 : Int), [])))))).2.2.2.2.1, (Option.getD (m19 (a0_0, (a0_1, (a0_2, (a0_3, (a0_4, a0_5)))))) ((0 : Int), ((0 : Int), ((0 : Int), ((0 : Int), ((0 : Int), [])))))).2.2.2.2.2))))))) Bool.false)) then some Bool.false
                else some Bool.true
              else none
            else none
          else none
        else none
      else none
    else none
  else none
theorem e4 (m17 : ((Int × Int × Int × Int × Int × (List Int)) × Int) → Option Int) (m19 : (Int × Int × Int × Int × Int × (List Int)) → Option (Int × Int × Int × Int × Int × (List Int))) (m18 : (Int × Int × Int × Int × Int × (List Int)) → Option Int) (m20 : (Int × Int × Int × Int × Int × (List Int)) → Option Int) (m21 : ((Int × Int × Int × Int × Int × (List Int)) × (Int × Int × Int × Int × Int × (List Int))) → Option Bool) (L : Nat) (a0_0 : Int) (a0_1 : Int) (a0_2 : Int) (a0_3 : Int) (a0_4 : Int) (a0_5 : (List Int)) : evF prog (ev4 m17 m19 m18 m20 m21) (loopN L) f4 (a4.enc (a0_0, a0_1, a0_2, a0_3, a0_4, a0_5)) = (g4 m17 m19 m18 m20 m21 L a0_0 a0_1 a0_2 a0_3 a0_4 a0_5).map n4 := by
  rw [i4]; simp only [g4, map_bif, Option.map_some, Option.map_none]
theorem s4 (m17 : ((Int × Int × Int × Int × Int × (List Int)) × Int) → Option Int) (m19 : (Int × Int × Int × Int × Int × (List Int)) → Option (Int × Int × Int × Int × Int × (List Int))) (m18 : (Int × Int × Int × Int × Int × (List Int)) → Option Int) (m20 : (Int × Int × Int × Int × Int × (List Int)) → Option Int) (m21 : ((Int × Int × Int × Int × Int × (List Int)) × (Int × Int × Int × Int × Int × (List Int))) → Option Bool) (h17 : Sat prog cxT 17 (c17 m17)) (h19 : Sat prog cxT 19 (c19 m19)) (h18 : Sat prog cxT 18 (c18 m18)) (h20 : Sat prog cxT 20 (c20 m20)) (h21 : Sat prog cxT 21 (c21 m21)) (m : (Int × Int × Int × Int × Int × (List Int)) → Option Bool) (hm : ∀ (x : (Int × Int × Int × Int × Int × (List Int))) t, m x = some t → ∃ L, g4 m17 m19 m18 m20 m21 L x.1 x.2.1 x.2.2.1 x.2.2.2.1 x.2.2.2.2.1 x.2.2.2.2.2 = some t) : Sat prog cxT 4 (c4 m) :=
  sat_t cxT_ok cxT_pok (by rfl) (fn := f4) rfl a4 n4 dd4 m (ev4 m17 m19 m18 m20 m21) (kok_cons h17 (kok_cons h19 (kok_cons h18 (kok_cons h20 (kok_cons h21 kok_nil))))) kwok_nil (fun L x => g4 m17 m19 m18 m20 m21 L x.1 x.2.1 x.2.2.1 x.2.2.2.1 x.2.2.2.2.1 x.2.2.2.2.2) (fun L x => e4 m17 m19 m18 m20 m21 L x.1 x.2.1 x.2.2.1 x.2.2.2.1 x.2.2.2.2.1 x.2.2.2.2.2) hm hs4
/-! loop.example/g00222/laws.szPacket -/
def ev17 (m59 : ((List Int) × Int) → Option Int) : Env cxT := { Kc := kcOf [(59, c59 m59)], Kw := kwOf [], lv := fun i => [], xv := fun i => none }
theorem i17 (m59 : ((List Int) × Int) → Option Int) (L : Nat) (a0_0 : Int) (a0_1 : Int) (a0_2 : Int) (a0_3 : Int) (a0_4 : Int) (a0_5 : (List Int)) (a1 : Int) : evF prog (ev17 m59) (loopN L) f17 (a17.enc ((a0_0, a0_1, a0_2, a0_3, a0_4, a0_5), a1)) =
  bif (Option.isSome (m59 (a0_5, a1))) then bif (decide ((Option.getD (m59 (a0_5, a1)) (0 : Int)) < (0 : Int))) then some (n17 (-(1 : Int)))
    else some (n17 (Option.getD (m59 (a0_5, a1)) (0 : Int)))
  else none := by kernel_rfl
def g17 (m59 : ((List Int) × Int) → Option Int) (L : Nat) (a0_0 : Int) (a0_1 : Int) (a0_2 : Int) (a0_3 : Int) (a0_4 : Int) (a0_5 : (List Int)) (a1 : Int) : Option Int :=
  bif (Option.isSome (m59 (a0_5, a1))) then bif (decide ((Option.getD (m59 (a0_5, a1)) (0 : Int)) < (0 : Int))) then some (-(1 : Int))
    else some (Option.getD (m59 (a0_5, a1)) (0 : Int))
  else none
theorem e17 (m59 : ((List Int) × Int) → Option Int) (L : Nat) (a0_0 : Int) (a0_1 : Int) (a0_2 : Int) (a0_3 : Int) (a0_4 : Int) (a0_5 : (List Int)) (a1 : Int) : evF prog (ev17 m59) (loopN L) f17 (a17.enc ((a0_0, a0_1, a0_2, a0_3, a0_4, a0_5), a1)) = (g17 m59 L a0_0 a0_1 a0_2 a0_3 a0_4 a0_5 a1).map n17 := by
  rw [i17]; simp only [g17, map_bif, Option.map_some, Option.map_none]
theorem s17 (m59 : ((List Int) × Int) → Option Int) (h59 : Sat prog cxT 59 (c59 m59)) (m : ((Int × Int × Int × Int × Int × (List Int)) × Int) → Option Int) (hm : ∀ (x : ((Int × Int × Int × Int × Int × (List Int)) × Int)) t, m x = some t → ∃ L, g17 m59 L x.1.1 x.1.2.1 x.1.2.2.1 x.1.2.2.2.1 x.1.2.2.2.2.1 x.1.2.2.2.2.2 x.2 = some t) : Sat prog cxT 17 (c17 m) :=
  sat_t cxT_ok cxT_pok (by rfl) (fn := f17) rfl a17 n17 dd17 m (ev17 m59) (kok_cons h59 kok_nil) kwok_nil (fun L x => g17 m59 L x.1.1 x.1.2.1 x.1.2.2.1 x.1.2.2.2.1 x.1.2.2.2.2.1 x.1.2.2.2.2.2 x.2) (fun L x => e17 m59 L x.1.1 x.1.2.1 x.1.2.2.1 x.1.2.2.2.1 x.1.2.2.2.2.1 x.1.2.2.2.2.2 x.2) hm hs17
/-! loop.example/g00222/laws.szByteS -/
def ev59 : Env cxT := { Kc := kcOf [], Kw := kwOf [], lv := fun i => [], xv := fun i => none }
theorem i59 (L : Nat) (a0 : (List Int)) (a1 : Int) : evF prog ev59 (loopN L) f59 (a59.enc (a0, a1)) =
  bif (decide ((Go.IntKind.wrap Go.IntKind.i64 (a1 - (Nat.cast (List.length a0) : Int))) < (0 : Int))) then some (n59 (-(1 : Int)))
  else some (n59 (Go.IntKind.wrap Go.IntKind.i64 (a1 - (Nat.cast (List.length a0) : Int)))) := by kernel_rfl
def g59 (L : Nat) (a0 : (List Int)) (a1 : Int) : Option Int :=
  bif (decide ((Go.IntKind.wrap Go.IntKind.i64 (a1 - (Nat.cast (List.length a0) : Int))) < (0 : Int))) then some (-(1 : Int))
  else some (Go.IntKind.wrap Go.IntKind.i64 (a1 - (Nat.cast (List.length a0) : Int)))
theorem e59 (L : Nat) (a0 : (List Int)) (a1 : Int) : evF prog ev59 (loopN L) f59 (a59.enc (a0, a1)) = (g59 L a0 a1).map n59 := by
  rw [i59]; simp only [g59, map_bif, Option.map_some, Option.map_none]
theorem s59 (m : ((List Int) × Int) → Option Int) (hm : ∀ (x : ((List Int) × Int)) t, m x = some t → ∃ L, g59 L x.1 x.2 = some t) : Sat prog cxT 59 (c59 m) :=
  sat_t cxT_ok cxT_pok (by rfl) (fn := f59) rfl a59 n59 dd59 m ev59 kok_nil kwok_nil (fun L x => g59 L x.1 x.2) (fun L x => e59 L x.1 x.2) hm hs59
/-! loop.example/g00222/spec.PacketFault -/
def ev18 (m58 : Int → Option Bool) (m60 : Int → Option Bool) : Env cxT := { Kc := kcOf [(58, c58 m58), (60, c60 m60)], Kw := kwOf [], lv := fun i => [], xv := fun i => none }
theorem i18 (m58 : Int → Option Bool) (m60 : Int → Option Bool) (L : Nat) (a0_0 : Int) (a0_1 : Int) (a0_2 : Int) (a0_3 : Int) (a0_4 : Int) (a0_5 : (List Int)) : evF prog (ev18 m58 m60) (loopN L) f18 (a18.enc (a0_0, a0_1, a0_2, a0_3, a0_4, a0_5)) =
  bif (Option.isSome (m58 a0_0)) then bif (!(Option.getD (m58 a0_0) Bool.false)) then some (n18 (3 : Int))
    else bif (Option.isSome (m58 a0_1)) then bif (!(Option.getD (m58 a0_1) Bool.false)) then some (n18 (3 : Int))
      else bif (a0_2 != (6 : Int)) then bif (a0_2 != (17 : Int)) then some (n18 (3 : Int))
        else bif (Option.isSome (m60 a0_3)) then bif (!(Option.getD (m60 a0_3) Bool.false)) then some (n18 (3 : Int))
          else bif (Option.isSome (m60 a0_4)) then bif (!(Option.getD (m60 a0_4) Bool.false)) then some (n18 (3 : Int))
            else bif (decide ((Nat.cast (List.length a0_5) : Int) > (200 : Int))) then some (n18 (2 : Int))
            else some (n18 (0 : Int))
          else none
        else none
      else bif (Option.isSome (m60 a0_3)) then bif (!(Option.getD (m60 a0_3) Bool.false)) then some (n18 (3 : Int))
        else bif (Option.isSome (m60 a0_4)) then bif (!(Option.getD (m60 a0_4) Bool.false)) then some (n18 (3 : Int))
          else bif (decide ((Nat.cast (List.length a0_5) : Int) > (200 : Int))) then some (n18 (2 : Int))
          else some (n18 (0 : Int))
        else none
      else none
    else none
  else none := by kernel_rfl
def g18 (m58 : Int → Option Bool) (m60 : Int → Option Bool) (L : Nat) (a0_0 : Int) (a0_1 : Int) (a0_2 : Int) (a0_3 : Int) (a0_4 : Int) (a0_5 : (List Int)) : Option Int :=
  bif (Option.isSome (m58 a0_0)) then bif (!(Option.getD (m58 a0_0) Bool.false)) then some (3 : Int)
    else bif (Option.isSome (m58 a0_1)) then bif (!(Option.getD (m58 a0_1) Bool.false)) then some (3 : Int)
      else bif (a0_2 != (6 : Int)) then bif (a0_2 != (17 : Int)) then some (3 : Int)
        else bif (Option.isSome (m60 a0_3)) then bif (!(Option.getD (m60 a0_3) Bool.false)) then some (3 : Int)
          else bif (Option.isSome (m60 a0_4)) then bif (!(Option.getD (m60 a0_4) Bool.false)) then some (3 : Int)
            else bif (decide ((Nat.cast (List.length a0_5) : Int) > (200 : Int))) then some (2 : Int)
            else some (0 : Int)
          else none
        else none
      else bif (Option.isSome (m60 a0_3)) then bif (!(Option.getD (m60 a0_3) Bool.false)) then some (3 : Int)
        else bif (Option.isSome (m60 a0_4)) then bif (!(Option.getD (m60 a0_4) Bool.false)) then some (3 : Int)
          else bif (decide ((Nat.cast (List.length a0_5) : Int) > (200 : Int))) then some (2 : Int)
          else some (0 : Int)
        else none
      else none
    else none
  else none
theorem e18 (m58 : Int → Option Bool) (m60 : Int → Option Bool) (L : Nat) (a0_0 : Int) (a0_1 : Int) (a0_2 : Int) (a0_3 : Int) (a0_4 : Int) (a0_5 : (List Int)) : evF prog (ev18 m58 m60) (loopN L) f18 (a18.enc (a0_0, a0_1, a0_2, a0_3, a0_4, a0_5)) = (g18 m58 m60 L a0_0 a0_1 a0_2 a0_3 a0_4 a0_5).map n18 := by
  rw [i18]; simp only [g18, map_bif, Option.map_some, Option.map_none]
theorem s18 (m58 : Int → Option Bool) (m60 : Int → Option Bool) (h58 : Sat prog cxT 58 (c58 m58)) (h60 : Sat prog cxT 60 (c60 m60)) (m : (Int × Int × Int × Int × Int × (List Int)) → Option Int) (hm : ∀ (x : (Int × Int × Int × Int × Int × (List Int))) t, m x = some t → ∃ L, g18 m58 m60 L x.1 x.2.1 x.2.2.1 x.2.2.2.1 x.2.2.2.2.1 x.2.2.2.2.2 = some t) : Sat prog cxT 18 (c18 m) :=
  sat_t cxT_ok cxT_pok (by rfl) (fn := f18) rfl a18 n18 dd18 m (ev18 m58 m60) (kok_cons h58 (kok_cons h60 kok_nil)) kwok_nil (fun L x => g18 m58 m60 L x.1 x.2.1 x.2.2.1 x.2.2.2.1 x.2.2.2.2.1 x.2.2.2.2.2) (fun L x => e18 m58 m60 L x.1 x.2.1 x.2.2.1 x.2.2.2.1 x.2.2.2.2.1 x.2.2.2.2.2) hm hs18
/-! loop.example/g00222/spec.l2Address -/
def ev58 (m49 : (Int × Int × Int) → Option Bool) : Env cxT := { Kc := kcOf [(49, c49 m49)], Kw := kwOf [], lv := fun i => [], xv := fun i => none }
theorem i58 (m49 : (Int × Int × Int) → Option Bool) (L : Nat) (a0 : Int) : evF prog (ev58 m49) (loopN L) f58 (a58.enc a0) =
  bif (Option.isSome (m49 (a0, ((0 : Int), (4294967295 : Int))))) then some (n58 (Option.getD (m49 (a0, ((0 : Int), (4294967295 : Int)))) Bool.false))
  else none := by kernel_rfl
def g58 (m49 : (Int × Int × Int) → Option Bool) (L : Nat) (a0 : Int) : Option Bool :=
  bif (Option.isSome (m49 (a0, ((0 : Int), (4294967295 : Int))))) then some (Option.getD (m49 (a0, ((0 : Int), (4294967295 : Int)))) Bool.false)
  else none
theorem e58 (m49 : (Int × Int × Int) → Option Bool) (L : Nat) (a0 : Int) : evF prog (ev58 m49) (loopN L) f58 (a58.enc a0) = (g58 m49 L a0).map n58 := by
  rw [i58]; simp only [g58, map_bif, Option.map_some, Option.map_none]
theorem s58 (m49 : (Int × Int × Int) → Option Bool) (h49 : Sat prog cxT 49 (c49 m49)) (m : Int → Option Bool) (hm : ∀ (x : Int) t, m x = some t → ∃ L, g58 m49 L x = some t) : Sat prog cxT 58 (c58 m) :=
  sat_t cxT_ok cxT_pok (by rfl) (fn := f58) rfl a58 n58 dd58 m (ev58 m49) (kok_cons h49 kok_nil) kwok_nil (fun L x => g58 m49 L x) (fun L x => e58 m49 L x) hm hs58
/-! loop.example/g00222/spec.l2Port -/
def ev60 (m49 : (Int × Int × Int) → Option Bool) : Env cxT := { Kc := kcOf [(49, c49 m49)], Kw := kwOf [], lv := fun i => [], xv := fun i => none }
theorem i60 (m49 : (Int × Int × Int) → Option Bool) (L : Nat) (a0 : Int) : evF prog (ev60 m49) (loopN L) f60 (a60.enc a0) =
  bif (Option.isSome (m49 (a0, ((0 : Int), (65535 : Int))))) then some (n60 (Option.getD (m49 (a0, ((0 : Int), (65535 : Int)))) Bool.false))
  else none := by kernel_rfl
def g60 (m49 : (Int × Int × Int) → Option Bool) (L : Nat) (a0 : Int) : Option Bool :=
  bif (Option.isSome (m49 (a0, ((0 : Int), (65535 : Int))))) then some (Option.getD (m49 (a0, ((0 : Int), (65535 : Int)))) Bool.false)
  else none
theorem e60 (m49 : (Int × Int × Int) → Option Bool) (L : Nat) (a0 : Int) : evF prog (ev60 m49) (loopN L) f60 (a60.enc a0) = (g60 m49 L a0).map n60 := by
  rw [i60]; simp only [g60, map_bif, Option.map_some, Option.map_none]
theorem s60 (m49 : (Int × Int × Int) → Option Bool) (h49 : Sat prog cxT 49 (c49 m49)) (m : Int → Option Bool) (hm : ∀ (x : Int) t, m x = some t → ∃ L, g60 m49 L x = some t) : Sat prog cxT 60 (c60 m) :=
  sat_t cxT_ok cxT_pok (by rfl) (fn := f60) rfl a60 n60 dd60 m (ev60 m49) (kok_cons h49 kok_nil) kwok_nil (fun L x => g60 m49 L x) (fun L x => e60 m49 L x) hm hs60
/-! loop.example/g00222/spec.l1In -/
def ev49 : Env cxT := { Kc := kcOf [], Kw := kwOf [], lv := fun i => [], xv := fun i => none }
theorem i49 (L : Nat) (a0 : Int) (a1 : Int) (a2 : Int) : evF prog ev49 (loopN L) f49 (a49.enc (a0, a1, a2)) =
  bif (decide (a0 ≥ a1)) then some (n49 (decide (a0 ≤ a2)))
  else some (n49 Bool.false) := by kernel_rfl
def g49 (L : Nat) (a0 : Int) (a1 : Int) (a2 : Int) : Option Bool :=
  bif (decide (a0 ≥ a1)) then some (decide (a0 ≤ a2))
  else some Bool.false
theorem e49 (L : Nat) (a0 : Int) (a1 : Int) (a2 : Int) : evF prog ev49 (loopN L) f49 (a49.enc (a0, a1, a2)) = (g49 L a0 a1 a2).map n49 := by
  rw [i49]; simp only [g49, map_bif, Option.map_some, Option.map_none]
theorem s49 (m : (Int × Int × Int) → Option Bool) (hm : ∀ (x : (Int × Int × Int)) t, m x = some t → ∃ L, g49 L x.1 x.2.1 x.2.2 = some t) : Sat prog cxT 49 (c49 m) :=
  sat_t cxT_ok cxT_pok (by rfl) (fn := f49) rfl a49 n49 dd49 m ev49 kok_nil kwok_nil (fun L x => g49 L x.1 x.2.1 x.2.2) (fun L x => e49 L x.1 x.2.1 x.2.2) hm hs49
/-! loop.example/g00222/laws.toPacket -/
def ev19 (m29 : (List Int) → Option (List Int)) : Env cxT := { Kc := kcOf [(29, c29 m29)], Kw := kwOf [], lv := fun i => [], xv := fun i => none }
theorem i19 (m29 : (List Int) → Option (List Int)) (L : Nat) (a0_0 : Int) (a0_1 : Int) (a0_2 : Int) (a0_3 : Int) (a0_4 : Int) (a0_5 : (List Int)) : evF prog (ev19 m29) (loopN L) f19 (a19.enc (a0_0, a0_1, a0_2, a0_3, a0_4, a0_5)) =
  bif (Option.isSome (m29 a0_5)) then some (n19 (a0_0, a0_1, a0_2, a0_3, a0_4, (Option.getD (m29 a0_5) [])))
  else none := by kernel_rfl
def g19 (m29 : (List Int) → Option (List Int)) (L : Nat) (a0_0 : Int) (a0_1 : Int) (a0_2 : Int) (a0_3 : Int) (a0_4 : Int) (a0_5 : (List Int)) : Option (Int × Int × Int × Int × Int × (List Int)) :=
  bif (Option.isSome (m29 a0_5)) then some (a0_0, a0_1, a0_2, a0_3, a0_4, (Option.getD (m29 a0_5) []))
  else none
theorem e19 (m29 : (List Int) → Option (List Int)) (L : Nat) (a0_0 : Int) (a0_1 : Int) (a0_2 : Int) (a0_3 : Int) (a0_4 : Int) (a0_5 : (List Int)) : evF prog (ev19 m29) (loopN L) f19 (a19.enc (a0_0, a0_1, a0_2, a0_3, a0_4, a0_5)) = (g19 m29 L a0_0 a0_1 a0_2 a0_3 a0_4 a0_5).map n19 := by
  rw [i19]; simp only [g19, map_bif, Option.map_some, Option.map_none]
theorem s19 (m29 : (List Int) → Option (List Int)) (h29 : Sat prog cxT 29 (c29 m29)) (m : (Int × Int × Int × Int × Int × (List Int)) → Option (Int × Int × Int × Int × Int × (List Int))) (hm : ∀ (x : (Int × Int × Int × Int × Int × (List Int))) t, m x = some t → ∃ L, g19 m29 L x.1 x.2.1 x.2.2.1 x.2.2.2.1 x.2.2.2.2.1 x.2.2.2.2.2 = some t) : Sat prog cxT 19 (c19 m) :=
  sat_t cxT_ok cxT_pok (by rfl) (fn := f19) rfl a19 n19 dd19 m (ev19 m29) (kok_cons h29 kok_nil) kwok_nil (fun L x => g19 m29 L x.1 x.2.1 x.2.2.1 x.2.2.2.1 x.2.2.2.2.1 x.2.2.2.2.2) (fun L x => e19 m29 L x.1 x.2.1 x.2.2.1 x.2.2.2.1 x.2.2.2.2.1 x.2.2.2.2.2) hm hs19
/-! loop.example/g00222/laws.toByteS -/
def ev29 : Env cxT := { Kc := kcOf [], Kw := kwOf [], lv := fun i => if i = 0 then [(0, [some 5]), (3, [some 5]), (4, [])] else [], xv := fun i => if i = 0 then some [(3, [some 5])] else none }
def S29_0 (a0 : (List Int)) (v0_3 : (List Int)) (v0_4 : Int) : St cxT.ty := { slots := [(.inl (.inl (ls { own := 0, nm := 0, e := 5, o := false, xs := a0 }))), junk, junk, (.inl (.inl (ls { own := 1, nm := 192, e := 5, o := true, xs := v0_3 }))), (.inl (.inl (lv (.int .i64 v0_4))))] ++ List.replicate 17 junk, D := [], F := [], ctr := 1 }
def X29_0 (a0 : (List Int)) (w0_3 : (List Int)) : St cxT.ty := { slots := [junk, junk, junk, (.inl (.inl (ls { own := 1, nm := 192, e := 5, o := true, xs := w0_3 })))] ++ List.replicate 18 junk, D := [], F := [], ctr := 1 }
theorem i29 (L : Nat) (a0 : (List Int)) : evF prog ev29 (loopN L) f29 (a29.enc a0) =
  bif (((decide ((0 : Int) ≤ (Nat.cast (List.length a0) : Int))) && (decide ((Nat.cast (List.length a0) : Int) ≤ (Nat.cast (List.length a0) : Int)))) && (decide ((Nat.cast (List.length a0) : Int) ≤ (1000000000 : Int)))) then headF prog ev29 L f29 0 [1, 1, 0, 1, 0, 0] (outK (outV prog f29) (topK prog ev29 L f29 [1, 1, 0, 1] (outV prog f29)).n (topK prog ev29 L f29 [1, 1, 0, 1] (outV prog f29)).x) L (S29_0 a0 (List.replicate (Int.toNat (Nat.cast (List.length a0) : Int)) (0 : Int)) (0 : Int))
  else none := by kernel_rfl
theorem r29_0 (L : Nat) (a0 : (List Int)) (k : St cxT.ty → Option (V cxT.ty)) (xk : Nat → St cxT.ty → Option (V cxT.ty)) (g : St cxT.ty → Option (V cxT.ty)) (v0_3 : (List Int)) (v0_4 : Int) : roundF prog ev29 L f29 0 [1, 1, 0, 1, 0, 0] (outK (outV prog f29) k xk) g (S29_0 a0 v0_3 v0_4) =
  bif (decide (v0_4 < (Nat.cast (List.length a0) : Int))) then bif ((decide ((0 : Int) ≤ v0_4)) && (decide (v0_4 < (Nat.cast (List.length a0) : Int)))) then bif ((decide ((0 : Int) ≤ v0_4)) && (decide (v0_4 < (Nat.cast (List.length v0_3) : Int)))) then g (S29_0 a0 (List.set v0_3 (Int.toNat v0_4) (List.getD a0 (Int.toNat v0_4) (0 : Int))) (Go.IntKind.wrap Go.IntKind.i64 (v0_4 + (1 : Int))))
      else none
    else none
  else k (X29_0 a0 v0_3) := by kernel_rfl
theorem t29_0 (L : Nat) (a0 : (List Int)) (w0_3 : (List Int)) : (topK prog ev29 L f29 [1, 1, 0, 1] (outV prog f29)).n (X29_0 a0 w0_3) =
  some (n29 w0_3) := by kernel_rfl
def l29_0 (L : Nat) (a0 : (List Int)) : Nat → (List Int) → Int → ((List Int) → Option (List Int)) → Option (List Int)
  | 0, _, _, _ => none
  | n + 1, v0_3, v0_4, k =>
    bif (decide (v0_4 < (Nat.cast (List.length a0) : Int))) then bif ((decide ((0 : Int) ≤ v0_4)) && (decide (v0_4 < (Nat.cast (List.length a0) : Int)))) then bif ((decide ((0 : Int) ≤ v0_4)) && (decide (v0_4 < (Nat.cast (List.length v0_3) : Int)))) then l29_0 L a0 n (List.set v0_3 (Int.toNat v0_4) (List.getD a0 (Int.toNat v0_4) (0 : Int))) (Go.IntKind.wrap Go.IntKind.i64 (v0_4 + (1 : Int))) k
        else none
      else none
    else k v0_3
theorem h29_0 (L : Nat) (a0 : (List Int)) (k : St cxT.ty → Option (V cxT.ty)) (xk : Nat → St cxT.ty → Option (V cxT.ty)) (k' : (List Int) → Option (List Int)) (hk : ∀ (w0_3 : (List Int)), k (X29_0 a0 w0_3) = (k' w0_3).map n29) : ∀ (n : Nat) (v0_3 : (List Int)) (v0_4 : Int), headF prog ev29 L f29 0 [1, 1, 0, 1, 0, 0] (outK (outV prog f29) k xk) n (S29_0 a0 v0_3 v0_4) = (l29_0 L a0 n v0_3 v0_4 k').map n29
  | 0, _, _ => rfl
  | n + 1, v0_3, v0_4 => by
    rw [headF_round, r29_0]
    have ih := h29_0 L a0 k xk k' hk n
    simp only [l29_0, map_bif, Option.map_some, Option.map_none, ih, hk]
def g29 (L : Nat) (a0 : (List Int)) : Option (List Int) :=
  bif (((decide ((0 : Int) ≤ (Nat.cast (List.length a0) : Int))) && (decide ((Nat.cast (List.length a0) : Int) ≤ (Nat.cast (List.length a0) : Int)))) && (decide ((Nat.cast (List.length a0) : Int) ≤ (1000000000 : Int)))) then l29_0 L a0 L (List.replicate (Int.toNat (Nat.cast (List.length a0) : Int)) (0 : Int)) (0 : Int) (fun (w0_3 : (List Int)) => some w0_3)
  else none
theorem e29 (L : Nat) (a0 : (List Int)) : evF prog ev29 (loopN L) f29 (a29.enc a0) = (g29 L a0).map n29 := by
  let K'0 : (List Int) → Option (List Int) := (fun (w0_3 : (List Int)) => some w0_3)
  have hin0 : ∀ (v0_3 : (List Int)) (v0_4 : Int), headF prog ev29 L f29 0 [1, 1, 0, 1, 0, 0] (outK (outV prog f29) (topK prog ev29 L f29 [1, 1, 0, 1] (outV prog f29)).n (topK prog ev29 L f29 [1, 1, 0, 1] (outV prog f29)).x) L (S29_0 a0 v0_3 v0_4) = (l29_0 L a0 L v0_3 v0_4 K'0).map n29 := fun v0_3 v0_4 => h29_0 L a0 _ _ K'0 (fun w0_3 => by rw [t29_0]; simp only [K'0, map_bif, Option.map_some, Option.map_none]) L v0_3 v0_4
  rw [i29]; simp only [g29, map_bif, Option.map_some, Option.map_none, hin0, K'0]
theorem s29 (m : (List Int) → Option (List Int)) (hm : ∀ (x : (List Int)) t, m x = some t → ∃ L, g29 L x = some t) : Sat prog cxT 29 (c29 m) :=
  sat_t cxT_ok cxT_pok (by rfl) (fn := f29) rfl a29 n29 dd29 m ev29 kok_nil kwok_nil (fun L x => g29 L x) (fun L x => e29 L x) hm hs29
/-! loop.example/g00222/impl.PacketFault -/
def ev20 (m51 : Int → Option Bool) (m61 : Int → Option Bool) (m62 : Int → Option Bool) : Env cxT := { Kc := kcOf [(51, c51 m51), (61, c61 m61), (62, c62 m62)], Kw := kwOf [], lv := fun i => [], xv := fun i => none }
theorem i20 (m51 : Int → Option Bool) (m61 : Int → Option Bool) (m62 : Int → Option Bool) (L : Nat) (a0_0 : Int) (a0_1 : Int) (a0_2 : Int) (a0_3 : Int) (a0_4 : Int) (a0_5 : (List Int)) : evF prog (ev20 m51 m61 m62) (loopN L) f20 (a20.enc (a0_0, a0_1, a0_2, a0_3, a0_4, a0_5)) =
  bif (Option.isSome (m51 a0_0)) then bif (!(Option.getD (m51 a0_0) Bool.false)) then some (n20 (3 : Int))
    else bif (Option.isSome (m51 a0_1)) then bif (!(Option.getD (m51 a0_1) Bool.false)) then some (n20 (3 : Int))
      else bif (Option.isSome (m61 a0_2)) then bif (!(Option.getD (m61 a0_2) Bool.false)) then some (n20 (3 : Int))
        else bif (Option.isSome (m62 a0_3)) then bif (!(Option.getD (m62 a0_3) Bool.false)) then some (n20 (3 : Int))
          else bif (Option.isSome (m62 a0_4)) then bif (!(Option.getD (m62 a0_4) Bool.false)) then some (n20 (3 : Int))
            else bif (decide ((Nat.cast (List.length a0_5) : Int) > (200 : Int))) then some (n20 (2 : Int))
            else some (n20 (0 : Int))
          else none
        else none
      else none
    else none
  else none := by kernel_rfl
def g20 (m51 : Int → Option Bool) (m61 : Int → Option Bool) (m62 : Int → Option Bool) (L : Nat) (a0_0 : Int) (a0_1 : Int) (a0_2 : Int) (a0_3 : Int) (a0_4 : Int) (a0_5 : (List Int)) : Option Int :=
  bif (Option.isSome (m51 a0_0)) then bif (!(Option.getD (m51 a0_0) Bool.false)) then some (3 : Int)
    else bif (Option.isSome (m51 a0_1)) then bif (!(Option.getD (m51 a0_1) Bool.false)) then some (3 : Int)
      else bif (Option.isSome (m61 a0_2)) then bif (!(Option.getD (m61 a0_2) Bool.false)) then some (3 : Int)
        else bif (Option.isSome (m62 a0_3)) then bif (!(Option.getD (m62 a0_3) Bool.false)) then some (3 : Int)
          else bif (Option.isSome (m62 a0_4)) then bif (!(Option.getD (m62 a0_4) Bool.false)) then some (3 : Int)
            else bif (decide ((Nat.cast (List.length a0_5) : Int) > (200 : Int))) then some (2 : Int)
            else some (0 : Int)
          else none
        else none
      else none
    else none
  else none
theorem e20 (m51 : Int → Option Bool) (m61 : Int → Option Bool) (m62 : Int → Option Bool) (L : Nat) (a0_0 : Int) (a0_1 : Int) (a0_2 : Int) (a0_3 : Int) (a0_4 : Int) (a0_5 : (List Int)) : evF prog (ev20 m51 m61 m62) (loopN L) f20 (a20.enc (a0_0, a0_1, a0_2, a0_3, a0_4, a0_5)) = (g20 m51 m61 m62 L a0_0 a0_1 a0_2 a0_3 a0_4 a0_5).map n20 := by
  rw [i20]; simp only [g20, map_bif, Option.map_some, Option.map_none]
theorem s20 (m51 : Int → Option Bool) (m61 : Int → Option Bool) (m62 : Int → Option Bool) (h51 : Sat prog cxT 51 (c51 m51)) (h61 : Sat prog cxT 61 (c61 m61)) (h62 : Sat prog cxT 62 (c62 m62)) (m : (Int × Int × Int × Int × Int × (List Int)) → Option Int) (hm : ∀ (x : (Int × Int × Int × Int × Int × (List Int))) t, m x = some t → ∃ L, g20 m51 m61 m62 L x.1 x.2.1 x.2.2.1 x.2.2.2.1 x.2.2.2.2.1 x.2.2.2.2.2 = some t) : Sat prog cxT 20 (c20 m) :=
  sat_t cxT_ok cxT_pok (by rfl) (fn := f20) rfl a20 n20 dd20 m (ev20 m51 m61 m62) (kok_cons h51 (kok_cons h61 (kok_cons h62 kok_nil))) kwok_nil (fun L x => g20 m51 m61 m62 L x.1 x.2.1 x.2.2.1 x.2.2.2.1 x.2.2.2.2.1 x.2.2.2.2.2) (fun L x => e20 m51 m61 m62 L x.1 x.2.1 x.2.2.1 x.2.2.2.1 x.2.2.2.2.1 x.2.2.2.2.2) hm hs20
/-! loop.example/g00222/impl.isAddress -/
def ev51 : Env cxT := { Kc := kcOf [], Kw := kwOf [], lv := fun i => [], xv := fun i => none }
theorem i51 (L : Nat) (a0 : Int) : evF prog ev51 (loopN L) f51 (a51.enc a0) =
  bif (decide (a0 ≥ (0 : Int))) then some (n51 (decide (a0 ≤ (4294967295 : Int))))
  else some (n51 Bool.false) := by kernel_rfl
def g51 (L : Nat) (a0 : Int) : Option Bool :=
  bif (decide (a0 ≥ (0 : Int))) then some (decide (a0 ≤ (4294967295 : Int)))
  else some Bool.false
theorem e51 (L : Nat) (a0 : Int) : evF prog ev51 (loopN L) f51 (a51.enc a0) = (g51 L a0).map n51 := by
  rw [i51]; simp only [g51, map_bif, Option.map_some, Option.map_none]
theorem s51 (m : Int → Option Bool) (hm : ∀ (x : Int) t, m x = some t → ∃ L, g51 L x = some t) : Sat prog cxT 51 (c51 m) :=
  sat_t cxT_ok cxT_pok (by rfl) (fn := f51) rfl a51 n51 dd51 m ev51 kok_nil kwok_nil (fun L x => g51 L x) (fun L x => e51 L x) hm hs51
/-! loop.example/g00222/impl.isProto -/
def ev61 : Env cxT := { Kc := kcOf [], Kw := kwOf [], lv := fun i => [], xv := fun i => none }
theorem i61 (L : Nat) (a0 : Int) : evF prog ev61 (loopN L) f61 (a61.enc a0) =
  bif (a0 == (6 : Int)) then some (n61 Bool.true)
  else some (n61 (a0 == (17 : Int))) := by kernel_rfl
def g61 (L : Nat) (a0 : Int) : Option Bool :=
  bif (a0 == (6 : Int)) then some Bool.true
  else some (a0 == (17 : Int))
theorem e61 (L : Nat) (a0 : Int) : evF prog ev61 (loopN L) f61 (a61.enc a0) = (g61 L a0).map n61 := by
  rw [i61]; simp only [g61, map_bif, Option.map_some, Option.map_none]
theorem s61 (m : Int → Option Bool) (hm : ∀ (x : Int) t, m x = some t → ∃ L, g61 L x = some t) : Sat prog cxT 61 (c61 m) :=
  sat_t cxT_ok cxT_pok (by rfl) (fn := f61) rfl a61 n61 dd61 m ev61 kok_nil kwok_nil (fun L x => g61 L x) (fun L x => e61 L x) hm hs61
/-! loop.example/g00222/impl.isPort -/
def ev62 : Env cxT := { Kc := kcOf [], Kw := kwOf [], lv := fun i => [], xv := fun i => none }
theorem i62 (L : Nat) (a0 : Int) : evF prog ev62 (loopN L) f62 (a62.enc a0) =
  bif (decide (a0 ≥ (0 : Int))) then some (n62 (decide (a0 ≤ (65535 : Int))))
  else some (n62 Bool.false) := by kernel_rfl
def g62 (L : Nat) (a0 : Int) : Option Bool :=
  bif (decide (a0 ≥ (0 : Int))) then some (decide (a0 ≤ (65535 : Int)))
  else some Bool.false
theorem e62 (L : Nat) (a0 : Int) : evF prog ev62 (loopN L) f62 (a62.enc a0) = (g62 L a0).map n62 := by
  rw [i62]; simp only [g62, map_bif, Option.map_some, Option.map_none]
theorem s62 (m : Int → Option Bool) (hm : ∀ (x : Int) t, m x = some t → ∃ L, g62 L x = some t) : Sat prog cxT 62 (c62 m) :=
  sat_t cxT_ok cxT_pok (by rfl) (fn := f62) rfl a62 n62 dd62 m ev62 kok_nil kwok_nil (fun L x => g62 L x) (fun L x => e62 L x) hm hs62
/-! loop.example/g00222/laws.eqPacket -/
def ev21 (m32 : ((List Int) × (List Int)) → Option Bool) : Env cxT := { Kc := kcOf [(32, c32 m32)], Kw := kwOf [], lv := fun i => [], xv := fun i => none }
theorem i21 (m32 : ((List Int) × (List Int)) → Option Bool) (L : Nat) (a0_0 : Int) (a0_1 : Int) (a0_2 : Int) (a0_3 : Int) (a0_4 : Int) (a0_5 : (List Int)) (a1_0 : Int) (a1_1 : Int) (a1_2 : Int) (a1_3 : Int) (a1_4 : Int) (a1_5 : (List Int)) : evF prog (ev21 m32) (loopN L) f21 (a21.enc ((a0_0, a0_1, a0_2, a0_3, a0_4, a0_5), (a1_0, a1_1, a1_2, a1_3, a1_4, a1_5))) =
  bif (a0_0 != a1_0) then some (n21 Bool.false)
  else bif (a0_1 != a1_1) then some (n21 Bool.false)
  else bif (a0_2 != a1_2) then some (n21 Bool.false)
  else bif (a0_3 != a1_3) then some (n21 Bool.false)
  else bif (a0_4 != a1_4) then some (n21 Bool.false)
  else bif (Option.isSome (m32 (a0_5, a1_5))) then bif (!(Option.getD (m32 (a0_5, a1_5)) Bool.false)) then some (n21 Bool.false)
    else some (n21 Bool.true)
  else none := by kernel_rfl
def g21 (m32 : ((List Int) × (List Int)) → Option Bool) (L : Nat) (a0_0 : Int) (a0_1 : Int) (a0_2 : Int) (a0_3 : Int) (a0_4 : Int) (a0_5 : (List Int)) (a1_0 : Int) (a1_1 : Int) (a1_2 : Int) (a1_3 : Int) (a1_4 : Int) (a1_5 : (List Int)) : Option Bool :=
  bif (a0_0 != a1_0) then some Bool.false
  else bif (a0_1 != a1_1) then some Bool.false
  else bif (a0_2 != a1_2) then some Bool.false
  else bif (a0_3 != a1_3) then some Bool.false
  else bif (a0_4 != a1_4) then some Bool.false
  else bif (Option.isSome (m32 (a0_5, a1_5))) then bif (!(Option.getD (m32 (a0_5, a1_5)) Bool.false)) then some Bool.false
    else some Bool.true
  else none
theorem e21 (m32 : ((List Int) × (List Int)) → Option Bool) (L : Nat) (a0_0 : Int) (a0_1 : Int) (a0_2 : Int) (a0_3 : Int) (a0_4 : Int) (a0_5 : (List Int)) (a1_0 : Int) (a1_1 : Int) (a1_2 : Int) (a1_3 : Int) (a1_4 : Int) (a1_5 : (List Int)) : evF prog (ev21 m32) (loopN L) f21 (a21.enc ((a0_0, a0_1, a0_2, a0_3, a0_4, a0_5), (a1_0, a1_1, a1_2, a1_3, a1_4, a1_5))) = (g21 m32 L a0_0 a0_1 a0_2 a0_3 a0_4 a0_5 a1_0 a1_1 a1_2 a1_3 a1_4 a1_5).map n21 := by
  rw [i21]; simp only [g21, map_bif, Option.map_some, Option.map_none]
theorem s21 (m32 : ((List Int) × (List Int)) → Option Bool) (h32 : Sat prog cxT 32 (c32 m32)) (m : ((Int × Int × Int × Int × Int × (List Int)) × (Int × Int × Int × Int × Int × (List Int))) → Option Bool) (hm : ∀ (x : ((Int × Int × Int × Int × Int × (List Int)) × (Int × Int × Int × Int × Int × (List Int)))) t, m x = some t → ∃ L, g21 m32 L x.1.1 x.1.2.1 x.1.2.2.1 x.1.2.2.2.1 x.1.2.2.2.2.1 x.1.2.2.2.2.2 x.2.1 x.2.2.1 x.2.2.2.1 x.2.2.2.2.1 x.2.2.2.2.2.1 x.2.2.2.2.2.2 = some t) : Sat prog cxT 21 (c21 m) :=
  sat_t cxT_ok cxT_pok (by rfl) (fn := f21) rfl a21 n21 dd21 m (ev21 m32) (kok_cons h32 kok_nil) kwok_nil (fun L x => g21 m32 L x.1.1 x.1.2.1 x.1.2.2.1 x.1.2.2.2.1 x.1.2.2.2.2.1 x.1.2.2.2.2.2 x.2.1 x.2.2.1 x.2.2.2.1 x.2.2.2.2.1 x.2.2.2.2.2.1 x.2.2.2.2.2.2) (fun L x => e21 m32 L x.1.1 x.1.2.1 x.1.2.2.1 x.1.2.2.2.1 x.1.2.2.2.2.1 x.1.2.2.2.2.2 x.2.1 x.2.2.1 x.2.2.2.1 x.2.2.2.2.1 x.2.2.2.2.2.1 x.2.2.2.2.2.2) hm hs21
/-! loop.example/g00222/laws.eqByteS -/
def ev32 : Env cxT := { Kc := kcOf [], Kw := kwOf [], lv := fun i => if i = 0 then [(0, [some 5]), (1, [some 5]), (5, [])] else [], xv := fun i => if i = 0 then some [] else none }
def S32_0 (a0 : (List Int)) (a1 : (List Int)) (v0_5 : Int) : St cxT.ty := { slots := [(.inl (.inl (ls { own := 0, nm := 0, e := 5, o := false, xs := a0 }))), (.inl (.inl (ls { own := 0, nm := 0, e := 5, o := false, xs := a1 }))), junk, junk, junk, (.inl (.inl (lv (.int .i64 v0_5))))] ++ List.replicate 20 junk, D := [], F := [], ctr := 1 }
def X32_0 (a0 : (List Int)) (a1 : (List Int)) : St cxT.ty := { slots := [] ++ List.replicate 26 junk, D := [], F := [], ctr := 1 }
theorem i32 (L : Nat) (a0 : (List Int)) (a1 : (List Int)) : evF prog ev32 (loopN L) f32 (a32.enc (a0, a1)) =
  bif ((Nat.cast (List.length a0) : Int) != (Nat.cast (List.length a1) : Int)) then some (n32 Bool.false)
  else headF prog ev32 L f32 0 [1, 1, 0, 1, 0, 0] (outK (outV prog f32) (topK prog ev32 L f32 [1, 1, 0, 1] (outV prog f32)).n (topK prog ev32 L f32 [1, 1, 0, 1] (outV prog f32)).x) L (S32_0 a0 a1 (0 : Int)) := by kernel_rfl
theorem r32_0 (L : Nat) (a0 : (List Int)) (a1 : (List Int)) (k : St cxT.ty → Option (V cxT.ty)) (xk : Nat → St cxT.ty → Option (V cxT.ty)) (g : St cxT.ty → Option (V cxT.ty)) (v0_5 : Int) : roundF prog ev32 L f32 0 [1, 1, 0, 1, 0, 0] (outK (outV prog f32) k xk) g (S32_0 a0 a1 v0_5) =
  bif (decide (v0_5 < (Nat.cast (List.length a0) : Int))) then bif ((decide ((0 : Int) ≤ v0_5)) && (decide (v0_5 < (Nat.cast (List.length a0) : Int)))) then bif ((decide ((0 : Int) ≤ v0_5)) && (decide (v0_5 < (Nat.cast (List.length a1) : Int)))) then bif ((List.getD a0 (Int.toNat v0_5) (0 : Int)) != (List.getD a1 (Int.toNat v0_5) (0 : Int))) then some (n32 Bool.false)
        else g (S32_0 a0 a1 (Go.IntKind.wrap Go.IntKind.i64 (v0_5 + (1 : Int))))
      else none
    else none
  else k (X32_0 a0 a1) := by kernel_rfl
theorem t32_0 (L : Nat) (a0 : (List Int)) (a1 : (List Int)) : (topK prog ev32 L f32 [1, 1, 0, 1] (outV prog f32)).n (X32_0 a0 a1) =
  some (n32 Bool.true) := by kernel_rfl
def l32_0 (L : Nat) (a0 : (List Int)) (a1 : (List Int)) : Nat → Int → (Option Bool) → Option Bool
  | 0, _, _ => none
  | n + 1, v0_5, k =>
    bif (decide (v0_5 < (Nat.cast (List.length a0) : Int))) then bif ((decide ((0 : Int) ≤ v0_5)) && (decide (v0_5 < (Nat.cast (List.length a0) : Int)))) then bif ((decide ((0 : Int) ≤ v0_5)) && (decide (v0_5 < (Nat.cast (List.length a1) : Int)))) then bif ((List.getD a0 (Int.toNat v0_5) (0 : Int)) != (List.getD a1 (Int.toNat v0_5) (0 : Int))) then some Bool.false
          else l32_0 L a0 a1 n (Go.IntKind.wrap Go.IntKind.i64 (v0_5 + (1 : Int))) k
        else none
      else none
    else k
theorem h32_0 (L : Nat) (a0 : (List Int)) (a1 : (List Int)) (k : St cxT.ty → Option (V cxT.ty)) (xk : Nat → St cxT.ty → Option (V cxT.ty)) (k' : Option Bool) (hk : k (X32_0 a0 a1) = (k').map n32) : ∀ (n : Nat) (v0_5 : Int), headF prog ev32 L f32 0 [1, 1, 0, 1, 0, 0] (outK (outV prog f32) k xk) n (S32_0 a0 a1 v0_5) = (l32_0 L a0 a1 n v0_5 k').map n32
  | 0, _ => rfl
  | n + 1, v0_5 => by
    rw [headF_round, r32_0]
    have ih := h32_0 L a0 a1 k xk k' hk n
    simp only [l32_0, map_bif, Option.map_some, Option.map_none, ih, hk]
def g32 (L : Nat) (a0 : (List Int)) (a1 : (List Int)) : Option Bool :=
  bif ((Nat.cast (List.length a0) : Int) != (Nat.cast (List.length a1) : Int)) then some Bool.false
  else l32_0 L a0 a1 L (0 : Int) (some Bool.true)
theorem e32 (L : Nat) (a0 : (List Int)) (a1 : (List Int)) : evF prog ev32 (loopN L) f32 (a32.enc (a0, a1)) = (g32 L a0 a1).map n32 := by
  let K'0 : Option Bool := (some Bool.true)
  have hin0 : ∀ (v0_5 : Int), headF prog ev32 L f32 0 [1, 1, 0, 1, 0, 0] (outK (outV prog f32) (topK prog ev32 L f32 [1, 1, 0, 1] (outV prog f32)).n (topK prog ev32 L f32 [1, 1, 0, 1] (outV prog f32)).x) L (S32_0 a0 a1 v0_5) = (l32_0 L a0 a1 L v0_5 K'0).map n32 := fun v0_5 => h32_0 L a0 a1 _ _ K'0 (by rw [t32_0]; simp only [K'0, map_bif, Option.map_some, Option.map_none]) L v0_5
  rw [i32]; simp only [g32, map_bif, Option.map_some, Option.map_none, hin0, K'0]
theorem s32 (m : ((List Int) × (List Int)) → Option Bool) (hm : ∀ (x : ((List Int) × (List Int))) t, m x = some t → ∃ L, g32 L x.1 x.2 = some t) : Sat prog cxT 32 (c32 m) :=
  sat_t cxT_ok cxT_pok (by rfl) (fn := f32) rfl a32 n32 dd32 m ev32 kok_nil kwok_nil (fun L x => g32 L x.1 x.2) (fun L x => e32 L x.1 x.2) hm hs32
/-! loop.example/g00222/laws.FnExactSamePacket -/
def ev9 (m17 : ((Int × Int × Int × Int × Int × (List Int)) × Int) → Option Int) (m19 : (Int × Int × Int × Int × Int × (List Int)) → Option (Int × Int × Int × Int × Int × (List Int))) (m39 : ((Int × Int × Int × Int × Int × (List Int)) × (Int × Int × Int × Int × Int × (List Int))) → Option Bool) (m40 : ((Int × Int × Int × Int × Int × (List Int)) × (Int × Int × Int × Int × Int × (List Int))) → Option Bool) (m21 : ((Int × Int × Int × Int × Int × (List Int)) × (Int × Int × Int × Int × Int × (List Int))) → Option Bool) : Env cxT := { Kc := kcOf [(17, c17 m17), (19, c19 m19), (39, c39 m39), (40, c40 m40), (21, c21 m21)], Kw := kwOf [], lv := fun i => [], xv := fun i => none }
theorem i9 (m17 : ((Int × Int × Int × Int × Int × (List Int)) × Int) → Option Int) (m19 : (Int × Int × Int × Int × Int × (List Int)) → Option (Int × Int × Int × Int × Int × (List Int))) (m39 : ((Int × Int × Int × Int × Int × (List Int)) × (Int × Int × Int × Int × Int × (List Int))) → Option Bool) (m40 : ((Int × Int × Int × Int × Int × (List Int)) × (Int × Int × Int × Int × Int × (List Int))) → Option Bool) (m21 : ((Int × Int × Int × Int × Int × (List Int)) × (Int × Int × Int × Int × Int × (List Int))) → Option Bool) (L : Nat) (a0_0 : Int) (a0_1 : Int) (a0_2 : Int) (a0_3 : Int) (a0_4 : Int) (a0_5 : (List Int)) (a1_0 : Int) (a1_1 : Int) (a1_2 : Int) (a1_3 : Int) (a1_4 : Int) (a1_5 : (List Int)) : evF prog (ev9 m17 m19 m39 m40 m21) (loopN L) f9 (a9.enc ((a0_0, a0_1, a0_2, a0_3, a0_4, a0_5), (a1_0, a1_1, a1_2, a1_3, a1_4, a1_5))) =
  bif (Option.isSome (m17 ((a0_0, (a0_1, (a0_2, (a0_3, (a0_4, a0_5))))), (1048576 : Int)))) then bif (decide ((Option.getD (m17 ((a0_0, (a0_1, (a0_2, (a0_3, (a0_4, a0_5))))), (1048576 : Int))) (0 : Int)) < (0 : Int))) then some (n9 Bool.true)
    else bif (Option.isSome (m17 ((a1_0, (a1_1, (a1_2, (a1_3, (a1_4, a1_5))))), (Option.getD (m17 ((a0_0, (a0_1, (a0_2, (a0_3, (a0_4, a0_5))))), (1048576 : Int))) (0 : Int))))) then bif (decide ((Option.getD (m17 ((a1_0, (a1_1, (a1_2, (a1_3, (a1_4, a1_5))))), (Option.getD (m17 ((a0_0, (a0_1, (a0_2, (a0_3, (a0_4, a0_5))))), (1048576 : Int))) (0 : Int)))) (0 : Int)) < (0 : Int))) then some (n9 Bool.true)
      else bif (Option.isSome (m19 (a0_0, (a0_1, (a0_2, (a0_3, (a0_4, a0_5))))))) then bif (Option.isSome (m19 (a1_0, (a1_1, (a1_2, (a1_3, (a1_4, a1_5))))))) then bif (Option.isSome (m39 (((Option.getD (m19 (a0_0, (a0_1, (a0_2, (a0_3, (a0_4, a0_5)))))) ((0 : Int), ((0 : Int), ((0 : Int), ((0 : Int), ((0 : Int), [])))))).1, ((Option.getD (m19 (a0_0, (a0_1, (a0_2, (a0_3, (a0_4, a0_5)))))) ((0 : Int), ((0 : Int), ((0 : Int), ((0 : Int), ((0 : Int), [])))))).2.1, ((Option.getD (m19 (a0_0, (a0_1, (a0_2, (a0_3, (a0_4, a0_5)))))) ((0 : Int), ((0 : Int), ((0 : Int), ((0 : Int), ((0 : Int), [])))))).2.2.1, ((Option.getD (m19 (a0_0, (a0_1, (a0_2, (a0_3, (a0_4, a0_5)))))) ((0 : Int), ((0 : Int), ((0 : Int), ((0 : Int), ((0 : Int), [])))))).2.2.2.1, ((Option.getD (m19 (a0_0, (a0_1, (a0_2, (a0_3, (a0_4, a0_5)))))) ((0 : Int), ((0 : Int), ((0 : Int), ((0 : Int), ((0 : Int), [])))))).2.2.2.2.1, (Option.getD (m19 (a0_0, (a0_1, (a0_2, (a0_3, (a0_4, a0_5)))))) ((0 : Int), ((0 : Int), ((0 : Int), ((0 : Int), ((0 : Int), [])))))).2.2.2.2.2))))), ((Option.getD (m19 (a1_0, (a1_1, (a1_2, (a1_3, (a1_4, a1_5)))))) ((0 : Int), ((0 : Int), ((0 : Int), ((0 : Int), ((0 : Int), [])))))).1, ((Option.getD (m19 (a1_0, (a1_1, (a1_2, (a1_3, (a1_4, a1_5)))))) ((0 : Int), ((0 : Int), ((0 : Int), ((0 : Int), ((0 : Int), [])))))).2.1, ((Option.getD (m19 (a1_0, (a1_1, (a1_2, (a1_3, (a1_4, a1_5)))))) ((0 : Int), ((0 : Int), ((0 : Int), ((0 : Int), ((0 : Int), [])))))).2.2.1, ((Option.getD (m19 (a1_0, (a1_1, (a1_2, (a1_3, (a1_4, a1_5)))))) ((0 : Int), ((0 : Int), ((0 : Int), ((0 : Int), ((0 : Int), [])))))).2.2.2.1, ((Option.getD (m19 (a1_0, (a1_1, (a1_2, (a1_3, (a1_4, a1_5)))))) ((0 : Int), ((0 : Int), ((0 : Int), ((0 : Int), ((0 : Int), [])))))).2.2.2.2.1, (Option.getD (m19 (a1_0, (a1_1, (a1_2, (a1_3, (a1_4, a1_5)))))) ((0 : Int), ((0 : Int), ((0 : Int), ((0 : Int), ((0 : Int), [])))))).2.2.2.2.2)))))))) then bif (Option.isSome (m19 (a0_0, (a0_1, (a0_2, (a0_3, (a0_4, a0_5))))))) then bif (Option.isSome (m19 (a1_0, (a1_1, (a1_2, (a1_3, (a1_4, a1_5))))))) then bif (Option.isSome (m40 (((Option.getD (m19 (a0_0, (a0_1, (a0_2, (a0_3, (a0_4, a0_5)))))) ((0 : Int), ((0 : Int), ((0 : Int), ((0 : Int), ((0 : Int), [])))))).1, ((Option.getD (m19 (a0_0, (a0_1, (a0_2, (a0_3, (a0_4, a0_5)))))) ((0 : Int), ((0 : Int), ((0 : Int), ((0 : Int), ((0 : Int), [])))))).2.1, ((Option.getD (m19 (a0_0, (a0_1, (a0_2, (a0_3, (a0_4, a0_5)))))) ((0 : Int), ((0 : Int), ((0 : Int), ((0 : Int), ((0 : Int), [])))))).2.2.1, ((Option.getD (m19 (a0_0, (a0_1, (a0_2, (a0_3, (a0_4, a0_5)))))) ((0 : Int), ((0 : Int), ((0 : Int), ((0 : Int), ((0 : Int), [])))))).2.2.2.1, ((Option.getD (m19 (a0_0, (a0_1, (a0_2, (a0_3, (a0_4, a0_5)))))) ((0 : Int), ((0 : Int), ((0 : Int), ((0 : Int), ((0 : Int), [])))))).2.2.2.2.1, (Option.getD (m19 (a0_0, (a0_1, (a0_2, (a0_3, (a0_4, a0_5)))))) ((0 : Int), ((0 : Int), ((0 : Int), ((0 : Int), ((0 : Int), [])))))).2.2.2.2.2))))), ((Option.getD (m19 (a1_0, (a1_1, (a1_2, (a1_3, (a1_4, a1_5)))))) ((0 : Int), ((0 : Int), ((0 : Int), ((0 : Int), ((0 : Int), [])))))).1, ((Option.getD (m19 (a1_0, (a1_1, (a1_2, (a1_3, (a1_4, a1_5)))))) ((0 : Int), ((0 : Int), ((0 : Int), ((0 : Int), ((0 : Int), [])))))).2.1, ((Option.getD (m19 (a1_0, (a1_1, (a1_2, (a1_3, (a1_4, a1_5)))))) ((0 : Int), ((0 : Int), ((0 : Int), ((0 : Int), ((0 : Int), [])))))).2.2.1, ((Option.getD (m19 (a1_0, (a1_1, (a1_2, (a1_3, (a1_4, a1_5)))))) ((0 : Int), ((0 : Int), ((0 : Int), ((0 : Int), ((0 : Int), [])))))).2.2.2.1, ((Option.getD (m19 (a1_0, (a1_1, (a1_2, (a1_3, (a1_4, a1_5)))))) ((0 : Int), ((0 : Int), ((0 : Int), ((0 : Int), ((0 : Int), [])))))).2.2.2.2.1, (Option.getD (m19 (a1_0, (a1_1, (a1_2, (a1_3, (a1_4, a1_5)))))) ((0 : Int), ((0 : Int), ((0 : Int), ((0 : Int), ((0 : Int), [])))))).2.2.2.2.2)))))))) then bif (!((Option.getD (m40 (((Option.getD (m19 (a0_0, (a0_1, (a0_2, (a0_3, (a0_4, a0_5)))))) ((0 : Int), ((0 : Int), ((0 : Int), ((0 : Int), ((0 : Int), [])))))).1, ((Option.getD (m19 (a0_0, (a0_1, (a0_2, (a0_3, (a0_4, a0_5)))))) ((0 : Int), ((0 : Int), ((0 : Int), ((0 : Int), ((0 : Int), [])))))).2.1, ((Option.getD (m19 (a0_0, (a0_1, (a0_2, (a0_3, (a0_4, a0_5)))))) ((0 : Int), ((0 : Int), ((0 : Int), ((0 : Int), ((0 : Int), [])))))).2.2.1, ((Option.getD (m19 (a0_0, (a0_1, (a0_2, (a0_3, (a0_4, a0_5)))))) ((0 : Int), ((0 : Int), ((0 : Int), ((0 : Int), ((0 : Int), [])))))).2.2.2.1, ((Option.getD (m19 (a0_0, (a0_1, (a0_2, (a0_3, (a0_4, a0_5)))))) ((0 : Int), ((0 : Int), ((0 : Int), ((0 : Int), ((0 : Int), [])))))).2.2.2.2.1, (Option.getD (m19 (a0_0, (a0_1, (a0_2, (a0_3, (a0_4, a0_5)))))) ((0 : Int), ((0 : Int), ((0 : Int), ((0 : Int), ((0 : Int), [])))))).2.2.2.2.2))))), ((Option.getD (m19 (a1_0, (a1_1, (a1_2, (a1_3, (a1_4, a1_5)))))) ((0 : Int), ((0 : Int), ((0 : Int), ((0 : Int), ((0 : Int), [])))))).1, ((Option.getD (m19 (a1_0, (a1_1, (a1_2, (a1_3, (a1_4, a1_5)))))) ((0 : Int), ((0 : Int), ((0 : Int), ((0 : Int), ((0 : Int), [])))))).2.1, ((Option.getD (m19 (a1_0, (a1_1, (a1_2, (a1_3, (a1_4, a1_5)))))) ((0 : Int), ((0 : Int), ((0 : Int), ((0 : Int), ((0 : Int), [])))))).2.2.1, ((Option.getD (m19 (a1_0, (a1_1, (a1_2, (a1_3, (a1_4, a1_5)))))) ((0 : Int), ((0 : Int), ((0 : Int), ((0 : Int), ((0 : Int), [])))))).2.2.2.1, ((Option.getD (m19 (a1_0, (a1_1, (a1_2, (a1_3, (a1_4, a1_5)))))) ((0 : Int), ((0 : Int), ((0 : Int), ((0 : Int), ((0 : Int), [])))))).2.2.2.2.1, (Option.getD (m19 (a1_0, (a1_1, (a1_2, (a1_3, (a1_4, a1_5)))))) ((0 : Int), ((0 : Int), ((0 : Int), ((0 : Int), ((0 : Int), [])))))).2.2.2.2.2))))))) Bool.false) == (Option.getD (m39 (((Option.getD (m19 (a0_0, (a0_1, (a0_2, (a0_3, (a0_4, a0_5)))))) ((0 : Int), ((0 : Int), ((0 : Int), ((0 : Int), ((0 : Int), [])))))).1, ((Option.getD (m19 (a0_0, (a0_1, (a0_2, (a0_3, (a0_4, a0_5)))))) ((0 : Int), ((0 : Int), ((0 : Int), ((0 : Int), ((0 : Int), [])))))).2.1, ((Option.getD (m19 (a0_0, (a0_1, (a0_2, (a0_3, (a0_4, a0_5)))))) ((0 : Int), ((0 : Int), ((0 : Int), ((0 : Int), ((0 : Int), [])))))).2.2.1, ((Option.getD (m19 (a0_0, (a0_1, (a0_2, (a0_3, (a0_4, a0_5)))))) ((0 : Int), ((0 : Int), ((0 : Int), ((0 : Int), ((0 : Int), [])))))).2.2.2.1, ((Option.getD (m19 (a0_0, (a0_1, (a0_2, (a0_3, (a0_4, a0_5)))))) ((0 : Int), ((0 : Int), ((0 : Int), ((0 : Int), ((0 : Int), [])))))).2.2.2.2.1, (Option.getD (m19 (a0_0, (a0_1, (a0_2, (a0_3, (a0_4, a0_5)))))) ((0 : Int), ((0 : Int), ((0 : Int), ((0 : Int), ((0 : Int), [])))))).2.2.2.2.2))))), ((Option.getD (m19 (a1_0, (a1_1, (a1_2, (a1_3, (a1_4, a1_5)))))) ((0 : Int), ((0 : Int), ((0 : Int), ((0 : Int), ((0 : Int), [])))))).1, ((Option.getD (m19 (a1_0, (a1_1, (a1_2, (a1_3, (a1_4, a1_5)))))) ((0 : Int), ((0 : Int), ((0 : Int), ((0 : Int), ((0 : Int), [])))))).2.1, ((Option.getD (m19 (a1_0, (a1_1, (a1_2, (a1_3, (a1_4, a1_5)))))) ((0 : Int), ((0 : Int), ((0 : Int), ((0 : Int), ((0 : Int), [])))))).2.2.1, ((Option.getD (m19 (a1_0, (a1_1, (a1_2, (a1_3, (a1_4, a1_5)))))) ((0 : Int), ((0 : Int), ((0 : Int), ((0 : Int), ((0 : Int), [])))))).2.2.2.1, ((Option.getD (m19 (a1_0, (a1_1, (a1_2, (a1_3, (a1_4, a1_5)))))) ((0 : Int), ((0 : Int), ((0 : Int), ((0 : Int), ((0 : Int), [])))))).2.2.2.2.1, (Option.getD (m19 (a1_0, (a1_1, (a1_2, (a1_3, (a1_4, a1_5)))))) ((0 : Int), ((0 : Int), ((0 : Int), ((0 : Int), ((0 : Int), [])))))).2.2.2.2.2))))))) Bool.false))) then some (n9 Bool.false)
                  else bif (Option.isSome (m19 (a0_0, (a0_1, (a0_2, (a0_3, (a0_4, a0_5))))))) then bif (Option.isSome (m21 (((Option.getD (m19 (a0_0, (a0_1, (a0_2, (a0_3, (a0_4, a0_5)))))) ((0 : Int), ((0 : Int), ((0 : Int), ((0 : Int), ((0 : Int), [])))))).1, ((Option.getD (m19 (a0_0, (a0_1, (a0_2, (a0_3, (a0_4, a0_5)))))) ((0 : Int), ((0 : Int), ((0 : Int), ((0 : Int), ((0 : Int), [])))))).2.1, ((Option.getD (m19 (a0_0, (a0_1, (a0_2, (a0_3, (a0_4, a0_5)))))) ((0 : Int), ((0 : Int), ((0 : Int), ((0 : Int), ((0 : Int), [])))))).2.2.1, ((Option.getD (m19 (a0_0, (a0_1, (a0_2, (a0_3, (a0_4, a0_5)))))) ((0 : Int), ((0 : Int), ((0 : Int), ((0 : Int), ((0 : Int), [])))))).2.2.2.1, ((Option.getD (m19 (a0_0, (a0_1, (a0_2, (a0_3, (a0_4, a0_5)))))) ((0 : Int), ((0 : Int), ((0 : Int), ((0 : Int), ((0 : Int), [])))))).2.2.2.2.1, (Option.getD (m19 (a0_0, (a0_1, (a0_2, (a0_3, (a0_4, a0_5)))))) ((0 : Int), ((0 : Int), ((0 : Int), ((0 : Int), ((0 : Int), [])))))).2.2.2.2.2))))), ((Option.getD (m19 (a0_0, (a0_1, (a0_2, (a0_3, (a0_4, a0_5)))))) ((0 : Int), ((0 : Int), ((0 : Int), ((0 : Int), ((0 : Int), [])))))).1, ((Option.getD (m19 (a0_0, (a0_1, (a0_2, (a0_3, (a0_4, a0_5)))))) ((0 : Int), ((0 : Int), ((0 : Int), ((0 : Int), ((0 : Int), [])))))).2.1, ((Option.getD (m19 (a0_0, (a0_1, (a0_2, (a0_3, (a0_4, a0_5)))))) ((0 : Int), ((0 : Int), ((0 : Int), ((0 : Int), ((0 : Int), [])))))).2.2.1, ((Option.getD (m19 (a0_0, (a0_1, (a0_2, (a0_3, (a0_4, a0_5)))))) ((0 : Int), ((0 : Int), ((0 : Int), ((0 : Int), ((0 : Int), [])))))).2.2.2.1, ((Option.getD (m19 (a0_0, (a0_1, (a0_2, (a0_3, (a0_4, a0_5)))))) ((0 : Int), ((0 : Int), ((0 : Int), ((0 : Int), ((0 : Int), [])))))).2.2.2.2.1, (Option.getD (m19 (a0_0, (a0_1, (a0_2, (a0_3, (a0_4, a0_5)))))) ((0 : Int), ((0 : Int), ((0 : Int), ((0 : Int), ((0 : Int), [])))))).2.2.2.2.2)))))))) then bif (!(Option.getD (m21 (((Option.getD (m19 (a0_0, (a0_1, (a0_2, (a0_3, (a0_4, a0_5)))))) ((0 : Int), ((0 : Int), ((0 : Int), ((0 : Int), ((0 : Int), [])))))).1, ((Option.getD (m19 (a0_0, (a0_1, (a0_2, (a0_3, (a0_4, a0_5)))))) ((0 : Int), ((0 : Int), ((0 : Int), ((0 : Int), ((0 : Int), [])))))).2.1, ((Option.getD (m19 (a0_0, (a0_1, (a0_2, (a0_3, (a0_4, a0_5)))))) ((0 : Int), ((0 : Int), ((0 : Int), ((0 : Int), ((0 : Int), [])))))).2.2.1, ((Option.getD (m19 (a0_0, (a0_1, (a0_2, (a0_3, (a0_4, a0_5)))))) ((0 : Int), ((0 : Int), ((0 : Int), ((0 : Int), ((0 : Int), [])))))).2.2.2.1, ((Option.getD (m19 (a0_0, (a0_1, (a0_2, (a0_3, (a0_4, a0_5)))))) ((0 : Int), ((0 : Int), ((0 : Int), ((0 : Int), ((0 : Int), [])))))).2.2.2.2.1, (Option.getD (m19 (a0_0, (a0_1, (a0_2, (a0_3, (a0_4, a0_5)))))) ((0 : Int), ((0 : Int), ((0 : Int), ((0 : Int), ((0 : Int), [])))))).2.2.2.2.2))))), ((Option.getD (m19 (a0_0, (a0_1, (a0_2, (a0_3, (a0_4, a0_5)))))) ((0 : Int), ((0 : Int), ((0 : Int), ((0 : Int), ((0 : Int), [])))))).1, ((Option.getD (m19 (a0_0, (a0_1, (a0_2, (a0_3, (a0_4, a0_5)))))) ((0 : Int), ((0 : Int), ((0 : Int), ((0 : Int), ((0 : Int), [])))))).2.1, ((Option.getD (m19 (a0_0, (a0_1, (a0_2, (a0_3, (a0_4, a0_5)))))) ((0 : Int), ((0 : Int), ((0 : Int), ((0 : Int), ((0 : Int), [])))))).2.2.1, ((Option.getD (m19 (a0_0, (a0_1, (a0_2, (a0_3, (a0_4, a0_5)))))) ((0 : Int), ((0 : Int), ((0 : Int), ((0 : Int), ((0 : Int), [])))))).2.2.2.1, ((Option.getD (m19 (a0_0, (a0_1, (a0_2, (a0_3, (a0_4, a0_5)))))) ((0 : Int), ((0 : Int), ((0 : Int), ((0 : Int), ((0 : Int), [])))))).2.2.2.2.1, (Option.getD (m19 (a0_0, (a0_1, (a0_2, (a0_3, (a0_4, a0_5)))))) ((0 : Int), ((0 : Int), ((0 : Int), ((0 : Int), ((0 : Int), [])))))).2.2.2.2.2))))))) Bool.false)) then some (n9 Bool.false)
                      else bif (Option.isSome (m19 (a1_0, (a1_1, (a1_2, (a1_3, (a1_4, a1_5))))))) then bif (Option.isSome (m21 (((Option.getD (m19 (a1_0, (a1_1, (a1_2, (a1_3, (a1_4, a1_5)))))) ((0 : Int), ((0 : Int), ((0 : Int), ((0 : Int), ((0 : Int), [])))))).1, ((Option.getD (m19 (a1_0, (a1_1, (a1_2, (a1_3, (a1_4, a1_5)))))) ((0 : Int), ((0 : Int), ((0 : Int), ((0 : Int), ((0 : Int), [])))))).2.1, ((Option.getD (m19 (a1_0, (a1_1, (a1_2, (a1_3, (a1_4, a1_5)))))) ((0 : Int), ((0 : Int), ((0 : Int), ((0 : Int), ((0 : Int), [])))))).2.2.1, ((Option.getD (m19 (a1_0, (a1_1, (a1_2, (a1_3, (a1_4, a1_5)))))) ((0 : Int), ((0 : Int), ((0 : Int), ((0 : Int), ((0 : Int), [])))))).2.2.2.1, ((Option.getD (m19 (a1_0, (a1_1, (a1_2, (a1_3, (a1_4, a1_5)))))) ((0 : Int), ((0 : Int), ((0 : Int), ((0 : Int), ((0 : Int), [])))))).2.2.2.2.1, (Option.getD (m19 (a1_0, (a1_1, (a1_2, (a1_3, (a1_4, a1_5)))))) ((0 : Int), ((0 : Int), ((0 : Int), ((0 : Int), ((0 : Int), [])))))).2.2.2.2.2))))), ((Option.getD (m19 (a1_0, (a1_1, (a1_2, (a1_3, (a1_4, a1_5)))))) ((0 : Int), ((0 : Int), ((0 : Int), ((0 : Int), ((0 : Int), [])))))).1, ((Option.getD (m19 (a1_0, (a1_1, (a1_2, (a1_3, (a1_4, a1_5)))))) ((0 : Int), ((0 : Int), ((0 : Int), ((0 : Int), ((0 : Int), [])))))).2.1, ((Option.getD (m19 (a1_0, (a1_1, (a1_2, (a1_3, (a1_4, a1_5)))))) ((0 : Int), ((0 : Int), ((0 : Int), ((0 : Int), ((0 : Int), [])))))).2.2.1, ((Option.getD (m19 (a1_0, (a1_1, (a1_2, (a1_3, (a1_4, a1_5)))))) ((0 : Int), ((0 : Int), ((0 : Int), ((0 : Int), ((0 : Int), [])))))).2.2.2.1, ((Option.getD (m19 (a1_0, (a1_1, (a1_2, (a1_3, (a1_4, a1_5)))))) ((0 : Int), ((0 : Int), ((0 : Int), ((0 : Int), ((0 : Int), [])))))).2.2.2.2.1, (Option.getD (m19 (a1_0, (a1_1, (a1_2, (a1_3, (a1_4, a1_5)))))) ((0 : Int), ((0 : Int), ((0 : Int), ((0 : Int), ((0 : Int), [])))))).2.2.2.2.2)))))))) then bif (!(Option.getD (m21 (((Option.getD (m19 (a1_0, (a1_1, (a1_2, (a1_3, (a1_4, a1_5)))))) ((0 : Int), ((0 : Int), ((0 : Int), ((0 : Int), ((0 : Int), [])))))).1, ((Option.getD (m19 (a1_0, (a1_1, (a1_2, (a1_3, (a1_4, a1_5)))))) ((0 : Int), ((0 : Int), ((0 : Int), ((0 : Int), ((0 : Int), [])))))).2.1, ((Option.getD (m19 (a1_0, (a1_1, (a1_2, (a1_3, (a1_4, a1_5)))))) ((0 : Int), ((0 : Int), ((0 : Int), ((0 : Int), ((0 : Int), [])))))).2.2.1, ((Option.getD (m19 (a1_0, (a1_1, (a1_2, (a1_3, (a1_4, a1_5)))))) ((0 : Int), ((0 : Int), ((0 : Int), ((0 : Int), ((0 : Int), [])))))).2.2.2.1, ((Option.getD (m19 (a1_0, (a1_1, (a1_2, (a1_3, (a1_4, a1_5)))))) ((0 : Int), ((0 : Int), ((0 : Int), ((0 : Int), ((0 : Int), [])))))).2.2.2.2.1, (Option.getD (m19 (a1_0, (a1_1, (a1_2, (a1_3, (a1_4, a1_5)))))) ((0 : Int), ((0 : Int), ((0 : Int), ((0 : Int), ((0 : Int), [])))))).2.2.2.2.2))))), ((Option.getD (m19 (a1_0, (a1_1, (a1_2, (a1_3, (a1_4, a1_5)))))) ((0 : Int), ((0 : Int), ((0 : Int), ((0 : Int), ((0 : Int), [])))))).1, ((Option.getD (m19 (a1_0, (a1_1, (a1_2, (a1_3, (a1_4, a1_5)))))) ((0 : Int), ((0 : Int), ((0 : Int), ((0 : Int), ((0 : Int), [])))))).2.1, ((Option.getD (m19 (a1_0, (a1_1, (a1_2, (a1_3, (a1_4, a1_5)))))) ((0 : Int), ((0 : Int), ((0 : Int), ((0 : Int), ((0 : Int), [])))))).2.2.1, ((Option.getD (m19 (a1_0, (a1_1, (a1_2, (a1_3, (a1_4, a1_5)))))) ((0 : Int), ((0 : Int), ((0 : Int), ((0 : Int), ((0 : Int), [])))))).2.2.2.1, ((Option.getD (m19 (a1_0, (a1_1, (a1_2, (a1_3, (a1_4, a1_5)))))) ((0 : Int), ((0 : Int), ((0 : Int), ((0 : Int), ((0 : Int), [])))))).2.2.2.2.1, (Option.getD (m19 (a1_0, (a1_1, (a1_2, (a1_3, (a1_4, a1_5)))))) ((0 : Int), ((0 : Int), ((0 : Int), ((0 : Int), ((0 : Int), [])))))).2.2.2.2.2))))))) Bool.false)) then some (n9 Bool.false)
                          else some (n9 Bool.true)
                        else none
                      else none
                    else none
                  else none
                else none
              else none
            else none
          else none
        else none
      else none
    else none
  else none := by kernel_rfl
def g9 (m17 : ((Int × Int × Int × Int × Int × (List Int)) × Int) → Option Int) (m19 : (Int × Int × Int × Int × Int × (List Int)) → Option (Int × Int × Int × Int × Int × (List Int))) (m39 : ((Int × Int × Int × Int × Int × (List Int)) × (Int × Int × Int × Int × Int × (List Int))) → Option Bool) (m40 : ((Int × Int × Int × Int × Int × (List Int)) × (Int × Int × Int × Int × Int × (List Int))) → Option Bool) (m21 : ((Int × Int × Int × Int × Int × (List Int)) × (Int × Int × Int × Int × Int × (List Int))) → Option Bool) (L : Nat) (a0_0 : Int) (a0_1 : Int) (a0_2 : Int) (a0_3 : Int) (a0_4 : Int) (a0_5 : (List Int)) (a1_0 : Int) (a1_1 : Int) (a1_2 : Int) (a1_3 : Int) (a1_4 : Int) (a1_5 : (List Int)) : Option Bool :=
  bif (Option.isSome (m17 ((a0_0, (a0_1, (a0_2, (a0_3, (a0_4, a0_5))))), (1048576 : Int)))) then bif (decide ((Option.getD (m17 ((a0_0, (a0_1, (a0_2, (a0_3, (a0_4, a0_5))))), (1048576 : Int))) (0 : Int)) < (0 : Int))) then some Bool.true
    else bif (Option.isSome (m17 ((a1_0, (a1_1, (a1_2, (a1_3, (a1_4, a1_5))))), (Option.getD (m17 ((a0_0, (a0_1, (a0_2, (a0_3, (a0_4, a0_5))))), (1048576 : Int))) (0 : Int))))) then bif (decide ((Option.getD (m17 ((a1_0, (a1_1, (a1_2, (a1_3, (a1_4, a1_5))))), (Option.getD (m17 ((a0_0, (a0_1, (a0_2, (a0_3, (a0_4, a0_5))))), (1048576 : Int))) (0 : Int)))) (0 : Int)) < (0 : Int))) then some Bool.true
      else bif (Option.isSome (m19 (a0_0, (a0_1, (a0_2, (a0_3, (a0_4, a0_5))))))) then bif (Option.isSome (m19 (a1_0, (a1_1, (a1_2, (a1_3, (a1_4, a1_5))))))) then bif (Option.isSome (m39 (((Option.getD (m19 (a0_0, (a0_1, (a0_2, (a0_3, (a0_4, a0_5)))))) ((0 : Int), ((0 : Int), ((0 : Int), ((0 : Int), ((0 : Int), [])))))).1, ((Option.getD (m19 (a0_0, (a0_1, (a0_2, (a0_3, (a0_4, a0_5)))))) ((0 : Int), ((0 : Int), ((0 : Int), ((0 : Int), ((0 : Int), [])))))).2.1, ((Option.getD (m19 (a0_0, (a0_1, (a0_2, (a0_3, (a0_4, a0_5)))))) ((0 : Int), ((0 : Int), ((0 : Int), ((0 : Int), ((0 : Int), [])))))).2.2.1, ((Option.getD (m19 (a0_0, (a0_1, (a0_2, (a0_3, (a0_4, a0_5)))))) ((0 : Int), ((0 : Int), ((0 : Int), ((0 : Int), ((0 : Int), [])))))).2.2.2.1, ((Option.getD (m19 (a0_0, (a0_1, (a0_2, (a0_3, (a0_4, a0_5)))))) ((0 : Int), ((0 : Int), ((0 : Int), ((0 : Int), ((0 : Int), [])))))).2.2.2.2.1, (Option.getD (m19 (a0_0, (a0_1, (a0_2, (a0_3, (a0_4, a0_5)))))) ((0 : Int), ((0 : Int), ((0 : Int), ((0 : Int), ((0 : Int), [])))))).2.2.2.2.2))))), ((Option.getD (m19 (a1_0, (a1_1, (a1_2, (a1_3, (a1_4, a1_5)))))) ((0 : Int), ((0 : Int), ((0 : Int), ((0 : Int), ((0 : Int), [])))))).1, ((Option.getD (m19 (a1_0, (a1_1, (a1_2, (a1_3, (a1_4, a1_5)))))) ((0 : Int), ((0 : Int), ((0 : Int), ((0 : Int), ((0 : Int), [])))))).2.1, ((Option.getD (m19 (a1_0, (a1_1, (a1_2, (a1_3, (a1_4, a1_5)))))) ((0 : Int), ((0 : Int), ((0 : Int), ((0 : Int), ((0 : Int), [])))))).2.2.1, ((Option.getD (m19 (a1_0, (a1_1, (a1_2, (a1_3, (a1_4, a1_5)))))) ((0 : Int), ((0 : Int), ((0 : Int), ((0 : Int), ((0 : Int), [])))))).2.2.2.1, ((Option.getD (m19 (a1_0, (a1_1, (a1_2, (a1_3, (a1_4, a1_5)))))) ((0 : Int), ((0 : Int), ((0 : Int), ((0 : Int), ((0 : Int), [])))))).2.2.2.2.1, (Option.getD (m19 (a1_0, (a1_1, (a1_2, (a1_3, (a1_4, a1_5)))))) ((0 : Int), ((0 : Int), ((0 : Int), ((0 : Int), ((0 : Int), [])))))).2.2.2.2.2)))))))) then bif (Option.isSome (m19 (a0_0, (a0_1, (a0_2, (a0_3, (a0_4, a0_5))))))) then bif (Option.isSome (m19 (a1_0, (a1_1, (a1_2, (a1_3, (a1_4, a1_5))))))) then bif (Option.isSome (m40 (((Option.getD (m19 (a0_0, (a0_1, (a0_2, (a0_3, (a0_4, a0_5)))))) ((0 : Int), ((0 : Int), ((0 : Int), ((0 : Int), ((0 : Int), [])))))).1, ((Option.getD (m19 (a0_0, (a0_1, (a0_2, (a0_3, (a0_4, a0_5)))))) ((0 : Int), ((0 : Int), ((0 : Int), ((0 : Int), ((0 : Int), [])))))).2.1, ((Option.getD (m19 (a0_0, (a0_1, (a0_2, (a0_3, (a0_4, a0_5)))))) ((0 : Int), ((0 : Int), ((0 : Int), ((0 : Int), ((0 : Int), [])))))).2.2.1, ((Option.getD (m19 (a0_0, (a0_1, (a0_2, (a0_3, (a0_4, a0_5)))))) ((0 : Int), ((0 : Int), ((0 : Int), ((0 : Int), ((0 : Int), [])))))).2.2.2.1, ((Option.getD (m19 (a0_0, (a0_1, (a0_2, (a0_3, (a0_4, a0_5)))))) ((0 : Int), ((0 : Int), ((0 : Int), ((0 : Int), ((0 : Int), [])))))).2.2.2.2.1, (Option.getD (m19 (a0_0, (a0_1, (a0_2, (a0_3, (a0_4, a0_5)))))) ((0 : Int), ((0 : Int), ((0 : Int), ((0 : Int), ((0 : Int), [])))))).2.2.2.2.2))))), ((Option.getD (m19 (a1_0, (a1_1, (a1_2, (a1_3, (a1_4, a1_5)))))) ((0 : Int), ((0 : Int), ((0 : Int), ((0 : Int), ((0 : Int), [])))))).1, ((Option.getD (m19 (a1_0, (a1_1, (a1_2, (a1_3, (a1_4, a1_5)))))) ((0 : Int), ((0 : Int), ((0 : Int), ((0 : Int), ((0 : Int), [])))))).2.1, ((Option.getD (m19 (a1_0, (a1_1, (a1_2, (a1_3, (a1_4, a1_5)))))) ((0 : Int), ((0 : Int), ((0 : Int), ((0 : Int), ((0 : Int), [])))))).2.2.1, ((Option.getD (m19 (a1_0, (a1_1, (a1_2, (a1_3, (a1_4, a1_5)))))) ((0 : Int), ((0 : Int), ((0 : Int), ((0 : Int), ((0 : Int), [])))))).2.2.2.1, ((Option.getD (m19 (a1_0, (a1_1, (a1_2, (a1_3, (a1_4, a1_5)))))) ((0 : Int), ((0 : Int), ((0 : Int), ((0 : Int), ((0 : Int), [])))))).2.2.2.2.1, (Option.getD (m19 (a1_0, (a1_1, (a1_2, (a1_3, (a1_4, a1_5)))))) ((0 : Int), ((0 : Int), ((0 : Int), ((0 : Int), ((0 : Int), [])))))).2.2.2.2.2)))))))) then bif (!((Option.getD (m40 (((Option.getD (m19 (a0_0, (a0_1, (a0_2, (a0_3, (a0_4, a0_5)))))) ((0 : Int), ((0 : Int), ((0 : Int), ((0 : Int), ((0 : Int), [])))))).1, ((Option.getD (m19 (a0_0, (a0_1, (a0_2, (a0_3, (a0_4, a0_5)))))) ((0 : Int), ((0 : Int), ((0 : Int), ((0 : Int), ((0 : Int), [])))))).2.1, ((Option.getD (m19 (a0_0, (a0_1, (a0_2, (a0_3, (a0_4, a0_5)))))) ((0 : Int), ((0 : Int), ((0 : Int), ((0 : Int), ((0 : Int), [])))))).2.2.1, ((Option.getD (m19 (a0_0, (a0_1, (a0_2, (a0_3, (a0_4, a0_5)))))) ((0 : Int), ((0 : Int), ((0 : Int), ((0 : Int), ((0 : Int), [])))))).2.2.2.1, ((Option.getD (m19 (a0_0, (a0_1, (a0_2, (a0_3, (a0_4, a0_5)))))) ((0 : Int), ((0 : Int), ((0 : Int), ((0 : Int), ((0 : Int), [])))))).2.2.2.2.1, (Option.getD (m19 (a0_0, (a0_1, (a0_2, (a0_3, (a0_4, a0_5)))))) ((0 : Int), ((0 : Int), ((0 : Int), ((0 : Int), ((0 : Int), [])))))).2.2.2.2.2))))), ((Option.getD (m19 (a1_0, (a1_1, (a1_2, (a1_3, (a1_4, a1_5)))))) ((0 : Int), ((0 : Int), ((0 : Int), ((0 : Int), ((0 : Int), [])))))).1, ((Option.getD (m19 (a1_0, (a1_1, (a1_2, (a1_3, (a1_4, a1_5)))))) ((0 : Int), ((0 : Int), ((0 : Int), ((0 : Int), ((0 : Int), [])))))).2.1, ((Option.getD (m19 (a1_0, (a1_1, (a1_2, (a1_3, (a1_4, a1_5)))))) ((0 : Int), ((0 : Int), ((0 : Int), ((0 : Int), ((0 : Int), [])))))).2.2.1, ((Option.getD (m19 (a1_0, (a1_1, (a1_2, (a1_3, (a1_4, a1_5)))))) ((0 : Int), ((0 : Int), ((0 : Int), ((0 : Int), ((0 : Int), [])))))).2.2.2.1, ((Option.getD (m19 (a1_0, (a1_1, (a1_2, (a1_3, (a1_4, a1_5)))))) ((0 : Int), ((0 : Int), ((0 : Int), ((0 : Int), ((0 : Int), [])))))).2.2.2.2.1, (Option.getD (m19 (a1_0, (a1_1, (a1_2, (a1_3, (a1_4, a1_5)))))) ((0 : Int), ((0 : Int), ((0 : Int), ((0 : Int), ((0 : Int), [])))))).2.2.2.2.2))))))) Bool.false) == (Option.getD (m39 (((Option.getD (m19 (a0_0, (a0_1, (a0_2, (a0_3, (a0_4, a0_5)))))) ((0 : Int), ((0 : Int), ((0 : Int), ((0 : Int), ((0 : Int), [])))))).1, ((Option.getD (m19 (a0_0, (a0_1, (a0_2, (a0_3, (a0_4, a0_5)))))) ((0 : Int), ((0 : Int), ((0 : Int), ((0 : Int), ((0 : Int), [])))))).2.1, ((Option.getD (m19 (a0_0, (a0_1, (a0_2, (a0_3, (a0_4, a0_5)))))) ((0 : Int), ((0 : Int), ((0 : Int), ((0 : Int), ((0 : Int), [])))))).2.2.1, ((Option.getD (m19 (a0_0, (a0_1, (a0_2, (a0_3, (a0_4, a0_5)))))) ((0 : Int), ((0 : Int), ((0 : Int), ((0 : Int), ((0 : Int), [])))))).2.2.2.1, ((Option.getD (m19 (a0_0, (a0_1, (a0_2, (a0_3, (a0_4, a0_5)))))) ((0 : Int), ((0 : Int), ((0 : Int), ((0 : Int), ((0 : Int), [])))))).2.2.2.2.1, (Option.getD (m19 (a0_0, (a0_1, (a0_2, (a0_3, (a0_4, a0_5)))))) ((0 : Int), ((0 : Int), ((0 : Int), ((0 : Int), ((0 : Int), [])))))).2.2.2.2.2))))), ((Option.getD (m19 (a1_0, (a1_1, (a1_2, (a1_3, (a1_4, a1_5)))))) ((0 : Int), ((0 : Int), ((0 : Int), ((0 : Int), ((0 : Int), [])))))).1, ((Option.getD (m19 (a1_0, (a1_1, (a1_2, (a1_3, (a1_4, a1_5)))))) ((0 : Int), ((0 : Int), ((0 : Int), ((0 : Int), ((0 : Int), [])))))).2.1, ((Option.getD (m19 (a1_0, (a1_1, (a1_2, (a1_3, (a1_4, a1_5)))))) ((0 : Int), ((0 : Int), ((0 : Int), ((0 : Int), ((0 : Int), [])))))).2.2.1, ((Option.getD (m19 (a1_0, (a1_1, (a1_2, (a1_3, (a1_4, a1_5)))))) ((0 : Int), ((0 : Int), ((0 : Int), ((0 : Int), ((0 : Int), [])))))).2.2.2.1, ((Option.getD (m19 (a1_0, (a1_1, (a1_2, (a1_3, (a1_4, a1_5)))))) ((0 : Int), ((0 : Int), ((0 : Int), ((0 : Int), ((0 : Int), [])))))).2.2.2.2.1, (Option.getD (m19 (a1_0, (a1_1, (a1_2, (a1_3, (a1_4, a1_5)))))) ((0 : Int), ((0 : Int), ((0 : Int), ((0 : Int), ((0 : Int), [])))))).2.2.2.2.2))))))) Bool.false))) then some Bool.false
                  else bif (Option.isSome (m19 (a0_0, (a0_1, (a0_2, (a0_3, (a0_4, a0_5))))))) then bif (Option.isSome (m21 (((Option.getD (m19 (a0_0, (a0_1, (a0_2, (a0_3, (a0_4, a0_5)))))) ((0 : Int), ((0 : Int), ((0 : Int), ((0 : Int), ((0 : Int), [])))))).1, ((Option.getD (m19 (a0_0, (a0_1, (a0_2, (a0_3, (a0_4, a0_5)))))) ((0 : Int), ((0 : Int), ((0 : Int), ((0 : Int), ((0 : Int), [])))))).2.1, ((Option.getD (m19 (a0_0, (a0_1, (a0_2, (a0_3, (a0_4, a0_5)))))) ((0 : Int), ((0 : Int), ((0 : Int), ((0 : Int), ((0 : Int), [])))))).2.2.1, ((Option.getD (m19 (a0_0, (a0_1, (a0_2, (a0_3, (a0_4, a0_5)))))) ((0 : Int), ((0 : Int), ((0 : Int), ((0 : Int), ((0 : Int), [])))))).2.2.2.1, ((Option.getD (m19 (a0_0, (a0_1, (a0_2, (a0_3, (a0_4, a0_5)))))) ((0 : Int), ((0 : Int), ((0 : Int), ((0 : Int), ((0 : Int), [])))))).2.2.2.2.1, (Option.getD (m19 (a0_0, (a0_1, (a0_2, (a0_3, (a0_4, a0_5)))))) ((0 : Int), ((0 : Int), ((0 : Int), ((0 : Int), ((0 : Int), [])))))).2.2.2.2.2))))), ((Option.getD (m19 (a0_0, (a0_1, (a0_2, (a0_3, (a0_4, a0_5)))))) ((0 : Int), ((0 : Int), ((0 : Int), ((0 : Int), ((0 : Int), [])))))).1, ((Option.getD (m19 (a0_0, (a0_1, (a0_2, (a0_3, (a0_4, a0_5)))))) ((0 : Int), ((0 : Int), ((0 : Int), ((0 : Int), ((0 : Int), [])))))).2.1, ((Option.getD (m19 (a0_0, (a0_1, (a0_2, (a0_3, (a0_4, a0_5)))))) ((0 : Int), ((0 : Int), ((0 : Int), ((0 : Int), ((0 : Int), [])))))).2.2.1, ((Option.getD (m19 (a0_0, (a0_1, (a0_2, (a0_3, (a0_4, a0_5)))))) ((0 : Int), ((0 : Int), ((0 : Int), ((0 : Int), ((0 : Int), [])))))).2.2.2.1, ((Option.getD (m19 (a0_0, (a0_1, (a0_2, (a0_3, (a0_4, a0_5)))))) ((0 : Int), ((0 : Int), ((0 : Int), ((0 : Int), ((0 : Int), [])))))).2.2.2.2.1, (Option.getD (m19 (a0_0, (a0_1, (a0_2, (a0_3, (a0_4, a0_5)))))) ((0 : Int), ((0 : Int), ((0 : Int), ((0 : Int), ((0 : Int), [])))))).2.2.2.2.2)))))))) then bif (!(Option.getD (m21 (((Option.getD (m19 (a0_0, (a0_1, (a0_2, (a0_3, (a0_4, a0_5)))))) ((0 : Int), ((0 : Int), ((0 : Int), ((0 : Int), ((0 : Int), [])))))).1, ((Option.getD (m19 (a0_0, (a0_1, (a0_2, (a0_3, (a0_4, a0_5)))))) ((0 : Int), ((0 : Int), ((0 : Int), ((0 : Int), ((0 : Int), [])))))).2.1, ((Option.getD (m19 (a0_0, (a0_1, (a0_2, (a0_3, (a0_4, a0_5)))))) ((0 : Int), ((0 : Int), ((0 : Int), ((0 : Int), ((0 : Int), [])))))).2.2.1, ((Option.getD (m19 (a0_0, (a0_1, (a0_2, (a0_3, (a0_4, a0_5)))))) ((0 : Int), ((0 : Int), ((0 : Int), ((0 : Int), ((0 : Int), [])))))).2.2.2.1, ((Option.getD (m19 (a0_0, (a0_1, (a0_2, (a0_3, (a0_4, a0_5)))))) ((0 : Int), ((0 : Int), ((0 : Int), ((0 : Int), ((0 : Int), [])))))).2.2.2.2.1, (Option.getD (m19 (a0_0, (a0_1, (a0_2, (a0_3, (a0_4, a0_5)))))) ((0 : Int), ((0 : Int), ((0 : Int), ((0 : Int), ((0 : Int), [])))))).2.2.2.2.2))))), ((Option.getD (m19 (a0_0, (a0_1, (a0_2, (a0_3, (a0_4, a0_5)))))) ((0 : Int), ((0 : Int), ((0 : Int), ((0 : Int), ((0 : Int), [])))))).1, ((Option.getD (m19 (a0_0, (a0_1, (a0_2, (a0_3, (a0_4, a0_5)))))) ((0 : Int), ((0 : Int), ((0 : Int), ((0 : Int), ((0 : Int), [])))))).2.1, ((Option.getD (m19 (a0_0, (a0_1, (a0_2, (a0_3, (a0_4, a0_5)))))) ((0 : Int), ((0 : Int), ((0 : Int), ((0 : Int), ((0 : Int), [])))))).2.2.1, ((Option.getD (m19 (a0_0, (a0_1, (a0_2, (a0_3, (a0_4, a0_5)))))) ((0 : Int), ((0 : Int), ((0 : Int), ((0 : Int), ((0 : Int), [])))))).2.2.2.1, ((Option.getD (m19 (a0_0, (a0_1, (a0_2, (a0_3, (a0_4, a0_5)))))) ((0 : Int), ((0 : Int), ((0 : Int), ((0 : Int), ((0 : Int), [])))))).2.2.2.2.1, (Option.getD (m19 (a0_0, (a0_1, (a0_2, (a0_3, (a0_4, a0_5)))))) ((0 : Int), ((0 : Int), ((0 : Int), ((0 : Int), ((0 : Int), [])))))).2.2.2.2.2))))))) Bool.false)) then some Bool.false
                      else bif (Option.isSome (m19 (a1_0, (a1_1, (a1_2, (a1_3, (a1_4, a1_5))))))) then bif (Option.isSome (m21 (((Option.getD (m19 (a1_0, (a1_1, (a1_2, (a1_3, (a1_4, a1_5)))))) ((0 : Int), ((0 : Int), ((0 : Int), ((0 : Int), ((0 : Int), [])))))).1, ((Option.getD (m19 (a1_0, (a1_1, (a1_2, (a1_3, (a1_4, a1_5)))))) ((0 : Int), ((0 : Int), ((0 : Int), ((0 : Int), ((0 : Int), [])))))).2.1, ((Option.getD (m19 (a1_0, (a1_1, (a1_2, (a1_3, (a1_4, a1_5)))))) ((0 : Int), ((0 : Int), ((0 : Int), ((0 : Int), ((0 : Int), [])))))).2.2.1, ((Option.getD (m19 (a1_0, (a1_1, (a1_2, (a1_3, (a1_4, a1_5)))))) ((0 : Int), ((0 : Int), ((0 : Int), ((0 : Int), ((0 : Int), [])))))).2.2.2.1, ((Option.getD (m19 (a1_0, (a1_1, (a1_2, (a1_3, (a1_4, a1_5)))))) ((0 : Int), ((0 : Int), ((0 : Int), ((0 : Int), ((0 : Int), [])))))).2.2.2.2.1, (Option.getD (m19 (a1_0, (a1_1, (a1_2, (a1_3, (a1_4, a1_5)))))) ((0 : Int), ((0 : Int), ((0 : Int), ((0 : Int), ((0 : Int), [])))))).2.2.2.2.2))))), ((Option.getD (m19 (a1_0, (a1_1, (a1_2, (a1_3, (a1_4, a1_5)))))) ((0 : Int), ((0 : Int), ((0 : Int), ((0 : Int), ((0 : Int), [])))))).1, ((Option.getD (m19 (a1_0, (a1_1, (a1_2, (a1_3, (a1_4, a1_5)))))) ((0 : Int), ((0 : Int), ((0 : Int), ((0 : Int), ((0 : Int), [])))))).2.1, ((Option.getD (m19 (a1_0, (a1_1, (a1_2, (a1_3, (a1_4, a1_5)))))) ((0 : Int), ((0 : Int), ((0 : Int), ((0 : Int), ((0 : Int), [])))))).2.2.1, ((Option.getD (m19 (a1_0, (a1_1, (a1_2, (a1_3, (a1_4, a1_5)))))) ((0 : Int), ((0 : Int), ((0 : Int), ((0 : Int), ((0 : Int), [])))))).2.2.2.1, ((Option.getD (m19 (a1_0, (a1_1, (a1_2, (a1_3, (a1_4, a1_5)))))) ((0 : Int), ((0 : Int), ((0 : Int), ((0 : Int), ((0 : Int), [])))))).2.2.2.2.1, (Option.getD (m19 (a1_0, (a1_1, (a1_2, (a1_3, (a1_4, a1_5)))))) ((0 : Int), ((0 : Int), ((0 : Int), ((0 : Int), ((0 : Int), [])))))).2.2.2.2.2)))))))) then bif (!(Option.getD (m21 (((Option.getD (m19 (a1_0, (a1_1, (a1_2, (a1_3, (a1_4, a1_5)))))) ((0 : Int), ((0 : Int), ((0 : Int), ((0 : Int), ((0 : Int), [])))))).1, ((Option.getD (m19 (a1_0, (a1_1, (a1_2, (a1_3, (a1_4, a1_5)))))) ((0 : Int), ((0 : Int), ((0 : Int), ((0 : Int), ((0 : Int), [])))))).2.1, ((Option.getD (m19 (a1_0, (a1_1, (a1_2, (a1_3, (a1_4, a1_5)))))) ((0 : Int), ((0 : Int), ((0 : Int), ((0 : Int), ((0 : Int), [])))))).2.2.1, ((Option.getD (m19 (a1_0, (a1_1, (a1_2, (a1_3, (a1_4, a1_5)))))) ((0 : Int), ((0 : Int), ((0 : Int), ((0 : Int), ((0 : Int), [])))))).2.2.2.1, ((Option.getD (m19 (a1_0, (a1_1, (a1_2, (a1_3, (a1_4, a1_5)))))) ((0 : Int), ((0 : Int), ((0 : Int), ((0 : Int), ((0 : Int), [])))))).2.2.2.2.1, (Option.getD (m19 (a1_0, (a1_1, (a1_2, (a1_3, (a1_4, a1_5)))))) ((0 : Int), ((0 : Int), ((0 : Int), ((0 : Int), ((0 : Int), [])))))).2.2.2.2.2))))), ((Option.getD (m19 (a1_0, (a1_1, (a1_2, (a1_3, (a1_4, a1_5)))))) ((0 : Int), ((0 : Int), ((0 : Int), ((0 : Int), ((0 : Int), [])))))).1, ((Option.getD (m19 (a1_0, (a1_1, (a1_2, (a1_3, (a1_4, a1_5)))))) ((0 : Int), ((0 : Int), ((0 : Int), ((0 : Int), ((0 : Int), [])))))).2.1, ((Option.getD (m19 (a1_0, (a1_1, (a1_2, (a1_3, (a1_4, a1_5)))))) ((0 : Int), ((0 : Int), ((0 : Int), ((0 : Int), ((0 : Int), [])))))).2.2.1, ((Option.getD (m19 (a1_0, (a1_1, (a1_2, (a1_3, (a1_4, a1_5)))))) ((0 : Int), ((0 : Int), ((0 : Int), ((0 : Int), ((0 : Int), [])))))).2.2.2.1, ((Option.getD (m19 (a1_0, (a1_1, (a1_2, (a1_3, (a1_4, a1_5)))))) ((0 : Int), ((0 : Int), ((0 : Int), ((0 : Int), ((0 : Int), [])))))).2.2.2.2.1, (Option.getD (m19 (a1_0, (a1_1, (a1_2, (a1_3, (a1_4, a1_5)))))) ((0 : Int), ((0 : Int), ((0 : Int), ((0 : Int), ((0 : Int), [])))))).2.2.2.2.2))))))) Bool.false)) then some Bool.false
                          else some Bool.true
                        else none
                      else none
                    else none
                  else none
                else none
              else none
            else none
          else none
        else none
      else none
    else none
  else none
theorem e9 (m17 : ((Int × Int × Int × Int × Int × (List Int)) × Int) → Option Int) (m19 : (Int × Int × Int × Int × Int × (List Int)) → Option (Int × Int × Int × Int × Int × (List Int))) (m39 : ((Int × Int × Int × Int × Int × (List Int)) × (Int × Int × Int × Int × Int × (List Int))) → Option Bool) (m40 : ((Int × Int × Int × Int × Int × (List Int)) × (Int × Int × Int × Int × Int × (List Int))) → Option Bool) (m21 : ((Int × Int × Int × Int × Int × (List Int)) × (Int × Int × Int × Int × Int × (List Int))) → Option Bool) (L : Nat) (a0_0 : Int) (a0_1 : Int) (a0_2 : Int) (a0_3 : Int) (a0_4 : Int) (a0_5 : (List Int)) (a1_0 : Int) (a1_1 : Int) (a1_2 : Int) (a1_3 : Int) (a1_4 : Int) (a1_5 : (List Int)) : evF prog (ev9 m17 m19 m39 m40 m21) (loopN L) f9 (a9.enc ((a0_0, a0_1, a0_2, a0_3, a0_4, a0_5), (a1_0, a1_1, a1_2, a1_3, a1_4, a1_5))) = (g9 m17 m19 m39 m40 m21 L a0_0 a0_1 a0_2 a0_3 a0_4 a0_5 a1_0 a1_1 a1_2 a1_3 a1_4 a1_5).map n9 := by
  rw [i9]; simp only [g9, map_bif, Option.map_some, Option.map_none]
theorem s9 (m17 : ((Int × Int × Int × Int × Int × (List Int)) × Int) → Option Int) (m19 : (Int × Int × Int × Int × Int × (List Int)) → Option (Int × Int × Int × Int × Int × (List Int))) (m39 : ((Int × Int × Int × Int × Int × (List Int)) × (Int × Int × Int × Int × Int × (List Int))) → Option Bool) (m40 : ((Int × Int × Int × Int × Int × (List Int)) × (Int × Int × Int × Int × Int × (List Int))) → Option Bool) (m21 : ((Int × Int × Int × Int × Int × (List Int)) × (Int × Int × Int × Int × Int × (List Int))) → Option Bool) (h17 : Sat prog cxT 17 (c17 m17)) (h19 : Sat prog cxT 19 (c19 m19)) (h39 : Sat prog cxT 39 (c39 m39)) (h40 : Sat prog cxT 40 (c40 m40)) (h21 : Sat prog cxT 21 (c21 m21)) (m : ((Int × Int × Int × Int × Int × (List Int)) × (Int × Int × Int × Int × Int × (List Int))) → Option Bool) (hm : ∀ (x : ((Int × Int × Int × Int × Int × (List Int)) × (Int × Int × Int × Int × Int × (List Int)))) t, m x = some t → ∃ L, g9 m17 m19 m39 m40 m21 L x.1.1 x.1.2.1 x.1.2.2.1 x.1.2.2.2.1 x.1.2.2.2.2.1 x.1.2.2.2.2.2 x.2.1 x.2.2.1 x.2.2.2.1 x.2.2.2.2.1 x.2.2.2.2.2.1 x.2.2.2.2.2.2 = some t) : Sat prog cxT 9 (c9 m) :=
  sat_t cxT_ok cxT_pok (by rfl) (fn := f9) rfl a9 n9 dd9 m (ev9 m17 m19 m39 m40 m21) (kok_cons h17 (kok_cons h19 (kok_cons h39 (kok_cons h40 (kok_cons h21 kok_nil))))) kwok_nil (fun L x => g9 m17 m19 m39 m40 m21 L x.1.1 x.1.2.1 x.1.2.2.1 x.1.2.2.2.1 x.1.2.2.2.2.1 x.1.2.2.2.2.2 x.2.1 x.2.2.1 x.2.2.2.1 x.2.2.2.2.1 x.2.2.2.2.2.1 x.2.2.2.2.2.2) (fun L x => e9 m17 m19 m39 m40 m21 L x.1.1 x.1.2.1 x.1.2.2.1 x.1.2.2.2.1 x.1.2.2.2.2.1 x.1.2.2.2.2.2 x.2.1 x.2.2.1 x.2.2.2.1 x.2.2.2.2.1 x.2.2.2.2.2.1 x.2.2.2.2.2.2) hm hs9
/-! loop.example/g00222/spec.SamePacket -/
def ev39 : Env cxT := { Kc := kcOf [], Kw := kwOf [], lv := fun i => [], xv := fun i => none }
theorem i39 (L : Nat) (a0_0 : Int) (a0_1 : Int) (a0_2 : Int) (a0_3 : Int) (a0_4 : Int) (a0_5 : (List Int)) (a1_0 : Int) (a1_1 : Int) (a1_2 : Int) (a1_3 : Int) (a1_4 : Int) (a1_5 : (List Int)) : evF prog ev39 (loopN L) f39 (a39.enc ((a0_0, a0_1, a0_2, a0_3, a0_4, a0_5), (a1_0, a1_1, a1_2, a1_3, a1_4, a1_5))) =
  bif (a0_0 == a1_0) then bif (a0_1 == a1_1) then bif (a0_2 == a1_2) then bif (a0_3 == a1_3) then bif (a0_4 == a1_4) then some (n39 ((ByteArray.toList (strV (flatVals cxT (5 : Nat) a0_5))) == (ByteArray.toList (strV (flatVals cxT (5 : Nat) a1_5)))))
          else some (n39 Bool.false)
        else some (n39 Bool.false)
      else some (n39 Bool.false)
    else some (n39 Bool.false)
  else some (n39 Bool.false) := by kernel_rfl
def g39 (L : Nat) (a0_0 : Int) (a0_1 : Int) (a0_2 : Int) (a0_3 : Int) (a0_4 : Int) (a0_5 : (List Int)) (a1_0 : Int) (a1_1 : Int) (a1_2 : Int) (a1_3 : Int) (a1_4 : Int) (a1_5 : (List Int)) : Option Bool :=
  bif (a0_0 == a1_0) then bif (a0_1 == a1_1) then bif (a0_2 == a1_2) then bif (a0_3 == a1_3) then bif (a0_4 == a1_4) then some ((ByteArray.toList (strV (flatVals cxT (5 : Nat) a0_5))) == (ByteArray.toList (strV (flatVals cxT (5 : Nat) a1_5))))
          else some Bool.false
        else some Bool.false
      else some Bool.false
    else some Bool.false
  else some Bool.false
theorem e39 (L : Nat) (a0_0 : Int) (a0_1 : Int) (a0_2 : Int) (a0_3 : Int) (a0_4 : Int) (a0_5 : (List Int)) (a1_0 : Int) (a1_1 : Int) (a1_2 : Int) (a1_3 : Int) (a1_4 : Int) (a1_5 : (List Int)) : evF prog ev39 (loopN L) f39 (a39.enc ((a0_0, a0_1, a0_2, a0_3, a0_4, a0_5), (a1_0, a1_1, a1_2, a1_3, a1_4, a1_5))) = (g39 L a0_0 a0_1 a0_2 a0_3 a0_4 a0_5 a1_0 a1_1 a1_2 a1_3 a1_4 a1_5).map n39 := by
  rw [i39]; simp only [g39, map_bif, Option.map_some, Option.map_none]
theorem s39 (m : ((Int × Int × Int × Int × Int × (List Int)) × (Int × Int × Int × Int × Int × (List Int))) → Option Bool) (hm : ∀ (x : ((Int × Int × Int × Int × Int × (List Int)) × (Int × Int × Int × Int × Int × (List Int)))) t, m x = some t → ∃ L, g39 L x.1.1 x.1.2.1 x.1.2.2.1 x.1.2.2.2.1 x.1.2.2.2.2.1 x.1.2.2.2.2.2 x.2.1 x.2.2.1 x.2.2.2.1 x.2.2.2.2.1 x.2.2.2.2.2.1 x.2.2.2.2.2.2 = some t) : Sat prog cxT 39 (c39 m) :=
  sat_t cxT_ok cxT_pok (by rfl) (fn := f39) rfl a39 n39 dd39 m ev39 kok_nil kwok_nil (fun L x => g39 L x.1.1 x.1.2.1 x.1.2.2.1 x.1.2.2.2.1 x.1.2.2.2.2.1 x.1.2.2.2.2.2 x.2.1 x.2.2.1 x.2.2.2.1 x.2.2.2.2.1 x.2.2.2.2.2.1 x.2.2.2.2.2.2) (fun L x => e39 L x.1.1 x.1.2.1 x.1.2.2.1 x.1.2.2.2.1 x.1.2.2.2.2.1 x.1.2.2.2.2.2 x.2.1 x.2.2.1 x.2.2.2.1 x.2.2.2.2.1 x.2.2.2.2.2.1 x.2.2.2.2.2.2) hm hs39
/-! loop.example/g00222/impl.SamePacket -/
def ev40 (m70 : ((List Int) × (List Int)) → Option Bool) : Env cxT := { Kc := kcOf [(70, c70 m70)], Kw := kwOf [], lv := fun i => [], xv := fun i => none }
theorem i40 (m70 : ((List Int) × (List Int)) → Option Bool) (L : Nat) (a0_0 : Int) (a0_1 : Int) (a0_2 : Int) (a0_3 : Int) (a0_4 : Int) (a0_5 : (List Int)) (a1_0 : Int) (a1_1 : Int) (a1_2 : Int) (a1_3 : Int) (a1_4 : Int) (a1_5 : (List Int)) : evF prog (ev40 m70) (loopN L) f40 (a40.enc ((a0_0, a0_1, a0_2, a0_3, a0_4, a0_5), (a1_0, a1_1, a1_2, a1_3, a1_4, a1_5))) =
  bif (a0_0 == a1_0) then bif (a0_1 == a1_1) then bif (a0_2 == a1_2) then bif (a0_3 == a1_3) then bif (a0_4 == a1_4) then bif (Option.isSome (m70 (a0_5, a1_5))) then some (n40 (Option.getD (m70 (a0_5, a1_5)) Bool.false))
            else none
          else some (n40 Bool.false)
        else some (n40 Bool.false)
      else some (n40 Bool.false)
    else some (n40 Bool.false)
  else some (n40 Bool.false) := by kernel_rfl
def g40 (m70 : ((List Int) × (List Int)) → Option Bool) (L : Nat) (a0_0 : Int) (a0_1 : Int) (a0_2 : Int) (a0_3 : Int) (a0_4 : Int) (a0_5 : (List Int)) (a1_0 : Int) (a1_1 : Int) (a1_2 : Int) (a1_3 : Int) (a1_4 : Int) (a1_5 : (List Int)) : Option Bool :=
  bif (a0_0 == a1_0) then bif (a0_1 == a1_1) then bif (a0_2 == a1_2) then bif (a0_3 == a1_3) then bif (a0_4 == a1_4) then bif (Option.isSome (m70 (a0_5, a1_5))) then some (Option.getD (m70 (a0_5, a1_5)) Bool.false)
            else none
          else some Bool.false
        else some Bool.false
      else some Bool.false
    else some Bool.false
  else some Bool.false
theorem e40 (m70 : ((List Int) × (List Int)) → Option Bool) (L : Nat) (a0_0 : Int) (a0_1 : Int) (a0_2 : Int) (a0_3 : Int) (a0_4 : Int) (a0_5 : (List Int)) (a1_0 : Int) (a1_1 : Int) (a1_2 : Int) (a1_3 : Int) (a1_4 : Int) (a1_5 : (List Int)) : evF prog (ev40 m70) (loopN L) f40 (a40.enc ((a0_0, a0_1, a0_2, a0_3, a0_4, a0_5), (a1_0, a1_1, a1_2, a1_3, a1_4, a1_5))) = (g40 m70 L a0_0 a0_1 a0_2 a0_3 a0_4 a0_5 a1_0 a1_1 a1_2 a1_3 a1_4 a1_5).map n40 := by
  rw [i40]; simp only [g40, map_bif, Option.map_some, Option.map_none]
theorem s40 (m70 : ((List Int) × (List Int)) → Option Bool) (h70 : Sat prog cxT 70 (c70 m70)) (m : ((Int × Int × Int × Int × Int × (List Int)) × (Int × Int × Int × Int × Int × (List Int))) → Option Bool) (hm : ∀ (x : ((Int × Int × Int × Int × Int × (List Int)) × (Int × Int × Int × Int × Int × (List Int)))) t, m x = some t → ∃ L, g40 m70 L x.1.1 x.1.2.1 x.1.2.2.1 x.1.2.2.2.1 x.1.2.2.2.2.1 x.1.2.2.2.2.2 x.2.1 x.2.2.1 x.2.2.2.1 x.2.2.2.2.1 x.2.2.2.2.2.1 x.2.2.2.2.2.2 = some t) : Sat prog cxT 40 (c40 m) :=
  sat_t cxT_ok cxT_pok (by rfl) (fn := f40) rfl a40 n40 dd40 m (ev40 m70) (kok_cons h70 kok_nil) kwok_nil (fun L x => g40 m70 L x.1.1 x.1.2.1 x.1.2.2.1 x.1.2.2.2.1 x.1.2.2.2.2.1 x.1.2.2.2.2.2 x.2.1 x.2.2.1 x.2.2.2.1 x.2.2.2.2.1 x.2.2.2.2.2.1 x.2.2.2.2.2.2) (fun L x => e40 m70 L x.1.1 x.1.2.1 x.1.2.2.1 x.1.2.2.2.1 x.1.2.2.2.2.1 x.1.2.2.2.2.2 x.2.1 x.2.2.1 x.2.2.2.1 x.2.2.2.2.1 x.2.2.2.2.2.1 x.2.2.2.2.2.2) hm hs40
/-! bytes.Equal -/
def ev70 : Env cxT := { Kc := kcOf [], Kw := kwOf [], lv := fun i => [], xv := fun i => none }
theorem i70 (L : Nat) (a0 : (List Int)) (a1 : (List Int)) : evF prog ev70 (loopN L) f70 (a70.enc (a0, a1)) =
  some (n70 ((ByteArray.toList (strV (flatVals cxT (5 : Nat) a0))) == (ByteArray.toList (strV (flatVals cxT (5 : Nat) a1))))) := by kernel_rfl
def g70 (L : Nat) (a0 : (List Int)) (a1 : (List Int)) : Option Bool :=
  some ((ByteArray.toList (strV (flatVals cxT (5 : Nat) a0))) == (ByteArray.toList (strV (flatVals cxT (5 : Nat) a1))))
theorem e70 (L : Nat) (a0 : (List Int)) (a1 : (List Int)) : evF prog ev70 (loopN L) f70 (a70.enc (a0, a1)) = (g70 L a0 a1).map n70 := by
  rw [i70]; simp only [g70, map_bif, Option.map_some, Option.map_none]
theorem s70 (m : ((List Int) × (List Int)) → Option Bool) (hm : ∀ (x : ((List Int) × (List Int))) t, m x = some t → ∃ L, g70 L x.1 x.2 = some t) : Sat prog cxT 70 (c70 m) :=
  sat_t cxT_ok cxT_pok (by rfl) (fn := f70) rfl a70 n70 dd70 m ev70 kok_nil kwok_nil (fun L x => g70 L x.1 x.2) (fun L x => e70 L x.1 x.2) hm hs70
end Go.Proofs.Try

set_option maxHeartbeats 0
set_option linter.unusedVariables false
set_option linter.unusedSimpArgs false
namespace Go.Proofs.Try
open Go Go.VM Go.RowKit

/-! toByteS -/
def m29 (a : List Int) : Option (List Int) := if a.length ≤ 1000000000 then some a else none
theorem p29 (L : Nat) (a : List Int) (ha : a.length ≤ 1000000000) (k : List Int → Option (List Int)) : ∀ (n i : Nat) (o : List Int), o.length = a.length → i ≤ a.length → a.length < n + i → o.take i = a.take i → l29_0 L a n o i k = k a
  | 0, i, o, _, h2, h3, _ => by omega
  | n + 1, i, o, h1, h2, h3, h4 => by
    unfold l29_0
    by_cases hi : i < a.length
    · simp (disch := omega) only [dt, df, wi, cond_true, Bool.and_self, Int.toNat_natCast]
      have := p29 L a ha k n (i + 1) (o.set i (a.getD i 0)) (by rw [List.length_set]; exact h1) (by omega) (by omega) (by
        rw [List.take_add_one, List.take_add_one, List.take_set_of_le (Nat.le_refl _), h4]
        congr 1
        rw [List.getElem?_set_self (by omega), List.getElem?_eq_getElem hi]
        simp [List.getD, List.getElem?_eq_getElem hi])
      simpa using this
    · simp (disch := omega) only [dt, df, cond_false]
      have hil : i = a.length := by omega
      rw [hil, List.take_length, ← h1, List.take_length] at h4
      rw [h4]
theorem sat29 : Sat prog cxT 29 (c29 m29) := s29 m29 fun x t h => by
  unfold m29 at h
  split at h
  · rename_i ha
    cases h
    refine ⟨x.length + 1, ?_⟩
    unfold g29
    simp (disch := omega) only [dt, cond_true, Bool.and_self, Int.toNat_natCast]
    exact p29 _ x ha _ _ 0 _ (by simp) (by omega) (by omega) rfl
  · cases h

/-! eqByteS -/
def m32 (x : List Int × List Int) : Option Bool := if x.1.length ≤ 1000000000000 ∧ x.2.length ≤ 1000000000000 then some (decide (x.1 = x.2)) else none
theorem p32 (L : Nat) (a b : List Int) (hl : a.length = b.length) (ha : a.length ≤ 1000000000000) (k : Option Bool) : ∀ (n i : Nat), i ≤ a.length → a.length < n + i →
    l32_0 L a b n i k = if a.drop i = b.drop i then k else some false
  | 0, i, h2, h3 => by omega
  | n + 1, i, h2, h3 => by
    unfold l32_0
    by_cases hi : i < a.length
    · simp (disch := omega) only [dt, df, wi, cond_true, Bool.and_self, Int.toNat_natCast]
      rw [drop_cons 0 hi, drop_cons 0 (show i < b.length by omega)]
      have := p32 L a b hl ha k n (i + 1) (by omega) (by omega)
      simp only [Int.natCast_add, Int.cast_ofNat_Int] at this
      rw [this]
      by_cases hx : a.getD i 0 = b.getD i 0
      · rw [hx]; simp
      · have h2 : (a.getD i 0 != b.getD i 0) = true := by simpa using hx
        rw [h2, if_neg (fun h => hx (List.cons.inj h).1)]
        rfl
    · simp (disch := omega) only [df, cond_false]
      rw [List.drop_eq_nil_of_le (by omega), List.drop_eq_nil_of_le (by omega)]
      simp
theorem sat32 : Sat prog cxT 32 (c32 m32) := s32 m32 fun x t h => by
  unfold m32 at h
  split at h
  · rename_i ha
    cases h
    refine ⟨x.1.length + 1, ?_⟩
    unfold g32
    by_cases hl : x.1.length = x.2.length
    · have e1 : ((Nat.cast x.1.length : Int) != (Nat.cast x.2.length : Int)) = false := by simp [hl]
      have := p32 (x.1.length + 1) x.1 x.2 hl ha.1 (some true) (x.1.length + 1) 0 (by omega) (by omega)
      rw [e1]
      simp only [cond_false]
      refine this.trans ?_
      simp only [List.drop_zero]
      split <;> simp [*]
    · have e1 : ((Nat.cast x.1.length : Int) != (Nat.cast x.2.length : Int)) = true := by simp; omega
      rw [e1]
      have : x.1 ≠ x.2 := fun h => hl (by rw [h])
      simp [this]
  · cases h

def m49 (x : Int × Int × Int) : Option Bool := some (decide (x.2.1 ≤ x.1 ∧ x.1 ≤ x.2.2))
theorem sat49 : Sat prog cxT 49 (c49 m49) := s49 m49 fun x t h => by
  cases h
  refine ⟨0, ?_⟩
  unfold g49
  by_cases h1 : x.2.1 ≤ x.1 <;> simp [h1]


/-! packets -/
abbrev Pk := Int × Int × Int × Int × Int × List Int
def adr (a : Int) : Prop := 0 ≤ a ∧ a ≤ 4294967295
def prt (a : Int) : Prop := 0 ≤ a ∧ a ≤ 65535
def m58 (a : Int) : Option Bool := some (decide (0 ≤ a ∧ a ≤ 4294967295))
theorem sat58 : Sat prog cxT 58 (c58 m58) := s58 m49 sat49 m58 fun x t h => by
  cases h
  exact ⟨0, rfl⟩
def m60 (a : Int) : Option Bool := some (decide (0 ≤ a ∧ a ≤ 65535))
theorem sat60 : Sat prog cxT 60 (c60 m60) := s60 m49 sat49 m60 fun x t h => by
  cases h
  exact ⟨0, rfl⟩
theorem sat51 : Sat prog cxT 51 (c51 m58) := s51 m58 fun x t h => by
  cases h
  refine ⟨0, ?_⟩
  unfold g51
  by_cases h1 : 0 ≤ x <;> simp [h1]
theorem sat62 : Sat prog cxT 62 (c62 m60) := s62 m60 fun x t h => by
  cases h
  refine ⟨0, ?_⟩
  unfold g62
  by_cases h1 : 0 ≤ x <;> simp [h1]
def m61 (a : Int) : Option Bool := some (decide (a = 6 ∨ a = 17))
theorem sat61 : Sat prog cxT 61 (c61 m61) := s61 m61 fun x t h => by
  cases h
  refine ⟨0, ?_⟩
  unfold g61
  by_cases h1 : x = 6
  · simp [h1]
  · have : (x == 6) = false := by simpa using h1
    rw [this]
    by_cases h2 : x = 17 <;> simp [h1, h2]
def pOk (p : Pk) : Prop := (0 ≤ p.1 ∧ p.1 ≤ 4294967295) ∧ (0 ≤ p.2.1 ∧ p.2.1 ≤ 4294967295) ∧ (p.2.2.1 = 6 ∨ p.2.2.1 = 17) ∧ (0 ≤ p.2.2.2.1 ∧ p.2.2.2.1 ≤ 65535) ∧ (0 ≤ p.2.2.2.2.1 ∧ p.2.2.2.2.1 ≤ 65535)
def pf (p : Pk) : Int := if (0 ≤ p.1 ∧ p.1 ≤ 4294967295) ∧ (0 ≤ p.2.1 ∧ p.2.1 ≤ 4294967295) ∧ (p.2.2.1 = 6 ∨ p.2.2.1 = 17) ∧ (0 ≤ p.2.2.2.1 ∧ p.2.2.2.1 ≤ 65535) ∧ (0 ≤ p.2.2.2.2.1 ∧ p.2.2.2.2.1 ≤ 65535) then (if p.2.2.2.2.2.length > 200 then 2 else 0) else 3
theorem pf_3 {p : Pk} (h : ¬ pOk p) : pf p = 3 := if_neg h
theorem pf_in {p : Pk} (h : pOk p) : pf p = if p.2.2.2.2.2.length > 200 then 2 else 0 := if_pos h
def mPf (p : Pk) : Option Int := some (pf p)
theorem sat20 : Sat prog cxT 20 (c20 mPf) := s20 m58 m61 m60 sat51 sat61 sat62 mPf fun p t h => by
  cases h
  refine ⟨0, ?_⟩
  obtain ⟨a, b, c, d, e, l⟩ := p
  show g20 m58 m61 m60 0 a b c d e l = some (pf (a, b, c, d, e, l))
  unfold g20 m58 m61 m60
  simp only [Option.isSome_some, Option.getD_some, cond_true]
  by_cases h1 : 0 ≤ a ∧ a ≤ 4294967295
  · by_cases h2 : 0 ≤ b ∧ b ≤ 4294967295
    · by_cases h3 : c = 6 ∨ c = 17
      · by_cases h4 : 0 ≤ d ∧ d ≤ 65535
        · by_cases h5 : 0 ≤ e ∧ e ≤ 65535
          · rw [pf_in ⟨h1, h2, h3, h4, h5⟩, dt h1, dt h2, dt h3, dt h4, dt h5]
            simp only [Bool.not_true, cond_false]
            by_cases h6 : l.length > 200
            · rw [dt (by omega), if_pos h6]; rfl
            · rw [df (by omega), if_neg h6]; rfl
          · rw [pf_3 (fun h => h5 h.2.2.2.2), dt h1, dt h2, dt h3, dt h4, df h5]; rfl
        · rw [pf_3 (fun h => h4 h.2.2.2.1), dt h1, dt h2, dt h3, df h4]; rfl
      · rw [pf_3 (fun h => h3 h.2.2.1), dt h1, dt h2, df h3]; rfl
    · rw [pf_3 (fun h => h2 h.2.1), dt h1, df h2]; rfl
  · rw [pf_3 (fun h => h1 h.1), df h1]; rfl
theorem sat18 : Sat prog cxT 18 (c18 mPf) := s18 m58 m60 sat58 sat60 mPf fun p t h => by
  cases h
  refine ⟨0, ?_⟩
  obtain ⟨a, b, c, d, e, l⟩ := p
  show g18 m58 m60 0 a b c d e l = some (pf (a, b, c, d, e, l))
  unfold g18 m58 m60
  simp only [Option.isSome_some, Option.getD_some, cond_true]
  have last : (0 ≤ a ∧ a ≤ 4294967295) → (0 ≤ b ∧ b ≤ 4294967295) → (c = 6 ∨ c = 17) → (bif !(decide (0 ≤ d ∧ d ≤ 65535)) then some (3 : Int) else bif !(decide (0 ≤ e ∧ e ≤ 65535)) then some (3 : Int) else bif decide ((l.length : Int) > 200) then some (2 : Int) else some (0 : Int)) = some (pf (a, b, c, d, e, l)) := by
    intro h1 h2 h3
    by_cases h4 : 0 ≤ d ∧ d ≤ 65535
    · by_cases h5 : 0 ≤ e ∧ e ≤ 65535
      · rw [pf_in ⟨h1, h2, h3, h4, h5⟩, dt h4, dt h5]
        simp only [Bool.not_true, cond_false]
        by_cases h6 : l.length > 200
        · rw [dt (by omega), if_pos h6]; rfl
        · rw [df (by omega), if_neg h6]; rfl
      · rw [pf_3 (fun h => h5 h.2.2.2.2), dt h4, df h5]; rfl
    · rw [pf_3 (fun h => h4 h.2.2.2.1), df h4]; rfl
  by_cases h1 : 0 ≤ a ∧ a ≤ 4294967295
  · by_cases h2 : 0 ≤ b ∧ b ≤ 4294967295
    · rw [dt h1, dt h2]
      simp only [Bool.not_true, cond_false]
      by_cases h3 : c = 6
      · rw [bneF h3]
        exact last h1 h2 (.inl h3)
      · rw [bneT h3]
        by_cases h3' : c = 17
        · rw [bneF h3']
          exact last h1 h2 (.inr h3')
        · rw [bneT h3', pf_3 (fun h => by rcases h.2.2.1 with h | h; exact h3 h; exact h3' h)]; rfl
    · rw [pf_3 (fun h => h2 h.2.1), dt h1, df h2]; rfl
  · rw [pf_3 (fun h => h1 h.1), df h1]; rfl

/-! the law's own helpers -/
def m59 (x : List Int × Int) : Option Int := if x.1.length ≤ 9223372036854775807 ∧ 0 ≤ x.2 ∧ x.2 ≤ 1000000000000 then some (if x.2 - x.1.length < 0 then -1 else x.2 - x.1.length) else none
theorem sat59 : Sat prog cxT 59 (c59 m59) := s59 m59 fun x t h => by
  obtain ⟨a, k⟩ := x
  unfold m59 at h
  split at h
  · rename_i hc
    obtain ⟨h1, h2, h3⟩ := hc
    simp only at h1 h2 h3 h
    cases h
    refine ⟨0, ?_⟩
    unfold g59
    simp (disch := omega) only [wi]
    by_cases hk : k - (a.length : Int) < 0
    · rw [dt hk, if_pos hk]; rfl
    · rw [df hk, if_neg hk]; rfl
  · cases h
def m17 (x : Pk × Int) : Option Int := m59 (x.1.2.2.2.2.2, x.2)
theorem sat17 : Sat prog cxT 17 (c17 m17) := s17 m59 sat59 m17 fun x t h => by
  obtain ⟨⟨a, b, c, d, e, l⟩, k⟩ := x
  have h : m59 (l, k) = some t := h
  refine ⟨0, ?_⟩
  show g17 m59 0 a b c d e l k = some t
  unfold g17
  simp only [h, Option.isSome_some, Option.getD_some, cond_true]
  unfold m59 at h
  split at h
  · rename_i hc
    simp only at h
    cases h
    by_cases hk : k - (l.length : Int) < 0
    · rw [if_pos hk]; rfl
    · rw [if_neg hk, df hk]; rfl
  · cases h
def m19 (p : Pk) : Option Pk := if p.2.2.2.2.2.length ≤ 1000000000 then some p else none
theorem sat19 : Sat prog cxT 19 (c19 m19) := s19 m29 sat29 m19 fun p t h => by
  obtain ⟨a, b, c, d, e, l⟩ := p
  unfold m19 at h
  split at h
  · rename_i hc
    cases h
    refine ⟨0, ?_⟩
    show g19 m29 0 a b c d e l = _
    have e1 : m29 l = some l := if_pos hc
    unfold g19
    simp only [e1, Option.isSome_some, Option.getD_some, cond_true]
  · cases h
def m21 (x : Pk × Pk) : Option Bool := if x.1.2.2.2.2.2.length ≤ 1000000000000 ∧ x.2.2.2.2.2.2.length ≤ 1000000000000 then some (decide (x.1 = x.2)) else none
theorem sat21 : Sat prog cxT 21 (c21 m21) := s21 m32 sat32 m21 fun x t h => by
  obtain ⟨⟨a, b, c, d, e, l⟩, a', b', c', d', e', l'⟩ := x
  unfold m21 at h
  split at h
  · rename_i hc
    cases h
    refine ⟨0, ?_⟩
    show g21 m32 0 a b c d e l a' b' c' d' e' l' = _
    have e1 : m32 (l, l') = some (decide (l = l')) := if_pos hc
    unfold g21
    simp only [e1, Option.isSome_some, Option.getD_some, cond_true]
    by_cases h1 : a = a'
    · by_cases h2 : b = b'
      · by_cases h3 : c = c'
        · by_cases h4 : d = d'
          · by_cases h5 : e = e'
            · rw [bneF h1, bneF h2, bneF h3, bneF h4, bneF h5]
              by_cases h6 : l = l' <;> simp [h1, h2, h3, h4, h5, h6]
            · rw [bneF h1, bneF h2, bneF h3, bneF h4, bneT h5]; simp [h5]
          · rw [bneF h1, bneF h2, bneF h3, bneT h4]; simp [h4]
        · rw [bneF h1, bneF h2, bneT h3]; simp [h3]
      · rw [bneF h1, bneT h2]; simp [h2]
    · rw [bneT h1]; simp [h1]
  · cases h

/-! FnExactPacketFault -/
def m4 (p : Pk) : Option Bool := if p.2.2.2.2.2.length ≤ 9223372036854775807 then some true else none
theorem sat4 : Sat prog cxT 4 (c4 m4) := s4 m17 m19 mPf mPf m21 sat17 sat19 sat18 sat20 sat21 m4 fun p t h => by
  obtain ⟨a, b, c, d, e, l⟩ := p
  unfold m4 at h
  split at h
  · rename_i hc
    cases h
    refine ⟨0, ?_⟩
    show g4 m17 m19 mPf mPf m21 0 a b c d e l = some true
    have e17 : m17 ((a, b, c, d, e, l), 1048576) = some (if (1048576 : Int) - (l.length : Int) < 0 then (-1 : Int) else (1048576 : Int) - (l.length : Int)) := if_pos ⟨hc, by show (0 : Int) ≤ 1048576; decide, by show (1048576 : Int) ≤ 1000000000000; decide⟩
    unfold g4
    simp only [e17, Option.isSome_some, Option.getD_some, cond_true]
    by_cases hk : (1048576 : Int) - (l.length : Int) < 0
    · rw [if_pos hk]; rfl
    · rw [if_neg hk, df hk]
      have e19 : m19 (a, b, c, d, e, l) = some (a, b, c, d, e, l) := if_pos (by show l.length ≤ 1000000000; omega)
      have e21 : m21 ((a, b, c, d, e, l), a, b, c, d, e, l) = some true := (if_pos ⟨by show l.length ≤ 1000000000000; omega, by show l.length ≤ 1000000000000; omega⟩).trans (by simp)
      simp only [e19, e21, mPf, Option.isSome_some, Option.getD_some, cond_true, cond_false, Bool.not_true, bneF]
  · cases h
end Go.Proofs.Try
