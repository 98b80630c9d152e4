/- A part of the proof of FnExactEntryFault: L7Fe. -/
import Derived.Test.YtdiobngppgokmaaL7Base
set_option maxHeartbeats 0
set_option maxRecDepth 100000
set_option linter.unusedVariables false
set_option linter.unusedSimpArgs false
namespace Go.Proofs.Try
open Go Go.VM Go.RowKit
/-! loop.example/g00222/spec.TakeEntries -/
/-! loop.example/g00222/impl.TakeEntries -/
/-! loop.example/g00222/spec.UpToDate -/
/-! loop.example/g00222/impl.UpToDate -/
/-! loop.example/g00222/spec.CommonOf -/
/-! loop.example/g00222/impl.CommonOf -/
/-! loop.example/g00222/spec.SameEntries -/
/-! loop.example/g00222/impl.SameEntries -/
/-! loop.example/g00222/spec.l7Take -/
/-! loop.example/g00222/impl.putBehind -/
/-! (loop.example/g00222/impl.indexed[loop.example/g00222/impl.Entry]).alike -/
/-! (loop.example/g00222/impl.indexed[loop.example/g00222/impl.Entry]).alike -/
/-! (loop.example/g00222/impl.indexed[loop.example/g00222/impl.Entry]).with -/
def ev64 (m82 : (List (List (Int × (Int × (Int × (Int × (Int × (Int × (Int × (Int × Int)))))))))) → Option (List (Int × (Int × (Int × (Int × (Int × (Int × (Int × (Int × Int)))))))))) : Env cxT := { Kc := kcOf [(82, c82 m82)], Kw := kwOf [], lv := fun i => [], xv := fun i => none }
theorem i64 (m82 : (List (List (Int × (Int × (Int × (Int × (Int × (Int × (Int × (Int × Int)))))))))) → Option (List (Int × (Int × (Int × (Int × (Int × (Int × (Int × (Int × Int)))))))))) (L : Nat) (a0 : (List (Int × (Int × (Int × (Int × (Int × (Int × (Int × (Int × Int)))))))))) (a1 : Int) (a2 : (List (Int × (Int × (Int × (Int × (Int × (Int × (Int × (Int × Int)))))))))) : evF prog (ev64 m82) (loopN L) f64 (a64.enc (a0, a1, a2)) =
  bif (((decide ((0 : Int) ≤ (0 : Int))) && (decide ((0 : Int) ≤ a1))) && (decide (a1 ≤ (Nat.cast (List.length a0) : Int)))) then tst (m82 (List.cons (List.drop (Int.toNat (0 : Int)) (List.take (Int.toNat a1) a0)) (List.cons a2 []))) [] fun (q2 : (List (Int × (Int × (Int × (Int × (Int × (Int × (Int × (Int × Int)))))))))) => some (n64 q2)
  else none := by kernel_rfl
end Go.Proofs.Try
