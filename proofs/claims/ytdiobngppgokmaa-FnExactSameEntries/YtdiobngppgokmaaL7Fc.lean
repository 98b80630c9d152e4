/- A part of the proof of FnExactSameEntries: L7Fc. -/
import Derived.Test.YtdiobngppgokmaaL7Base
set_option maxHeartbeats 0
set_option maxRecDepth 100000
set_option linter.unusedVariables false
set_option linter.unusedSimpArgs false
namespace Go.Proofs.Try
open Go Go.VM Go.RowKit
/-! loop.example/g00222/spec.LogFault -/
/-! loop.example/g00222/impl.LogFault -/
/-! loop.example/g00222/spec.LastOf -/
/-! loop.example/g00222/impl.LastOf -/
/-! (loop.example/g00222/impl.indexed[loop.example/g00222/impl.Entry]).count -/
def ev44 : Env cxT := { Kc := kcOf [], Kw := kwOf [], lv := fun i => [], xv := fun i => none }
theorem i44 (L : Nat) (a0 : (List (Int × (Int × (Int × (Int × (Int × (Int × (Int × (Int × Int)))))))))) : evF prog ev44 (loopN L) f44 (a44.enc a0) =
  some (n44 (Nat.cast (List.length a0) : Int)) := by kernel_rfl
def g44 (L : Nat) (a0 : (List (Int × (Int × (Int × (Int × (Int × (Int × (Int × (Int × Int)))))))))) : Option Int :=
  some (Nat.cast (List.length a0) : Int)
theorem e44 (L : Nat) (a0 : (List (Int × (Int × (Int × (Int × (Int × (Int × (Int × (Int × Int)))))))))) : evF prog ev44 (loopN L) f44 (a44.enc a0) = (g44 L a0).map n44 := by
  rw [i44]; simp only [g44, map_bif, map_tst, map_bnd, Option.map_some, Option.map_none]
theorem s44 (m : (List (Int × (Int × (Int × (Int × (Int × (Int × (Int × (Int × Int))))))))) → Option Int) (hm : ∀ (x : (List (Int × (Int × (Int × (Int × (Int × (Int × (Int × (Int × Int)))))))))) t, m x = some t → ∃ L, g44 L x = some t) : Sat prog cxT 44 (c44 m) :=
  sat_t cxT_ok cxT_pok (by rfl) (fn := f44) rfl a44 n44 dd44 m ev44 kok_nil kwok_nil (fun L x => g44 L x) (fun L x => e44 L x) hm hs44
/-! (loop.example/g00222/impl.indexed[loop.example/g00222/impl.Entry]).at -/
/-! loop.example/g00222/spec.l7Fits -/
/-! loop.example/g00222/spec.FitsAt -/
/-! loop.example/g00222/impl.FitsAt -/
/-! loop.example/g00222/laws.eqEntriesResult -/
end Go.Proofs.Try
