/- A part of the proof of FnExactUpToDate: L7Fd. -/
import Derived.Test.YtdiobngppgokmaaL7Base
set_option maxHeartbeats 0
set_option maxRecDepth 100000
set_option linter.unusedVariables false
set_option linter.unusedSimpArgs false
namespace Go.Proofs.Try
open Go Go.VM Go.RowKit
/-! loop.example/g00222/laws.markEntryS -/
/-! loop.example/g00222/laws.markEntriesResult -/
/-! loop.example/g00222/laws.heldEntryS -/
/-! loop.example/g00222/laws.heldEntriesResult -/
/-! loop.example/g00222/spec.l7Copy -/
/-! loop.example/g00222/spec.l7UpToDate -/
def ev50 (m19 : (List (Int × (Int × (Int × (Int × (Int × (Int × (Int × (Int × Int))))))))) → Option (Int × Int × Int × Int × Int × Int × Int × Int × Int)) : Env cxT := { Kc := kcOf [(19, c19 m19)], Kw := kwOf [], lv := fun i => [], xv := fun i => none }
theorem i50 (m19 : (List (Int × (Int × (Int × (Int × (Int × (Int × (Int × (Int × Int))))))))) → Option (Int × Int × Int × Int × Int × Int × Int × Int × Int)) (L : Nat) (a0 : (List (Int × (Int × (Int × (Int × (Int × (Int × (Int × (Int × Int)))))))))) (a1 : Int) (a2 : Int) : evF prog (ev50 m19) (loopN L) f50 (a50.enc (a0, a1, a2)) =
  tst (m19 a0) ((0 : Int), (0 : Int), (0 : Int), (0 : Int), (0 : Int), (0 : Int), (0 : Int), (0 : Int), (0 : Int)) fun (q1 : (Int × Int × Int × Int × Int × Int × Int × Int × Int)) => bif (decide (a2 > q1.1)) then some (n50 Bool.true)
    else bif (a2 == q1.1) then some (n50 (decide (a1 ≥ (Nat.cast (List.length a0) : Int))))
    else some (n50 Bool.false) := by kernel_rfl
def g50 (m19 : (List (Int × (Int × (Int × (Int × (Int × (Int × (Int × (Int × Int))))))))) → Option (Int × Int × Int × Int × Int × Int × Int × Int × Int)) (L : Nat) (a0 : (List (Int × (Int × (Int × (Int × (Int × (Int × (Int × (Int × Int)))))))))) (a1 : Int) (a2 : Int) : Option Bool :=
  tst (m19 a0) ((0 : Int), (0 : Int), (0 : Int), (0 : Int), (0 : Int), (0 : Int), (0 : Int), (0 : Int), (0 : Int)) fun (q1 : (Int × Int × Int × Int × Int × Int × Int × Int × Int)) => bif (decide (a2 > q1.1)) then some Bool.true
    else bif (a2 == q1.1) then some (decide (a1 ≥ (Nat.cast (List.length a0) : Int)))
    else some Bool.false
theorem e50 (m19 : (List (Int × (Int × (Int × (Int × (Int × (Int × (Int × (Int × Int))))))))) → Option (Int × Int × Int × Int × Int × Int × Int × Int × Int)) (L : Nat) (a0 : (List (Int × (Int × (Int × (Int × (Int × (Int × (Int × (Int × Int)))))))))) (a1 : Int) (a2 : Int) : evF prog (ev50 m19) (loopN L) f50 (a50.enc (a0, a1, a2)) = (g50 m19 L a0 a1 a2).map n50 := by
  rw [i50]; simp only [g50, map_bif, map_tst, map_bnd, Option.map_some, Option.map_none]
theorem s50 (m19 : (List (Int × (Int × (Int × (Int × (Int × (Int × (Int × (Int × Int))))))))) → Option (Int × Int × Int × Int × Int × Int × Int × Int × Int)) (h19 : Sat prog cxT 19 (c19 m19)) (m : ((List (Int × (Int × (Int × (Int × (Int × (Int × (Int × (Int × Int))))))))) × Int × Int) → Option Bool) (hm : ∀ (x : ((List (Int × (Int × (Int × (Int × (Int × (Int × (Int × (Int × Int))))))))) × Int × Int)) t, m x = some t → ∃ L, g50 m19 L x.1 x.2.1 x.2.2 = some t) : Sat prog cxT 50 (c50 m) :=
  sat_t cxT_ok cxT_pok (by rfl) (fn := f50) rfl a50 n50 dd50 m (ev50 m19) (kok_cons h19 kok_nil) kwok_nil (fun L x => g50 m19 L x.1 x.2.1 x.2.2) (fun L x => e50 m19 L x.1 x.2.1 x.2.2) hm hs50
end Go.Proofs.Try
