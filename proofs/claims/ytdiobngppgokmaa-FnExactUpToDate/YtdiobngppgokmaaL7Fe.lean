/- A part of the proof of FnExactUpToDate: L7Fe. -/
import Derived.Test.YtdiobngppgokmaaL7Base
set_option maxHeartbeats 0
set_option maxRecDepth 100000
set_option linter.unusedVariables false
set_option linter.unusedSimpArgs false
namespace Go.Proofs.Try
open Go Go.VM Go.RowKit
/-! loop.example/g00222/spec.TakeEntries -/
/-! loop.example/g00222/impl.TakeEntries -/
/-! loop.example/g00222/spec.UpToDate -/
def ev30 (m15 : (List (Int × (Int × (Int × (Int × (Int × (Int × (Int × (Int × Int))))))))) → Option Int) (m50 : ((List (Int × (Int × (Int × (Int × (Int × (Int × (Int × (Int × Int))))))))) × Int × Int) → Option Bool) : Env cxT := { Kc := kcOf [(15, c15 m15), (50, c50 m50)], Kw := kwOf [], lv := fun i => [], xv := fun i => none }
theorem i30 (m15 : (List (Int × (Int × (Int × (Int × (Int × (Int × (Int × (Int × Int))))))))) → Option Int) (m50 : ((List (Int × (Int × (Int × (Int × (Int × (Int × (Int × (Int × Int))))))))) × Int × Int) → Option Bool) (L : Nat) (a0 : (List (Int × (Int × (Int × (Int × (Int × (Int × (Int × (Int × Int)))))))))) (a1 : Int) (a2 : Int) : evF prog (ev30 m15 m50) (loopN L) f30 (a30.enc (a0, a1, a2)) =
  tst (m15 a0) (0 : Int) fun (q1 : Int) => bif (q1 == (0 : Int)) then tst (m50 (a0, (a1, a2))) false fun (q3 : Bool) => some (n30 q3)
    else some (n30 Bool.false) := by kernel_rfl
def g30 (m15 : (List (Int × (Int × (Int × (Int × (Int × (Int × (Int × (Int × Int))))))))) → Option Int) (m50 : ((List (Int × (Int × (Int × (Int × (Int × (Int × (Int × (Int × Int))))))))) × Int × Int) → Option Bool) (L : Nat) (a0 : (List (Int × (Int × (Int × (Int × (Int × (Int × (Int × (Int × Int)))))))))) (a1 : Int) (a2 : Int) : Option Bool :=
  tst (m15 a0) (0 : Int) fun (q1 : Int) => bif (q1 == (0 : Int)) then tst (m50 (a0, (a1, a2))) false fun (q3 : Bool) => some q3
    else some Bool.false
theorem e30 (m15 : (List (Int × (Int × (Int × (Int × (Int × (Int × (Int × (Int × Int))))))))) → Option Int) (m50 : ((List (Int × (Int × (Int × (Int × (Int × (Int × (Int × (Int × Int))))))))) × Int × Int) → Option Bool) (L : Nat) (a0 : (List (Int × (Int × (Int × (Int × (Int × (Int × (Int × (Int × Int)))))))))) (a1 : Int) (a2 : Int) : evF prog (ev30 m15 m50) (loopN L) f30 (a30.enc (a0, a1, a2)) = (g30 m15 m50 L a0 a1 a2).map n30 := by
  rw [i30]; simp only [g30, map_bif, map_tst, map_bnd, Option.map_some, Option.map_none]
theorem s30 (m15 : (List (Int × (Int × (Int × (Int × (Int × (Int × (Int × (Int × Int))))))))) → Option Int) (m50 : ((List (Int × (Int × (Int × (Int × (Int × (Int × (Int × (Int × Int))))))))) × Int × Int) → Option Bool) (h15 : Sat prog cxT 15 (c15 m15)) (h50 : Sat prog cxT 50 (c50 m50)) (m : ((List (Int × (Int × (Int × (Int × (Int × (Int × (Int × (Int × Int))))))))) × Int × Int) → Option Bool) (hm : ∀ (x : ((List (Int × (Int × (Int × (Int × (Int × (Int × (Int × (Int × Int))))))))) × Int × Int)) t, m x = some t → ∃ L, g30 m15 m50 L x.1 x.2.1 x.2.2 = some t) : Sat prog cxT 30 (c30 m) :=
  sat_t cxT_ok cxT_pok (by rfl) (fn := f30) rfl a30 n30 dd30 m (ev30 m15 m50) (kok_cons h15 (kok_cons h50 kok_nil)) kwok_nil (fun L x => g30 m15 m50 L x.1 x.2.1 x.2.2) (fun L x => e30 m15 m50 L x.1 x.2.1 x.2.2) hm hs30
/-! loop.example/g00222/impl.UpToDate -/
def ev31 (m17 : (List (Int × (Int × (Int × (Int × (Int × (Int × (Int × (Int × Int))))))))) → Option Int) (m20 : (List (Int × (Int × (Int × (Int × (Int × (Int × (Int × (Int × Int))))))))) → Option (Int × Int × Int × Int × Int × Int × Int × Int × Int)) : Env cxT := { Kc := kcOf [(17, c17 m17), (20, c20 m20)], Kw := kwOf [], lv := fun i => [], xv := fun i => none }
theorem i31 (m17 : (List (Int × (Int × (Int × (Int × (Int × (Int × (Int × (Int × Int))))))))) → Option Int) (m20 : (List (Int × (Int × (Int × (Int × (Int × (Int × (Int × (Int × Int))))))))) → Option (Int × Int × Int × Int × Int × Int × Int × Int × Int)) (L : Nat) (a0 : (List (Int × (Int × (Int × (Int × (Int × (Int × (Int × (Int × Int)))))))))) (a1 : Int) (a2 : Int) : evF prog (ev31 m17 m20) (loopN L) f31 (a31.enc (a0, a1, a2)) =
  tst (m17 a0) (0 : Int) fun (q1 : Int) => bif (q1 != (0 : Int)) then some (n31 Bool.false)
    else tst (m20 a0) ((0 : Int), (0 : Int), (0 : Int), (0 : Int), (0 : Int), (0 : Int), (0 : Int), (0 : Int), (0 : Int)) fun (q2 : (Int × Int × Int × Int × Int × Int × Int × Int × Int)) => bif (decide (a2 > q2.1)) then some (n31 Bool.true)
      else bif (a2 == q2.1) then some (n31 (decide (a1 ≥ (Nat.cast (List.length a0) : Int))))
      else some (n31 Bool.false) := by kernel_rfl
def g31 (m17 : (List (Int × (Int × (Int × (Int × (Int × (Int × (Int × (Int × Int))))))))) → Option Int) (m20 : (List (Int × (Int × (Int × (Int × (Int × (Int × (Int × (Int × Int))))))))) → Option (Int × Int × Int × Int × Int × Int × Int × Int × Int)) (L : Nat) (a0 : (List (Int × (Int × (Int × (Int × (Int × (Int × (Int × (Int × Int)))))))))) (a1 : Int) (a2 : Int) : Option Bool :=
  tst (m17 a0) (0 : Int) fun (q1 : Int) => bif (q1 != (0 : Int)) then some Bool.false
    else tst (m20 a0) ((0 : Int), (0 : Int), (0 : Int), (0 : Int), (0 : Int), (0 : Int), (0 : Int), (0 : Int), (0 : Int)) fun (q2 : (Int × Int × Int × Int × Int × Int × Int × Int × Int)) => bif (decide (a2 > q2.1)) then some Bool.true
      else bif (a2 == q2.1) then some (decide (a1 ≥ (Nat.cast (List.length a0) : Int)))
      else some Bool.false
theorem e31 (m17 : (List (Int × (Int × (Int × (Int × (Int × (Int × (Int × (Int × Int))))))))) → Option Int) (m20 : (List (Int × (Int × (Int × (Int × (Int × (Int × (Int × (Int × Int))))))))) → Option (Int × Int × Int × Int × Int × Int × Int × Int × Int)) (L : Nat) (a0 : (List (Int × (Int × (Int × (Int × (Int × (Int × (Int × (Int × Int)))))))))) (a1 : Int) (a2 : Int) : evF prog (ev31 m17 m20) (loopN L) f31 (a31.enc (a0, a1, a2)) = (g31 m17 m20 L a0 a1 a2).map n31 := by
  rw [i31]; simp only [g31, map_bif, map_tst, map_bnd, Option.map_some, Option.map_none]
theorem s31 (m17 : (List (Int × (Int × (Int × (Int × (Int × (Int × (Int × (Int × Int))))))))) → Option Int) (m20 : (List (Int × (Int × (Int × (Int × (Int × (Int × (Int × (Int × Int))))))))) → Option (Int × Int × Int × Int × Int × Int × Int × Int × Int)) (h17 : Sat prog cxT 17 (c17 m17)) (h20 : Sat prog cxT 20 (c20 m20)) (m : ((List (Int × (Int × (Int × (Int × (Int × (Int × (Int × (Int × Int))))))))) × Int × Int) → Option Bool) (hm : ∀ (x : ((List (Int × (Int × (Int × (Int × (Int × (Int × (Int × (Int × Int))))))))) × Int × Int)) t, m x = some t → ∃ L, g31 m17 m20 L x.1 x.2.1 x.2.2 = some t) : Sat prog cxT 31 (c31 m) :=
  sat_t cxT_ok cxT_pok (by rfl) (fn := f31) rfl a31 n31 dd31 m (ev31 m17 m20) (kok_cons h17 (kok_cons h20 kok_nil)) kwok_nil (fun L x => g31 m17 m20 L x.1 x.2.1 x.2.2) (fun L x => e31 m17 m20 L x.1 x.2.1 x.2.2) hm hs31
/-! loop.example/g00222/spec.CommonOf -/
/-! loop.example/g00222/impl.CommonOf -/
/-! loop.example/g00222/spec.SameEntries -/
/-! loop.example/g00222/impl.SameEntries -/
/-! loop.example/g00222/spec.l7Take -/
/-! loop.example/g00222/impl.putBehind -/
/-! (loop.example/g00222/impl.indexed[loop.example/g00222/impl.Entry]).alike -/
/-! (loop.example/g00222/impl.indexed[loop.example/g00222/impl.Entry]).alike -/
/-! (loop.example/g00222/impl.indexed[loop.example/g00222/impl.Entry]).with -/
def ev64 (m82 : (List (List (Int × (Int × (Int × (Int × (Int × (Int × (Int × (Int × Int)))))))))) → Option (List (Int × (Int × (Int × (Int × (Int × (Int × (Int × (Int × Int)))))))))) : Env cxT := { Kc := kcOf [(82, c82 m82)], Kw := kwOf [], lv := fun i => [], xv := fun i => none }
theorem i64 (m82 : (List (List (Int × (Int × (Int × (Int × (Int × (Int × (Int × (Int × Int)))))))))) → Option (List (Int × (Int × (Int × (Int × (Int × (Int × (Int × (Int × Int)))))))))) (L : Nat) (a0 : (List (Int × (Int × (Int × (Int × (Int × (Int × (Int × (Int × Int)))))))))) (a1 : Int) (a2 : (List (Int × (Int × (Int × (Int × (Int × (Int × (Int × (Int × Int)))))))))) : evF prog (ev64 m82) (loopN L) f64 (a64.enc (a0, a1, a2)) =
  bif (((decide ((0 : Int) ≤ (0 : Int))) && (decide ((0 : Int) ≤ a1))) && (decide (a1 ≤ (Nat.cast (List.length a0) : Int)))) then tst (m82 (List.cons (List.drop (Int.toNat (0 : Int)) (List.take (Int.toNat a1) a0)) (List.cons a2 []))) [] fun (q2 : (List (Int × (Int × (Int × (Int × (Int × (Int × (Int × (Int × Int)))))))))) => some (n64 q2)
  else none := by kernel_rfl
end Go.Proofs.Try
