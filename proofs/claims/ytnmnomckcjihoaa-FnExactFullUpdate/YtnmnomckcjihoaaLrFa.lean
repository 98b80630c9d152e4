/- A part of the proof of FnExactFullUpdate: LrFa, LrFb. -/
import Derived.Test.YtnmnomckcjihoaaLrBase
set_option linter.unusedVariables false
set_option maxHeartbeats 0
set_option maxRecDepth 100000
set_option linter.unusedVariables false
set_option linter.unusedSimpArgs false
namespace Go.Proofs.Try
open Go Go.VM Go.RowKit
/-! loop.example/g00222/spec.l5Version -/
def ev36 (m55 : (Int × Int × Int) → Option Bool) : Env cxT := { Kc := kcOf [(55, c55 m55)], Kw := kwOf [], lv := fun i => [], xv := fun i => none }
theorem i36 (m55 : (Int × Int × Int) → Option Bool) (L : Nat) (a0 : Int) : evF prog (ev36 m55) (loopN L) f36 (a36.enc a0) =
  tst (m55 (a0, ((0 : Int), (1000000 : Int)))) false fun (q1 : Bool) => some (n36 q1) := by kernel_rfl
def g36 (m55 : (Int × Int × Int) → Option Bool) (L : Nat) (a0 : Int) : Option Bool :=
  tst (m55 (a0, ((0 : Int), (1000000 : Int)))) false fun (q1 : Bool) => some q1
theorem e36 (m55 : (Int × Int × Int) → Option Bool) (L : Nat) (a0 : Int) : evF prog (ev36 m55) (loopN L) f36 (a36.enc a0) = (g36 m55 L a0).map n36 := by
  rw [i36]; simp only [g36, map_bif, map_tst, map_bnd, Option.map_some, Option.map_none]
theorem s36 (m55 : (Int × Int × Int) → Option Bool) (h55 : Sat prog cxT 55 (c55 m55)) (m : Int → Option Bool) (hm : ∀ (x : Int) t, m x = some t → ∃ L, g36 m55 L x = some t) : Sat prog cxT 36 (c36 m) :=
  sat_t cxT_ok cxT_pok (by rfl) (fn := f36) rfl a36 n36 dd36 m (ev36 m55) (kok_cons h55 kok_nil) kwok_nil (fun L x => g36 m55 L x) (fun L x => e36 m55 L x) hm hs36
/-! loop.example/g00222/spec.l5Backend -/
def ev37 (m56 : Int → Option Bool) (m57 : Int → Option Bool) (m55 : (Int × Int × Int) → Option Bool) : Env cxT := { Kc := kcOf [(56, c56 m56), (57, c57 m57), (55, c55 m55)], Kw := kwOf [], lv := fun i => [], xv := fun i => none }
theorem i37 (m56 : Int → Option Bool) (m57 : Int → Option Bool) (m55 : (Int × Int × Int) → Option Bool) (L : Nat) (a0_0 : Int) (a0_1 : Int) (a0_2 : Int) (a0_3 : Int) (a0_4 : Bool) : evF prog (ev37 m56 m57 m55) (loopN L) f37 (a37.enc (a0_0, a0_1, a0_2, a0_3, a0_4)) =
  tst (m56 a0_0) false fun (q1 : Bool) => bif q1 then tst (m57 a0_1) false fun (q3 : Bool) => bif q3 then tst (m55 (a0_2, ((0 : Int), (9 : Int)))) false fun (q5 : Bool) => bif q5 then tst (m55 (a0_3, ((1 : Int), (3 : Int)))) false fun (q7 : Bool) => some (n37 q7)
            else some (n37 Bool.false)
        else some (n37 Bool.false)
    else some (n37 Bool.false) := by kernel_rfl
def g37 (m56 : Int → Option Bool) (m57 : Int → Option Bool) (m55 : (Int × Int × Int) → Option Bool) (L : Nat) (a0_0 : Int) (a0_1 : Int) (a0_2 : Int) (a0_3 : Int) (a0_4 : Bool) : Option Bool :=
  tst (m56 a0_0) false fun (q1 : Bool) => bif q1 then tst (m57 a0_1) false fun (q3 : Bool) => bif q3 then tst (m55 (a0_2, ((0 : Int), (9 : Int)))) false fun (q5 : Bool) => bif q5 then tst (m55 (a0_3, ((1 : Int), (3 : Int)))) false fun (q7 : Bool) => some q7
            else some Bool.false
        else some Bool.false
    else some Bool.false
theorem e37 (m56 : Int → Option Bool) (m57 : Int → Option Bool) (m55 : (Int × Int × Int) → Option Bool) (L : Nat) (a0_0 : Int) (a0_1 : Int) (a0_2 : Int) (a0_3 : Int) (a0_4 : Bool) : evF prog (ev37 m56 m57 m55) (loopN L) f37 (a37.enc (a0_0, a0_1, a0_2, a0_3, a0_4)) = (g37 m56 m57 m55 L a0_0 a0_1 a0_2 a0_3 a0_4).map n37 := by
  rw [i37]; simp only [g37, map_bif, map_tst, map_bnd, Option.map_some, Option.map_none]
theorem s37 (m56 : Int → Option Bool) (m57 : Int → Option Bool) (m55 : (Int × Int × Int) → Option Bool) (h56 : Sat prog cxT 56 (c56 m56)) (h57 : Sat prog cxT 57 (c57 m57)) (h55 : Sat prog cxT 55 (c55 m55)) (m : (Int × Int × Int × Int × Bool) → Option Bool) (hm : ∀ (x : (Int × Int × Int × Int × Bool)) t, m x = some t → ∃ L, g37 m56 m57 m55 L x.1 x.2.1 x.2.2.1 x.2.2.2.1 x.2.2.2.2 = some t) : Sat prog cxT 37 (c37 m) :=
  sat_t cxT_ok cxT_pok (by rfl) (fn := f37) rfl a37 n37 dd37 m (ev37 m56 m57 m55) (kok_cons h56 (kok_cons h57 (kok_cons h55 kok_nil))) kwok_nil (fun L x => g37 m56 m57 m55 L x.1 x.2.1 x.2.2.1 x.2.2.2.1 x.2.2.2.2) (fun L x => e37 m56 m57 m55 L x.1 x.2.1 x.2.2.1 x.2.2.2.1 x.2.2.2.2) hm hs37
/-! loop.example/g00222/impl.isVersion -/
def ev39 : Env cxT := { Kc := kcOf [], Kw := kwOf [], lv := fun i => [], xv := fun i => none }
theorem i39 (L : Nat) (a0 : Int) : evF prog ev39 (loopN L) f39 (a39.enc a0) =
  bif (decide (a0 ≥ (0 : Int))) then some (n39 (decide (a0 ≤ (1000000 : Int))))
  else some (n39 Bool.false) := by kernel_rfl
def g39 (L : Nat) (a0 : Int) : Option Bool :=
  bif (decide (a0 ≥ (0 : Int))) then some (decide (a0 ≤ (1000000 : Int)))
  else some Bool.false
theorem e39 (L : Nat) (a0 : Int) : evF prog ev39 (loopN L) f39 (a39.enc a0) = (g39 L a0).map n39 := by
  rw [i39]; simp only [g39, map_bif, map_tst, map_bnd, Option.map_some, Option.map_none]
theorem s39 (m : Int → Option Bool) (hm : ∀ (x : Int) t, m x = some t → ∃ L, g39 L x = some t) : Sat prog cxT 39 (c39 m) :=
  sat_t cxT_ok cxT_pok (by rfl) (fn := f39) rfl a39 n39 dd39 m ev39 kok_nil kwok_nil (fun L x => g39 L x) (fun L x => e39 L x) hm hs39
/-! loop.example/g00222/impl.isBackend -/
def ev40 (m62 : Int → Option Bool) (m63 : Int → Option Bool) (m64 : Int → Option Bool) (m65 : Int → Option Bool) : Env cxT := { Kc := kcOf [(62, c62 m62), (63, c63 m63), (64, c64 m64), (65, c65 m65)], Kw := kwOf [], lv := fun i => [], xv := fun i => none }
theorem i40 (m62 : Int → Option Bool) (m63 : Int → Option Bool) (m64 : Int → Option Bool) (m65 : Int → Option Bool) (L : Nat) (a0_0 : Int) (a0_1 : Int) (a0_2 : Int) (a0_3 : Int) (a0_4 : Bool) : evF prog (ev40 m62 m63 m64 m65) (loopN L) f40 (a40.enc (a0_0, a0_1, a0_2, a0_3, a0_4)) =
  tst (m62 a0_0) false fun (q1 : Bool) => bif q1 then tst (m63 a0_1) false fun (q3 : Bool) => bif q3 then tst (m64 a0_2) false fun (q5 : Bool) => bif q5 then tst (m65 a0_3) false fun (q7 : Bool) => some (n40 q7)
            else some (n40 Bool.false)
        else some (n40 Bool.false)
    else some (n40 Bool.false) := by kernel_rfl
def g40 (m62 : Int → Option Bool) (m63 : Int → Option Bool) (m64 : Int → Option Bool) (m65 : Int → Option Bool) (L : Nat) (a0_0 : Int) (a0_1 : Int) (a0_2 : Int) (a0_3 : Int) (a0_4 : Bool) : Option Bool :=
  tst (m62 a0_0) false fun (q1 : Bool) => bif q1 then tst (m63 a0_1) false fun (q3 : Bool) => bif q3 then tst (m64 a0_2) false fun (q5 : Bool) => bif q5 then tst (m65 a0_3) false fun (q7 : Bool) => some q7
            else some Bool.false
        else some Bool.false
    else some Bool.false
theorem e40 (m62 : Int → Option Bool) (m63 : Int → Option Bool) (m64 : Int → Option Bool) (m65 : Int → Option Bool) (L : Nat) (a0_0 : Int) (a0_1 : Int) (a0_2 : Int) (a0_3 : Int) (a0_4 : Bool) : evF prog (ev40 m62 m63 m64 m65) (loopN L) f40 (a40.enc (a0_0, a0_1, a0_2, a0_3, a0_4)) = (g40 m62 m63 m64 m65 L a0_0 a0_1 a0_2 a0_3 a0_4).map n40 := by
  rw [i40]; simp only [g40, map_bif, map_tst, map_bnd, Option.map_some, Option.map_none]
theorem s40 (m62 : Int → Option Bool) (m63 : Int → Option Bool) (m64 : Int → Option Bool) (m65 : Int → Option Bool) (h62 : Sat prog cxT 62 (c62 m62)) (h63 : Sat prog cxT 63 (c63 m63)) (h64 : Sat prog cxT 64 (c64 m64)) (h65 : Sat prog cxT 65 (c65 m65)) (m : (Int × Int × Int × Int × Bool) → Option Bool) (hm : ∀ (x : (Int × Int × Int × Int × Bool)) t, m x = some t → ∃ L, g40 m62 m63 m64 m65 L x.1 x.2.1 x.2.2.1 x.2.2.2.1 x.2.2.2.2 = some t) : Sat prog cxT 40 (c40 m) :=
  sat_t cxT_ok cxT_pok (by rfl) (fn := f40) rfl a40 n40 dd40 m (ev40 m62 m63 m64 m65) (kok_cons h62 (kok_cons h63 (kok_cons h64 (kok_cons h65 kok_nil)))) kwok_nil (fun L x => g40 m62 m63 m64 m65 L x.1 x.2.1 x.2.2.1 x.2.2.2.1 x.2.2.2.2) (fun L x => e40 m62 m63 m64 m65 L x.1 x.2.1 x.2.2.1 x.2.2.2.1 x.2.2.2.2) hm hs40
/-! loop.example/g00222/impl.isServed -/
def ev41 (m63 : Int → Option Bool) (m66 : Int → Option Bool) (m67 : Int → Option Bool) : Env cxT := { Kc := kcOf [(63, c63 m63), (66, c66 m66), (67, c67 m67)], Kw := kwOf [], lv := fun i => [], xv := fun i => none }
theorem i41 (m63 : Int → Option Bool) (m66 : Int → Option Bool) (m67 : Int → Option Bool) (L : Nat) (a0_0 : Int) (a0_1 : Int) (a0_2 : Int) (a0_3 : (List Int)) : evF prog (ev41 m63 m66 m67) (loopN L) f41 (a41.enc (a0_0, a0_1, a0_2, a0_3)) =
  tst (m63 a0_0) false fun (q1 : Bool) => bif q1 then tst (m66 a0_1) false fun (q3 : Bool) => bif q3 then tst (m67 a0_2) false fun (q5 : Bool) => some (n41 q5)
        else some (n41 Bool.false)
    else some (n41 Bool.false) := by kernel_rfl
def g41 (m63 : Int → Option Bool) (m66 : Int → Option Bool) (m67 : Int → Option Bool) (L : Nat) (a0_0 : Int) (a0_1 : Int) (a0_2 : Int) (a0_3 : (List Int)) : Option Bool :=
  tst (m63 a0_0) false fun (q1 : Bool) => bif q1 then tst (m66 a0_1) false fun (q3 : Bool) => bif q3 then tst (m67 a0_2) false fun (q5 : Bool) => some q5
        else some Bool.false
    else some Bool.false
theorem e41 (m63 : Int → Option Bool) (m66 : Int → Option Bool) (m67 : Int → Option Bool) (L : Nat) (a0_0 : Int) (a0_1 : Int) (a0_2 : Int) (a0_3 : (List Int)) : evF prog (ev41 m63 m66 m67) (loopN L) f41 (a41.enc (a0_0, a0_1, a0_2, a0_3)) = (g41 m63 m66 m67 L a0_0 a0_1 a0_2 a0_3).map n41 := by
  rw [i41]; simp only [g41, map_bif, map_tst, map_bnd, Option.map_some, Option.map_none]
theorem s41 (m63 : Int → Option Bool) (m66 : Int → Option Bool) (m67 : Int → Option Bool) (h63 : Sat prog cxT 63 (c63 m63)) (h66 : Sat prog cxT 66 (c66 m66)) (h67 : Sat prog cxT 67 (c67 m67)) (m : (Int × Int × Int × (List Int)) → Option Bool) (hm : ∀ (x : (Int × Int × Int × (List Int))) t, m x = some t → ∃ L, g41 m63 m66 m67 L x.1 x.2.1 x.2.2.1 x.2.2.2 = some t) : Sat prog cxT 41 (c41 m) :=
  sat_t cxT_ok cxT_pok (by rfl) (fn := f41) rfl a41 n41 dd41 m (ev41 m63 m66 m67) (kok_cons h63 (kok_cons h66 (kok_cons h67 kok_nil))) kwok_nil (fun L x => g41 m63 m66 m67 L x.1 x.2.1 x.2.2.1 x.2.2.2) (fun L x => e41 m63 m66 m67 L x.1 x.2.1 x.2.2.1 x.2.2.2) hm hs41
/-! loop.example/g00222/impl.compareVips -/
def ev42 (m69 : (Int × Int) → Option Int) (m68 : (List Int) → Option Int) : Env cxT := { Kc := kcOf [(69, c69 m69), (68, c68 m68)], Kw := kwOf [], lv := fun i => [], xv := fun i => none }
theorem i42 (m69 : (Int × Int) → Option Int) (m68 : (List Int) → Option Int) (L : Nat) (a0_0 : Int) (a0_1 : Int) (a0_2 : Int) (a0_3 : (List Int)) (a1_0 : Int) (a1_1 : Int) (a1_2 : Int) (a1_3 : (List Int)) : evF prog (ev42 m69 m68) (loopN L) f42 (a42.enc ((a0_0, a0_1, a0_2, a0_3), (a1_0, a1_1, a1_2, a1_3))) =
  tst (m69 (a0_0, a1_0)) (0 : Int) fun (q1 : Int) => tst (m69 (a0_1, a1_1)) (0 : Int) fun (q2 : Int) => tst (m69 (a0_2, a1_2)) (0 : Int) fun (q3 : Int) => tst (m68 (List.cons q1 (List.cons q2 (List.cons q3 ([] : List (Int)))))) (0 : Int) fun (q4 : Int) => some (n42 q4) := by kernel_rfl
def g42 (m69 : (Int × Int) → Option Int) (m68 : (List Int) → Option Int) (L : Nat) (a0_0 : Int) (a0_1 : Int) (a0_2 : Int) (a0_3 : (List Int)) (a1_0 : Int) (a1_1 : Int) (a1_2 : Int) (a1_3 : (List Int)) : Option Int :=
  tst (m69 (a0_0, a1_0)) (0 : Int) fun (q1 : Int) => tst (m69 (a0_1, a1_1)) (0 : Int) fun (q2 : Int) => tst (m69 (a0_2, a1_2)) (0 : Int) fun (q3 : Int) => tst (m68 (List.cons q1 (List.cons q2 (List.cons q3 ([] : List (Int)))))) (0 : Int) fun (q4 : Int) => some q4
theorem e42 (m69 : (Int × Int) → Option Int) (m68 : (List Int) → Option Int) (L : Nat) (a0_0 : Int) (a0_1 : Int) (a0_2 : Int) (a0_3 : (List Int)) (a1_0 : Int) (a1_1 : Int) (a1_2 : Int) (a1_3 : (List Int)) : evF prog (ev42 m69 m68) (loopN L) f42 (a42.enc ((a0_0, a0_1, a0_2, a0_3), (a1_0, a1_1, a1_2, a1_3))) = (g42 m69 m68 L a0_0 a0_1 a0_2 a0_3 a1_0 a1_1 a1_2 a1_3).map n42 := by
  rw [i42]; simp only [g42, map_bif, map_tst, map_bnd, Option.map_some, Option.map_none]
theorem s42 (m69 : (Int × Int) → Option Int) (m68 : (List Int) → Option Int) (h69 : Sat prog cxT 69 (c69 m69)) (h68 : Sat prog cxT 68 (c68 m68)) (m : ((Int × Int × Int × (List Int)) × (Int × Int × Int × (List Int))) → Option Int) (hm : ∀ (x : ((Int × Int × Int × (List Int)) × (Int × Int × Int × (List Int)))) t, m x = some t → ∃ L, g42 m69 m68 L x.1.1 x.1.2.1 x.1.2.2.1 x.1.2.2.2 x.2.1 x.2.2.1 x.2.2.2.1 x.2.2.2.2 = some t) : Sat prog cxT 42 (c42 m) :=
  sat_t cxT_ok cxT_pok (by rfl) (fn := f42) rfl a42 n42 dd42 m (ev42 m69 m68) (kok_cons h69 (kok_cons h68 kok_nil)) kwok_nil (fun L x => g42 m69 m68 L x.1.1 x.1.2.1 x.1.2.2.1 x.1.2.2.2 x.2.1 x.2.2.1 x.2.2.2.1 x.2.2.2.2) (fun L x => e42 m69 m68 L x.1.1 x.1.2.1 x.1.2.2.1 x.1.2.2.2 x.2.1 x.2.2.1 x.2.2.2.1 x.2.2.2.2) hm hs42
/-! loop.example/g00222/laws.toBackend -/
def ev46 : Env cxT := { Kc := kcOf [], Kw := kwOf [], lv := fun i => [], xv := fun i => none }
theorem i46 (L : Nat) (a0_0 : Int) (a0_1 : Int) (a0_2 : Int) (a0_3 : Int) (a0_4 : Bool) : evF prog ev46 (loopN L) f46 (a46.enc (a0_0, a0_1, a0_2, a0_3, a0_4)) =
  some (n46 (a0_0, a0_1, a0_2, a0_3, a0_4)) := by kernel_rfl
def g46 (L : Nat) (a0_0 : Int) (a0_1 : Int) (a0_2 : Int) (a0_3 : Int) (a0_4 : Bool) : Option (Int × Int × Int × Int × Bool) :=
  some (a0_0, a0_1, a0_2, a0_3, a0_4)
theorem e46 (L : Nat) (a0_0 : Int) (a0_1 : Int) (a0_2 : Int) (a0_3 : Int) (a0_4 : Bool) : evF prog ev46 (loopN L) f46 (a46.enc (a0_0, a0_1, a0_2, a0_3, a0_4)) = (g46 L a0_0 a0_1 a0_2 a0_3 a0_4).map n46 := by
  rw [i46]; simp only [g46, map_bif, map_tst, map_bnd, Option.map_some, Option.map_none]
theorem s46 (m : (Int × Int × Int × Int × Bool) → Option (Int × Int × Int × Int × Bool)) (hm : ∀ (x : (Int × Int × Int × Int × Bool)) t, m x = some t → ∃ L, g46 L x.1 x.2.1 x.2.2.1 x.2.2.2.1 x.2.2.2.2 = some t) : Sat prog cxT 46 (c46 m) :=
  sat_t cxT_ok cxT_pok (by rfl) (fn := f46) rfl a46 n46 dd46 m ev46 kok_nil kwok_nil (fun L x => g46 L x.1 x.2.1 x.2.2.1 x.2.2.2.1 x.2.2.2.2) (fun L x => e46 L x.1 x.2.1 x.2.2.1 x.2.2.2.1 x.2.2.2.2) hm hs46
/-! loop.example/g00222/spec.l1In -/
def ev55 : Env cxT := { Kc := kcOf [], Kw := kwOf [], lv := fun i => [], xv := fun i => none }
theorem i55 (L : Nat) (a0 : Int) (a1 : Int) (a2 : Int) : evF prog ev55 (loopN L) f55 (a55.enc (a0, a1, a2)) =
  bif (decide (a0 ≥ a1)) then some (n55 (decide (a0 ≤ a2)))
  else some (n55 Bool.false) := by kernel_rfl
def g55 (L : Nat) (a0 : Int) (a1 : Int) (a2 : Int) : Option Bool :=
  bif (decide (a0 ≥ a1)) then some (decide (a0 ≤ a2))
  else some Bool.false
theorem e55 (L : Nat) (a0 : Int) (a1 : Int) (a2 : Int) : evF prog ev55 (loopN L) f55 (a55.enc (a0, a1, a2)) = (g55 L a0 a1 a2).map n55 := by
  rw [i55]; simp only [g55, map_bif, map_tst, map_bnd, Option.map_some, Option.map_none]
theorem s55 (m : (Int × Int × Int) → Option Bool) (hm : ∀ (x : (Int × Int × Int)) t, m x = some t → ∃ L, g55 L x.1 x.2.1 x.2.2 = some t) : Sat prog cxT 55 (c55 m) :=
  sat_t cxT_ok cxT_pok (by rfl) (fn := f55) rfl a55 n55 dd55 m ev55 kok_nil kwok_nil (fun L x => g55 L x.1 x.2.1 x.2.2) (fun L x => e55 L x.1 x.2.1 x.2.2) hm hs55
/-! loop.example/g00222/spec.l3Name -/
def ev56 (m55 : (Int × Int × Int) → Option Bool) : Env cxT := { Kc := kcOf [(55, c55 m55)], Kw := kwOf [], lv := fun i => [], xv := fun i => none }
theorem i56 (m55 : (Int × Int × Int) → Option Bool) (L : Nat) (a0 : Int) : evF prog (ev56 m55) (loopN L) f56 (a56.enc a0) =
  tst (m55 (a0, ((1 : Int), (999 : Int)))) false fun (q1 : Bool) => some (n56 q1) := by kernel_rfl
def g56 (m55 : (Int × Int × Int) → Option Bool) (L : Nat) (a0 : Int) : Option Bool :=
  tst (m55 (a0, ((1 : Int), (999 : Int)))) false fun (q1 : Bool) => some q1
theorem e56 (m55 : (Int × Int × Int) → Option Bool) (L : Nat) (a0 : Int) : evF prog (ev56 m55) (loopN L) f56 (a56.enc a0) = (g56 m55 L a0).map n56 := by
  rw [i56]; simp only [g56, map_bif, map_tst, map_bnd, Option.map_some, Option.map_none]
theorem s56 (m55 : (Int × Int × Int) → Option Bool) (h55 : Sat prog cxT 55 (c55 m55)) (m : Int → Option Bool) (hm : ∀ (x : Int) t, m x = some t → ∃ L, g56 m55 L x = some t) : Sat prog cxT 56 (c56 m) :=
  sat_t cxT_ok cxT_pok (by rfl) (fn := f56) rfl a56 n56 dd56 m (ev56 m55) (kok_cons h55 kok_nil) kwok_nil (fun L x => g56 m55 L x) (fun L x => e56 m55 L x) hm hs56
/-! loop.example/g00222/spec.l2Address -/
def ev57 (m55 : (Int × Int × Int) → Option Bool) : Env cxT := { Kc := kcOf [(55, c55 m55)], Kw := kwOf [], lv := fun i => [], xv := fun i => none }
theorem i57 (m55 : (Int × Int × Int) → Option Bool) (L : Nat) (a0 : Int) : evF prog (ev57 m55) (loopN L) f57 (a57.enc a0) =
  tst (m55 (a0, ((0 : Int), (4294967295 : Int)))) false fun (q1 : Bool) => some (n57 q1) := by kernel_rfl
def g57 (m55 : (Int × Int × Int) → Option Bool) (L : Nat) (a0 : Int) : Option Bool :=
  tst (m55 (a0, ((0 : Int), (4294967295 : Int)))) false fun (q1 : Bool) => some q1
theorem e57 (m55 : (Int × Int × Int) → Option Bool) (L : Nat) (a0 : Int) : evF prog (ev57 m55) (loopN L) f57 (a57.enc a0) = (g57 m55 L a0).map n57 := by
  rw [i57]; simp only [g57, map_bif, map_tst, map_bnd, Option.map_some, Option.map_none]
theorem s57 (m55 : (Int × Int × Int) → Option Bool) (h55 : Sat prog cxT 55 (c55 m55)) (m : Int → Option Bool) (hm : ∀ (x : Int) t, m x = some t → ∃ L, g57 m55 L x = some t) : Sat prog cxT 57 (c57 m) :=
  sat_t cxT_ok cxT_pok (by rfl) (fn := f57) rfl a57 n57 dd57 m (ev57 m55) (kok_cons h55 kok_nil) kwok_nil (fun L x => g57 m55 L x) (fun L x => e57 m55 L x) hm hs57
/-! loop.example/g00222/spec.l2Port -/
def ev58 (m55 : (Int × Int × Int) → Option Bool) : Env cxT := { Kc := kcOf [(55, c55 m55)], Kw := kwOf [], lv := fun i => [], xv := fun i => none }
theorem i58 (m55 : (Int × Int × Int) → Option Bool) (L : Nat) (a0 : Int) : evF prog (ev58 m55) (loopN L) f58 (a58.enc a0) =
  tst (m55 (a0, ((0 : Int), (65535 : Int)))) false fun (q1 : Bool) => some (n58 q1) := by kernel_rfl
def g58 (m55 : (Int × Int × Int) → Option Bool) (L : Nat) (a0 : Int) : Option Bool :=
  tst (m55 (a0, ((0 : Int), (65535 : Int)))) false fun (q1 : Bool) => some q1
theorem e58 (m55 : (Int × Int × Int) → Option Bool) (L : Nat) (a0 : Int) : evF prog (ev58 m55) (loopN L) f58 (a58.enc a0) = (g58 m55 L a0).map n58 := by
  rw [i58]; simp only [g58, map_bif, map_tst, map_bnd, Option.map_some, Option.map_none]
theorem s58 (m55 : (Int × Int × Int) → Option Bool) (h55 : Sat prog cxT 55 (c55 m55)) (m : Int → Option Bool) (hm : ∀ (x : Int) t, m x = some t → ∃ L, g58 m55 L x = some t) : Sat prog cxT 58 (c58 m) :=
  sat_t cxT_ok cxT_pok (by rfl) (fn := f58) rfl a58 n58 dd58 m (ev58 m55) (kok_cons h55 kok_nil) kwok_nil (fun L x => g58 m55 L x) (fun L x => e58 m55 L x) hm hs58
/-! loop.example/g00222/spec.l5Proto -/
def ev59 : Env cxT := { Kc := kcOf [], Kw := kwOf [], lv := fun i => [], xv := fun i => none }
theorem i59 (L : Nat) (a0 : Int) : evF prog ev59 (loopN L) f59 (a59.enc a0) =
  bif (a0 == (6 : Int)) then some (n59 Bool.true)
  else some (n59 (a0 == (17 : Int))) := by kernel_rfl
def g59 (L : Nat) (a0 : Int) : Option Bool :=
  bif (a0 == (6 : Int)) then some Bool.true
  else some (a0 == (17 : Int))
theorem e59 (L : Nat) (a0 : Int) : evF prog ev59 (loopN L) f59 (a59.enc a0) = (g59 L a0).map n59 := by
  rw [i59]; simp only [g59, map_bif, map_tst, map_bnd, Option.map_some, Option.map_none]
theorem s59 (m : Int → Option Bool) (hm : ∀ (x : Int) t, m x = some t → ∃ L, g59 L x = some t) : Sat prog cxT 59 (c59 m) :=
  sat_t cxT_ok cxT_pok (by rfl) (fn := f59) rfl a59 n59 dd59 m ev59 kok_nil kwok_nil (fun L x => g59 L x) (fun L x => e59 L x) hm hs59
/-! loop.example/g00222/spec.l5Behind -/
def ev60 : Env cxT := { Kc := kcOf [], Kw := kwOf [], lv := fun i => [], xv := fun i => none }
theorem i60 (L : Nat) (a0_0 : Int) (a0_1 : Int) (a0_2 : Int) (a0_3 : (List Int)) (a1_0 : Int) (a1_1 : Int) (a1_2 : Int) (a1_3 : (List Int)) : evF prog ev60 (loopN L) f60 (a60.enc ((a0_0, a0_1, a0_2, a0_3), (a1_0, a1_1, a1_2, a1_3))) =
  bif (a0_0 != a1_0) then some (n60 (decide (a0_0 < a1_0)))
  else bif (a0_1 != a1_1) then some (n60 (decide (a0_1 < a1_1)))
  else some (n60 (decide (a0_2 < a1_2))) := by kernel_rfl
def g60 (L : Nat) (a0_0 : Int) (a0_1 : Int) (a0_2 : Int) (a0_3 : (List Int)) (a1_0 : Int) (a1_1 : Int) (a1_2 : Int) (a1_3 : (List Int)) : Option Bool :=
  bif (a0_0 != a1_0) then some (decide (a0_0 < a1_0))
  else bif (a0_1 != a1_1) then some (decide (a0_1 < a1_1))
  else some (decide (a0_2 < a1_2))
theorem e60 (L : Nat) (a0_0 : Int) (a0_1 : Int) (a0_2 : Int) (a0_3 : (List Int)) (a1_0 : Int) (a1_1 : Int) (a1_2 : Int) (a1_3 : (List Int)) : evF prog ev60 (loopN L) f60 (a60.enc ((a0_0, a0_1, a0_2, a0_3), (a1_0, a1_1, a1_2, a1_3))) = (g60 L a0_0 a0_1 a0_2 a0_3 a1_0 a1_1 a1_2 a1_3).map n60 := by
  rw [i60]; simp only [g60, map_bif, map_tst, map_bnd, Option.map_some, Option.map_none]
theorem s60 (m : ((Int × Int × Int × (List Int)) × (Int × Int × Int × (List Int))) → Option Bool) (hm : ∀ (x : ((Int × Int × Int × (List Int)) × (Int × Int × Int × (List Int)))) t, m x = some t → ∃ L, g60 L x.1.1 x.1.2.1 x.1.2.2.1 x.1.2.2.2 x.2.1 x.2.2.1 x.2.2.2.1 x.2.2.2.2 = some t) : Sat prog cxT 60 (c60 m) :=
  sat_t cxT_ok cxT_pok (by rfl) (fn := f60) rfl a60 n60 dd60 m ev60 kok_nil kwok_nil (fun L x => g60 L x.1.1 x.1.2.1 x.1.2.2.1 x.1.2.2.2 x.2.1 x.2.2.1 x.2.2.2.1 x.2.2.2.2) (fun L x => e60 L x.1.1 x.1.2.1 x.1.2.2.1 x.1.2.2.2 x.2.1 x.2.2.1 x.2.2.2.1 x.2.2.2.2) hm hs60
/-! loop.example/g00222/impl.isName -/
def ev62 : Env cxT := { Kc := kcOf [], Kw := kwOf [], lv := fun i => [], xv := fun i => none }
theorem i62 (L : Nat) (a0 : Int) : evF prog ev62 (loopN L) f62 (a62.enc a0) =
  bif (decide (a0 ≥ (1 : Int))) then some (n62 (decide (a0 ≤ (999 : Int))))
  else some (n62 Bool.false) := by kernel_rfl
def g62 (L : Nat) (a0 : Int) : Option Bool :=
  bif (decide (a0 ≥ (1 : Int))) then some (decide (a0 ≤ (999 : Int)))
  else some Bool.false
theorem e62 (L : Nat) (a0 : Int) : evF prog ev62 (loopN L) f62 (a62.enc a0) = (g62 L a0).map n62 := by
  rw [i62]; simp only [g62, map_bif, map_tst, map_bnd, Option.map_some, Option.map_none]
theorem s62 (m : Int → Option Bool) (hm : ∀ (x : Int) t, m x = some t → ∃ L, g62 L x = some t) : Sat prog cxT 62 (c62 m) :=
  sat_t cxT_ok cxT_pok (by rfl) (fn := f62) rfl a62 n62 dd62 m ev62 kok_nil kwok_nil (fun L x => g62 L x) (fun L x => e62 L x) hm hs62
/-! loop.example/g00222/impl.isAddress -/
def ev63 : Env cxT := { Kc := kcOf [], Kw := kwOf [], lv := fun i => [], xv := fun i => none }
theorem i63 (L : Nat) (a0 : Int) : evF prog ev63 (loopN L) f63 (a63.enc a0) =
  bif (decide (a0 ≥ (0 : Int))) then some (n63 (decide (a0 ≤ (4294967295 : Int))))
  else some (n63 Bool.false) := by kernel_rfl
def g63 (L : Nat) (a0 : Int) : Option Bool :=
  bif (decide (a0 ≥ (0 : Int))) then some (decide (a0 ≤ (4294967295 : Int)))
  else some Bool.false
theorem e63 (L : Nat) (a0 : Int) : evF prog ev63 (loopN L) f63 (a63.enc a0) = (g63 L a0).map n63 := by
  rw [i63]; simp only [g63, map_bif, map_tst, map_bnd, Option.map_some, Option.map_none]
theorem s63 (m : Int → Option Bool) (hm : ∀ (x : Int) t, m x = some t → ∃ L, g63 L x = some t) : Sat prog cxT 63 (c63 m) :=
  sat_t cxT_ok cxT_pok (by rfl) (fn := f63) rfl a63 n63 dd63 m ev63 kok_nil kwok_nil (fun L x => g63 L x) (fun L x => e63 L x) hm hs63
/-! loop.example/g00222/impl.isWeight -/
def ev64 : Env cxT := { Kc := kcOf [], Kw := kwOf [], lv := fun i => [], xv := fun i => none }
theorem i64 (L : Nat) (a0 : Int) : evF prog ev64 (loopN L) f64 (a64.enc a0) =
  bif (decide (a0 ≥ (0 : Int))) then some (n64 (decide (a0 ≤ (9 : Int))))
  else some (n64 Bool.false) := by kernel_rfl
def g64 (L : Nat) (a0 : Int) : Option Bool :=
  bif (decide (a0 ≥ (0 : Int))) then some (decide (a0 ≤ (9 : Int)))
  else some Bool.false
theorem e64 (L : Nat) (a0 : Int) : evF prog ev64 (loopN L) f64 (a64.enc a0) = (g64 L a0).map n64 := by
  rw [i64]; simp only [g64, map_bif, map_tst, map_bnd, Option.map_some, Option.map_none]
theorem s64 (m : Int → Option Bool) (hm : ∀ (x : Int) t, m x = some t → ∃ L, g64 L x = some t) : Sat prog cxT 64 (c64 m) :=
  sat_t cxT_ok cxT_pok (by rfl) (fn := f64) rfl a64 n64 dd64 m ev64 kok_nil kwok_nil (fun L x => g64 L x) (fun L x => e64 L x) hm hs64
/-! loop.example/g00222/impl.isStage -/
def ev65 : Env cxT := { Kc := kcOf [], Kw := kwOf [], lv := fun i => [], xv := fun i => none }
theorem i65 (L : Nat) (a0 : Int) : evF prog ev65 (loopN L) f65 (a65.enc a0) =
  bif (decide (a0 ≥ (1 : Int))) then some (n65 (decide (a0 ≤ (3 : Int))))
  else some (n65 Bool.false) := by kernel_rfl
def g65 (L : Nat) (a0 : Int) : Option Bool :=
  bif (decide (a0 ≥ (1 : Int))) then some (decide (a0 ≤ (3 : Int)))
  else some Bool.false
theorem e65 (L : Nat) (a0 : Int) : evF prog ev65 (loopN L) f65 (a65.enc a0) = (g65 L a0).map n65 := by
  rw [i65]; simp only [g65, map_bif, map_tst, map_bnd, Option.map_some, Option.map_none]
theorem s65 (m : Int → Option Bool) (hm : ∀ (x : Int) t, m x = some t → ∃ L, g65 L x = some t) : Sat prog cxT 65 (c65 m) :=
  sat_t cxT_ok cxT_pok (by rfl) (fn := f65) rfl a65 n65 dd65 m ev65 kok_nil kwok_nil (fun L x => g65 L x) (fun L x => e65 L x) hm hs65
/-! loop.example/g00222/impl.isPort -/
def ev66 : Env cxT := { Kc := kcOf [], Kw := kwOf [], lv := fun i => [], xv := fun i => none }
theorem i66 (L : Nat) (a0 : Int) : evF prog ev66 (loopN L) f66 (a66.enc a0) =
  bif (decide (a0 ≥ (0 : Int))) then some (n66 (decide (a0 ≤ (65535 : Int))))
  else some (n66 Bool.false) := by kernel_rfl
def g66 (L : Nat) (a0 : Int) : Option Bool :=
  bif (decide (a0 ≥ (0 : Int))) then some (decide (a0 ≤ (65535 : Int)))
  else some Bool.false
theorem e66 (L : Nat) (a0 : Int) : evF prog ev66 (loopN L) f66 (a66.enc a0) = (g66 L a0).map n66 := by
  rw [i66]; simp only [g66, map_bif, map_tst, map_bnd, Option.map_some, Option.map_none]
theorem s66 (m : Int → Option Bool) (hm : ∀ (x : Int) t, m x = some t → ∃ L, g66 L x = some t) : Sat prog cxT 66 (c66 m) :=
  sat_t cxT_ok cxT_pok (by rfl) (fn := f66) rfl a66 n66 dd66 m ev66 kok_nil kwok_nil (fun L x => g66 L x) (fun L x => e66 L x) hm hs66
/-! loop.example/g00222/impl.isProto -/
def ev67 : Env cxT := { Kc := kcOf [], Kw := kwOf [], lv := fun i => [], xv := fun i => none }
theorem i67 (L : Nat) (a0 : Int) : evF prog ev67 (loopN L) f67 (a67.enc a0) =
  bif (a0 == (6 : Int)) then some (n67 Bool.true)
  else some (n67 (a0 == (17 : Int))) := by kernel_rfl
def g67 (L : Nat) (a0 : Int) : Option Bool :=
  bif (a0 == (6 : Int)) then some Bool.true
  else some (a0 == (17 : Int))
theorem e67 (L : Nat) (a0 : Int) : evF prog ev67 (loopN L) f67 (a67.enc a0) = (g67 L a0).map n67 := by
  rw [i67]; simp only [g67, map_bif, map_tst, map_bnd, Option.map_some, Option.map_none]
theorem s67 (m : Int → Option Bool) (hm : ∀ (x : Int) t, m x = some t → ∃ L, g67 L x = some t) : Sat prog cxT 67 (c67 m) :=
  sat_t cxT_ok cxT_pok (by rfl) (fn := f67) rfl a67 n67 dd67 m ev67 kok_nil kwok_nil (fun L x => g67 L x) (fun L x => e67 L x) hm hs67
/-! cmp.Or[int] -/
def ev68 : Env cxT := { Kc := kcOf [], Kw := kwOf [], lv := fun i => if i = 0 then [(3, []), (6, [some 3]), (7, []), (8, [])] else [], xv := fun i => if i = 0 then some [(3, [])] else none }
def S68_0 (a0 : (List Int)) (v0_8 : Int) : St cxT.ty := { slots := [junk, junk, junk, (.inl (.inl (lv (.int .i64 (0 : Int))))), junk, junk, (.inl (.inl (ls { own := 0, nm := 0, e := 3, o := false, xs := a0 }))), (.inl (.inl (lv (.int .i64 (Nat.cast (List.length a0) : Int))))), (.inl (.inl (lv (.int .i64 v0_8))))] ++ List.replicate 9 junk, D := [], F := [], ctr := 1 }
def X68_0 (a0 : (List Int)) : St cxT.ty := { slots := [junk, junk, junk, (.inl (.inl (lv (.int .i64 (0 : Int)))))] ++ List.replicate 14 junk, D := [], F := [], ctr := 1 }
theorem i68 (L : Nat) (a0 : (List Int)) : evF prog ev68 (loopN L) f68 (a68.enc a0) =
  headF prog ev68 L f68 0 [1, 1, 0, 1, 0, 0] (outK (outV prog f68) (topK prog ev68 L f68 [1, 1, 0, 1] (outV prog f68)).n (topK prog ev68 L f68 [1, 1, 0, 1] (outV prog f68)).x) L (S68_0 a0 (0 : Int)) := by kernel_rfl
theorem r68_0 (L : Nat) (a0 : (List Int)) (k : St cxT.ty → Option (V cxT.ty)) (xk : Nat → St cxT.ty → Option (V cxT.ty)) (g : St cxT.ty → Option (V cxT.ty)) (v0_8 : Int) : roundF prog ev68 L f68 0 [1, 1, 0, 1, 0, 0] (outK (outV prog f68) k xk) g (S68_0 a0 v0_8) =
  bif (decide (v0_8 < (Nat.cast (List.length a0) : Int))) then bif ((decide ((0 : Int) ≤ v0_8)) && (decide (v0_8 < (Nat.cast (List.length a0) : Int)))) then bif ((List.getD a0 (Int.toNat v0_8) (0 : Int)) != (0 : Int)) then some (n68 (List.getD a0 (Int.toNat v0_8) (0 : Int)))
      else g (S68_0 a0 (Go.IntKind.wrap Go.IntKind.i64 (v0_8 + (1 : Int))))
    else none
  else k (X68_0 a0) := by kernel_rfl
theorem t68_0 (L : Nat) (a0 : (List Int)) : (topK prog ev68 L f68 [1, 1, 0, 1] (outV prog f68)).n (X68_0 a0) =
  some (n68 (0 : Int)) := by kernel_rfl
def l68_0 (L : Nat) (a0 : (List Int)) : Nat → Int → (Option Int) → Option Int
  | 0, _, _ => none
  | n + 1, v0_8, k =>
    bif (decide (v0_8 < (Nat.cast (List.length a0) : Int))) then bif ((decide ((0 : Int) ≤ v0_8)) && (decide (v0_8 < (Nat.cast (List.length a0) : Int)))) then bif ((List.getD a0 (Int.toNat v0_8) (0 : Int)) != (0 : Int)) then some (List.getD a0 (Int.toNat v0_8) (0 : Int))
        else l68_0 L a0 n (Go.IntKind.wrap Go.IntKind.i64 (v0_8 + (1 : Int))) k
      else none
    else k
theorem h68_0 (L : Nat) (a0 : (List Int)) (k : St cxT.ty → Option (V cxT.ty)) (xk : Nat → St cxT.ty → Option (V cxT.ty)) (k' : Option Int) (hk : k (X68_0 a0) = (k').map n68) : ∀ (n : Nat) (v0_8 : Int), headF prog ev68 L f68 0 [1, 1, 0, 1, 0, 0] (outK (outV prog f68) k xk) n (S68_0 a0 v0_8) = (l68_0 L a0 n v0_8 k').map n68
  | 0, _ => rfl
  | n + 1, v0_8 => by
    rw [headF_round, r68_0]
    have ih := h68_0 L a0 k xk k' hk n
    simp only [l68_0, map_bif, map_tst, map_bnd, Option.map_some, Option.map_none, ih, hk]
def g68 (L : Nat) (a0 : (List Int)) : Option Int :=
  l68_0 L a0 L (0 : Int) (some (0 : Int))
theorem e68 (L : Nat) (a0 : (List Int)) : evF prog ev68 (loopN L) f68 (a68.enc a0) = (g68 L a0).map n68 := by
  let K'0 : Option Int := (some (0 : Int))
  have hin0 : ∀ (v0_8 : Int), headF prog ev68 L f68 0 [1, 1, 0, 1, 0, 0] (outK (outV prog f68) (topK prog ev68 L f68 [1, 1, 0, 1] (outV prog f68)).n (topK prog ev68 L f68 [1, 1, 0, 1] (outV prog f68)).x) L (S68_0 a0 v0_8) = (l68_0 L a0 L v0_8 K'0).map n68 := fun v0_8 => h68_0 L a0 _ _ K'0 (by rw [t68_0]; simp only [K'0, map_bif, map_tst, map_bnd, Option.map_some, Option.map_none]) L v0_8
  rw [i68]; simp only [g68, map_bif, map_tst, map_bnd, Option.map_some, Option.map_none, hin0, K'0]
theorem s68 (m : (List Int) → Option Int) (hm : ∀ (x : (List Int)) t, m x = some t → ∃ L, g68 L x = some t) : Sat prog cxT 68 (c68 m) :=
  sat_t cxT_ok cxT_pok (by rfl) (fn := f68) rfl a68 n68 dd68 m ev68 kok_nil kwok_nil (fun L x => g68 L x) (fun L x => e68 L x) hm hs68
/-! cmp.Compare[int64] -/
def ev69 (m80 : Int → Option Bool) : Env cxT := { Kc := kcOf [(80, c80 m80)], Kw := kwOf [], lv := fun i => [], xv := fun i => none }
theorem i69 (m80 : Int → Option Bool) (L : Nat) (a0 : Int) (a1 : Int) : evF prog (ev69 m80) (loopN L) f69 (a69.enc (a0, a1)) =
  tst (m80 a0) false fun (q1 : Bool) => tst (m80 a1) false fun (q2 : Bool) => bif q1 then bif q2 then some (n69 (0 : Int))
        else some (n69 (-(1 : Int)))
      else bif q2 then some (n69 (1 : Int))
      else bif (decide (a0 < a1)) then some (n69 (-(1 : Int)))
      else bif (decide (a0 > a1)) then some (n69 (1 : Int))
      else some (n69 (0 : Int)) := by kernel_rfl
def g69 (m80 : Int → Option Bool) (L : Nat) (a0 : Int) (a1 : Int) : Option Int :=
  tst (m80 a0) false fun (q1 : Bool) => tst (m80 a1) false fun (q2 : Bool) => bif q1 then bif q2 then some (0 : Int)
        else some (-(1 : Int))
      else bif q2 then some (1 : Int)
      else bif (decide (a0 < a1)) then some (-(1 : Int))
      else bif (decide (a0 > a1)) then some (1 : Int)
      else some (0 : Int)
theorem e69 (m80 : Int → Option Bool) (L : Nat) (a0 : Int) (a1 : Int) : evF prog (ev69 m80) (loopN L) f69 (a69.enc (a0, a1)) = (g69 m80 L a0 a1).map n69 := by
  rw [i69]; simp only [g69, map_bif, map_tst, map_bnd, Option.map_some, Option.map_none]
theorem s69 (m80 : Int → Option Bool) (h80 : Sat prog cxT 80 (c80 m80)) (m : (Int × Int) → Option Int) (hm : ∀ (x : (Int × Int)) t, m x = some t → ∃ L, g69 m80 L x.1 x.2 = some t) : Sat prog cxT 69 (c69 m) :=
  sat_t cxT_ok cxT_pok (by rfl) (fn := f69) rfl a69 n69 dd69 m (ev69 m80) (kok_cons h80 kok_nil) kwok_nil (fun L x => g69 m80 L x.1 x.2) (fun L x => e69 m80 L x.1 x.2) hm hs69
/-! cmp.isNaN[int64] -/
def ev80 : Env cxT := { Kc := kcOf [], Kw := kwOf [], lv := fun i => [], xv := fun i => none }
theorem i80 (L : Nat) (a0 : Int) : evF prog ev80 (loopN L) f80 (a80.enc a0) =
  some (n80 (a0 != a0)) := by kernel_rfl
def g80 (L : Nat) (a0 : Int) : Option Bool :=
  some (a0 != a0)
theorem e80 (L : Nat) (a0 : Int) : evF prog ev80 (loopN L) f80 (a80.enc a0) = (g80 L a0).map n80 := by
  rw [i80]; simp only [g80, map_bif, map_tst, map_bnd, Option.map_some, Option.map_none]
theorem s80 (m : Int → Option Bool) (hm : ∀ (x : Int) t, m x = some t → ∃ L, g80 L x = some t) : Sat prog cxT 80 (c80 m) :=
  sat_t cxT_ok cxT_pok (by rfl) (fn := f80) rfl a80 n80 dd80 m ev80 kok_nil kwok_nil (fun L x => g80 L x) (fun L x => e80 L x) hm hs80
/-! loop.example/g00222/impl.backendPlace$1 -/
def ev82 (m69 : (Int × Int) → Option Int) : Env cxT := { Kc := kcOf [(69, c69 m69)], Kw := kwOf [], lv := fun i => [], xv := fun i => none }
theorem i82 (m69 : (Int × Int) → Option Int) (L : Nat) (a0_0 : Int) (a0_1 : Int) (a0_2 : Int) (a0_3 : Int) (a0_4 : Bool) (a1 : Int) : evF prog (ev82 m69) (loopN L) f82 (a82.enc ((a0_0, a0_1, a0_2, a0_3, a0_4), a1)) =
  tst (m69 (a0_0, a1)) (0 : Int) fun (q1 : Int) => some (n82 q1) := by kernel_rfl
def g82 (m69 : (Int × Int) → Option Int) (L : Nat) (a0_0 : Int) (a0_1 : Int) (a0_2 : Int) (a0_3 : Int) (a0_4 : Bool) (a1 : Int) : Option Int :=
  tst (m69 (a0_0, a1)) (0 : Int) fun (q1 : Int) => some q1
theorem e82 (m69 : (Int × Int) → Option Int) (L : Nat) (a0_0 : Int) (a0_1 : Int) (a0_2 : Int) (a0_3 : Int) (a0_4 : Bool) (a1 : Int) : evF prog (ev82 m69) (loopN L) f82 (a82.enc ((a0_0, a0_1, a0_2, a0_3, a0_4), a1)) = (g82 m69 L a0_0 a0_1 a0_2 a0_3 a0_4 a1).map n82 := by
  rw [i82]; simp only [g82, map_bif, map_tst, map_bnd, Option.map_some, Option.map_none]
theorem s82 (m69 : (Int × Int) → Option Int) (h69 : Sat prog cxT 69 (c69 m69)) (m : ((Int × Int × Int × Int × Bool) × Int) → Option Int) (hm : ∀ (x : ((Int × Int × Int × Int × Bool) × Int)) t, m x = some t → ∃ L, g82 m69 L x.1.1 x.1.2.1 x.1.2.2.1 x.1.2.2.2.1 x.1.2.2.2.2 x.2 = some t) : Sat prog cxT 82 (c82 m) :=
  sat_t cxT_ok cxT_pok (by rfl) (fn := f82) rfl a82 n82 dd82 m (ev82 m69) (kok_cons h69 kok_nil) kwok_nil (fun L x => g82 m69 L x.1.1 x.1.2.1 x.1.2.2.1 x.1.2.2.2.1 x.1.2.2.2.2 x.2) (fun L x => e82 m69 L x.1.1 x.1.2.1 x.1.2.2.1 x.1.2.2.2.1 x.1.2.2.2.2 x.2) hm hs82
/-! loop.example/g00222/laws.szVip -/
def ev45 (m74 : ((List Int) × Int) → Option Int) : Env cxT := { Kc := kcOf [(74, c74 m74)], Kw := kwOf [], lv := fun i => [], xv := fun i => none }
theorem i45 (m74 : ((List Int) × Int) → Option Int) (L : Nat) (a0_0 : Int) (a0_1 : Int) (a0_2 : Int) (a0_3 : (List Int)) (a1 : Int) : evF prog (ev45 m74) (loopN L) f45 (a45.enc ((a0_0, a0_1, a0_2, a0_3), a1)) =
  tst (m74 (a0_3, a1)) (0 : Int) fun (q1 : Int) => bif (decide (q1 < (0 : Int))) then some (n45 (-(1 : Int)))
    else some (n45 q1) := by kernel_rfl
def g45 (m74 : ((List Int) × Int) → Option Int) (L : Nat) (a0_0 : Int) (a0_1 : Int) (a0_2 : Int) (a0_3 : (List Int)) (a1 : Int) : Option Int :=
  tst (m74 (a0_3, a1)) (0 : Int) fun (q1 : Int) => bif (decide (q1 < (0 : Int))) then some (-(1 : Int))
    else some q1
theorem e45 (m74 : ((List Int) × Int) → Option Int) (L : Nat) (a0_0 : Int) (a0_1 : Int) (a0_2 : Int) (a0_3 : (List Int)) (a1 : Int) : evF prog (ev45 m74) (loopN L) f45 (a45.enc ((a0_0, a0_1, a0_2, a0_3), a1)) = (g45 m74 L a0_0 a0_1 a0_2 a0_3 a1).map n45 := by
  rw [i45]; simp only [g45, map_bif, map_tst, map_bnd, Option.map_some, Option.map_none]
theorem s45 (m74 : ((List Int) × Int) → Option Int) (h74 : Sat prog cxT 74 (c74 m74)) (m : ((Int × Int × Int × (List Int)) × Int) → Option Int) (hm : ∀ (x : ((Int × Int × Int × (List Int)) × Int)) t, m x = some t → ∃ L, g45 m74 L x.1.1 x.1.2.1 x.1.2.2.1 x.1.2.2.2 x.2 = some t) : Sat prog cxT 45 (c45 m) :=
  sat_t cxT_ok cxT_pok (by rfl) (fn := f45) rfl a45 n45 dd45 m (ev45 m74) (kok_cons h74 kok_nil) kwok_nil (fun L x => g45 m74 L x.1.1 x.1.2.1 x.1.2.2.1 x.1.2.2.2 x.2) (fun L x => e45 m74 L x.1.1 x.1.2.1 x.1.2.2.1 x.1.2.2.2 x.2) hm hs45
/-! loop.example/g00222/laws.szInt64S -/
def ev74 : Env cxT := { Kc := kcOf [], Kw := kwOf [], lv := fun i => [], xv := fun i => none }
theorem i74 (L : Nat) (a0 : (List Int)) (a1 : Int) : evF prog ev74 (loopN L) f74 (a74.enc (a0, a1)) =
  bif (decide ((Go.IntKind.wrap Go.IntKind.i64 (a1 - (Nat.cast (List.length a0) : Int))) < (0 : Int))) then some (n74 (-(1 : Int)))
  else some (n74 (Go.IntKind.wrap Go.IntKind.i64 (a1 - (Nat.cast (List.length a0) : Int)))) := by kernel_rfl
def g74 (L : Nat) (a0 : (List Int)) (a1 : Int) : Option Int :=
  bif (decide ((Go.IntKind.wrap Go.IntKind.i64 (a1 - (Nat.cast (List.length a0) : Int))) < (0 : Int))) then some (-(1 : Int))
  else some (Go.IntKind.wrap Go.IntKind.i64 (a1 - (Nat.cast (List.length a0) : Int)))
theorem e74 (L : Nat) (a0 : (List Int)) (a1 : Int) : evF prog ev74 (loopN L) f74 (a74.enc (a0, a1)) = (g74 L a0 a1).map n74 := by
  rw [i74]; simp only [g74, map_bif, map_tst, map_bnd, Option.map_some, Option.map_none]
theorem s74 (m : ((List Int) × Int) → Option Int) (hm : ∀ (x : ((List Int) × Int)) t, m x = some t → ∃ L, g74 L x.1 x.2 = some t) : Sat prog cxT 74 (c74 m) :=
  sat_t cxT_ok cxT_pok (by rfl) (fn := f74) rfl a74 n74 dd74 m ev74 kok_nil kwok_nil (fun L x => g74 L x.1 x.2) (fun L x => e74 L x.1 x.2) hm hs74
/-! loop.example/g00222/laws.toInt64S -/
def ev75 : Env cxT := { Kc := kcOf [], Kw := kwOf [], lv := fun i => if i = 0 then [(0, [some 2]), (3, [some 2]), (4, [])] else [], xv := fun i => if i = 0 then some [(3, [some 2])] else none }
def S75_0 (a0 : (List Int)) (v0_3 : (List Int)) (v0_4 : Int) : St cxT.ty := { slots := [(.inl (.inl (ls { own := 0, nm := 0, e := 2, o := false, xs := a0 }))), junk, junk, (.inl (.inl (ls { own := 1, nm := 192, e := 2, o := true, xs := v0_3 }))), (.inl (.inl (lv (.int .i64 v0_4))))] ++ List.replicate 17 junk, D := [], F := [], ctr := 1 }
def X75_0 (a0 : (List Int)) (w0_3 : (List Int)) : St cxT.ty := { slots := [junk, junk, junk, (.inl (.inl (ls { own := 1, nm := 192, e := 2, o := true, xs := w0_3 })))] ++ List.replicate 18 junk, D := [], F := [], ctr := 1 }
theorem i75 (L : Nat) (a0 : (List Int)) : evF prog ev75 (loopN L) f75 (a75.enc a0) =
  bif (((decide ((0 : Int) ≤ (Nat.cast (List.length a0) : Int))) && (decide ((Nat.cast (List.length a0) : Int) ≤ (Nat.cast (List.length a0) : Int)))) && (decide ((Nat.cast (List.length a0) : Int) ≤ (1000000000 : Int)))) then headF prog ev75 L f75 0 [1, 1, 0, 1, 0, 0] (outK (outV prog f75) (topK prog ev75 L f75 [1, 1, 0, 1] (outV prog f75)).n (topK prog ev75 L f75 [1, 1, 0, 1] (outV prog f75)).x) L (S75_0 a0 (List.replicate (Int.toNat (Nat.cast (List.length a0) : Int)) (0 : Int)) (0 : Int))
  else none := by kernel_rfl
theorem r75_0 (L : Nat) (a0 : (List Int)) (k : St cxT.ty → Option (V cxT.ty)) (xk : Nat → St cxT.ty → Option (V cxT.ty)) (g : St cxT.ty → Option (V cxT.ty)) (v0_3 : (List Int)) (v0_4 : Int) : roundF prog ev75 L f75 0 [1, 1, 0, 1, 0, 0] (outK (outV prog f75) k xk) g (S75_0 a0 v0_3 v0_4) =
  bif (decide (v0_4 < (Nat.cast (List.length a0) : Int))) then bif ((decide ((0 : Int) ≤ v0_4)) && (decide (v0_4 < (Nat.cast (List.length a0) : Int)))) then bif ((decide ((0 : Int) ≤ v0_4)) && (decide (v0_4 < (Nat.cast (List.length v0_3) : Int)))) then g (S75_0 a0 (List.set v0_3 (Int.toNat v0_4) (List.getD a0 (Int.toNat v0_4) (0 : Int))) (Go.IntKind.wrap Go.IntKind.i64 (v0_4 + (1 : Int))))
      else none
    else none
  else k (X75_0 a0 v0_3) := by kernel_rfl
theorem t75_0 (L : Nat) (a0 : (List Int)) (w0_3 : (List Int)) : (topK prog ev75 L f75 [1, 1, 0, 1] (outV prog f75)).n (X75_0 a0 w0_3) =
  some (n75 w0_3) := by kernel_rfl
def l75_0 (L : Nat) (a0 : (List Int)) : Nat → (List Int) → Int → ((List Int) → Option (List Int)) → Option (List Int)
  | 0, _, _, _ => none
  | n + 1, v0_3, v0_4, k =>
    bif (decide (v0_4 < (Nat.cast (List.length a0) : Int))) then bif ((decide ((0 : Int) ≤ v0_4)) && (decide (v0_4 < (Nat.cast (List.length a0) : Int)))) then bif ((decide ((0 : Int) ≤ v0_4)) && (decide (v0_4 < (Nat.cast (List.length v0_3) : Int)))) then l75_0 L a0 n (List.set v0_3 (Int.toNat v0_4) (List.getD a0 (Int.toNat v0_4) (0 : Int))) (Go.IntKind.wrap Go.IntKind.i64 (v0_4 + (1 : Int))) k
        else none
      else none
    else k v0_3
theorem h75_0 (L : Nat) (a0 : (List Int)) (k : St cxT.ty → Option (V cxT.ty)) (xk : Nat → St cxT.ty → Option (V cxT.ty)) (k' : (List Int) → Option (List Int)) (hk : ∀ (w0_3 : (List Int)), k (X75_0 a0 w0_3) = (k' w0_3).map n75) : ∀ (n : Nat) (v0_3 : (List Int)) (v0_4 : Int), headF prog ev75 L f75 0 [1, 1, 0, 1, 0, 0] (outK (outV prog f75) k xk) n (S75_0 a0 v0_3 v0_4) = (l75_0 L a0 n v0_3 v0_4 k').map n75
  | 0, _, _ => rfl
  | n + 1, v0_3, v0_4 => by
    rw [headF_round, r75_0]
    have ih := h75_0 L a0 k xk k' hk n
    simp only [l75_0, map_bif, map_tst, map_bnd, Option.map_some, Option.map_none, ih, hk]
def g75 (L : Nat) (a0 : (List Int)) : Option (List Int) :=
  bif (((decide ((0 : Int) ≤ (Nat.cast (List.length a0) : Int))) && (decide ((Nat.cast (List.length a0) : Int) ≤ (Nat.cast (List.length a0) : Int)))) && (decide ((Nat.cast (List.length a0) : Int) ≤ (1000000000 : Int)))) then l75_0 L a0 L (List.replicate (Int.toNat (Nat.cast (List.length a0) : Int)) (0 : Int)) (0 : Int) (fun (w0_3 : (List Int)) => some w0_3)
  else none
theorem e75 (L : Nat) (a0 : (List Int)) : evF prog ev75 (loopN L) f75 (a75.enc a0) = (g75 L a0).map n75 := by
  let K'0 : (List Int) → Option (List Int) := (fun (w0_3 : (List Int)) => some w0_3)
  have hin0 : ∀ (v0_3 : (List Int)) (v0_4 : Int), headF prog ev75 L f75 0 [1, 1, 0, 1, 0, 0] (outK (outV prog f75) (topK prog ev75 L f75 [1, 1, 0, 1] (outV prog f75)).n (topK prog ev75 L f75 [1, 1, 0, 1] (outV prog f75)).x) L (S75_0 a0 v0_3 v0_4) = (l75_0 L a0 L v0_3 v0_4 K'0).map n75 := fun v0_3 v0_4 => h75_0 L a0 _ _ K'0 (fun w0_3 => by rw [t75_0]; simp only [K'0, map_bif, map_tst, map_bnd, Option.map_some, Option.map_none]) L v0_3 v0_4
  rw [i75]; simp only [g75, map_bif, map_tst, map_bnd, Option.map_some, Option.map_none, hin0, K'0]
theorem s75 (m : (List Int) → Option (List Int)) (hm : ∀ (x : (List Int)) t, m x = some t → ∃ L, g75 L x = some t) : Sat prog cxT 75 (c75 m) :=
  sat_t cxT_ok cxT_pok (by rfl) (fn := f75) rfl a75 n75 dd75 m ev75 kok_nil kwok_nil (fun L x => g75 L x) (fun L x => e75 L x) hm hs75
/-! loop.example/g00222/laws.toVip -/
def ev47 (m75 : (List Int) → Option (List Int)) : Env cxT := { Kc := kcOf [(75, c75 m75)], Kw := kwOf [], lv := fun i => [], xv := fun i => none }
theorem i47 (m75 : (List Int) → Option (List Int)) (L : Nat) (a0_0 : Int) (a0_1 : Int) (a0_2 : Int) (a0_3 : (List Int)) : evF prog (ev47 m75) (loopN L) f47 (a47.enc (a0_0, a0_1, a0_2, a0_3)) =
  tst (m75 a0_3) [] fun (q1 : (List Int)) => some (n47 (a0_0, a0_1, a0_2, q1)) := by kernel_rfl
def g47 (m75 : (List Int) → Option (List Int)) (L : Nat) (a0_0 : Int) (a0_1 : Int) (a0_2 : Int) (a0_3 : (List Int)) : Option (Int × Int × Int × (List Int)) :=
  tst (m75 a0_3) [] fun (q1 : (List Int)) => some (a0_0, a0_1, a0_2, q1)
theorem e47 (m75 : (List Int) → Option (List Int)) (L : Nat) (a0_0 : Int) (a0_1 : Int) (a0_2 : Int) (a0_3 : (List Int)) : evF prog (ev47 m75) (loopN L) f47 (a47.enc (a0_0, a0_1, a0_2, a0_3)) = (g47 m75 L a0_0 a0_1 a0_2 a0_3).map n47 := by
  rw [i47]; simp only [g47, map_bif, map_tst, map_bnd, Option.map_some, Option.map_none]
theorem s47 (m75 : (List Int) → Option (List Int)) (h75 : Sat prog cxT 75 (c75 m75)) (m : (Int × Int × Int × (List Int)) → Option (Int × Int × Int × (List Int))) (hm : ∀ (x : (Int × Int × Int × (List Int))) t, m x = some t → ∃ L, g47 m75 L x.1 x.2.1 x.2.2.1 x.2.2.2 = some t) : Sat prog cxT 47 (c47 m) :=
  sat_t cxT_ok cxT_pok (by rfl) (fn := f47) rfl a47 n47 dd47 m (ev47 m75) (kok_cons h75 kok_nil) kwok_nil (fun L x => g47 m75 L x.1 x.2.1 x.2.2.1 x.2.2.2) (fun L x => e47 m75 L x.1 x.2.1 x.2.2.1 x.2.2.2) hm hs47
end Go.Proofs.Try

set_option maxHeartbeats 0
set_option maxRecDepth 100000
set_option linter.unusedVariables false
set_option linter.unusedSimpArgs false
namespace Go.Proofs.Try
open Go Go.VM Go.RowKit
/-! loop.example/g00222/spec.l5Fault -/
def ev19 (m36 : Int → Option Bool) (m37 : (Int × Int × Int × Int × Bool) → Option Bool) (m38 : ((Int × ((List (Int × (Int × (Int × (Int × Bool))))) × (List (Int × (Int × (Int × (List Int))))))) × Int) → Option Int) : Env cxT := { Kc := kcOf [(36, c36 m36), (37, c37 m37), (38, c38 m38)], Kw := kwOf [], lv := fun i => if i = 0 then [(0, [none, some 71, some 75]), (3, [])] else if i = 2 then [(0, [none, some 71, some 75]), (4, [])] else [], xv := fun i => if i = 0 then some [(0, [none, some 71, some 75])] else if i = 2 then some [] else none }
def S19_0 (a0 : (Int × ((List (Int × (Int × (Int × (Int × Bool))))) × (List (Int × (Int × (Int × (List Int)))))))) (v0_3 : Int) : St cxT.ty := { slots := [(.inr (.inr { kind := 2, nm := 0, cells := [], s := { own := 0, nm := 0, e := 33, o := false, xs := (List.cons a0 []) }, i := 0, off := 0 })), junk, junk, (.inl (.inl (lv (.int .i64 v0_3))))] ++ List.replicate 77 junk, D := [], F := [], ctr := 1 }
def X19_0 (a0 : (Int × ((List (Int × (Int × (Int × (Int × Bool))))) × (List (Int × (Int × (Int × (List Int)))))))) : St cxT.ty := { slots := [(.inr (.inr { kind := 2, nm := 0, cells := [], s := { own := 0, nm := 0, e := 33, o := false, xs := (List.cons a0 []) }, i := 0, off := 0 }))] ++ List.replicate 80 junk, D := [], F := [], ctr := 1 }
def S19_2 (a0 : (Int × ((List (Int × (Int × (Int × (Int × Bool))))) × (List (Int × (Int × (Int × (List Int)))))))) (v2_4 : Int) : St cxT.ty := { slots := [(.inr (.inr { kind := 2, nm := 0, cells := [], s := { own := 0, nm := 0, e := 33, o := false, xs := (List.cons a0 []) }, i := 0, off := 0 })), junk, junk, junk, (.inl (.inl (lv (.int .i64 v2_4))))] ++ List.replicate 76 junk, D := [], F := [], ctr := 1 }
def X19_2 (a0 : (Int × ((List (Int × (Int × (Int × (Int × Bool))))) × (List (Int × (Int × (Int × (List Int)))))))) : St cxT.ty := { slots := [] ++ List.replicate 81 junk, D := [], F := [], ctr := 1 }
theorem i19 (m36 : Int → Option Bool) (m37 : (Int × Int × Int × Int × Bool) → Option Bool) (m38 : ((Int × ((List (Int × (Int × (Int × (Int × Bool))))) × (List (Int × (Int × (Int × (List Int))))))) × Int) → Option Int) (L : Nat) (a0 : (Int × ((List (Int × (Int × (Int × (Int × Bool))))) × (List (Int × (Int × (Int × (List Int)))))))) : evF prog (ev19 m36 m37 m38) (loopN L) f19 (a19.enc a0) =
  tst (m36 a0.1) false fun (q1 : Bool) => bif (!q1) then some (n19 (3 : Int))
    else bif (decide ((Nat.cast (List.length a0.2.1) : Int) > (8 : Int))) then some (n19 (2 : Int))
    else bif (decide ((Nat.cast (List.length a0.2.2) : Int) > (4 : Int))) then some (n19 (2 : Int))
    else headF prog (ev19 m36 m37 m38) L f19 0 [1, 1, 1, 0, 1, 0, 0] (outK (outV prog f19) (topK prog (ev19 m36 m37 m38) L f19 [1, 1, 1, 0, 1] (outV prog f19)).n (topK prog (ev19 m36 m37 m38) L f19 [1, 1, 1, 0, 1] (outV prog f19)).x) L (S19_0 a0 (0 : Int)) := by kernel_rfl
theorem r19_0 (m36 : Int → Option Bool) (m37 : (Int × Int × Int × Int × Bool) → Option Bool) (m38 : ((Int × ((List (Int × (Int × (Int × (Int × Bool))))) × (List (Int × (Int × (Int × (List Int))))))) × Int) → Option Int) (L : Nat) (a0 : (Int × ((List (Int × (Int × (Int × (Int × Bool))))) × (List (Int × (Int × (Int × (List Int)))))))) (k : St cxT.ty → Option (V cxT.ty)) (xk : Nat → St cxT.ty → Option (V cxT.ty)) (g : St cxT.ty → Option (V cxT.ty)) (v0_3 : Int) : roundF prog (ev19 m36 m37 m38) L f19 0 [1, 1, 1, 0, 1, 0, 0] (outK (outV prog f19) k xk) g (S19_0 a0 v0_3) =
  bif (decide (v0_3 < (Nat.cast (List.length a0.2.1) : Int))) then bif ((decide ((0 : Int) ≤ v0_3)) && (decide (v0_3 < (Nat.cast (List.length a0.2.1) : Int)))) then tst (m37 ((List.getD a0.2.1 (Int.toNat v0_3) ((0 : Int), ((0 : Int), ((0 : Int), ((0 : Int), Bool.false))))).1, ((List.getD a0.2.1 (Int.toNat v0_3) ((0 : Int), ((0 : Int), ((0 : Int), ((0 : Int), Bool.false))))).2.1, ((List.getD a0.2.1 (Int.toNat v0_3) ((0 : Int), ((0 : Int), ((0 : Int), ((0 : Int), Bool.false))))).2.2.1, ((List.getD a0.2.1 (Int.toNat v0_3) ((0 : Int), ((0 : Int), ((0 : Int), ((0 : Int), Bool.false))))).2.2.2.1, (List.getD a0.2.1 (Int.toNat v0_3) ((0 : Int), ((0 : Int), ((0 : Int), ((0 : Int), Bool.false))))).2.2.2.2))))) false fun (q3 : Bool) => bif (!q3) then some (n19 (3 : Int))
        else bif (decide (v0_3 > (0 : Int))) then bif ((decide ((0 : Int) ≤ v0_3)) && (decide (v0_3 < (Nat.cast (List.length a0.2.1) : Int)))) then bif ((decide ((0 : Int) ≤ (Go.IntKind.wrap Go.IntKind.i64 (v0_3 - (1 : Int))))) && (decide ((Go.IntKind.wrap Go.IntKind.i64 (v0_3 - (1 : Int))) < (Nat.cast (List.length a0.2.1) : Int)))) then bif (decide ((List.getD a0.2.1 (Int.toNat v0_3) ((0 : Int), ((0 : Int), ((0 : Int), ((0 : Int), Bool.false))))).1 ≤ (List.getD a0.2.1 (Int.toNat (Go.IntKind.wrap Go.IntKind.i64 (v0_3 - (1 : Int)))) ((0 : Int), ((0 : Int), ((0 : Int), ((0 : Int), Bool.false))))).1)) then some (n19 (1 : Int))
              else g (S19_0 a0 (Go.IntKind.wrap Go.IntKind.i64 (v0_3 + (1 : Int))))
            else none
          else none
        else g (S19_0 a0 (Go.IntKind.wrap Go.IntKind.i64 (v0_3 + (1 : Int))))
    else none
  else k (X19_0 a0) := by kernel_rfl
theorem t19_0 (m36 : Int → Option Bool) (m37 : (Int × Int × Int × Int × Bool) → Option Bool) (m38 : ((Int × ((List (Int × (Int × (Int × (Int × Bool))))) × (List (Int × (Int × (Int × (List Int))))))) × Int) → Option Int) (L : Nat) (a0 : (Int × ((List (Int × (Int × (Int × (Int × Bool))))) × (List (Int × (Int × (Int × (List Int)))))))) : (topK prog (ev19 m36 m37 m38) L f19 [1, 1, 1, 0, 1] (outV prog f19)).n (X19_0 a0) =
  headF prog (ev19 m36 m37 m38) L f19 2 [1, 1, 1, 1, 0, 1, 0, 0] (outK (outV prog f19) (topK prog (ev19 m36 m37 m38) L f19 [1, 1, 1, 1, 0, 1] (outV prog f19)).n (topK prog (ev19 m36 m37 m38) L f19 [1, 1, 1, 1, 0, 1] (outV prog f19)).x) L (S19_2 a0 (0 : Int)) := by kernel_rfl
theorem r19_2 (m36 : Int → Option Bool) (m37 : (Int × Int × Int × Int × Bool) → Option Bool) (m38 : ((Int × ((List (Int × (Int × (Int × (Int × Bool))))) × (List (Int × (Int × (Int × (List Int))))))) × Int) → Option Int) (L : Nat) (a0 : (Int × ((List (Int × (Int × (Int × (Int × Bool))))) × (List (Int × (Int × (Int × (List Int)))))))) (k : St cxT.ty → Option (V cxT.ty)) (xk : Nat → St cxT.ty → Option (V cxT.ty)) (g : St cxT.ty → Option (V cxT.ty)) (v2_4 : Int) : roundF prog (ev19 m36 m37 m38) L f19 2 [1, 1, 1, 1, 0, 1, 0, 0] (outK (outV prog f19) k xk) g (S19_2 a0 v2_4) =
  bif (decide (v2_4 < (Nat.cast (List.length a0.2.2) : Int))) then tst (m38 (a0, v2_4)) (0 : Int) fun (q2 : Int) => bif (q2 != (0 : Int)) then some (n19 q2)
      else g (S19_2 a0 (Go.IntKind.wrap Go.IntKind.i64 (v2_4 + (1 : Int))))
  else k (X19_2 a0) := by kernel_rfl
theorem t19_2 (m36 : Int → Option Bool) (m37 : (Int × Int × Int × Int × Bool) → Option Bool) (m38 : ((Int × ((List (Int × (Int × (Int × (Int × Bool))))) × (List (Int × (Int × (Int × (List Int))))))) × Int) → Option Int) (L : Nat) (a0 : (Int × ((List (Int × (Int × (Int × (Int × Bool))))) × (List (Int × (Int × (Int × (List Int)))))))) : (topK prog (ev19 m36 m37 m38) L f19 [1, 1, 1, 1, 0, 1] (outV prog f19)).n (X19_2 a0) =
  some (n19 (0 : Int)) := by kernel_rfl
def l19_2 (m36 : Int → Option Bool) (m37 : (Int × Int × Int × Int × Bool) → Option Bool) (m38 : ((Int × ((List (Int × (Int × (Int × (Int × Bool))))) × (List (Int × (Int × (Int × (List Int))))))) × Int) → Option Int) (L : Nat) (a0 : (Int × ((List (Int × (Int × (Int × (Int × Bool))))) × (List (Int × (Int × (Int × (List Int)))))))) : Nat → Int → (Option Int) → Option Int
  | 0, _, _ => none
  | n + 1, v2_4, k =>
    bif (decide (v2_4 < (Nat.cast (List.length a0.2.2) : Int))) then tst (m38 (a0, v2_4)) (0 : Int) fun (q3 : Int) => bif (q3 != (0 : Int)) then some q3
        else l19_2 m36 m37 m38 L a0 n (Go.IntKind.wrap Go.IntKind.i64 (v2_4 + (1 : Int))) k
    else k
theorem h19_2 (m36 : Int → Option Bool) (m37 : (Int × Int × Int × Int × Bool) → Option Bool) (m38 : ((Int × ((List (Int × (Int × (Int × (Int × Bool))))) × (List (Int × (Int × (Int × (List Int))))))) × Int) → Option Int) (L : Nat) (a0 : (Int × ((List (Int × (Int × (Int × (Int × Bool))))) × (List (Int × (Int × (Int × (List Int)))))))) (k : St cxT.ty → Option (V cxT.ty)) (xk : Nat → St cxT.ty → Option (V cxT.ty)) (k' : Option Int) (hk : k (X19_2 a0) = (k').map n19) : ∀ (n : Nat) (v2_4 : Int), headF prog (ev19 m36 m37 m38) L f19 2 [1, 1, 1, 1, 0, 1, 0, 0] (outK (outV prog f19) k xk) n (S19_2 a0 v2_4) = (l19_2 m36 m37 m38 L a0 n v2_4 k').map n19
  | 0, _ => rfl
  | n + 1, v2_4 => by
    rw [headF_round, r19_2]
    have ih := h19_2 m36 m37 m38 L a0 k xk k' hk n
    simp only [l19_2, map_bif, map_tst, map_bnd, Option.map_some, Option.map_none, ih, hk]
def l19_0 (m36 : Int → Option Bool) (m37 : (Int × Int × Int × Int × Bool) → Option Bool) (m38 : ((Int × ((List (Int × (Int × (Int × (Int × Bool))))) × (List (Int × (Int × (Int × (List Int))))))) × Int) → Option Int) (L : Nat) (a0 : (Int × ((List (Int × (Int × (Int × (Int × Bool))))) × (List (Int × (Int × (Int × (List Int)))))))) : Nat → Int → (Option Int) → Option Int
  | 0, _, _ => none
  | n + 1, v0_3, k =>
    bif (decide (v0_3 < (Nat.cast (List.length a0.2.1) : Int))) then bif ((decide ((0 : Int) ≤ v0_3)) && (decide (v0_3 < (Nat.cast (List.length a0.2.1) : Int)))) then tst (m37 ((List.getD a0.2.1 (Int.toNat v0_3) ((0 : Int), ((0 : Int), ((0 : Int), ((0 : Int), Bool.false))))).1, ((List.getD a0.2.1 (Int.toNat v0_3) ((0 : Int), ((0 : Int), ((0 : Int), ((0 : Int), Bool.false))))).2.1, ((List.getD a0.2.1 (Int.toNat v0_3) ((0 : Int), ((0 : Int), ((0 : Int), ((0 : Int), Bool.false))))).2.2.1, ((List.getD a0.2.1 (Int.toNat v0_3) ((0 : Int), ((0 : Int), ((0 : Int), ((0 : Int), Bool.false))))).2.2.2.1, (List.getD a0.2.1 (Int.toNat v0_3) ((0 : Int), ((0 : Int), ((0 : Int), ((0 : Int), Bool.false))))).2.2.2.2))))) false fun (q4 : Bool) => bif (!q4) then some (3 : Int)
          else bif (decide (v0_3 > (0 : Int))) then bif ((decide ((0 : Int) ≤ v0_3)) && (decide (v0_3 < (Nat.cast (List.length a0.2.1) : Int)))) then bif ((decide ((0 : Int) ≤ (Go.IntKind.wrap Go.IntKind.i64 (v0_3 - (1 : Int))))) && (decide ((Go.IntKind.wrap Go.IntKind.i64 (v0_3 - (1 : Int))) < (Nat.cast (List.length a0.2.1) : Int)))) then bif (decide ((List.getD a0.2.1 (Int.toNat v0_3) ((0 : Int), ((0 : Int), ((0 : Int), ((0 : Int), Bool.false))))).1 ≤ (List.getD a0.2.1 (Int.toNat (Go.IntKind.wrap Go.IntKind.i64 (v0_3 - (1 : Int)))) ((0 : Int), ((0 : Int), ((0 : Int), ((0 : Int), Bool.false))))).1)) then some (1 : Int)
                else l19_0 m36 m37 m38 L a0 n (Go.IntKind.wrap Go.IntKind.i64 (v0_3 + (1 : Int))) k
              else none
            else none
          else l19_0 m36 m37 m38 L a0 n (Go.IntKind.wrap Go.IntKind.i64 (v0_3 + (1 : Int))) k
      else none
    else k
theorem h19_0 (m36 : Int → Option Bool) (m37 : (Int × Int × Int × Int × Bool) → Option Bool) (m38 : ((Int × ((List (Int × (Int × (Int × (Int × Bool))))) × (List (Int × (Int × (Int × (List Int))))))) × Int) → Option Int) (L : Nat) (a0 : (Int × ((List (Int × (Int × (Int × (Int × Bool))))) × (List (Int × (Int × (Int × (List Int)))))))) (k : St cxT.ty → Option (V cxT.ty)) (xk : Nat → St cxT.ty → Option (V cxT.ty)) (k' : Option Int) (hk : k (X19_0 a0) = (k').map n19) : ∀ (n : Nat) (v0_3 : Int), headF prog (ev19 m36 m37 m38) L f19 0 [1, 1, 1, 0, 1, 0, 0] (outK (outV prog f19) k xk) n (S19_0 a0 v0_3) = (l19_0 m36 m37 m38 L a0 n v0_3 k').map n19
  | 0, _ => rfl
  | n + 1, v0_3 => by
    rw [headF_round, r19_0]
    have ih := h19_0 m36 m37 m38 L a0 k xk k' hk n
    simp only [l19_0, map_bif, map_tst, map_bnd, Option.map_some, Option.map_none, ih, hk]
def g19 (m36 : Int → Option Bool) (m37 : (Int × Int × Int × Int × Bool) → Option Bool) (m38 : ((Int × ((List (Int × (Int × (Int × (Int × Bool))))) × (List (Int × (Int × (Int × (List Int))))))) × Int) → Option Int) (L : Nat) (a0 : (Int × ((List (Int × (Int × (Int × (Int × Bool))))) × (List (Int × (Int × (Int × (List Int)))))))) : Option Int :=
  tst (m36 a0.1) false fun (q1 : Bool) => bif (!q1) then some (3 : Int)
    else bif (decide ((Nat.cast (List.length a0.2.1) : Int) > (8 : Int))) then some (2 : Int)
    else bif (decide ((Nat.cast (List.length a0.2.2) : Int) > (4 : Int))) then some (2 : Int)
    else l19_0 m36 m37 m38 L a0 L (0 : Int) (l19_2 m36 m37 m38 L a0 L (0 : Int) (some (0 : Int)))
theorem e19 (m36 : Int → Option Bool) (m37 : (Int × Int × Int × Int × Bool) → Option Bool) (m38 : ((Int × ((List (Int × (Int × (Int × (Int × Bool))))) × (List (Int × (Int × (Int × (List Int))))))) × Int) → Option Int) (L : Nat) (a0 : (Int × ((List (Int × (Int × (Int × (Int × Bool))))) × (List (Int × (Int × (Int × (List Int)))))))) : evF prog (ev19 m36 m37 m38) (loopN L) f19 (a19.enc a0) = (g19 m36 m37 m38 L a0).map n19 := by
  let K'2 : Option Int := (some (0 : Int))
  have hin2 : ∀ (v2_4 : Int), headF prog (ev19 m36 m37 m38) L f19 2 [1, 1, 1, 1, 0, 1, 0, 0] (outK (outV prog f19) (topK prog (ev19 m36 m37 m38) L f19 [1, 1, 1, 1, 0, 1] (outV prog f19)).n (topK prog (ev19 m36 m37 m38) L f19 [1, 1, 1, 1, 0, 1] (outV prog f19)).x) L (S19_2 a0 v2_4) = (l19_2 m36 m37 m38 L a0 L v2_4 K'2).map n19 := fun v2_4 => h19_2 m36 m37 m38 L a0 _ _ K'2 (by rw [t19_2]; simp only [K'2, map_bif, map_tst, map_bnd, Option.map_some, Option.map_none]) L v2_4
  let K'0 : Option Int := (l19_2 m36 m37 m38 L a0 L (0 : Int) (some (0 : Int)))
  have hin0 : ∀ (v0_3 : Int), headF prog (ev19 m36 m37 m38) L f19 0 [1, 1, 1, 0, 1, 0, 0] (outK (outV prog f19) (topK prog (ev19 m36 m37 m38) L f19 [1, 1, 1, 0, 1] (outV prog f19)).n (topK prog (ev19 m36 m37 m38) L f19 [1, 1, 1, 0, 1] (outV prog f19)).x) L (S19_0 a0 v0_3) = (l19_0 m36 m37 m38 L a0 L v0_3 K'0).map n19 := fun v0_3 => h19_0 m36 m37 m38 L a0 _ _ K'0 (by rw [t19_0]; simp only [K'0, map_bif, map_tst, map_bnd, Option.map_some, Option.map_none, hin2, K'2]) L v0_3
  rw [i19]; simp only [g19, map_bif, map_tst, map_bnd, Option.map_some, Option.map_none, hin2, K'2, hin0, K'0]
theorem s19 (m36 : Int → Option Bool) (m37 : (Int × Int × Int × Int × Bool) → Option Bool) (m38 : ((Int × ((List (Int × (Int × (Int × (Int × Bool))))) × (List (Int × (Int × (Int × (List Int))))))) × Int) → Option Int) (h36 : Sat prog cxT 36 (c36 m36)) (h37 : Sat prog cxT 37 (c37 m37)) (h38 : Sat prog cxT 38 (c38 m38)) (m : (Int × ((List (Int × (Int × (Int × (Int × Bool))))) × (List (Int × (Int × (Int × (List Int))))))) → Option Int) (hm : ∀ (x : (Int × ((List (Int × (Int × (Int × (Int × Bool))))) × (List (Int × (Int × (Int × (List Int)))))))) t, m x = some t → ∃ L, g19 m36 m37 m38 L x = some t) : Sat prog cxT 19 (c19 m) :=
  sat_t cxT_ok cxT_pok (by rfl) (fn := f19) rfl a19 n19 dd19 m (ev19 m36 m37 m38) (kok_cons h36 (kok_cons h37 (kok_cons h38 kok_nil))) kwok_nil (fun L x => g19 m36 m37 m38 L x) (fun L x => e19 m36 m37 m38 L x) hm hs19
/-! loop.example/g00222/spec.l5Vip -/
def ev38 (m57 : Int → Option Bool) (m58 : Int → Option Bool) (m59 : Int → Option Bool) (m60 : ((Int × Int × Int × (List Int)) × (Int × Int × Int × (List Int))) → Option Bool) (m61 : ((Int × ((List (Int × (Int × (Int × (Int × Bool))))) × (List (Int × (Int × (Int × (List Int))))))) × Int) → Option Int) : Env cxT := { Kc := kcOf [(57, c57 m57), (58, c58 m58), (59, c59 m59), (60, c60 m60), (61, c61 m61)], Kw := kwOf [], lv := fun i => if i = 0 then [(0, [none, some 71, some 75]), (5, [none, none, none, some 2]), (6, [])] else if i = 2 then [(5, [none, none, none, some 2]), (7, [])] else [], xv := fun i => if i = 0 then some [(5, [none, none, none, some 2])] else if i = 2 then some [] else none }
def S38_0 (a0 : (Int × ((List (Int × (Int × (Int × (Int × Bool))))) × (List (Int × (Int × (Int × (List Int)))))))) (a1 : Int) (v0_5_0 : Int) (v0_5_1 : Int) (v0_5_2 : Int) (v0_5_3 : (List Int)) (v0_6 : Int) : St cxT.ty := { slots := [(.inr (.inr { kind := 2, nm := 0, cells := [], s := { own := 0, nm := 0, e := 33, o := false, xs := (List.cons a0 []) }, i := 0, off := 0 })), junk, junk, junk, junk, (.inr (.inr { kind := 0, nm := 320, cells := [(lv (.int .i64 v0_5_0)), (lv (.int .i64 v0_5_1)), (lv (.int .i64 v0_5_2)), (ls { own := 0, nm := 0, e := 2, o := false, xs := v0_5_3 })], s := { own := 0, nm := 0, e := 0, o := false, xs := ([] : List (PUnit)) }, i := 0, off := 0 })), (.inl (.inl (lv (.int .i64 v0_6))))] ++ List.replicate 73 junk, D := [], F := [], ctr := 1 }
def X38_0 (a0 : (Int × ((List (Int × (Int × (Int × (Int × Bool))))) × (List (Int × (Int × (Int × (List Int)))))))) (a1 : Int) (w0_5_0 : Int) (w0_5_1 : Int) (w0_5_2 : Int) (w0_5_3 : (List Int)) : St cxT.ty := { slots := [junk, junk, junk, junk, junk, (.inr (.inr { kind := 0, nm := 320, cells := [(lv (.int .i64 w0_5_0)), (lv (.int .i64 w0_5_1)), (lv (.int .i64 w0_5_2)), (ls { own := 0, nm := 0, e := 2, o := false, xs := w0_5_3 })], s := { own := 0, nm := 0, e := 0, o := false, xs := ([] : List (PUnit)) }, i := 0, off := 0 }))] ++ List.replicate 74 junk, D := [], F := [], ctr := 1 }
def S38_2 (a0 : (Int × ((List (Int × (Int × (Int × (Int × Bool))))) × (List (Int × (Int × (Int × (List Int)))))))) (a1 : Int) (v2_5_0 : Int) (v2_5_1 : Int) (v2_5_2 : Int) (v2_5_3 : (List Int)) (v2_7 : Int) : St cxT.ty := { slots := [junk, junk, junk, junk, junk, (.inr (.inr { kind := 0, nm := 320, cells := [(lv (.int .i64 v2_5_0)), (lv (.int .i64 v2_5_1)), (lv (.int .i64 v2_5_2)), (ls { own := 0, nm := 0, e := 2, o := false, xs := v2_5_3 })], s := { own := 0, nm := 0, e := 0, o := false, xs := ([] : List (PUnit)) }, i := 0, off := 0 })), junk, (.inl (.inl (lv (.int .i64 v2_7))))] ++ List.replicate 72 junk, D := [], F := [], ctr := 1 }
def X38_2 (a0 : (Int × ((List (Int × (Int × (Int × (Int × Bool))))) × (List (Int × (Int × (Int × (List Int)))))))) (a1 : Int) : St cxT.ty := { slots := [] ++ List.replicate 80 junk, D := [], F := [], ctr := 1 }
theorem i38 (m57 : Int → Option Bool) (m58 : Int → Option Bool) (m59 : Int → Option Bool) (m60 : ((Int × Int × Int × (List Int)) × (Int × Int × Int × (List Int))) → Option Bool) (m61 : ((Int × ((List (Int × (Int × (Int × (Int × Bool))))) × (List (Int × (Int × (Int × (List Int))))))) × Int) → Option Int) (L : Nat) (a0 : (Int × ((List (Int × (Int × (Int × (Int × Bool))))) × (List (Int × (Int × (Int × (List Int)))))))) (a1 : Int) : evF prog (ev38 m57 m58 m59 m60 m61) (loopN L) f38 (a38.enc (a0, a1)) =
  bif ((decide ((0 : Int) ≤ a1)) && (decide (a1 < (Nat.cast (List.length a0.2.2) : Int)))) then tst (m57 (List.getD a0.2.2 (Int.toNat a1) ((0 : Int), ((0 : Int), ((0 : Int), ([] : List (Int)))))).1) false fun (q2 : Bool) => bif (!q2) then some (n38 (3 : Int))
      else tst (m58 (List.getD a0.2.2 (Int.toNat a1) ((0 : Int), ((0 : Int), ((0 : Int), ([] : List (Int)))))).2.1) false fun (q3 : Bool) => bif (!q3) then some (n38 (3 : Int))
        else tst (m59 (List.getD a0.2.2 (Int.toNat a1) ((0 : Int), ((0 : Int), ((0 : Int), ([] : List (Int)))))).2.2.1) false fun (q4 : Bool) => bif (!q4) then some (n38 (3 : Int))
          else bif (decide (a1 > (0 : Int))) then bif ((decide ((0 : Int) ≤ (Go.IntKind.wrap Go.IntKind.i64 (a1 - (1 : Int))))) && (decide ((Go.IntKind.wrap Go.IntKind.i64 (a1 - (1 : Int))) < (Nat.cast (List.length a0.2.2) : Int)))) then tst (m60 (((List.getD a0.2.2 (Int.toNat (Go.IntKind.wrap Go.IntKind.i64 (a1 - (1 : Int)))) ((0 : Int), ((0 : Int), ((0 : Int), ([] : List (Int)))))).1, ((List.getD a0.2.2 (Int.toNat (Go.IntKind.wrap Go.IntKind.i64 (a1 - (1 : Int)))) ((0 : Int), ((0 : Int), ((0 : Int), ([] : List (Int)))))).2.1, ((List.getD a0.2.2 (Int.toNat (Go.IntKind.wrap Go.IntKind.i64 (a1 - (1 : Int)))) ((0 : Int), ((0 : Int), ((0 : Int), ([] : List (Int)))))).2.2.1, (List.getD a0.2.2 (Int.toNat (Go.IntKind.wrap Go.IntKind.i64 (a1 - (1 : Int)))) ((0 : Int), ((0 : Int), ((0 : Int), ([] : List (Int)))))).2.2.2))), ((List.getD a0.2.2 (Int.toNat a1) ((0 : Int), ((0 : Int), ((0 : Int), ([] : List (Int)))))).1, ((List.getD a0.2.2 (Int.toNat a1) ((0 : Int), ((0 : Int), ((0 : Int), ([] : List (Int)))))).2.1, ((List.getD a0.2.2 (Int.toNat a1) ((0 : Int), ((0 : Int), ((0 : Int), ([] : List (Int)))))).2.2.1, (List.getD a0.2.2 (Int.toNat a1) ((0 : Int), ((0 : Int), ((0 : Int), ([] : List (Int)))))).2.2.2))))) false fun (q7 : Bool) => bif (!q7) then some (n38 (1 : Int))
                else headF prog (ev38 m57 m58 m59 m60 m61) L f38 0 [1, 1, 1, 1, 0, 1, 0, 0] (outK (outV prog f38) (topK prog (ev38 m57 m58 m59 m60 m61) L f38 [1, 1, 1, 1, 0, 1] (outV prog f38)).n (topK prog (ev38 m57 m58 m59 m60 m61) L f38 [1, 1, 1, 1, 0, 1] (outV prog f38)).x) L (S38_0 a0 a1 (List.getD a0.2.2 (Int.toNat a1) ((0 : Int), ((0 : Int), ((0 : Int), ([] : List (Int)))))).1 (List.getD a0.2.2 (Int.toNat a1) ((0 : Int), ((0 : Int), ((0 : Int), ([] : List (Int)))))).2.1 (List.getD a0.2.2 (Int.toNat a1) ((0 : Int), ((0 : Int), ((0 : Int), ([] : List (Int)))))).2.2.1 (List.getD a0.2.2 (Int.toNat a1) ((0 : Int), ((0 : Int), ((0 : Int), ([] : List (Int)))))).2.2.2 (0 : Int))
            else none
          else headF prog (ev38 m57 m58 m59 m60 m61) L f38 0 [1, 1, 1, 1, 0, 1, 0, 0] (outK (outV prog f38) (topK prog (ev38 m57 m58 m59 m60 m61) L f38 [1, 1, 1, 1, 0, 1] (outV prog f38)).n (topK prog (ev38 m57 m58 m59 m60 m61) L f38 [1, 1, 1, 1, 0, 1] (outV prog f38)).x) L (S38_0 a0 a1 (List.getD a0.2.2 (Int.toNat a1) ((0 : Int), ((0 : Int), ((0 : Int), ([] : List (Int)))))).1 (List.getD a0.2.2 (Int.toNat a1) ((0 : Int), ((0 : Int), ((0 : Int), ([] : List (Int)))))).2.1 (List.getD a0.2.2 (Int.toNat a1) ((0 : Int), ((0 : Int), ((0 : Int), ([] : List (Int)))))).2.2.1 (List.getD a0.2.2 (Int.toNat a1) ((0 : Int), ((0 : Int), ((0 : Int), ([] : List (Int)))))).2.2.2 (0 : Int))
  else none := by kernel_rfl
theorem r38_0 (m57 : Int → Option Bool) (m58 : Int → Option Bool) (m59 : Int → Option Bool) (m60 : ((Int × Int × Int × (List Int)) × (Int × Int × Int × (List Int))) → Option Bool) (m61 : ((Int × ((List (Int × (Int × (Int × (Int × Bool))))) × (List (Int × (Int × (Int × (List Int))))))) × Int) → Option Int) (L : Nat) (a0 : (Int × ((List (Int × (Int × (Int × (Int × Bool))))) × (List (Int × (Int × (Int × (List Int)))))))) (a1 : Int) (k : St cxT.ty → Option (V cxT.ty)) (xk : Nat → St cxT.ty → Option (V cxT.ty)) (g : St cxT.ty → Option (V cxT.ty)) (v0_5_0 : Int) (v0_5_1 : Int) (v0_5_2 : Int) (v0_5_3 : (List Int)) (v0_6 : Int) : roundF prog (ev38 m57 m58 m59 m60 m61) L f38 0 [1, 1, 1, 1, 0, 1, 0, 0] (outK (outV prog f38) k xk) g (S38_0 a0 a1 v0_5_0 v0_5_1 v0_5_2 v0_5_3 v0_6) =
  bif (decide (v0_6 < (Nat.cast (List.length v0_5_3) : Int))) then bif ((decide ((0 : Int) ≤ v0_6)) && (decide (v0_6 < (Nat.cast (List.length v0_5_3) : Int)))) then tst (m61 (a0, (List.getD v0_5_3 (Int.toNat v0_6) (0 : Int)))) (0 : Int) fun (q3 : Int) => bif (decide (q3 < (0 : Int))) then some (n38 (4 : Int))
        else g (S38_0 a0 a1 v0_5_0 v0_5_1 v0_5_2 v0_5_3 (Go.IntKind.wrap Go.IntKind.i64 (v0_6 + (1 : Int))))
    else none
  else k (X38_0 a0 a1 v0_5_0 v0_5_1 v0_5_2 v0_5_3) := by kernel_rfl
theorem t38_0 (m57 : Int → Option Bool) (m58 : Int → Option Bool) (m59 : Int → Option Bool) (m60 : ((Int × Int × Int × (List Int)) × (Int × Int × Int × (List Int))) → Option Bool) (m61 : ((Int × ((List (Int × (Int × (Int × (Int × Bool))))) × (List (Int × (Int × (Int × (List Int))))))) × Int) → Option Int) (L : Nat) (a0 : (Int × ((List (Int × (Int × (Int × (Int × Bool))))) × (List (Int × (Int × (Int × (List Int)))))))) (a1 : Int) (w0_5_0 : Int) (w0_5_1 : Int) (w0_5_2 : Int) (w0_5_3 : (List Int)) : (topK prog (ev38 m57 m58 m59 m60 m61) L f38 [1, 1, 1, 1, 0, 1] (outV prog f38)).n (X38_0 a0 a1 w0_5_0 w0_5_1 w0_5_2 w0_5_3) =
  headF prog (ev38 m57 m58 m59 m60 m61) L f38 2 [1, 1, 1, 1, 1, 0, 1, 0, 0] (outK (outV prog f38) (topK prog (ev38 m57 m58 m59 m60 m61) L f38 [1, 1, 1, 1, 1, 0, 1] (outV prog f38)).n (topK prog (ev38 m57 m58 m59 m60 m61) L f38 [1, 1, 1, 1, 1, 0, 1] (outV prog f38)).x) L (S38_2 a0 a1 w0_5_0 w0_5_1 w0_5_2 w0_5_3 (1 : Int)) := by kernel_rfl
theorem r38_2 (m57 : Int → Option Bool) (m58 : Int → Option Bool) (m59 : Int → Option Bool) (m60 : ((Int × Int × Int × (List Int)) × (Int × Int × Int × (List Int))) → Option Bool) (m61 : ((Int × ((List (Int × (Int × (Int × (Int × Bool))))) × (List (Int × (Int × (Int × (List Int))))))) × Int) → Option Int) (L : Nat) (a0 : (Int × ((List (Int × (Int × (Int × (Int × Bool))))) × (List (Int × (Int × (Int × (List Int)))))))) (a1 : Int) (k : St cxT.ty → Option (V cxT.ty)) (xk : Nat → St cxT.ty → Option (V cxT.ty)) (g : St cxT.ty → Option (V cxT.ty)) (v2_5_0 : Int) (v2_5_1 : Int) (v2_5_2 : Int) (v2_5_3 : (List Int)) (v2_7 : Int) : roundF prog (ev38 m57 m58 m59 m60 m61) L f38 2 [1, 1, 1, 1, 1, 0, 1, 0, 0] (outK (outV prog f38) k xk) g (S38_2 a0 a1 v2_5_0 v2_5_1 v2_5_2 v2_5_3 v2_7) =
  bif (decide (v2_7 < (Nat.cast (List.length v2_5_3) : Int))) then bif ((decide ((0 : Int) ≤ v2_7)) && (decide (v2_7 < (Nat.cast (List.length v2_5_3) : Int)))) then bif ((decide ((0 : Int) ≤ (Go.IntKind.wrap Go.IntKind.i64 (v2_7 - (1 : Int))))) && (decide ((Go.IntKind.wrap Go.IntKind.i64 (v2_7 - (1 : Int))) < (Nat.cast (List.length v2_5_3) : Int)))) then bif (decide ((List.getD v2_5_3 (Int.toNat v2_7) (0 : Int)) ≤ (List.getD v2_5_3 (Int.toNat (Go.IntKind.wrap Go.IntKind.i64 (v2_7 - (1 : Int)))) (0 : Int)))) then some (n38 (1 : Int))
        else g (S38_2 a0 a1 v2_5_0 v2_5_1 v2_5_2 v2_5_3 (Go.IntKind.wrap Go.IntKind.i64 (v2_7 + (1 : Int))))
      else none
    else none
  else k (X38_2 a0 a1) := by kernel_rfl
theorem t38_2 (m57 : Int → Option Bool) (m58 : Int → Option Bool) (m59 : Int → Option Bool) (m60 : ((Int × Int × Int × (List Int)) × (Int × Int × Int × (List Int))) → Option Bool) (m61 : ((Int × ((List (Int × (Int × (Int × (Int × Bool))))) × (List (Int × (Int × (Int × (List Int))))))) × Int) → Option Int) (L : Nat) (a0 : (Int × ((List (Int × (Int × (Int × (Int × Bool))))) × (List (Int × (Int × (Int × (List Int)))))))) (a1 : Int) : (topK prog (ev38 m57 m58 m59 m60 m61) L f38 [1, 1, 1, 1, 1, 0, 1] (outV prog f38)).n (X38_2 a0 a1) =
  some (n38 (0 : Int)) := by kernel_rfl
def l38_2 (m57 : Int → Option Bool) (m58 : Int → Option Bool) (m59 : Int → Option Bool) (m60 : ((Int × Int × Int × (List Int)) × (Int × Int × Int × (List Int))) → Option Bool) (m61 : ((Int × ((List (Int × (Int × (Int × (Int × Bool))))) × (List (Int × (Int × (Int × (List Int))))))) × Int) → Option Int) (L : Nat) (a0 : (Int × ((List (Int × (Int × (Int × (Int × Bool))))) × (List (Int × (Int × (Int × (List Int)))))))) (a1 : Int) : Nat → Int → Int → Int → (List Int) → Int → (Option Int) → Option Int
  | 0, _, _, _, _, _, _ => none
  | n + 1, v2_5_0, v2_5_1, v2_5_2, v2_5_3, v2_7, k =>
    bif (decide (v2_7 < (Nat.cast (List.length v2_5_3) : Int))) then bif ((decide ((0 : Int) ≤ v2_7)) && (decide (v2_7 < (Nat.cast (List.length v2_5_3) : Int)))) then bif ((decide ((0 : Int) ≤ (Go.IntKind.wrap Go.IntKind.i64 (v2_7 - (1 : Int))))) && (decide ((Go.IntKind.wrap Go.IntKind.i64 (v2_7 - (1 : Int))) < (Nat.cast (List.length v2_5_3) : Int)))) then bif (decide ((List.getD v2_5_3 (Int.toNat v2_7) (0 : Int)) ≤ (List.getD v2_5_3 (Int.toNat (Go.IntKind.wrap Go.IntKind.i64 (v2_7 - (1 : Int)))) (0 : Int)))) then some (1 : Int)
          else l38_2 m57 m58 m59 m60 m61 L a0 a1 n v2_5_0 v2_5_1 v2_5_2 v2_5_3 (Go.IntKind.wrap Go.IntKind.i64 (v2_7 + (1 : Int))) k
        else none
      else none
    else k
theorem h38_2 (m57 : Int → Option Bool) (m58 : Int → Option Bool) (m59 : Int → Option Bool) (m60 : ((Int × Int × Int × (List Int)) × (Int × Int × Int × (List Int))) → Option Bool) (m61 : ((Int × ((List (Int × (Int × (Int × (Int × Bool))))) × (List (Int × (Int × (Int × (List Int))))))) × Int) → Option Int) (L : Nat) (a0 : (Int × ((List (Int × (Int × (Int × (Int × Bool))))) × (List (Int × (Int × (Int × (List Int)))))))) (a1 : Int) (k : St cxT.ty → Option (V cxT.ty)) (xk : Nat → St cxT.ty → Option (V cxT.ty)) (k' : Option Int) (hk : k (X38_2 a0 a1) = (k').map n38) : ∀ (n : Nat) (v2_5_0 : Int) (v2_5_1 : Int) (v2_5_2 : Int) (v2_5_3 : (List Int)) (v2_7 : Int), headF prog (ev38 m57 m58 m59 m60 m61) L f38 2 [1, 1, 1, 1, 1, 0, 1, 0, 0] (outK (outV prog f38) k xk) n (S38_2 a0 a1 v2_5_0 v2_5_1 v2_5_2 v2_5_3 v2_7) = (l38_2 m57 m58 m59 m60 m61 L a0 a1 n v2_5_0 v2_5_1 v2_5_2 v2_5_3 v2_7 k').map n38
  | 0, _, _, _, _, _ => rfl
  | n + 1, v2_5_0, v2_5_1, v2_5_2, v2_5_3, v2_7 => by
    rw [headF_round, r38_2]
    have ih := h38_2 m57 m58 m59 m60 m61 L a0 a1 k xk k' hk n
    simp only [l38_2, map_bif, map_tst, map_bnd, Option.map_some, Option.map_none, ih, hk]
def l38_0 (m57 : Int → Option Bool) (m58 : Int → Option Bool) (m59 : Int → Option Bool) (m60 : ((Int × Int × Int × (List Int)) × (Int × Int × Int × (List Int))) → Option Bool) (m61 : ((Int × ((List (Int × (Int × (Int × (Int × Bool))))) × (List (Int × (Int × (Int × (List Int))))))) × Int) → Option Int) (L : Nat) (a0 : (Int × ((List (Int × (Int × (Int × (Int × Bool))))) × (List (Int × (Int × (Int × (List Int)))))))) (a1 : Int) : Nat → Int → Int → Int → (List Int) → Int → (Int → Int → Int → (List Int) → Option Int) → Option Int
  | 0, _, _, _, _, _, _ => none
  | n + 1, v0_5_0, v0_5_1, v0_5_2, v0_5_3, v0_6, k =>
    bif (decide (v0_6 < (Nat.cast (List.length v0_5_3) : Int))) then bif ((decide ((0 : Int) ≤ v0_6)) && (decide (v0_6 < (Nat.cast (List.length v0_5_3) : Int)))) then tst (m61 (a0, (List.getD v0_5_3 (Int.toNat v0_6) (0 : Int)))) (0 : Int) fun (q4 : Int) => bif (decide (q4 < (0 : Int))) then some (4 : Int)
          else l38_0 m57 m58 m59 m60 m61 L a0 a1 n v0_5_0 v0_5_1 v0_5_2 v0_5_3 (Go.IntKind.wrap Go.IntKind.i64 (v0_6 + (1 : Int))) k
      else none
    else k v0_5_0 v0_5_1 v0_5_2 v0_5_3
theorem h38_0 (m57 : Int → Option Bool) (m58 : Int → Option Bool) (m59 : Int → Option Bool) (m60 : ((Int × Int × Int × (List Int)) × (Int × Int × Int × (List Int))) → Option Bool) (m61 : ((Int × ((List (Int × (Int × (Int × (Int × Bool))))) × (List (Int × (Int × (Int × (List Int))))))) × Int) → Option Int) (L : Nat) (a0 : (Int × ((List (Int × (Int × (Int × (Int × Bool))))) × (List (Int × (Int × (Int × (List Int)))))))) (a1 : Int) (k : St cxT.ty → Option (V cxT.ty)) (xk : Nat → St cxT.ty → Option (V cxT.ty)) (k' : Int → Int → Int → (List Int) → Option Int) (hk : ∀ (w0_5_0 : Int) (w0_5_1 : Int) (w0_5_2 : Int) (w0_5_3 : (List Int)), k (X38_0 a0 a1 w0_5_0 w0_5_1 w0_5_2 w0_5_3) = (k' w0_5_0 w0_5_1 w0_5_2 w0_5_3).map n38) : ∀ (n : Nat) (v0_5_0 : Int) (v0_5_1 : Int) (v0_5_2 : Int) (v0_5_3 : (List Int)) (v0_6 : Int), headF prog (ev38 m57 m58 m59 m60 m61) L f38 0 [1, 1, 1, 1, 0, 1, 0, 0] (outK (outV prog f38) k xk) n (S38_0 a0 a1 v0_5_0 v0_5_1 v0_5_2 v0_5_3 v0_6) = (l38_0 m57 m58 m59 m60 m61 L a0 a1 n v0_5_0 v0_5_1 v0_5_2 v0_5_3 v0_6 k').map n38
  | 0, _, _, _, _, _ => rfl
  | n + 1, v0_5_0, v0_5_1, v0_5_2, v0_5_3, v0_6 => by
    rw [headF_round, r38_0]
    have ih := h38_0 m57 m58 m59 m60 m61 L a0 a1 k xk k' hk n
    simp only [l38_0, map_bif, map_tst, map_bnd, Option.map_some, Option.map_none, ih, hk]
def g38 (m57 : Int → Option Bool) (m58 : Int → Option Bool) (m59 : Int → Option Bool) (m60 : ((Int × Int × Int × (List Int)) × (Int × Int × Int × (List Int))) → Option Bool) (m61 : ((Int × ((List (Int × (Int × (Int × (Int × Bool))))) × (List (Int × (Int × (Int × (List Int))))))) × Int) → Option Int) (L : Nat) (a0 : (Int × ((List (Int × (Int × (Int × (Int × Bool))))) × (List (Int × (Int × (Int × (List Int)))))))) (a1 : Int) : Option Int :=
  bif ((decide ((0 : Int) ≤ a1)) && (decide (a1 < (Nat.cast (List.length a0.2.2) : Int)))) then tst (m57 (List.getD a0.2.2 (Int.toNat a1) ((0 : Int), ((0 : Int), ((0 : Int), ([] : List (Int)))))).1) false fun (q2 : Bool) => bif (!q2) then some (3 : Int)
      else tst (m58 (List.getD a0.2.2 (Int.toNat a1) ((0 : Int), ((0 : Int), ((0 : Int), ([] : List (Int)))))).2.1) false fun (q3 : Bool) => bif (!q3) then some (3 : Int)
        else tst (m59 (List.getD a0.2.2 (Int.toNat a1) ((0 : Int), ((0 : Int), ((0 : Int), ([] : List (Int)))))).2.2.1) false fun (q4 : Bool) => bif (!q4) then some (3 : Int)
          else bif (decide (a1 > (0 : Int))) then bif ((decide ((0 : Int) ≤ (Go.IntKind.wrap Go.IntKind.i64 (a1 - (1 : Int))))) && (decide ((Go.IntKind.wrap Go.IntKind.i64 (a1 - (1 : Int))) < (Nat.cast (List.length a0.2.2) : Int)))) then tst (m60 (((List.getD a0.2.2 (Int.toNat (Go.IntKind.wrap Go.IntKind.i64 (a1 - (1 : Int)))) ((0 : Int), ((0 : Int), ((0 : Int), ([] : List (Int)))))).1, ((List.getD a0.2.2 (Int.toNat (Go.IntKind.wrap Go.IntKind.i64 (a1 - (1 : Int)))) ((0 : Int), ((0 : Int), ((0 : Int), ([] : List (Int)))))).2.1, ((List.getD a0.2.2 (Int.toNat (Go.IntKind.wrap Go.IntKind.i64 (a1 - (1 : Int)))) ((0 : Int), ((0 : Int), ((0 : Int), ([] : List (Int)))))).2.2.1, (List.getD a0.2.2 (Int.toNat (Go.IntKind.wrap Go.IntKind.i64 (a1 - (1 : Int)))) ((0 : Int), ((0 : Int), ((0 : Int), ([] : List (Int)))))).2.2.2))), ((List.getD a0.2.2 (Int.toNat a1) ((0 : Int), ((0 : Int), ((0 : Int), ([] : List (Int)))))).1, ((List.getD a0.2.2 (Int.toNat a1) ((0 : Int), ((0 : Int), ((0 : Int), ([] : List (Int)))))).2.1, ((List.getD a0.2.2 (Int.toNat a1) ((0 : Int), ((0 : Int), ((0 : Int), ([] : List (Int)))))).2.2.1, (List.getD a0.2.2 (Int.toNat a1) ((0 : Int), ((0 : Int), ((0 : Int), ([] : List (Int)))))).2.2.2))))) false fun (q7 : Bool) => bif (!q7) then some (1 : Int)
                else l38_0 m57 m58 m59 m60 m61 L a0 a1 L (List.getD a0.2.2 (Int.toNat a1) ((0 : Int), ((0 : Int), ((0 : Int), ([] : List (Int)))))).1 (List.getD a0.2.2 (Int.toNat a1) ((0 : Int), ((0 : Int), ((0 : Int), ([] : List (Int)))))).2.1 (List.getD a0.2.2 (Int.toNat a1) ((0 : Int), ((0 : Int), ((0 : Int), ([] : List (Int)))))).2.2.1 (List.getD a0.2.2 (Int.toNat a1) ((0 : Int), ((0 : Int), ((0 : Int), ([] : List (Int)))))).2.2.2 (0 : Int) (fun (w0_5_0 : Int) (w0_5_1 : Int) (w0_5_2 : Int) (w0_5_3 : (List Int)) => l38_2 m57 m58 m59 m60 m61 L a0 a1 L w0_5_0 w0_5_1 w0_5_2 w0_5_3 (1 : Int) (some (0 : Int)))
            else none
          else l38_0 m57 m58 m59 m60 m61 L a0 a1 L (List.getD a0.2.2 (Int.toNat a1) ((0 : Int), ((0 : Int), ((0 : Int), ([] : List (Int)))))).1 (List.getD a0.2.2 (Int.toNat a1) ((0 : Int), ((0 : Int), ((0 : Int), ([] : List (Int)))))).2.1 (List.getD a0.2.2 (Int.toNat a1) ((0 : Int), ((0 : Int), ((0 : Int), ([] : List (Int)))))).2.2.1 (List.getD a0.2.2 (Int.toNat a1) ((0 : Int), ((0 : Int), ((0 : Int), ([] : List (Int)))))).2.2.2 (0 : Int) (fun (w0_5_0 : Int) (w0_5_1 : Int) (w0_5_2 : Int) (w0_5_3 : (List Int)) => l38_2 m57 m58 m59 m60 m61 L a0 a1 L w0_5_0 w0_5_1 w0_5_2 w0_5_3 (1 : Int) (some (0 : Int)))
  else none
theorem e38 (m57 : Int → Option Bool) (m58 : Int → Option Bool) (m59 : Int → Option Bool) (m60 : ((Int × Int × Int × (List Int)) × (Int × Int × Int × (List Int))) → Option Bool) (m61 : ((Int × ((List (Int × (Int × (Int × (Int × Bool))))) × (List (Int × (Int × (Int × (List Int))))))) × Int) → Option Int) (L : Nat) (a0 : (Int × ((List (Int × (Int × (Int × (Int × Bool))))) × (List (Int × (Int × (Int × (List Int)))))))) (a1 : Int) : evF prog (ev38 m57 m58 m59 m60 m61) (loopN L) f38 (a38.enc (a0, a1)) = (g38 m57 m58 m59 m60 m61 L a0 a1).map n38 := by
  let K'2 : Option Int := (some (0 : Int))
  have hin2 : ∀ (v2_5_0 : Int) (v2_5_1 : Int) (v2_5_2 : Int) (v2_5_3 : (List Int)) (v2_7 : Int), headF prog (ev38 m57 m58 m59 m60 m61) L f38 2 [1, 1, 1, 1, 1, 0, 1, 0, 0] (outK (outV prog f38) (topK prog (ev38 m57 m58 m59 m60 m61) L f38 [1, 1, 1, 1, 1, 0, 1] (outV prog f38)).n (topK prog (ev38 m57 m58 m59 m60 m61) L f38 [1, 1, 1, 1, 1, 0, 1] (outV prog f38)).x) L (S38_2 a0 a1 v2_5_0 v2_5_1 v2_5_2 v2_5_3 v2_7) = (l38_2 m57 m58 m59 m60 m61 L a0 a1 L v2_5_0 v2_5_1 v2_5_2 v2_5_3 v2_7 K'2).map n38 := fun v2_5_0 v2_5_1 v2_5_2 v2_5_3 v2_7 => h38_2 m57 m58 m59 m60 m61 L a0 a1 _ _ K'2 (by rw [t38_2]; simp only [K'2, map_bif, map_tst, map_bnd, Option.map_some, Option.map_none]) L v2_5_0 v2_5_1 v2_5_2 v2_5_3 v2_7
  let K'0 : Int → Int → Int → (List Int) → Option Int := (fun (w0_5_0 : Int) (w0_5_1 : Int) (w0_5_2 : Int) (w0_5_3 : (List Int)) => l38_2 m57 m58 m59 m60 m61 L a0 a1 L w0_5_0 w0_5_1 w0_5_2 w0_5_3 (1 : Int) (some (0 : Int)))
  have hin0 : ∀ (v0_5_0 : Int) (v0_5_1 : Int) (v0_5_2 : Int) (v0_5_3 : (List Int)) (v0_6 : Int), headF prog (ev38 m57 m58 m59 m60 m61) L f38 0 [1, 1, 1, 1, 0, 1, 0, 0] (outK (outV prog f38) (topK prog (ev38 m57 m58 m59 m60 m61) L f38 [1, 1, 1, 1, 0, 1] (outV prog f38)).n (topK prog (ev38 m57 m58 m59 m60 m61) L f38 [1, 1, 1, 1, 0, 1] (outV prog f38)).x) L (S38_0 a0 a1 v0_5_0 v0_5_1 v0_5_2 v0_5_3 v0_6) = (l38_0 m57 m58 m59 m60 m61 L a0 a1 L v0_5_0 v0_5_1 v0_5_2 v0_5_3 v0_6 K'0).map n38 := fun v0_5_0 v0_5_1 v0_5_2 v0_5_3 v0_6 => h38_0 m57 m58 m59 m60 m61 L a0 a1 _ _ K'0 (fun w0_5_0 w0_5_1 w0_5_2 w0_5_3 => by rw [t38_0]; simp only [K'0, map_bif, map_tst, map_bnd, Option.map_some, Option.map_none, hin2, K'2]) L v0_5_0 v0_5_1 v0_5_2 v0_5_3 v0_6
  rw [i38]; simp only [g38, map_bif, map_tst, map_bnd, Option.map_some, Option.map_none, hin2, K'2, hin0, K'0]
theorem s38 (m57 : Int → Option Bool) (m58 : Int → Option Bool) (m59 : Int → Option Bool) (m60 : ((Int × Int × Int × (List Int)) × (Int × Int × Int × (List Int))) → Option Bool) (m61 : ((Int × ((List (Int × (Int × (Int × (Int × Bool))))) × (List (Int × (Int × (Int × (List Int))))))) × Int) → Option Int) (h57 : Sat prog cxT 57 (c57 m57)) (h58 : Sat prog cxT 58 (c58 m58)) (h59 : Sat prog cxT 59 (c59 m59)) (h60 : Sat prog cxT 60 (c60 m60)) (h61 : Sat prog cxT 61 (c61 m61)) (m : ((Int × ((List (Int × (Int × (Int × (Int × Bool))))) × (List (Int × (Int × (Int × (List Int))))))) × Int) → Option Int) (hm : ∀ (x : ((Int × ((List (Int × (Int × (Int × (Int × Bool))))) × (List (Int × (Int × (Int × (List Int))))))) × Int)) t, m x = some t → ∃ L, g38 m57 m58 m59 m60 m61 L x.1 x.2 = some t) : Sat prog cxT 38 (c38 m) :=
  sat_t cxT_ok cxT_pok (by rfl) (fn := f38) rfl a38 n38 dd38 m (ev38 m57 m58 m59 m60 m61) (kok_cons h57 (kok_cons h58 (kok_cons h59 (kok_cons h60 (kok_cons h61 kok_nil))))) kwok_nil (fun L x => g38 m57 m58 m59 m60 m61 L x.1 x.2) (fun L x => e38 m57 m58 m59 m60 m61 L x.1 x.2) hm hs38
/-! loop.example/g00222/spec.l5At -/
def ev61 : Env cxT := { Kc := kcOf [], Kw := kwOf [], lv := fun i => if i = 0 then [(0, [none, some 71, some 75]), (1, []), (5, [])] else [], xv := fun i => if i = 0 then some [] else none }
def S61_0 (a0 : (Int × ((List (Int × (Int × (Int × (Int × Bool))))) × (List (Int × (Int × (Int × (List Int)))))))) (a1 : Int) (v0_5 : Int) : St cxT.ty := { slots := [(.inr (.inr { kind := 2, nm := 0, cells := [], s := { own := 0, nm := 0, e := 33, o := false, xs := (List.cons a0 []) }, i := 0, off := 0 })), (.inl (.inl (lv (.int .i64 a1)))), junk, junk, junk, (.inl (.inl (lv (.int .i64 v0_5))))] ++ List.replicate 20 junk, D := [], F := [], ctr := 1 }
def X61_0 (a0 : (Int × ((List (Int × (Int × (Int × (Int × Bool))))) × (List (Int × (Int × (Int × (List Int)))))))) (a1 : Int) : St cxT.ty := { slots := [] ++ List.replicate 26 junk, D := [], F := [], ctr := 1 }
theorem i61 (L : Nat) (a0 : (Int × ((List (Int × (Int × (Int × (Int × Bool))))) × (List (Int × (Int × (Int × (List Int)))))))) (a1 : Int) : evF prog ev61 (loopN L) f61 (a61.enc (a0, a1)) =
  headF prog ev61 L f61 0 [1, 0, 1, 0, 0] (outK (outV prog f61) (topK prog ev61 L f61 [1, 0, 1] (outV prog f61)).n (topK prog ev61 L f61 [1, 0, 1] (outV prog f61)).x) L (S61_0 a0 a1 (0 : Int)) := by kernel_rfl
theorem r61_0 (L : Nat) (a0 : (Int × ((List (Int × (Int × (Int × (Int × Bool))))) × (List (Int × (Int × (Int × (List Int)))))))) (a1 : Int) (k : St cxT.ty → Option (V cxT.ty)) (xk : Nat → St cxT.ty → Option (V cxT.ty)) (g : St cxT.ty → Option (V cxT.ty)) (v0_5 : Int) : roundF prog ev61 L f61 0 [1, 0, 1, 0, 0] (outK (outV prog f61) k xk) g (S61_0 a0 a1 v0_5) =
  bif (decide (v0_5 < (Nat.cast (List.length a0.2.1) : Int))) then bif ((decide ((0 : Int) ≤ v0_5)) && (decide (v0_5 < (Nat.cast (List.length a0.2.1) : Int)))) then bif ((List.getD a0.2.1 (Int.toNat v0_5) ((0 : Int), ((0 : Int), ((0 : Int), ((0 : Int), Bool.false))))).1 == a1) then some (n61 v0_5)
      else g (S61_0 a0 a1 (Go.IntKind.wrap Go.IntKind.i64 (v0_5 + (1 : Int))))
    else none
  else k (X61_0 a0 a1) := by kernel_rfl
theorem t61_0 (L : Nat) (a0 : (Int × ((List (Int × (Int × (Int × (Int × Bool))))) × (List (Int × (Int × (Int × (List Int)))))))) (a1 : Int) : (topK prog ev61 L f61 [1, 0, 1] (outV prog f61)).n (X61_0 a0 a1) =
  some (n61 (-(1 : Int))) := by kernel_rfl
def l61_0 (L : Nat) (a0 : (Int × ((List (Int × (Int × (Int × (Int × Bool))))) × (List (Int × (Int × (Int × (List Int)))))))) (a1 : Int) : Nat → Int → (Option Int) → Option Int
  | 0, _, _ => none
  | n + 1, v0_5, k =>
    bif (decide (v0_5 < (Nat.cast (List.length a0.2.1) : Int))) then bif ((decide ((0 : Int) ≤ v0_5)) && (decide (v0_5 < (Nat.cast (List.length a0.2.1) : Int)))) then bif ((List.getD a0.2.1 (Int.toNat v0_5) ((0 : Int), ((0 : Int), ((0 : Int), ((0 : Int), Bool.false))))).1 == a1) then some v0_5
        else l61_0 L a0 a1 n (Go.IntKind.wrap Go.IntKind.i64 (v0_5 + (1 : Int))) k
      else none
    else k
theorem h61_0 (L : Nat) (a0 : (Int × ((List (Int × (Int × (Int × (Int × Bool))))) × (List (Int × (Int × (Int × (List Int)))))))) (a1 : Int) (k : St cxT.ty → Option (V cxT.ty)) (xk : Nat → St cxT.ty → Option (V cxT.ty)) (k' : Option Int) (hk : k (X61_0 a0 a1) = (k').map n61) : ∀ (n : Nat) (v0_5 : Int), headF prog ev61 L f61 0 [1, 0, 1, 0, 0] (outK (outV prog f61) k xk) n (S61_0 a0 a1 v0_5) = (l61_0 L a0 a1 n v0_5 k').map n61
  | 0, _ => rfl
  | n + 1, v0_5 => by
    rw [headF_round, r61_0]
    have ih := h61_0 L a0 a1 k xk k' hk n
    simp only [l61_0, map_bif, map_tst, map_bnd, Option.map_some, Option.map_none, ih, hk]
def g61 (L : Nat) (a0 : (Int × ((List (Int × (Int × (Int × (Int × Bool))))) × (List (Int × (Int × (Int × (List Int)))))))) (a1 : Int) : Option Int :=
  l61_0 L a0 a1 L (0 : Int) (some (-(1 : Int)))
theorem e61 (L : Nat) (a0 : (Int × ((List (Int × (Int × (Int × (Int × Bool))))) × (List (Int × (Int × (Int × (List Int)))))))) (a1 : Int) : evF prog ev61 (loopN L) f61 (a61.enc (a0, a1)) = (g61 L a0 a1).map n61 := by
  let K'0 : Option Int := (some (-(1 : Int)))
  have hin0 : ∀ (v0_5 : Int), headF prog ev61 L f61 0 [1, 0, 1, 0, 0] (outK (outV prog f61) (topK prog ev61 L f61 [1, 0, 1] (outV prog f61)).n (topK prog ev61 L f61 [1, 0, 1] (outV prog f61)).x) L (S61_0 a0 a1 v0_5) = (l61_0 L a0 a1 L v0_5 K'0).map n61 := fun v0_5 => h61_0 L a0 a1 _ _ K'0 (by rw [t61_0]; simp only [K'0, map_bif, map_tst, map_bnd, Option.map_some, Option.map_none]) L v0_5
  rw [i61]; simp only [g61, map_bif, map_tst, map_bnd, Option.map_some, Option.map_none, hin0, K'0]
theorem s61 (m : ((Int × ((List (Int × (Int × (Int × (Int × Bool))))) × (List (Int × (Int × (Int × (List Int))))))) × Int) → Option Int) (hm : ∀ (x : ((Int × ((List (Int × (Int × (Int × (Int × Bool))))) × (List (Int × (Int × (Int × (List Int))))))) × Int)) t, m x = some t → ∃ L, g61 L x.1 x.2 = some t) : Sat prog cxT 61 (c61 m) :=
  sat_t cxT_ok cxT_pok (by rfl) (fn := f61) rfl a61 n61 dd61 m ev61 kok_nil kwok_nil (fun L x => g61 L x.1 x.2) (fun L x => e61 L x.1 x.2) hm hs61
/-! loop.example/g00222/spec.l13Empty -/
/-! loop.example/g00222/laws.szBackendS -/
def ev23 : Env cxT := { Kc := kcOf [], Kw := kwOf [], lv := fun i => [], xv := fun i => none }
theorem i23 (L : Nat) (a0 : (List (Int × (Int × (Int × (Int × Bool)))))) (a1 : Int) : evF prog ev23 (loopN L) f23 (a23.enc (a0, a1)) =
  bif (decide ((Go.IntKind.wrap Go.IntKind.i64 (a1 - (Nat.cast (List.length a0) : Int))) < (0 : Int))) then some (n23 (-(1 : Int)))
  else some (n23 (Go.IntKind.wrap Go.IntKind.i64 (a1 - (Nat.cast (List.length a0) : Int)))) := by kernel_rfl
def g23 (L : Nat) (a0 : (List (Int × (Int × (Int × (Int × Bool)))))) (a1 : Int) : Option Int :=
  bif (decide ((Go.IntKind.wrap Go.IntKind.i64 (a1 - (Nat.cast (List.length a0) : Int))) < (0 : Int))) then some (-(1 : Int))
  else some (Go.IntKind.wrap Go.IntKind.i64 (a1 - (Nat.cast (List.length a0) : Int)))
theorem e23 (L : Nat) (a0 : (List (Int × (Int × (Int × (Int × Bool)))))) (a1 : Int) : evF prog ev23 (loopN L) f23 (a23.enc (a0, a1)) = (g23 L a0 a1).map n23 := by
  rw [i23]; simp only [g23, map_bif, map_tst, map_bnd, Option.map_some, Option.map_none]
theorem s23 (m : ((List (Int × (Int × (Int × (Int × Bool))))) × Int) → Option Int) (hm : ∀ (x : ((List (Int × (Int × (Int × (Int × Bool))))) × Int)) t, m x = some t → ∃ L, g23 L x.1 x.2 = some t) : Sat prog cxT 23 (c23 m) :=
  sat_t cxT_ok cxT_pok (by rfl) (fn := f23) rfl a23 n23 dd23 m ev23 kok_nil kwok_nil (fun L x => g23 L x.1 x.2) (fun L x => e23 L x.1 x.2) hm hs23
/-! loop.example/g00222/laws.szVipS -/
def ev24 (m45 : ((Int × Int × Int × (List Int)) × Int) → Option Int) : Env cxT := { Kc := kcOf [(45, c45 m45)], Kw := kwOf [], lv := fun i => if i = 0 then [(0, [some 80]), (1, []), (5, [])] else [], xv := fun i => if i = 0 then some [(1, [])] else none }
def S24_0 (a0 : (List (Int × (Int × (Int × (List Int)))))) (a1 : Int) (v0_1 : Int) (v0_5 : Int) : St cxT.ty := { slots := [(.inl (.inl (ls { own := 0, nm := 0, e := 80, o := false, xs := a0 }))), (.inl (.inl (lv (.int .i64 v0_1)))), junk, junk, junk, (.inl (.inl (lv (.int .i64 v0_5))))] ++ List.replicate 21 junk, D := [], F := [], ctr := 1 }
def X24_0 (a0 : (List (Int × (Int × (Int × (List Int)))))) (a1 : Int) (w0_1 : Int) : St cxT.ty := { slots := [junk, (.inl (.inl (lv (.int .i64 w0_1))))] ++ List.replicate 25 junk, D := [], F := [], ctr := 1 }
theorem i24 (m45 : ((Int × Int × Int × (List Int)) × Int) → Option Int) (L : Nat) (a0 : (List (Int × (Int × (Int × (List Int)))))) (a1 : Int) : evF prog (ev24 m45) (loopN L) f24 (a24.enc (a0, a1)) =
  bif (decide ((Go.IntKind.wrap Go.IntKind.i64 (a1 - (Nat.cast (List.length a0) : Int))) < (0 : Int))) then some (n24 (-(1 : Int)))
  else headF prog (ev24 m45) L f24 0 [1, 1, 1, 0, 1, 0, 0] (outK (outV prog f24) (topK prog (ev24 m45) L f24 [1, 1, 1, 0, 1] (outV prog f24)).n (topK prog (ev24 m45) L f24 [1, 1, 1, 0, 1] (outV prog f24)).x) L (S24_0 a0 a1 (Go.IntKind.wrap Go.IntKind.i64 (a1 - (Nat.cast (List.length a0) : Int))) (0 : Int)) := by kernel_rfl
theorem r24_0 (m45 : ((Int × Int × Int × (List Int)) × Int) → Option Int) (L : Nat) (a0 : (List (Int × (Int × (Int × (List Int)))))) (a1 : Int) (k : St cxT.ty → Option (V cxT.ty)) (xk : Nat → St cxT.ty → Option (V cxT.ty)) (g : St cxT.ty → Option (V cxT.ty)) (v0_1 : Int) (v0_5 : Int) : roundF prog (ev24 m45) L f24 0 [1, 1, 1, 0, 1, 0, 0] (outK (outV prog f24) k xk) g (S24_0 a0 a1 v0_1 v0_5) =
  bif (decide (v0_5 < (Nat.cast (List.length a0) : Int))) then bif ((decide ((0 : Int) ≤ v0_5)) && (decide (v0_5 < (Nat.cast (List.length a0) : Int)))) then tst (m45 (((List.getD a0 (Int.toNat v0_5) ((0 : Int), ((0 : Int), ((0 : Int), ([] : List (Int)))))).1, ((List.getD a0 (Int.toNat v0_5) ((0 : Int), ((0 : Int), ((0 : Int), ([] : List (Int)))))).2.1, ((List.getD a0 (Int.toNat v0_5) ((0 : Int), ((0 : Int), ((0 : Int), ([] : List (Int)))))).2.2.1, (List.getD a0 (Int.toNat v0_5) ((0 : Int), ((0 : Int), ((0 : Int), ([] : List (Int)))))).2.2.2))), v0_1)) (0 : Int) fun (q3 : Int) => bif (decide (q3 < (0 : Int))) then some (n24 (-(1 : Int)))
        else g (S24_0 a0 a1 q3 (Go.IntKind.wrap Go.IntKind.i64 (v0_5 + (1 : Int))))
    else none
  else k (X24_0 a0 a1 v0_1) := by kernel_rfl
theorem t24_0 (m45 : ((Int × Int × Int × (List Int)) × Int) → Option Int) (L : Nat) (a0 : (List (Int × (Int × (Int × (List Int)))))) (a1 : Int) (w0_1 : Int) : (topK prog (ev24 m45) L f24 [1, 1, 1, 0, 1] (outV prog f24)).n (X24_0 a0 a1 w0_1) =
  some (n24 w0_1) := by kernel_rfl
def l24_0 (m45 : ((Int × Int × Int × (List Int)) × Int) → Option Int) (L : Nat) (a0 : (List (Int × (Int × (Int × (List Int)))))) (a1 : Int) : Nat → Int → Int → (Int → Option Int) → Option Int
  | 0, _, _, _ => none
  | n + 1, v0_1, v0_5, k =>
    bif (decide (v0_5 < (Nat.cast (List.length a0) : Int))) then bif ((decide ((0 : Int) ≤ v0_5)) && (decide (v0_5 < (Nat.cast (List.length a0) : Int)))) then tst (m45 (((List.getD a0 (Int.toNat v0_5) ((0 : Int), ((0 : Int), ((0 : Int), ([] : List (Int)))))).1, ((List.getD a0 (Int.toNat v0_5) ((0 : Int), ((0 : Int), ((0 : Int), ([] : List (Int)))))).2.1, ((List.getD a0 (Int.toNat v0_5) ((0 : Int), ((0 : Int), ((0 : Int), ([] : List (Int)))))).2.2.1, (List.getD a0 (Int.toNat v0_5) ((0 : Int), ((0 : Int), ((0 : Int), ([] : List (Int)))))).2.2.2))), v0_1)) (0 : Int) fun (q4 : Int) => bif (decide (q4 < (0 : Int))) then some (-(1 : Int))
          else l24_0 m45 L a0 a1 n q4 (Go.IntKind.wrap Go.IntKind.i64 (v0_5 + (1 : Int))) k
      else none
    else k v0_1
theorem h24_0 (m45 : ((Int × Int × Int × (List Int)) × Int) → Option Int) (L : Nat) (a0 : (List (Int × (Int × (Int × (List Int)))))) (a1 : Int) (k : St cxT.ty → Option (V cxT.ty)) (xk : Nat → St cxT.ty → Option (V cxT.ty)) (k' : Int → Option Int) (hk : ∀ (w0_1 : Int), k (X24_0 a0 a1 w0_1) = (k' w0_1).map n24) : ∀ (n : Nat) (v0_1 : Int) (v0_5 : Int), headF prog (ev24 m45) L f24 0 [1, 1, 1, 0, 1, 0, 0] (outK (outV prog f24) k xk) n (S24_0 a0 a1 v0_1 v0_5) = (l24_0 m45 L a0 a1 n v0_1 v0_5 k').map n24
  | 0, _, _ => rfl
  | n + 1, v0_1, v0_5 => by
    rw [headF_round, r24_0]
    have ih := h24_0 m45 L a0 a1 k xk k' hk n
    simp only [l24_0, map_bif, map_tst, map_bnd, Option.map_some, Option.map_none, ih, hk]
def g24 (m45 : ((Int × Int × Int × (List Int)) × Int) → Option Int) (L : Nat) (a0 : (List (Int × (Int × (Int × (List Int)))))) (a1 : Int) : Option Int :=
  bif (decide ((Go.IntKind.wrap Go.IntKind.i64 (a1 - (Nat.cast (List.length a0) : Int))) < (0 : Int))) then some (-(1 : Int))
  else l24_0 m45 L a0 a1 L (Go.IntKind.wrap Go.IntKind.i64 (a1 - (Nat.cast (List.length a0) : Int))) (0 : Int) (fun (w0_1 : Int) => some w0_1)
theorem e24 (m45 : ((Int × Int × Int × (List Int)) × Int) → Option Int) (L : Nat) (a0 : (List (Int × (Int × (Int × (List Int)))))) (a1 : Int) : evF prog (ev24 m45) (loopN L) f24 (a24.enc (a0, a1)) = (g24 m45 L a0 a1).map n24 := by
  let K'0 : Int → Option Int := (fun (w0_1 : Int) => some w0_1)
  have hin0 : ∀ (v0_1 : Int) (v0_5 : Int), headF prog (ev24 m45) L f24 0 [1, 1, 1, 0, 1, 0, 0] (outK (outV prog f24) (topK prog (ev24 m45) L f24 [1, 1, 1, 0, 1] (outV prog f24)).n (topK prog (ev24 m45) L f24 [1, 1, 1, 0, 1] (outV prog f24)).x) L (S24_0 a0 a1 v0_1 v0_5) = (l24_0 m45 L a0 a1 L v0_1 v0_5 K'0).map n24 := fun v0_1 v0_5 => h24_0 m45 L a0 a1 _ _ K'0 (fun w0_1 => by rw [t24_0]; simp only [K'0, map_bif, map_tst, map_bnd, Option.map_some, Option.map_none]) L v0_1 v0_5
  rw [i24]; simp only [g24, map_bif, map_tst, map_bnd, Option.map_some, Option.map_none, hin0, K'0]
theorem s24 (m45 : ((Int × Int × Int × (List Int)) × Int) → Option Int) (h45 : Sat prog cxT 45 (c45 m45)) (m : ((List (Int × (Int × (Int × (List Int))))) × Int) → Option Int) (hm : ∀ (x : ((List (Int × (Int × (Int × (List Int))))) × Int)) t, m x = some t → ∃ L, g24 m45 L x.1 x.2 = some t) : Sat prog cxT 24 (c24 m) :=
  sat_t cxT_ok cxT_pok (by rfl) (fn := f24) rfl a24 n24 dd24 m (ev24 m45) (kok_cons h45 kok_nil) kwok_nil (fun L x => g24 m45 L x.1 x.2) (fun L x => e24 m45 L x.1 x.2) hm hs24
/-! loop.example/g00222/laws.szConfig -/
def ev10 (m23 : ((List (Int × (Int × (Int × (Int × Bool))))) × Int) → Option Int) (m24 : ((List (Int × (Int × (Int × (List Int))))) × Int) → Option Int) : Env cxT := { Kc := kcOf [(23, c23 m23), (24, c24 m24)], Kw := kwOf [], lv := fun i => [], xv := fun i => none }
theorem i10 (m23 : ((List (Int × (Int × (Int × (Int × Bool))))) × Int) → Option Int) (m24 : ((List (Int × (Int × (Int × (List Int))))) × Int) → Option Int) (L : Nat) (a0_0 : Int) (a0_1 : (List (Int × (Int × (Int × (Int × Bool)))))) (a0_2 : (List (Int × (Int × (Int × (List Int)))))) (a1 : Int) : evF prog (ev10 m23 m24) (loopN L) f10 (a10.enc ((a0_0, a0_1, a0_2), a1)) =
  tst (m23 (a0_1, a1)) (0 : Int) fun (q1 : Int) => bif (decide (q1 < (0 : Int))) then some (n10 (-(1 : Int)))
    else tst (m24 (a0_2, q1)) (0 : Int) fun (q2 : Int) => bif (decide (q2 < (0 : Int))) then some (n10 (-(1 : Int)))
      else some (n10 q2) := by kernel_rfl
def g10 (m23 : ((List (Int × (Int × (Int × (Int × Bool))))) × Int) → Option Int) (m24 : ((List (Int × (Int × (Int × (List Int))))) × Int) → Option Int) (L : Nat) (a0_0 : Int) (a0_1 : (List (Int × (Int × (Int × (Int × Bool)))))) (a0_2 : (List (Int × (Int × (Int × (List Int)))))) (a1 : Int) : Option Int :=
  tst (m23 (a0_1, a1)) (0 : Int) fun (q1 : Int) => bif (decide (q1 < (0 : Int))) then some (-(1 : Int))
    else tst (m24 (a0_2, q1)) (0 : Int) fun (q2 : Int) => bif (decide (q2 < (0 : Int))) then some (-(1 : Int))
      else some q2
theorem e10 (m23 : ((List (Int × (Int × (Int × (Int × Bool))))) × Int) → Option Int) (m24 : ((List (Int × (Int × (Int × (List Int))))) × Int) → Option Int) (L : Nat) (a0_0 : Int) (a0_1 : (List (Int × (Int × (Int × (Int × Bool)))))) (a0_2 : (List (Int × (Int × (Int × (List Int)))))) (a1 : Int) : evF prog (ev10 m23 m24) (loopN L) f10 (a10.enc ((a0_0, a0_1, a0_2), a1)) = (g10 m23 m24 L a0_0 a0_1 a0_2 a1).map n10 := by
  rw [i10]; simp only [g10, map_bif, map_tst, map_bnd, Option.map_some, Option.map_none]
theorem s10 (m23 : ((List (Int × (Int × (Int × (Int × Bool))))) × Int) → Option Int) (m24 : ((List (Int × (Int × (Int × (List Int))))) × Int) → Option Int) (h23 : Sat prog cxT 23 (c23 m23)) (h24 : Sat prog cxT 24 (c24 m24)) (m : ((Int × (List (Int × (Int × (Int × (Int × Bool))))) × (List (Int × (Int × (Int × (List Int)))))) × Int) → Option Int) (hm : ∀ (x : ((Int × (List (Int × (Int × (Int × (Int × Bool))))) × (List (Int × (Int × (Int × (List Int)))))) × Int)) t, m x = some t → ∃ L, g10 m23 m24 L x.1.1 x.1.2.1 x.1.2.2 x.2 = some t) : Sat prog cxT 10 (c10 m) :=
  sat_t cxT_ok cxT_pok (by rfl) (fn := f10) rfl a10 n10 dd10 m (ev10 m23 m24) (kok_cons h23 (kok_cons h24 kok_nil)) kwok_nil (fun L x => g10 m23 m24 L x.1.1 x.1.2.1 x.1.2.2 x.2) (fun L x => e10 m23 m24 L x.1.1 x.1.2.1 x.1.2.2 x.2) hm hs10
/-! loop.example/g00222/laws.szWatch -/
def ev5 (m10 : ((Int × (List (Int × (Int × (Int × (Int × Bool))))) × (List (Int × (Int × (Int × (List Int)))))) × Int) → Option Int) : Env cxT := { Kc := kcOf [(10, c10 m10)], Kw := kwOf [], lv := fun i => [], xv := fun i => none }
theorem i5 (m10 : ((Int × (List (Int × (Int × (Int × (Int × Bool))))) × (List (Int × (Int × (Int × (List Int)))))) × Int) → Option Int) (L : Nat) (a0_0 : Bool) (a0_1 : Int) (a0_2 : (List (Int × (Int × (Int × (Int × Bool)))))) (a0_3 : (List (Int × (Int × (Int × (List Int)))))) (a1 : Int) : evF prog (ev5 m10) (loopN L) f5 (a5.enc ((a0_0, a0_1, a0_2, a0_3), a1)) =
  tst (m10 ((a0_1, (a0_2, a0_3)), a1)) (0 : Int) fun (q1 : Int) => bif (decide (q1 < (0 : Int))) then some (n5 (-(1 : Int)))
    else some (n5 q1) := by kernel_rfl
def g5 (m10 : ((Int × (List (Int × (Int × (Int × (Int × Bool))))) × (List (Int × (Int × (Int × (List Int)))))) × Int) → Option Int) (L : Nat) (a0_0 : Bool) (a0_1 : Int) (a0_2 : (List (Int × (Int × (Int × (Int × Bool)))))) (a0_3 : (List (Int × (Int × (Int × (List Int)))))) (a1 : Int) : Option Int :=
  tst (m10 ((a0_1, (a0_2, a0_3)), a1)) (0 : Int) fun (q1 : Int) => bif (decide (q1 < (0 : Int))) then some (-(1 : Int))
    else some q1
theorem e5 (m10 : ((Int × (List (Int × (Int × (Int × (Int × Bool))))) × (List (Int × (Int × (Int × (List Int)))))) × Int) → Option Int) (L : Nat) (a0_0 : Bool) (a0_1 : Int) (a0_2 : (List (Int × (Int × (Int × (Int × Bool)))))) (a0_3 : (List (Int × (Int × (Int × (List Int)))))) (a1 : Int) : evF prog (ev5 m10) (loopN L) f5 (a5.enc ((a0_0, a0_1, a0_2, a0_3), a1)) = (g5 m10 L a0_0 a0_1 a0_2 a0_3 a1).map n5 := by
  rw [i5]; simp only [g5, map_bif, map_tst, map_bnd, Option.map_some, Option.map_none]
/-! loop.example/g00222/laws.toBackendS -/
def ev26 (m46 : (Int × Int × Int × Int × Bool) → Option (Int × Int × Int × Int × Bool)) : Env cxT := { Kc := kcOf [(46, c46 m46)], Kw := kwOf [], lv := fun i => if i = 0 then [(0, [some 82]), (3, [some 71]), (4, [])] else [], xv := fun i => if i = 0 then some [(3, [some 71])] else none }
def S26_0 (a0 : (List (Int × (Int × (Int × (Int × Bool)))))) (v0_3 : (List (Int × (Int × (Int × (Int × Bool)))))) (v0_4 : Int) : St cxT.ty := { slots := [(.inl (.inl (ls { own := 0, nm := 0, e := 82, o := false, xs := a0 }))), junk, junk, (.inl (.inl (ls { own := 1, nm := 192, e := 71, o := true, xs := v0_3 }))), (.inl (.inl (lv (.int .i64 v0_4))))] ++ List.replicate 18 junk, D := [], F := [], ctr := 1 }
def X26_0 (a0 : (List (Int × (Int × (Int × (Int × Bool)))))) (w0_3 : (List (Int × (Int × (Int × (Int × Bool)))))) : St cxT.ty := { slots := [junk, junk, junk, (.inl (.inl (ls { own := 1, nm := 192, e := 71, o := true, xs := w0_3 })))] ++ List.replicate 19 junk, D := [], F := [], ctr := 1 }
theorem i26 (m46 : (Int × Int × Int × Int × Bool) → Option (Int × Int × Int × Int × Bool)) (L : Nat) (a0 : (List (Int × (Int × (Int × (Int × Bool)))))) : evF prog (ev26 m46) (loopN L) f26 (a26.enc a0) =
  bif (((decide ((0 : Int) ≤ (Nat.cast (List.length a0) : Int))) && (decide ((Nat.cast (List.length a0) : Int) ≤ (Nat.cast (List.length a0) : Int)))) && (decide ((Nat.cast (List.length a0) : Int) ≤ (1000000000 : Int)))) then headF prog (ev26 m46) L f26 0 [1, 1, 0, 1, 0, 0] (outK (outV prog f26) (topK prog (ev26 m46) L f26 [1, 1, 0, 1] (outV prog f26)).n (topK prog (ev26 m46) L f26 [1, 1, 0, 1] (outV prog f26)).x) L (S26_0 a0 (List.replicate (Int.toNat (Nat.cast (List.length a0) : Int)) ((0 : Int), ((0 : Int), ((0 : Int), ((0 : Int), Bool.false))))) (0 : Int))
  else none := by kernel_rfl
theorem r26_0 (m46 : (Int × Int × Int × Int × Bool) → Option (Int × Int × Int × Int × Bool)) (L : Nat) (a0 : (List (Int × (Int × (Int × (Int × Bool)))))) (k : St cxT.ty → Option (V cxT.ty)) (xk : Nat → St cxT.ty → Option (V cxT.ty)) (g : St cxT.ty → Option (V cxT.ty)) (v0_3 : (List (Int × (Int × (Int × (Int × Bool)))))) (v0_4 : Int) : roundF prog (ev26 m46) L f26 0 [1, 1, 0, 1, 0, 0] (outK (outV prog f26) k xk) g (S26_0 a0 v0_3 v0_4) =
  bif (decide (v0_4 < (Nat.cast (List.length a0) : Int))) then bif ((decide ((0 : Int) ≤ v0_4)) && (decide (v0_4 < (Nat.cast (List.length a0) : Int)))) then tst (m46 ((List.getD a0 (Int.toNat v0_4) ((0 : Int), ((0 : Int), ((0 : Int), ((0 : Int), Bool.false))))).1, ((List.getD a0 (Int.toNat v0_4) ((0 : Int), ((0 : Int), ((0 : Int), ((0 : Int), Bool.false))))).2.1, ((List.getD a0 (Int.toNat v0_4) ((0 : Int), ((0 : Int), ((0 : Int), ((0 : Int), Bool.false))))).2.2.1, ((List.getD a0 (Int.toNat v0_4) ((0 : Int), ((0 : Int), ((0 : Int), ((0 : Int), Bool.false))))).2.2.2.1, (List.getD a0 (Int.toNat v0_4) ((0 : Int), ((0 : Int), ((0 : Int), ((0 : Int), Bool.false))))).2.2.2.2))))) ((0 : Int), (0 : Int), (0 : Int), (0 : Int), false) fun (q3 : (Int × Int × Int × Int × Bool)) => bif ((decide ((0 : Int) ≤ v0_4)) && (decide (v0_4 < (Nat.cast (List.length v0_3) : Int)))) then g (S26_0 a0 (List.set v0_3 (Int.toNat v0_4) (q3.1, (q3.2.1, (q3.2.2.1, (q3.2.2.2.1, q3.2.2.2.2))))) (Go.IntKind.wrap Go.IntKind.i64 (v0_4 + (1 : Int))))
        else none
    else none
  else k (X26_0 a0 v0_3) := by kernel_rfl
theorem t26_0 (m46 : (Int × Int × Int × Int × Bool) → Option (Int × Int × Int × Int × Bool)) (L : Nat) (a0 : (List (Int × (Int × (Int × (Int × Bool)))))) (w0_3 : (List (Int × (Int × (Int × (Int × Bool)))))) : (topK prog (ev26 m46) L f26 [1, 1, 0, 1] (outV prog f26)).n (X26_0 a0 w0_3) =
  some (n26 w0_3) := by kernel_rfl
def l26_0 (m46 : (Int × Int × Int × Int × Bool) → Option (Int × Int × Int × Int × Bool)) (L : Nat) (a0 : (List (Int × (Int × (Int × (Int × Bool)))))) : Nat → (List (Int × (Int × (Int × (Int × Bool))))) → Int → ((List (Int × (Int × (Int × (Int × Bool))))) → Option (List (Int × (Int × (Int × (Int × Bool)))))) → Option (List (Int × (Int × (Int × (Int × Bool)))))
  | 0, _, _, _ => none
  | n + 1, v0_3, v0_4, k =>
    bif (decide (v0_4 < (Nat.cast (List.length a0) : Int))) then bif ((decide ((0 : Int) ≤ v0_4)) && (decide (v0_4 < (Nat.cast (List.length a0) : Int)))) then tst (m46 ((List.getD a0 (Int.toNat v0_4) ((0 : Int), ((0 : Int), ((0 : Int), ((0 : Int), Bool.false))))).1, ((List.getD a0 (Int.toNat v0_4) ((0 : Int), ((0 : Int), ((0 : Int), ((0 : Int), Bool.false))))).2.1, ((List.getD a0 (Int.toNat v0_4) ((0 : Int), ((0 : Int), ((0 : Int), ((0 : Int), Bool.false))))).2.2.1, ((List.getD a0 (Int.toNat v0_4) ((0 : Int), ((0 : Int), ((0 : Int), ((0 : Int), Bool.false))))).2.2.2.1, (List.getD a0 (Int.toNat v0_4) ((0 : Int), ((0 : Int), ((0 : Int), ((0 : Int), Bool.false))))).2.2.2.2))))) ((0 : Int), (0 : Int), (0 : Int), (0 : Int), false) fun (q4 : (Int × Int × Int × Int × Bool)) => bif ((decide ((0 : Int) ≤ v0_4)) && (decide (v0_4 < (Nat.cast (List.length v0_3) : Int)))) then l26_0 m46 L a0 n (List.set v0_3 (Int.toNat v0_4) (q4.1, (q4.2.1, (q4.2.2.1, (q4.2.2.2.1, q4.2.2.2.2))))) (Go.IntKind.wrap Go.IntKind.i64 (v0_4 + (1 : Int))) k
          else none
      else none
    else k v0_3
theorem h26_0 (m46 : (Int × Int × Int × Int × Bool) → Option (Int × Int × Int × Int × Bool)) (L : Nat) (a0 : (List (Int × (Int × (Int × (Int × Bool)))))) (k : St cxT.ty → Option (V cxT.ty)) (xk : Nat → St cxT.ty → Option (V cxT.ty)) (k' : (List (Int × (Int × (Int × (Int × Bool))))) → Option (List (Int × (Int × (Int × (Int × Bool)))))) (hk : ∀ (w0_3 : (List (Int × (Int × (Int × (Int × Bool)))))), k (X26_0 a0 w0_3) = (k' w0_3).map n26) : ∀ (n : Nat) (v0_3 : (List (Int × (Int × (Int × (Int × Bool)))))) (v0_4 : Int), headF prog (ev26 m46) L f26 0 [1, 1, 0, 1, 0, 0] (outK (outV prog f26) k xk) n (S26_0 a0 v0_3 v0_4) = (l26_0 m46 L a0 n v0_3 v0_4 k').map n26
  | 0, _, _ => rfl
  | n + 1, v0_3, v0_4 => by
    rw [headF_round, r26_0]
    have ih := h26_0 m46 L a0 k xk k' hk n
    simp only [l26_0, map_bif, map_tst, map_bnd, Option.map_some, Option.map_none, ih, hk]
def g26 (m46 : (Int × Int × Int × Int × Bool) → Option (Int × Int × Int × Int × Bool)) (L : Nat) (a0 : (List (Int × (Int × (Int × (Int × Bool)))))) : Option (List (Int × (Int × (Int × (Int × Bool))))) :=
  bif (((decide ((0 : Int) ≤ (Nat.cast (List.length a0) : Int))) && (decide ((Nat.cast (List.length a0) : Int) ≤ (Nat.cast (List.length a0) : Int)))) && (decide ((Nat.cast (List.length a0) : Int) ≤ (1000000000 : Int)))) then l26_0 m46 L a0 L (List.replicate (Int.toNat (Nat.cast (List.length a0) : Int)) ((0 : Int), ((0 : Int), ((0 : Int), ((0 : Int), Bool.false))))) (0 : Int) (fun (w0_3 : (List (Int × (Int × (Int × (Int × Bool)))))) => some w0_3)
  else none
theorem e26 (m46 : (Int × Int × Int × Int × Bool) → Option (Int × Int × Int × Int × Bool)) (L : Nat) (a0 : (List (Int × (Int × (Int × (Int × Bool)))))) : evF prog (ev26 m46) (loopN L) f26 (a26.enc a0) = (g26 m46 L a0).map n26 := by
  let K'0 : (List (Int × (Int × (Int × (Int × Bool))))) → Option (List (Int × (Int × (Int × (Int × Bool))))) := (fun (w0_3 : (List (Int × (Int × (Int × (Int × Bool)))))) => some w0_3)
  have hin0 : ∀ (v0_3 : (List (Int × (Int × (Int × (Int × Bool)))))) (v0_4 : Int), headF prog (ev26 m46) L f26 0 [1, 1, 0, 1, 0, 0] (outK (outV prog f26) (topK prog (ev26 m46) L f26 [1, 1, 0, 1] (outV prog f26)).n (topK prog (ev26 m46) L f26 [1, 1, 0, 1] (outV prog f26)).x) L (S26_0 a0 v0_3 v0_4) = (l26_0 m46 L a0 L v0_3 v0_4 K'0).map n26 := fun v0_3 v0_4 => h26_0 m46 L a0 _ _ K'0 (fun w0_3 => by rw [t26_0]; simp only [K'0, map_bif, map_tst, map_bnd, Option.map_some, Option.map_none]) L v0_3 v0_4
  rw [i26]; simp only [g26, map_bif, map_tst, map_bnd, Option.map_some, Option.map_none, hin0, K'0]
theorem s26 (m46 : (Int × Int × Int × Int × Bool) → Option (Int × Int × Int × Int × Bool)) (h46 : Sat prog cxT 46 (c46 m46)) (m : (List (Int × (Int × (Int × (Int × Bool))))) → Option (List (Int × (Int × (Int × (Int × Bool)))))) (hm : ∀ (x : (List (Int × (Int × (Int × (Int × Bool)))))) t, m x = some t → ∃ L, g26 m46 L x = some t) : Sat prog cxT 26 (c26 m) :=
  sat_t cxT_ok cxT_pok (by rfl) (fn := f26) rfl a26 n26 dd26 m (ev26 m46) (kok_cons h46 kok_nil) kwok_nil (fun L x => g26 m46 L x) (fun L x => e26 m46 L x) hm hs26
/-! loop.example/g00222/laws.toVipS -/
def ev27 (m47 : (Int × Int × Int × (List Int)) → Option (Int × Int × Int × (List Int))) : Env cxT := { Kc := kcOf [(47, c47 m47)], Kw := kwOf [], lv := fun i => if i = 0 then [(0, [some 80]), (3, [some 75]), (4, [])] else [], xv := fun i => if i = 0 then some [(3, [some 75])] else none }
def S27_0 (a0 : (List (Int × (Int × (Int × (List Int)))))) (v0_3 : (List (Int × (Int × (Int × (List Int)))))) (v0_4 : Int) : St cxT.ty := { slots := [(.inl (.inl (ls { own := 0, nm := 0, e := 80, o := false, xs := a0 }))), junk, junk, (.inl (.inl (ls { own := 1, nm := 192, e := 75, o := true, xs := v0_3 }))), (.inl (.inl (lv (.int .i64 v0_4))))] ++ List.replicate 18 junk, D := [], F := [], ctr := 1 }
def X27_0 (a0 : (List (Int × (Int × (Int × (List Int)))))) (w0_3 : (List (Int × (Int × (Int × (List Int)))))) : St cxT.ty := { slots := [junk, junk, junk, (.inl (.inl (ls { own := 1, nm := 192, e := 75, o := true, xs := w0_3 })))] ++ List.replicate 19 junk, D := [], F := [], ctr := 1 }
theorem i27 (m47 : (Int × Int × Int × (List Int)) → Option (Int × Int × Int × (List Int))) (L : Nat) (a0 : (List (Int × (Int × (Int × (List Int)))))) : evF prog (ev27 m47) (loopN L) f27 (a27.enc a0) =
  bif (((decide ((0 : Int) ≤ (Nat.cast (List.length a0) : Int))) && (decide ((Nat.cast (List.length a0) : Int) ≤ (Nat.cast (List.length a0) : Int)))) && (decide ((Nat.cast (List.length a0) : Int) ≤ (1000000000 : Int)))) then headF prog (ev27 m47) L f27 0 [1, 1, 0, 1, 0, 0] (outK (outV prog f27) (topK prog (ev27 m47) L f27 [1, 1, 0, 1] (outV prog f27)).n (topK prog (ev27 m47) L f27 [1, 1, 0, 1] (outV prog f27)).x) L (S27_0 a0 (List.replicate (Int.toNat (Nat.cast (List.length a0) : Int)) ((0 : Int), ((0 : Int), ((0 : Int), ([] : List (Int)))))) (0 : Int))
  else none := by kernel_rfl
theorem r27_0 (m47 : (Int × Int × Int × (List Int)) → Option (Int × Int × Int × (List Int))) (L : Nat) (a0 : (List (Int × (Int × (Int × (List Int)))))) (k : St cxT.ty → Option (V cxT.ty)) (xk : Nat → St cxT.ty → Option (V cxT.ty)) (g : St cxT.ty → Option (V cxT.ty)) (v0_3 : (List (Int × (Int × (Int × (List Int)))))) (v0_4 : Int) : roundF prog (ev27 m47) L f27 0 [1, 1, 0, 1, 0, 0] (outK (outV prog f27) k xk) g (S27_0 a0 v0_3 v0_4) =
  bif (decide (v0_4 < (Nat.cast (List.length a0) : Int))) then bif ((decide ((0 : Int) ≤ v0_4)) && (decide (v0_4 < (Nat.cast (List.length a0) : Int)))) then tst (m47 ((List.getD a0 (Int.toNat v0_4) ((0 : Int), ((0 : Int), ((0 : Int), ([] : List (Int)))))).1, ((List.getD a0 (Int.toNat v0_4) ((0 : Int), ((0 : Int), ((0 : Int), ([] : List (Int)))))).2.1, ((List.getD a0 (Int.toNat v0_4) ((0 : Int), ((0 : Int), ((0 : Int), ([] : List (Int)))))).2.2.1, (List.getD a0 (Int.toNat v0_4) ((0 : Int), ((0 : Int), ((0 : Int), ([] : List (Int)))))).2.2.2)))) ((0 : Int), (0 : Int), (0 : Int), []) fun (q3 : (Int × Int × Int × (List Int))) => bif ((decide ((0 : Int) ≤ v0_4)) && (decide (v0_4 < (Nat.cast (List.length v0_3) : Int)))) then g (S27_0 a0 (List.set v0_3 (Int.toNat v0_4) (q3.1, (q3.2.1, (q3.2.2.1, q3.2.2.2)))) (Go.IntKind.wrap Go.IntKind.i64 (v0_4 + (1 : Int))))
        else none
    else none
  else k (X27_0 a0 v0_3) := by kernel_rfl
theorem t27_0 (m47 : (Int × Int × Int × (List Int)) → Option (Int × Int × Int × (List Int))) (L : Nat) (a0 : (List (Int × (Int × (Int × (List Int)))))) (w0_3 : (List (Int × (Int × (Int × (List Int)))))) : (topK prog (ev27 m47) L f27 [1, 1, 0, 1] (outV prog f27)).n (X27_0 a0 w0_3) =
  some (n27 w0_3) := by kernel_rfl
def l27_0 (m47 : (Int × Int × Int × (List Int)) → Option (Int × Int × Int × (List Int))) (L : Nat) (a0 : (List (Int × (Int × (Int × (List Int)))))) : Nat → (List (Int × (Int × (Int × (List Int))))) → Int → ((List (Int × (Int × (Int × (List Int))))) → Option (List (Int × (Int × (Int × (List Int)))))) → Option (List (Int × (Int × (Int × (List Int)))))
  | 0, _, _, _ => none
  | n + 1, v0_3, v0_4, k =>
    bif (decide (v0_4 < (Nat.cast (List.length a0) : Int))) then bif ((decide ((0 : Int) ≤ v0_4)) && (decide (v0_4 < (Nat.cast (List.length a0) : Int)))) then tst (m47 ((List.getD a0 (Int.toNat v0_4) ((0 : Int), ((0 : Int), ((0 : Int), ([] : List (Int)))))).1, ((List.getD a0 (Int.toNat v0_4) ((0 : Int), ((0 : Int), ((0 : Int), ([] : List (Int)))))).2.1, ((List.getD a0 (Int.toNat v0_4) ((0 : Int), ((0 : Int), ((0 : Int), ([] : List (Int)))))).2.2.1, (List.getD a0 (Int.toNat v0_4) ((0 : Int), ((0 : Int), ((0 : Int), ([] : List (Int)))))).2.2.2)))) ((0 : Int), (0 : Int), (0 : Int), []) fun (q4 : (Int × Int × Int × (List Int))) => bif ((decide ((0 : Int) ≤ v0_4)) && (decide (v0_4 < (Nat.cast (List.length v0_3) : Int)))) then l27_0 m47 L a0 n (List.set v0_3 (Int.toNat v0_4) (q4.1, (q4.2.1, (q4.2.2.1, q4.2.2.2)))) (Go.IntKind.wrap Go.IntKind.i64 (v0_4 + (1 : Int))) k
          else none
      else none
    else k v0_3
theorem h27_0 (m47 : (Int × Int × Int × (List Int)) → Option (Int × Int × Int × (List Int))) (L : Nat) (a0 : (List (Int × (Int × (Int × (List Int)))))) (k : St cxT.ty → Option (V cxT.ty)) (xk : Nat → St cxT.ty → Option (V cxT.ty)) (k' : (List (Int × (Int × (Int × (List Int))))) → Option (List (Int × (Int × (Int × (List Int)))))) (hk : ∀ (w0_3 : (List (Int × (Int × (Int × (List Int)))))), k (X27_0 a0 w0_3) = (k' w0_3).map n27) : ∀ (n : Nat) (v0_3 : (List (Int × (Int × (Int × (List Int)))))) (v0_4 : Int), headF prog (ev27 m47) L f27 0 [1, 1, 0, 1, 0, 0] (outK (outV prog f27) k xk) n (S27_0 a0 v0_3 v0_4) = (l27_0 m47 L a0 n v0_3 v0_4 k').map n27
  | 0, _, _ => rfl
  | n + 1, v0_3, v0_4 => by
    rw [headF_round, r27_0]
    have ih := h27_0 m47 L a0 k xk k' hk n
    simp only [l27_0, map_bif, map_tst, map_bnd, Option.map_some, Option.map_none, ih, hk]
def g27 (m47 : (Int × Int × Int × (List Int)) → Option (Int × Int × Int × (List Int))) (L : Nat) (a0 : (List (Int × (Int × (Int × (List Int)))))) : Option (List (Int × (Int × (Int × (List Int))))) :=
  bif (((decide ((0 : Int) ≤ (Nat.cast (List.length a0) : Int))) && (decide ((Nat.cast (List.length a0) : Int) ≤ (Nat.cast (List.length a0) : Int)))) && (decide ((Nat.cast (List.length a0) : Int) ≤ (1000000000 : Int)))) then l27_0 m47 L a0 L (List.replicate (Int.toNat (Nat.cast (List.length a0) : Int)) ((0 : Int), ((0 : Int), ((0 : Int), ([] : List (Int)))))) (0 : Int) (fun (w0_3 : (List (Int × (Int × (Int × (List Int)))))) => some w0_3)
  else none
theorem e27 (m47 : (Int × Int × Int × (List Int)) → Option (Int × Int × Int × (List Int))) (L : Nat) (a0 : (List (Int × (Int × (Int × (List Int)))))) : evF prog (ev27 m47) (loopN L) f27 (a27.enc a0) = (g27 m47 L a0).map n27 := by
  let K'0 : (List (Int × (Int × (Int × (List Int))))) → Option (List (Int × (Int × (Int × (List Int))))) := (fun (w0_3 : (List (Int × (Int × (Int × (List Int)))))) => some w0_3)
  have hin0 : ∀ (v0_3 : (List (Int × (Int × (Int × (List Int)))))) (v0_4 : Int), headF prog (ev27 m47) L f27 0 [1, 1, 0, 1, 0, 0] (outK (outV prog f27) (topK prog (ev27 m47) L f27 [1, 1, 0, 1] (outV prog f27)).n (topK prog (ev27 m47) L f27 [1, 1, 0, 1] (outV prog f27)).x) L (S27_0 a0 v0_3 v0_4) = (l27_0 m47 L a0 L v0_3 v0_4 K'0).map n27 := fun v0_3 v0_4 => h27_0 m47 L a0 _ _ K'0 (fun w0_3 => by rw [t27_0]; simp only [K'0, map_bif, map_tst, map_bnd, Option.map_some, Option.map_none]) L v0_3 v0_4
  rw [i27]; simp only [g27, map_bif, map_tst, map_bnd, Option.map_some, Option.map_none, hin0, K'0]
theorem s27 (m47 : (Int × Int × Int × (List Int)) → Option (Int × Int × Int × (List Int))) (h47 : Sat prog cxT 47 (c47 m47)) (m : (List (Int × (Int × (Int × (List Int))))) → Option (List (Int × (Int × (Int × (List Int)))))) (hm : ∀ (x : (List (Int × (Int × (Int × (List Int)))))) t, m x = some t → ∃ L, g27 m47 L x = some t) : Sat prog cxT 27 (c27 m) :=
  sat_t cxT_ok cxT_pok (by rfl) (fn := f27) rfl a27 n27 dd27 m (ev27 m47) (kok_cons h47 kok_nil) kwok_nil (fun L x => g27 m47 L x) (fun L x => e27 m47 L x) hm hs27
/-! loop.example/g00222/laws.toConfig -/
def ev12 (m26 : (List (Int × (Int × (Int × (Int × Bool))))) → Option (List (Int × (Int × (Int × (Int × Bool)))))) (m27 : (List (Int × (Int × (Int × (List Int))))) → Option (List (Int × (Int × (Int × (List Int)))))) : Env cxT := { Kc := kcOf [(26, c26 m26), (27, c27 m27)], Kw := kwOf [], lv := fun i => [], xv := fun i => none }
theorem i12 (m26 : (List (Int × (Int × (Int × (Int × Bool))))) → Option (List (Int × (Int × (Int × (Int × Bool)))))) (m27 : (List (Int × (Int × (Int × (List Int))))) → Option (List (Int × (Int × (Int × (List Int)))))) (L : Nat) (a0_0 : Int) (a0_1 : (List (Int × (Int × (Int × (Int × Bool)))))) (a0_2 : (List (Int × (Int × (Int × (List Int)))))) : evF prog (ev12 m26 m27) (loopN L) f12 (a12.enc (a0_0, a0_1, a0_2)) =
  tst (m26 a0_1) [] fun (q1 : (List (Int × (Int × (Int × (Int × Bool)))))) => tst (m27 a0_2) [] fun (q2 : (List (Int × (Int × (Int × (List Int)))))) => some (n12 (a0_0, q1, q2)) := by kernel_rfl
def g12 (m26 : (List (Int × (Int × (Int × (Int × Bool))))) → Option (List (Int × (Int × (Int × (Int × Bool)))))) (m27 : (List (Int × (Int × (Int × (List Int))))) → Option (List (Int × (Int × (Int × (List Int)))))) (L : Nat) (a0_0 : Int) (a0_1 : (List (Int × (Int × (Int × (Int × Bool)))))) (a0_2 : (List (Int × (Int × (Int × (List Int)))))) : Option (Int × (List (Int × (Int × (Int × (Int × Bool))))) × (List (Int × (Int × (Int × (List Int)))))) :=
  tst (m26 a0_1) [] fun (q1 : (List (Int × (Int × (Int × (Int × Bool)))))) => tst (m27 a0_2) [] fun (q2 : (List (Int × (Int × (Int × (List Int)))))) => some (a0_0, q1, q2)
theorem e12 (m26 : (List (Int × (Int × (Int × (Int × Bool))))) → Option (List (Int × (Int × (Int × (Int × Bool)))))) (m27 : (List (Int × (Int × (Int × (List Int))))) → Option (List (Int × (Int × (Int × (List Int)))))) (L : Nat) (a0_0 : Int) (a0_1 : (List (Int × (Int × (Int × (Int × Bool)))))) (a0_2 : (List (Int × (Int × (Int × (List Int)))))) : evF prog (ev12 m26 m27) (loopN L) f12 (a12.enc (a0_0, a0_1, a0_2)) = (g12 m26 m27 L a0_0 a0_1 a0_2).map n12 := by
  rw [i12]; simp only [g12, map_bif, map_tst, map_bnd, Option.map_some, Option.map_none]
theorem s12 (m26 : (List (Int × (Int × (Int × (Int × Bool))))) → Option (List (Int × (Int × (Int × (Int × Bool)))))) (m27 : (List (Int × (Int × (Int × (List Int))))) → Option (List (Int × (Int × (Int × (List Int)))))) (h26 : Sat prog cxT 26 (c26 m26)) (h27 : Sat prog cxT 27 (c27 m27)) (m : (Int × (List (Int × (Int × (Int × (Int × Bool))))) × (List (Int × (Int × (Int × (List Int)))))) → Option (Int × (List (Int × (Int × (Int × (Int × Bool))))) × (List (Int × (Int × (Int × (List Int))))))) (hm : ∀ (x : (Int × (List (Int × (Int × (Int × (Int × Bool))))) × (List (Int × (Int × (Int × (List Int))))))) t, m x = some t → ∃ L, g12 m26 m27 L x.1 x.2.1 x.2.2 = some t) : Sat prog cxT 12 (c12 m) :=
  sat_t cxT_ok cxT_pok (by rfl) (fn := f12) rfl a12 n12 dd12 m (ev12 m26 m27) (kok_cons h26 (kok_cons h27 kok_nil)) kwok_nil (fun L x => g12 m26 m27 L x.1 x.2.1 x.2.2) (fun L x => e12 m26 m27 L x.1 x.2.1 x.2.2) hm hs12
/-! loop.example/g00222/laws.toWatch -/
def g7 (m12 : (Int × (List (Int × (Int × (Int × (Int × Bool))))) × (List (Int × (Int × (Int × (List Int)))))) → Option (Int × (List (Int × (Int × (Int × (Int × Bool))))) × (List (Int × (Int × (Int × (List Int))))))) (L : Nat) (a0_0 : Bool) (a0_1 : Int) (a0_2 : (List (Int × (Int × (Int × (Int × Bool)))))) (a0_3 : (List (Int × (Int × (Int × (List Int)))))) : Option (Bool × Int × (List (Int × (Int × (Int × (Int × Bool))))) × (List (Int × (Int × (Int × (List Int)))))) :=
  tst (m12 (a0_1, (a0_2, a0_3))) ((0 : Int), [], []) fun (q1 : (Int × (List (Int × (Int × (Int × (Int × Bool))))) × (List (Int × (Int × (Int × (List Int))))))) => some (a0_0, q1.1, q1.2.1, q1.2.2)
/-! loop.example/g00222/spec.WatchFault -/
def g6 (m19 : (Int × ((List (Int × (Int × (Int × (Int × Bool))))) × (List (Int × (Int × (Int × (List Int))))))) → Option Int) (m20 : (Int × ((List (Int × (Int × (Int × (Int × Bool))))) × (List (Int × (Int × (Int × (List Int))))))) → Option Bool) (L : Nat) (a0_0 : Bool) (a0_1 : Int) (a0_2 : (List (Int × (Int × (Int × (Int × Bool)))))) (a0_3 : (List (Int × (Int × (Int × (List Int)))))) : Option Int :=
  tst (m19 (a0_1, (a0_2, a0_3))) (0 : Int) fun (q1 : Int) => bif (q1 != (0 : Int)) then some q1
    else bif (!a0_0) then tst (m20 (a0_1, (a0_2, a0_3))) false fun (q3 : Bool) => bif (!q3) then some (1 : Int)
        else some (0 : Int)
    else some (0 : Int)
/-! loop.example/g00222/impl.WatchFault -/
/-! loop.example/g00222/impl.isNothing -/
end Go.Proofs.Try
