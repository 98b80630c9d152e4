/- A part of the proof of FnExactMailFault: LgFl. -/
import Derived.Test.YtdnjjhambjafoaaGreatLgBase
set_option maxHeartbeats 0
set_option maxRecDepth 100000
set_option linter.unusedVariables false
set_option linter.unusedSimpArgs false
namespace Go.Proofs.Tryz
open Go Go.VM Go.RowKit
/-! loop.example/g00222/laws.szMail -/
def ev16 (m40 : ((List E9) × Int) → Option Int) : Env cxT := { Kc := kcOf [(40, c40 m40)], Kw := kwOf [], lv := fun i => [], xv := fun i => none }
theorem i16 (m40 : ((List E9) × Int) → Option Int) (L : Nat) (a0_0 : Int) (a0_1 : Int) (a0_2 : Int) (a0_3 : Int) (a0_4 : Int) (a0_5 : Int) (a0_6 : Int) (a0_7 : Bool) (a0_8 : (List E9)) (a1 : Int) : evF prog (ev16 m40) (loopN L) f16 (a16.enc ((a0_0, a0_1, a0_2, a0_3, a0_4, a0_5, a0_6, a0_7, a0_8), a1)) =
  tst (m40 (a0_8, a1)) (0 : Int) fun (q1 : Int) => bif (decide (q1 < (0 : Int))) then some (n16 (-(1 : Int)))
    else some (n16 q1) := by kernel_rfl
def g16 (m40 : ((List E9) × Int) → Option Int) (L : Nat) (a0_0 : Int) (a0_1 : Int) (a0_2 : Int) (a0_3 : Int) (a0_4 : Int) (a0_5 : Int) (a0_6 : Int) (a0_7 : Bool) (a0_8 : (List E9)) (a1 : Int) : Option Int :=
  tst (m40 (a0_8, a1)) (0 : Int) fun (q1 : Int) => bif (decide (q1 < (0 : Int))) then some (-(1 : Int))
    else some q1
theorem e16 (m40 : ((List E9) × Int) → Option Int) (L : Nat) (a0_0 : Int) (a0_1 : Int) (a0_2 : Int) (a0_3 : Int) (a0_4 : Int) (a0_5 : Int) (a0_6 : Int) (a0_7 : Bool) (a0_8 : (List E9)) (a1 : Int) : evF prog (ev16 m40) (loopN L) f16 (a16.enc ((a0_0, a0_1, a0_2, a0_3, a0_4, a0_5, a0_6, a0_7, a0_8), a1)) = (g16 m40 L a0_0 a0_1 a0_2 a0_3 a0_4 a0_5 a0_6 a0_7 a0_8 a1).map n16 := by
  rw [i16]; simp only [g16, map_bif, map_tst, map_bnd, Option.map_some, Option.map_none]
theorem s16 (m40 : ((List E9) × Int) → Option Int) (h40 : Sat prog cxT 40 (c40 m40)) (m : (M9 × Int) → Option Int) (hm : ∀ (x : (M9 × Int)) t, m x = some t → ∃ L, g16 m40 L x.1.1 x.1.2.1 x.1.2.2.1 x.1.2.2.2.1 x.1.2.2.2.2.1 x.1.2.2.2.2.2.1 x.1.2.2.2.2.2.2.1 x.1.2.2.2.2.2.2.2.1 x.1.2.2.2.2.2.2.2.2 x.2 = some t) : Sat prog cxT 16 (c16 m) :=
  sat_t cxT_ok cxT_pok (by rfl) (fn := f16) rfl a16 n16 dd16 m (ev16 m40) (kok_cons h40 kok_nil) kwok_nil (fun L x => g16 m40 L x.1.1 x.1.2.1 x.1.2.2.1 x.1.2.2.2.1 x.1.2.2.2.2.1 x.1.2.2.2.2.2.1 x.1.2.2.2.2.2.2.1 x.1.2.2.2.2.2.2.2.1 x.1.2.2.2.2.2.2.2.2 x.2) (fun L x => e16 m40 L x.1.1 x.1.2.1 x.1.2.2.1 x.1.2.2.2.1 x.1.2.2.2.2.1 x.1.2.2.2.2.2.1 x.1.2.2.2.2.2.2.1 x.1.2.2.2.2.2.2.2.1 x.1.2.2.2.2.2.2.2.2 x.2) hm hs16
/-! loop.example/g00222/spec.MailFault -/
def ev17 (m42 : N10 → Option Int) (m59 : (N10 × M9) → Option Int) : Env cxT := { Kc := kcOf [(42, c42 m42), (59, c59 m59)], Kw := kwOf [], lv := fun i => [], xv := fun i => none }
theorem i17 (m42 : N10 → Option Int) (m59 : (N10 × M9) → Option Int) (L : Nat) (a0_0 : Int) (a0_1 : Int) (a0_2 : Int) (a0_3 : Int) (a0_4 : (List E9)) (a0_5 : Int) (a0_6 : Int) (a0_7 : (List Int)) (a0_8 : (List Int)) (a0_9 : (List Int)) (a1_0 : Int) (a1_1 : Int) (a1_2 : Int) (a1_3 : Int) (a1_4 : Int) (a1_5 : Int) (a1_6 : Int) (a1_7 : Bool) (a1_8 : (List E9)) : evF prog (ev17 m42 m59) (loopN L) f17 (a17.enc ((a0_0, a0_1, a0_2, a0_3, a0_4, a0_5, a0_6, a0_7, a0_8, a0_9), (a1_0, a1_1, a1_2, a1_3, a1_4, a1_5, a1_6, a1_7, a1_8))) =
  tst (m42 (a0_0, (a0_1, (a0_2, (a0_3, (a0_4, (a0_5, (a0_6, (a0_7, (a0_8, a0_9)))))))))) (0 : Int) fun (q1 : Int) => bif (q1 != (0 : Int)) then some (n17 q1)
    else tst (m59 ((a0_0, (a0_1, (a0_2, (a0_3, (a0_4, (a0_5, (a0_6, (a0_7, (a0_8, a0_9))))))))), (a1_0, (a1_1, (a1_2, (a1_3, (a1_4, (a1_5, (a1_6, (a1_7, a1_8)))))))))) (0 : Int) fun (q2 : Int) => some (n17 q2) := by kernel_rfl
def g17 (m42 : N10 → Option Int) (m59 : (N10 × M9) → Option Int) (L : Nat) (a0_0 : Int) (a0_1 : Int) (a0_2 : Int) (a0_3 : Int) (a0_4 : (List E9)) (a0_5 : Int) (a0_6 : Int) (a0_7 : (List Int)) (a0_8 : (List Int)) (a0_9 : (List Int)) (a1_0 : Int) (a1_1 : Int) (a1_2 : Int) (a1_3 : Int) (a1_4 : Int) (a1_5 : Int) (a1_6 : Int) (a1_7 : Bool) (a1_8 : (List E9)) : Option Int :=
  tst (m42 (a0_0, (a0_1, (a0_2, (a0_3, (a0_4, (a0_5, (a0_6, (a0_7, (a0_8, a0_9)))))))))) (0 : Int) fun (q1 : Int) => bif (q1 != (0 : Int)) then some q1
    else tst (m59 ((a0_0, (a0_1, (a0_2, (a0_3, (a0_4, (a0_5, (a0_6, (a0_7, (a0_8, a0_9))))))))), (a1_0, (a1_1, (a1_2, (a1_3, (a1_4, (a1_5, (a1_6, (a1_7, a1_8)))))))))) (0 : Int) fun (q2 : Int) => some q2
theorem e17 (m42 : N10 → Option Int) (m59 : (N10 × M9) → Option Int) (L : Nat) (a0_0 : Int) (a0_1 : Int) (a0_2 : Int) (a0_3 : Int) (a0_4 : (List E9)) (a0_5 : Int) (a0_6 : Int) (a0_7 : (List Int)) (a0_8 : (List Int)) (a0_9 : (List Int)) (a1_0 : Int) (a1_1 : Int) (a1_2 : Int) (a1_3 : Int) (a1_4 : Int) (a1_5 : Int) (a1_6 : Int) (a1_7 : Bool) (a1_8 : (List E9)) : evF prog (ev17 m42 m59) (loopN L) f17 (a17.enc ((a0_0, a0_1, a0_2, a0_3, a0_4, a0_5, a0_6, a0_7, a0_8, a0_9), (a1_0, a1_1, a1_2, a1_3, a1_4, a1_5, a1_6, a1_7, a1_8))) = (g17 m42 m59 L a0_0 a0_1 a0_2 a0_3 a0_4 a0_5 a0_6 a0_7 a0_8 a0_9 a1_0 a1_1 a1_2 a1_3 a1_4 a1_5 a1_6 a1_7 a1_8).map n17 := by
  rw [i17]; simp only [g17, map_bif, map_tst, map_bnd, Option.map_some, Option.map_none]
theorem s17 (m42 : N10 → Option Int) (m59 : (N10 × M9) → Option Int) (h42 : Sat prog cxT 42 (c42 m42)) (h59 : Sat prog cxT 59 (c59 m59)) (m : (N10 × M9) → Option Int) (hm : ∀ (x : (N10 × M9)) t, m x = some t → ∃ L, g17 m42 m59 L x.1.1 x.1.2.1 x.1.2.2.1 x.1.2.2.2.1 x.1.2.2.2.2.1 x.1.2.2.2.2.2.1 x.1.2.2.2.2.2.2.1 x.1.2.2.2.2.2.2.2.1 x.1.2.2.2.2.2.2.2.2.1 x.1.2.2.2.2.2.2.2.2.2 x.2.1 x.2.2.1 x.2.2.2.1 x.2.2.2.2.1 x.2.2.2.2.2.1 x.2.2.2.2.2.2.1 x.2.2.2.2.2.2.2.1 x.2.2.2.2.2.2.2.2.1 x.2.2.2.2.2.2.2.2.2 = some t) : Sat prog cxT 17 (c17 m) :=
  sat_t cxT_ok cxT_pok (by rfl) (fn := f17) rfl a17 n17 dd17 m (ev17 m42 m59) (kok_cons h42 (kok_cons h59 kok_nil)) kwok_nil (fun L x => g17 m42 m59 L x.1.1 x.1.2.1 x.1.2.2.1 x.1.2.2.2.1 x.1.2.2.2.2.1 x.1.2.2.2.2.2.1 x.1.2.2.2.2.2.2.1 x.1.2.2.2.2.2.2.2.1 x.1.2.2.2.2.2.2.2.2.1 x.1.2.2.2.2.2.2.2.2.2 x.2.1 x.2.2.1 x.2.2.2.1 x.2.2.2.2.1 x.2.2.2.2.2.1 x.2.2.2.2.2.2.1 x.2.2.2.2.2.2.2.1 x.2.2.2.2.2.2.2.2.1 x.2.2.2.2.2.2.2.2.2) (fun L x => e17 m42 m59 L x.1.1 x.1.2.1 x.1.2.2.1 x.1.2.2.2.1 x.1.2.2.2.2.1 x.1.2.2.2.2.2.1 x.1.2.2.2.2.2.2.1 x.1.2.2.2.2.2.2.2.1 x.1.2.2.2.2.2.2.2.2.1 x.1.2.2.2.2.2.2.2.2.2 x.2.1 x.2.2.1 x.2.2.2.1 x.2.2.2.2.1 x.2.2.2.2.2.1 x.2.2.2.2.2.2.1 x.2.2.2.2.2.2.2.1 x.2.2.2.2.2.2.2.2.1 x.2.2.2.2.2.2.2.2.2) hm hs17
/-! loop.example/g00222/spec.l8Mail -/
def ev59 (m94 : (Int × Int × Int) → Option Bool) (m95 : (N10 × Int) → Option Bool) (m96 : (List E9) → Option Int) (m66 : (List E9) → Option E9) (m101 : M9 → Option Bool) : Env cxT := { Kc := kcOf [(94, c94 m94), (95, c95 m95), (96, c96 m96), (66, c66 m66), (101, c101 m101)], Kw := kwOf [], lv := fun i => [], xv := fun i => none }
theorem i59 (m94 : (Int × Int × Int) → Option Bool) (m95 : (N10 × Int) → Option Bool) (m96 : (List E9) → Option Int) (m66 : (List E9) → Option E9) (m101 : M9 → Option Bool) (L : Nat) (a0 : N10) (a1_0 : Int) (a1_1 : Int) (a1_2 : Int) (a1_3 : Int) (a1_4 : Int) (a1_5 : Int) (a1_6 : Int) (a1_7 : Bool) (a1_8 : (List E9)) : evF prog (ev59 m94 m95 m96 m66 m101) (loopN L) f59 (a59.enc (a0, (a1_0, a1_1, a1_2, a1_3, a1_4, a1_5, a1_6, a1_7, a1_8))) =
  tst (m94 (a1_0, ((1 : Int), (4 : Int)))) false fun (q1 : Bool) => bif (!q1) then some (n59 (5 : Int))
    else tst (m95 (a0, a1_1)) false fun (q2 : Bool) => bif (!q2) then some (n59 (3 : Int))
      else bif (a1_1 == a0.1) then some (n59 (3 : Int))
      else bif (a1_2 != a0.1) then some (n59 (3 : Int))
      else tst (m94 (a1_3, ((1 : Int), (100000 : Int)))) false fun (q3 : Bool) => bif (!q3) then some (n59 (3 : Int))
        else tst (m94 (a1_4, ((0 : Int), (40 : Int)))) false fun (q4 : Bool) => bif (!q4) then some (n59 (3 : Int))
          else tst (m94 (a1_5, ((0 : Int), a1_3))) false fun (q5 : Bool) => bif (!q5) then some (n59 (3 : Int))
            else tst (m94 (a1_6, ((0 : Int), (40 : Int)))) false fun (q6 : Bool) => bif (!q6) then some (n59 (3 : Int))
              else tst (m96 a1_8) (0 : Int) fun (q7 : Int) => bif (q7 != (0 : Int)) then some (n59 q7)
                else bif (decide ((Nat.cast (List.length a1_8) : Int) > (0 : Int))) then bif (a1_0 != (3 : Int)) then some (n59 (1 : Int))
                  else tst (m66 a1_8) ((0 : Int), (0 : Int), (0 : Int), (0 : Int), (0 : Int), (0 : Int), (0 : Int), (0 : Int), (0 : Int)) fun (q9 : E9) => bif (decide (q9.1 > a1_3)) then some (n59 (1 : Int))
                    else bif ((decide ((0 : Int) ≤ (0 : Int))) && (decide ((0 : Int) < (Nat.cast (List.length a1_8) : Int)))) then bif (decide ((List.getD a1_8 (0 : Nat) ((0 : Int), ((0 : Int), ((0 : Int), ((0 : Int), ((0 : Int), ((0 : Int), ((0 : Int), ((0 : Int), (0 : Int)))))))))).1 < a1_5)) then some (n59 (1 : Int))
                      else bif a1_7 then bif (a1_0 != (2 : Int)) then bif (a1_0 != (4 : Int)) then some (n59 (1 : Int))
                          else tst (m101 (a1_0, (a1_1, (a1_2, (a1_3, (a1_4, (a1_5, (a1_6, (a1_7, a1_8))))))))) false fun (q13 : Bool) => bif (!q13) then some (n59 (1 : Int))
                            else bif (a1_4 == (0 : Int)) then bif (a1_5 != (0 : Int)) then some (n59 (1 : Int))
                              else some (n59 (0 : Int))
                            else some (n59 (0 : Int))
                        else tst (m101 (a1_0, (a1_1, (a1_2, (a1_3, (a1_4, (a1_5, (a1_6, (a1_7, a1_8))))))))) false fun (q12 : Bool) => bif (!q12) then some (n59 (1 : Int))
                          else bif (a1_4 == (0 : Int)) then bif (a1_5 != (0 : Int)) then some (n59 (1 : Int))
                            else some (n59 (0 : Int))
                          else some (n59 (0 : Int))
                      else tst (m101 (a1_0, (a1_1, (a1_2, (a1_3, (a1_4, (a1_5, (a1_6, (a1_7, a1_8))))))))) false fun (q11 : Bool) => bif (!q11) then some (n59 (1 : Int))
                        else bif (a1_4 == (0 : Int)) then bif (a1_5 != (0 : Int)) then some (n59 (1 : Int))
                          else some (n59 (0 : Int))
                        else some (n59 (0 : Int))
                    else none
                else bif a1_7 then bif (a1_0 != (2 : Int)) then bif (a1_0 != (4 : Int)) then some (n59 (1 : Int))
                    else tst (m101 (a1_0, (a1_1, (a1_2, (a1_3, (a1_4, (a1_5, (a1_6, (a1_7, a1_8))))))))) false fun (q10 : Bool) => bif (!q10) then some (n59 (1 : Int))
                      else bif (a1_4 == (0 : Int)) then bif (a1_5 != (0 : Int)) then some (n59 (1 : Int))
                        else some (n59 (0 : Int))
                      else some (n59 (0 : Int))
                  else tst (m101 (a1_0, (a1_1, (a1_2, (a1_3, (a1_4, (a1_5, (a1_6, (a1_7, a1_8))))))))) false fun (q9 : Bool) => bif (!q9) then some (n59 (1 : Int))
                    else bif (a1_4 == (0 : Int)) then bif (a1_5 != (0 : Int)) then some (n59 (1 : Int))
                      else some (n59 (0 : Int))
                    else some (n59 (0 : Int))
                else tst (m101 (a1_0, (a1_1, (a1_2, (a1_3, (a1_4, (a1_5, (a1_6, (a1_7, a1_8))))))))) false fun (q8 : Bool) => bif (!q8) then some (n59 (1 : Int))
                  else bif (a1_4 == (0 : Int)) then bif (a1_5 != (0 : Int)) then some (n59 (1 : Int))
                    else some (n59 (0 : Int))
                  else some (n59 (0 : Int)) := by kernel_rfl
def g59 (m94 : (Int × Int × Int) → Option Bool) (m95 : (N10 × Int) → Option Bool) (m96 : (List E9) → Option Int) (m66 : (List E9) → Option E9) (m101 : M9 → Option Bool) (L : Nat) (a0 : N10) (a1_0 : Int) (a1_1 : Int) (a1_2 : Int) (a1_3 : Int) (a1_4 : Int) (a1_5 : Int) (a1_6 : Int) (a1_7 : Bool) (a1_8 : (List E9)) : Option Int :=
  tst (m94 (a1_0, ((1 : Int), (4 : Int)))) false fun (q1 : Bool) => bif (!q1) then some (5 : Int)
    else tst (m95 (a0, a1_1)) false fun (q2 : Bool) => bif (!q2) then some (3 : Int)
      else bif (a1_1 == a0.1) then some (3 : Int)
      else bif (a1_2 != a0.1) then some (3 : Int)
      else tst (m94 (a1_3, ((1 : Int), (100000 : Int)))) false fun (q3 : Bool) => bif (!q3) then some (3 : Int)
        else tst (m94 (a1_4, ((0 : Int), (40 : Int)))) false fun (q4 : Bool) => bif (!q4) then some (3 : Int)
          else tst (m94 (a1_5, ((0 : Int), a1_3))) false fun (q5 : Bool) => bif (!q5) then some (3 : Int)
            else tst (m94 (a1_6, ((0 : Int), (40 : Int)))) false fun (q6 : Bool) => bif (!q6) then some (3 : Int)
              else tst (m96 a1_8) (0 : Int) fun (q7 : Int) => bif (q7 != (0 : Int)) then some q7
                else bif (decide ((Nat.cast (List.length a1_8) : Int) > (0 : Int))) then bif (a1_0 != (3 : Int)) then some (1 : Int)
                  else tst (m66 a1_8) ((0 : Int), (0 : Int), (0 : Int), (0 : Int), (0 : Int), (0 : Int), (0 : Int), (0 : Int), (0 : Int)) fun (q9 : E9) => bif (decide (q9.1 > a1_3)) then some (1 : Int)
                    else bif ((decide ((0 : Int) ≤ (0 : Int))) && (decide ((0 : Int) < (Nat.cast (List.length a1_8) : Int)))) then bif (decide ((List.getD a1_8 (0 : Nat) ((0 : Int), ((0 : Int), ((0 : Int), ((0 : Int), ((0 : Int), ((0 : Int), ((0 : Int), ((0 : Int), (0 : Int)))))))))).1 < a1_5)) then some (1 : Int)
                      else bif a1_7 then bif (a1_0 != (2 : Int)) then bif (a1_0 != (4 : Int)) then some (1 : Int)
                          else tst (m101 (a1_0, (a1_1, (a1_2, (a1_3, (a1_4, (a1_5, (a1_6, (a1_7, a1_8))))))))) false fun (q13 : Bool) => bif (!q13) then some (1 : Int)
                            else bif (a1_4 == (0 : Int)) then bif (a1_5 != (0 : Int)) then some (1 : Int)
                              else some (0 : Int)
                            else some (0 : Int)
                        else tst (m101 (a1_0, (a1_1, (a1_2, (a1_3, (a1_4, (a1_5, (a1_6, (a1_7, a1_8))))))))) false fun (q12 : Bool) => bif (!q12) then some (1 : Int)
                          else bif (a1_4 == (0 : Int)) then bif (a1_5 != (0 : Int)) then some (1 : Int)
                            else some (0 : Int)
                          else some (0 : Int)
                      else tst (m101 (a1_0, (a1_1, (a1_2, (a1_3, (a1_4, (a1_5, (a1_6, (a1_7, a1_8))))))))) false fun (q11 : Bool) => bif (!q11) then some (1 : Int)
                        else bif (a1_4 == (0 : Int)) then bif (a1_5 != (0 : Int)) then some (1 : Int)
                          else some (0 : Int)
                        else some (0 : Int)
                    else none
                else bif a1_7 then bif (a1_0 != (2 : Int)) then bif (a1_0 != (4 : Int)) then some (1 : Int)
                    else tst (m101 (a1_0, (a1_1, (a1_2, (a1_3, (a1_4, (a1_5, (a1_6, (a1_7, a1_8))))))))) false fun (q10 : Bool) => bif (!q10) then some (1 : Int)
                      else bif (a1_4 == (0 : Int)) then bif (a1_5 != (0 : Int)) then some (1 : Int)
                        else some (0 : Int)
                      else some (0 : Int)
                  else tst (m101 (a1_0, (a1_1, (a1_2, (a1_3, (a1_4, (a1_5, (a1_6, (a1_7, a1_8))))))))) false fun (q9 : Bool) => bif (!q9) then some (1 : Int)
                    else bif (a1_4 == (0 : Int)) then bif (a1_5 != (0 : Int)) then some (1 : Int)
                      else some (0 : Int)
                    else some (0 : Int)
                else tst (m101 (a1_0, (a1_1, (a1_2, (a1_3, (a1_4, (a1_5, (a1_6, (a1_7, a1_8))))))))) false fun (q8 : Bool) => bif (!q8) then some (1 : Int)
                  else bif (a1_4 == (0 : Int)) then bif (a1_5 != (0 : Int)) then some (1 : Int)
                    else some (0 : Int)
                  else some (0 : Int)
theorem e59 (m94 : (Int × Int × Int) → Option Bool) (m95 : (N10 × Int) → Option Bool) (m96 : (List E9) → Option Int) (m66 : (List E9) → Option E9) (m101 : M9 → Option Bool) (L : Nat) (a0 : N10) (a1_0 : Int) (a1_1 : Int) (a1_2 : Int) (a1_3 : Int) (a1_4 : Int) (a1_5 : Int) (a1_6 : Int) (a1_7 : Bool) (a1_8 : (List E9)) : evF prog (ev59 m94 m95 m96 m66 m101) (loopN L) f59 (a59.enc (a0, (a1_0, a1_1, a1_2, a1_3, a1_4, a1_5, a1_6, a1_7, a1_8))) = (g59 m94 m95 m96 m66 m101 L a0 a1_0 a1_1 a1_2 a1_3 a1_4 a1_5 a1_6 a1_7 a1_8).map n59 := by
  rw [i59]; simp only [g59, map_bif, map_tst, map_bnd, Option.map_some, Option.map_none]
theorem s59 (m94 : (Int × Int × Int) → Option Bool) (m95 : (N10 × Int) → Option Bool) (m96 : (List E9) → Option Int) (m66 : (List E9) → Option E9) (m101 : M9 → Option Bool) (h94 : Sat prog cxT 94 (c94 m94)) (h95 : Sat prog cxT 95 (c95 m95)) (h96 : Sat prog cxT 96 (c96 m96)) (h66 : Sat prog cxT 66 (c66 m66)) (h101 : Sat prog cxT 101 (c101 m101)) (m : (N10 × M9) → Option Int) (hm : ∀ (x : (N10 × M9)) t, m x = some t → ∃ L, g59 m94 m95 m96 m66 m101 L x.1 x.2.1 x.2.2.1 x.2.2.2.1 x.2.2.2.2.1 x.2.2.2.2.2.1 x.2.2.2.2.2.2.1 x.2.2.2.2.2.2.2.1 x.2.2.2.2.2.2.2.2.1 x.2.2.2.2.2.2.2.2.2 = some t) : Sat prog cxT 59 (c59 m) :=
  sat_t cxT_ok cxT_pok (by rfl) (fn := f59) rfl a59 n59 dd59 m (ev59 m94 m95 m96 m66 m101) (kok_cons h94 (kok_cons h95 (kok_cons h96 (kok_cons h66 (kok_cons h101 kok_nil))))) kwok_nil (fun L x => g59 m94 m95 m96 m66 m101 L x.1 x.2.1 x.2.2.1 x.2.2.2.1 x.2.2.2.2.1 x.2.2.2.2.2.1 x.2.2.2.2.2.2.1 x.2.2.2.2.2.2.2.1 x.2.2.2.2.2.2.2.2.1 x.2.2.2.2.2.2.2.2.2) (fun L x => e59 m94 m95 m96 m66 m101 L x.1 x.2.1 x.2.2.1 x.2.2.2.1 x.2.2.2.2.1 x.2.2.2.2.2.1 x.2.2.2.2.2.2.1 x.2.2.2.2.2.2.2.1 x.2.2.2.2.2.2.2.2.1 x.2.2.2.2.2.2.2.2.2) hm hs59
/-! loop.example/g00222/spec.l8Zeros -/
def ev101 : Env cxT := { Kc := kcOf [], Kw := kwOf [], lv := fun i => [], xv := fun i => none }
theorem i101 (L : Nat) (a0_0 : Int) (a0_1 : Int) (a0_2 : Int) (a0_3 : Int) (a0_4 : Int) (a0_5 : Int) (a0_6 : Int) (a0_7 : Bool) (a0_8 : (List E9)) : evF prog ev101 (loopN L) f101 (a101.enc (a0_0, a0_1, a0_2, a0_3, a0_4, a0_5, a0_6, a0_7, a0_8)) =
  bif (a0_0 == (1 : Int)) then some (n101 (a0_6 == (0 : Int)))
  else bif (a0_0 == (2 : Int)) then bif (a0_4 == (0 : Int)) then bif (a0_5 == (0 : Int)) then some (n101 (a0_6 == (0 : Int)))
      else some (n101 Bool.false)
    else some (n101 Bool.false)
  else bif (a0_0 == (4 : Int)) then bif (a0_5 == (0 : Int)) then some (n101 (a0_6 == (0 : Int)))
    else some (n101 Bool.false)
  else some (n101 Bool.true) := by kernel_rfl
def g101 (L : Nat) (a0_0 : Int) (a0_1 : Int) (a0_2 : Int) (a0_3 : Int) (a0_4 : Int) (a0_5 : Int) (a0_6 : Int) (a0_7 : Bool) (a0_8 : (List E9)) : Option Bool :=
  bif (a0_0 == (1 : Int)) then some (a0_6 == (0 : Int))
  else bif (a0_0 == (2 : Int)) then bif (a0_4 == (0 : Int)) then bif (a0_5 == (0 : Int)) then some (a0_6 == (0 : Int))
      else some Bool.false
    else some Bool.false
  else bif (a0_0 == (4 : Int)) then bif (a0_5 == (0 : Int)) then some (a0_6 == (0 : Int))
    else some Bool.false
  else some Bool.true
theorem e101 (L : Nat) (a0_0 : Int) (a0_1 : Int) (a0_2 : Int) (a0_3 : Int) (a0_4 : Int) (a0_5 : Int) (a0_6 : Int) (a0_7 : Bool) (a0_8 : (List E9)) : evF prog ev101 (loopN L) f101 (a101.enc (a0_0, a0_1, a0_2, a0_3, a0_4, a0_5, a0_6, a0_7, a0_8)) = (g101 L a0_0 a0_1 a0_2 a0_3 a0_4 a0_5 a0_6 a0_7 a0_8).map n101 := by
  rw [i101]; simp only [g101, map_bif, map_tst, map_bnd, Option.map_some, Option.map_none]
theorem s101 (m : M9 → Option Bool) (hm : ∀ (x : M9) t, m x = some t → ∃ L, g101 L x.1 x.2.1 x.2.2.1 x.2.2.2.1 x.2.2.2.2.1 x.2.2.2.2.2.1 x.2.2.2.2.2.2.1 x.2.2.2.2.2.2.2.1 x.2.2.2.2.2.2.2.2 = some t) : Sat prog cxT 101 (c101 m) :=
  sat_t cxT_ok cxT_pok (by rfl) (fn := f101) rfl a101 n101 dd101 m ev101 kok_nil kwok_nil (fun L x => g101 L x.1 x.2.1 x.2.2.1 x.2.2.2.1 x.2.2.2.2.1 x.2.2.2.2.2.1 x.2.2.2.2.2.2.1 x.2.2.2.2.2.2.2.1 x.2.2.2.2.2.2.2.2) (fun L x => e101 L x.1 x.2.1 x.2.2.1 x.2.2.2.1 x.2.2.2.2.1 x.2.2.2.2.2.1 x.2.2.2.2.2.2.1 x.2.2.2.2.2.2.2.1 x.2.2.2.2.2.2.2.2) hm hs101
/-! loop.example/g00222/laws.toMail -/
def ev18 (m43 : (List E9) → Option (List E9)) : Env cxT := { Kc := kcOf [(43, c43 m43)], Kw := kwOf [], lv := fun i => [], xv := fun i => none }
theorem i18 (m43 : (List E9) → Option (List E9)) (L : Nat) (a0_0 : Int) (a0_1 : Int) (a0_2 : Int) (a0_3 : Int) (a0_4 : Int) (a0_5 : Int) (a0_6 : Int) (a0_7 : Bool) (a0_8 : (List E9)) : evF prog (ev18 m43) (loopN L) f18 (a18.enc (a0_0, a0_1, a0_2, a0_3, a0_4, a0_5, a0_6, a0_7, a0_8)) =
  tst (m43 a0_8) [] fun (q1 : (List E9)) => some (n18 (a0_0, a0_1, a0_2, a0_3, a0_4, a0_5, a0_6, a0_7, q1)) := by kernel_rfl
def g18 (m43 : (List E9) → Option (List E9)) (L : Nat) (a0_0 : Int) (a0_1 : Int) (a0_2 : Int) (a0_3 : Int) (a0_4 : Int) (a0_5 : Int) (a0_6 : Int) (a0_7 : Bool) (a0_8 : (List E9)) : Option M9 :=
  tst (m43 a0_8) [] fun (q1 : (List E9)) => some (a0_0, a0_1, a0_2, a0_3, a0_4, a0_5, a0_6, a0_7, q1)
theorem e18 (m43 : (List E9) → Option (List E9)) (L : Nat) (a0_0 : Int) (a0_1 : Int) (a0_2 : Int) (a0_3 : Int) (a0_4 : Int) (a0_5 : Int) (a0_6 : Int) (a0_7 : Bool) (a0_8 : (List E9)) : evF prog (ev18 m43) (loopN L) f18 (a18.enc (a0_0, a0_1, a0_2, a0_3, a0_4, a0_5, a0_6, a0_7, a0_8)) = (g18 m43 L a0_0 a0_1 a0_2 a0_3 a0_4 a0_5 a0_6 a0_7 a0_8).map n18 := by
  rw [i18]; simp only [g18, map_bif, map_tst, map_bnd, Option.map_some, Option.map_none]
theorem s18 (m43 : (List E9) → Option (List E9)) (h43 : Sat prog cxT 43 (c43 m43)) (m : M9 → Option M9) (hm : ∀ (x : M9) t, m x = some t → ∃ L, g18 m43 L x.1 x.2.1 x.2.2.1 x.2.2.2.1 x.2.2.2.2.1 x.2.2.2.2.2.1 x.2.2.2.2.2.2.1 x.2.2.2.2.2.2.2.1 x.2.2.2.2.2.2.2.2 = some t) : Sat prog cxT 18 (c18 m) :=
  sat_t cxT_ok cxT_pok (by rfl) (fn := f18) rfl a18 n18 dd18 m (ev18 m43) (kok_cons h43 kok_nil) kwok_nil (fun L x => g18 m43 L x.1 x.2.1 x.2.2.1 x.2.2.2.1 x.2.2.2.2.1 x.2.2.2.2.2.1 x.2.2.2.2.2.2.1 x.2.2.2.2.2.2.2.1 x.2.2.2.2.2.2.2.2) (fun L x => e18 m43 L x.1 x.2.1 x.2.2.1 x.2.2.2.1 x.2.2.2.2.1 x.2.2.2.2.2.1 x.2.2.2.2.2.2.1 x.2.2.2.2.2.2.2.1 x.2.2.2.2.2.2.2.2) hm hs18
/-! loop.example/g00222/impl.MailFault -/
def ev19 (m14 : N10 → Option Int) (m52 : (Int × Int × Int) → Option Bool) (m46 : (Int × Int) → Option Bool) (m60 : Int → Option Bool) (m50 : (List E9) → Option Int) (m61 : M9 → Option Bool) (m62 : M9 → Option Bool) (m63 : M9 → Option Bool) : Env cxT := { Kc := kcOf [(14, c14 m14), (52, c52 m52), (46, c46 m46), (60, c60 m60), (50, c50 m50), (61, c61 m61), (62, c62 m62), (63, c63 m63)], Kw := kwOf [], lv := fun i => [], xv := fun i => none }
theorem i19 (m14 : N10 → Option Int) (m52 : (Int × Int × Int) → Option Bool) (m46 : (Int × Int) → Option Bool) (m60 : Int → Option Bool) (m50 : (List E9) → Option Int) (m61 : M9 → Option Bool) (m62 : M9 → Option Bool) (m63 : M9 → Option Bool) (L : Nat) (a0_0 : Int) (a0_1 : Int) (a0_2 : Int) (a0_3 : Int) (a0_4 : (List E9)) (a0_5 : Int) (a0_6 : Int) (a0_7 : (List Int)) (a0_8 : (List Int)) (a0_9 : (List Int)) (a1_0 : Int) (a1_1 : Int) (a1_2 : Int) (a1_3 : Int) (a1_4 : Int) (a1_5 : Int) (a1_6 : Int) (a1_7 : Bool) (a1_8 : (List E9)) : evF prog (ev19 m14 m52 m46 m60 m50 m61 m62 m63) (loopN L) f19 (a19.enc ((a0_0, a0_1, a0_2, a0_3, a0_4, a0_5, a0_6, a0_7, a0_8, a0_9), (a1_0, a1_1, a1_2, a1_3, a1_4, a1_5, a1_6, a1_7, a1_8))) =
  tst (m14 (a0_0, (a0_1, (a0_2, (a0_3, (a0_4, (a0_5, (a0_6, (a0_7, (a0_8, a0_9)))))))))) (0 : Int) fun (q1 : Int) => bif (q1 != (0 : Int)) then some (n19 q1)
    else tst (m52 (a1_0, ((1 : Int), (4 : Int)))) false fun (q2 : Bool) => bif (!q2) then some (n19 (5 : Int))
      else tst (m46 (a1_1, a0_1)) false fun (q3 : Bool) => bif (!q3) then some (n19 (3 : Int))
        else bif (a1_1 == a0_0) then some (n19 (3 : Int))
        else bif (a1_2 != a0_0) then some (n19 (3 : Int))
        else tst (m60 a1_3) false fun (q4 : Bool) => bif (!q4) then some (n19 (3 : Int))
          else tst (m52 (a1_4, ((0 : Int), (40 : Int)))) false fun (q5 : Bool) => bif (!q5) then some (n19 (3 : Int))
            else tst (m52 (a1_5, ((0 : Int), a1_3))) false fun (q6 : Bool) => bif (!q6) then some (n19 (3 : Int))
              else tst (m52 (a1_6, ((0 : Int), (40 : Int)))) false fun (q7 : Bool) => bif (!q7) then some (n19 (3 : Int))
                else tst (m50 a1_8) (0 : Int) fun (q8 : Int) => bif (q8 != (0 : Int)) then some (n19 q8)
                  else tst (m61 (a1_0, (a1_1, (a1_2, (a1_3, (a1_4, (a1_5, (a1_6, (a1_7, a1_8))))))))) false fun (q9 : Bool) => bif (!q9) then some (n19 (1 : Int))
                    else tst (m62 (a1_0, (a1_1, (a1_2, (a1_3, (a1_4, (a1_5, (a1_6, (a1_7, a1_8))))))))) false fun (q10 : Bool) => bif (!q10) then some (n19 (1 : Int))
                      else tst (m63 (a1_0, (a1_1, (a1_2, (a1_3, (a1_4, (a1_5, (a1_6, (a1_7, a1_8))))))))) false fun (q11 : Bool) => bif (!q11) then some (n19 (1 : Int))
                        else bif (a1_4 == (0 : Int)) then bif (a1_5 != (0 : Int)) then some (n19 (1 : Int))
                          else some (n19 (0 : Int))
                        else some (n19 (0 : Int)) := by kernel_rfl
def g19 (m14 : N10 → Option Int) (m52 : (Int × Int × Int) → Option Bool) (m46 : (Int × Int) → Option Bool) (m60 : Int → Option Bool) (m50 : (List E9) → Option Int) (m61 : M9 → Option Bool) (m62 : M9 → Option Bool) (m63 : M9 → Option Bool) (L : Nat) (a0_0 : Int) (a0_1 : Int) (a0_2 : Int) (a0_3 : Int) (a0_4 : (List E9)) (a0_5 : Int) (a0_6 : Int) (a0_7 : (List Int)) (a0_8 : (List Int)) (a0_9 : (List Int)) (a1_0 : Int) (a1_1 : Int) (a1_2 : Int) (a1_3 : Int) (a1_4 : Int) (a1_5 : Int) (a1_6 : Int) (a1_7 : Bool) (a1_8 : (List E9)) : Option Int :=
  tst (m14 (a0_0, (a0_1, (a0_2, (a0_3, (a0_4, (a0_5, (a0_6, (a0_7, (a0_8, a0_9)))))))))) (0 : Int) fun (q1 : Int) => bif (q1 != (0 : Int)) then some q1
    else tst (m52 (a1_0, ((1 : Int), (4 : Int)))) false fun (q2 : Bool) => bif (!q2) then some (5 : Int)
      else tst (m46 (a1_1, a0_1)) false fun (q3 : Bool) => bif (!q3) then some (3 : Int)
        else bif (a1_1 == a0_0) then some (3 : Int)
        else bif (a1_2 != a0_0) then some (3 : Int)
        else tst (m60 a1_3) false fun (q4 : Bool) => bif (!q4) then some (3 : Int)
          else tst (m52 (a1_4, ((0 : Int), (40 : Int)))) false fun (q5 : Bool) => bif (!q5) then some (3 : Int)
            else tst (m52 (a1_5, ((0 : Int), a1_3))) false fun (q6 : Bool) => bif (!q6) then some (3 : Int)
              else tst (m52 (a1_6, ((0 : Int), (40 : Int)))) false fun (q7 : Bool) => bif (!q7) then some (3 : Int)
                else tst (m50 a1_8) (0 : Int) fun (q8 : Int) => bif (q8 != (0 : Int)) then some q8
                  else tst (m61 (a1_0, (a1_1, (a1_2, (a1_3, (a1_4, (a1_5, (a1_6, (a1_7, a1_8))))))))) false fun (q9 : Bool) => bif (!q9) then some (1 : Int)
                    else tst (m62 (a1_0, (a1_1, (a1_2, (a1_3, (a1_4, (a1_5, (a1_6, (a1_7, a1_8))))))))) false fun (q10 : Bool) => bif (!q10) then some (1 : Int)
                      else tst (m63 (a1_0, (a1_1, (a1_2, (a1_3, (a1_4, (a1_5, (a1_6, (a1_7, a1_8))))))))) false fun (q11 : Bool) => bif (!q11) then some (1 : Int)
                        else bif (a1_4 == (0 : Int)) then bif (a1_5 != (0 : Int)) then some (1 : Int)
                          else some (0 : Int)
                        else some (0 : Int)
theorem e19 (m14 : N10 → Option Int) (m52 : (Int × Int × Int) → Option Bool) (m46 : (Int × Int) → Option Bool) (m60 : Int → Option Bool) (m50 : (List E9) → Option Int) (m61 : M9 → Option Bool) (m62 : M9 → Option Bool) (m63 : M9 → Option Bool) (L : Nat) (a0_0 : Int) (a0_1 : Int) (a0_2 : Int) (a0_3 : Int) (a0_4 : (List E9)) (a0_5 : Int) (a0_6 : Int) (a0_7 : (List Int)) (a0_8 : (List Int)) (a0_9 : (List Int)) (a1_0 : Int) (a1_1 : Int) (a1_2 : Int) (a1_3 : Int) (a1_4 : Int) (a1_5 : Int) (a1_6 : Int) (a1_7 : Bool) (a1_8 : (List E9)) : evF prog (ev19 m14 m52 m46 m60 m50 m61 m62 m63) (loopN L) f19 (a19.enc ((a0_0, a0_1, a0_2, a0_3, a0_4, a0_5, a0_6, a0_7, a0_8, a0_9), (a1_0, a1_1, a1_2, a1_3, a1_4, a1_5, a1_6, a1_7, a1_8))) = (g19 m14 m52 m46 m60 m50 m61 m62 m63 L a0_0 a0_1 a0_2 a0_3 a0_4 a0_5 a0_6 a0_7 a0_8 a0_9 a1_0 a1_1 a1_2 a1_3 a1_4 a1_5 a1_6 a1_7 a1_8).map n19 := by
  rw [i19]; simp only [g19, map_bif, map_tst, map_bnd, Option.map_some, Option.map_none]
theorem s19 (m14 : N10 → Option Int) (m52 : (Int × Int × Int) → Option Bool) (m46 : (Int × Int) → Option Bool) (m60 : Int → Option Bool) (m50 : (List E9) → Option Int) (m61 : M9 → Option Bool) (m62 : M9 → Option Bool) (m63 : M9 → Option Bool) (h14 : Sat prog cxT 14 (c14 m14)) (h52 : Sat prog cxT 52 (c52 m52)) (h46 : Sat prog cxT 46 (c46 m46)) (h60 : Sat prog cxT 60 (c60 m60)) (h50 : Sat prog cxT 50 (c50 m50)) (h61 : Sat prog cxT 61 (c61 m61)) (h62 : Sat prog cxT 62 (c62 m62)) (h63 : Sat prog cxT 63 (c63 m63)) (m : (N10 × M9) → Option Int) (hm : ∀ (x : (N10 × M9)) t, m x = some t → ∃ L, g19 m14 m52 m46 m60 m50 m61 m62 m63 L x.1.1 x.1.2.1 x.1.2.2.1 x.1.2.2.2.1 x.1.2.2.2.2.1 x.1.2.2.2.2.2.1 x.1.2.2.2.2.2.2.1 x.1.2.2.2.2.2.2.2.1 x.1.2.2.2.2.2.2.2.2.1 x.1.2.2.2.2.2.2.2.2.2 x.2.1 x.2.2.1 x.2.2.2.1 x.2.2.2.2.1 x.2.2.2.2.2.1 x.2.2.2.2.2.2.1 x.2.2.2.2.2.2.2.1 x.2.2.2.2.2.2.2.2.1 x.2.2.2.2.2.2.2.2.2 = some t) : Sat prog cxT 19 (c19 m) :=
  sat_t cxT_ok cxT_pok (by rfl) (fn := f19) rfl a19 n19 dd19 m (ev19 m14 m52 m46 m60 m50 m61 m62 m63) (kok_cons h14 (kok_cons h52 (kok_cons h46 (kok_cons h60 (kok_cons h50 (kok_cons h61 (kok_cons h62 (kok_cons h63 kok_nil)))))))) kwok_nil (fun L x => g19 m14 m52 m46 m60 m50 m61 m62 m63 L x.1.1 x.1.2.1 x.1.2.2.1 x.1.2.2.2.1 x.1.2.2.2.2.1 x.1.2.2.2.2.2.1 x.1.2.2.2.2.2.2.1 x.1.2.2.2.2.2.2.2.1 x.1.2.2.2.2.2.2.2.2.1 x.1.2.2.2.2.2.2.2.2.2 x.2.1 x.2.2.1 x.2.2.2.1 x.2.2.2.2.1 x.2.2.2.2.2.1 x.2.2.2.2.2.2.1 x.2.2.2.2.2.2.2.1 x.2.2.2.2.2.2.2.2.1 x.2.2.2.2.2.2.2.2.2) (fun L x => e19 m14 m52 m46 m60 m50 m61 m62 m63 L x.1.1 x.1.2.1 x.1.2.2.1 x.1.2.2.2.1 x.1.2.2.2.2.1 x.1.2.2.2.2.2.1 x.1.2.2.2.2.2.2.1 x.1.2.2.2.2.2.2.2.1 x.1.2.2.2.2.2.2.2.2.1 x.1.2.2.2.2.2.2.2.2.2 x.2.1 x.2.2.1 x.2.2.2.1 x.2.2.2.2.1 x.2.2.2.2.2.1 x.2.2.2.2.2.2.1 x.2.2.2.2.2.2.2.1 x.2.2.2.2.2.2.2.2.1 x.2.2.2.2.2.2.2.2.2) hm hs19
/-! loop.example/g00222/impl.hasEntriesOfKind -/
def ev61 (m51 : (List E9) → Option E9) : Env cxT := { Kc := kcOf [(51, c51 m51)], Kw := kwOf [], lv := fun i => [], xv := fun i => none }
theorem i61 (m51 : (List E9) → Option E9) (L : Nat) (a0_0 : Int) (a0_1 : Int) (a0_2 : Int) (a0_3 : Int) (a0_4 : Int) (a0_5 : Int) (a0_6 : Int) (a0_7 : Bool) (a0_8 : (List E9)) : evF prog (ev61 m51) (loopN L) f61 (a61.enc (a0_0, a0_1, a0_2, a0_3, a0_4, a0_5, a0_6, a0_7, a0_8)) =
  bif ((Nat.cast (List.length a0_8) : Int) == (0 : Int)) then some (n61 Bool.true)
  else bif (a0_0 == (3 : Int)) then tst (m51 a0_8) ((0 : Int), (0 : Int), (0 : Int), (0 : Int), (0 : Int), (0 : Int), (0 : Int), (0 : Int), (0 : Int)) fun (q2 : E9) => bif (decide (q2.1 ≤ a0_3)) then bif ((decide ((0 : Int) ≤ (0 : Int))) && (decide ((0 : Int) < (Nat.cast (List.length a0_8) : Int)))) then some (n61 (decide ((List.getD a0_8 (0 : Nat) ((0 : Int), ((0 : Int), ((0 : Int), ((0 : Int), ((0 : Int), ((0 : Int), ((0 : Int), ((0 : Int), (0 : Int)))))))))).1 ≥ a0_5)))
        else none
      else some (n61 Bool.false)
  else some (n61 Bool.false) := by kernel_rfl
def g61 (m51 : (List E9) → Option E9) (L : Nat) (a0_0 : Int) (a0_1 : Int) (a0_2 : Int) (a0_3 : Int) (a0_4 : Int) (a0_5 : Int) (a0_6 : Int) (a0_7 : Bool) (a0_8 : (List E9)) : Option Bool :=
  bif ((Nat.cast (List.length a0_8) : Int) == (0 : Int)) then some Bool.true
  else bif (a0_0 == (3 : Int)) then tst (m51 a0_8) ((0 : Int), (0 : Int), (0 : Int), (0 : Int), (0 : Int), (0 : Int), (0 : Int), (0 : Int), (0 : Int)) fun (q2 : E9) => bif (decide (q2.1 ≤ a0_3)) then bif ((decide ((0 : Int) ≤ (0 : Int))) && (decide ((0 : Int) < (Nat.cast (List.length a0_8) : Int)))) then some (decide ((List.getD a0_8 (0 : Nat) ((0 : Int), ((0 : Int), ((0 : Int), ((0 : Int), ((0 : Int), ((0 : Int), ((0 : Int), ((0 : Int), (0 : Int)))))))))).1 ≥ a0_5))
        else none
      else some Bool.false
  else some Bool.false
theorem e61 (m51 : (List E9) → Option E9) (L : Nat) (a0_0 : Int) (a0_1 : Int) (a0_2 : Int) (a0_3 : Int) (a0_4 : Int) (a0_5 : Int) (a0_6 : Int) (a0_7 : Bool) (a0_8 : (List E9)) : evF prog (ev61 m51) (loopN L) f61 (a61.enc (a0_0, a0_1, a0_2, a0_3, a0_4, a0_5, a0_6, a0_7, a0_8)) = (g61 m51 L a0_0 a0_1 a0_2 a0_3 a0_4 a0_5 a0_6 a0_7 a0_8).map n61 := by
  rw [i61]; simp only [g61, map_bif, map_tst, map_bnd, Option.map_some, Option.map_none]
theorem s61 (m51 : (List E9) → Option E9) (h51 : Sat prog cxT 51 (c51 m51)) (m : M9 → Option Bool) (hm : ∀ (x : M9) t, m x = some t → ∃ L, g61 m51 L x.1 x.2.1 x.2.2.1 x.2.2.2.1 x.2.2.2.2.1 x.2.2.2.2.2.1 x.2.2.2.2.2.2.1 x.2.2.2.2.2.2.2.1 x.2.2.2.2.2.2.2.2 = some t) : Sat prog cxT 61 (c61 m) :=
  sat_t cxT_ok cxT_pok (by rfl) (fn := f61) rfl a61 n61 dd61 m (ev61 m51) (kok_cons h51 kok_nil) kwok_nil (fun L x => g61 m51 L x.1 x.2.1 x.2.2.1 x.2.2.2.1 x.2.2.2.2.1 x.2.2.2.2.2.1 x.2.2.2.2.2.2.1 x.2.2.2.2.2.2.2.1 x.2.2.2.2.2.2.2.2) (fun L x => e61 m51 L x.1 x.2.1 x.2.2.1 x.2.2.2.1 x.2.2.2.2.1 x.2.2.2.2.2.1 x.2.2.2.2.2.2.1 x.2.2.2.2.2.2.2.1 x.2.2.2.2.2.2.2.2) hm hs61
/-! loop.example/g00222/impl.hasOkOfKind -/
def ev62 : Env cxT := { Kc := kcOf [], Kw := kwOf [], lv := fun i => [], xv := fun i => none }
theorem i62 (L : Nat) (a0_0 : Int) (a0_1 : Int) (a0_2 : Int) (a0_3 : Int) (a0_4 : Int) (a0_5 : Int) (a0_6 : Int) (a0_7 : Bool) (a0_8 : (List E9)) : evF prog ev62 (loopN L) f62 (a62.enc (a0_0, a0_1, a0_2, a0_3, a0_4, a0_5, a0_6, a0_7, a0_8)) =
  bif (!a0_7) then some (n62 Bool.true)
  else bif (a0_0 == (2 : Int)) then some (n62 Bool.true)
  else some (n62 (a0_0 == (4 : Int))) := by kernel_rfl
def g62 (L : Nat) (a0_0 : Int) (a0_1 : Int) (a0_2 : Int) (a0_3 : Int) (a0_4 : Int) (a0_5 : Int) (a0_6 : Int) (a0_7 : Bool) (a0_8 : (List E9)) : Option Bool :=
  bif (!a0_7) then some Bool.true
  else bif (a0_0 == (2 : Int)) then some Bool.true
  else some (a0_0 == (4 : Int))
theorem e62 (L : Nat) (a0_0 : Int) (a0_1 : Int) (a0_2 : Int) (a0_3 : Int) (a0_4 : Int) (a0_5 : Int) (a0_6 : Int) (a0_7 : Bool) (a0_8 : (List E9)) : evF prog ev62 (loopN L) f62 (a62.enc (a0_0, a0_1, a0_2, a0_3, a0_4, a0_5, a0_6, a0_7, a0_8)) = (g62 L a0_0 a0_1 a0_2 a0_3 a0_4 a0_5 a0_6 a0_7 a0_8).map n62 := by
  rw [i62]; simp only [g62, map_bif, map_tst, map_bnd, Option.map_some, Option.map_none]
theorem s62 (m : M9 → Option Bool) (hm : ∀ (x : M9) t, m x = some t → ∃ L, g62 L x.1 x.2.1 x.2.2.1 x.2.2.2.1 x.2.2.2.2.1 x.2.2.2.2.2.1 x.2.2.2.2.2.2.1 x.2.2.2.2.2.2.2.1 x.2.2.2.2.2.2.2.2 = some t) : Sat prog cxT 62 (c62 m) :=
  sat_t cxT_ok cxT_pok (by rfl) (fn := f62) rfl a62 n62 dd62 m ev62 kok_nil kwok_nil (fun L x => g62 L x.1 x.2.1 x.2.2.1 x.2.2.2.1 x.2.2.2.2.1 x.2.2.2.2.2.1 x.2.2.2.2.2.2.1 x.2.2.2.2.2.2.2.1 x.2.2.2.2.2.2.2.2) (fun L x => e62 L x.1 x.2.1 x.2.2.1 x.2.2.2.1 x.2.2.2.2.1 x.2.2.2.2.2.1 x.2.2.2.2.2.2.1 x.2.2.2.2.2.2.2.1 x.2.2.2.2.2.2.2.2) hm hs62
/-! loop.example/g00222/impl.hasNumbersOfKind -/
def ev63 : Env cxT := { Kc := kcOf [], Kw := kwOf [], lv := fun i => [], xv := fun i => none }
theorem i63 (L : Nat) (a0_0 : Int) (a0_1 : Int) (a0_2 : Int) (a0_3 : Int) (a0_4 : Int) (a0_5 : Int) (a0_6 : Int) (a0_7 : Bool) (a0_8 : (List E9)) : evF prog ev63 (loopN L) f63 (a63.enc (a0_0, a0_1, a0_2, a0_3, a0_4, a0_5, a0_6, a0_7, a0_8)) =
  bif (a0_0 == (1 : Int)) then some (n63 (a0_6 == (0 : Int)))
  else bif (a0_0 == (2 : Int)) then bif (a0_4 == (0 : Int)) then bif (a0_5 == (0 : Int)) then some (n63 (a0_6 == (0 : Int)))
      else some (n63 Bool.false)
    else some (n63 Bool.false)
  else bif (a0_0 == (4 : Int)) then bif (a0_5 == (0 : Int)) then some (n63 (a0_6 == (0 : Int)))
    else some (n63 Bool.false)
  else some (n63 Bool.true) := by kernel_rfl
def g63 (L : Nat) (a0_0 : Int) (a0_1 : Int) (a0_2 : Int) (a0_3 : Int) (a0_4 : Int) (a0_5 : Int) (a0_6 : Int) (a0_7 : Bool) (a0_8 : (List E9)) : Option Bool :=
  bif (a0_0 == (1 : Int)) then some (a0_6 == (0 : Int))
  else bif (a0_0 == (2 : Int)) then bif (a0_4 == (0 : Int)) then bif (a0_5 == (0 : Int)) then some (a0_6 == (0 : Int))
      else some Bool.false
    else some Bool.false
  else bif (a0_0 == (4 : Int)) then bif (a0_5 == (0 : Int)) then some (a0_6 == (0 : Int))
    else some Bool.false
  else some Bool.true
theorem e63 (L : Nat) (a0_0 : Int) (a0_1 : Int) (a0_2 : Int) (a0_3 : Int) (a0_4 : Int) (a0_5 : Int) (a0_6 : Int) (a0_7 : Bool) (a0_8 : (List E9)) : evF prog ev63 (loopN L) f63 (a63.enc (a0_0, a0_1, a0_2, a0_3, a0_4, a0_5, a0_6, a0_7, a0_8)) = (g63 L a0_0 a0_1 a0_2 a0_3 a0_4 a0_5 a0_6 a0_7 a0_8).map n63 := by
  rw [i63]; simp only [g63, map_bif, map_tst, map_bnd, Option.map_some, Option.map_none]
theorem s63 (m : M9 → Option Bool) (hm : ∀ (x : M9) t, m x = some t → ∃ L, g63 L x.1 x.2.1 x.2.2.1 x.2.2.2.1 x.2.2.2.2.1 x.2.2.2.2.2.1 x.2.2.2.2.2.2.1 x.2.2.2.2.2.2.2.1 x.2.2.2.2.2.2.2.2 = some t) : Sat prog cxT 63 (c63 m) :=
  sat_t cxT_ok cxT_pok (by rfl) (fn := f63) rfl a63 n63 dd63 m ev63 kok_nil kwok_nil (fun L x => g63 L x.1 x.2.1 x.2.2.1 x.2.2.2.1 x.2.2.2.2.1 x.2.2.2.2.2.1 x.2.2.2.2.2.2.1 x.2.2.2.2.2.2.2.1 x.2.2.2.2.2.2.2.2) (fun L x => e63 L x.1 x.2.1 x.2.2.1 x.2.2.2.1 x.2.2.2.2.1 x.2.2.2.2.2.1 x.2.2.2.2.2.2.1 x.2.2.2.2.2.2.2.1 x.2.2.2.2.2.2.2.2) hm hs63
/-! loop.example/g00222/laws.markMail -/
end Go.Proofs.Tryz
