/- A part of the proof of FnExactSpreadNode: LgFa, LgFb. -/
import Derived.Test.YtdnjjhambjafoaaGreatLgBase
set_option linter.unusedVariables false
set_option maxHeartbeats 0
set_option maxRecDepth 100000
set_option linter.unusedSimpArgs false
namespace Go.Proofs.Tryz
open Go Go.VM Go.RowKit
def ev94 : Env cxT := { Kc := kcOf [], Kw := kwOf [], lv := fun i => [], xv := fun i => none }
theorem i94 (L : Nat) (a0 a1 a2 : Int) : evF prog ev94 (loopN L) f94 (a94.enc (a0, a1, a2)) =
  bif (decide (a0 ≥ a1)) then some (n94 (decide (a0 ≤ a2)))
  else some (n94 false) := by kernel_rfl
def g94 (L : Nat) (a0 a1 a2 : Int) : Option Bool :=
  bif (decide (a0 ≥ a1)) then some (decide (a0 ≤ a2))
  else some false
theorem e94 (L : Nat) (a0 a1 a2 : Int) : evF prog ev94 (loopN L) f94 (a94.enc (a0, a1, a2)) = (g94 L a0 a1 a2).map n94 := by
  rw [i94]; simp only [g94, map_bif, map_tst, map_bnd, Option.map_some, Option.map_none]
theorem s94 (m : (Int × Int × Int) → Option Bool) (hm : ∀ (x : (Int × Int × Int)) t, m x = some t → ∃ L, g94 L x.1 x.2.1 x.2.2 = some t) : Sat prog cxT 94 (c94 m) :=
  sat_t cxT_ok cxT_pok (by rfl) (fn := f94) rfl a94 n94 dd94 m ev94 kok_nil kwok_nil (fun L x => g94 L x.1 x.2.1 x.2.2) (fun L x => e94 L x.1 x.2.1 x.2.2) hm hs94
def ev85 : Env cxT := { Kc := kcOf [], Kw := kwOf [], lv := fun i => [], xv := fun i => none }
theorem i85 (L : Nat) (x0 x1 : Int) (x2 x3 : Int) (x4 x5 : Int) : evF prog ev85 (loopN L) f85 (a85.enc (x0, x1, x2, x3, x4, x5)) =
  some (n85 (x0, x1, x2, x3, x4, x5)) := by kernel_rfl
def g85 (L : Nat) (x0 x1 : Int) (x2 x3 : Int) (x4 x5 : Int) : Option (Int × Int × Int × Int × Int × Int) :=
  some (x0, x1, x2, x3, x4, x5)
theorem e85 (L : Nat) (x0 x1 : Int) (x2 x3 : Int) (x4 x5 : Int) : evF prog ev85 (loopN L) f85 (a85.enc (x0, x1, x2, x3, x4, x5)) = (g85 L x0 x1 x2 x3 x4 x5).map n85 := by
  rw [i85]; simp only [g85, map_bif, map_tst, map_bnd, Option.map_some, Option.map_none]
theorem s85 (m : (Int × Int × Int × Int × Int × Int) → Option (Int × Int × Int × Int × Int × Int)) (hm : ∀ (x : (Int × Int × Int × Int × Int × Int)) t, m x = some t → ∃ L, g85 L x.1 x.2.1 x.2.2.1 x.2.2.2.1 x.2.2.2.2.1 x.2.2.2.2.2 = some t) : Sat prog cxT 85 (c85 m) :=
  sat_t cxT_ok cxT_pok (by rfl) (fn := f85) rfl a85 n85 dd85 m ev85 kok_nil kwok_nil (fun L x => g85 L x.1 x.2.1 x.2.2.1 x.2.2.2.1 x.2.2.2.2.1 x.2.2.2.2.2) (fun L x => e85 L x.1 x.2.1 x.2.2.1 x.2.2.2.1 x.2.2.2.2.1 x.2.2.2.2.2) hm hs85
def ev60 : Env cxT := { Kc := kcOf [], Kw := kwOf [], lv := fun i => [], xv := fun i => none }
theorem i60 (L : Nat) (a0 : Int) : evF prog ev60 (loopN L) f60 (a60.enc a0) =
  bif (decide (a0 ≥ 1)) then some (n60 (decide (a0 ≤ 100000)))
  else some (n60 false) := by kernel_rfl
def g60 (L : Nat) (a0 : Int) : Option Bool :=
  bif (decide (a0 ≥ 1)) then some (decide (a0 ≤ 100000))
  else some false
theorem e60 (L : Nat) (a0 : Int) : evF prog ev60 (loopN L) f60 (a60.enc a0) = (g60 L a0).map n60 := by
  rw [i60]; simp only [g60, map_bif, map_tst, map_bnd, Option.map_some, Option.map_none]
theorem s60 (m : Int → Option Bool) (hm : ∀ (x : Int) t, m x = some t → ∃ L, g60 L x = some t) : Sat prog cxT 60 (c60 m) :=
  sat_t cxT_ok cxT_pok (by rfl) (fn := f60) rfl a60 n60 dd60 m ev60 kok_nil kwok_nil (fun L x => g60 L x) (fun L x => e60 L x) hm hs60
def ev116 : Env cxT := { Kc := kcOf [], Kw := kwOf [], lv := fun i => [], xv := fun i => none }
theorem i116 (L : Nat) (a0 : Int) : evF prog ev116 (loopN L) f116 (a116.enc a0) =
  bif (decide (a0 ≥ 0)) then some (n116 (decide (a0 ≤ 999)))
  else some (n116 false) := by kernel_rfl
def g116 (L : Nat) (a0 : Int) : Option Bool :=
  bif (decide (a0 ≥ 0)) then some (decide (a0 ≤ 999))
  else some false
theorem e116 (L : Nat) (a0 : Int) : evF prog ev116 (loopN L) f116 (a116.enc a0) = (g116 L a0).map n116 := by
  rw [i116]; simp only [g116, map_bif, map_tst, map_bnd, Option.map_some, Option.map_none]
theorem s116 (m : Int → Option Bool) (hm : ∀ (x : Int) t, m x = some t → ∃ L, g116 L x = some t) : Sat prog cxT 116 (c116 m) :=
  sat_t cxT_ok cxT_pok (by rfl) (fn := f116) rfl a116 n116 dd116 m ev116 kok_nil kwok_nil (fun L x => g116 L x) (fun L x => e116 L x) hm hs116
def ev117 : Env cxT := { Kc := kcOf [], Kw := kwOf [], lv := fun i => [], xv := fun i => none }
theorem i117 (L : Nat) (a0 : Int) : evF prog ev117 (loopN L) f117 (a117.enc a0) =
  bif (decide (a0 ≥ 0)) then some (n117 (decide (a0 ≤ 1000000)))
  else some (n117 false) := by kernel_rfl
def g117 (L : Nat) (a0 : Int) : Option Bool :=
  bif (decide (a0 ≥ 0)) then some (decide (a0 ≤ 1000000))
  else some false
theorem e117 (L : Nat) (a0 : Int) : evF prog ev117 (loopN L) f117 (a117.enc a0) = (g117 L a0).map n117 := by
  rw [i117]; simp only [g117, map_bif, map_tst, map_bnd, Option.map_some, Option.map_none]
theorem s117 (m : Int → Option Bool) (hm : ∀ (x : Int) t, m x = some t → ∃ L, g117 L x = some t) : Sat prog cxT 117 (c117 m) :=
  sat_t cxT_ok cxT_pok (by rfl) (fn := f117) rfl a117 n117 dd117 m ev117 kok_nil kwok_nil (fun L x => g117 L x) (fun L x => e117 L x) hm hs117
def ev129 : Env cxT := { Kc := kcOf [], Kw := kwOf [], lv := fun i => [], xv := fun i => none }
theorem i129 (L : Nat) (x0 x1 : Int) (x2 x3 : Int) (x4 x5 : Int) (x6 x7 : Int) (x8 x9 : Int) (xa xb : Int) : evF prog ev129 (loopN L) f129 (a129.enc ((x0, x1, x2, x3, x4, x5), (x6, x7, x8, x9, xa, xb))) =
  bif (x0 != x6) then some (n129 false)
  else bif (x1 != x7) then some (n129 false)
  else bif (x2 != x8) then some (n129 false)
  else bif (x3 != x9) then some (n129 false)
  else bif (x4 != xa) then some (n129 false)
  else bif (x5 != xb) then some (n129 false)
  else some (n129 true) := by kernel_rfl
def g129 (L : Nat) (x0 x1 : Int) (x2 x3 : Int) (x4 x5 : Int) (x6 x7 : Int) (x8 x9 : Int) (xa xb : Int) : Option Bool :=
  bif (x0 != x6) then some false
  else bif (x1 != x7) then some false
  else bif (x2 != x8) then some false
  else bif (x3 != x9) then some false
  else bif (x4 != xa) then some false
  else bif (x5 != xb) then some false
  else some true
theorem e129 (L : Nat) (x0 x1 : Int) (x2 x3 : Int) (x4 x5 : Int) (x6 x7 : Int) (x8 x9 : Int) (xa xb : Int) : evF prog ev129 (loopN L) f129 (a129.enc ((x0, x1, x2, x3, x4, x5), (x6, x7, x8, x9, xa, xb))) = (g129 L x0 x1 x2 x3 x4 x5 x6 x7 x8 x9 xa xb).map n129 := by
  rw [i129]; simp only [g129, map_bif, map_tst, map_bnd, Option.map_some, Option.map_none]
theorem s129 (m : ((Int × Int × Int × Int × Int × Int) × (Int × Int × Int × Int × Int × Int)) → Option Bool) (hm : ∀ (x : ((Int × Int × Int × Int × Int × Int) × (Int × Int × Int × Int × Int × Int))) t, m x = some t → ∃ L, g129 L x.1.1 x.1.2.1 x.1.2.2.1 x.1.2.2.2.1 x.1.2.2.2.2.1 x.1.2.2.2.2.2 x.2.1 x.2.2.1 x.2.2.2.1 x.2.2.2.2.1 x.2.2.2.2.2.1 x.2.2.2.2.2.2 = some t) : Sat prog cxT 129 (c129 m) :=
  sat_t cxT_ok cxT_pok (by rfl) (fn := f129) rfl a129 n129 dd129 m ev129 kok_nil kwok_nil (fun L x => g129 L x.1.1 x.1.2.1 x.1.2.2.1 x.1.2.2.2.1 x.1.2.2.2.2.1 x.1.2.2.2.2.2 x.2.1 x.2.2.1 x.2.2.2.1 x.2.2.2.2.1 x.2.2.2.2.2.1 x.2.2.2.2.2.2) (fun L x => e129 L x.1.1 x.1.2.1 x.1.2.2.1 x.1.2.2.2.1 x.1.2.2.2.2.1 x.1.2.2.2.2.2 x.2.1 x.2.2.1 x.2.2.2.1 x.2.2.2.2.1 x.2.2.2.2.2.1 x.2.2.2.2.2.2) hm hs129
def ev135 (m94 : (Int × Int × Int) → Option Bool) : Env cxT := { Kc := kcOf [(94, c94 m94)], Kw := kwOf [], lv := fun i => [], xv := fun i => none }
theorem i135 (m94 : (Int × Int × Int) → Option Bool) (L : Nat) (a0 : Int) : evF prog (ev135 m94) (loopN L) f135 (a135.enc a0) =
  tst (m94 (a0, (5, 8))) false fun (q1 : Bool) => bif (a0 != 5) then bif (a0 == 1) then some (n135 ((a0 != 6), true, (a0 != 4), q1))
      else some (n135 ((a0 != 6), q1, (a0 != 4), q1))
    else bif (a0 == 1) then some (n135 (false, true, (a0 != 4), q1))
    else some (n135 (false, q1, (a0 != 4), q1)) := by kernel_rfl
def g135 (m94 : (Int × Int × Int) → Option Bool) (L : Nat) (a0 : Int) : Option (Bool × Bool × Bool × Bool) :=
  tst (m94 (a0, (5, 8))) false fun (q1 : Bool) => bif (a0 != 5) then bif (a0 == 1) then some ((a0 != 6), true, (a0 != 4), q1)
      else some ((a0 != 6), q1, (a0 != 4), q1)
    else bif (a0 == 1) then some (false, true, (a0 != 4), q1)
    else some (false, q1, (a0 != 4), q1)
theorem e135 (m94 : (Int × Int × Int) → Option Bool) (L : Nat) (a0 : Int) : evF prog (ev135 m94) (loopN L) f135 (a135.enc a0) = (g135 m94 L a0).map n135 := by
  rw [i135]; simp only [g135, map_bif, map_tst, map_bnd, Option.map_some, Option.map_none]
theorem s135 (m94 : (Int × Int × Int) → Option Bool) (h94 : Sat prog cxT 94 (c94 m94)) (m : Int → Option (Bool × Bool × Bool × Bool)) (hm : ∀ (x : Int) t, m x = some t → ∃ L, g135 m94 L x = some t) : Sat prog cxT 135 (c135 m) :=
  sat_t cxT_ok cxT_pok (by rfl) (fn := f135) rfl a135 n135 dd135 m (ev135 m94) (kok_cons h94 kok_nil) kwok_nil (fun L x => g135 m94 L x) (fun L x => e135 m94 L x) hm hs135
def ev136 (m94 : (Int × Int × Int) → Option Bool) : Env cxT := { Kc := kcOf [(94, c94 m94)], Kw := kwOf [], lv := fun i => [], xv := fun i => none }
theorem i136 (m94 : (Int × Int × Int) → Option Bool) (L : Nat) (a0 : Int) : evF prog (ev136 m94) (loopN L) f136 (a136.enc a0) =
  tst (m94 (a0, (0, 1000000))) false fun (q1 : Bool) => some (n136 q1) := by kernel_rfl
def g136 (m94 : (Int × Int × Int) → Option Bool) (L : Nat) (a0 : Int) : Option Bool :=
  tst (m94 (a0, (0, 1000000))) false fun (q1 : Bool) => some q1
theorem e136 (m94 : (Int × Int × Int) → Option Bool) (L : Nat) (a0 : Int) : evF prog (ev136 m94) (loopN L) f136 (a136.enc a0) = (g136 m94 L a0).map n136 := by
  rw [i136]; simp only [g136, map_bif, map_tst, map_bnd, Option.map_some, Option.map_none]
theorem s136 (m94 : (Int × Int × Int) → Option Bool) (h94 : Sat prog cxT 94 (c94 m94)) (m : Int → Option Bool) (hm : ∀ (x : Int) t, m x = some t → ∃ L, g136 m94 L x = some t) : Sat prog cxT 136 (c136 m) :=
  sat_t cxT_ok cxT_pok (by rfl) (fn := f136) rfl a136 n136 dd136 m (ev136 m94) (kok_cons h94 kok_nil) kwok_nil (fun L x => g136 m94 L x) (fun L x => e136 m94 L x) hm hs136
def ev137 (m94 : (Int × Int × Int) → Option Bool) : Env cxT := { Kc := kcOf [(94, c94 m94)], Kw := kwOf [], lv := fun i => [], xv := fun i => none }
theorem i137 (m94 : (Int × Int × Int) → Option Bool) (L : Nat) (a0 : Int) : evF prog (ev137 m94) (loopN L) f137 (a137.enc a0) =
  tst (m94 (a0, (1, 999))) false fun (q1 : Bool) => some (n137 q1) := by kernel_rfl
def g137 (m94 : (Int × Int × Int) → Option Bool) (L : Nat) (a0 : Int) : Option Bool :=
  tst (m94 (a0, (1, 999))) false fun (q1 : Bool) => some q1
theorem e137 (m94 : (Int × Int × Int) → Option Bool) (L : Nat) (a0 : Int) : evF prog (ev137 m94) (loopN L) f137 (a137.enc a0) = (g137 m94 L a0).map n137 := by
  rw [i137]; simp only [g137, map_bif, map_tst, map_bnd, Option.map_some, Option.map_none]
theorem s137 (m94 : (Int × Int × Int) → Option Bool) (h94 : Sat prog cxT 94 (c94 m94)) (m : Int → Option Bool) (hm : ∀ (x : Int) t, m x = some t → ∃ L, g137 m94 L x = some t) : Sat prog cxT 137 (c137 m) :=
  sat_t cxT_ok cxT_pok (by rfl) (fn := f137) rfl a137 n137 dd137 m (ev137 m94) (kok_cons h94 kok_nil) kwok_nil (fun L x => g137 m94 L x) (fun L x => e137 m94 L x) hm hs137
def ev138 (m94 : (Int × Int × Int) → Option Bool) : Env cxT := { Kc := kcOf [(94, c94 m94)], Kw := kwOf [], lv := fun i => [], xv := fun i => none }
theorem i138 (m94 : (Int × Int × Int) → Option Bool) (L : Nat) (a0 : Int) : evF prog (ev138 m94) (loopN L) f138 (a138.enc a0) =
  tst (m94 (a0, (0, 4294967295))) false fun (q1 : Bool) => some (n138 q1) := by kernel_rfl
def g138 (m94 : (Int × Int × Int) → Option Bool) (L : Nat) (a0 : Int) : Option Bool :=
  tst (m94 (a0, (0, 4294967295))) false fun (q1 : Bool) => some q1
theorem e138 (m94 : (Int × Int × Int) → Option Bool) (L : Nat) (a0 : Int) : evF prog (ev138 m94) (loopN L) f138 (a138.enc a0) = (g138 m94 L a0).map n138 := by
  rw [i138]; simp only [g138, map_bif, map_tst, map_bnd, Option.map_some, Option.map_none]
theorem s138 (m94 : (Int × Int × Int) → Option Bool) (h94 : Sat prog cxT 94 (c94 m94)) (m : Int → Option Bool) (hm : ∀ (x : Int) t, m x = some t → ∃ L, g138 m94 L x = some t) : Sat prog cxT 138 (c138 m) :=
  sat_t cxT_ok cxT_pok (by rfl) (fn := f138) rfl a138 n138 dd138 m (ev138 m94) (kok_cons h94 kok_nil) kwok_nil (fun L x => g138 m94 L x) (fun L x => e138 m94 L x) hm hs138
def ev139 (m94 : (Int × Int × Int) → Option Bool) (m156 : Int → Option Bool) : Env cxT := { Kc := kcOf [(94, c94 m94), (156, c156 m156)], Kw := kwOf [], lv := fun i => [], xv := fun i => none }
theorem i139 (m94 : (Int × Int × Int) → Option Bool) (m156 : Int → Option Bool) (L : Nat) (x1 x2 : Int) (x3 x4 : Int) (x0 x5 : Int) : evF prog (ev139 m94 m156) (loopN L) f139 (a139.enc (x1, x2, x3, x4, x0, x5)) =
  bif (x1 == 1) then tst (m94 (x0, (0, 9))) false fun (q2 : Bool) => some (n139 q2)
  else bif (x1 == 2) then tst (m94 (x0, (0, 9))) false fun (q2 : Bool) => some (n139 q2)
  else bif (x1 == 3) then tst (m94 (x0, (1, 3))) false fun (q2 : Bool) => some (n139 q2)
  else bif (x1 == 9) then tst (m94 (x0, (0, 1))) false fun (q2 : Bool) => some (n139 q2)
  else tst (m156 x0) false fun (q1 : Bool) => some (n139 q1) := by kernel_rfl
def g139 (m94 : (Int × Int × Int) → Option Bool) (m156 : Int → Option Bool) (L : Nat) (x1 x2 : Int) (x3 x4 : Int) (x0 x5 : Int) : Option Bool :=
  bif (x1 == 1) then tst (m94 (x0, (0, 9))) false fun (q2 : Bool) => some q2
  else bif (x1 == 2) then tst (m94 (x0, (0, 9))) false fun (q2 : Bool) => some q2
  else bif (x1 == 3) then tst (m94 (x0, (1, 3))) false fun (q2 : Bool) => some q2
  else bif (x1 == 9) then tst (m94 (x0, (0, 1))) false fun (q2 : Bool) => some q2
  else tst (m156 x0) false fun (q1 : Bool) => some q1
theorem e139 (m94 : (Int × Int × Int) → Option Bool) (m156 : Int → Option Bool) (L : Nat) (x0 x1 : Int) (x2 x3 : Int) (x4 x5 : Int) : evF prog (ev139 m94 m156) (loopN L) f139 (a139.enc (x0, x1, x2, x3, x4, x5)) = (g139 m94 m156 L x0 x1 x2 x3 x4 x5).map n139 := by
  rw [i139]; simp only [g139, map_bif, map_tst, map_bnd, Option.map_some, Option.map_none]
theorem s139 (m94 : (Int × Int × Int) → Option Bool) (m156 : Int → Option Bool) (h94 : Sat prog cxT 94 (c94 m94)) (h156 : Sat prog cxT 156 (c156 m156)) (m : (Int × Int × Int × Int × Int × Int) → Option Bool) (hm : ∀ (x : (Int × Int × Int × Int × Int × Int)) t, m x = some t → ∃ L, g139 m94 m156 L x.1 x.2.1 x.2.2.1 x.2.2.2.1 x.2.2.2.2.1 x.2.2.2.2.2 = some t) : Sat prog cxT 139 (c139 m) :=
  sat_t cxT_ok cxT_pok (by rfl) (fn := f139) rfl a139 n139 dd139 m (ev139 m94 m156) (kok_cons h94 (kok_cons h156 kok_nil)) kwok_nil (fun L x => g139 m94 m156 L x.1 x.2.1 x.2.2.1 x.2.2.2.1 x.2.2.2.2.1 x.2.2.2.2.2) (fun L x => e139 m94 m156 L x.1 x.2.1 x.2.2.1 x.2.2.2.1 x.2.2.2.2.1 x.2.2.2.2.2) hm hs139
def ev140 : Env cxT := { Kc := kcOf [], Kw := kwOf [], lv := fun i => [], xv := fun i => none }
theorem i140 (L : Nat) (a0 : Int) : evF prog ev140 (loopN L) f140 (a140.enc a0) =
  bif (a0 == 6) then some (n140 true)
  else some (n140 (a0 == 17)) := by kernel_rfl
def g140 (L : Nat) (a0 : Int) : Option Bool :=
  bif (a0 == 6) then some true
  else some (a0 == 17)
theorem e140 (L : Nat) (a0 : Int) : evF prog ev140 (loopN L) f140 (a140.enc a0) = (g140 L a0).map n140 := by
  rw [i140]; simp only [g140, map_bif, map_tst, map_bnd, Option.map_some, Option.map_none]
theorem s140 (m : Int → Option Bool) (hm : ∀ (x : Int) t, m x = some t → ∃ L, g140 L x = some t) : Sat prog cxT 140 (c140 m) :=
  sat_t cxT_ok cxT_pok (by rfl) (fn := f140) rfl a140 n140 dd140 m ev140 kok_nil kwok_nil (fun L x => g140 L x) (fun L x => e140 L x) hm hs140
def ev141 : Env cxT := { Kc := kcOf [], Kw := kwOf [], lv := fun i => [], xv := fun i => none }
theorem i141 (L : Nat) (a0 : Int) : evF prog ev141 (loopN L) f141 (a141.enc a0) =
  bif (decide (a0 ≥ 0)) then some (n141 (decide (a0 ≤ 1000000)))
  else some (n141 false) := by kernel_rfl
def g141 (L : Nat) (a0 : Int) : Option Bool :=
  bif (decide (a0 ≥ 0)) then some (decide (a0 ≤ 1000000))
  else some false
theorem e141 (L : Nat) (a0 : Int) : evF prog ev141 (loopN L) f141 (a141.enc a0) = (g141 L a0).map n141 := by
  rw [i141]; simp only [g141, map_bif, map_tst, map_bnd, Option.map_some, Option.map_none]
theorem s141 (m : Int → Option Bool) (hm : ∀ (x : Int) t, m x = some t → ∃ L, g141 L x = some t) : Sat prog cxT 141 (c141 m) :=
  sat_t cxT_ok cxT_pok (by rfl) (fn := f141) rfl a141 n141 dd141 m ev141 kok_nil kwok_nil (fun L x => g141 L x) (fun L x => e141 L x) hm hs141
def ev156 (m94 : (Int × Int × Int) → Option Bool) : Env cxT := { Kc := kcOf [(94, c94 m94)], Kw := kwOf [], lv := fun i => [], xv := fun i => none }
theorem i156 (m94 : (Int × Int × Int) → Option Bool) (L : Nat) (a0 : Int) : evF prog (ev156 m94) (loopN L) f156 (a156.enc a0) =
  tst (m94 (a0, (0, 65535))) false fun (q1 : Bool) => some (n156 q1) := by kernel_rfl
def g156 (m94 : (Int × Int × Int) → Option Bool) (L : Nat) (a0 : Int) : Option Bool :=
  tst (m94 (a0, (0, 65535))) false fun (q1 : Bool) => some q1
theorem e156 (m94 : (Int × Int × Int) → Option Bool) (L : Nat) (a0 : Int) : evF prog (ev156 m94) (loopN L) f156 (a156.enc a0) = (g156 m94 L a0).map n156 := by
  rw [i156]; simp only [g156, map_bif, map_tst, map_bnd, Option.map_some, Option.map_none]
theorem s156 (m94 : (Int × Int × Int) → Option Bool) (h94 : Sat prog cxT 94 (c94 m94)) (m : Int → Option Bool) (hm : ∀ (x : Int) t, m x = some t → ∃ L, g156 m94 L x = some t) : Sat prog cxT 156 (c156 m) :=
  sat_t cxT_ok cxT_pok (by rfl) (fn := f156) rfl a156 n156 dd156 m (ev156 m94) (kok_cons h94 kok_nil) kwok_nil (fun L x => g156 m94 L x) (fun L x => e156 m94 L x) hm hs156
def ev157 : Env cxT := { Kc := kcOf [], Kw := kwOf [], lv := fun i => [], xv := fun i => none }
theorem i157 (L : Nat) (a0 : Int) : evF prog ev157 (loopN L) f157 (a157.enc a0) =
  bif (decide (a0 ≥ 1)) then some (n157 (decide (a0 ≤ 999)))
  else some (n157 false) := by kernel_rfl
def g157 (L : Nat) (a0 : Int) : Option Bool :=
  bif (decide (a0 ≥ 1)) then some (decide (a0 ≤ 999))
  else some false
theorem e157 (L : Nat) (a0 : Int) : evF prog ev157 (loopN L) f157 (a157.enc a0) = (g157 L a0).map n157 := by
  rw [i157]; simp only [g157, map_bif, map_tst, map_bnd, Option.map_some, Option.map_none]
theorem s157 (m : Int → Option Bool) (hm : ∀ (x : Int) t, m x = some t → ∃ L, g157 L x = some t) : Sat prog cxT 157 (c157 m) :=
  sat_t cxT_ok cxT_pok (by rfl) (fn := f157) rfl a157 n157 dd157 m ev157 kok_nil kwok_nil (fun L x => g157 L x) (fun L x => e157 L x) hm hs157
def ev158 : Env cxT := { Kc := kcOf [], Kw := kwOf [], lv := fun i => [], xv := fun i => none }
theorem i158 (L : Nat) (a0 : Int) : evF prog ev158 (loopN L) f158 (a158.enc a0) =
  bif (decide (a0 ≥ 0)) then some (n158 (decide (a0 ≤ 4294967295)))
  else some (n158 false) := by kernel_rfl
def g158 (L : Nat) (a0 : Int) : Option Bool :=
  bif (decide (a0 ≥ 0)) then some (decide (a0 ≤ 4294967295))
  else some false
theorem e158 (L : Nat) (a0 : Int) : evF prog ev158 (loopN L) f158 (a158.enc a0) = (g158 L a0).map n158 := by
  rw [i158]; simp only [g158, map_bif, map_tst, map_bnd, Option.map_some, Option.map_none]
theorem s158 (m : Int → Option Bool) (hm : ∀ (x : Int) t, m x = some t → ∃ L, g158 L x = some t) : Sat prog cxT 158 (c158 m) :=
  sat_t cxT_ok cxT_pok (by rfl) (fn := f158) rfl a158 n158 dd158 m ev158 kok_nil kwok_nil (fun L x => g158 L x) (fun L x => e158 L x) hm hs158
def ev159 : Env cxT := { Kc := kcOf [], Kw := kwOf [], lv := fun i => [], xv := fun i => none }
theorem i159 (L : Nat) (a0 : Int) : evF prog ev159 (loopN L) f159 (a159.enc a0) =
  bif (decide (a0 ≥ 0)) then some (n159 (decide (a0 ≤ 9)))
  else some (n159 false) := by kernel_rfl
def g159 (L : Nat) (a0 : Int) : Option Bool :=
  bif (decide (a0 ≥ 0)) then some (decide (a0 ≤ 9))
  else some false
theorem e159 (L : Nat) (a0 : Int) : evF prog ev159 (loopN L) f159 (a159.enc a0) = (g159 L a0).map n159 := by
  rw [i159]; simp only [g159, map_bif, map_tst, map_bnd, Option.map_some, Option.map_none]
theorem s159 (m : Int → Option Bool) (hm : ∀ (x : Int) t, m x = some t → ∃ L, g159 L x = some t) : Sat prog cxT 159 (c159 m) :=
  sat_t cxT_ok cxT_pok (by rfl) (fn := f159) rfl a159 n159 dd159 m ev159 kok_nil kwok_nil (fun L x => g159 L x) (fun L x => e159 L x) hm hs159
def ev162 : Env cxT := { Kc := kcOf [], Kw := kwOf [], lv := fun i => [], xv := fun i => none }
theorem i162 (L : Nat) (a0 : Int) : evF prog ev162 (loopN L) f162 (a162.enc a0) =
  bif (decide (a0 ≥ 1)) then some (n162 (decide (a0 ≤ 3)))
  else some (n162 false) := by kernel_rfl
def g162 (L : Nat) (a0 : Int) : Option Bool :=
  bif (decide (a0 ≥ 1)) then some (decide (a0 ≤ 3))
  else some false
theorem e162 (L : Nat) (a0 : Int) : evF prog ev162 (loopN L) f162 (a162.enc a0) = (g162 L a0).map n162 := by
  rw [i162]; simp only [g162, map_bif, map_tst, map_bnd, Option.map_some, Option.map_none]
theorem s162 (m : Int → Option Bool) (hm : ∀ (x : Int) t, m x = some t → ∃ L, g162 L x = some t) : Sat prog cxT 162 (c162 m) :=
  sat_t cxT_ok cxT_pok (by rfl) (fn := f162) rfl a162 n162 dd162 m ev162 kok_nil kwok_nil (fun L x => g162 L x) (fun L x => e162 L x) hm hs162
def ev165 : Env cxT := { Kc := kcOf [], Kw := kwOf [], lv := fun i => [], xv := fun i => none }
theorem i165 (L : Nat) (a0 : Int) : evF prog ev165 (loopN L) f165 (a165.enc a0) =
  bif (decide (a0 ≥ 0)) then some (n165 (decide (a0 ≤ 65535)))
  else some (n165 false) := by kernel_rfl
def g165 (L : Nat) (a0 : Int) : Option Bool :=
  bif (decide (a0 ≥ 0)) then some (decide (a0 ≤ 65535))
  else some false
theorem e165 (L : Nat) (a0 : Int) : evF prog ev165 (loopN L) f165 (a165.enc a0) = (g165 L a0).map n165 := by
  rw [i165]; simp only [g165, map_bif, map_tst, map_bnd, Option.map_some, Option.map_none]
theorem s165 (m : Int → Option Bool) (hm : ∀ (x : Int) t, m x = some t → ∃ L, g165 L x = some t) : Sat prog cxT 165 (c165 m) :=
  sat_t cxT_ok cxT_pok (by rfl) (fn := f165) rfl a165 n165 dd165 m ev165 kok_nil kwok_nil (fun L x => g165 L x) (fun L x => e165 L x) hm hs165
def ev166 : Env cxT := { Kc := kcOf [], Kw := kwOf [], lv := fun i => [], xv := fun i => none }
theorem i166 (L : Nat) (a0 : Int) : evF prog ev166 (loopN L) f166 (a166.enc a0) =
  bif (a0 == 6) then some (n166 true)
  else some (n166 (a0 == 17)) := by kernel_rfl
def g166 (L : Nat) (a0 : Int) : Option Bool :=
  bif (a0 == 6) then some true
  else some (a0 == 17)
theorem e166 (L : Nat) (a0 : Int) : evF prog ev166 (loopN L) f166 (a166.enc a0) = (g166 L a0).map n166 := by
  rw [i166]; simp only [g166, map_bif, map_tst, map_bnd, Option.map_some, Option.map_none]
theorem s166 (m : Int → Option Bool) (hm : ∀ (x : Int) t, m x = some t → ∃ L, g166 L x = some t) : Sat prog cxT 166 (c166 m) :=
  sat_t cxT_ok cxT_pok (by rfl) (fn := f166) rfl a166 n166 dd166 m ev166 kok_nil kwok_nil (fun L x => g166 L x) (fun L x => e166 L x) hm hs166
def ev171 : Env cxT := { Kc := kcOf [], Kw := kwOf [], lv := fun i => [], xv := fun i => none }
theorem i171 (L : Nat) (a0 : Int) : evF prog ev171 (loopN L) f171 (a171.enc a0) =
  bif (a0 == 0) then some (n171 true)
  else some (n171 (a0 == 1)) := by kernel_rfl
def g171 (L : Nat) (a0 : Int) : Option Bool :=
  bif (a0 == 0) then some true
  else some (a0 == 1)
theorem e171 (L : Nat) (a0 : Int) : evF prog ev171 (loopN L) f171 (a171.enc a0) = (g171 L a0).map n171 := by
  rw [i171]; simp only [g171, map_bif, map_tst, map_bnd, Option.map_some, Option.map_none]
theorem s171 (m : Int → Option Bool) (hm : ∀ (x : Int) t, m x = some t → ∃ L, g171 L x = some t) : Sat prog cxT 171 (c171 m) :=
  sat_t cxT_ok cxT_pok (by rfl) (fn := f171) rfl a171 n171 dd171 m ev171 kok_nil kwok_nil (fun L x => g171 L x) (fun L x => e171 L x) hm hs171
def ev30 (m85 : (Int × Int × Int × Int × Int × Int) → Option (Int × Int × Int × Int × Int × Int)) : Env cxT := { Kc := kcOf [(85, c85 m85)], Kw := kwOf [], lv := fun i => [], xv := fun i => none }
theorem i30 (m85 : (Int × Int × Int × Int × Int × Int) → Option (Int × Int × Int × Int × Int × Int)) (L : Nat) (x0 x1 : Int) (x2 x3 : Int) (x4 x5 : Int) (x6 x7 x8 : Int) : evF prog (ev30 m85) (loopN L) f30 (a30.enc (x0, x1, x2, x3, x4, x5, x6, x7, x8)) =
  tst (m85 (x3, (x4, (x5, (x6, (x7, x8)))))) (0, 0, 0, 0, 0, 0) fun (q1 : (Int × Int × Int × Int × Int × Int)) => some (n30 (x0, x1, x2, q1.1, q1.2.1, q1.2.2.1, q1.2.2.2.1, q1.2.2.2.2.1, q1.2.2.2.2.2)) := by kernel_rfl
def g30 (m85 : (Int × Int × Int × Int × Int × Int) → Option (Int × Int × Int × Int × Int × Int)) (L : Nat) (x0 x1 : Int) (x2 x3 : Int) (x4 x5 : Int) (x6 x7 x8 : Int) : Option E9 :=
  tst (m85 (x3, (x4, (x5, (x6, (x7, x8)))))) (0, 0, 0, 0, 0, 0) fun (q1 : (Int × Int × Int × Int × Int × Int)) => some (x0, x1, x2, q1.1, q1.2.1, q1.2.2.1, q1.2.2.2.1, q1.2.2.2.2.1, q1.2.2.2.2.2)
theorem e30 (m85 : (Int × Int × Int × Int × Int × Int) → Option (Int × Int × Int × Int × Int × Int)) (L : Nat) (x0 x1 : Int) (x2 x3 : Int) (x4 x5 : Int) (x6 x7 x8 : Int) : evF prog (ev30 m85) (loopN L) f30 (a30.enc (x0, x1, x2, x3, x4, x5, x6, x7, x8)) = (g30 m85 L x0 x1 x2 x3 x4 x5 x6 x7 x8).map n30 := by
  rw [i30]; simp only [g30, map_bif, map_tst, map_bnd, Option.map_some, Option.map_none]
theorem s30 (m85 : (Int × Int × Int × Int × Int × Int) → Option (Int × Int × Int × Int × Int × Int)) (h85 : Sat prog cxT 85 (c85 m85)) (m : E9 → Option E9) (hm : ∀ (x : E9) t, m x = some t → ∃ L, g30 m85 L x.1 x.2.1 x.2.2.1 x.2.2.2.1 x.2.2.2.2.1 x.2.2.2.2.2.1 x.2.2.2.2.2.2.1 x.2.2.2.2.2.2.2.1 x.2.2.2.2.2.2.2.2 = some t) : Sat prog cxT 30 (c30 m) :=
  sat_t cxT_ok cxT_pok (by rfl) (fn := f30) rfl a30 n30 dd30 m (ev30 m85) (kok_cons h85 kok_nil) kwok_nil (fun L x => g30 m85 L x.1 x.2.1 x.2.2.1 x.2.2.2.1 x.2.2.2.2.1 x.2.2.2.2.2.1 x.2.2.2.2.2.2.1 x.2.2.2.2.2.2.2.1 x.2.2.2.2.2.2.2.2) (fun L x => e30 m85 L x.1 x.2.1 x.2.2.1 x.2.2.2.1 x.2.2.2.2.1 x.2.2.2.2.2.1 x.2.2.2.2.2.2.1 x.2.2.2.2.2.2.2.1 x.2.2.2.2.2.2.2.2) hm hs30
def ev100 (m129 : ((Int × Int × Int × Int × Int × Int) × (Int × Int × Int × Int × Int × Int)) → Option Bool) : Env cxT := { Kc := kcOf [(129, c129 m129)], Kw := kwOf [], lv := fun i => [], xv := fun i => none }
theorem i100 (m129 : ((Int × Int × Int × Int × Int × Int) × (Int × Int × Int × Int × Int × Int)) → Option Bool) (L : Nat) (x0 x1 : Int) (x2 x3 : Int) (x4 x5 : Int) (x6 x7 : Int) (x8 x9 : Int) (xa xb : Int) (xc xd : Int) (xe xf : Int) (xg xh : Int) : evF prog (ev100 m129) (loopN L) f100 (a100.enc ((x0, x1, x2, x3, x4, x5, x6, x7, x8), (x9, xa, xb, xc, xd, xe, xf, xg, xh))) =
  bif (x0 != x9) then some (n100 false)
  else bif (x1 != xa) then some (n100 false)
  else bif (x2 != xb) then some (n100 false)
  else tst (m129 ((x3, (x4, (x5, (x6, (x7, x8))))), (xc, (xd, (xe, (xf, (xg, xh))))))) false fun (q1 : Bool) => bif (!q1) then some (n100 false)
    else some (n100 true) := by kernel_rfl
def g100 (m129 : ((Int × Int × Int × Int × Int × Int) × (Int × Int × Int × Int × Int × Int)) → Option Bool) (L : Nat) (x0 x1 : Int) (x2 x3 : Int) (x4 x5 : Int) (x6 x7 : Int) (x8 x9 : Int) (xa xb : Int) (xc xd : Int) (xe xf : Int) (xg xh : Int) : Option Bool :=
  bif (x0 != x9) then some false
  else bif (x1 != xa) then some false
  else bif (x2 != xb) then some false
  else tst (m129 ((x3, (x4, (x5, (x6, (x7, x8))))), (xc, (xd, (xe, (xf, (xg, xh))))))) false fun (q1 : Bool) => bif (!q1) then some false
    else some true
theorem e100 (m129 : ((Int × Int × Int × Int × Int × Int) × (Int × Int × Int × Int × Int × Int)) → Option Bool) (L : Nat) (x0 x1 : Int) (x2 x3 : Int) (x4 x5 : Int) (x6 x7 : Int) (x8 x9 : Int) (xa xb : Int) (xc xd : Int) (xe xf : Int) (xg xh : Int) : evF prog (ev100 m129) (loopN L) f100 (a100.enc ((x0, x1, x2, x3, x4, x5, x6, x7, x8), (x9, xa, xb, xc, xd, xe, xf, xg, xh))) = (g100 m129 L x0 x1 x2 x3 x4 x5 x6 x7 x8 x9 xa xb xc xd xe xf xg xh).map n100 := by
  rw [i100]; simp only [g100, map_bif, map_tst, map_bnd, Option.map_some, Option.map_none]
theorem s100 (m129 : ((Int × Int × Int × Int × Int × Int) × (Int × Int × Int × Int × Int × Int)) → Option Bool) (h129 : Sat prog cxT 129 (c129 m129)) (m : (E9 × E9) → Option Bool) (hm : ∀ (x : (E9 × E9)) t, m x = some t → ∃ L, g100 m129 L x.1.1 x.1.2.1 x.1.2.2.1 x.1.2.2.2.1 x.1.2.2.2.2.1 x.1.2.2.2.2.2.1 x.1.2.2.2.2.2.2.1 x.1.2.2.2.2.2.2.2.1 x.1.2.2.2.2.2.2.2.2 x.2.1 x.2.2.1 x.2.2.2.1 x.2.2.2.2.1 x.2.2.2.2.2.1 x.2.2.2.2.2.2.1 x.2.2.2.2.2.2.2.1 x.2.2.2.2.2.2.2.2.1 x.2.2.2.2.2.2.2.2.2 = some t) : Sat prog cxT 100 (c100 m) :=
  sat_t cxT_ok cxT_pok (by rfl) (fn := f100) rfl a100 n100 dd100 m (ev100 m129) (kok_cons h129 kok_nil) kwok_nil (fun L x => g100 m129 L x.1.1 x.1.2.1 x.1.2.2.1 x.1.2.2.2.1 x.1.2.2.2.2.1 x.1.2.2.2.2.2.1 x.1.2.2.2.2.2.2.1 x.1.2.2.2.2.2.2.2.1 x.1.2.2.2.2.2.2.2.2 x.2.1 x.2.2.1 x.2.2.2.1 x.2.2.2.2.1 x.2.2.2.2.2.1 x.2.2.2.2.2.2.1 x.2.2.2.2.2.2.2.1 x.2.2.2.2.2.2.2.2.1 x.2.2.2.2.2.2.2.2.2) (fun L x => e100 m129 L x.1.1 x.1.2.1 x.1.2.2.1 x.1.2.2.2.1 x.1.2.2.2.2.1 x.1.2.2.2.2.2.1 x.1.2.2.2.2.2.2.1 x.1.2.2.2.2.2.2.2.1 x.1.2.2.2.2.2.2.2.2 x.2.1 x.2.2.1 x.2.2.2.1 x.2.2.2.2.1 x.2.2.2.2.2.1 x.2.2.2.2.2.2.1 x.2.2.2.2.2.2.2.1 x.2.2.2.2.2.2.2.2.1 x.2.2.2.2.2.2.2.2.2) hm hs100
end Go.Proofs.Tryz

namespace Go.Proofs.Tryz
open Go Go.VM Go.RowKit
def ev83 (m94 : (Int × Int × Int) → Option Bool) (m115 : (Int × Int × Int × Int × Int × Int) → Option Int) : Env cxT := { Kc := kcOf [(94, c94 m94), (115, c115 m115)], Kw := kwOf [], lv := fun i => [], xv := fun i => none }
theorem i83 (m94 : (Int × Int × Int) → Option Bool) (m115 : (Int × Int × Int × Int × Int × Int) → Option Int) (L : Nat) (x8 x0 : Int) (x1 x2 : Int) (x3 x4 : Int) (x5 x6 x7 : Int) : evF prog (ev83 m94 m115) (loopN L) f83 (a83.enc (x8, x0, x1, x2, x3, x4, x5, x6, x7)) =
  tst (m94 (x8, (1, 100000))) false fun (q1 : Bool) => bif (!q1) then some (n83 3)
    else tst (m94 (x0, (0, 999))) false fun (q2 : Bool) => bif (!q2) then some (n83 3)
      else tst (m94 (x1, (0, 1000000))) false fun (q3 : Bool) => bif (!q3) then some (n83 3)
        else bif (!((x0 == 0) == (x1 == 0))) then some (n83 1)
        else bif (x0 != 0) then tst (m115 (x2, (x3, (x4, (x5, (x6, x7)))))) 0 fun (q5 : Int) => some (n83 q5)
        else bif (!((((((x2 == 0) && (x3 == 0)) && (x4 == 0)) && (x5 == 0)) && (x6 == 0)) && (x7 == 0))) then some (n83 1)
        else some (n83 0) := by kernel_rfl
def g83 (m94 : (Int × Int × Int) → Option Bool) (m115 : (Int × Int × Int × Int × Int × Int) → Option Int) (L : Nat) (x8 x0 : Int) (x1 x2 : Int) (x3 x4 : Int) (x5 x6 x7 : Int) : Option Int :=
  tst (m94 (x8, (1, 100000))) false fun (q1 : Bool) => bif (!q1) then some 3
    else tst (m94 (x0, (0, 999))) false fun (q2 : Bool) => bif (!q2) then some 3
      else tst (m94 (x1, (0, 1000000))) false fun (q3 : Bool) => bif (!q3) then some 3
        else bif (!((x0 == 0) == (x1 == 0))) then some 1
        else bif (x0 != 0) then tst (m115 (x2, (x3, (x4, (x5, (x6, x7)))))) 0 fun (q5 : Int) => some q5
        else bif (!((((((x2 == 0) && (x3 == 0)) && (x4 == 0)) && (x5 == 0)) && (x6 == 0)) && (x7 == 0))) then some 1
        else some 0
theorem e83 (m94 : (Int × Int × Int) → Option Bool) (m115 : (Int × Int × Int × Int × Int × Int) → Option Int) (L : Nat) (x0 x1 : Int) (x2 x3 : Int) (x4 x5 : Int) (x6 x7 x8 : Int) : evF prog (ev83 m94 m115) (loopN L) f83 (a83.enc (x0, x1, x2, x3, x4, x5, x6, x7, x8)) = (g83 m94 m115 L x0 x1 x2 x3 x4 x5 x6 x7 x8).map n83 := by
  rw [i83]; simp only [g83, map_bif, map_tst, map_bnd, Option.map_some, Option.map_none]
theorem s83 (m94 : (Int × Int × Int) → Option Bool) (m115 : (Int × Int × Int × Int × Int × Int) → Option Int) (h94 : Sat prog cxT 94 (c94 m94)) (h115 : Sat prog cxT 115 (c115 m115)) (m : E9 → Option Int) (hm : ∀ (x : E9) t, m x = some t → ∃ L, g83 m94 m115 L x.1 x.2.1 x.2.2.1 x.2.2.2.1 x.2.2.2.2.1 x.2.2.2.2.2.1 x.2.2.2.2.2.2.1 x.2.2.2.2.2.2.2.1 x.2.2.2.2.2.2.2.2 = some t) : Sat prog cxT 83 (c83 m) :=
  sat_t cxT_ok cxT_pok (by rfl) (fn := f83) rfl a83 n83 dd83 m (ev83 m94 m115) (kok_cons h94 (kok_cons h115 kok_nil)) kwok_nil (fun L x => g83 m94 m115 L x.1 x.2.1 x.2.2.1 x.2.2.2.1 x.2.2.2.2.1 x.2.2.2.2.2.1 x.2.2.2.2.2.2.1 x.2.2.2.2.2.2.2.1 x.2.2.2.2.2.2.2.2) (fun L x => e83 m94 m115 L x.1 x.2.1 x.2.2.1 x.2.2.2.1 x.2.2.2.2.1 x.2.2.2.2.2.1 x.2.2.2.2.2.2.1 x.2.2.2.2.2.2.2.1 x.2.2.2.2.2.2.2.2) hm hs83
def ev86 (m60 : Int → Option Bool) (m116 : Int → Option Bool) (m117 : Int → Option Bool) (m118 : (Int × Int × Int × Int × Int × Int) → Option Int) : Env cxT := { Kc := kcOf [(60, c60 m60), (116, c116 m116), (117, c117 m117), (118, c118 m118)], Kw := kwOf [], lv := fun i => [], xv := fun i => none }
theorem i86 (m60 : Int → Option Bool) (m116 : Int → Option Bool) (m117 : Int → Option Bool) (m118 : (Int × Int × Int × Int × Int × Int) → Option Int) (L : Nat) (x8 x0 : Int) (x1 x2 : Int) (x3 x4 : Int) (x5 x6 x7 : Int) : evF prog (ev86 m60 m116 m117 m118) (loopN L) f86 (a86.enc (x8, x0, x1, x2, x3, x4, x5, x6, x7)) =
  tst (m60 x8) false fun (q1 : Bool) => bif (!q1) then some (n86 3)
    else tst (m116 x0) false fun (q2 : Bool) => bif (!q2) then some (n86 3)
      else tst (m117 x1) false fun (q3 : Bool) => bif (!q3) then some (n86 3)
        else bif (!((x0 == 0) == (x1 == 0))) then some (n86 1)
        else bif (x0 != 0) then tst (m118 (x2, (x3, (x4, (x5, (x6, x7)))))) 0 fun (q5 : Int) => some (n86 q5)
        else bif (!((((((x2 == 0) && (x3 == 0)) && (x4 == 0)) && (x5 == 0)) && (x6 == 0)) && (x7 == 0))) then some (n86 1)
        else some (n86 0) := by kernel_rfl
def g86 (m60 : Int → Option Bool) (m116 : Int → Option Bool) (m117 : Int → Option Bool) (m118 : (Int × Int × Int × Int × Int × Int) → Option Int) (L : Nat) (x8 x0 : Int) (x1 x2 : Int) (x3 x4 : Int) (x5 x6 x7 : Int) : Option Int :=
  tst (m60 x8) false fun (q1 : Bool) => bif (!q1) then some 3
    else tst (m116 x0) false fun (q2 : Bool) => bif (!q2) then some 3
      else tst (m117 x1) false fun (q3 : Bool) => bif (!q3) then some 3
        else bif (!((x0 == 0) == (x1 == 0))) then some 1
        else bif (x0 != 0) then tst (m118 (x2, (x3, (x4, (x5, (x6, x7)))))) 0 fun (q5 : Int) => some q5
        else bif (!((((((x2 == 0) && (x3 == 0)) && (x4 == 0)) && (x5 == 0)) && (x6 == 0)) && (x7 == 0))) then some 1
        else some 0
theorem e86 (m60 : Int → Option Bool) (m116 : Int → Option Bool) (m117 : Int → Option Bool) (m118 : (Int × Int × Int × Int × Int × Int) → Option Int) (L : Nat) (x0 x1 : Int) (x2 x3 : Int) (x4 x5 : Int) (x6 x7 x8 : Int) : evF prog (ev86 m60 m116 m117 m118) (loopN L) f86 (a86.enc (x0, x1, x2, x3, x4, x5, x6, x7, x8)) = (g86 m60 m116 m117 m118 L x0 x1 x2 x3 x4 x5 x6 x7 x8).map n86 := by
  rw [i86]; simp only [g86, map_bif, map_tst, map_bnd, Option.map_some, Option.map_none]
theorem s86 (m60 : Int → Option Bool) (m116 : Int → Option Bool) (m117 : Int → Option Bool) (m118 : (Int × Int × Int × Int × Int × Int) → Option Int) (h60 : Sat prog cxT 60 (c60 m60)) (h116 : Sat prog cxT 116 (c116 m116)) (h117 : Sat prog cxT 117 (c117 m117)) (h118 : Sat prog cxT 118 (c118 m118)) (m : E9 → Option Int) (hm : ∀ (x : E9) t, m x = some t → ∃ L, g86 m60 m116 m117 m118 L x.1 x.2.1 x.2.2.1 x.2.2.2.1 x.2.2.2.2.1 x.2.2.2.2.2.1 x.2.2.2.2.2.2.1 x.2.2.2.2.2.2.2.1 x.2.2.2.2.2.2.2.2 = some t) : Sat prog cxT 86 (c86 m) :=
  sat_t cxT_ok cxT_pok (by rfl) (fn := f86) rfl a86 n86 dd86 m (ev86 m60 m116 m117 m118) (kok_cons h60 (kok_cons h116 (kok_cons h117 (kok_cons h118 kok_nil)))) kwok_nil (fun L x => g86 m60 m116 m117 m118 L x.1 x.2.1 x.2.2.1 x.2.2.2.1 x.2.2.2.2.1 x.2.2.2.2.2.1 x.2.2.2.2.2.2.1 x.2.2.2.2.2.2.2.1 x.2.2.2.2.2.2.2.2) (fun L x => e86 m60 m116 m117 m118 L x.1 x.2.1 x.2.2.1 x.2.2.2.1 x.2.2.2.2.1 x.2.2.2.2.2.1 x.2.2.2.2.2.2.1 x.2.2.2.2.2.2.2.1 x.2.2.2.2.2.2.2.2) hm hs86
def ev40 : Env cxT := { Kc := kcOf [], Kw := kwOf [], lv := fun i => [], xv := fun i => none }
theorem i40 (L : Nat) (a0 : (List E9)) (a1 : Int) : evF prog ev40 (loopN L) f40 (a40.enc (a0, a1)) =
  bif (decide ((IntKind.wrap .i64 (a1 - (a0.length : Int))) < 0)) then some (n40 (-1))
  else some (n40 (IntKind.wrap .i64 (a1 - (a0.length : Int)))) := by kernel_rfl
def g40 (L : Nat) (a0 : (List E9)) (a1 : Int) : Option Int :=
  bif (decide ((IntKind.wrap .i64 (a1 - (a0.length : Int))) < 0)) then some (-1)
  else some (IntKind.wrap .i64 (a1 - (a0.length : Int)))
theorem e40 (L : Nat) (a0 : (List E9)) (a1 : Int) : evF prog ev40 (loopN L) f40 (a40.enc (a0, a1)) = (g40 L a0 a1).map n40 := by
  rw [i40]; simp only [g40, map_bif, map_tst, map_bnd, Option.map_some, Option.map_none]
theorem s40 (m : ((List E9) × Int) → Option Int) (hm : ∀ (x : ((List E9) × Int)) t, m x = some t → ∃ L, g40 L x.1 x.2 = some t) : Sat prog cxT 40 (c40 m) :=
  sat_t cxT_ok cxT_pok (by rfl) (fn := f40) rfl a40 n40 dd40 m ev40 kok_nil kwok_nil (fun L x => g40 L x.1 x.2) (fun L x => e40 L x.1 x.2) hm hs40
def ev43 (m30 : E9 → Option E9) : Env cxT := { Kc := kcOf [(30, c30 m30)], Kw := kwOf [], lv := fun i => if i = 0 then [(0, [some 53]), (3, [some 57]), (4, [])] else [], xv := fun i => if i = 0 then some [(3, [some 57])] else none }
def S43_0 (a0 x0 : (List E9)) (x1 : Int) : St cxT.ty := { slots := [(.inl (.inl (ls { own := 0, nm := 0, e := 53, o := false, xs := a0 }))), junk, junk, (.inl (.inl (ls { own := 1, nm := 192, e := 57, o := true, xs := x0 }))), (.inl (.inl (lv (.int .i64 x1))))] ++ List.replicate 18 junk, D := [], F := [], ctr := 1 }
def X43_0 (a0 x0 : (List E9)) : St cxT.ty := { slots := [junk, junk, junk, (.inl (.inl (ls { own := 1, nm := 192, e := 57, o := true, xs := x0 })))] ++ List.replicate 19 junk, D := [], F := [], ctr := 1 }
theorem i43 (m30 : E9 → Option E9) (L : Nat) (a0 : (List E9)) : evF prog (ev43 m30) (loopN L) f43 (a43.enc a0) =
  bif (((decide (0 ≤ (a0.length : Int))) && (decide ((a0.length : Int) ≤ (a0.length : Int)))) && (decide ((a0.length : Int) ≤ 1000000000))) then headF prog (ev43 m30) L f43 0 [1, 1, 0, 1, 0, 0] (outK (outV prog f43) (topK prog (ev43 m30) L f43 [1, 1, 0, 1] (outV prog f43)).n (topK prog (ev43 m30) L f43 [1, 1, 0, 1] (outV prog f43)).x) L (S43_0 a0 (List.replicate (Int.toNat (a0.length : Int)) (0, (0, (0, (0, (0, (0, (0, (0, 0))))))))) 0)
  else none := by kernel_rfl
theorem r43_0 (m30 : E9 → Option E9) (L : Nat) (a0 : (List E9)) (k : St cxT.ty → Option (V cxT.ty)) (xk : Nat → St cxT.ty → Option (V cxT.ty)) (g : St cxT.ty → Option (V cxT.ty)) (x1 : (List E9)) (x0 : Int) : roundF prog (ev43 m30) L f43 0 [1, 1, 0, 1, 0, 0] (outK (outV prog f43) k xk) g (S43_0 a0 x1 x0) =
  bif (decide (x0 < (a0.length : Int))) then bif ((decide (0 ≤ x0)) && (decide (x0 < (a0.length : Int)))) then tst (m30 ((List.getD a0 x0.toNat (0, (0, (0, (0, (0, (0, (0, (0, 0))))))))).1, ((List.getD a0 x0.toNat (0, (0, (0, (0, (0, (0, (0, (0, 0))))))))).2.1, ((List.getD a0 x0.toNat (0, (0, (0, (0, (0, (0, (0, (0, 0))))))))).2.2.1, ((List.getD a0 x0.toNat (0, (0, (0, (0, (0, (0, (0, (0, 0))))))))).2.2.2.1, ((List.getD a0 x0.toNat (0, (0, (0, (0, (0, (0, (0, (0, 0))))))))).2.2.2.2.1, ((List.getD a0 x0.toNat (0, (0, (0, (0, (0, (0, (0, (0, 0))))))))).2.2.2.2.2.1, ((List.getD a0 x0.toNat (0, (0, (0, (0, (0, (0, (0, (0, 0))))))))).2.2.2.2.2.2.1, ((List.getD a0 x0.toNat (0, (0, (0, (0, (0, (0, (0, (0, 0))))))))).2.2.2.2.2.2.2.1, (List.getD a0 x0.toNat (0, (0, (0, (0, (0, (0, (0, (0, 0))))))))).2.2.2.2.2.2.2.2))))))))) (0, 0, 0, 0, 0, 0, 0, 0, 0) fun (q3 : E9) => bif ((decide (0 ≤ x0)) && (decide (x0 < (x1.length : Int)))) then g (S43_0 a0 (List.set x1 x0.toNat q3) (IntKind.wrap .i64 (x0 + 1)))
        else none
    else none
  else k (X43_0 a0 x1) := by kernel_rfl
theorem t43_0 (m30 : E9 → Option E9) (L : Nat) (a0 x0 : (List E9)) : (topK prog (ev43 m30) L f43 [1, 1, 0, 1] (outV prog f43)).n (X43_0 a0 x0) =
  some (n43 x0) := by kernel_rfl
def l43_0 (m30 : E9 → Option E9) (L : Nat) (a0 : (List E9)) : Nat → (List E9) → Int → ((List E9) → Option (List E9)) → Option (List E9)
  | 0, _, _, _ => none
  | n + 1, x1, x0, k =>
    bif (decide (x0 < (a0.length : Int))) then bif ((decide (0 ≤ x0)) && (decide (x0 < (a0.length : Int)))) then tst (m30 ((List.getD a0 x0.toNat (0, (0, (0, (0, (0, (0, (0, (0, 0))))))))).1, ((List.getD a0 x0.toNat (0, (0, (0, (0, (0, (0, (0, (0, 0))))))))).2.1, ((List.getD a0 x0.toNat (0, (0, (0, (0, (0, (0, (0, (0, 0))))))))).2.2.1, ((List.getD a0 x0.toNat (0, (0, (0, (0, (0, (0, (0, (0, 0))))))))).2.2.2.1, ((List.getD a0 x0.toNat (0, (0, (0, (0, (0, (0, (0, (0, 0))))))))).2.2.2.2.1, ((List.getD a0 x0.toNat (0, (0, (0, (0, (0, (0, (0, (0, 0))))))))).2.2.2.2.2.1, ((List.getD a0 x0.toNat (0, (0, (0, (0, (0, (0, (0, (0, 0))))))))).2.2.2.2.2.2.1, ((List.getD a0 x0.toNat (0, (0, (0, (0, (0, (0, (0, (0, 0))))))))).2.2.2.2.2.2.2.1, (List.getD a0 x0.toNat (0, (0, (0, (0, (0, (0, (0, (0, 0))))))))).2.2.2.2.2.2.2.2))))))))) (0, 0, 0, 0, 0, 0, 0, 0, 0) fun (q4 : E9) => bif ((decide (0 ≤ x0)) && (decide (x0 < (x1.length : Int)))) then l43_0 m30 L a0 n (List.set x1 x0.toNat q4) (IntKind.wrap .i64 (x0 + 1)) k
          else none
      else none
    else k x1
theorem h43_0 (m30 : E9 → Option E9) (L : Nat) (a0 : (List E9)) (k : St cxT.ty → Option (V cxT.ty)) (xk : Nat → St cxT.ty → Option (V cxT.ty)) (k' : (List E9) → Option (List E9)) (hk : ∀ (x2 : (List E9)), k (X43_0 a0 x2) = (k' x2).map n43) : ∀ (n : Nat) (x0 : (List E9)) (x1 : Int), headF prog (ev43 m30) L f43 0 [1, 1, 0, 1, 0, 0] (outK (outV prog f43) k xk) n (S43_0 a0 x0 x1) = (l43_0 m30 L a0 n x0 x1 k').map n43
  | 0, _, _ => rfl
  | n + 1, x0, x1 => by
    rw [headF_round, r43_0]
    have ih := h43_0 m30 L a0 k xk k' hk n
    simp only [l43_0, map_bif, map_tst, map_bnd, Option.map_some, Option.map_none, ih, hk]
def g43 (m30 : E9 → Option E9) (L : Nat) (a0 : (List E9)) : Option (List E9) :=
  bif (((decide (0 ≤ (a0.length : Int))) && (decide ((a0.length : Int) ≤ (a0.length : Int)))) && (decide ((a0.length : Int) ≤ 1000000000))) then l43_0 m30 L a0 L (List.replicate (Int.toNat (a0.length : Int)) (0, (0, (0, (0, (0, (0, (0, (0, 0))))))))) 0 (fun (x0 : (List E9)) => some x0)
  else none
theorem e43 (m30 : E9 → Option E9) (L : Nat) (a0 : (List E9)) : evF prog (ev43 m30) (loopN L) f43 (a43.enc a0) = (g43 m30 L a0).map n43 := by
  let K'0 : (List E9) → Option (List E9) := (fun (x2 : (List E9)) => some x2)
  have hin0 : ∀ (x0 : (List E9)) (x1 : Int), headF prog (ev43 m30) L f43 0 [1, 1, 0, 1, 0, 0] (outK (outV prog f43) (topK prog (ev43 m30) L f43 [1, 1, 0, 1] (outV prog f43)).n (topK prog (ev43 m30) L f43 [1, 1, 0, 1] (outV prog f43)).x) L (S43_0 a0 x0 x1) = (l43_0 m30 L a0 L x0 x1 K'0).map n43 := fun x0 x1 => h43_0 m30 L a0 _ _ K'0 (fun x2 => by rw [t43_0]; simp only [K'0, map_bif, map_tst, map_bnd, Option.map_some, Option.map_none]) L x0 x1
  rw [i43]; simp only [g43, map_bif, map_tst, map_bnd, Option.map_some, Option.map_none, hin0, K'0]
theorem s43 (m30 : E9 → Option E9) (h30 : Sat prog cxT 30 (c30 m30)) (m : (List E9) → Option (List E9)) (hm : ∀ (x : (List E9)) t, m x = some t → ∃ L, g43 m30 L x = some t) : Sat prog cxT 43 (c43 m) :=
  sat_t cxT_ok cxT_pok (by rfl) (fn := f43) rfl a43 n43 dd43 m (ev43 m30) (kok_cons h30 kok_nil) kwok_nil (fun L x => g43 m30 L x) (fun L x => e43 m30 L x) hm hs43
def ev57 (m100 : (E9 × E9) → Option Bool) : Env cxT := { Kc := kcOf [(100, c100 m100)], Kw := kwOf [], lv := fun i => if i = 0 then [(0, [some 57]), (1, [some 57]), (5, [])] else [], xv := fun i => if i = 0 then some [] else none }
def S57_0 (a0 a1 : (List E9)) (x0 : Int) : St cxT.ty := { slots := [(.inl (.inl (ls { own := 0, nm := 0, e := 57, o := false, xs := a0 }))), (.inl (.inl (ls { own := 0, nm := 0, e := 57, o := false, xs := a1 }))), junk, junk, junk, (.inl (.inl (lv (.int .i64 x0))))] ++ List.replicate 21 junk, D := [], F := [], ctr := 1 }
def X57_0 (a0 a1 : (List E9)) : St cxT.ty := { slots := [] ++ List.replicate 27 junk, D := [], F := [], ctr := 1 }
theorem i57 (m100 : (E9 × E9) → Option Bool) (L : Nat) (a0 a1 : (List E9)) : evF prog (ev57 m100) (loopN L) f57 (a57.enc (a0, a1)) =
  bif ((a0.length : Int) != (a1.length : Int)) then some (n57 false)
  else headF prog (ev57 m100) L f57 0 [1, 1, 0, 1, 0, 0] (outK (outV prog f57) (topK prog (ev57 m100) L f57 [1, 1, 0, 1] (outV prog f57)).n (topK prog (ev57 m100) L f57 [1, 1, 0, 1] (outV prog f57)).x) L (S57_0 a0 a1 0) := by kernel_rfl
theorem r57_0 (m100 : (E9 × E9) → Option Bool) (L : Nat) (a0 a1 : (List E9)) (k : St cxT.ty → Option (V cxT.ty)) (xk : Nat → St cxT.ty → Option (V cxT.ty)) (g : St cxT.ty → Option (V cxT.ty)) (x0 : Int) : roundF prog (ev57 m100) L f57 0 [1, 1, 0, 1, 0, 0] (outK (outV prog f57) k xk) g (S57_0 a0 a1 x0) =
  bif (decide (x0 < (a0.length : Int))) then bif ((decide (0 ≤ x0)) && (decide (x0 < (a0.length : Int)))) then bif ((decide (0 ≤ x0)) && (decide (x0 < (a1.length : Int)))) then tst (m100 (((List.getD a0 x0.toNat (0, (0, (0, (0, (0, (0, (0, (0, 0))))))))).1, ((List.getD a0 x0.toNat (0, (0, (0, (0, (0, (0, (0, (0, 0))))))))).2.1, ((List.getD a0 x0.toNat (0, (0, (0, (0, (0, (0, (0, (0, 0))))))))).2.2.1, ((List.getD a0 x0.toNat (0, (0, (0, (0, (0, (0, (0, (0, 0))))))))).2.2.2.1, ((List.getD a0 x0.toNat (0, (0, (0, (0, (0, (0, (0, (0, 0))))))))).2.2.2.2.1, ((List.getD a0 x0.toNat (0, (0, (0, (0, (0, (0, (0, (0, 0))))))))).2.2.2.2.2.1, ((List.getD a0 x0.toNat (0, (0, (0, (0, (0, (0, (0, (0, 0))))))))).2.2.2.2.2.2.1, ((List.getD a0 x0.toNat (0, (0, (0, (0, (0, (0, (0, (0, 0))))))))).2.2.2.2.2.2.2.1, (List.getD a0 x0.toNat (0, (0, (0, (0, (0, (0, (0, (0, 0))))))))).2.2.2.2.2.2.2.2)))))))), ((List.getD a1 x0.toNat (0, (0, (0, (0, (0, (0, (0, (0, 0))))))))).1, ((List.getD a1 x0.toNat (0, (0, (0, (0, (0, (0, (0, (0, 0))))))))).2.1, ((List.getD a1 x0.toNat (0, (0, (0, (0, (0, (0, (0, (0, 0))))))))).2.2.1, ((List.getD a1 x0.toNat (0, (0, (0, (0, (0, (0, (0, (0, 0))))))))).2.2.2.1, ((List.getD a1 x0.toNat (0, (0, (0, (0, (0, (0, (0, (0, 0))))))))).2.2.2.2.1, ((List.getD a1 x0.toNat (0, (0, (0, (0, (0, (0, (0, (0, 0))))))))).2.2.2.2.2.1, ((List.getD a1 x0.toNat (0, (0, (0, (0, (0, (0, (0, (0, 0))))))))).2.2.2.2.2.2.1, ((List.getD a1 x0.toNat (0, (0, (0, (0, (0, (0, (0, (0, 0))))))))).2.2.2.2.2.2.2.1, (List.getD a1 x0.toNat (0, (0, (0, (0, (0, (0, (0, (0, 0))))))))).2.2.2.2.2.2.2.2)))))))))) false fun (q4 : Bool) => bif (!q4) then some (n57 false)
          else g (S57_0 a0 a1 (IntKind.wrap .i64 (x0 + 1)))
      else none
    else none
  else k (X57_0 a0 a1) := by kernel_rfl
theorem t57_0 (m100 : (E9 × E9) → Option Bool) (L : Nat) (a0 a1 : (List E9)) : (topK prog (ev57 m100) L f57 [1, 1, 0, 1] (outV prog f57)).n (X57_0 a0 a1) =
  some (n57 true) := by kernel_rfl
def l57_0 (m100 : (E9 × E9) → Option Bool) (L : Nat) (a0 a1 : (List E9)) : Nat → Int → (Option Bool) → Option Bool
  | 0, _, _ => none
  | n + 1, x0, k =>
    bif (decide (x0 < (a0.length : Int))) then bif ((decide (0 ≤ x0)) && (decide (x0 < (a0.length : Int)))) then bif ((decide (0 ≤ x0)) && (decide (x0 < (a1.length : Int)))) then tst (m100 (((List.getD a0 x0.toNat (0, (0, (0, (0, (0, (0, (0, (0, 0))))))))).1, ((List.getD a0 x0.toNat (0, (0, (0, (0, (0, (0, (0, (0, 0))))))))).2.1, ((List.getD a0 x0.toNat (0, (0, (0, (0, (0, (0, (0, (0, 0))))))))).2.2.1, ((List.getD a0 x0.toNat (0, (0, (0, (0, (0, (0, (0, (0, 0))))))))).2.2.2.1, ((List.getD a0 x0.toNat (0, (0, (0, (0, (0, (0, (0, (0, 0))))))))).2.2.2.2.1, ((List.getD a0 x0.toNat (0, (0, (0, (0, (0, (0, (0, (0, 0))))))))).2.2.2.2.2.1, ((List.getD a0 x0.toNat (0, (0, (0, (0, (0, (0, (0, (0, 0))))))))).2.2.2.2.2.2.1, ((List.getD a0 x0.toNat (0, (0, (0, (0, (0, (0, (0, (0, 0))))))))).2.2.2.2.2.2.2.1, (List.getD a0 x0.toNat (0, (0, (0, (0, (0, (0, (0, (0, 0))))))))).2.2.2.2.2.2.2.2)))))))), ((List.getD a1 x0.toNat (0, (0, (0, (0, (0, (0, (0, (0, 0))))))))).1, ((List.getD a1 x0.toNat (0, (0, (0, (0, (0, (0, (0, (0, 0))))))))).2.1, ((List.getD a1 x0.toNat (0, (0, (0, (0, (0, (0, (0, (0, 0))))))))).2.2.1, ((List.getD a1 x0.toNat (0, (0, (0, (0, (0, (0, (0, (0, 0))))))))).2.2.2.1, ((List.getD a1 x0.toNat (0, (0, (0, (0, (0, (0, (0, (0, 0))))))))).2.2.2.2.1, ((List.getD a1 x0.toNat (0, (0, (0, (0, (0, (0, (0, (0, 0))))))))).2.2.2.2.2.1, ((List.getD a1 x0.toNat (0, (0, (0, (0, (0, (0, (0, (0, 0))))))))).2.2.2.2.2.2.1, ((List.getD a1 x0.toNat (0, (0, (0, (0, (0, (0, (0, (0, 0))))))))).2.2.2.2.2.2.2.1, (List.getD a1 x0.toNat (0, (0, (0, (0, (0, (0, (0, (0, 0))))))))).2.2.2.2.2.2.2.2)))))))))) false fun (q5 : Bool) => bif (!q5) then some false
            else l57_0 m100 L a0 a1 n (IntKind.wrap .i64 (x0 + 1)) k
        else none
      else none
    else k
theorem h57_0 (m100 : (E9 × E9) → Option Bool) (L : Nat) (a0 a1 : (List E9)) (k : St cxT.ty → Option (V cxT.ty)) (xk : Nat → St cxT.ty → Option (V cxT.ty)) (k' : Option Bool) (hk : k (X57_0 a0 a1) = (k').map n57) : ∀ (n : Nat) (x0 : Int), headF prog (ev57 m100) L f57 0 [1, 1, 0, 1, 0, 0] (outK (outV prog f57) k xk) n (S57_0 a0 a1 x0) = (l57_0 m100 L a0 a1 n x0 k').map n57
  | 0, _ => rfl
  | n + 1, x0 => by
    rw [headF_round, r57_0]
    have ih := h57_0 m100 L a0 a1 k xk k' hk n
    simp only [l57_0, map_bif, map_tst, map_bnd, Option.map_some, Option.map_none, ih, hk]
def g57 (m100 : (E9 × E9) → Option Bool) (L : Nat) (a0 a1 : (List E9)) : Option Bool :=
  bif ((a0.length : Int) != (a1.length : Int)) then some false
  else l57_0 m100 L a0 a1 L 0 (some true)
theorem e57 (m100 : (E9 × E9) → Option Bool) (L : Nat) (a0 a1 : (List E9)) : evF prog (ev57 m100) (loopN L) f57 (a57.enc (a0, a1)) = (g57 m100 L a0 a1).map n57 := by
  let K'0 : Option Bool := (some true)
  have hin0 : ∀ (x0 : Int), headF prog (ev57 m100) L f57 0 [1, 1, 0, 1, 0, 0] (outK (outV prog f57) (topK prog (ev57 m100) L f57 [1, 1, 0, 1] (outV prog f57)).n (topK prog (ev57 m100) L f57 [1, 1, 0, 1] (outV prog f57)).x) L (S57_0 a0 a1 x0) = (l57_0 m100 L a0 a1 L x0 K'0).map n57 := fun x0 => h57_0 m100 L a0 a1 _ _ K'0 (by rw [t57_0]; simp only [K'0, map_bif, map_tst, map_bnd, Option.map_some, Option.map_none]) L x0
  rw [i57]; simp only [g57, map_bif, map_tst, map_bnd, Option.map_some, Option.map_none, hin0, K'0]
theorem s57 (m100 : (E9 × E9) → Option Bool) (h100 : Sat prog cxT 100 (c100 m100)) (m : ((List E9) × (List E9)) → Option Bool) (hm : ∀ (x : ((List E9) × (List E9))) t, m x = some t → ∃ L, g57 m100 L x.1 x.2 = some t) : Sat prog cxT 57 (c57 m) :=
  sat_t cxT_ok cxT_pok (by rfl) (fn := f57) rfl a57 n57 dd57 m (ev57 m100) (kok_cons h100 kok_nil) kwok_nil (fun L x => g57 m100 L x.1 x.2) (fun L x => e57 m100 L x.1 x.2) hm hs57
end Go.Proofs.Tryz
