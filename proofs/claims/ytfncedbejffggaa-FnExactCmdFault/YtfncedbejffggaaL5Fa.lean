/- A part of the proof of FnExactCmdFault: L5Fa, L5Fb, L5Fc. -/
import Derived.Test.YtfncedbejffggaaL5Base
set_option maxHeartbeats 0
set_option maxRecDepth 100000
set_option linter.unusedVariables false
set_option linter.unusedSimpArgs false
namespace Go.Proofs.Try
open Go Go.VM Go.RowKit
/-! loop.example/g00222/spec.l1In -/
def ev41 : Env cxT := { Kc := kcOf [], Kw := kwOf [], lv := fun i => [], xv := fun i => none }
theorem i41 (L : Nat) (a0 : Int) (a1 : Int) (a2 : Int) : evF prog ev41 (loopN L) f41 (a41.enc (a0, a1, a2)) =
  bif (decide (a0 ≥ a1)) then some (n41 (decide (a0 ≤ a2)))
  else some (n41 Bool.false) := by kernel_rfl
def g41 (L : Nat) (a0 : Int) (a1 : Int) (a2 : Int) : Option Bool :=
  bif (decide (a0 ≥ a1)) then some (decide (a0 ≤ a2))
  else some Bool.false
theorem e41 (L : Nat) (a0 : Int) (a1 : Int) (a2 : Int) : evF prog ev41 (loopN L) f41 (a41.enc (a0, a1, a2)) = (g41 L a0 a1 a2).map n41 := by
  rw [i41]; simp only [g41, map_bif, map_tst, Option.map_some, Option.map_none]
theorem s41 (m : (Int × Int × Int) → Option Bool) (hm : ∀ (x : (Int × Int × Int)) t, m x = some t → ∃ L, g41 L x.1 x.2.1 x.2.2 = some t) : Sat prog cxT 41 (c41 m) :=
  sat_t cxT_ok cxT_pok (by rfl) (fn := f41) rfl a41 n41 dd41 m ev41 kok_nil kwok_nil (fun L x => g41 L x.1 x.2.1 x.2.2) (fun L x => e41 L x.1 x.2.1 x.2.2) hm hs41
/-! loop.example/g00222/impl.isName -/
def ev44 : Env cxT := { Kc := kcOf [], Kw := kwOf [], lv := fun i => [], xv := fun i => none }
theorem i44 (L : Nat) (a0 : Int) : evF prog ev44 (loopN L) f44 (a44.enc a0) =
  bif (decide (a0 ≥ (1 : Int))) then some (n44 (decide (a0 ≤ (999 : Int))))
  else some (n44 Bool.false) := by kernel_rfl
def g44 (L : Nat) (a0 : Int) : Option Bool :=
  bif (decide (a0 ≥ (1 : Int))) then some (decide (a0 ≤ (999 : Int)))
  else some Bool.false
theorem e44 (L : Nat) (a0 : Int) : evF prog ev44 (loopN L) f44 (a44.enc a0) = (g44 L a0).map n44 := by
  rw [i44]; simp only [g44, map_bif, map_tst, Option.map_some, Option.map_none]
theorem s44 (m : Int → Option Bool) (hm : ∀ (x : Int) t, m x = some t → ∃ L, g44 L x = some t) : Sat prog cxT 44 (c44 m) :=
  sat_t cxT_ok cxT_pok (by rfl) (fn := f44) rfl a44 n44 dd44 m ev44 kok_nil kwok_nil (fun L x => g44 L x) (fun L x => e44 L x) hm hs44
/-! loop.example/g00222/impl.isWeight -/
def ev45 : Env cxT := { Kc := kcOf [], Kw := kwOf [], lv := fun i => [], xv := fun i => none }
theorem i45 (L : Nat) (a0 : Int) : evF prog ev45 (loopN L) f45 (a45.enc a0) =
  bif (decide (a0 ≥ (0 : Int))) then some (n45 (decide (a0 ≤ (9 : Int))))
  else some (n45 Bool.false) := by kernel_rfl
def g45 (L : Nat) (a0 : Int) : Option Bool :=
  bif (decide (a0 ≥ (0 : Int))) then some (decide (a0 ≤ (9 : Int)))
  else some Bool.false
theorem e45 (L : Nat) (a0 : Int) : evF prog ev45 (loopN L) f45 (a45.enc a0) = (g45 L a0).map n45 := by
  rw [i45]; simp only [g45, map_bif, map_tst, Option.map_some, Option.map_none]
theorem s45 (m : Int → Option Bool) (hm : ∀ (x : Int) t, m x = some t → ∃ L, g45 L x = some t) : Sat prog cxT 45 (c45 m) :=
  sat_t cxT_ok cxT_pok (by rfl) (fn := f45) rfl a45 n45 dd45 m ev45 kok_nil kwok_nil (fun L x => g45 L x) (fun L x => e45 L x) hm hs45
/-! loop.example/g00222/laws.szBackendS -/
/-! loop.example/g00222/laws.szVipS -/
/-! loop.example/g00222/laws.toBackendS -/
/-! loop.example/g00222/impl.isVersion -/
def ev50 : Env cxT := { Kc := kcOf [], Kw := kwOf [], lv := fun i => [], xv := fun i => none }
theorem i50 (L : Nat) (a0 : Int) : evF prog ev50 (loopN L) f50 (a50.enc a0) =
  bif (decide (a0 ≥ (0 : Int))) then some (n50 (decide (a0 ≤ (1000000 : Int))))
  else some (n50 Bool.false) := by kernel_rfl
def g50 (L : Nat) (a0 : Int) : Option Bool :=
  bif (decide (a0 ≥ (0 : Int))) then some (decide (a0 ≤ (1000000 : Int)))
  else some Bool.false
theorem e50 (L : Nat) (a0 : Int) : evF prog ev50 (loopN L) f50 (a50.enc a0) = (g50 L a0).map n50 := by
  rw [i50]; simp only [g50, map_bif, map_tst, Option.map_some, Option.map_none]
theorem s50 (m : Int → Option Bool) (hm : ∀ (x : Int) t, m x = some t → ∃ L, g50 L x = some t) : Sat prog cxT 50 (c50 m) :=
  sat_t cxT_ok cxT_pok (by rfl) (fn := f50) rfl a50 n50 dd50 m ev50 kok_nil kwok_nil (fun L x => g50 L x) (fun L x => e50 L x) hm hs50
/-! loop.example/g00222/impl.isBackend -/
/-! loop.example/g00222/spec.l5Version -/
def ev58 (m41 : (Int × Int × Int) → Option Bool) : Env cxT := { Kc := kcOf [(41, c41 m41)], Kw := kwOf [], lv := fun i => [], xv := fun i => none }
theorem i58 (m41 : (Int × Int × Int) → Option Bool) (L : Nat) (a0 : Int) : evF prog (ev58 m41) (loopN L) f58 (a58.enc a0) =
  tst (m41 (a0, ((0 : Int), (1000000 : Int)))) false fun (q1 : Bool) => some (n58 q1) := by kernel_rfl
def g58 (m41 : (Int × Int × Int) → Option Bool) (L : Nat) (a0 : Int) : Option Bool :=
  tst (m41 (a0, ((0 : Int), (1000000 : Int)))) false fun (q1 : Bool) => some q1
theorem e58 (m41 : (Int × Int × Int) → Option Bool) (L : Nat) (a0 : Int) : evF prog (ev58 m41) (loopN L) f58 (a58.enc a0) = (g58 m41 L a0).map n58 := by
  rw [i58]; simp only [g58, map_bif, map_tst, Option.map_some, Option.map_none]
theorem s58 (m41 : (Int × Int × Int) → Option Bool) (h41 : Sat prog cxT 41 (c41 m41)) (m : Int → Option Bool) (hm : ∀ (x : Int) t, m x = some t → ∃ L, g58 m41 L x = some t) : Sat prog cxT 58 (c58 m) :=
  sat_t cxT_ok cxT_pok (by rfl) (fn := f58) rfl a58 n58 dd58 m (ev58 m41) (kok_cons h41 kok_nil) kwok_nil (fun L x => g58 m41 L x) (fun L x => e58 m41 L x) hm hs58
/-! loop.example/g00222/spec.l3Name -/
def ev59 (m41 : (Int × Int × Int) → Option Bool) : Env cxT := { Kc := kcOf [(41, c41 m41)], Kw := kwOf [], lv := fun i => [], xv := fun i => none }
theorem i59 (m41 : (Int × Int × Int) → Option Bool) (L : Nat) (a0 : Int) : evF prog (ev59 m41) (loopN L) f59 (a59.enc a0) =
  tst (m41 (a0, ((1 : Int), (999 : Int)))) false fun (q1 : Bool) => some (n59 q1) := by kernel_rfl
def g59 (m41 : (Int × Int × Int) → Option Bool) (L : Nat) (a0 : Int) : Option Bool :=
  tst (m41 (a0, ((1 : Int), (999 : Int)))) false fun (q1 : Bool) => some q1
theorem e59 (m41 : (Int × Int × Int) → Option Bool) (L : Nat) (a0 : Int) : evF prog (ev59 m41) (loopN L) f59 (a59.enc a0) = (g59 m41 L a0).map n59 := by
  rw [i59]; simp only [g59, map_bif, map_tst, Option.map_some, Option.map_none]
theorem s59 (m41 : (Int × Int × Int) → Option Bool) (h41 : Sat prog cxT 41 (c41 m41)) (m : Int → Option Bool) (hm : ∀ (x : Int) t, m x = some t → ∃ L, g59 m41 L x = some t) : Sat prog cxT 59 (c59 m) :=
  sat_t cxT_ok cxT_pok (by rfl) (fn := f59) rfl a59 n59 dd59 m (ev59 m41) (kok_cons h41 kok_nil) kwok_nil (fun L x => g59 m41 L x) (fun L x => e59 m41 L x) hm hs59
/-! loop.example/g00222/spec.l2Address -/
def ev60 (m41 : (Int × Int × Int) → Option Bool) : Env cxT := { Kc := kcOf [(41, c41 m41)], Kw := kwOf [], lv := fun i => [], xv := fun i => none }
theorem i60 (m41 : (Int × Int × Int) → Option Bool) (L : Nat) (a0 : Int) : evF prog (ev60 m41) (loopN L) f60 (a60.enc a0) =
  tst (m41 (a0, ((0 : Int), (4294967295 : Int)))) false fun (q1 : Bool) => some (n60 q1) := by kernel_rfl
def g60 (m41 : (Int × Int × Int) → Option Bool) (L : Nat) (a0 : Int) : Option Bool :=
  tst (m41 (a0, ((0 : Int), (4294967295 : Int)))) false fun (q1 : Bool) => some q1
theorem e60 (m41 : (Int × Int × Int) → Option Bool) (L : Nat) (a0 : Int) : evF prog (ev60 m41) (loopN L) f60 (a60.enc a0) = (g60 m41 L a0).map n60 := by
  rw [i60]; simp only [g60, map_bif, map_tst, Option.map_some, Option.map_none]
theorem s60 (m41 : (Int × Int × Int) → Option Bool) (h41 : Sat prog cxT 41 (c41 m41)) (m : Int → Option Bool) (hm : ∀ (x : Int) t, m x = some t → ∃ L, g60 m41 L x = some t) : Sat prog cxT 60 (c60 m) :=
  sat_t cxT_ok cxT_pok (by rfl) (fn := f60) rfl a60 n60 dd60 m (ev60 m41) (kok_cons h41 kok_nil) kwok_nil (fun L x => g60 m41 L x) (fun L x => e60 m41 L x) hm hs60
/-! loop.example/g00222/spec.l5Proto -/
def ev62 : Env cxT := { Kc := kcOf [], Kw := kwOf [], lv := fun i => [], xv := fun i => none }
theorem i62 (L : Nat) (a0 : Int) : evF prog ev62 (loopN L) f62 (a62.enc a0) =
  bif (a0 == (6 : Int)) then some (n62 Bool.true)
  else some (n62 (a0 == (17 : Int))) := by kernel_rfl
def g62 (L : Nat) (a0 : Int) : Option Bool :=
  bif (a0 == (6 : Int)) then some Bool.true
  else some (a0 == (17 : Int))
theorem e62 (L : Nat) (a0 : Int) : evF prog ev62 (loopN L) f62 (a62.enc a0) = (g62 L a0).map n62 := by
  rw [i62]; simp only [g62, map_bif, map_tst, Option.map_some, Option.map_none]
theorem s62 (m : Int → Option Bool) (hm : ∀ (x : Int) t, m x = some t → ∃ L, g62 L x = some t) : Sat prog cxT 62 (c62 m) :=
  sat_t cxT_ok cxT_pok (by rfl) (fn := f62) rfl a62 n62 dd62 m ev62 kok_nil kwok_nil (fun L x => g62 L x) (fun L x => e62 L x) hm hs62
/-! loop.example/g00222/laws.eqBackend -/
/-! loop.example/g00222/spec.l5Backend -/
/-! loop.example/g00222/impl.backendPlace$1 -/
/-! cmp.Compare[int64] -/
/-! loop.example/g00222/laws.szVip -/
/-! loop.example/g00222/laws.toBackend -/
/-! loop.example/g00222/laws.toVip -/
/-! loop.example/g00222/impl.isAddress -/
def ev89 : Env cxT := { Kc := kcOf [], Kw := kwOf [], lv := fun i => [], xv := fun i => none }
theorem i89 (L : Nat) (a0 : Int) : evF prog ev89 (loopN L) f89 (a89.enc a0) =
  bif (decide (a0 ≥ (0 : Int))) then some (n89 (decide (a0 ≤ (4294967295 : Int))))
  else some (n89 Bool.false) := by kernel_rfl
def g89 (L : Nat) (a0 : Int) : Option Bool :=
  bif (decide (a0 ≥ (0 : Int))) then some (decide (a0 ≤ (4294967295 : Int)))
  else some Bool.false
theorem e89 (L : Nat) (a0 : Int) : evF prog ev89 (loopN L) f89 (a89.enc a0) = (g89 L a0).map n89 := by
  rw [i89]; simp only [g89, map_bif, map_tst, Option.map_some, Option.map_none]
theorem s89 (m : Int → Option Bool) (hm : ∀ (x : Int) t, m x = some t → ∃ L, g89 L x = some t) : Sat prog cxT 89 (c89 m) :=
  sat_t cxT_ok cxT_pok (by rfl) (fn := f89) rfl a89 n89 dd89 m ev89 kok_nil kwok_nil (fun L x => g89 L x) (fun L x => e89 L x) hm hs89
/-! loop.example/g00222/impl.isStage -/
def ev90 : Env cxT := { Kc := kcOf [], Kw := kwOf [], lv := fun i => [], xv := fun i => none }
theorem i90 (L : Nat) (a0 : Int) : evF prog ev90 (loopN L) f90 (a90.enc a0) =
  bif (decide (a0 ≥ (1 : Int))) then some (n90 (decide (a0 ≤ (3 : Int))))
  else some (n90 Bool.false) := by kernel_rfl
def g90 (L : Nat) (a0 : Int) : Option Bool :=
  bif (decide (a0 ≥ (1 : Int))) then some (decide (a0 ≤ (3 : Int)))
  else some Bool.false
theorem e90 (L : Nat) (a0 : Int) : evF prog ev90 (loopN L) f90 (a90.enc a0) = (g90 L a0).map n90 := by
  rw [i90]; simp only [g90, map_bif, map_tst, Option.map_some, Option.map_none]
theorem s90 (m : Int → Option Bool) (hm : ∀ (x : Int) t, m x = some t → ∃ L, g90 L x = some t) : Sat prog cxT 90 (c90 m) :=
  sat_t cxT_ok cxT_pok (by rfl) (fn := f90) rfl a90 n90 dd90 m ev90 kok_nil kwok_nil (fun L x => g90 L x) (fun L x => e90 L x) hm hs90
/-! loop.example/g00222/impl.isPort -/
def ev91 : Env cxT := { Kc := kcOf [], Kw := kwOf [], lv := fun i => [], xv := fun i => none }
theorem i91 (L : Nat) (a0 : Int) : evF prog ev91 (loopN L) f91 (a91.enc a0) =
  bif (decide (a0 ≥ (0 : Int))) then some (n91 (decide (a0 ≤ (65535 : Int))))
  else some (n91 Bool.false) := by kernel_rfl
def g91 (L : Nat) (a0 : Int) : Option Bool :=
  bif (decide (a0 ≥ (0 : Int))) then some (decide (a0 ≤ (65535 : Int)))
  else some Bool.false
theorem e91 (L : Nat) (a0 : Int) : evF prog ev91 (loopN L) f91 (a91.enc a0) = (g91 L a0).map n91 := by
  rw [i91]; simp only [g91, map_bif, map_tst, Option.map_some, Option.map_none]
theorem s91 (m : Int → Option Bool) (hm : ∀ (x : Int) t, m x = some t → ∃ L, g91 L x = some t) : Sat prog cxT 91 (c91 m) :=
  sat_t cxT_ok cxT_pok (by rfl) (fn := f91) rfl a91 n91 dd91 m ev91 kok_nil kwok_nil (fun L x => g91 L x) (fun L x => e91 L x) hm hs91
/-! loop.example/g00222/impl.isProto -/
def ev92 : Env cxT := { Kc := kcOf [], Kw := kwOf [], lv := fun i => [], xv := fun i => none }
theorem i92 (L : Nat) (a0 : Int) : evF prog ev92 (loopN L) f92 (a92.enc a0) =
  bif (a0 == (6 : Int)) then some (n92 Bool.true)
  else some (n92 (a0 == (17 : Int))) := by kernel_rfl
def g92 (L : Nat) (a0 : Int) : Option Bool :=
  bif (a0 == (6 : Int)) then some Bool.true
  else some (a0 == (17 : Int))
theorem e92 (L : Nat) (a0 : Int) : evF prog ev92 (loopN L) f92 (a92.enc a0) = (g92 L a0).map n92 := by
  rw [i92]; simp only [g92, map_bif, map_tst, Option.map_some, Option.map_none]
theorem s92 (m : Int → Option Bool) (hm : ∀ (x : Int) t, m x = some t → ∃ L, g92 L x = some t) : Sat prog cxT 92 (c92 m) :=
  sat_t cxT_ok cxT_pok (by rfl) (fn := f92) rfl a92 n92 dd92 m ev92 kok_nil kwok_nil (fun L x => g92 L x) (fun L x => e92 L x) hm hs92
/-! cmp.Or[int] -/
/-! loop.example/g00222/spec.l2Port -/
def ev95 (m41 : (Int × Int × Int) → Option Bool) : Env cxT := { Kc := kcOf [(41, c41 m41)], Kw := kwOf [], lv := fun i => [], xv := fun i => none }
theorem i95 (m41 : (Int × Int × Int) → Option Bool) (L : Nat) (a0 : Int) : evF prog (ev95 m41) (loopN L) f95 (a95.enc a0) =
  tst (m41 (a0, ((0 : Int), (65535 : Int)))) false fun (q1 : Bool) => some (n95 q1) := by kernel_rfl
def g95 (m41 : (Int × Int × Int) → Option Bool) (L : Nat) (a0 : Int) : Option Bool :=
  tst (m41 (a0, ((0 : Int), (65535 : Int)))) false fun (q1 : Bool) => some q1
theorem e95 (m41 : (Int × Int × Int) → Option Bool) (L : Nat) (a0 : Int) : evF prog (ev95 m41) (loopN L) f95 (a95.enc a0) = (g95 m41 L a0).map n95 := by
  rw [i95]; simp only [g95, map_bif, map_tst, Option.map_some, Option.map_none]
theorem s95 (m41 : (Int × Int × Int) → Option Bool) (h41 : Sat prog cxT 41 (c41 m41)) (m : Int → Option Bool) (hm : ∀ (x : Int) t, m x = some t → ∃ L, g95 m41 L x = some t) : Sat prog cxT 95 (c95 m) :=
  sat_t cxT_ok cxT_pok (by rfl) (fn := f95) rfl a95 n95 dd95 m (ev95 m41) (kok_cons h41 kok_nil) kwok_nil (fun L x => g95 m41 L x) (fun L x => e95 m41 L x) hm hs95
/-! cmp.isNaN[int64] -/
/-! loop.example/g00222/laws.szInt64S -/
/-! loop.example/g00222/laws.toInt64S -/
/-! loop.example/g00222/laws.eqInt64S -/
/-! loop.example/g00222/impl.compareVips -/
end Go.Proofs.Try

set_option maxHeartbeats 0
set_option maxRecDepth 100000
set_option linter.unusedVariables false
set_option linter.unusedSimpArgs false
namespace Go.Proofs.Try
open Go Go.VM Go.RowKit
/-! loop.example/g00222/laws.szConfig -/
/-! loop.example/g00222/laws.toConfig -/
/-! loop.example/g00222/impl.ConfigFault -/
/-! loop.example/g00222/laws.eqConfig -/
/-! loop.example/g00222/impl.backendPlace -/
/-! loop.example/g00222/impl.isServed -/
/-! loop.example/g00222/impl.namesFault -/
/-! loop.example/g00222/laws.eqBackendS -/
/-! loop.example/g00222/laws.eqVipS -/
/-! slices.BinarySearchFunc[[]loop.example/g00222/impl.Backend,loop.example/g00222/impl.Backend,int64] -/
/-! loop.example/g00222/laws.eqVip -/
/-! loop.example/g00222/spec.l5Behind -/
end Go.Proofs.Try

set_option maxHeartbeats 0
set_option maxRecDepth 100000
set_option linter.unusedVariables false
set_option linter.unusedSimpArgs false
namespace Go.Proofs.Try
open Go Go.VM Go.RowKit
/-! loop.example/g00222/spec.l5At -/
def ev64 : Env cxT := { Kc := kcOf [], Kw := kwOf [], lv := fun i => if i = 0 then [(0, [none, some 38, some 36]), (1, []), (5, [])] else [], xv := fun i => if i = 0 then some [] else none }
def S64_0 (a0 : (Int × ((List (Int × (Int × (Int × (Int × Bool))))) × (List (Int × (Int × (Int × (List Int)))))))) (a1 : Int) (v0_5 : Int) : St cxT.ty := { slots := [(.inr (.inr { kind := 2, nm := 0, cells := [], s := { own := 0, nm := 0, e := 27, o := false, xs := (List.cons a0 []) }, i := 0, off := 0 })), (.inl (.inl (lv (.int .i64 a1)))), junk, junk, junk, (.inl (.inl (lv (.int .i64 v0_5))))] ++ List.replicate 20 junk, D := [], F := [], ctr := 1 }
theorem i64 (L : Nat) (a0 : (Int × ((List (Int × (Int × (Int × (Int × Bool))))) × (List (Int × (Int × (Int × (List Int)))))))) (a1 : Int) : evF prog ev64 (loopN L) f64 (a64.enc (a0, a1)) =
  headF prog ev64 L f64 0 [1, 0, 1, 0, 0] (outK (outV prog f64) (topK prog ev64 L f64 [1, 0, 1] (outV prog f64)).n (topK prog ev64 L f64 [1, 0, 1] (outV prog f64)).x) L (S64_0 a0 a1 (0 : Int)) := by kernel_rfl
/-! loop.example/g00222/spec.l5Vip -/
/-! loop.example/g00222/spec.l5Fault -/
/-! loop.example/g00222/spec.ConfigFault -/
/-! loop.example/g00222/spec.l5Shares -/
/-! loop.example/g00222/spec.SharesFor -/
/-! loop.example/g00222/spec.BackendAt -/
/-! loop.example/g00222/spec.VipFor -/
/-! loop.example/g00222/spec.l5For -/
end Go.Proofs.Try
