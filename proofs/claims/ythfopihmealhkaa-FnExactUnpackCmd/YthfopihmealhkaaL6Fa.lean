/- A part of the proof of FnExactUnpackCmd: L6Fa, L6Fb. -/
import Derived.Test.YthfopihmealhkaaL6Base
set_option maxHeartbeats 0
set_option maxRecDepth 100000
set_option linter.unusedVariables false
set_option linter.unusedSimpArgs false
namespace Go.Proofs.Try
open Go Go.VM Go.RowKit
/-! loop.example/g00222/laws.szBackendS -/
/-! loop.example/g00222/laws.szInt64S -/
/-! loop.example/g00222/laws.szVip -/
/-! loop.example/g00222/laws.szVipS -/
/-! loop.example/g00222/laws.szConfig -/
/-! loop.example/g00222/laws.toBackend -/
/-! loop.example/g00222/laws.toBackendS -/
/-! loop.example/g00222/laws.toInt64S -/
/-! loop.example/g00222/laws.toVip -/
/-! loop.example/g00222/laws.toVipS -/
/-! loop.example/g00222/laws.toConfig -/
/-! loop.example/g00222/laws.eqBackend -/
/-! loop.example/g00222/laws.eqBackendS -/
/-! loop.example/g00222/laws.eqInt64S -/
/-! loop.example/g00222/laws.eqVip -/
/-! loop.example/g00222/laws.eqVipS -/
/-! loop.example/g00222/laws.eqConfig -/
/-! loop.example/g00222/laws.toByteS -/
def ev23 : Env cxT := { Kc := kcOf [], Kw := kwOf [], lv := fun i => if i = 0 then [(0, [some 5]), (3, [some 5]), (4, [])] else [], xv := fun i => if i = 0 then some [(3, [some 5])] else none }
def S23_0 (a0 : (List Int)) (v0_3 : (List Int)) (v0_4 : Int) : St cxT.ty := { slots := [(.inl (.inl (ls { own := 0, nm := 0, e := 5, o := false, xs := a0 }))), junk, junk, (.inl (.inl (ls { own := 1, nm := 192, e := 5, o := true, xs := v0_3 }))), (.inl (.inl (lv (.int .i64 v0_4))))] ++ List.replicate 17 junk, D := [], F := [], ctr := 1 }
def X23_0 (a0 : (List Int)) (w0_3 : (List Int)) : St cxT.ty := { slots := [junk, junk, junk, (.inl (.inl (ls { own := 1, nm := 192, e := 5, o := true, xs := w0_3 })))] ++ List.replicate 18 junk, D := [], F := [], ctr := 1 }
theorem i23 (L : Nat) (a0 : (List Int)) : evF prog ev23 (loopN L) f23 (a23.enc a0) =
  bif (((decide ((0 : Int) ≤ (Nat.cast (List.length a0) : Int))) && (decide ((Nat.cast (List.length a0) : Int) ≤ (Nat.cast (List.length a0) : Int)))) && (decide ((Nat.cast (List.length a0) : Int) ≤ (1000000000 : Int)))) then headF prog ev23 L f23 0 [1, 1, 0, 1, 0, 0] (outK (outV prog f23) (topK prog ev23 L f23 [1, 1, 0, 1] (outV prog f23)).n (topK prog ev23 L f23 [1, 1, 0, 1] (outV prog f23)).x) L (S23_0 a0 (List.replicate (Int.toNat (Nat.cast (List.length a0) : Int)) (0 : Int)) (0 : Int))
  else none := by kernel_rfl
theorem r23_0 (L : Nat) (a0 : (List Int)) (k : St cxT.ty → Option (V cxT.ty)) (xk : Nat → St cxT.ty → Option (V cxT.ty)) (g : St cxT.ty → Option (V cxT.ty)) (v0_3 : (List Int)) (v0_4 : Int) : roundF prog ev23 L f23 0 [1, 1, 0, 1, 0, 0] (outK (outV prog f23) k xk) g (S23_0 a0 v0_3 v0_4) =
  bif (decide (v0_4 < (Nat.cast (List.length a0) : Int))) then bif ((decide ((0 : Int) ≤ v0_4)) && (decide (v0_4 < (Nat.cast (List.length a0) : Int)))) then bif ((decide ((0 : Int) ≤ v0_4)) && (decide (v0_4 < (Nat.cast (List.length v0_3) : Int)))) then g (S23_0 a0 (List.set v0_3 (Int.toNat v0_4) (List.getD a0 (Int.toNat v0_4) (0 : Int))) (Go.IntKind.wrap Go.IntKind.i64 (v0_4 + (1 : Int))))
      else none
    else none
  else k (X23_0 a0 v0_3) := by kernel_rfl
theorem t23_0 (L : Nat) (a0 : (List Int)) (w0_3 : (List Int)) : (topK prog ev23 L f23 [1, 1, 0, 1] (outV prog f23)).n (X23_0 a0 w0_3) =
  some (n23 w0_3) := by kernel_rfl
def l23_0 (L : Nat) (a0 : (List Int)) : Nat → (List Int) → Int → ((List Int) → Option (List Int)) → Option (List Int)
  | 0, _, _, _ => none
  | n + 1, v0_3, v0_4, k =>
    bif (decide (v0_4 < (Nat.cast (List.length a0) : Int))) then bif ((decide ((0 : Int) ≤ v0_4)) && (decide (v0_4 < (Nat.cast (List.length a0) : Int)))) then bif ((decide ((0 : Int) ≤ v0_4)) && (decide (v0_4 < (Nat.cast (List.length v0_3) : Int)))) then l23_0 L a0 n (List.set v0_3 (Int.toNat v0_4) (List.getD a0 (Int.toNat v0_4) (0 : Int))) (Go.IntKind.wrap Go.IntKind.i64 (v0_4 + (1 : Int))) k
        else none
      else none
    else k v0_3
theorem h23_0 (L : Nat) (a0 : (List Int)) (k : St cxT.ty → Option (V cxT.ty)) (xk : Nat → St cxT.ty → Option (V cxT.ty)) (k' : (List Int) → Option (List Int)) (hk : ∀ (w0_3 : (List Int)), k (X23_0 a0 w0_3) = (k' w0_3).map n23) : ∀ (n : Nat) (v0_3 : (List Int)) (v0_4 : Int), headF prog ev23 L f23 0 [1, 1, 0, 1, 0, 0] (outK (outV prog f23) k xk) n (S23_0 a0 v0_3 v0_4) = (l23_0 L a0 n v0_3 v0_4 k').map n23
  | 0, _, _ => rfl
  | n + 1, v0_3, v0_4 => by
    rw [headF_round, r23_0]
    have ih := h23_0 L a0 k xk k' hk n
    simp only [l23_0, map_bif, map_tst, map_bnd, Option.map_some, Option.map_none, ih, hk]
def g23 (L : Nat) (a0 : (List Int)) : Option (List Int) :=
  bif (((decide ((0 : Int) ≤ (Nat.cast (List.length a0) : Int))) && (decide ((Nat.cast (List.length a0) : Int) ≤ (Nat.cast (List.length a0) : Int)))) && (decide ((Nat.cast (List.length a0) : Int) ≤ (1000000000 : Int)))) then l23_0 L a0 L (List.replicate (Int.toNat (Nat.cast (List.length a0) : Int)) (0 : Int)) (0 : Int) (fun (w0_3 : (List Int)) => some w0_3)
  else none
theorem e23 (L : Nat) (a0 : (List Int)) : evF prog ev23 (loopN L) f23 (a23.enc a0) = (g23 L a0).map n23 := by
  let K'0 : (List Int) → Option (List Int) := (fun (w0_3 : (List Int)) => some w0_3)
  have hin0 : ∀ (v0_3 : (List Int)) (v0_4 : Int), headF prog ev23 L f23 0 [1, 1, 0, 1, 0, 0] (outK (outV prog f23) (topK prog ev23 L f23 [1, 1, 0, 1] (outV prog f23)).n (topK prog ev23 L f23 [1, 1, 0, 1] (outV prog f23)).x) L (S23_0 a0 v0_3 v0_4) = (l23_0 L a0 L v0_3 v0_4 K'0).map n23 := fun v0_3 v0_4 => h23_0 L a0 _ _ K'0 (fun w0_3 => by rw [t23_0]; simp only [K'0, map_bif, map_tst, map_bnd, Option.map_some, Option.map_none]) L v0_3 v0_4
  rw [i23]; simp only [g23, map_bif, map_tst, map_bnd, Option.map_some, Option.map_none, hin0, K'0]
theorem s23 (m : (List Int) → Option (List Int)) (hm : ∀ (x : (List Int)) t, m x = some t → ∃ L, g23 L x = some t) : Sat prog cxT 23 (c23 m) :=
  sat_t cxT_ok cxT_pok (by rfl) (fn := f23) rfl a23 n23 dd23 m ev23 kok_nil kwok_nil (fun L x => g23 L x) (fun L x => e23 L x) hm hs23
/-! loop.example/g00222/laws.eqByteS -/
def ev26 : Env cxT := { Kc := kcOf [], Kw := kwOf [], lv := fun i => if i = 0 then [(0, [some 5]), (1, [some 5]), (5, [])] else [], xv := fun i => if i = 0 then some [] else none }
def S26_0 (a0 : (List Int)) (a1 : (List Int)) (v0_5 : Int) : St cxT.ty := { slots := [(.inl (.inl (ls { own := 0, nm := 0, e := 5, o := false, xs := a0 }))), (.inl (.inl (ls { own := 0, nm := 0, e := 5, o := false, xs := a1 }))), junk, junk, junk, (.inl (.inl (lv (.int .i64 v0_5))))] ++ List.replicate 20 junk, D := [], F := [], ctr := 1 }
def X26_0 (a0 : (List Int)) (a1 : (List Int)) : St cxT.ty := { slots := [] ++ List.replicate 26 junk, D := [], F := [], ctr := 1 }
theorem i26 (L : Nat) (a0 : (List Int)) (a1 : (List Int)) : evF prog ev26 (loopN L) f26 (a26.enc (a0, a1)) =
  bif ((Nat.cast (List.length a0) : Int) != (Nat.cast (List.length a1) : Int)) then some (n26 Bool.false)
  else headF prog ev26 L f26 0 [1, 1, 0, 1, 0, 0] (outK (outV prog f26) (topK prog ev26 L f26 [1, 1, 0, 1] (outV prog f26)).n (topK prog ev26 L f26 [1, 1, 0, 1] (outV prog f26)).x) L (S26_0 a0 a1 (0 : Int)) := by kernel_rfl
theorem r26_0 (L : Nat) (a0 : (List Int)) (a1 : (List Int)) (k : St cxT.ty → Option (V cxT.ty)) (xk : Nat → St cxT.ty → Option (V cxT.ty)) (g : St cxT.ty → Option (V cxT.ty)) (v0_5 : Int) : roundF prog ev26 L f26 0 [1, 1, 0, 1, 0, 0] (outK (outV prog f26) k xk) g (S26_0 a0 a1 v0_5) =
  bif (decide (v0_5 < (Nat.cast (List.length a0) : Int))) then bif ((decide ((0 : Int) ≤ v0_5)) && (decide (v0_5 < (Nat.cast (List.length a0) : Int)))) then bif ((decide ((0 : Int) ≤ v0_5)) && (decide (v0_5 < (Nat.cast (List.length a1) : Int)))) then bif ((List.getD a0 (Int.toNat v0_5) (0 : Int)) != (List.getD a1 (Int.toNat v0_5) (0 : Int))) then some (n26 Bool.false)
        else g (S26_0 a0 a1 (Go.IntKind.wrap Go.IntKind.i64 (v0_5 + (1 : Int))))
      else none
    else none
  else k (X26_0 a0 a1) := by kernel_rfl
theorem t26_0 (L : Nat) (a0 : (List Int)) (a1 : (List Int)) : (topK prog ev26 L f26 [1, 1, 0, 1] (outV prog f26)).n (X26_0 a0 a1) =
  some (n26 Bool.true) := by kernel_rfl
def l26_0 (L : Nat) (a0 : (List Int)) (a1 : (List Int)) : Nat → Int → (Option Bool) → Option Bool
  | 0, _, _ => none
  | n + 1, v0_5, k =>
    bif (decide (v0_5 < (Nat.cast (List.length a0) : Int))) then bif ((decide ((0 : Int) ≤ v0_5)) && (decide (v0_5 < (Nat.cast (List.length a0) : Int)))) then bif ((decide ((0 : Int) ≤ v0_5)) && (decide (v0_5 < (Nat.cast (List.length a1) : Int)))) then bif ((List.getD a0 (Int.toNat v0_5) (0 : Int)) != (List.getD a1 (Int.toNat v0_5) (0 : Int))) then some Bool.false
          else l26_0 L a0 a1 n (Go.IntKind.wrap Go.IntKind.i64 (v0_5 + (1 : Int))) k
        else none
      else none
    else k
theorem h26_0 (L : Nat) (a0 : (List Int)) (a1 : (List Int)) (k : St cxT.ty → Option (V cxT.ty)) (xk : Nat → St cxT.ty → Option (V cxT.ty)) (k' : Option Bool) (hk : k (X26_0 a0 a1) = (k').map n26) : ∀ (n : Nat) (v0_5 : Int), headF prog ev26 L f26 0 [1, 1, 0, 1, 0, 0] (outK (outV prog f26) k xk) n (S26_0 a0 a1 v0_5) = (l26_0 L a0 a1 n v0_5 k').map n26
  | 0, _ => rfl
  | n + 1, v0_5 => by
    rw [headF_round, r26_0]
    have ih := h26_0 L a0 a1 k xk k' hk n
    simp only [l26_0, map_bif, map_tst, map_bnd, Option.map_some, Option.map_none, ih, hk]
def g26 (L : Nat) (a0 : (List Int)) (a1 : (List Int)) : Option Bool :=
  bif ((Nat.cast (List.length a0) : Int) != (Nat.cast (List.length a1) : Int)) then some Bool.false
  else l26_0 L a0 a1 L (0 : Int) (some Bool.true)
theorem e26 (L : Nat) (a0 : (List Int)) (a1 : (List Int)) : evF prog ev26 (loopN L) f26 (a26.enc (a0, a1)) = (g26 L a0 a1).map n26 := by
  let K'0 : Option Bool := (some Bool.true)
  have hin0 : ∀ (v0_5 : Int), headF prog ev26 L f26 0 [1, 1, 0, 1, 0, 0] (outK (outV prog f26) (topK prog ev26 L f26 [1, 1, 0, 1] (outV prog f26)).n (topK prog ev26 L f26 [1, 1, 0, 1] (outV prog f26)).x) L (S26_0 a0 a1 v0_5) = (l26_0 L a0 a1 L v0_5 K'0).map n26 := fun v0_5 => h26_0 L a0 a1 _ _ K'0 (by rw [t26_0]; simp only [K'0, map_bif, map_tst, map_bnd, Option.map_some, Option.map_none]) L v0_5
  rw [i26]; simp only [g26, map_bif, map_tst, map_bnd, Option.map_some, Option.map_none, hin0, K'0]
theorem s26 (m : ((List Int) × (List Int)) → Option Bool) (hm : ∀ (x : ((List Int) × (List Int))) t, m x = some t → ∃ L, g26 L x.1 x.2 = some t) : Sat prog cxT 26 (c26 m) :=
  sat_t cxT_ok cxT_pok (by rfl) (fn := f26) rfl a26 n26 dd26 m ev26 kok_nil kwok_nil (fun L x => g26 L x.1 x.2) (fun L x => e26 L x.1 x.2) hm hs26
/-! loop.example/g00222/laws.eqBytesResult -/
/-! loop.example/g00222/laws.markByteS -/
/-! loop.example/g00222/laws.markBytesResult -/
/-! loop.example/g00222/laws.heldByteS -/
/-! loop.example/g00222/laws.heldBytesResult -/
/-! loop.example/g00222/laws.markInt64S -/
def l84_0 (L : Nat) (a0 : (List Int)) (a1 : Int) : Nat → (List Int) → Int → Int → ((List Int) → Int → Option (Int × (List Int))) → Option (Int × (List Int))
  | 0, _, _, _, _ => none
  | n + 1, v0_0, v0_1, v0_5, k =>
    bif (decide (v0_5 < (Nat.cast (List.length v0_0) : Int))) then bif ((decide ((0 : Int) ≤ v0_5)) && (decide (v0_5 < (Nat.cast (List.length v0_0) : Int)))) then l84_0 L a0 a1 n (List.set v0_0 (Int.toNat v0_5) v0_1) (Go.IntKind.wrap Go.IntKind.i64 (v0_1 + (1 : Int))) (Go.IntKind.wrap Go.IntKind.i64 (v0_5 + (1 : Int))) k
      else none
    else k v0_0 v0_1
def g84 (L : Nat) (a0 : (List Int)) (a1 : Int) : Option (Int × (List Int)) :=
  l84_0 L a0 a1 L a0 a1 (0 : Int) (fun (w0_0 : (List Int)) (w0_1 : Int) => some (w0_1, w0_0))
/-! loop.example/g00222/laws.markBackendS -/
def l78_0 (L : Nat) (a0 : (List (Int × (Int × (Int × (Int × Bool)))))) (a1 : Int) : Nat → (List (Int × (Int × (Int × (Int × Bool))))) → Int → Int → ((List (Int × (Int × (Int × (Int × Bool))))) → Int → Option (Int × (List (Int × (Int × (Int × (Int × Bool))))))) → Option (Int × (List (Int × (Int × (Int × (Int × Bool))))))
  | 0, _, _, _, _ => none
  | n + 1, v0_0, v0_1, v0_5, k =>
    bif (decide (v0_5 < (Nat.cast (List.length v0_0) : Int))) then bnd (List.set v0_0 (Int.toNat v0_5) (v0_1, ((List.getD v0_0 (Int.toNat v0_5) ((0 : Int), ((0 : Int), ((0 : Int), ((0 : Int), Bool.false))))).2.1, ((List.getD v0_0 (Int.toNat v0_5) ((0 : Int), ((0 : Int), ((0 : Int), ((0 : Int), Bool.false))))).2.2.1, ((List.getD v0_0 (Int.toNat v0_5) ((0 : Int), ((0 : Int), ((0 : Int), ((0 : Int), Bool.false))))).2.2.2.1, (List.getD v0_0 (Int.toNat v0_5) ((0 : Int), ((0 : Int), ((0 : Int), ((0 : Int), Bool.false))))).2.2.2.2))))) fun s2_0 => bnd (List.set s2_0 (Int.toNat v0_5) ((List.getD s2_0 (Int.toNat v0_5) ((0 : Int), ((0 : Int), ((0 : Int), ((0 : Int), Bool.false))))).1, ((Go.IntKind.wrap Go.IntKind.i64 (v0_1 + (1 : Int))), ((List.getD s2_0 (Int.toNat v0_5) ((0 : Int), ((0 : Int), ((0 : Int), ((0 : Int), Bool.false))))).2.2.1, ((List.getD s2_0 (Int.toNat v0_5) ((0 : Int), ((0 : Int), ((0 : Int), ((0 : Int), Bool.false))))).2.2.2.1, (List.getD s2_0 (Int.toNat v0_5) ((0 : Int), ((0 : Int), ((0 : Int), ((0 : Int), Bool.false))))).2.2.2.2))))) fun s2_1 => bnd (List.set s2_1 (Int.toNat v0_5) ((List.getD s2_1 (Int.toNat v0_5) ((0 : Int), ((0 : Int), ((0 : Int), ((0 : Int), Bool.false))))).1, ((List.getD s2_1 (Int.toNat v0_5) ((0 : Int), ((0 : Int), ((0 : Int), ((0 : Int), Bool.false))))).2.1, ((Go.IntKind.wrap Go.IntKind.i64 ((Go.IntKind.wrap Go.IntKind.i64 (v0_1 + (1 : Int))) + (1 : Int))), ((List.getD s2_1 (Int.toNat v0_5) ((0 : Int), ((0 : Int), ((0 : Int), ((0 : Int), Bool.false))))).2.2.2.1, (List.getD s2_1 (Int.toNat v0_5) ((0 : Int), ((0 : Int), ((0 : Int), ((0 : Int), Bool.false))))).2.2.2.2))))) fun s2_2 => bnd (List.set s2_2 (Int.toNat v0_5) ((List.getD s2_2 (Int.toNat v0_5) ((0 : Int), ((0 : Int), ((0 : Int), ((0 : Int), Bool.false))))).1, ((List.getD s2_2 (Int.toNat v0_5) ((0 : Int), ((0 : Int), ((0 : Int), ((0 : Int), Bool.false))))).2.1, ((List.getD s2_2 (Int.toNat v0_5) ((0 : Int), ((0 : Int), ((0 : Int), ((0 : Int), Bool.false))))).2.2.1, ((Go.IntKind.wrap Go.IntKind.i64 ((Go.IntKind.wrap Go.IntKind.i64 ((Go.IntKind.wrap Go.IntKind.i64 (v0_1 + (1 : Int))) + (1 : Int))) + (1 : Int))), (List.getD s2_2 (Int.toNat v0_5) ((0 : Int), ((0 : Int), ((0 : Int), ((0 : Int), Bool.false))))).2.2.2.2))))) fun s2_3 => bif ((decide ((0 : Int) ≤ v0_5)) && (decide (v0_5 < (Nat.cast (List.length v0_0) : Int)))) then bif ((decide ((0 : Int) ≤ v0_5)) && (decide (v0_5 < (Nat.cast (List.length s2_0) : Int)))) then bif ((decide ((0 : Int) ≤ v0_5)) && (decide (v0_5 < (Nat.cast (List.length s2_1) : Int)))) then bif ((decide ((0 : Int) ≤ v0_5)) && (decide (v0_5 < (Nat.cast (List.length s2_2) : Int)))) then bif ((decide ((0 : Int) ≤ v0_5)) && (decide (v0_5 < (Nat.cast (List.length s2_3) : Int)))) then l78_0 L a0 a1 n (List.set s2_3 (Int.toNat v0_5) ((List.getD s2_3 (Int.toNat v0_5) ((0 : Int), ((0 : Int), ((0 : Int), ((0 : Int), Bool.false))))).1, ((List.getD s2_3 (Int.toNat v0_5) ((0 : Int), ((0 : Int), ((0 : Int), ((0 : Int), Bool.false))))).2.1, ((List.getD s2_3 (Int.toNat v0_5) ((0 : Int), ((0 : Int), ((0 : Int), ((0 : Int), Bool.false))))).2.2.1, ((List.getD s2_3 (Int.toNat v0_5) ((0 : Int), ((0 : Int), ((0 : Int), ((0 : Int), Bool.false))))).2.2.2.1, ((Int.tmod (Go.IntKind.wrap Go.IntKind.i64 ((Go.IntKind.wrap Go.IntKind.i64 ((Go.IntKind.wrap Go.IntKind.i64 ((Go.IntKind.wrap Go.IntKind.i64 (v0_1 + (1 : Int))) + (1 : Int))) + (1 : Int))) + (1 : Int))) (3 : Int)) == (0 : Int))))))) (Go.IntKind.wrap Go.IntKind.i64 ((Go.IntKind.wrap Go.IntKind.i64 ((Go.IntKind.wrap Go.IntKind.i64 ((Go.IntKind.wrap Go.IntKind.i64 ((Go.IntKind.wrap Go.IntKind.i64 (v0_1 + (1 : Int))) + (1 : Int))) + (1 : Int))) + (1 : Int))) + (1 : Int))) (Go.IntKind.wrap Go.IntKind.i64 (v0_5 + (1 : Int))) k
              else none
            else none
          else none
        else none
      else none
    else k v0_0 v0_1
def g78 (L : Nat) (a0 : (List (Int × (Int × (Int × (Int × Bool)))))) (a1 : Int) : Option (Int × (List (Int × (Int × (Int × (Int × Bool)))))) :=
  l78_0 L a0 a1 L a0 a1 (0 : Int) (fun (w0_0 : (List (Int × (Int × (Int × (Int × Bool)))))) (w0_1 : Int) => some (w0_1, w0_0))
/-! loop.example/g00222/laws.markVipS -/
def l79_0 (m84 : ((List Int) × Int) → Option (Int × (List Int))) (L : Nat) (a0 : (List (Int × (Int × (Int × (List Int)))))) (a1 : Int) : Nat → (List (Int × (Int × (Int × (List Int))))) → Int → Int → ((List (Int × (Int × (Int × (List Int))))) → Int → Option (Int × (List (Int × (Int × (Int × (List Int))))))) → Option (Int × (List (Int × (Int × (Int × (List Int))))))
  | 0, _, _, _, _ => none
  | n + 1, v0_0, v0_1, v0_5, k =>
    bif (decide (v0_5 < (Nat.cast (List.length v0_0) : Int))) then bnd (List.set v0_0 (Int.toNat v0_5) (v0_1, ((List.getD v0_0 (Int.toNat v0_5) ((0 : Int), ((0 : Int), ((0 : Int), ([] : List (Int)))))).2.1, ((List.getD v0_0 (Int.toNat v0_5) ((0 : Int), ((0 : Int), ((0 : Int), ([] : List (Int)))))).2.2.1, (List.getD v0_0 (Int.toNat v0_5) ((0 : Int), ((0 : Int), ((0 : Int), ([] : List (Int)))))).2.2.2)))) fun s2_0 => bnd (List.set s2_0 (Int.toNat v0_5) ((List.getD s2_0 (Int.toNat v0_5) ((0 : Int), ((0 : Int), ((0 : Int), ([] : List (Int)))))).1, ((Go.IntKind.wrap Go.IntKind.i64 (v0_1 + (1 : Int))), ((List.getD s2_0 (Int.toNat v0_5) ((0 : Int), ((0 : Int), ((0 : Int), ([] : List (Int)))))).2.2.1, (List.getD s2_0 (Int.toNat v0_5) ((0 : Int), ((0 : Int), ((0 : Int), ([] : List (Int)))))).2.2.2)))) fun s2_1 => bnd (List.set s2_1 (Int.toNat v0_5) ((List.getD s2_1 (Int.toNat v0_5) ((0 : Int), ((0 : Int), ((0 : Int), ([] : List (Int)))))).1, ((List.getD s2_1 (Int.toNat v0_5) ((0 : Int), ((0 : Int), ((0 : Int), ([] : List (Int)))))).2.1, ((Go.IntKind.wrap Go.IntKind.i64 ((Go.IntKind.wrap Go.IntKind.i64 (v0_1 + (1 : Int))) + (1 : Int))), (List.getD s2_1 (Int.toNat v0_5) ((0 : Int), ((0 : Int), ((0 : Int), ([] : List (Int)))))).2.2.2)))) fun s2_2 => bif ((decide ((0 : Int) ≤ v0_5)) && (decide (v0_5 < (Nat.cast (List.length v0_0) : Int)))) then bif ((decide ((0 : Int) ≤ v0_5)) && (decide (v0_5 < (Nat.cast (List.length s2_0) : Int)))) then bif ((decide ((0 : Int) ≤ v0_5)) && (decide (v0_5 < (Nat.cast (List.length s2_1) : Int)))) then bif ((decide ((0 : Int) ≤ v0_5)) && (decide (v0_5 < (Nat.cast (List.length s2_2) : Int)))) then tst (m84 ((List.getD s2_2 (Int.toNat v0_5) ((0 : Int), ((0 : Int), ((0 : Int), ([] : List (Int)))))).2.2.2, (Go.IntKind.wrap Go.IntKind.i64 ((Go.IntKind.wrap Go.IntKind.i64 ((Go.IntKind.wrap Go.IntKind.i64 (v0_1 + (1 : Int))) + (1 : Int))) + (1 : Int))))) ((0 : Int), []) fun (q7 : (Int × (List Int))) => l79_0 m84 L a0 a1 n (List.set s2_2 (Int.toNat v0_5) ((List.getD s2_2 (Int.toNat v0_5) ((0 : Int), ((0 : Int), ((0 : Int), ([] : List (Int)))))).1, ((List.getD s2_2 (Int.toNat v0_5) ((0 : Int), ((0 : Int), ((0 : Int), ([] : List (Int)))))).2.1, ((List.getD s2_2 (Int.toNat v0_5) ((0 : Int), ((0 : Int), ((0 : Int), ([] : List (Int)))))).2.2.1, q7.2)))) q7.1 (Go.IntKind.wrap Go.IntKind.i64 (v0_5 + (1 : Int))) k
            else none
          else none
        else none
      else none
    else k v0_0 v0_1
def g79 (m84 : ((List Int) × Int) → Option (Int × (List Int))) (L : Nat) (a0 : (List (Int × (Int × (Int × (List Int)))))) (a1 : Int) : Option (Int × (List (Int × (Int × (Int × (List Int)))))) :=
  l79_0 m84 L a0 a1 L a0 a1 (0 : Int) (fun (w0_0 : (List (Int × (Int × (Int × (List Int)))))) (w0_1 : Int) => some (w0_1, w0_0))
/-! loop.example/g00222/laws.markConfig -/
def g32 (m78 : ((List (Int × (Int × (Int × (Int × Bool))))) × Int) → Option (Int × (List (Int × (Int × (Int × (Int × Bool))))))) (m79 : ((List (Int × (Int × (Int × (List Int))))) × Int) → Option (Int × (List (Int × (Int × (Int × (List Int))))))) (L : Nat) (a0_0 : Int) (a0_1 : (List (Int × (Int × (Int × (Int × Bool)))))) (a0_2 : (List (Int × (Int × (Int × (List Int)))))) (a1 : Int) : Option (Int × Int × (List (Int × (Int × (Int × (Int × Bool))))) × (List (Int × (Int × (Int × (List Int)))))) :=
  tst (m78 (a0_1, a1)) ((0 : Int), []) fun (q1 : (Int × (List (Int × (Int × (Int × (Int × Bool))))))) => tst (m79 (a0_2, q1.1)) ((0 : Int), []) fun (q2 : (Int × (List (Int × (Int × (Int × (List Int))))))) => some (q2.1, a0_0, q1.2, q2.2)
end Go.Proofs.Try

set_option maxHeartbeats 0
set_option maxRecDepth 100000
set_option linter.unusedVariables false
set_option linter.unusedSimpArgs false
namespace Go.Proofs.Try
open Go Go.VM Go.RowKit
/-! loop.example/g00222/spec.l1In -/
def ev105 : Env cxT := { Kc := kcOf [], Kw := kwOf [], lv := fun i => [], xv := fun i => none }
theorem i105 (L : Nat) (a0 : Int) (a1 : Int) (a2 : Int) : evF prog ev105 (loopN L) f105 (a105.enc (a0, a1, a2)) =
  bif (decide (a0 ≥ a1)) then some (n105 (decide (a0 ≤ a2)))
  else some (n105 Bool.false) := by kernel_rfl
def g105 (L : Nat) (a0 : Int) (a1 : Int) (a2 : Int) : Option Bool :=
  bif (decide (a0 ≥ a1)) then some (decide (a0 ≤ a2))
  else some Bool.false
theorem e105 (L : Nat) (a0 : Int) (a1 : Int) (a2 : Int) : evF prog ev105 (loopN L) f105 (a105.enc (a0, a1, a2)) = (g105 L a0 a1 a2).map n105 := by
  rw [i105]; simp only [g105, map_bif, map_tst, map_bnd, Option.map_some, Option.map_none]
theorem s105 (m : (Int × Int × Int) → Option Bool) (hm : ∀ (x : (Int × Int × Int)) t, m x = some t → ∃ L, g105 L x.1 x.2.1 x.2.2 = some t) : Sat prog cxT 105 (c105 m) :=
  sat_t cxT_ok cxT_pok (by rfl) (fn := f105) rfl a105 n105 dd105 m ev105 kok_nil kwok_nil (fun L x => g105 L x.1 x.2.1 x.2.2) (fun L x => e105 L x.1 x.2.1 x.2.2) hm hs105
/-! loop.example/g00222/spec.l3Name -/
def ev106 (m105 : (Int × Int × Int) → Option Bool) : Env cxT := { Kc := kcOf [(105, c105 m105)], Kw := kwOf [], lv := fun i => [], xv := fun i => none }
theorem i106 (m105 : (Int × Int × Int) → Option Bool) (L : Nat) (a0 : Int) : evF prog (ev106 m105) (loopN L) f106 (a106.enc a0) =
  tst (m105 (a0, ((1 : Int), (999 : Int)))) false fun (q1 : Bool) => some (n106 q1) := by kernel_rfl
def g106 (m105 : (Int × Int × Int) → Option Bool) (L : Nat) (a0 : Int) : Option Bool :=
  tst (m105 (a0, ((1 : Int), (999 : Int)))) false fun (q1 : Bool) => some q1
theorem e106 (m105 : (Int × Int × Int) → Option Bool) (L : Nat) (a0 : Int) : evF prog (ev106 m105) (loopN L) f106 (a106.enc a0) = (g106 m105 L a0).map n106 := by
  rw [i106]; simp only [g106, map_bif, map_tst, map_bnd, Option.map_some, Option.map_none]
theorem s106 (m105 : (Int × Int × Int) → Option Bool) (h105 : Sat prog cxT 105 (c105 m105)) (m : Int → Option Bool) (hm : ∀ (x : Int) t, m x = some t → ∃ L, g106 m105 L x = some t) : Sat prog cxT 106 (c106 m) :=
  sat_t cxT_ok cxT_pok (by rfl) (fn := f106) rfl a106 n106 dd106 m (ev106 m105) (kok_cons h105 kok_nil) kwok_nil (fun L x => g106 m105 L x) (fun L x => e106 m105 L x) hm hs106
/-! loop.example/g00222/spec.l2Address -/
def ev107 (m105 : (Int × Int × Int) → Option Bool) : Env cxT := { Kc := kcOf [(105, c105 m105)], Kw := kwOf [], lv := fun i => [], xv := fun i => none }
theorem i107 (m105 : (Int × Int × Int) → Option Bool) (L : Nat) (a0 : Int) : evF prog (ev107 m105) (loopN L) f107 (a107.enc a0) =
  tst (m105 (a0, ((0 : Int), (4294967295 : Int)))) false fun (q1 : Bool) => some (n107 q1) := by kernel_rfl
def g107 (m105 : (Int × Int × Int) → Option Bool) (L : Nat) (a0 : Int) : Option Bool :=
  tst (m105 (a0, ((0 : Int), (4294967295 : Int)))) false fun (q1 : Bool) => some q1
theorem e107 (m105 : (Int × Int × Int) → Option Bool) (L : Nat) (a0 : Int) : evF prog (ev107 m105) (loopN L) f107 (a107.enc a0) = (g107 m105 L a0).map n107 := by
  rw [i107]; simp only [g107, map_bif, map_tst, map_bnd, Option.map_some, Option.map_none]
theorem s107 (m105 : (Int × Int × Int) → Option Bool) (h105 : Sat prog cxT 105 (c105 m105)) (m : Int → Option Bool) (hm : ∀ (x : Int) t, m x = some t → ∃ L, g107 m105 L x = some t) : Sat prog cxT 107 (c107 m) :=
  sat_t cxT_ok cxT_pok (by rfl) (fn := f107) rfl a107 n107 dd107 m (ev107 m105) (kok_cons h105 kok_nil) kwok_nil (fun L x => g107 m105 L x) (fun L x => e107 m105 L x) hm hs107
/-! loop.example/g00222/spec.l5Proto -/
def ev109 : Env cxT := { Kc := kcOf [], Kw := kwOf [], lv := fun i => [], xv := fun i => none }
theorem i109 (L : Nat) (a0 : Int) : evF prog ev109 (loopN L) f109 (a109.enc a0) =
  bif (a0 == (6 : Int)) then some (n109 Bool.true)
  else some (n109 (a0 == (17 : Int))) := by kernel_rfl
def g109 (L : Nat) (a0 : Int) : Option Bool :=
  bif (a0 == (6 : Int)) then some Bool.true
  else some (a0 == (17 : Int))
theorem e109 (L : Nat) (a0 : Int) : evF prog ev109 (loopN L) f109 (a109.enc a0) = (g109 L a0).map n109 := by
  rw [i109]; simp only [g109, map_bif, map_tst, map_bnd, Option.map_some, Option.map_none]
theorem s109 (m : Int → Option Bool) (hm : ∀ (x : Int) t, m x = some t → ∃ L, g109 L x = some t) : Sat prog cxT 109 (c109 m) :=
  sat_t cxT_ok cxT_pok (by rfl) (fn := f109) rfl a109 n109 dd109 m ev109 kok_nil kwok_nil (fun L x => g109 L x) (fun L x => e109 L x) hm hs109
/-! loop.example/g00222/spec.l2Port -/
def ev150 (m105 : (Int × Int × Int) → Option Bool) : Env cxT := { Kc := kcOf [(105, c105 m105)], Kw := kwOf [], lv := fun i => [], xv := fun i => none }
theorem i150 (m105 : (Int × Int × Int) → Option Bool) (L : Nat) (a0 : Int) : evF prog (ev150 m105) (loopN L) f150 (a150.enc a0) =
  tst (m105 (a0, ((0 : Int), (65535 : Int)))) false fun (q1 : Bool) => some (n150 q1) := by kernel_rfl
def g150 (m105 : (Int × Int × Int) → Option Bool) (L : Nat) (a0 : Int) : Option Bool :=
  tst (m105 (a0, ((0 : Int), (65535 : Int)))) false fun (q1 : Bool) => some q1
theorem e150 (m105 : (Int × Int × Int) → Option Bool) (L : Nat) (a0 : Int) : evF prog (ev150 m105) (loopN L) f150 (a150.enc a0) = (g150 m105 L a0).map n150 := by
  rw [i150]; simp only [g150, map_bif, map_tst, map_bnd, Option.map_some, Option.map_none]
theorem s150 (m105 : (Int × Int × Int) → Option Bool) (h105 : Sat prog cxT 105 (c105 m105)) (m : Int → Option Bool) (hm : ∀ (x : Int) t, m x = some t → ∃ L, g150 m105 L x = some t) : Sat prog cxT 150 (c150 m) :=
  sat_t cxT_ok cxT_pok (by rfl) (fn := f150) rfl a150 n150 dd150 m (ev150 m105) (kok_cons h105 kok_nil) kwok_nil (fun L x => g150 m105 L x) (fun L x => e150 m105 L x) hm hs150
/-! loop.example/g00222/spec.l5Behind -/
/-! loop.example/g00222/spec.l5Version -/
def ev99 (m105 : (Int × Int × Int) → Option Bool) : Env cxT := { Kc := kcOf [(105, c105 m105)], Kw := kwOf [], lv := fun i => [], xv := fun i => none }
theorem i99 (m105 : (Int × Int × Int) → Option Bool) (L : Nat) (a0 : Int) : evF prog (ev99 m105) (loopN L) f99 (a99.enc a0) =
  tst (m105 (a0, ((0 : Int), (1000000 : Int)))) false fun (q1 : Bool) => some (n99 q1) := by kernel_rfl
def g99 (m105 : (Int × Int × Int) → Option Bool) (L : Nat) (a0 : Int) : Option Bool :=
  tst (m105 (a0, ((0 : Int), (1000000 : Int)))) false fun (q1 : Bool) => some q1
theorem e99 (m105 : (Int × Int × Int) → Option Bool) (L : Nat) (a0 : Int) : evF prog (ev99 m105) (loopN L) f99 (a99.enc a0) = (g99 m105 L a0).map n99 := by
  rw [i99]; simp only [g99, map_bif, map_tst, map_bnd, Option.map_some, Option.map_none]
theorem s99 (m105 : (Int × Int × Int) → Option Bool) (h105 : Sat prog cxT 105 (c105 m105)) (m : Int → Option Bool) (hm : ∀ (x : Int) t, m x = some t → ∃ L, g99 m105 L x = some t) : Sat prog cxT 99 (c99 m) :=
  sat_t cxT_ok cxT_pok (by rfl) (fn := f99) rfl a99 n99 dd99 m (ev99 m105) (kok_cons h105 kok_nil) kwok_nil (fun L x => g99 m105 L x) (fun L x => e99 m105 L x) hm hs99
/-! loop.example/g00222/spec.l5Backend -/
/-! loop.example/g00222/spec.l5At -/
/-! loop.example/g00222/spec.l5Vip -/
/-! loop.example/g00222/spec.l5Fault -/
/-! loop.example/g00222/impl.isName -/
def ev131 : Env cxT := { Kc := kcOf [], Kw := kwOf [], lv := fun i => [], xv := fun i => none }
theorem i131 (L : Nat) (a0 : Int) : evF prog ev131 (loopN L) f131 (a131.enc a0) =
  bif (decide (a0 ≥ (1 : Int))) then some (n131 (decide (a0 ≤ (999 : Int))))
  else some (n131 Bool.false) := by kernel_rfl
def g131 (L : Nat) (a0 : Int) : Option Bool :=
  bif (decide (a0 ≥ (1 : Int))) then some (decide (a0 ≤ (999 : Int)))
  else some Bool.false
theorem e131 (L : Nat) (a0 : Int) : evF prog ev131 (loopN L) f131 (a131.enc a0) = (g131 L a0).map n131 := by
  rw [i131]; simp only [g131, map_bif, map_tst, map_bnd, Option.map_some, Option.map_none]
theorem s131 (m : Int → Option Bool) (hm : ∀ (x : Int) t, m x = some t → ∃ L, g131 L x = some t) : Sat prog cxT 131 (c131 m) :=
  sat_t cxT_ok cxT_pok (by rfl) (fn := f131) rfl a131 n131 dd131 m ev131 kok_nil kwok_nil (fun L x => g131 L x) (fun L x => e131 L x) hm hs131
/-! loop.example/g00222/impl.isAddress -/
def ev132 : Env cxT := { Kc := kcOf [], Kw := kwOf [], lv := fun i => [], xv := fun i => none }
theorem i132 (L : Nat) (a0 : Int) : evF prog ev132 (loopN L) f132 (a132.enc a0) =
  bif (decide (a0 ≥ (0 : Int))) then some (n132 (decide (a0 ≤ (4294967295 : Int))))
  else some (n132 Bool.false) := by kernel_rfl
def g132 (L : Nat) (a0 : Int) : Option Bool :=
  bif (decide (a0 ≥ (0 : Int))) then some (decide (a0 ≤ (4294967295 : Int)))
  else some Bool.false
theorem e132 (L : Nat) (a0 : Int) : evF prog ev132 (loopN L) f132 (a132.enc a0) = (g132 L a0).map n132 := by
  rw [i132]; simp only [g132, map_bif, map_tst, map_bnd, Option.map_some, Option.map_none]
theorem s132 (m : Int → Option Bool) (hm : ∀ (x : Int) t, m x = some t → ∃ L, g132 L x = some t) : Sat prog cxT 132 (c132 m) :=
  sat_t cxT_ok cxT_pok (by rfl) (fn := f132) rfl a132 n132 dd132 m ev132 kok_nil kwok_nil (fun L x => g132 L x) (fun L x => e132 L x) hm hs132
/-! loop.example/g00222/impl.isWeight -/
def ev133 : Env cxT := { Kc := kcOf [], Kw := kwOf [], lv := fun i => [], xv := fun i => none }
theorem i133 (L : Nat) (a0 : Int) : evF prog ev133 (loopN L) f133 (a133.enc a0) =
  bif (decide (a0 ≥ (0 : Int))) then some (n133 (decide (a0 ≤ (9 : Int))))
  else some (n133 Bool.false) := by kernel_rfl
def g133 (L : Nat) (a0 : Int) : Option Bool :=
  bif (decide (a0 ≥ (0 : Int))) then some (decide (a0 ≤ (9 : Int)))
  else some Bool.false
theorem e133 (L : Nat) (a0 : Int) : evF prog ev133 (loopN L) f133 (a133.enc a0) = (g133 L a0).map n133 := by
  rw [i133]; simp only [g133, map_bif, map_tst, map_bnd, Option.map_some, Option.map_none]
theorem s133 (m : Int → Option Bool) (hm : ∀ (x : Int) t, m x = some t → ∃ L, g133 L x = some t) : Sat prog cxT 133 (c133 m) :=
  sat_t cxT_ok cxT_pok (by rfl) (fn := f133) rfl a133 n133 dd133 m ev133 kok_nil kwok_nil (fun L x => g133 L x) (fun L x => e133 L x) hm hs133
/-! loop.example/g00222/impl.isStage -/
def ev134 : Env cxT := { Kc := kcOf [], Kw := kwOf [], lv := fun i => [], xv := fun i => none }
theorem i134 (L : Nat) (a0 : Int) : evF prog ev134 (loopN L) f134 (a134.enc a0) =
  bif (decide (a0 ≥ (1 : Int))) then some (n134 (decide (a0 ≤ (3 : Int))))
  else some (n134 Bool.false) := by kernel_rfl
def g134 (L : Nat) (a0 : Int) : Option Bool :=
  bif (decide (a0 ≥ (1 : Int))) then some (decide (a0 ≤ (3 : Int)))
  else some Bool.false
theorem e134 (L : Nat) (a0 : Int) : evF prog ev134 (loopN L) f134 (a134.enc a0) = (g134 L a0).map n134 := by
  rw [i134]; simp only [g134, map_bif, map_tst, map_bnd, Option.map_some, Option.map_none]
theorem s134 (m : Int → Option Bool) (hm : ∀ (x : Int) t, m x = some t → ∃ L, g134 L x = some t) : Sat prog cxT 134 (c134 m) :=
  sat_t cxT_ok cxT_pok (by rfl) (fn := f134) rfl a134 n134 dd134 m ev134 kok_nil kwok_nil (fun L x => g134 L x) (fun L x => e134 L x) hm hs134
/-! loop.example/g00222/impl.isPort -/
def ev135 : Env cxT := { Kc := kcOf [], Kw := kwOf [], lv := fun i => [], xv := fun i => none }
theorem i135 (L : Nat) (a0 : Int) : evF prog ev135 (loopN L) f135 (a135.enc a0) =
  bif (decide (a0 ≥ (0 : Int))) then some (n135 (decide (a0 ≤ (65535 : Int))))
  else some (n135 Bool.false) := by kernel_rfl
def g135 (L : Nat) (a0 : Int) : Option Bool :=
  bif (decide (a0 ≥ (0 : Int))) then some (decide (a0 ≤ (65535 : Int)))
  else some Bool.false
theorem e135 (L : Nat) (a0 : Int) : evF prog ev135 (loopN L) f135 (a135.enc a0) = (g135 L a0).map n135 := by
  rw [i135]; simp only [g135, map_bif, map_tst, map_bnd, Option.map_some, Option.map_none]
theorem s135 (m : Int → Option Bool) (hm : ∀ (x : Int) t, m x = some t → ∃ L, g135 L x = some t) : Sat prog cxT 135 (c135 m) :=
  sat_t cxT_ok cxT_pok (by rfl) (fn := f135) rfl a135 n135 dd135 m ev135 kok_nil kwok_nil (fun L x => g135 L x) (fun L x => e135 L x) hm hs135
/-! loop.example/g00222/impl.isProto -/
def ev136 : Env cxT := { Kc := kcOf [], Kw := kwOf [], lv := fun i => [], xv := fun i => none }
theorem i136 (L : Nat) (a0 : Int) : evF prog ev136 (loopN L) f136 (a136.enc a0) =
  bif (a0 == (6 : Int)) then some (n136 Bool.true)
  else some (n136 (a0 == (17 : Int))) := by kernel_rfl
def g136 (L : Nat) (a0 : Int) : Option Bool :=
  bif (a0 == (6 : Int)) then some Bool.true
  else some (a0 == (17 : Int))
theorem e136 (L : Nat) (a0 : Int) : evF prog ev136 (loopN L) f136 (a136.enc a0) = (g136 L a0).map n136 := by
  rw [i136]; simp only [g136, map_bif, map_tst, map_bnd, Option.map_some, Option.map_none]
theorem s136 (m : Int → Option Bool) (hm : ∀ (x : Int) t, m x = some t → ∃ L, g136 L x = some t) : Sat prog cxT 136 (c136 m) :=
  sat_t cxT_ok cxT_pok (by rfl) (fn := f136) rfl a136 n136 dd136 m ev136 kok_nil kwok_nil (fun L x => g136 L x) (fun L x => e136 L x) hm hs136
/-! loop.example/g00222/impl.isVersion -/
def ev91 : Env cxT := { Kc := kcOf [], Kw := kwOf [], lv := fun i => [], xv := fun i => none }
theorem i91 (L : Nat) (a0 : Int) : evF prog ev91 (loopN L) f91 (a91.enc a0) =
  bif (decide (a0 ≥ (0 : Int))) then some (n91 (decide (a0 ≤ (1000000 : Int))))
  else some (n91 Bool.false) := by kernel_rfl
def g91 (L : Nat) (a0 : Int) : Option Bool :=
  bif (decide (a0 ≥ (0 : Int))) then some (decide (a0 ≤ (1000000 : Int)))
  else some Bool.false
theorem e91 (L : Nat) (a0 : Int) : evF prog ev91 (loopN L) f91 (a91.enc a0) = (g91 L a0).map n91 := by
  rw [i91]; simp only [g91, map_bif, map_tst, map_bnd, Option.map_some, Option.map_none]
theorem s91 (m : Int → Option Bool) (hm : ∀ (x : Int) t, m x = some t → ∃ L, g91 L x = some t) : Sat prog cxT 91 (c91 m) :=
  sat_t cxT_ok cxT_pok (by rfl) (fn := f91) rfl a91 n91 dd91 m ev91 kok_nil kwok_nil (fun L x => g91 L x) (fun L x => e91 L x) hm hs91
/-! loop.example/g00222/impl.isBackend -/
/-! loop.example/g00222/impl.isServed -/
/-! cmp.isNaN[int64] -/
/-! cmp.Compare[int64] -/
/-! cmp.Or[int] -/
/-! loop.example/g00222/impl.compareVips -/
/-! loop.example/g00222/impl.backendPlace$1 -/
/-! slices.BinarySearchFunc[[]loop.example/g00222/impl.Backend,loop.example/g00222/impl.Backend,int64] -/
/-! loop.example/g00222/impl.backendPlace -/
/-! loop.example/g00222/impl.vipPlace -/
/-! slices.BinarySearchFunc[[]loop.example/g00222/impl.Vip,loop.example/g00222/impl.Vip,loop.example/g00222/impl.Vip] -/
/-! loop.example/g00222/impl.namesFault -/
/-! loop.example/g00222/impl.ConfigFault -/
end Go.Proofs.Try
