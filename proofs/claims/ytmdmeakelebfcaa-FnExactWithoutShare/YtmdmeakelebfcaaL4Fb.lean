/- A part of the proof of FnExactWithoutShare: L4Fb. -/
import Derived.Test.YtmdmeakelebfcaaL4Con
set_option maxHeartbeats 0
set_option linter.unusedVariables false
set_option linter.unusedSimpArgs false
namespace Go.Proofs.Try
open Go Go.VM Go.RowKit
/-! loop.example/g00222/laws.toShareS -/
def ev25 (m55 : (Int × Int) → Option (Int × Int)) : Env cxT := { Kc := kcOf [(55, c55 m55)], Kw := kwOf [], lv := fun i => if i = 0 then [(0, [some 77]), (3, [some 31]), (4, [])] else [], xv := fun i => if i = 0 then some [(3, [some 31])] else none }
def S25_0 (a0 : (List (Int × Int))) (v0_3 : (List (Int × Int))) (v0_4 : Int) : St cxT.ty := { slots := [(.inl (.inl (ls { own := 0, nm := 0, e := 77, o := false, xs := a0 }))), junk, junk, (.inl (.inl (ls { own := 1, nm := 192, e := 31, o := true, xs := v0_3 }))), (.inl (.inl (lv (.int .i64 v0_4))))] ++ List.replicate 18 junk, D := [], F := [], ctr := 1 }
def X25_0 (a0 : (List (Int × Int))) (w0_3 : (List (Int × Int))) : St cxT.ty := { slots := [junk, junk, junk, (.inl (.inl (ls { own := 1, nm := 192, e := 31, o := true, xs := w0_3 })))] ++ List.replicate 19 junk, D := [], F := [], ctr := 1 }
theorem i25 (m55 : (Int × Int) → Option (Int × Int)) (L : Nat) (a0 : (List (Int × Int))) : evF prog (ev25 m55) (loopN L) f25 (a25.enc a0) =
  bif (((decide ((0 : Int) ≤ (Nat.cast (List.length a0) : Int))) && (decide ((Nat.cast (List.length a0) : Int) ≤ (Nat.cast (List.length a0) : Int)))) && (decide ((Nat.cast (List.length a0) : Int) ≤ (1000000000 : Int)))) then headF prog (ev25 m55) L f25 0 [1, 1, 0, 1, 0, 0] (outK (outV prog f25) (topK prog (ev25 m55) L f25 [1, 1, 0, 1] (outV prog f25)).n (topK prog (ev25 m55) L f25 [1, 1, 0, 1] (outV prog f25)).x) L (S25_0 a0 (List.replicate (Int.toNat (Nat.cast (List.length a0) : Int)) ((0 : Int), (0 : Int))) (0 : Int))
  else none := by kernel_rfl
theorem r25_0 (m55 : (Int × Int) → Option (Int × Int)) (L : Nat) (a0 : (List (Int × Int))) (k : St cxT.ty → Option (V cxT.ty)) (xk : Nat → St cxT.ty → Option (V cxT.ty)) (g : St cxT.ty → Option (V cxT.ty)) (v0_3 : (List (Int × Int))) (v0_4 : Int) : roundF prog (ev25 m55) L f25 0 [1, 1, 0, 1, 0, 0] (outK (outV prog f25) k xk) g (S25_0 a0 v0_3 v0_4) =
  bif (decide (v0_4 < (Nat.cast (List.length a0) : Int))) then bif ((decide ((0 : Int) ≤ v0_4)) && (decide (v0_4 < (Nat.cast (List.length a0) : Int)))) then tst (m55 ((List.getD a0 (Int.toNat v0_4) ((0 : Int), (0 : Int))).1, (List.getD a0 (Int.toNat v0_4) ((0 : Int), (0 : Int))).2)) ((0 : Int), (0 : Int)) fun (q3 : (Int × Int)) => bif ((decide ((0 : Int) ≤ v0_4)) && (decide (v0_4 < (Nat.cast (List.length v0_3) : Int)))) then g (S25_0 a0 (List.set v0_3 (Int.toNat v0_4) (q3.1, q3.2)) (Go.IntKind.wrap Go.IntKind.i64 (v0_4 + (1 : Int))))
        else none
    else none
  else k (X25_0 a0 v0_3) := by kernel_rfl
theorem t25_0 (m55 : (Int × Int) → Option (Int × Int)) (L : Nat) (a0 : (List (Int × Int))) (w0_3 : (List (Int × Int))) : (topK prog (ev25 m55) L f25 [1, 1, 0, 1] (outV prog f25)).n (X25_0 a0 w0_3) =
  some (n25 w0_3) := by kernel_rfl
def l25_0 (m55 : (Int × Int) → Option (Int × Int)) (L : Nat) (a0 : (List (Int × Int))) : Nat → (List (Int × Int)) → Int → ((List (Int × Int)) → Option (List (Int × Int))) → Option (List (Int × Int))
  | 0, _, _, _ => none
  | n + 1, v0_3, v0_4, k =>
    bif (decide (v0_4 < (Nat.cast (List.length a0) : Int))) then bif ((decide ((0 : Int) ≤ v0_4)) && (decide (v0_4 < (Nat.cast (List.length a0) : Int)))) then tst (m55 ((List.getD a0 (Int.toNat v0_4) ((0 : Int), (0 : Int))).1, (List.getD a0 (Int.toNat v0_4) ((0 : Int), (0 : Int))).2)) ((0 : Int), (0 : Int)) fun (q4 : (Int × Int)) => bif ((decide ((0 : Int) ≤ v0_4)) && (decide (v0_4 < (Nat.cast (List.length v0_3) : Int)))) then l25_0 m55 L a0 n (List.set v0_3 (Int.toNat v0_4) (q4.1, q4.2)) (Go.IntKind.wrap Go.IntKind.i64 (v0_4 + (1 : Int))) k
          else none
      else none
    else k v0_3
theorem h25_0 (m55 : (Int × Int) → Option (Int × Int)) (L : Nat) (a0 : (List (Int × Int))) (k : St cxT.ty → Option (V cxT.ty)) (xk : Nat → St cxT.ty → Option (V cxT.ty)) (k' : (List (Int × Int)) → Option (List (Int × Int))) (hk : ∀ (w0_3 : (List (Int × Int))), k (X25_0 a0 w0_3) = (k' w0_3).map n25) : ∀ (n : Nat) (v0_3 : (List (Int × Int))) (v0_4 : Int), headF prog (ev25 m55) L f25 0 [1, 1, 0, 1, 0, 0] (outK (outV prog f25) k xk) n (S25_0 a0 v0_3 v0_4) = (l25_0 m55 L a0 n v0_3 v0_4 k').map n25
  | 0, _, _ => rfl
  | n + 1, v0_3, v0_4 => by
    rw [headF_round, r25_0]
    have ih := h25_0 m55 L a0 k xk k' hk n
    simp only [l25_0, map_bif, map_tst, Option.map_some, Option.map_none, ih, hk]
def g25 (m55 : (Int × Int) → Option (Int × Int)) (L : Nat) (a0 : (List (Int × Int))) : Option (List (Int × Int)) :=
  bif (((decide ((0 : Int) ≤ (Nat.cast (List.length a0) : Int))) && (decide ((Nat.cast (List.length a0) : Int) ≤ (Nat.cast (List.length a0) : Int)))) && (decide ((Nat.cast (List.length a0) : Int) ≤ (1000000000 : Int)))) then l25_0 m55 L a0 L (List.replicate (Int.toNat (Nat.cast (List.length a0) : Int)) ((0 : Int), (0 : Int))) (0 : Int) (fun (w0_3 : (List (Int × Int))) => some w0_3)
  else none
theorem e25 (m55 : (Int × Int) → Option (Int × Int)) (L : Nat) (a0 : (List (Int × Int))) : evF prog (ev25 m55) (loopN L) f25 (a25.enc a0) = (g25 m55 L a0).map n25 := by
  let K'0 : (List (Int × Int)) → Option (List (Int × Int)) := (fun (w0_3 : (List (Int × Int))) => some w0_3)
  have hin0 : ∀ (v0_3 : (List (Int × Int))) (v0_4 : Int), headF prog (ev25 m55) L f25 0 [1, 1, 0, 1, 0, 0] (outK (outV prog f25) (topK prog (ev25 m55) L f25 [1, 1, 0, 1] (outV prog f25)).n (topK prog (ev25 m55) L f25 [1, 1, 0, 1] (outV prog f25)).x) L (S25_0 a0 v0_3 v0_4) = (l25_0 m55 L a0 L v0_3 v0_4 K'0).map n25 := fun v0_3 v0_4 => h25_0 m55 L a0 _ _ K'0 (fun w0_3 => by rw [t25_0]; simp only [K'0, map_bif, map_tst, Option.map_some, Option.map_none]) L v0_3 v0_4
  rw [i25]; simp only [g25, map_bif, map_tst, Option.map_some, Option.map_none, hin0, K'0]
theorem s25 (m55 : (Int × Int) → Option (Int × Int)) (h55 : Sat prog cxT 55 (c55 m55)) (m : (List (Int × Int)) → Option (List (Int × Int))) (hm : ∀ (x : (List (Int × Int))) t, m x = some t → ∃ L, g25 m55 L x = some t) : Sat prog cxT 25 (c25 m) :=
  sat_t cxT_ok cxT_pok (by rfl) (fn := f25) rfl a25 n25 dd25 m (ev25 m55) (kok_cons h55 kok_nil) kwok_nil (fun L x => g25 m55 L x) (fun L x => e25 m55 L x) hm hs25
/-! loop.example/g00222/impl.SharesFault -/
def ev26 (m56 : Int → Option Bool) (m57 : Int → Option Bool) : Env cxT := { Kc := kcOf [(56, c56 m56), (57, c57 m57)], Kw := kwOf [], lv := fun i => if i = 0 then [(3, []), (9, [some 31]), (10, []), (11, [])] else [], xv := fun i => if i = 0 then some [] else none }
def S26_0 (a0 : (List (Int × Int))) (v0_3 : Int) (v0_11 : Int) : St cxT.ty := { slots := [junk, junk, junk, (.inl (.inl (lv (.int .i64 v0_3)))), junk, junk, junk, junk, junk, (.inl (.inl (ls { own := 0, nm := 0, e := 31, o := false, xs := a0 }))), (.inl (.inl (lv (.int .i64 (Nat.cast (List.length a0) : Int))))), (.inl (.inl (lv (.int .i64 v0_11))))] ++ List.replicate 20 junk, D := [], F := [], ctr := 1 }
def X26_0 (a0 : (List (Int × Int))) : St cxT.ty := { slots := [] ++ List.replicate 32 junk, D := [], F := [], ctr := 1 }
theorem i26 (m56 : Int → Option Bool) (m57 : Int → Option Bool) (L : Nat) (a0 : (List (Int × Int))) : evF prog (ev26 m56 m57) (loopN L) f26 (a26.enc a0) =
  bif (decide ((Nat.cast (List.length a0) : Int) > (8 : Int))) then some (n26 (2 : Int))
  else headF prog (ev26 m56 m57) L f26 0 [1, 1, 1, 0, 1, 0, 0] (outK (outV prog f26) (topK prog (ev26 m56 m57) L f26 [1, 1, 1, 0, 1] (outV prog f26)).n (topK prog (ev26 m56 m57) L f26 [1, 1, 1, 0, 1] (outV prog f26)).x) L (S26_0 a0 (0 : Int) (0 : Int)) := by kernel_rfl
theorem r26_0 (m56 : Int → Option Bool) (m57 : Int → Option Bool) (L : Nat) (a0 : (List (Int × Int))) (k : St cxT.ty → Option (V cxT.ty)) (xk : Nat → St cxT.ty → Option (V cxT.ty)) (g : St cxT.ty → Option (V cxT.ty)) (v0_3 : Int) (v0_11 : Int) : roundF prog (ev26 m56 m57) L f26 0 [1, 1, 1, 0, 1, 0, 0] (outK (outV prog f26) k xk) g (S26_0 a0 v0_3 v0_11) =
  bif (decide (v0_11 < (Nat.cast (List.length a0) : Int))) then bif ((decide ((0 : Int) ≤ v0_11)) && (decide (v0_11 < (Nat.cast (List.length a0) : Int)))) then tst (m56 (List.getD a0 (Int.toNat v0_11) ((0 : Int), (0 : Int))).1) false fun (q3 : Bool) => bif (!q3) then some (n26 (3 : Int))
        else tst (m57 (List.getD a0 (Int.toNat v0_11) ((0 : Int), (0 : Int))).2) false fun (q4 : Bool) => bif (!q4) then some (n26 (3 : Int))
          else bif (decide ((List.getD a0 (Int.toNat v0_11) ((0 : Int), (0 : Int))).1 ≤ v0_3)) then some (n26 (1 : Int))
          else g (S26_0 a0 (List.getD a0 (Int.toNat v0_11) ((0 : Int), (0 : Int))).1 (Go.IntKind.wrap Go.IntKind.i64 (v0_11 + (1 : Int))))
    else none
  else k (X26_0 a0) := by kernel_rfl
theorem t26_0 (m56 : Int → Option Bool) (m57 : Int → Option Bool) (L : Nat) (a0 : (List (Int × Int))) : (topK prog (ev26 m56 m57) L f26 [1, 1, 1, 0, 1] (outV prog f26)).n (X26_0 a0) =
  some (n26 (0 : Int)) := by kernel_rfl
def l26_0 (m56 : Int → Option Bool) (m57 : Int → Option Bool) (L : Nat) (a0 : (List (Int × Int))) : Nat → Int → Int → (Option Int) → Option Int
  | 0, _, _, _ => none
  | n + 1, v0_3, v0_11, k =>
    bif (decide (v0_11 < (Nat.cast (List.length a0) : Int))) then bif ((decide ((0 : Int) ≤ v0_11)) && (decide (v0_11 < (Nat.cast (List.length a0) : Int)))) then tst (m56 (List.getD a0 (Int.toNat v0_11) ((0 : Int), (0 : Int))).1) false fun (q4 : Bool) => bif (!q4) then some (3 : Int)
          else tst (m57 (List.getD a0 (Int.toNat v0_11) ((0 : Int), (0 : Int))).2) false fun (q5 : Bool) => bif (!q5) then some (3 : Int)
            else bif (decide ((List.getD a0 (Int.toNat v0_11) ((0 : Int), (0 : Int))).1 ≤ v0_3)) then some (1 : Int)
            else l26_0 m56 m57 L a0 n (List.getD a0 (Int.toNat v0_11) ((0 : Int), (0 : Int))).1 (Go.IntKind.wrap Go.IntKind.i64 (v0_11 + (1 : Int))) k
      else none
    else k
theorem h26_0 (m56 : Int → Option Bool) (m57 : Int → Option Bool) (L : Nat) (a0 : (List (Int × Int))) (k : St cxT.ty → Option (V cxT.ty)) (xk : Nat → St cxT.ty → Option (V cxT.ty)) (k' : Option Int) (hk : k (X26_0 a0) = (k').map n26) : ∀ (n : Nat) (v0_3 : Int) (v0_11 : Int), headF prog (ev26 m56 m57) L f26 0 [1, 1, 1, 0, 1, 0, 0] (outK (outV prog f26) k xk) n (S26_0 a0 v0_3 v0_11) = (l26_0 m56 m57 L a0 n v0_3 v0_11 k').map n26
  | 0, _, _ => rfl
  | n + 1, v0_3, v0_11 => by
    rw [headF_round, r26_0]
    have ih := h26_0 m56 m57 L a0 k xk k' hk n
    simp only [l26_0, map_bif, map_tst, Option.map_some, Option.map_none, ih, hk]
def g26 (m56 : Int → Option Bool) (m57 : Int → Option Bool) (L : Nat) (a0 : (List (Int × Int))) : Option Int :=
  bif (decide ((Nat.cast (List.length a0) : Int) > (8 : Int))) then some (2 : Int)
  else l26_0 m56 m57 L a0 L (0 : Int) (0 : Int) (some (0 : Int))
theorem e26 (m56 : Int → Option Bool) (m57 : Int → Option Bool) (L : Nat) (a0 : (List (Int × Int))) : evF prog (ev26 m56 m57) (loopN L) f26 (a26.enc a0) = (g26 m56 m57 L a0).map n26 := by
  let K'0 : Option Int := (some (0 : Int))
  have hin0 : ∀ (v0_3 : Int) (v0_11 : Int), headF prog (ev26 m56 m57) L f26 0 [1, 1, 1, 0, 1, 0, 0] (outK (outV prog f26) (topK prog (ev26 m56 m57) L f26 [1, 1, 1, 0, 1] (outV prog f26)).n (topK prog (ev26 m56 m57) L f26 [1, 1, 1, 0, 1] (outV prog f26)).x) L (S26_0 a0 v0_3 v0_11) = (l26_0 m56 m57 L a0 L v0_3 v0_11 K'0).map n26 := fun v0_3 v0_11 => h26_0 m56 m57 L a0 _ _ K'0 (by rw [t26_0]; simp only [K'0, map_bif, map_tst, Option.map_some, Option.map_none]) L v0_3 v0_11
  rw [i26]; simp only [g26, map_bif, map_tst, Option.map_some, Option.map_none, hin0, K'0]
theorem s26 (m56 : Int → Option Bool) (m57 : Int → Option Bool) (h56 : Sat prog cxT 56 (c56 m56)) (h57 : Sat prog cxT 57 (c57 m57)) (m : (List (Int × Int)) → Option Int) (hm : ∀ (x : (List (Int × Int))) t, m x = some t → ∃ L, g26 m56 m57 L x = some t) : Sat prog cxT 26 (c26 m) :=
  sat_t cxT_ok cxT_pok (by rfl) (fn := f26) rfl a26 n26 dd26 m (ev26 m56 m57) (kok_cons h56 (kok_cons h57 kok_nil)) kwok_nil (fun L x => g26 m56 m57 L x) (fun L x => e26 m56 m57 L x) hm hs26
/-! loop.example/g00222/spec.SharesFault -/
def ev24 (m53 : Int → Option Bool) (m54 : (Int × Int × Int) → Option Bool) : Env cxT := { Kc := kcOf [(53, c53 m53), (54, c54 m54)], Kw := kwOf [], lv := fun i => if i = 0 then [(0, [some 31]), (3, [])] else [], xv := fun i => if i = 0 then some [] else none }
def S24_0 (a0 : (List (Int × Int))) (v0_3 : Int) : St cxT.ty := { slots := [(.inl (.inl (ls { own := 0, nm := 0, e := 31, o := false, xs := a0 }))), junk, junk, (.inl (.inl (lv (.int .i64 v0_3))))] ++ List.replicate 41 junk, D := [], F := [], ctr := 1 }
def X24_0 (a0 : (List (Int × Int))) : St cxT.ty := { slots := [] ++ List.replicate 45 junk, D := [], F := [], ctr := 1 }
theorem i24 (m53 : Int → Option Bool) (m54 : (Int × Int × Int) → Option Bool) (L : Nat) (a0 : (List (Int × Int))) : evF prog (ev24 m53 m54) (loopN L) f24 (a24.enc a0) =
  bif (decide ((Nat.cast (List.length a0) : Int) > (8 : Int))) then some (n24 (2 : Int))
  else headF prog (ev24 m53 m54) L f24 0 [1, 1, 0, 1, 0, 0] (outK (outV prog f24) (topK prog (ev24 m53 m54) L f24 [1, 1, 0, 1] (outV prog f24)).n (topK prog (ev24 m53 m54) L f24 [1, 1, 0, 1] (outV prog f24)).x) L (S24_0 a0 (0 : Int)) := by kernel_rfl
theorem r24_0 (m53 : Int → Option Bool) (m54 : (Int × Int × Int) → Option Bool) (L : Nat) (a0 : (List (Int × Int))) (k : St cxT.ty → Option (V cxT.ty)) (xk : Nat → St cxT.ty → Option (V cxT.ty)) (g : St cxT.ty → Option (V cxT.ty)) (v0_3 : Int) : roundF prog (ev24 m53 m54) L f24 0 [1, 1, 0, 1, 0, 0] (outK (outV prog f24) k xk) g (S24_0 a0 v0_3) =
  bif (decide (v0_3 < (Nat.cast (List.length a0) : Int))) then bif ((decide ((0 : Int) ≤ v0_3)) && (decide (v0_3 < (Nat.cast (List.length a0) : Int)))) then tst (m53 (List.getD a0 (Int.toNat v0_3) ((0 : Int), (0 : Int))).1) false fun (q3 : Bool) => bif (!q3) then some (n24 (3 : Int))
        else bif ((decide ((0 : Int) ≤ v0_3)) && (decide (v0_3 < (Nat.cast (List.length a0) : Int)))) then tst (m54 ((List.getD a0 (Int.toNat v0_3) ((0 : Int), (0 : Int))).2, ((0 : Int), (9 : Int)))) false fun (q5 : Bool) => bif (!q5) then some (n24 (3 : Int))
            else bif (decide (v0_3 > (0 : Int))) then bif ((decide ((0 : Int) ≤ v0_3)) && (decide (v0_3 < (Nat.cast (List.length a0) : Int)))) then bif ((decide ((0 : Int) ≤ (Go.IntKind.wrap Go.IntKind.i64 (v0_3 - (1 : Int))))) && (decide ((Go.IntKind.wrap Go.IntKind.i64 (v0_3 - (1 : Int))) < (Nat.cast (List.length a0) : Int)))) then bif (decide ((List.getD a0 (Int.toNat v0_3) ((0 : Int), (0 : Int))).1 ≤ (List.getD a0 (Int.toNat (Go.IntKind.wrap Go.IntKind.i64 (v0_3 - (1 : Int)))) ((0 : Int), (0 : Int))).1)) then some (n24 (1 : Int))
                  else g (S24_0 a0 (Go.IntKind.wrap Go.IntKind.i64 (v0_3 + (1 : Int))))
                else none
              else none
            else g (S24_0 a0 (Go.IntKind.wrap Go.IntKind.i64 (v0_3 + (1 : Int))))
        else none
    else none
  else k (X24_0 a0) := by kernel_rfl
theorem t24_0 (m53 : Int → Option Bool) (m54 : (Int × Int × Int) → Option Bool) (L : Nat) (a0 : (List (Int × Int))) : (topK prog (ev24 m53 m54) L f24 [1, 1, 0, 1] (outV prog f24)).n (X24_0 a0) =
  some (n24 (0 : Int)) := by kernel_rfl
def l24_0 (m53 : Int → Option Bool) (m54 : (Int × Int × Int) → Option Bool) (L : Nat) (a0 : (List (Int × Int))) : Nat → Int → (Option Int) → Option Int
  | 0, _, _ => none
  | n + 1, v0_3, k =>
    bif (decide (v0_3 < (Nat.cast (List.length a0) : Int))) then bif ((decide ((0 : Int) ≤ v0_3)) && (decide (v0_3 < (Nat.cast (List.length a0) : Int)))) then tst (m53 (List.getD a0 (Int.toNat v0_3) ((0 : Int), (0 : Int))).1) false fun (q4 : Bool) => bif (!q4) then some (3 : Int)
          else bif ((decide ((0 : Int) ≤ v0_3)) && (decide (v0_3 < (Nat.cast (List.length a0) : Int)))) then tst (m54 ((List.getD a0 (Int.toNat v0_3) ((0 : Int), (0 : Int))).2, ((0 : Int), (9 : Int)))) false fun (q6 : Bool) => bif (!q6) then some (3 : Int)
              else bif (decide (v0_3 > (0 : Int))) then bif ((decide ((0 : Int) ≤ v0_3)) && (decide (v0_3 < (Nat.cast (List.length a0) : Int)))) then bif ((decide ((0 : Int) ≤ (Go.IntKind.wrap Go.IntKind.i64 (v0_3 - (1 : Int))))) && (decide ((Go.IntKind.wrap Go.IntKind.i64 (v0_3 - (1 : Int))) < (Nat.cast (List.length a0) : Int)))) then bif (decide ((List.getD a0 (Int.toNat v0_3) ((0 : Int), (0 : Int))).1 ≤ (List.getD a0 (Int.toNat (Go.IntKind.wrap Go.IntKind.i64 (v0_3 - (1 : Int)))) ((0 : Int), (0 : Int))).1)) then some (1 : Int)
                    else l24_0 m53 m54 L a0 n (Go.IntKind.wrap Go.IntKind.i64 (v0_3 + (1 : Int))) k
                  else none
                else none
              else l24_0 m53 m54 L a0 n (Go.IntKind.wrap Go.IntKind.i64 (v0_3 + (1 : Int))) k
          else none
      else none
    else k
theorem h24_0 (m53 : Int → Option Bool) (m54 : (Int × Int × Int) → Option Bool) (L : Nat) (a0 : (List (Int × Int))) (k : St cxT.ty → Option (V cxT.ty)) (xk : Nat → St cxT.ty → Option (V cxT.ty)) (k' : Option Int) (hk : k (X24_0 a0) = (k').map n24) : ∀ (n : Nat) (v0_3 : Int), headF prog (ev24 m53 m54) L f24 0 [1, 1, 0, 1, 0, 0] (outK (outV prog f24) k xk) n (S24_0 a0 v0_3) = (l24_0 m53 m54 L a0 n v0_3 k').map n24
  | 0, _ => rfl
  | n + 1, v0_3 => by
    rw [headF_round, r24_0]
    have ih := h24_0 m53 m54 L a0 k xk k' hk n
    simp only [l24_0, map_bif, map_tst, Option.map_some, Option.map_none, ih, hk]
def g24 (m53 : Int → Option Bool) (m54 : (Int × Int × Int) → Option Bool) (L : Nat) (a0 : (List (Int × Int))) : Option Int :=
  bif (decide ((Nat.cast (List.length a0) : Int) > (8 : Int))) then some (2 : Int)
  else l24_0 m53 m54 L a0 L (0 : Int) (some (0 : Int))
theorem e24 (m53 : Int → Option Bool) (m54 : (Int × Int × Int) → Option Bool) (L : Nat) (a0 : (List (Int × Int))) : evF prog (ev24 m53 m54) (loopN L) f24 (a24.enc a0) = (g24 m53 m54 L a0).map n24 := by
  let K'0 : Option Int := (some (0 : Int))
  have hin0 : ∀ (v0_3 : Int), headF prog (ev24 m53 m54) L f24 0 [1, 1, 0, 1, 0, 0] (outK (outV prog f24) (topK prog (ev24 m53 m54) L f24 [1, 1, 0, 1] (outV prog f24)).n (topK prog (ev24 m53 m54) L f24 [1, 1, 0, 1] (outV prog f24)).x) L (S24_0 a0 v0_3) = (l24_0 m53 m54 L a0 L v0_3 K'0).map n24 := fun v0_3 => h24_0 m53 m54 L a0 _ _ K'0 (by rw [t24_0]; simp only [K'0, map_bif, map_tst, Option.map_some, Option.map_none]) L v0_3
  rw [i24]; simp only [g24, map_bif, map_tst, Option.map_some, Option.map_none, hin0, K'0]
theorem s24 (m53 : Int → Option Bool) (m54 : (Int × Int × Int) → Option Bool) (h53 : Sat prog cxT 53 (c53 m53)) (h54 : Sat prog cxT 54 (c54 m54)) (m : (List (Int × Int)) → Option Int) (hm : ∀ (x : (List (Int × Int))) t, m x = some t → ∃ L, g24 m53 m54 L x = some t) : Sat prog cxT 24 (c24 m) :=
  sat_t cxT_ok cxT_pok (by rfl) (fn := f24) rfl a24 n24 dd24 m (ev24 m53 m54) (kok_cons h53 (kok_cons h54 kok_nil)) kwok_nil (fun L x => g24 m53 m54 L x) (fun L x => e24 m53 m54 L x) hm hs24
/-! loop.example/g00222/laws.eqShareS -/
def ev27 (m58 : ((Int × Int) × (Int × Int)) → Option Bool) : Env cxT := { Kc := kcOf [(58, c58 m58)], Kw := kwOf [], lv := fun i => if i = 0 then [(0, [some 31]), (1, [some 31]), (5, [])] else [], xv := fun i => if i = 0 then some [] else none }
def S27_0 (a0 : (List (Int × Int))) (a1 : (List (Int × Int))) (v0_5 : Int) : St cxT.ty := { slots := [(.inl (.inl (ls { own := 0, nm := 0, e := 31, o := false, xs := a0 }))), (.inl (.inl (ls { own := 0, nm := 0, e := 31, o := false, xs := a1 }))), junk, junk, junk, (.inl (.inl (lv (.int .i64 v0_5))))] ++ List.replicate 21 junk, D := [], F := [], ctr := 1 }
def X27_0 (a0 : (List (Int × Int))) (a1 : (List (Int × Int))) : St cxT.ty := { slots := [] ++ List.replicate 27 junk, D := [], F := [], ctr := 1 }
theorem i27 (m58 : ((Int × Int) × (Int × Int)) → Option Bool) (L : Nat) (a0 : (List (Int × Int))) (a1 : (List (Int × Int))) : evF prog (ev27 m58) (loopN L) f27 (a27.enc (a0, a1)) =
  bif ((Nat.cast (List.length a0) : Int) != (Nat.cast (List.length a1) : Int)) then some (n27 Bool.false)
  else headF prog (ev27 m58) L f27 0 [1, 1, 0, 1, 0, 0] (outK (outV prog f27) (topK prog (ev27 m58) L f27 [1, 1, 0, 1] (outV prog f27)).n (topK prog (ev27 m58) L f27 [1, 1, 0, 1] (outV prog f27)).x) L (S27_0 a0 a1 (0 : Int)) := by kernel_rfl
theorem r27_0 (m58 : ((Int × Int) × (Int × Int)) → Option Bool) (L : Nat) (a0 : (List (Int × Int))) (a1 : (List (Int × Int))) (k : St cxT.ty → Option (V cxT.ty)) (xk : Nat → St cxT.ty → Option (V cxT.ty)) (g : St cxT.ty → Option (V cxT.ty)) (v0_5 : Int) : roundF prog (ev27 m58) L f27 0 [1, 1, 0, 1, 0, 0] (outK (outV prog f27) k xk) g (S27_0 a0 a1 v0_5) =
  bif (decide (v0_5 < (Nat.cast (List.length a0) : Int))) then bif ((decide ((0 : Int) ≤ v0_5)) && (decide (v0_5 < (Nat.cast (List.length a0) : Int)))) then bif ((decide ((0 : Int) ≤ v0_5)) && (decide (v0_5 < (Nat.cast (List.length a1) : Int)))) then tst (m58 (((List.getD a0 (Int.toNat v0_5) ((0 : Int), (0 : Int))).1, (List.getD a0 (Int.toNat v0_5) ((0 : Int), (0 : Int))).2), ((List.getD a1 (Int.toNat v0_5) ((0 : Int), (0 : Int))).1, (List.getD a1 (Int.toNat v0_5) ((0 : Int), (0 : Int))).2))) false fun (q4 : Bool) => bif (!q4) then some (n27 Bool.false)
          else g (S27_0 a0 a1 (Go.IntKind.wrap Go.IntKind.i64 (v0_5 + (1 : Int))))
      else none
    else none
  else k (X27_0 a0 a1) := by kernel_rfl
theorem t27_0 (m58 : ((Int × Int) × (Int × Int)) → Option Bool) (L : Nat) (a0 : (List (Int × Int))) (a1 : (List (Int × Int))) : (topK prog (ev27 m58) L f27 [1, 1, 0, 1] (outV prog f27)).n (X27_0 a0 a1) =
  some (n27 Bool.true) := by kernel_rfl
def l27_0 (m58 : ((Int × Int) × (Int × Int)) → Option Bool) (L : Nat) (a0 : (List (Int × Int))) (a1 : (List (Int × Int))) : Nat → Int → (Option Bool) → Option Bool
  | 0, _, _ => none
  | n + 1, v0_5, k =>
    bif (decide (v0_5 < (Nat.cast (List.length a0) : Int))) then bif ((decide ((0 : Int) ≤ v0_5)) && (decide (v0_5 < (Nat.cast (List.length a0) : Int)))) then bif ((decide ((0 : Int) ≤ v0_5)) && (decide (v0_5 < (Nat.cast (List.length a1) : Int)))) then tst (m58 (((List.getD a0 (Int.toNat v0_5) ((0 : Int), (0 : Int))).1, (List.getD a0 (Int.toNat v0_5) ((0 : Int), (0 : Int))).2), ((List.getD a1 (Int.toNat v0_5) ((0 : Int), (0 : Int))).1, (List.getD a1 (Int.toNat v0_5) ((0 : Int), (0 : Int))).2))) false fun (q5 : Bool) => bif (!q5) then some Bool.false
            else l27_0 m58 L a0 a1 n (Go.IntKind.wrap Go.IntKind.i64 (v0_5 + (1 : Int))) k
        else none
      else none
    else k
theorem h27_0 (m58 : ((Int × Int) × (Int × Int)) → Option Bool) (L : Nat) (a0 : (List (Int × Int))) (a1 : (List (Int × Int))) (k : St cxT.ty → Option (V cxT.ty)) (xk : Nat → St cxT.ty → Option (V cxT.ty)) (k' : Option Bool) (hk : k (X27_0 a0 a1) = (k').map n27) : ∀ (n : Nat) (v0_5 : Int), headF prog (ev27 m58) L f27 0 [1, 1, 0, 1, 0, 0] (outK (outV prog f27) k xk) n (S27_0 a0 a1 v0_5) = (l27_0 m58 L a0 a1 n v0_5 k').map n27
  | 0, _ => rfl
  | n + 1, v0_5 => by
    rw [headF_round, r27_0]
    have ih := h27_0 m58 L a0 a1 k xk k' hk n
    simp only [l27_0, map_bif, map_tst, Option.map_some, Option.map_none, ih, hk]
def g27 (m58 : ((Int × Int) × (Int × Int)) → Option Bool) (L : Nat) (a0 : (List (Int × Int))) (a1 : (List (Int × Int))) : Option Bool :=
  bif ((Nat.cast (List.length a0) : Int) != (Nat.cast (List.length a1) : Int)) then some Bool.false
  else l27_0 m58 L a0 a1 L (0 : Int) (some Bool.true)
theorem e27 (m58 : ((Int × Int) × (Int × Int)) → Option Bool) (L : Nat) (a0 : (List (Int × Int))) (a1 : (List (Int × Int))) : evF prog (ev27 m58) (loopN L) f27 (a27.enc (a0, a1)) = (g27 m58 L a0 a1).map n27 := by
  let K'0 : Option Bool := (some Bool.true)
  have hin0 : ∀ (v0_5 : Int), headF prog (ev27 m58) L f27 0 [1, 1, 0, 1, 0, 0] (outK (outV prog f27) (topK prog (ev27 m58) L f27 [1, 1, 0, 1] (outV prog f27)).n (topK prog (ev27 m58) L f27 [1, 1, 0, 1] (outV prog f27)).x) L (S27_0 a0 a1 v0_5) = (l27_0 m58 L a0 a1 L v0_5 K'0).map n27 := fun v0_5 => h27_0 m58 L a0 a1 _ _ K'0 (by rw [t27_0]; simp only [K'0, map_bif, map_tst, Option.map_some, Option.map_none]) L v0_5
  rw [i27]; simp only [g27, map_bif, map_tst, Option.map_some, Option.map_none, hin0, K'0]
theorem s27 (m58 : ((Int × Int) × (Int × Int)) → Option Bool) (h58 : Sat prog cxT 58 (c58 m58)) (m : ((List (Int × Int)) × (List (Int × Int))) → Option Bool) (hm : ∀ (x : ((List (Int × Int)) × (List (Int × Int)))) t, m x = some t → ∃ L, g27 m58 L x.1 x.2 = some t) : Sat prog cxT 27 (c27 m) :=
  sat_t cxT_ok cxT_pok (by rfl) (fn := f27) rfl a27 n27 dd27 m (ev27 m58) (kok_cons h58 kok_nil) kwok_nil (fun L x => g27 m58 L x.1 x.2) (fun L x => e27 m58 L x.1 x.2) hm hs27
/-! loop.example/g00222/laws.markShareS -/
def ev29 : Env cxT := { Kc := kcOf [], Kw := kwOf [], lv := fun i => if i = 0 then [(0, [some 31]), (1, []), (5, [])] else [], xv := fun i => if i = 0 then some [(0, [some 31]), (1, [])] else none }
def S29_0 (a0 : (List (Int × Int))) (a1 : Int) (v0_0 : (List (Int × Int))) (v0_1 : Int) (v0_5 : Int) : St cxT.ty := { slots := [(.inl (.inl (ls { own := 1, nm := 0, e := 31, o := true, xs := v0_0 }))), (.inl (.inl (lv (.int .i64 v0_1)))), junk, junk, junk, (.inl (.inl (lv (.int .i64 v0_5))))] ++ List.replicate 21 junk, D := [], F := [], ctr := 1, lo := 1 }
def X29_0 (a0 : (List (Int × Int))) (a1 : Int) (w0_0 : (List (Int × Int))) (w0_1 : Int) : St cxT.ty := { slots := [(.inl (.inl (ls { own := 1, nm := 0, e := 31, o := true, xs := w0_0 }))), (.inl (.inl (lv (.int .i64 w0_1))))] ++ List.replicate 25 junk, D := [], F := [], ctr := 1, lo := 1 }
theorem i29 (L : Nat) (a0 : (List (Int × Int))) (a1 : Int) : evFW prog ev29 (loopN L) f29 1 (a29.enc (a0, a1)) =
  headF prog ev29 L f29 0 [1, 0, 1, 0, 0] (outK (outW prog f29 1) (topK prog ev29 L f29 [1, 0, 1] (outW prog f29 1)).n (topK prog ev29 L f29 [1, 0, 1] (outW prog f29 1)).x) L (S29_0 a0 a1 a0 a1 (0 : Int)) := by kernel_rfl
theorem r29_0 (L : Nat) (a0 : (List (Int × Int))) (a1 : Int) (k : St cxT.ty → Option (List (A cxT.ty))) (xk : Nat → St cxT.ty → Option (List (A cxT.ty))) (g : St cxT.ty → Option (List (A cxT.ty))) (v0_0 : (List (Int × Int))) (v0_1 : Int) (v0_5 : Int) : roundF prog ev29 L f29 0 [1, 0, 1, 0, 0] (outK (outW prog f29 1) k xk) g (S29_0 a0 a1 v0_0 v0_1 v0_5) =
  bif (decide (v0_5 < (Nat.cast (List.length v0_0) : Int))) then bif ((decide ((0 : Int) ≤ v0_5)) && (decide (v0_5 < (Nat.cast (List.length v0_0) : Int)))) then bif ((decide ((0 : Int) ≤ v0_5)) && (decide (v0_5 < (Nat.cast (List.length (List.set v0_0 (Int.toNat v0_5) (v0_1, (List.getD v0_0 (Int.toNat v0_5) ((0 : Int), (0 : Int))).2))) : Int)))) then g (S29_0 a0 a1 (List.set (List.set v0_0 (Int.toNat v0_5) (v0_1, (List.getD v0_0 (Int.toNat v0_5) ((0 : Int), (0 : Int))).2)) (Int.toNat v0_5) ((List.getD (List.set v0_0 (Int.toNat v0_5) (v0_1, (List.getD v0_0 (Int.toNat v0_5) ((0 : Int), (0 : Int))).2)) (Int.toNat v0_5) ((0 : Int), (0 : Int))).1, (Go.IntKind.wrap Go.IntKind.i64 (v0_1 + (1 : Int))))) (Go.IntKind.wrap Go.IntKind.i64 ((Go.IntKind.wrap Go.IntKind.i64 (v0_1 + (1 : Int))) + (1 : Int))) (Go.IntKind.wrap Go.IntKind.i64 (v0_5 + (1 : Int))))
      else none
    else none
  else k (X29_0 a0 a1 v0_0 v0_1) := by kernel_rfl
theorem t29_0 (L : Nat) (a0 : (List (Int × Int))) (a1 : Int) (w0_0 : (List (Int × Int))) (w0_1 : Int) : (topK prog ev29 L f29 [1, 0, 1] (outW prog f29 1)).n (X29_0 a0 a1 w0_0 w0_1) =
  some (n29 (w0_1, w0_0)) := by kernel_rfl
def l29_0 (L : Nat) (a0 : (List (Int × Int))) (a1 : Int) : Nat → (List (Int × Int)) → Int → Int → ((List (Int × Int)) → Int → Option (Int × (List (Int × Int)))) → Option (Int × (List (Int × Int)))
  | 0, _, _, _, _ => none
  | n + 1, v0_0, v0_1, v0_5, k =>
    bif (decide (v0_5 < (Nat.cast (List.length v0_0) : Int))) then bif ((decide ((0 : Int) ≤ v0_5)) && (decide (v0_5 < (Nat.cast (List.length v0_0) : Int)))) then bif ((decide ((0 : Int) ≤ v0_5)) && (decide (v0_5 < (Nat.cast (List.length (List.set v0_0 (Int.toNat v0_5) (v0_1, (List.getD v0_0 (Int.toNat v0_5) ((0 : Int), (0 : Int))).2))) : Int)))) then l29_0 L a0 a1 n (List.set (List.set v0_0 (Int.toNat v0_5) (v0_1, (List.getD v0_0 (Int.toNat v0_5) ((0 : Int), (0 : Int))).2)) (Int.toNat v0_5) ((List.getD (List.set v0_0 (Int.toNat v0_5) (v0_1, (List.getD v0_0 (Int.toNat v0_5) ((0 : Int), (0 : Int))).2)) (Int.toNat v0_5) ((0 : Int), (0 : Int))).1, (Go.IntKind.wrap Go.IntKind.i64 (v0_1 + (1 : Int))))) (Go.IntKind.wrap Go.IntKind.i64 ((Go.IntKind.wrap Go.IntKind.i64 (v0_1 + (1 : Int))) + (1 : Int))) (Go.IntKind.wrap Go.IntKind.i64 (v0_5 + (1 : Int))) k
        else none
      else none
    else k v0_0 v0_1
theorem h29_0 (L : Nat) (a0 : (List (Int × Int))) (a1 : Int) (k : St cxT.ty → Option (List (A cxT.ty))) (xk : Nat → St cxT.ty → Option (List (A cxT.ty))) (k' : (List (Int × Int)) → Int → Option (Int × (List (Int × Int)))) (hk : ∀ (w0_0 : (List (Int × Int))) (w0_1 : Int), k (X29_0 a0 a1 w0_0 w0_1) = (k' w0_0 w0_1).map n29) : ∀ (n : Nat) (v0_0 : (List (Int × Int))) (v0_1 : Int) (v0_5 : Int), headF prog ev29 L f29 0 [1, 0, 1, 0, 0] (outK (outW prog f29 1) k xk) n (S29_0 a0 a1 v0_0 v0_1 v0_5) = (l29_0 L a0 a1 n v0_0 v0_1 v0_5 k').map n29
  | 0, _, _, _ => rfl
  | n + 1, v0_0, v0_1, v0_5 => by
    rw [headF_round, r29_0]
    have ih := h29_0 L a0 a1 k xk k' hk n
    simp only [l29_0, map_bif, map_tst, Option.map_some, Option.map_none, ih, hk]
def g29 (L : Nat) (a0 : (List (Int × Int))) (a1 : Int) : Option (Int × (List (Int × Int))) :=
  l29_0 L a0 a1 L a0 a1 (0 : Int) (fun (w0_0 : (List (Int × Int))) (w0_1 : Int) => some (w0_1, w0_0))
theorem e29 (L : Nat) (a0 : (List (Int × Int))) (a1 : Int) : evFW prog ev29 (loopN L) f29 1 (a29.enc (a0, a1)) = (g29 L a0 a1).map n29 := by
  let K'0 : (List (Int × Int)) → Int → Option (Int × (List (Int × Int))) := (fun (w0_0 : (List (Int × Int))) (w0_1 : Int) => some (w0_1, w0_0))
  have hin0 : ∀ (v0_0 : (List (Int × Int))) (v0_1 : Int) (v0_5 : Int), headF prog ev29 L f29 0 [1, 0, 1, 0, 0] (outK (outW prog f29 1) (topK prog ev29 L f29 [1, 0, 1] (outW prog f29 1)).n (topK prog ev29 L f29 [1, 0, 1] (outW prog f29 1)).x) L (S29_0 a0 a1 v0_0 v0_1 v0_5) = (l29_0 L a0 a1 L v0_0 v0_1 v0_5 K'0).map n29 := fun v0_0 v0_1 v0_5 => h29_0 L a0 a1 _ _ K'0 (fun w0_0 w0_1 => by rw [t29_0]; simp only [K'0, map_bif, map_tst, Option.map_some, Option.map_none]) L v0_0 v0_1 v0_5
  rw [i29]; simp only [g29, map_bif, map_tst, Option.map_some, Option.map_none, hin0, K'0]
theorem s29 (m : ((List (Int × Int)) × Int) → Option (Int × (List (Int × Int)))) (hm : ∀ (x : ((List (Int × Int)) × Int)) t, m x = some t → ∃ L, g29 L x.1 x.2 = some t) : SatW prog cxT 29 (c29 m).nres (c29 m).n (c29 m).F :=
  sat_w cxT_ok cxT_pok (by rfl) (fn := f29) rfl rfl a29 n29 dd29 m ev29 kok_nil kwok_nil (fun L x => g29 L x.1 x.2) (fun L x => e29 L x.1 x.2) hm hs29
/-! loop.example/g00222/laws.heldShareS -/
def ev63 : Env cxT := { Kc := kcOf [], Kw := kwOf [], lv := fun i => if i = 0 then [(0, [some 31]), (1, []), (5, [])] else [], xv := fun i => if i = 0 then some [(1, [])] else none }
def S63_0 (a0 : (List (Int × Int))) (a1 : Int) (v0_1 : Int) (v0_5 : Int) : St cxT.ty := { slots := [(.inl (.inl (ls { own := 0, nm := 0, e := 31, o := false, xs := a0 }))), (.inl (.inl (lv (.int .i64 v0_1)))), junk, junk, junk, (.inl (.inl (lv (.int .i64 v0_5))))] ++ List.replicate 25 junk, D := [], F := [], ctr := 1 }
def X63_0 (a0 : (List (Int × Int))) (a1 : Int) (w0_1 : Int) : St cxT.ty := { slots := [junk, (.inl (.inl (lv (.int .i64 w0_1))))] ++ List.replicate 29 junk, D := [], F := [], ctr := 1 }
theorem i63 (L : Nat) (a0 : (List (Int × Int))) (a1 : Int) : evF prog ev63 (loopN L) f63 (a63.enc (a0, a1)) =
  headF prog ev63 L f63 0 [1, 0, 1, 0, 0] (outK (outV prog f63) (topK prog ev63 L f63 [1, 0, 1] (outV prog f63)).n (topK prog ev63 L f63 [1, 0, 1] (outV prog f63)).x) L (S63_0 a0 a1 a1 (0 : Int)) := by kernel_rfl
theorem r63_0 (L : Nat) (a0 : (List (Int × Int))) (a1 : Int) (k : St cxT.ty → Option (V cxT.ty)) (xk : Nat → St cxT.ty → Option (V cxT.ty)) (g : St cxT.ty → Option (V cxT.ty)) (v0_1 : Int) (v0_5 : Int) : roundF prog ev63 L f63 0 [1, 0, 1, 0, 0] (outK (outV prog f63) k xk) g (S63_0 a0 a1 v0_1 v0_5) =
  bif (decide (v0_5 < (Nat.cast (List.length a0) : Int))) then bif ((decide ((0 : Int) ≤ v0_5)) && (decide (v0_5 < (Nat.cast (List.length a0) : Int)))) then bif ((List.getD a0 (Int.toNat v0_5) ((0 : Int), (0 : Int))).1 != v0_1) then some (n63 (-(1 : Int)))
      else bif ((decide ((0 : Int) ≤ v0_5)) && (decide (v0_5 < (Nat.cast (List.length a0) : Int)))) then bif ((List.getD a0 (Int.toNat v0_5) ((0 : Int), (0 : Int))).2 != (Go.IntKind.wrap Go.IntKind.i64 (v0_1 + (1 : Int)))) then some (n63 (-(1 : Int)))
        else g (S63_0 a0 a1 (Go.IntKind.wrap Go.IntKind.i64 ((Go.IntKind.wrap Go.IntKind.i64 (v0_1 + (1 : Int))) + (1 : Int))) (Go.IntKind.wrap Go.IntKind.i64 (v0_5 + (1 : Int))))
      else none
    else none
  else k (X63_0 a0 a1 v0_1) := by kernel_rfl
theorem t63_0 (L : Nat) (a0 : (List (Int × Int))) (a1 : Int) (w0_1 : Int) : (topK prog ev63 L f63 [1, 0, 1] (outV prog f63)).n (X63_0 a0 a1 w0_1) =
  some (n63 w0_1) := by kernel_rfl
def l63_0 (L : Nat) (a0 : (List (Int × Int))) (a1 : Int) : Nat → Int → Int → (Int → Option Int) → Option Int
  | 0, _, _, _ => none
  | n + 1, v0_1, v0_5, k =>
    bif (decide (v0_5 < (Nat.cast (List.length a0) : Int))) then bif ((decide ((0 : Int) ≤ v0_5)) && (decide (v0_5 < (Nat.cast (List.length a0) : Int)))) then bif ((List.getD a0 (Int.toNat v0_5) ((0 : Int), (0 : Int))).1 != v0_1) then some (-(1 : Int))
        else bif ((decide ((0 : Int) ≤ v0_5)) && (decide (v0_5 < (Nat.cast (List.length a0) : Int)))) then bif ((List.getD a0 (Int.toNat v0_5) ((0 : Int), (0 : Int))).2 != (Go.IntKind.wrap Go.IntKind.i64 (v0_1 + (1 : Int)))) then some (-(1 : Int))
          else l63_0 L a0 a1 n (Go.IntKind.wrap Go.IntKind.i64 ((Go.IntKind.wrap Go.IntKind.i64 (v0_1 + (1 : Int))) + (1 : Int))) (Go.IntKind.wrap Go.IntKind.i64 (v0_5 + (1 : Int))) k
        else none
      else none
    else k v0_1
theorem h63_0 (L : Nat) (a0 : (List (Int × Int))) (a1 : Int) (k : St cxT.ty → Option (V cxT.ty)) (xk : Nat → St cxT.ty → Option (V cxT.ty)) (k' : Int → Option Int) (hk : ∀ (w0_1 : Int), k (X63_0 a0 a1 w0_1) = (k' w0_1).map n63) : ∀ (n : Nat) (v0_1 : Int) (v0_5 : Int), headF prog ev63 L f63 0 [1, 0, 1, 0, 0] (outK (outV prog f63) k xk) n (S63_0 a0 a1 v0_1 v0_5) = (l63_0 L a0 a1 n v0_1 v0_5 k').map n63
  | 0, _, _ => rfl
  | n + 1, v0_1, v0_5 => by
    rw [headF_round, r63_0]
    have ih := h63_0 L a0 a1 k xk k' hk n
    simp only [l63_0, map_bif, map_tst, Option.map_some, Option.map_none, ih, hk]
def g63 (L : Nat) (a0 : (List (Int × Int))) (a1 : Int) : Option Int :=
  l63_0 L a0 a1 L a1 (0 : Int) (fun (w0_1 : Int) => some w0_1)
theorem e63 (L : Nat) (a0 : (List (Int × Int))) (a1 : Int) : evF prog ev63 (loopN L) f63 (a63.enc (a0, a1)) = (g63 L a0 a1).map n63 := by
  let K'0 : Int → Option Int := (fun (w0_1 : Int) => some w0_1)
  have hin0 : ∀ (v0_1 : Int) (v0_5 : Int), headF prog ev63 L f63 0 [1, 0, 1, 0, 0] (outK (outV prog f63) (topK prog ev63 L f63 [1, 0, 1] (outV prog f63)).n (topK prog ev63 L f63 [1, 0, 1] (outV prog f63)).x) L (S63_0 a0 a1 v0_1 v0_5) = (l63_0 L a0 a1 L v0_1 v0_5 K'0).map n63 := fun v0_1 v0_5 => h63_0 L a0 a1 _ _ K'0 (fun w0_1 => by rw [t63_0]; simp only [K'0, map_bif, map_tst, Option.map_some, Option.map_none]) L v0_1 v0_5
  rw [i63]; simp only [g63, map_bif, map_tst, Option.map_some, Option.map_none, hin0, K'0]
theorem s63 (m : ((List (Int × Int)) × Int) → Option Int) (hm : ∀ (x : ((List (Int × Int)) × Int)) t, m x = some t → ∃ L, g63 L x.1 x.2 = some t) : Sat prog cxT 63 (c63 m) :=
  sat_t cxT_ok cxT_pok (by rfl) (fn := f63) rfl a63 n63 dd63 m ev63 kok_nil kwok_nil (fun L x => g63 L x.1 x.2) (fun L x => e63 L x.1 x.2) hm hs63
/-! loop.example/g00222/laws.markSharesResult -/
def ev41 (m29 : ((List (Int × Int)) × Int) → Option (Int × (List (Int × Int)))) : Env cxT := { Kc := kcOf [], Kw := kwOf [(29, c29 m29)], lv := fun i => [], xv := fun i => none }
theorem i41 (m29 : ((List (Int × Int)) × Int) → Option (Int × (List (Int × Int)))) (L : Nat) (a0_0 : Int) (a0_1 : (List (Int × Int))) (a1 : Int) : evFW prog (ev41 m29) (loopN L) f41 1 (a41.enc ((a0_0, a0_1), a1)) =
  tst (m29 (a0_1, a1)) ((0 : Int), []) fun (q1 : (Int × (List (Int × Int)))) => some (n41 (q1.1, a0_0, q1.2)) := by kernel_rfl
def g41 (m29 : ((List (Int × Int)) × Int) → Option (Int × (List (Int × Int)))) (L : Nat) (a0_0 : Int) (a0_1 : (List (Int × Int))) (a1 : Int) : Option (Int × Int × (List (Int × Int))) :=
  tst (m29 (a0_1, a1)) ((0 : Int), []) fun (q1 : (Int × (List (Int × Int)))) => some (q1.1, a0_0, q1.2)
theorem e41 (m29 : ((List (Int × Int)) × Int) → Option (Int × (List (Int × Int)))) (L : Nat) (a0_0 : Int) (a0_1 : (List (Int × Int))) (a1 : Int) : evFW prog (ev41 m29) (loopN L) f41 1 (a41.enc ((a0_0, a0_1), a1)) = (g41 m29 L a0_0 a0_1 a1).map n41 := by
  rw [i41]; simp only [g41, map_bif, map_tst, Option.map_some, Option.map_none]
theorem s41 (m29 : ((List (Int × Int)) × Int) → Option (Int × (List (Int × Int)))) (h29 : SatW prog cxT 29 (c29 m29).nres (c29 m29).n (c29 m29).F) (m : ((Int × (List (Int × Int))) × Int) → Option (Int × Int × (List (Int × Int)))) (hm : ∀ (x : ((Int × (List (Int × Int))) × Int)) t, m x = some t → ∃ L, g41 m29 L x.1.1 x.1.2 x.2 = some t) : SatW prog cxT 41 (c41 m).nres (c41 m).n (c41 m).F :=
  sat_w cxT_ok cxT_pok (by rfl) (fn := f41) rfl rfl a41 n41 dd41 m (ev41 m29) kok_nil (kwok_cons h29 kwok_nil) (fun L x => g41 m29 L x.1.1 x.1.2 x.2) (fun L x => e41 m29 L x.1.1 x.1.2 x.2) hm hs41
/-! loop.example/g00222/laws.heldSharesResult -/
def ev42 (m63 : ((List (Int × Int)) × Int) → Option Int) : Env cxT := { Kc := kcOf [(63, c63 m63)], Kw := kwOf [], lv := fun i => [], xv := fun i => none }
theorem i42 (m63 : ((List (Int × Int)) × Int) → Option Int) (L : Nat) (a0_0 : Int) (a0_1 : (List (Int × Int))) (a1 : Int) : evF prog (ev42 m63) (loopN L) f42 (a42.enc ((a0_0, a0_1), a1)) =
  tst (m63 (a0_1, a1)) (0 : Int) fun (q1 : Int) => bif (decide (q1 < (0 : Int))) then some (n42 (-(1 : Int)))
    else some (n42 q1) := by kernel_rfl
def g42 (m63 : ((List (Int × Int)) × Int) → Option Int) (L : Nat) (a0_0 : Int) (a0_1 : (List (Int × Int))) (a1 : Int) : Option Int :=
  tst (m63 (a0_1, a1)) (0 : Int) fun (q1 : Int) => bif (decide (q1 < (0 : Int))) then some (-(1 : Int))
    else some q1
theorem e42 (m63 : ((List (Int × Int)) × Int) → Option Int) (L : Nat) (a0_0 : Int) (a0_1 : (List (Int × Int))) (a1 : Int) : evF prog (ev42 m63) (loopN L) f42 (a42.enc ((a0_0, a0_1), a1)) = (g42 m63 L a0_0 a0_1 a1).map n42 := by
  rw [i42]; simp only [g42, map_bif, map_tst, Option.map_some, Option.map_none]
theorem s42 (m63 : ((List (Int × Int)) × Int) → Option Int) (h63 : Sat prog cxT 63 (c63 m63)) (m : ((Int × (List (Int × Int))) × Int) → Option Int) (hm : ∀ (x : ((Int × (List (Int × Int))) × Int)) t, m x = some t → ∃ L, g42 m63 L x.1.1 x.1.2 x.2 = some t) : Sat prog cxT 42 (c42 m) :=
  sat_t cxT_ok cxT_pok (by rfl) (fn := f42) rfl a42 n42 dd42 m (ev42 m63) (kok_cons h63 kok_nil) kwok_nil (fun L x => g42 m63 L x.1.1 x.1.2 x.2) (fun L x => e42 m63 L x.1.1 x.1.2 x.2) hm hs42
/-! loop.example/g00222/laws.eqSharesResult -/
def ev40 (m27 : ((List (Int × Int)) × (List (Int × Int))) → Option Bool) : Env cxT := { Kc := kcOf [(27, c27 m27)], Kw := kwOf [], lv := fun i => [], xv := fun i => none }
theorem i40 (m27 : ((List (Int × Int)) × (List (Int × Int))) → Option Bool) (L : Nat) (a0_0 : Int) (a0_1 : (List (Int × Int))) (a1_0 : Int) (a1_1 : (List (Int × Int))) : evF prog (ev40 m27) (loopN L) f40 (a40.enc ((a0_0, a0_1), (a1_0, a1_1))) =
  bif (a0_0 != a1_0) then some (n40 Bool.false)
  else tst (m27 (a0_1, a1_1)) false fun (q1 : Bool) => bif (!q1) then some (n40 Bool.false)
    else some (n40 Bool.true) := by kernel_rfl
def g40 (m27 : ((List (Int × Int)) × (List (Int × Int))) → Option Bool) (L : Nat) (a0_0 : Int) (a0_1 : (List (Int × Int))) (a1_0 : Int) (a1_1 : (List (Int × Int))) : Option Bool :=
  bif (a0_0 != a1_0) then some Bool.false
  else tst (m27 (a0_1, a1_1)) false fun (q1 : Bool) => bif (!q1) then some Bool.false
    else some Bool.true
theorem e40 (m27 : ((List (Int × Int)) × (List (Int × Int))) → Option Bool) (L : Nat) (a0_0 : Int) (a0_1 : (List (Int × Int))) (a1_0 : Int) (a1_1 : (List (Int × Int))) : evF prog (ev40 m27) (loopN L) f40 (a40.enc ((a0_0, a0_1), (a1_0, a1_1))) = (g40 m27 L a0_0 a0_1 a1_0 a1_1).map n40 := by
  rw [i40]; simp only [g40, map_bif, map_tst, Option.map_some, Option.map_none]
theorem s40 (m27 : ((List (Int × Int)) × (List (Int × Int))) → Option Bool) (h27 : Sat prog cxT 27 (c27 m27)) (m : ((Int × (List (Int × Int))) × (Int × (List (Int × Int)))) → Option Bool) (hm : ∀ (x : ((Int × (List (Int × Int))) × (Int × (List (Int × Int))))) t, m x = some t → ∃ L, g40 m27 L x.1.1 x.1.2 x.2.1 x.2.2 = some t) : Sat prog cxT 40 (c40 m) :=
  sat_t cxT_ok cxT_pok (by rfl) (fn := f40) rfl a40 n40 dd40 m (ev40 m27) (kok_cons h27 kok_nil) kwok_nil (fun L x => g40 m27 L x.1.1 x.1.2 x.2.1 x.2.2) (fun L x => e40 m27 L x.1.1 x.1.2 x.2.1 x.2.2) hm hs40
/-! loop.example/g00222/impl.SpreadOf -/
def ev16 (m47 : (List Int) → Option Int) (m26 : (List (Int × Int)) → Option Int) (m17 : ((List Int) × Int) → Option Int) (m48 : ((List Int) × (List (Int × Int))) → Option (List Int)) (m49 : (List Int) → Option Int) (m50 : (List Int) → Option Int) : Env cxT := { Kc := kcOf [(47, c47 m47), (26, c26 m26), (17, c17 m17), (48, c48 m48), (49, c49 m49), (50, c50 m50)], Kw := kwOf [], lv := fun i => [], xv := fun i => none }
theorem i16 (m47 : (List Int) → Option Int) (m26 : (List (Int × Int)) → Option Int) (m17 : ((List Int) × Int) → Option Int) (m48 : ((List Int) × (List (Int × Int))) → Option (List Int)) (m49 : (List Int) → Option Int) (m50 : (List Int) → Option Int) (L : Nat) (a0 : (List Int)) (a1 : (List (Int × Int))) : evF prog (ev16 m47 m26 m17 m48 m49 m50) (loopN L) f16 (a16.enc (a0, a1)) =
  tst (m47 a0) (0 : Int) fun (q1 : Int) => bif (q1 != (0 : Int)) then some (n16 (q1, (0 : Int), (0 : Int), (0 : Int)))
    else tst (m26 a1) (0 : Int) fun (q2 : Int) => bif (q2 != (0 : Int)) then some (n16 (q2, (0 : Int), (0 : Int), (0 : Int)))
      else tst (m17 (a0, (0 : Int))) (0 : Int) fun (q3 : Int) => tst (m48 (a0, a1)) [] fun (q4 : (List Int)) => bif (decide ((Nat.cast (List.length q4) : Int) > (0 : Int))) then tst (m49 q4) (0 : Int) fun (q6 : Int) => tst (m50 q4) (0 : Int) fun (q7 : Int) => some (n16 ((0 : Int), q6, q7, q3))
          else some (n16 ((0 : Int), (0 : Int), (0 : Int), q3)) := by kernel_rfl
def g16 (m47 : (List Int) → Option Int) (m26 : (List (Int × Int)) → Option Int) (m17 : ((List Int) × Int) → Option Int) (m48 : ((List Int) × (List (Int × Int))) → Option (List Int)) (m49 : (List Int) → Option Int) (m50 : (List Int) → Option Int) (L : Nat) (a0 : (List Int)) (a1 : (List (Int × Int))) : Option (Int × Int × Int × Int) :=
  tst (m47 a0) (0 : Int) fun (q1 : Int) => bif (q1 != (0 : Int)) then some (q1, (0 : Int), (0 : Int), (0 : Int))
    else tst (m26 a1) (0 : Int) fun (q2 : Int) => bif (q2 != (0 : Int)) then some (q2, (0 : Int), (0 : Int), (0 : Int))
      else tst (m17 (a0, (0 : Int))) (0 : Int) fun (q3 : Int) => tst (m48 (a0, a1)) [] fun (q4 : (List Int)) => bif (decide ((Nat.cast (List.length q4) : Int) > (0 : Int))) then tst (m49 q4) (0 : Int) fun (q6 : Int) => tst (m50 q4) (0 : Int) fun (q7 : Int) => some ((0 : Int), q6, q7, q3)
          else some ((0 : Int), (0 : Int), (0 : Int), q3)
theorem e16 (m47 : (List Int) → Option Int) (m26 : (List (Int × Int)) → Option Int) (m17 : ((List Int) × Int) → Option Int) (m48 : ((List Int) × (List (Int × Int))) → Option (List Int)) (m49 : (List Int) → Option Int) (m50 : (List Int) → Option Int) (L : Nat) (a0 : (List Int)) (a1 : (List (Int × Int))) : evF prog (ev16 m47 m26 m17 m48 m49 m50) (loopN L) f16 (a16.enc (a0, a1)) = (g16 m47 m26 m17 m48 m49 m50 L a0 a1).map n16 := by
  rw [i16]; simp only [g16, map_bif, map_tst, Option.map_some, Option.map_none]
theorem s16 (m47 : (List Int) → Option Int) (m26 : (List (Int × Int)) → Option Int) (m17 : ((List Int) × Int) → Option Int) (m48 : ((List Int) × (List (Int × Int))) → Option (List Int)) (m49 : (List Int) → Option Int) (m50 : (List Int) → Option Int) (h47 : Sat prog cxT 47 (c47 m47)) (h26 : Sat prog cxT 26 (c26 m26)) (h17 : Sat prog cxT 17 (c17 m17)) (h48 : Sat prog cxT 48 (c48 m48)) (h49 : Sat prog cxT 49 (c49 m49)) (h50 : Sat prog cxT 50 (c50 m50)) (m : ((List Int) × (List (Int × Int))) → Option (Int × Int × Int × Int)) (hm : ∀ (x : ((List Int) × (List (Int × Int)))) t, m x = some t → ∃ L, g16 m47 m26 m17 m48 m49 m50 L x.1 x.2 = some t) : Sat prog cxT 16 (c16 m) :=
  sat_t cxT_ok cxT_pok (by rfl) (fn := f16) rfl a16 n16 dd16 m (ev16 m47 m26 m17 m48 m49 m50) (kok_cons h47 (kok_cons h26 (kok_cons h17 (kok_cons h48 (kok_cons h49 (kok_cons h50 kok_nil)))))) kwok_nil (fun L x => g16 m47 m26 m17 m48 m49 m50 L x.1 x.2) (fun L x => e16 m47 m26 m17 m48 m49 m50 L x.1 x.2) hm hs16
/-! loop.example/g00222/spec.SpreadOf -/
def ev35 (m24 : (List (Int × Int)) → Option Int) (m32 : ((List Int) × Int) → Option Int) (m61 : (Int × Int) → Option Int) (m62 : (Int × Int) → Option Int) : Env cxT := { Kc := kcOf [(24, c24 m24), (32, c32 m32), (61, c61 m61), (62, c62 m62)], Kw := kwOf [], lv := fun i => if i = 0 then [(0, [some 2]), (1, [some 31]), (4, []), (6, []), (7, []), (8, [])] else [], xv := fun i => if i = 0 then some [(4, []), (6, [])] else none }
def S35_0 (a0 : (List Int)) (a1 : (List (Int × Int))) (v0_4_0 : Int) (v0_4_1 : Int) (v0_4_2 : Int) (v0_4_3 : Int) (v0_6_0 : Int) (v0_6_1 : Int) (v0_6_2 : Int) (v0_6_3 : Int) (v0_7 : Bool) (v0_8 : Int) : St cxT.ty := { slots := [(.inl (.inl (ls { own := 0, nm := 0, e := 2, o := false, xs := a0 }))), (.inl (.inl (ls { own := 0, nm := 0, e := 31, o := false, xs := a1 }))), junk, junk, (.inr (.inr { kind := 0, nm := 256, cells := [(lv (.int .i64 v0_4_0)), (lv (.int .i64 v0_4_1)), (lv (.int .i64 v0_4_2)), (lv (.int .i64 v0_4_3))], s := { own := 0, nm := 0, e := 0, o := false, xs := ([] : List (PUnit)) }, i := 0, off := 0 })), junk, (.inr (.inr { kind := 0, nm := 384, cells := [(lv (.int .i64 v0_6_0)), (lv (.int .i64 v0_6_1)), (lv (.int .i64 v0_6_2)), (lv (.int .i64 v0_6_3))], s := { own := 0, nm := 0, e := 0, o := false, xs := ([] : List (PUnit)) }, i := 0, off := 0 })), (.inl (.inl (lv (.bool v0_7)))), (.inl (.inl (lv (.int .i64 v0_8))))] ++ List.replicate 49 junk, D := [], F := [], ctr := 1 }
def X35_0 (a0 : (List Int)) (a1 : (List (Int × Int))) (w0_4_0 : Int) (w0_4_1 : Int) (w0_4_2 : Int) (w0_4_3 : Int) (w0_6_0 : Int) (w0_6_1 : Int) (w0_6_2 : Int) (w0_6_3 : Int) : St cxT.ty := { slots := [junk, junk, junk, junk, (.inr (.inr { kind := 0, nm := 256, cells := [(lv (.int .i64 w0_4_0)), (lv (.int .i64 w0_4_1)), (lv (.int .i64 w0_4_2)), (lv (.int .i64 w0_4_3))], s := { own := 0, nm := 0, e := 0, o := false, xs := ([] : List (PUnit)) }, i := 0, off := 0 })), junk, (.inr (.inr { kind := 0, nm := 384, cells := [(lv (.int .i64 w0_6_0)), (lv (.int .i64 w0_6_1)), (lv (.int .i64 w0_6_2)), (lv (.int .i64 w0_6_3))], s := { own := 0, nm := 0, e := 0, o := false, xs := ([] : List (PUnit)) }, i := 0, off := 0 }))] ++ List.replicate 51 junk, D := [], F := [], ctr := 1 }
theorem i35 (m24 : (List (Int × Int)) → Option Int) (m32 : ((List Int) × Int) → Option Int) (m61 : (Int × Int) → Option Int) (m62 : (Int × Int) → Option Int) (L : Nat) (a0 : (List Int)) (a1 : (List (Int × Int))) : evF prog (ev35 m24 m32 m61 m62) (loopN L) f35 (a35.enc (a0, a1)) =
  bif ((Nat.cast (List.length a0) : Int) != (31 : Int)) then some (n35 ((1 : Int), (0 : Int), (0 : Int), (0 : Int)))
  else tst (m24 a1) (0 : Int) fun (q1 : Int) => bif (q1 != (0 : Int)) then some (n35 (q1, (0 : Int), (0 : Int), (0 : Int)))
    else tst (m32 (a0, (0 : Int))) (0 : Int) fun (q2 : Int) => headF prog (ev35 m24 m32 m61 m62) L f35 0 [1, 1, 1, 1, 1, 0, 1, 0, 0] (outK (outV prog f35) (topK prog (ev35 m24 m32 m61 m62) L f35 [1, 1, 1, 1, 1, 0, 1] (outV prog f35)).n (topK prog (ev35 m24 m32 m61 m62) L f35 [1, 1, 1, 1, 1, 0, 1] (outV prog f35)).x) L (S35_0 a0 a1 (0 : Int) (0 : Int) (0 : Int) (0 : Int) (0 : Int) (0 : Int) (0 : Int) q2 Bool.true (0 : Int)) := by kernel_rfl
theorem r35_0 (m24 : (List (Int × Int)) → Option Int) (m32 : ((List Int) × Int) → Option Int) (m61 : (Int × Int) → Option Int) (m62 : (Int × Int) → Option Int) (L : Nat) (a0 : (List Int)) (a1 : (List (Int × Int))) (k : St cxT.ty → Option (V cxT.ty)) (xk : Nat → St cxT.ty → Option (V cxT.ty)) (g : St cxT.ty → Option (V cxT.ty)) (v0_4_0 : Int) (v0_4_1 : Int) (v0_4_2 : Int) (v0_4_3 : Int) (v0_6_0 : Int) (v0_6_1 : Int) (v0_6_2 : Int) (v0_6_3 : Int) (v0_7 : Bool) (v0_8 : Int) : roundF prog (ev35 m24 m32 m61 m62) L f35 0 [1, 1, 1, 1, 1, 0, 1, 0, 0] (outK (outV prog f35) k xk) g (S35_0 a0 a1 v0_4_0 v0_4_1 v0_4_2 v0_4_3 v0_6_0 v0_6_1 v0_6_2 v0_6_3 v0_7 v0_8) =
  bif (decide (v0_8 < (Nat.cast (List.length a1) : Int))) then bif ((decide ((0 : Int) ≤ v0_8)) && (decide (v0_8 < (Nat.cast (List.length a1) : Int)))) then bif ((List.getD a1 (Int.toNat v0_8) ((0 : Int), (0 : Int))).2 == (0 : Int)) then g (S35_0 a0 a1 v0_4_0 v0_4_1 v0_4_2 v0_4_3 v0_6_0 v0_6_1 v0_6_2 v0_6_3 v0_7 (Go.IntKind.wrap Go.IntKind.i64 (v0_8 + (1 : Int))))
      else bif ((decide ((0 : Int) ≤ v0_8)) && (decide (v0_8 < (Nat.cast (List.length a1) : Int)))) then tst (m32 (a0, (List.getD a1 (Int.toNat v0_8) ((0 : Int), (0 : Int))).1)) (0 : Int) fun (q4 : Int) => bif v0_7 then tst (m61 (q4, q4)) (0 : Int) fun (q6 : Int) => tst (m62 (q4, q4)) (0 : Int) fun (q7 : Int) => g (S35_0 a0 a1 v0_4_0 v0_4_1 v0_4_2 v0_4_3 v0_6_0 q6 q7 v0_6_3 Bool.false (Go.IntKind.wrap Go.IntKind.i64 (v0_8 + (1 : Int))))
          else tst (m61 (v0_6_1, q4)) (0 : Int) fun (q5 : Int) => tst (m62 (v0_6_2, q4)) (0 : Int) fun (q6 : Int) => g (S35_0 a0 a1 v0_4_0 v0_4_1 v0_4_2 v0_4_3 v0_6_0 q5 q6 v0_6_3 Bool.false (Go.IntKind.wrap Go.IntKind.i64 (v0_8 + (1 : Int))))
      else none
    else none
  else k (X35_0 a0 a1 v0_4_0 v0_4_1 v0_4_2 v0_4_3 v0_6_0 v0_6_1 v0_6_2 v0_6_3) := by kernel_rfl
theorem t35_0 (m24 : (List (Int × Int)) → Option Int) (m32 : ((List Int) × Int) → Option Int) (m61 : (Int × Int) → Option Int) (m62 : (Int × Int) → Option Int) (L : Nat) (a0 : (List Int)) (a1 : (List (Int × Int))) (w0_4_0 : Int) (w0_4_1 : Int) (w0_4_2 : Int) (w0_4_3 : Int) (w0_6_0 : Int) (w0_6_1 : Int) (w0_6_2 : Int) (w0_6_3 : Int) : (topK prog (ev35 m24 m32 m61 m62) L f35 [1, 1, 1, 1, 1, 0, 1] (outV prog f35)).n (X35_0 a0 a1 w0_4_0 w0_4_1 w0_4_2 w0_4_3 w0_6_0 w0_6_1 w0_6_2 w0_6_3) =
  some (n35 (w0_6_0, w0_6_1, w0_6_2, w0_6_3)) := by kernel_rfl
def l35_0 (m24 : (List (Int × Int)) → Option Int) (m32 : ((List Int) × Int) → Option Int) (m61 : (Int × Int) → Option Int) (m62 : (Int × Int) → Option Int) (L : Nat) (a0 : (List Int)) (a1 : (List (Int × Int))) : Nat → Int → Int → Int → Int → Int → Int → Int → Int → Bool → Int → (Int → Int → Int → Int → Int → Int → Int → Int → Option (Int × Int × Int × Int)) → Option (Int × Int × Int × Int)
  | 0, _, _, _, _, _, _, _, _, _, _, _ => none
  | n + 1, v0_4_0, v0_4_1, v0_4_2, v0_4_3, v0_6_0, v0_6_1, v0_6_2, v0_6_3, v0_7, v0_8, k =>
    bif (decide (v0_8 < (Nat.cast (List.length a1) : Int))) then bif ((decide ((0 : Int) ≤ v0_8)) && (decide (v0_8 < (Nat.cast (List.length a1) : Int)))) then bif ((List.getD a1 (Int.toNat v0_8) ((0 : Int), (0 : Int))).2 == (0 : Int)) then l35_0 m24 m32 m61 m62 L a0 a1 n v0_4_0 v0_4_1 v0_4_2 v0_4_3 v0_6_0 v0_6_1 v0_6_2 v0_6_3 v0_7 (Go.IntKind.wrap Go.IntKind.i64 (v0_8 + (1 : Int))) k
        else bif ((decide ((0 : Int) ≤ v0_8)) && (decide (v0_8 < (Nat.cast (List.length a1) : Int)))) then tst (m32 (a0, (List.getD a1 (Int.toNat v0_8) ((0 : Int), (0 : Int))).1)) (0 : Int) fun (q5 : Int) => bif v0_7 then tst (m61 (q5, q5)) (0 : Int) fun (q7 : Int) => tst (m62 (q5, q5)) (0 : Int) fun (q8 : Int) => l35_0 m24 m32 m61 m62 L a0 a1 n v0_4_0 v0_4_1 v0_4_2 v0_4_3 v0_6_0 q7 q8 v0_6_3 Bool.false (Go.IntKind.wrap Go.IntKind.i64 (v0_8 + (1 : Int))) k
            else tst (m61 (v0_6_1, q5)) (0 : Int) fun (q6 : Int) => tst (m62 (v0_6_2, q5)) (0 : Int) fun (q7 : Int) => l35_0 m24 m32 m61 m62 L a0 a1 n v0_4_0 v0_4_1 v0_4_2 v0_4_3 v0_6_0 q6 q7 v0_6_3 Bool.false (Go.IntKind.wrap Go.IntKind.i64 (v0_8 + (1 : Int))) k
        else none
      else none
    else k v0_4_0 v0_4_1 v0_4_2 v0_4_3 v0_6_0 v0_6_1 v0_6_2 v0_6_3
theorem h35_0 (m24 : (List (Int × Int)) → Option Int) (m32 : ((List Int) × Int) → Option Int) (m61 : (Int × Int) → Option Int) (m62 : (Int × Int) → Option Int) (L : Nat) (a0 : (List Int)) (a1 : (List (Int × Int))) (k : St cxT.ty → Option (V cxT.ty)) (xk : Nat → St cxT.ty → Option (V cxT.ty)) (k' : Int → Int → Int → Int → Int → Int → Int → Int → Option (Int × Int × Int × Int)) (hk : ∀ (w0_4_0 : Int) (w0_4_1 : Int) (w0_4_2 : Int) (w0_4_3 : Int) (w0_6_0 : Int) (w0_6_1 : Int) (w0_6_2 : Int) (w0_6_3 : Int), k (X35_0 a0 a1 w0_4_0 w0_4_1 w0_4_2 w0_4_3 w0_6_0 w0_6_1 w0_6_2 w0_6_3) = (k' w0_4_0 w0_4_1 w0_4_2 w0_4_3 w0_6_0 w0_6_1 w0_6_2 w0_6_3).map n35) : ∀ (n : Nat) (v0_4_0 : Int) (v0_4_1 : Int) (v0_4_2 : Int) (v0_4_3 : Int) (v0_6_0 : Int) (v0_6_1 : Int) (v0_6_2 : Int) (v0_6_3 : Int) (v0_7 : Bool) (v0_8 : Int), headF prog (ev35 m24 m32 m61 m62) L f35 0 [1, 1, 1, 1, 1, 0, 1, 0, 0] (outK (outV prog f35) k xk) n (S35_0 a0 a1 v0_4_0 v0_4_1 v0_4_2 v0_4_3 v0_6_0 v0_6_1 v0_6_2 v0_6_3 v0_7 v0_8) = (l35_0 m24 m32 m61 m62 L a0 a1 n v0_4_0 v0_4_1 v0_4_2 v0_4_3 v0_6_0 v0_6_1 v0_6_2 v0_6_3 v0_7 v0_8 k').map n35
  | 0, _, _, _, _, _, _, _, _, _, _ => rfl
  | n + 1, v0_4_0, v0_4_1, v0_4_2, v0_4_3, v0_6_0, v0_6_1, v0_6_2, v0_6_3, v0_7, v0_8 => by
    rw [headF_round, r35_0]
    have ih := h35_0 m24 m32 m61 m62 L a0 a1 k xk k' hk n
    simp only [l35_0, map_bif, map_tst, Option.map_some, Option.map_none, ih, hk]
def g35 (m24 : (List (Int × Int)) → Option Int) (m32 : ((List Int) × Int) → Option Int) (m61 : (Int × Int) → Option Int) (m62 : (Int × Int) → Option Int) (L : Nat) (a0 : (List Int)) (a1 : (List (Int × Int))) : Option (Int × Int × Int × Int) :=
  bif ((Nat.cast (List.length a0) : Int) != (31 : Int)) then some ((1 : Int), (0 : Int), (0 : Int), (0 : Int))
  else tst (m24 a1) (0 : Int) fun (q1 : Int) => bif (q1 != (0 : Int)) then some (q1, (0 : Int), (0 : Int), (0 : Int))
    else tst (m32 (a0, (0 : Int))) (0 : Int) fun (q2 : Int) => l35_0 m24 m32 m61 m62 L a0 a1 L (0 : Int) (0 : Int) (0 : Int) (0 : Int) (0 : Int) (0 : Int) (0 : Int) q2 Bool.true (0 : Int) (fun (w0_4_0 : Int) (w0_4_1 : Int) (w0_4_2 : Int) (w0_4_3 : Int) (w0_6_0 : Int) (w0_6_1 : Int) (w0_6_2 : Int) (w0_6_3 : Int) => some (w0_6_0, w0_6_1, w0_6_2, w0_6_3))
theorem e35 (m24 : (List (Int × Int)) → Option Int) (m32 : ((List Int) × Int) → Option Int) (m61 : (Int × Int) → Option Int) (m62 : (Int × Int) → Option Int) (L : Nat) (a0 : (List Int)) (a1 : (List (Int × Int))) : evF prog (ev35 m24 m32 m61 m62) (loopN L) f35 (a35.enc (a0, a1)) = (g35 m24 m32 m61 m62 L a0 a1).map n35 := by
  let K'0 : Int → Int → Int → Int → Int → Int → Int → Int → Option (Int × Int × Int × Int) := (fun (w0_4_0 : Int) (w0_4_1 : Int) (w0_4_2 : Int) (w0_4_3 : Int) (w0_6_0 : Int) (w0_6_1 : Int) (w0_6_2 : Int) (w0_6_3 : Int) => some (w0_6_0, w0_6_1, w0_6_2, w0_6_3))
  have hin0 : ∀ (v0_4_0 : Int) (v0_4_1 : Int) (v0_4_2 : Int) (v0_4_3 : Int) (v0_6_0 : Int) (v0_6_1 : Int) (v0_6_2 : Int) (v0_6_3 : Int) (v0_7 : Bool) (v0_8 : Int), headF prog (ev35 m24 m32 m61 m62) L f35 0 [1, 1, 1, 1, 1, 0, 1, 0, 0] (outK (outV prog f35) (topK prog (ev35 m24 m32 m61 m62) L f35 [1, 1, 1, 1, 1, 0, 1] (outV prog f35)).n (topK prog (ev35 m24 m32 m61 m62) L f35 [1, 1, 1, 1, 1, 0, 1] (outV prog f35)).x) L (S35_0 a0 a1 v0_4_0 v0_4_1 v0_4_2 v0_4_3 v0_6_0 v0_6_1 v0_6_2 v0_6_3 v0_7 v0_8) = (l35_0 m24 m32 m61 m62 L a0 a1 L v0_4_0 v0_4_1 v0_4_2 v0_4_3 v0_6_0 v0_6_1 v0_6_2 v0_6_3 v0_7 v0_8 K'0).map n35 := fun v0_4_0 v0_4_1 v0_4_2 v0_4_3 v0_6_0 v0_6_1 v0_6_2 v0_6_3 v0_7 v0_8 => h35_0 m24 m32 m61 m62 L a0 a1 _ _ K'0 (fun w0_4_0 w0_4_1 w0_4_2 w0_4_3 w0_6_0 w0_6_1 w0_6_2 w0_6_3 => by rw [t35_0]; simp only [K'0, map_bif, map_tst, Option.map_some, Option.map_none]) L v0_4_0 v0_4_1 v0_4_2 v0_4_3 v0_6_0 v0_6_1 v0_6_2 v0_6_3 v0_7 v0_8
  rw [i35]; simp only [g35, map_bif, map_tst, Option.map_some, Option.map_none, hin0, K'0]
theorem s35 (m24 : (List (Int × Int)) → Option Int) (m32 : ((List Int) × Int) → Option Int) (m61 : (Int × Int) → Option Int) (m62 : (Int × Int) → Option Int) (h24 : Sat prog cxT 24 (c24 m24)) (h32 : Sat prog cxT 32 (c32 m32)) (h61 : Sat prog cxT 61 (c61 m61)) (h62 : Sat prog cxT 62 (c62 m62)) (m : ((List Int) × (List (Int × Int))) → Option (Int × Int × Int × Int)) (hm : ∀ (x : ((List Int) × (List (Int × Int)))) t, m x = some t → ∃ L, g35 m24 m32 m61 m62 L x.1 x.2 = some t) : Sat prog cxT 35 (c35 m) :=
  sat_t cxT_ok cxT_pok (by rfl) (fn := f35) rfl a35 n35 dd35 m (ev35 m24 m32 m61 m62) (kok_cons h24 (kok_cons h32 (kok_cons h61 (kok_cons h62 kok_nil)))) kwok_nil (fun L x => g35 m24 m32 m61 m62 L x.1 x.2) (fun L x => e35 m24 m32 m61 m62 L x.1 x.2) hm hs35
/-! loop.example/g00222/impl.countsOf -/
def ev48 (m17 : ((List Int) × Int) → Option Int) : Env cxT := { Kc := kcOf [(17, c17 m17)], Kw := kwOf [], lv := fun i => if i = 0 then [(0, [some 2]), (5, [some 2]), (8, [some 31]), (9, []), (10, [])] else [], xv := fun i => if i = 0 then some [(5, [some 2])] else none }
def S48_0 (a0 : (List Int)) (a1 : (List (Int × Int))) (v0_5 : (List Int)) (v0_10 : Int) : St cxT.ty := { slots := [(.inl (.inl (ls { own := 0, nm := 0, e := 2, o := false, xs := a0 }))), junk, junk, junk, junk, (.inl (.inl (ls { own := 1, nm := 320, e := 2, o := true, xs := v0_5 }))), junk, junk, (.inl (.inl (ls { own := 0, nm := 0, e := 31, o := false, xs := a1 }))), (.inl (.inl (lv (.int .i64 (Nat.cast (List.length a1) : Int))))), (.inl (.inl (lv (.int .i64 v0_10))))] ++ List.replicate 15 junk, D := [], F := [], ctr := 1 }
def X48_0 (a0 : (List Int)) (a1 : (List (Int × Int))) (w0_5 : (List Int)) : St cxT.ty := { slots := [junk, junk, junk, junk, junk, (.inl (.inl (ls { own := 1, nm := 320, e := 2, o := true, xs := w0_5 })))] ++ List.replicate 20 junk, D := [], F := [], ctr := 1 }
theorem i48 (m17 : ((List Int) × Int) → Option Int) (L : Nat) (a0 : (List Int)) (a1 : (List (Int × Int))) : evF prog (ev48 m17) (loopN L) f48 (a48.enc (a0, a1)) =
  headF prog (ev48 m17) L f48 0 [1, 1, 0, 1, 0, 0] (outK (outV prog f48) (topK prog (ev48 m17) L f48 [1, 1, 0, 1] (outV prog f48)).n (topK prog (ev48 m17) L f48 [1, 1, 0, 1] (outV prog f48)).x) L (S48_0 a0 a1 ([] : List (Int)) (0 : Int)) := by kernel_rfl
theorem r48_0 (m17 : ((List Int) × Int) → Option Int) (L : Nat) (a0 : (List Int)) (a1 : (List (Int × Int))) (k : St cxT.ty → Option (V cxT.ty)) (xk : Nat → St cxT.ty → Option (V cxT.ty)) (g : St cxT.ty → Option (V cxT.ty)) (v0_5 : (List Int)) (v0_10 : Int) : roundF prog (ev48 m17) L f48 0 [1, 1, 0, 1, 0, 0] (outK (outV prog f48) k xk) g (S48_0 a0 a1 v0_5 v0_10) =
  bif (decide (v0_10 < (Nat.cast (List.length a1) : Int))) then bif ((decide ((0 : Int) ≤ v0_10)) && (decide (v0_10 < (Nat.cast (List.length a1) : Int)))) then bif (decide ((List.getD a1 (Int.toNat v0_10) ((0 : Int), (0 : Int))).2 > (0 : Int))) then tst (m17 (a0, (List.getD a1 (Int.toNat v0_10) ((0 : Int), (0 : Int))).1)) (0 : Int) fun (q4 : Int) => bif (decide (((List.length v0_5) + (List.length (List.cons q4 ([] : List (Int))))) ≤ (1000000000 : Nat))) then g (S48_0 a0 a1 (v0_5 ++ (List.cons q4 ([] : List (Int)))) (Go.IntKind.wrap Go.IntKind.i64 (v0_10 + (1 : Int))))
          else none
      else g (S48_0 a0 a1 v0_5 (Go.IntKind.wrap Go.IntKind.i64 (v0_10 + (1 : Int))))
    else none
  else k (X48_0 a0 a1 v0_5) := by kernel_rfl
theorem t48_0 (m17 : ((List Int) × Int) → Option Int) (L : Nat) (a0 : (List Int)) (a1 : (List (Int × Int))) (w0_5 : (List Int)) : (topK prog (ev48 m17) L f48 [1, 1, 0, 1] (outV prog f48)).n (X48_0 a0 a1 w0_5) =
  some (n48 w0_5) := by kernel_rfl
def l48_0 (m17 : ((List Int) × Int) → Option Int) (L : Nat) (a0 : (List Int)) (a1 : (List (Int × Int))) : Nat → (List Int) → Int → ((List Int) → Option (List Int)) → Option (List Int)
  | 0, _, _, _ => none
  | n + 1, v0_5, v0_10, k =>
    bif (decide (v0_10 < (Nat.cast (List.length a1) : Int))) then bif ((decide ((0 : Int) ≤ v0_10)) && (decide (v0_10 < (Nat.cast (List.length a1) : Int)))) then bif (decide ((List.getD a1 (Int.toNat v0_10) ((0 : Int), (0 : Int))).2 > (0 : Int))) then tst (m17 (a0, (List.getD a1 (Int.toNat v0_10) ((0 : Int), (0 : Int))).1)) (0 : Int) fun (q5 : Int) => bif (decide (((List.length v0_5) + (List.length (List.cons q5 ([] : List (Int))))) ≤ (1000000000 : Nat))) then l48_0 m17 L a0 a1 n (v0_5 ++ (List.cons q5 ([] : List (Int)))) (Go.IntKind.wrap Go.IntKind.i64 (v0_10 + (1 : Int))) k
            else none
        else l48_0 m17 L a0 a1 n v0_5 (Go.IntKind.wrap Go.IntKind.i64 (v0_10 + (1 : Int))) k
      else none
    else k v0_5
theorem h48_0 (m17 : ((List Int) × Int) → Option Int) (L : Nat) (a0 : (List Int)) (a1 : (List (Int × Int))) (k : St cxT.ty → Option (V cxT.ty)) (xk : Nat → St cxT.ty → Option (V cxT.ty)) (k' : (List Int) → Option (List Int)) (hk : ∀ (w0_5 : (List Int)), k (X48_0 a0 a1 w0_5) = (k' w0_5).map n48) : ∀ (n : Nat) (v0_5 : (List Int)) (v0_10 : Int), headF prog (ev48 m17) L f48 0 [1, 1, 0, 1, 0, 0] (outK (outV prog f48) k xk) n (S48_0 a0 a1 v0_5 v0_10) = (l48_0 m17 L a0 a1 n v0_5 v0_10 k').map n48
  | 0, _, _ => rfl
  | n + 1, v0_5, v0_10 => by
    rw [headF_round, r48_0]
    have ih := h48_0 m17 L a0 a1 k xk k' hk n
    simp only [l48_0, map_bif, map_tst, Option.map_some, Option.map_none, ih, hk]
def g48 (m17 : ((List Int) × Int) → Option Int) (L : Nat) (a0 : (List Int)) (a1 : (List (Int × Int))) : Option (List Int) :=
  l48_0 m17 L a0 a1 L ([] : List (Int)) (0 : Int) (fun (w0_5 : (List Int)) => some w0_5)
theorem e48 (m17 : ((List Int) × Int) → Option Int) (L : Nat) (a0 : (List Int)) (a1 : (List (Int × Int))) : evF prog (ev48 m17) (loopN L) f48 (a48.enc (a0, a1)) = (g48 m17 L a0 a1).map n48 := by
  let K'0 : (List Int) → Option (List Int) := (fun (w0_5 : (List Int)) => some w0_5)
  have hin0 : ∀ (v0_5 : (List Int)) (v0_10 : Int), headF prog (ev48 m17) L f48 0 [1, 1, 0, 1, 0, 0] (outK (outV prog f48) (topK prog (ev48 m17) L f48 [1, 1, 0, 1] (outV prog f48)).n (topK prog (ev48 m17) L f48 [1, 1, 0, 1] (outV prog f48)).x) L (S48_0 a0 a1 v0_5 v0_10) = (l48_0 m17 L a0 a1 L v0_5 v0_10 K'0).map n48 := fun v0_5 v0_10 => h48_0 m17 L a0 a1 _ _ K'0 (fun w0_5 => by rw [t48_0]; simp only [K'0, map_bif, map_tst, Option.map_some, Option.map_none]) L v0_5 v0_10
  rw [i48]; simp only [g48, map_bif, map_tst, Option.map_some, Option.map_none, hin0, K'0]
theorem s48 (m17 : ((List Int) × Int) → Option Int) (h17 : Sat prog cxT 17 (c17 m17)) (m : ((List Int) × (List (Int × Int))) → Option (List Int)) (hm : ∀ (x : ((List Int) × (List (Int × Int)))) t, m x = some t → ∃ L, g48 m17 L x.1 x.2 = some t) : Sat prog cxT 48 (c48 m) :=
  sat_t cxT_ok cxT_pok (by rfl) (fn := f48) rfl a48 n48 dd48 m (ev48 m17) (kok_cons h17 kok_nil) kwok_nil (fun L x => g48 m17 L x.1 x.2) (fun L x => e48 m17 L x.1 x.2) hm hs48
/-! slices.Min[[]int64,int64] -/
def ev49 : Env cxT := { Kc := kcOf [], Kw := kwOf [], lv := fun i => if i = 0 then [(0, [some 2]), (3, []), (4, [])] else [], xv := fun i => if i = 0 then some [(3, [])] else none }
def S49_0 (a0 : (List Int)) (v0_3 : Int) (v0_4 : Int) : St cxT.ty := { slots := [(.inl (.inl (ls { own := 0, nm := 0, e := 2, o := false, xs := a0 }))), junk, junk, (.inl (.inl (lv (.int .i64 v0_3)))), (.inl (.inl (lv (.int .i64 v0_4))))] ++ List.replicate 20 junk, D := [], F := [], ctr := 1 }
def X49_0 (a0 : (List Int)) (w0_3 : Int) : St cxT.ty := { slots := [junk, junk, junk, (.inl (.inl (lv (.int .i64 w0_3))))] ++ List.replicate 21 junk, D := [], F := [], ctr := 1 }
theorem i49 (L : Nat) (a0 : (List Int)) : evF prog ev49 (loopN L) f49 (a49.enc a0) =
  bif (decide ((Nat.cast (List.length a0) : Int) < (1 : Int))) then none
  else bif ((decide ((0 : Int) ≤ (0 : Int))) && (decide ((0 : Int) < (Nat.cast (List.length a0) : Int)))) then headF prog ev49 L f49 0 [1, 1, 1, 0, 1, 0, 0] (outK (outV prog f49) (topK prog ev49 L f49 [1, 1, 1, 0, 1] (outV prog f49)).n (topK prog ev49 L f49 [1, 1, 1, 0, 1] (outV prog f49)).x) L (S49_0 a0 (List.getD a0 (0 : Nat) (0 : Int)) (1 : Int))
  else none := by kernel_rfl
theorem r49_0 (L : Nat) (a0 : (List Int)) (k : St cxT.ty → Option (V cxT.ty)) (xk : Nat → St cxT.ty → Option (V cxT.ty)) (g : St cxT.ty → Option (V cxT.ty)) (v0_3 : Int) (v0_4 : Int) : roundF prog ev49 L f49 0 [1, 1, 1, 0, 1, 0, 0] (outK (outV prog f49) k xk) g (S49_0 a0 v0_3 v0_4) =
  bif (decide (v0_4 < (Nat.cast (List.length a0) : Int))) then bif ((decide ((0 : Int) ≤ v0_4)) && (decide (v0_4 < (Nat.cast (List.length a0) : Int)))) then g (S49_0 a0 (ite ((List.getD a0 (Int.toNat v0_4) (0 : Int)) < v0_3) (List.getD a0 (Int.toNat v0_4) (0 : Int)) v0_3) (Go.IntKind.wrap Go.IntKind.i64 (v0_4 + (1 : Int))))
    else none
  else k (X49_0 a0 v0_3) := by kernel_rfl
theorem t49_0 (L : Nat) (a0 : (List Int)) (w0_3 : Int) : (topK prog ev49 L f49 [1, 1, 1, 0, 1] (outV prog f49)).n (X49_0 a0 w0_3) =
  some (n49 w0_3) := by kernel_rfl
def l49_0 (L : Nat) (a0 : (List Int)) : Nat → Int → Int → (Int → Option Int) → Option Int
  | 0, _, _, _ => none
  | n + 1, v0_3, v0_4, k =>
    bif (decide (v0_4 < (Nat.cast (List.length a0) : Int))) then bif ((decide ((0 : Int) ≤ v0_4)) && (decide (v0_4 < (Nat.cast (List.length a0) : Int)))) then l49_0 L a0 n (ite ((List.getD a0 (Int.toNat v0_4) (0 : Int)) < v0_3) (List.getD a0 (Int.toNat v0_4) (0 : Int)) v0_3) (Go.IntKind.wrap Go.IntKind.i64 (v0_4 + (1 : Int))) k
      else none
    else k v0_3
theorem h49_0 (L : Nat) (a0 : (List Int)) (k : St cxT.ty → Option (V cxT.ty)) (xk : Nat → St cxT.ty → Option (V cxT.ty)) (k' : Int → Option Int) (hk : ∀ (w0_3 : Int), k (X49_0 a0 w0_3) = (k' w0_3).map n49) : ∀ (n : Nat) (v0_3 : Int) (v0_4 : Int), headF prog ev49 L f49 0 [1, 1, 1, 0, 1, 0, 0] (outK (outV prog f49) k xk) n (S49_0 a0 v0_3 v0_4) = (l49_0 L a0 n v0_3 v0_4 k').map n49
  | 0, _, _ => rfl
  | n + 1, v0_3, v0_4 => by
    rw [headF_round, r49_0]
    have ih := h49_0 L a0 k xk k' hk n
    simp only [l49_0, map_bif, map_tst, Option.map_some, Option.map_none, ih, hk]
def g49 (L : Nat) (a0 : (List Int)) : Option Int :=
  bif (decide ((Nat.cast (List.length a0) : Int) < (1 : Int))) then none
  else bif ((decide ((0 : Int) ≤ (0 : Int))) && (decide ((0 : Int) < (Nat.cast (List.length a0) : Int)))) then l49_0 L a0 L (List.getD a0 (0 : Nat) (0 : Int)) (1 : Int) (fun (w0_3 : Int) => some w0_3)
  else none
theorem e49 (L : Nat) (a0 : (List Int)) : evF prog ev49 (loopN L) f49 (a49.enc a0) = (g49 L a0).map n49 := by
  let K'0 : Int → Option Int := (fun (w0_3 : Int) => some w0_3)
  have hin0 : ∀ (v0_3 : Int) (v0_4 : Int), headF prog ev49 L f49 0 [1, 1, 1, 0, 1, 0, 0] (outK (outV prog f49) (topK prog ev49 L f49 [1, 1, 1, 0, 1] (outV prog f49)).n (topK prog ev49 L f49 [1, 1, 1, 0, 1] (outV prog f49)).x) L (S49_0 a0 v0_3 v0_4) = (l49_0 L a0 L v0_3 v0_4 K'0).map n49 := fun v0_3 v0_4 => h49_0 L a0 _ _ K'0 (fun w0_3 => by rw [t49_0]; simp only [K'0, map_bif, map_tst, Option.map_some, Option.map_none]) L v0_3 v0_4
  rw [i49]; simp only [g49, map_bif, map_tst, Option.map_some, Option.map_none, hin0, K'0]
theorem s49 (m : (List Int) → Option Int) (hm : ∀ (x : (List Int)) t, m x = some t → ∃ L, g49 L x = some t) : Sat prog cxT 49 (c49 m) :=
  sat_t cxT_ok cxT_pok (by rfl) (fn := f49) rfl a49 n49 dd49 m ev49 kok_nil kwok_nil (fun L x => g49 L x) (fun L x => e49 L x) hm hs49
/-! slices.Max[[]int64,int64] -/
def ev50 : Env cxT := { Kc := kcOf [], Kw := kwOf [], lv := fun i => if i = 0 then [(0, [some 2]), (3, []), (4, [])] else [], xv := fun i => if i = 0 then some [(3, [])] else none }
def S50_0 (a0 : (List Int)) (v0_3 : Int) (v0_4 : Int) : St cxT.ty := { slots := [(.inl (.inl (ls { own := 0, nm := 0, e := 2, o := false, xs := a0 }))), junk, junk, (.inl (.inl (lv (.int .i64 v0_3)))), (.inl (.inl (lv (.int .i64 v0_4))))] ++ List.replicate 20 junk, D := [], F := [], ctr := 1 }
def X50_0 (a0 : (List Int)) (w0_3 : Int) : St cxT.ty := { slots := [junk, junk, junk, (.inl (.inl (lv (.int .i64 w0_3))))] ++ List.replicate 21 junk, D := [], F := [], ctr := 1 }
theorem i50 (L : Nat) (a0 : (List Int)) : evF prog ev50 (loopN L) f50 (a50.enc a0) =
  bif (decide ((Nat.cast (List.length a0) : Int) < (1 : Int))) then none
  else bif ((decide ((0 : Int) ≤ (0 : Int))) && (decide ((0 : Int) < (Nat.cast (List.length a0) : Int)))) then headF prog ev50 L f50 0 [1, 1, 1, 0, 1, 0, 0] (outK (outV prog f50) (topK prog ev50 L f50 [1, 1, 1, 0, 1] (outV prog f50)).n (topK prog ev50 L f50 [1, 1, 1, 0, 1] (outV prog f50)).x) L (S50_0 a0 (List.getD a0 (0 : Nat) (0 : Int)) (1 : Int))
  else none := by kernel_rfl
theorem r50_0 (L : Nat) (a0 : (List Int)) (k : St cxT.ty → Option (V cxT.ty)) (xk : Nat → St cxT.ty → Option (V cxT.ty)) (g : St cxT.ty → Option (V cxT.ty)) (v0_3 : Int) (v0_4 : Int) : roundF prog ev50 L f50 0 [1, 1, 1, 0, 1, 0, 0] (outK (outV prog f50) k xk) g (S50_0 a0 v0_3 v0_4) =
  bif (decide (v0_4 < (Nat.cast (List.length a0) : Int))) then bif ((decide ((0 : Int) ≤ v0_4)) && (decide (v0_4 < (Nat.cast (List.length a0) : Int)))) then g (S50_0 a0 (ite ((List.getD a0 (Int.toNat v0_4) (0 : Int)) > v0_3) (List.getD a0 (Int.toNat v0_4) (0 : Int)) v0_3) (Go.IntKind.wrap Go.IntKind.i64 (v0_4 + (1 : Int))))
    else none
  else k (X50_0 a0 v0_3) := by kernel_rfl
theorem t50_0 (L : Nat) (a0 : (List Int)) (w0_3 : Int) : (topK prog ev50 L f50 [1, 1, 1, 0, 1] (outV prog f50)).n (X50_0 a0 w0_3) =
  some (n50 w0_3) := by kernel_rfl
def l50_0 (L : Nat) (a0 : (List Int)) : Nat → Int → Int → (Int → Option Int) → Option Int
  | 0, _, _, _ => none
  | n + 1, v0_3, v0_4, k =>
    bif (decide (v0_4 < (Nat.cast (List.length a0) : Int))) then bif ((decide ((0 : Int) ≤ v0_4)) && (decide (v0_4 < (Nat.cast (List.length a0) : Int)))) then l50_0 L a0 n (ite ((List.getD a0 (Int.toNat v0_4) (0 : Int)) > v0_3) (List.getD a0 (Int.toNat v0_4) (0 : Int)) v0_3) (Go.IntKind.wrap Go.IntKind.i64 (v0_4 + (1 : Int))) k
      else none
    else k v0_3
theorem h50_0 (L : Nat) (a0 : (List Int)) (k : St cxT.ty → Option (V cxT.ty)) (xk : Nat → St cxT.ty → Option (V cxT.ty)) (k' : Int → Option Int) (hk : ∀ (w0_3 : Int), k (X50_0 a0 w0_3) = (k' w0_3).map n50) : ∀ (n : Nat) (v0_3 : Int) (v0_4 : Int), headF prog ev50 L f50 0 [1, 1, 1, 0, 1, 0, 0] (outK (outV prog f50) k xk) n (S50_0 a0 v0_3 v0_4) = (l50_0 L a0 n v0_3 v0_4 k').map n50
  | 0, _, _ => rfl
  | n + 1, v0_3, v0_4 => by
    rw [headF_round, r50_0]
    have ih := h50_0 L a0 k xk k' hk n
    simp only [l50_0, map_bif, map_tst, Option.map_some, Option.map_none, ih, hk]
def g50 (L : Nat) (a0 : (List Int)) : Option Int :=
  bif (decide ((Nat.cast (List.length a0) : Int) < (1 : Int))) then none
  else bif ((decide ((0 : Int) ≤ (0 : Int))) && (decide ((0 : Int) < (Nat.cast (List.length a0) : Int)))) then l50_0 L a0 L (List.getD a0 (0 : Nat) (0 : Int)) (1 : Int) (fun (w0_3 : Int) => some w0_3)
  else none
theorem e50 (L : Nat) (a0 : (List Int)) : evF prog ev50 (loopN L) f50 (a50.enc a0) = (g50 L a0).map n50 := by
  let K'0 : Int → Option Int := (fun (w0_3 : Int) => some w0_3)
  have hin0 : ∀ (v0_3 : Int) (v0_4 : Int), headF prog ev50 L f50 0 [1, 1, 1, 0, 1, 0, 0] (outK (outV prog f50) (topK prog ev50 L f50 [1, 1, 1, 0, 1] (outV prog f50)).n (topK prog ev50 L f50 [1, 1, 1, 0, 1] (outV prog f50)).x) L (S50_0 a0 v0_3 v0_4) = (l50_0 L a0 L v0_3 v0_4 K'0).map n50 := fun v0_3 v0_4 => h50_0 L a0 _ _ K'0 (fun w0_3 => by rw [t50_0]; simp only [K'0, map_bif, map_tst, Option.map_some, Option.map_none]) L v0_3 v0_4
  rw [i50]; simp only [g50, map_bif, map_tst, Option.map_some, Option.map_none, hin0, K'0]
theorem s50 (m : (List Int) → Option Int) (hm : ∀ (x : (List Int)) t, m x = some t → ∃ L, g50 L x = some t) : Sat prog cxT 50 (c50 m) :=
  sat_t cxT_ok cxT_pok (by rfl) (fn := f50) rfl a50 n50 dd50 m ev50 kok_nil kwok_nil (fun L x => g50 L x) (fun L x => e50 L x) hm hs50
/-! loop.example/g00222/impl.WithoutShare -/
def ev19 (m26 : (List (Int × Int)) → Option Int) : Env cxT := { Kc := kcOf [(26, c26 m26)], Kw := kwOf [], lv := fun i => if i = 0 then [(0, [some 31]), (1, []), (4, [none, some 31]), (6, [some 31]), (15, [some 31]), (16, []), (17, [])] else [], xv := fun i => if i = 0 then some [(0, [some 31]), (4, [none, some 31]), (6, [some 31])] else none }
def S19_0 (a0 : (List (Int × Int))) (a1 : Int) (v0_4_0 : Int) (v0_4_1 : (List (Int × Int))) (v0_6 : (List (Int × Int))) (v0_17 : Int) : St cxT.ty := { slots := [(.inl (.inl (ls { own := 0, nm := 0, e := 31, o := false, xs := a0 }))), (.inl (.inl (lv (.int .i64 a1)))), junk, junk, (.inr (.inr { kind := 0, nm := 256, cells := [(lv (.int .i64 v0_4_0)), (ls { own := 1, nm := 258, e := 31, o := true, xs := v0_4_1 })], s := { own := 0, nm := 0, e := 0, o := false, xs := ([] : List (PUnit)) }, i := 0, off := 0 })), junk, (.inl (.inl (ls { own := 1, nm := 384, e := 31, o := true, xs := v0_6 }))), junk, junk, junk, junk, junk, junk, junk, junk, (.inl (.inl (ls { own := 0, nm := 0, e := 31, o := false, xs := a0 }))), (.inl (.inl (lv (.int .i64 (Nat.cast (List.length a0) : Int))))), (.inl (.inl (lv (.int .i64 v0_17))))] ++ List.replicate 20 junk, D := [], F := [], ctr := 1 }
def X19_0 (a0 : (List (Int × Int))) (a1 : Int) (w0_4_0 : Int) (w0_4_1 : (List (Int × Int))) (w0_6 : (List (Int × Int))) : St cxT.ty := { slots := [(.inl (.inl (ls { own := 0, nm := 0, e := 31, o := false, xs := a0 }))), junk, junk, junk, (.inr (.inr { kind := 0, nm := 256, cells := [(lv (.int .i64 w0_4_0)), (ls { own := 1, nm := 258, e := 31, o := true, xs := w0_4_1 })], s := { own := 0, nm := 0, e := 0, o := false, xs := ([] : List (PUnit)) }, i := 0, off := 0 })), junk, (.inl (.inl (ls { own := 1, nm := 384, e := 31, o := true, xs := w0_6 })))] ++ List.replicate 31 junk, D := [], F := [], ctr := 1 }
theorem i19 (m26 : (List (Int × Int)) → Option Int) (L : Nat) (a0 : (List (Int × Int))) (a1 : Int) : evF prog (ev19 m26) (loopN L) f19 (a19.enc (a0, a1)) =
  tst (m26 a0) (0 : Int) fun (q1 : Int) => bif (q1 != (0 : Int)) then some (n19 (q1, ([] : List (Int × Int))))
    else headF prog (ev19 m26) L f19 0 [1, 1, 1, 0, 1, 0, 0] (outK (outV prog f19) (topK prog (ev19 m26) L f19 [1, 1, 1, 0, 1] (outV prog f19)).n (topK prog (ev19 m26) L f19 [1, 1, 1, 0, 1] (outV prog f19)).x) L (S19_0 a0 a1 (0 : Int) ([] : List (Int × Int)) ([] : List (Int × Int)) (0 : Int)) := by kernel_rfl
theorem r19_0 (m26 : (List (Int × Int)) → Option Int) (L : Nat) (a0 : (List (Int × Int))) (a1 : Int) (k : St cxT.ty → Option (V cxT.ty)) (xk : Nat → St cxT.ty → Option (V cxT.ty)) (g : St cxT.ty → Option (V cxT.ty)) (v0_4_0 : Int) (v0_4_1 : (List (Int × Int))) (v0_6 : (List (Int × Int))) (v0_17 : Int) : roundF prog (ev19 m26) L f19 0 [1, 1, 1, 0, 1, 0, 0] (outK (outV prog f19) k xk) g (S19_0 a0 a1 v0_4_0 v0_4_1 v0_6 v0_17) =
  bif (decide (v0_17 < (Nat.cast (List.length a0) : Int))) then bif ((decide ((0 : Int) ≤ v0_17)) && (decide (v0_17 < (Nat.cast (List.length a0) : Int)))) then bif ((List.getD a0 (Int.toNat v0_17) ((0 : Int), (0 : Int))).1 != a1) then bif (decide (((List.length v0_6) + (List.length (List.cons ((List.getD a0 (Int.toNat v0_17) ((0 : Int), (0 : Int))).1, (List.getD a0 (Int.toNat v0_17) ((0 : Int), (0 : Int))).2) ([] : List (Int × Int))))) ≤ (1000000000 : Nat))) then g (S19_0 a0 a1 v0_4_0 v0_4_1 (v0_6 ++ (List.cons ((List.getD a0 (Int.toNat v0_17) ((0 : Int), (0 : Int))).1, (List.getD a0 (Int.toNat v0_17) ((0 : Int), (0 : Int))).2) ([] : List (Int × Int)))) (Go.IntKind.wrap Go.IntKind.i64 (v0_17 + (1 : Int))))
        else none
      else g (S19_0 a0 a1 v0_4_0 v0_4_1 v0_6 (Go.IntKind.wrap Go.IntKind.i64 (v0_17 + (1 : Int))))
    else none
  else k (X19_0 a0 a1 v0_4_0 v0_4_1 v0_6) := by kernel_rfl
theorem t19_0 (m26 : (List (Int × Int)) → Option Int) (L : Nat) (a0 : (List (Int × Int))) (a1 : Int) (w0_4_0 : Int) (w0_4_1 : (List (Int × Int))) (w0_6 : (List (Int × Int))) : (topK prog (ev19 m26) L f19 [1, 1, 1, 0, 1] (outV prog f19)).n (X19_0 a0 a1 w0_4_0 w0_4_1 w0_6) =
  bif ((Nat.cast (List.length w0_6) : Int) == (Nat.cast (List.length a0) : Int)) then some (n19 ((4 : Int), ([] : List (Int × Int))))
  else some (n19 ((0 : Int), w0_6)) := by kernel_rfl
def l19_0 (m26 : (List (Int × Int)) → Option Int) (L : Nat) (a0 : (List (Int × Int))) (a1 : Int) : Nat → Int → (List (Int × Int)) → (List (Int × Int)) → Int → (Int → (List (Int × Int)) → (List (Int × Int)) → Option (Int × (List (Int × Int)))) → Option (Int × (List (Int × Int)))
  | 0, _, _, _, _, _ => none
  | n + 1, v0_4_0, v0_4_1, v0_6, v0_17, k =>
    bif (decide (v0_17 < (Nat.cast (List.length a0) : Int))) then bif ((decide ((0 : Int) ≤ v0_17)) && (decide (v0_17 < (Nat.cast (List.length a0) : Int)))) then bif ((List.getD a0 (Int.toNat v0_17) ((0 : Int), (0 : Int))).1 != a1) then bif (decide (((List.length v0_6) + (List.length (List.cons ((List.getD a0 (Int.toNat v0_17) ((0 : Int), (0 : Int))).1, (List.getD a0 (Int.toNat v0_17) ((0 : Int), (0 : Int))).2) ([] : List (Int × Int))))) ≤ (1000000000 : Nat))) then l19_0 m26 L a0 a1 n v0_4_0 v0_4_1 (v0_6 ++ (List.cons ((List.getD a0 (Int.toNat v0_17) ((0 : Int), (0 : Int))).1, (List.getD a0 (Int.toNat v0_17) ((0 : Int), (0 : Int))).2) ([] : List (Int × Int)))) (Go.IntKind.wrap Go.IntKind.i64 (v0_17 + (1 : Int))) k
          else none
        else l19_0 m26 L a0 a1 n v0_4_0 v0_4_1 v0_6 (Go.IntKind.wrap Go.IntKind.i64 (v0_17 + (1 : Int))) k
      else none
    else k v0_4_0 v0_4_1 v0_6
theorem h19_0 (m26 : (List (Int × Int)) → Option Int) (L : Nat) (a0 : (List (Int × Int))) (a1 : Int) (k : St cxT.ty → Option (V cxT.ty)) (xk : Nat → St cxT.ty → Option (V cxT.ty)) (k' : Int → (List (Int × Int)) → (List (Int × Int)) → Option (Int × (List (Int × Int)))) (hk : ∀ (w0_4_0 : Int) (w0_4_1 : (List (Int × Int))) (w0_6 : (List (Int × Int))), k (X19_0 a0 a1 w0_4_0 w0_4_1 w0_6) = (k' w0_4_0 w0_4_1 w0_6).map n19) : ∀ (n : Nat) (v0_4_0 : Int) (v0_4_1 : (List (Int × Int))) (v0_6 : (List (Int × Int))) (v0_17 : Int), headF prog (ev19 m26) L f19 0 [1, 1, 1, 0, 1, 0, 0] (outK (outV prog f19) k xk) n (S19_0 a0 a1 v0_4_0 v0_4_1 v0_6 v0_17) = (l19_0 m26 L a0 a1 n v0_4_0 v0_4_1 v0_6 v0_17 k').map n19
  | 0, _, _, _, _ => rfl
  | n + 1, v0_4_0, v0_4_1, v0_6, v0_17 => by
    rw [headF_round, r19_0]
    have ih := h19_0 m26 L a0 a1 k xk k' hk n
    simp only [l19_0, map_bif, map_tst, Option.map_some, Option.map_none, ih, hk]
def g19 (m26 : (List (Int × Int)) → Option Int) (L : Nat) (a0 : (List (Int × Int))) (a1 : Int) : Option (Int × (List (Int × Int))) :=
  tst (m26 a0) (0 : Int) fun (q1 : Int) => bif (q1 != (0 : Int)) then some (q1, ([] : List (Int × Int)))
    else l19_0 m26 L a0 a1 L (0 : Int) ([] : List (Int × Int)) ([] : List (Int × Int)) (0 : Int) (fun (w0_4_0 : Int) (w0_4_1 : (List (Int × Int))) (w0_6 : (List (Int × Int))) => bif ((Nat.cast (List.length w0_6) : Int) == (Nat.cast (List.length a0) : Int)) then some ((4 : Int), ([] : List (Int × Int)))
      else some ((0 : Int), w0_6))
theorem e19 (m26 : (List (Int × Int)) → Option Int) (L : Nat) (a0 : (List (Int × Int))) (a1 : Int) : evF prog (ev19 m26) (loopN L) f19 (a19.enc (a0, a1)) = (g19 m26 L a0 a1).map n19 := by
  let K'0 : Int → (List (Int × Int)) → (List (Int × Int)) → Option (Int × (List (Int × Int))) := (fun (w0_4_0 : Int) (w0_4_1 : (List (Int × Int))) (w0_6 : (List (Int × Int))) => bif ((Nat.cast (List.length w0_6) : Int) == (Nat.cast (List.length a0) : Int)) then some ((4 : Int), ([] : List (Int × Int)))
      else some ((0 : Int), w0_6))
  have hin0 : ∀ (v0_4_0 : Int) (v0_4_1 : (List (Int × Int))) (v0_6 : (List (Int × Int))) (v0_17 : Int), headF prog (ev19 m26) L f19 0 [1, 1, 1, 0, 1, 0, 0] (outK (outV prog f19) (topK prog (ev19 m26) L f19 [1, 1, 1, 0, 1] (outV prog f19)).n (topK prog (ev19 m26) L f19 [1, 1, 1, 0, 1] (outV prog f19)).x) L (S19_0 a0 a1 v0_4_0 v0_4_1 v0_6 v0_17) = (l19_0 m26 L a0 a1 L v0_4_0 v0_4_1 v0_6 v0_17 K'0).map n19 := fun v0_4_0 v0_4_1 v0_6 v0_17 => h19_0 m26 L a0 a1 _ _ K'0 (fun w0_4_0 w0_4_1 w0_6 => by rw [t19_0]; simp only [K'0, map_bif, map_tst, Option.map_some, Option.map_none]) L v0_4_0 v0_4_1 v0_6 v0_17
  rw [i19]; simp only [g19, map_bif, map_tst, Option.map_some, Option.map_none, hin0, K'0]
theorem s19 (m26 : (List (Int × Int)) → Option Int) (h26 : Sat prog cxT 26 (c26 m26)) (m : ((List (Int × Int)) × Int) → Option (Int × (List (Int × Int)))) (hm : ∀ (x : ((List (Int × Int)) × Int)) t, m x = some t → ∃ L, g19 m26 L x.1 x.2 = some t) : Sat prog cxT 19 (c19 m) :=
  sat_t cxT_ok cxT_pok (by rfl) (fn := f19) rfl a19 n19 dd19 m (ev19 m26) (kok_cons h26 kok_nil) kwok_nil (fun L x => g19 m26 L x.1 x.2) (fun L x => e19 m26 L x.1 x.2) hm hs19
/-! loop.example/g00222/spec.WithoutShare -/
def ev20 (m24 : (List (Int × Int)) → Option Int) : Env cxT := { Kc := kcOf [(24, c24 m24)], Kw := kwOf [], lv := fun i => if i = 0 then [(0, [some 31]), (1, []), (4, [none, some 31]), (6, [none, some 31]), (7, [])] else [], xv := fun i => if i = 0 then some [(0, [some 31]), (4, [none, some 31]), (6, [none, some 31])] else none }
def S20_0 (a0 : (List (Int × Int))) (a1 : Int) (v0_4_0 : Int) (v0_4_1 : (List (Int × Int))) (v0_6_0 : Int) (v0_6_1 : (List (Int × Int))) (v0_7 : Int) : St cxT.ty := { slots := [(.inl (.inl (ls { own := 0, nm := 0, e := 31, o := false, xs := a0 }))), (.inl (.inl (lv (.int .i64 a1)))), junk, junk, (.inr (.inr { kind := 0, nm := 256, cells := [(lv (.int .i64 v0_4_0)), (ls { own := 1, nm := 258, e := 31, o := true, xs := v0_4_1 })], s := { own := 0, nm := 0, e := 0, o := false, xs := ([] : List (PUnit)) }, i := 0, off := 0 })), junk, (.inr (.inr { kind := 0, nm := 384, cells := [(lv (.int .i64 v0_6_0)), (ls { own := 1, nm := 386, e := 31, o := true, xs := v0_6_1 })], s := { own := 0, nm := 0, e := 0, o := false, xs := ([] : List (PUnit)) }, i := 0, off := 0 })), (.inl (.inl (lv (.int .i64 v0_7))))] ++ List.replicate 37 junk, D := [], F := [], ctr := 1 }
def X20_0 (a0 : (List (Int × Int))) (a1 : Int) (w0_4_0 : Int) (w0_4_1 : (List (Int × Int))) (w0_6_0 : Int) (w0_6_1 : (List (Int × Int))) : St cxT.ty := { slots := [(.inl (.inl (ls { own := 0, nm := 0, e := 31, o := false, xs := a0 }))), junk, junk, junk, (.inr (.inr { kind := 0, nm := 256, cells := [(lv (.int .i64 w0_4_0)), (ls { own := 1, nm := 258, e := 31, o := true, xs := w0_4_1 })], s := { own := 0, nm := 0, e := 0, o := false, xs := ([] : List (PUnit)) }, i := 0, off := 0 })), junk, (.inr (.inr { kind := 0, nm := 384, cells := [(lv (.int .i64 w0_6_0)), (ls { own := 1, nm := 386, e := 31, o := true, xs := w0_6_1 })], s := { own := 0, nm := 0, e := 0, o := false, xs := ([] : List (PUnit)) }, i := 0, off := 0 }))] ++ List.replicate 38 junk, D := [], F := [], ctr := 1 }
theorem i20 (m24 : (List (Int × Int)) → Option Int) (L : Nat) (a0 : (List (Int × Int))) (a1 : Int) : evF prog (ev20 m24) (loopN L) f20 (a20.enc (a0, a1)) =
  tst (m24 a0) (0 : Int) fun (q1 : Int) => bif (q1 != (0 : Int)) then some (n20 (q1, ([] : List (Int × Int))))
    else headF prog (ev20 m24) L f20 0 [1, 1, 1, 0, 1, 0, 0] (outK (outV prog f20) (topK prog (ev20 m24) L f20 [1, 1, 1, 0, 1] (outV prog f20)).n (topK prog (ev20 m24) L f20 [1, 1, 1, 0, 1] (outV prog f20)).x) L (S20_0 a0 a1 (0 : Int) ([] : List (Int × Int)) (0 : Int) ([] : List (Int × Int)) (0 : Int)) := by kernel_rfl
theorem r20_0 (m24 : (List (Int × Int)) → Option Int) (L : Nat) (a0 : (List (Int × Int))) (a1 : Int) (k : St cxT.ty → Option (V cxT.ty)) (xk : Nat → St cxT.ty → Option (V cxT.ty)) (g : St cxT.ty → Option (V cxT.ty)) (v0_4_0 : Int) (v0_4_1 : (List (Int × Int))) (v0_6_0 : Int) (v0_6_1 : (List (Int × Int))) (v0_7 : Int) : roundF prog (ev20 m24) L f20 0 [1, 1, 1, 0, 1, 0, 0] (outK (outV prog f20) k xk) g (S20_0 a0 a1 v0_4_0 v0_4_1 v0_6_0 v0_6_1 v0_7) =
  bif (decide (v0_7 < (Nat.cast (List.length a0) : Int))) then bif ((decide ((0 : Int) ≤ v0_7)) && (decide (v0_7 < (Nat.cast (List.length a0) : Int)))) then bif ((List.getD a0 (Int.toNat v0_7) ((0 : Int), (0 : Int))).1 != a1) then bif ((decide ((0 : Int) ≤ v0_7)) && (decide (v0_7 < (Nat.cast (List.length a0) : Int)))) then bif (decide (((List.length v0_6_1) + (List.length (List.cons ((List.getD a0 (Int.toNat v0_7) ((0 : Int), (0 : Int))).1, (List.getD a0 (Int.toNat v0_7) ((0 : Int), (0 : Int))).2) ([] : List (Int × Int))))) ≤ (1000000000 : Nat))) then g (S20_0 a0 a1 v0_4_0 v0_4_1 v0_6_0 (v0_6_1 ++ (List.cons ((List.getD a0 (Int.toNat v0_7) ((0 : Int), (0 : Int))).1, (List.getD a0 (Int.toNat v0_7) ((0 : Int), (0 : Int))).2) ([] : List (Int × Int)))) (Go.IntKind.wrap Go.IntKind.i64 (v0_7 + (1 : Int))))
          else none
        else none
      else g (S20_0 a0 a1 v0_4_0 v0_4_1 v0_6_0 v0_6_1 (Go.IntKind.wrap Go.IntKind.i64 (v0_7 + (1 : Int))))
    else none
  else k (X20_0 a0 a1 v0_4_0 v0_4_1 v0_6_0 v0_6_1) := by kernel_rfl
theorem t20_0 (m24 : (List (Int × Int)) → Option Int) (L : Nat) (a0 : (List (Int × Int))) (a1 : Int) (w0_4_0 : Int) (w0_4_1 : (List (Int × Int))) (w0_6_0 : Int) (w0_6_1 : (List (Int × Int))) : (topK prog (ev20 m24) L f20 [1, 1, 1, 0, 1] (outV prog f20)).n (X20_0 a0 a1 w0_4_0 w0_4_1 w0_6_0 w0_6_1) =
  bif ((Nat.cast (List.length w0_6_1) : Int) == (Nat.cast (List.length a0) : Int)) then some (n20 ((4 : Int), ([] : List (Int × Int))))
  else some (n20 (w0_6_0, w0_6_1)) := by kernel_rfl
def l20_0 (m24 : (List (Int × Int)) → Option Int) (L : Nat) (a0 : (List (Int × Int))) (a1 : Int) : Nat → Int → (List (Int × Int)) → Int → (List (Int × Int)) → Int → (Int → (List (Int × Int)) → Int → (List (Int × Int)) → Option (Int × (List (Int × Int)))) → Option (Int × (List (Int × Int)))
  | 0, _, _, _, _, _, _ => none
  | n + 1, v0_4_0, v0_4_1, v0_6_0, v0_6_1, v0_7, k =>
    bif (decide (v0_7 < (Nat.cast (List.length a0) : Int))) then bif ((decide ((0 : Int) ≤ v0_7)) && (decide (v0_7 < (Nat.cast (List.length a0) : Int)))) then bif ((List.getD a0 (Int.toNat v0_7) ((0 : Int), (0 : Int))).1 != a1) then bif ((decide ((0 : Int) ≤ v0_7)) && (decide (v0_7 < (Nat.cast (List.length a0) : Int)))) then bif (decide (((List.length v0_6_1) + (List.length (List.cons ((List.getD a0 (Int.toNat v0_7) ((0 : Int), (0 : Int))).1, (List.getD a0 (Int.toNat v0_7) ((0 : Int), (0 : Int))).2) ([] : List (Int × Int))))) ≤ (1000000000 : Nat))) then l20_0 m24 L a0 a1 n v0_4_0 v0_4_1 v0_6_0 (v0_6_1 ++ (List.cons ((List.getD a0 (Int.toNat v0_7) ((0 : Int), (0 : Int))).1, (List.getD a0 (Int.toNat v0_7) ((0 : Int), (0 : Int))).2) ([] : List (Int × Int)))) (Go.IntKind.wrap Go.IntKind.i64 (v0_7 + (1 : Int))) k
            else none
          else none
        else l20_0 m24 L a0 a1 n v0_4_0 v0_4_1 v0_6_0 v0_6_1 (Go.IntKind.wrap Go.IntKind.i64 (v0_7 + (1 : Int))) k
      else none
    else k v0_4_0 v0_4_1 v0_6_0 v0_6_1
theorem h20_0 (m24 : (List (Int × Int)) → Option Int) (L : Nat) (a0 : (List (Int × Int))) (a1 : Int) (k : St cxT.ty → Option (V cxT.ty)) (xk : Nat → St cxT.ty → Option (V cxT.ty)) (k' : Int → (List (Int × Int)) → Int → (List (Int × Int)) → Option (Int × (List (Int × Int)))) (hk : ∀ (w0_4_0 : Int) (w0_4_1 : (List (Int × Int))) (w0_6_0 : Int) (w0_6_1 : (List (Int × Int))), k (X20_0 a0 a1 w0_4_0 w0_4_1 w0_6_0 w0_6_1) = (k' w0_4_0 w0_4_1 w0_6_0 w0_6_1).map n20) : ∀ (n : Nat) (v0_4_0 : Int) (v0_4_1 : (List (Int × Int))) (v0_6_0 : Int) (v0_6_1 : (List (Int × Int))) (v0_7 : Int), headF prog (ev20 m24) L f20 0 [1, 1, 1, 0, 1, 0, 0] (outK (outV prog f20) k xk) n (S20_0 a0 a1 v0_4_0 v0_4_1 v0_6_0 v0_6_1 v0_7) = (l20_0 m24 L a0 a1 n v0_4_0 v0_4_1 v0_6_0 v0_6_1 v0_7 k').map n20
  | 0, _, _, _, _, _ => rfl
  | n + 1, v0_4_0, v0_4_1, v0_6_0, v0_6_1, v0_7 => by
    rw [headF_round, r20_0]
    have ih := h20_0 m24 L a0 a1 k xk k' hk n
    simp only [l20_0, map_bif, map_tst, Option.map_some, Option.map_none, ih, hk]
def g20 (m24 : (List (Int × Int)) → Option Int) (L : Nat) (a0 : (List (Int × Int))) (a1 : Int) : Option (Int × (List (Int × Int))) :=
  tst (m24 a0) (0 : Int) fun (q1 : Int) => bif (q1 != (0 : Int)) then some (q1, ([] : List (Int × Int)))
    else l20_0 m24 L a0 a1 L (0 : Int) ([] : List (Int × Int)) (0 : Int) ([] : List (Int × Int)) (0 : Int) (fun (w0_4_0 : Int) (w0_4_1 : (List (Int × Int))) (w0_6_0 : Int) (w0_6_1 : (List (Int × Int))) => bif ((Nat.cast (List.length w0_6_1) : Int) == (Nat.cast (List.length a0) : Int)) then some ((4 : Int), ([] : List (Int × Int)))
      else some (w0_6_0, w0_6_1))
theorem e20 (m24 : (List (Int × Int)) → Option Int) (L : Nat) (a0 : (List (Int × Int))) (a1 : Int) : evF prog (ev20 m24) (loopN L) f20 (a20.enc (a0, a1)) = (g20 m24 L a0 a1).map n20 := by
  let K'0 : Int → (List (Int × Int)) → Int → (List (Int × Int)) → Option (Int × (List (Int × Int))) := (fun (w0_4_0 : Int) (w0_4_1 : (List (Int × Int))) (w0_6_0 : Int) (w0_6_1 : (List (Int × Int))) => bif ((Nat.cast (List.length w0_6_1) : Int) == (Nat.cast (List.length a0) : Int)) then some ((4 : Int), ([] : List (Int × Int)))
      else some (w0_6_0, w0_6_1))
  have hin0 : ∀ (v0_4_0 : Int) (v0_4_1 : (List (Int × Int))) (v0_6_0 : Int) (v0_6_1 : (List (Int × Int))) (v0_7 : Int), headF prog (ev20 m24) L f20 0 [1, 1, 1, 0, 1, 0, 0] (outK (outV prog f20) (topK prog (ev20 m24) L f20 [1, 1, 1, 0, 1] (outV prog f20)).n (topK prog (ev20 m24) L f20 [1, 1, 1, 0, 1] (outV prog f20)).x) L (S20_0 a0 a1 v0_4_0 v0_4_1 v0_6_0 v0_6_1 v0_7) = (l20_0 m24 L a0 a1 L v0_4_0 v0_4_1 v0_6_0 v0_6_1 v0_7 K'0).map n20 := fun v0_4_0 v0_4_1 v0_6_0 v0_6_1 v0_7 => h20_0 m24 L a0 a1 _ _ K'0 (fun w0_4_0 w0_4_1 w0_6_0 w0_6_1 => by rw [t20_0]; simp only [K'0, map_bif, map_tst, Option.map_some, Option.map_none]) L v0_4_0 v0_4_1 v0_6_0 v0_6_1 v0_7
  rw [i20]; simp only [g20, map_bif, map_tst, Option.map_some, Option.map_none, hin0, K'0]
theorem s20 (m24 : (List (Int × Int)) → Option Int) (h24 : Sat prog cxT 24 (c24 m24)) (m : ((List (Int × Int)) × Int) → Option (Int × (List (Int × Int)))) (hm : ∀ (x : ((List (Int × Int)) × Int)) t, m x = some t → ∃ L, g20 m24 L x.1 x.2 = some t) : Sat prog cxT 20 (c20 m) :=
  sat_t cxT_ok cxT_pok (by rfl) (fn := f20) rfl a20 n20 dd20 m (ev20 m24) (kok_cons h24 kok_nil) kwok_nil (fun L x => g20 m24 L x.1 x.2) (fun L x => e20 m24 L x.1 x.2) hm hs20
end Go.Proofs.Try
