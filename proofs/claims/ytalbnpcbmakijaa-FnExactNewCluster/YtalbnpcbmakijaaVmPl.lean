/- A part of the proof of FnExactNewCluster: VmPl, VmPm, VmPn. -/
import Derived.Test.YtalbnpcbmakijaaVmJ
namespace Go.VM
open Go

/-! ### Loops that laws and programs share: plain forms -/
section
variable {α : Type}

theorem getD_at (d : α) {a : List α} {i : Nat} (h : i < a.length) : a.getD i d = a[i] := by simp [List.getD, List.getElem?_eq_getElem h]
theorem getD_mem (d : α) {a : List α} {i : Nat} (h : i < a.length) : a.getD i d ∈ a := by rw [getD_at d h]; exact List.getElem_mem h
/-- Two rows held against each other, piece by piece. -/
def eqL (d : α) (f : α × α → Option Bool) (a b : List α) : Nat → Int → Option Bool → Option Bool
  | 0, _, _ => none
  | n + 1, i, k => bif decide (i < (Nat.cast a.length : Int)) then bif (decide ((0 : Int) ≤ i) && decide (i < (Nat.cast a.length : Int))) then bif (decide ((0 : Int) ≤ i) && decide (i < (Nat.cast b.length : Int))) then
      tst (f (a.getD i.toNat d, b.getD i.toNat d)) false fun q => bif !q then some false else eqL d f a b n (IntKind.wrap .i64 (i + 1)) k
    else none else none else k
theorem eqL_ok [DecidableEq α] (d : α) (f : α × α → Option Bool) (a b : List α) (hl : a.length = b.length) (ha : a.length ≤ 1000000000000000000) (hf : ∀ x ∈ a, ∀ y ∈ b, f (x, y) = some (decide (x = y))) (k : Option Bool) :
    ∀ (n i : Nat), i ≤ a.length → a.length < n + i → eqL d f a b n i k = if a.drop i = b.drop i then k else some false
  | 0, i, h2, h3 => by omega
  | n + 1, i, h2, h3 => by
    unfold eqL
    by_cases hi : i < a.length
    · simp (disch := omega) only [dt, wi, cond_true, Bool.and_self, Int.toNat_natCast]
      rw [hf _ (getD_mem d hi) _ (getD_mem d (by omega)), tst_some, drop_cons d hi, drop_cons d (show i < b.length by omega)]
      have := eqL_ok d f a b hl ha hf k n (i + 1) (by omega) (by omega)
      rw [show (i : Int) + 1 = ((i + 1 : Nat) : Int) from rfl, this]
      by_cases hx : a.getD i d = b.getD i d
      · rw [hx]; simp
      · rw [dt_not hx, if_neg (fun h => hx (List.cons.inj h).1)]; rfl
    · simp (disch := omega) only [df, cond_false]
      rw [List.drop_eq_nil_of_le (by omega), List.drop_eq_nil_of_le (by omega)]
      simp
where dt_not {x y : α} (h : ¬ x = y) : (!decide (x = y)) = true := by simp [h]

def sumW (w : α → Int) : List α → Int
  | [] => 0
  | x :: r => w x + sumW w r
theorem sumW_nonneg {w : α → Int} : ∀ {l : List α}, (∀ x ∈ l, 0 ≤ w x) → 0 ≤ sumW w l
  | [], _ => by simp [sumW]
  | x :: r, h => by
    have h1 := h x (List.mem_cons_self ..)
    have h2 := sumW_nonneg (l := r) fun y hy => h y (List.mem_cons_of_mem _ hy)
    simp only [sumW]; omega
theorem sumW_mem {w : α → Int} : ∀ {l : List α}, (∀ x ∈ l, 0 ≤ w x) → ∀ x ∈ l, w x ≤ sumW w l
  | [], _, x, hx => by simp at hx
  | y :: r, h, x, hx => by
    have h1 := h y (List.mem_cons_self ..)
    have h2 := sumW_nonneg (l := r) fun y hy => h y (List.mem_cons_of_mem _ hy)
    simp only [sumW]
    rcases List.mem_cons.1 hx with rfl | hx
    · omega
    · have := sumW_mem (l := r) (fun y hy => h y (List.mem_cons_of_mem _ hy)) x hx
      omega
end

end Go.VM

namespace Go.VM
open Go

/-! ### Marks, and how far two rows are alike: plain forms -/
theorem modify_modify' {α : Type} (l : List α) (i : Nat) (f g : α → α) : (l.modify i f).modify i g = l.modify i (fun y => g (f y)) := by
  apply List.ext_getElem?
  intro j
  rw [List.getElem?_modify, List.getElem?_modify, List.getElem?_modify]
  cases l[j]? with
  | none => rfl
  | some y =>
    show some _ = some _
    by_cases h : i = j <;> simp [h]
theorem modify_const {α : Type} (l : List α) (i : Nat) (x : α) : l.modify i (fun _ => x) = l.set i x := by
  apply List.ext_getElem?
  intro j
  rw [List.getElem?_modify, List.getElem?_set]
  by_cases h : i = j
  · subst h
    by_cases hi : i < l.length
    · simp [hi]
    · simp [hi]
  · cases l[j]? <;> simp [h]

/-- A row of marks: each s behind the one ahead. -/
def mkR {α : Type} (f : Int → α) (s : Int) : Nat → Int → List α
  | 0, _ => []
  | n + 1, c => f c :: mkR f s n (c + s)
theorem mkR_len {α : Type} (f : Int → α) (s : Int) : ∀ (n : Nat) (c : Int), (mkR f s n c).length = n
  | 0, _ => rfl
  | n + 1, c => by simp [mkR, mkR_len f s n]
theorem mkR_get {α : Type} (f : Int → α) (s : Int) (d : α) : ∀ (n i : Nat) (c : Int), i < n → (mkR f s n c).getD i d = f (c + s * (i : Int))
  | 0, i, c, h => by omega
  | n + 1, 0, c, _ => by simp [mkR]
  | n + 1, i + 1, c, h => by
    have := mkR_get f s d n i (c + s) (by omega)
    simp only [mkR, List.getD_cons_succ]
    rw [this]
    congr 1
    rw [show ((i + 1 : Nat) : Int) = (i : Int) + 1 by omega, Int.mul_add]
    omega

/-- A loop that writes marks. -/
theorem markRun {α R : Type} (f : Int → α) (s : Int) (B : Int) (N : Nat) (hs : 0 ≤ s) (g : Nat → List α → Int → Int → (List α → Int → Option R) → Option R)
    (hstep : ∀ n (o : List α) (v : Int) (i : Nat) K, o.length = N → i < o.length → 0 ≤ v → v ≤ B → g (n + 1) o v i K = g n (o.set i (f v)) (v + s) ((i + 1 : Nat) : Int) K)
    (hend : ∀ n (o : List α) (v : Int) (i : Nat) K, o.length = N → ¬ i < o.length → g (n + 1) o v i K = K o v) (K : List α → Int → Option R) :
    ∀ (n i : Nat) (o : List α) (v : Int), o.length = N → i ≤ o.length → o.length < n + i → 0 ≤ v → v + s * ((o.length - i : Nat) : Int) ≤ B → g n o v i K = K (o.take i ++ mkR f s (o.length - i) v) (v + s * ((o.length - i : Nat) : Int))
  | 0, i, o, v, _, h1, h2, _, _ => by omega
  | n + 1, i, o, v, hN, h1, h2, h3, h4 => by
    by_cases hi : i < o.length
    · have hm : 0 ≤ s * ((o.length - i : Nat) : Int) := Int.mul_nonneg hs (by omega)
      rw [hstep n o v i K hN hi h3 (by omega)]
      have e : o.length - i = (o.length - (i + 1)) + 1 := by omega
      have e2 : s * ((o.length - i : Nat) : Int) = s + s * ((o.length - (i + 1) : Nat) : Int) := by
        rw [e]
        rw [show (((o.length - (i + 1)) + 1 : Nat) : Int) = ((o.length - (i + 1) : Nat) : Int) + 1 by omega, Int.mul_add]
        omega
      have ih := markRun f s B N hs g hstep hend K n (i + 1) (o.set i (f v)) (v + s) (by simp; omega) (by simp; omega) (by simp; omega) (by omega) (by
        rw [List.length_set]; omega)
      rw [ih, List.length_set, e2, e]
      simp only [mkR]
      congr 1
      · rw [List.take_add_one, List.take_set_of_le (Nat.le_refl _), List.getElem?_set_self hi]
        simp
      · omega
    · rw [hend n o v i K hN hi]
      have e : o.length - i = 0 := by omega
      rw [e]
      simp only [mkR, List.append_nil]
      rw [List.take_of_length_le (by omega)]
      congr 1
      simp

/-- A loop that asks whether the marks are there. -/
theorem heldRun {α R : Type} (d : α) (f : Int → α) (s : Int) (B : Int) (hs : 0 ≤ s) (N : Nat) (c : Int) (g : Nat → Int → Int → (Int → Option R) → Option R) (hc : 0 ≤ c)
    (hstep : ∀ n (v : Int) (i : Nat) K, i < N → 0 ≤ v → v ≤ B → (mkR f s N c).getD i d = f v → g (n + 1) v i K = g n (v + s) ((i + 1 : Nat) : Int) K)
    (hend : ∀ n (v : Int) (i : Nat) K, ¬ i < N → g (n + 1) v i K = K v) (hB : c + s * (N : Int) ≤ B) (K : Int → Option R) :
    ∀ (n i : Nat), i ≤ N → N < n + i → g n (c + s * (i : Int)) i K = K (c + s * (N : Int))
  | 0, i, h1, h2 => by omega
  | n + 1, i, h1, h2 => by
    by_cases hi : i < N
    · have h0 : 0 ≤ s * (i : Int) := Int.mul_nonneg hs (by omega)
      have h9 : s * (i : Int) ≤ s * (N : Int) := Int.mul_le_mul_of_nonneg_left (by omega) hs
      rw [hstep n _ i K hi (by omega) (by omega) (mkR_get f s d N i c hi)]
      have ih := heldRun d f s B hs N c g hc hstep hend hB K n (i + 1) (by omega) (by omega)
      rw [show c + s * (i : Int) + s = c + s * ((i + 1 : Nat) : Int) by rw [show ((i + 1 : Nat) : Int) = (i : Int) + 1 by omega, Int.mul_add]; omega]
      exact ih
    · rw [hend n _ i K hi, show i = N by omega]

end Go.VM

set_option linter.unusedVariables false
set_option linter.unusedSimpArgs false
namespace Go.VM
open Go Go.RowKit
/-! ### Marks whose number hangs on the element -/
def mkV {α : Type} (f : α → Int → α) (w : α → Int) : List α → Int → List α
  | [], _ => []
  | x :: r, c => f x c :: mkV f w r (c + w x)
theorem mkV_sum {α : Type} {f : α → Int → α} {w : α → Int} (hw : ∀ x v, w (f x v) = w x) : ∀ (l : List α) (c : Int), sumW w (mkV f w l c) = sumW w l
  | [], _ => rfl
  | x :: r, c => by show w (f x c) + sumW w (mkV f w r _) = w x + sumW w r; rw [hw, mkV_sum hw r]
theorem mkV_mk {α : Type} {f : α → Int → α} {w : α → Int} (hw : ∀ x v, w (f x v) = w x) (hf : ∀ x v, f (f x v) v = f x v) : ∀ (l : List α) (c : Int), mkV f w (mkV f w l c) c = mkV f w l c
  | [], _ => rfl
  | x :: r, c => by show f (f x c) c :: mkV f w (mkV f w r _) _ = f x c :: mkV f w r _; rw [hf, hw, mkV_mk hw hf r]
theorem markRunV {α R : Type} (d : α) (f : α → Int → α) (w : α → Int) (B : Int) (hw : ∀ x, 0 ≤ w x) (Q : α → Prop) (N : Nat) (g : Nat → List α → Int → Int → (List α → Int → Option R) → Option R)
    (hs : ∀ n (o : List α) v (i : Nat) K, o.length = N → i < o.length → 0 ≤ v → v ≤ B → Q (o.getD i d) → g (n + 1) o v (i : Int) K = g n (o.set i (f (o.getD i d) v)) (v + w (o.getD i d)) ((i + 1 : Nat) : Int) K)
    (he : ∀ n (o : List α) v (i : Nat) K, o.length = N → i = o.length → g (n + 1) o v (i : Int) K = K o v) (K : List α → Int → Option R) :
    ∀ (suf pre : List α) (v : Int) (n : Nat), (pre ++ suf).length = N → suf.length < n → 0 ≤ v → v + sumW w suf ≤ B → (∀ x ∈ suf, Q x) → g n (pre ++ suf) v (pre.length : Int) K = K (pre ++ mkV f w suf v) (v + sumW w suf)
  | _, _, _, 0, _, h, _, _, _ => absurd h (Nat.not_lt_zero _)
  | [], pre, v, n + 1, hN, hn, h0, hB, hQ => by
    rw [he n _ v pre.length K hN (by simp)]
    show K (pre ++ []) v = K (pre ++ []) (v + 0)
    rw [Int.add_zero]
  | x :: r, pre, v, n + 1, hN, hn, h0, hB, hQ => by
    have hr := sumW_nonneg (w := w) (l := r) fun y _ => hw y
    have hB : v + (w x + sumW w r) ≤ B := hB
    have hx := hw x
    have e1 : (pre ++ x :: r).getD pre.length d = x := by simp [List.getD]
    have e2 : (pre ++ x :: r).set pre.length (f x v) = (pre ++ [f x v]) ++ r := by simp
    rw [hs n _ v pre.length K hN (by simp) h0 (by omega) (by rw [e1]; exact hQ x (List.mem_cons_self ..)), e1, e2]
    have := markRunV d f w B hw Q N g hs he K r (pre ++ [f x v]) (v + w x) n (by simp at hN ⊢; omega) (by simp at hn; omega) (by omega) (by omega) fun y hy => hQ y (List.mem_cons_of_mem _ hy)
    rw [List.length_append] at this
    refine this.trans ?_
    show K (pre ++ [f x v] ++ mkV f w r (v + w x)) (v + w x + sumW w r) = K (pre ++ f x v :: mkV f w r (v + w x)) (v + (w x + sumW w r))
    rw [List.append_assoc, Int.add_assoc]
    rfl
theorem heldRunV {α R : Type} (d : α) (f : α → Int → α) (w : α → Int) (B : Int) (hw : ∀ x, 0 ≤ w x) (hwf : ∀ x v, w (f x v) = w x) (Q : α → Prop) (a : List α) (g : Nat → Int → Int → (Int → Option R) → Option R)
    (hs : ∀ n v (i : Nat) K, i < a.length → 0 ≤ v → v ≤ B → Q (a.getD i d) → a.getD i d = f (a.getD i d) v → g (n + 1) v (i : Int) K = g n (v + w (a.getD i d)) ((i + 1 : Nat) : Int) K)
    (he : ∀ n v (i : Nat) K, i = a.length → g (n + 1) v (i : Int) K = K v) (K : Int → Option R) :
    ∀ (suf pre : List α) (v : Int) (n : Nat), pre ++ suf = a → suf.length < n → 0 ≤ v → v + sumW w suf ≤ B → (∀ x ∈ suf, Q x) → suf = mkV f w suf v → g n v (pre.length : Int) K = K (v + sumW w suf)
  | _, _, _, 0, _, h, _, _, _, _ => absurd h (Nat.not_lt_zero _)
  | [], pre, v, n + 1, ha, hn, h0, hB, hQ, hm => by
    rw [he n v pre.length K (by rw [← ha]; simp)]
    show K v = K (v + 0)
    rw [Int.add_zero]
  | x :: r, pre, v, n + 1, ha, hn, h0, hB, hQ, hm => by
    have hr := sumW_nonneg (w := w) (l := r) fun y _ => hw y
    have hB : v + (w x + sumW w r) ≤ B := hB
    have hx := hw x
    have e1 : a.getD pre.length d = x := by rw [← ha]; simp [List.getD]
    have hm' : x = f x v ∧ r = mkV f w r (v + w x) := List.cons.inj hm
    rw [hs n v pre.length K (by rw [← ha]; simp) h0 (by omega) (by rw [e1]; exact hQ x (List.mem_cons_self ..)) (by rw [e1]; exact hm'.1), e1]
    have := heldRunV d f w B hw hwf Q a g hs he K r (pre ++ [x]) (v + w x) n (by rw [← ha]; simp) (by simp at hn; omega) (by omega) (by omega) (fun y hy => hQ y (List.mem_cons_of_mem _ hy)) hm'.2
    rw [List.length_append] at this
    refine this.trans ?_
    show K (v + w x + sumW w r) = K (v + (w x + sumW w r))
    rw [Int.add_assoc]
theorem getD_modify {α : Type} (d : α) (l : List α) (i : Nat) (f : α → α) (h : i < l.length) : (l.modify i f).getD i d = f (l.getD i d) := by
  simp [List.getD, List.getElem?_modify, h]
end Go.VM
