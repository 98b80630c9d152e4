/- A part of the proof of FnExactTakeEntries: VmPl, VmPm. -/
import Derived.Test.YtdiobngppgokmaaVmJ
namespace Go.VM
open Go

/-! ### Loops that laws and programs share: plain forms -/
section
variable {α : Type}

theorem getD_at (d : α) {a : List α} {i : Nat} (h : i < a.length) : a.getD i d = a[i] := by simp [List.getD, List.getElem?_eq_getElem h]
theorem getD_mem (d : α) {a : List α} {i : Nat} (h : i < a.length) : a.getD i d ∈ a := by rw [getD_at d h]; exact List.getElem_mem h
/-- The first answer that is not 0, of n from i on. -/
def fst (f : Nat → Int) : Nat → Nat → Int
  | 0, _ => 0
  | n + 1, i => if f i = 0 then fst f n (i + 1) else f i
theorem fst_succ (f : Nat → Int) (n i : Nat) : fst f (n + 1) i = if f i = 0 then fst f n (i + 1) else f i := rfl
/-- Two rows held against each other, piece by piece. -/
def eqL (d : α) (f : α × α → Option Bool) (a b : List α) : Nat → Int → Option Bool → Option Bool
  | 0, _, _ => none
  | n + 1, i, k => bif decide (i < (Nat.cast a.length : Int)) then bif (decide ((0 : Int) ≤ i) && decide (i < (Nat.cast a.length : Int))) then bif (decide ((0 : Int) ≤ i) && decide (i < (Nat.cast b.length : Int))) then
      tst (f (a.getD i.toNat d, b.getD i.toNat d)) false fun q => bif !q then some false else eqL d f a b n (IntKind.wrap .i64 (i + 1)) k
    else none else none else k
theorem eqL_ok [DecidableEq α] (d : α) (f : α × α → Option Bool) (a b : List α) (hl : a.length = b.length) (ha : a.length ≤ 1000000000000000000) (hf : ∀ x ∈ a, ∀ y ∈ b, f (x, y) = some (decide (x = y))) (k : Option Bool) :
    ∀ (n i : Nat), i ≤ a.length → a.length < n + i → eqL d f a b n i k = if a.drop i = b.drop i then k else some false
  | 0, i, h2, h3 => by omega
  | n + 1, i, h2, h3 => by
    unfold eqL
    by_cases hi : i < a.length
    · simp (disch := omega) only [dt, wi, cond_true, Bool.and_self, Int.toNat_natCast]
      rw [hf _ (getD_mem d hi) _ (getD_mem d (by omega)), tst_some, drop_cons d hi, drop_cons d (show i < b.length by omega)]
      have := eqL_ok d f a b hl ha hf k n (i + 1) (by omega) (by omega)
      rw [show (i : Int) + 1 = ((i + 1 : Nat) : Int) from rfl, this]
      by_cases hx : a.getD i d = b.getD i d
      · rw [hx]; simp
      · rw [dt_not hx, if_neg (fun h => hx (List.cons.inj h).1)]; rfl
    · simp (disch := omega) only [df, cond_false]
      rw [List.drop_eq_nil_of_le (by omega), List.drop_eq_nil_of_le (by omega)]
      simp
where dt_not {x y : α} (h : ¬ x = y) : (!decide (x = y)) = true := by simp [h]

/-- A row copied piece by piece. -/
def toL (d : α) (f : α → Option α) (a : List α) : Nat → List α → Int → (List α → Option (List α)) → Option (List α)
  | 0, _, _, _ => none
  | n + 1, o, i, k => bif decide (i < (Nat.cast a.length : Int)) then bif (decide ((0 : Int) ≤ i) && decide (i < (Nat.cast a.length : Int))) then tst (f (a.getD i.toNat d)) d fun q =>
      bif (decide ((0 : Int) ≤ i) && decide (i < (Nat.cast o.length : Int))) then toL d f a n (o.set i.toNat q) (IntKind.wrap .i64 (i + 1)) k else none else none else k o
theorem toL_ok (d : α) (f : α → Option α) (a : List α) (ha : a.length ≤ 1000000000000000000) (hf : ∀ x ∈ a, f x = some x) (k : List α → Option (List α)) :
    ∀ (n i : Nat) (o : List α), o.length = a.length → i ≤ a.length → a.length < n + i → o.take i = a.take i → toL d f a n o i k = k a
  | 0, i, o, _, h2, h3, _ => by omega
  | n + 1, i, o, h1, h2, h3, h4 => by
    unfold toL
    by_cases hi : i < a.length
    · simp (disch := omega) only [dt, wi, cond_true, Bool.and_self, Int.toNat_natCast]
      rw [hf _ (getD_mem d hi), tst_some, show (i : Int) + 1 = ((i + 1 : Nat) : Int) from rfl]
      refine toL_ok d f a ha hf k n (i + 1) _ (by rw [List.length_set]; exact h1) (by omega) (by omega) ?_
      rw [List.take_add_one, List.take_add_one, List.take_set_of_le (Nat.le_refl _), h4]
      congr 1
      rw [List.getElem?_set_self (by omega), List.getElem?_eq_getElem hi, getD_at d hi]
    · simp (disch := omega) only [df, cond_false]
      have hil : i = a.length := by omega
      rw [hil, List.take_length, ← h1, List.take_length] at h4
      rw [h4]

/-- Sizes taken away piece by piece; -1: too much. -/
def szv (acc w : Int) : Int := if acc - w < 0 then -1 else acc - w
end

end Go.VM

namespace Go.VM
open Go

/-! ### Marks, and how far two rows are alike: plain forms -/
theorem modify_modify' {α : Type} (l : List α) (i : Nat) (f g : α → α) : (l.modify i f).modify i g = l.modify i (fun y => g (f y)) := by
  apply List.ext_getElem?
  intro j
  rw [List.getElem?_modify, List.getElem?_modify, List.getElem?_modify]
  cases l[j]? with
  | none => rfl
  | some y =>
    show some _ = some _
    by_cases h : i = j <;> simp [h]
theorem modify_const {α : Type} (l : List α) (i : Nat) (x : α) : l.modify i (fun _ => x) = l.set i x := by
  apply List.ext_getElem?
  intro j
  rw [List.getElem?_modify, List.getElem?_set]
  by_cases h : i = j
  · subst h
    by_cases hi : i < l.length
    · simp [hi]
    · simp [hi]
  · cases l[j]? <;> simp [h]

/-- A row of marks: each s behind the one ahead. -/
def mkR {α : Type} (f : Int → α) (s : Int) : Nat → Int → List α
  | 0, _ => []
  | n + 1, c => f c :: mkR f s n (c + s)
theorem mkR_len {α : Type} (f : Int → α) (s : Int) : ∀ (n : Nat) (c : Int), (mkR f s n c).length = n
  | 0, _ => rfl
  | n + 1, c => by simp [mkR, mkR_len f s n]
theorem mkR_get {α : Type} (f : Int → α) (s : Int) (d : α) : ∀ (n i : Nat) (c : Int), i < n → (mkR f s n c).getD i d = f (c + s * (i : Int))
  | 0, i, c, h => by omega
  | n + 1, 0, c, _ => by simp [mkR]
  | n + 1, i + 1, c, h => by
    have := mkR_get f s d n i (c + s) (by omega)
    simp only [mkR, List.getD_cons_succ]
    rw [this]
    congr 1
    rw [show ((i + 1 : Nat) : Int) = (i : Int) + 1 by omega, Int.mul_add]
    omega

/-- A loop that writes marks. -/
theorem markRun {α R : Type} (f : Int → α) (s : Int) (B : Int) (N : Nat) (hs : 0 ≤ s) (g : Nat → List α → Int → Int → (List α → Int → Option R) → Option R)
    (hstep : ∀ n (o : List α) (v : Int) (i : Nat) K, o.length = N → i < o.length → 0 ≤ v → v ≤ B → g (n + 1) o v i K = g n (o.set i (f v)) (v + s) ((i + 1 : Nat) : Int) K)
    (hend : ∀ n (o : List α) (v : Int) (i : Nat) K, o.length = N → ¬ i < o.length → g (n + 1) o v i K = K o v) (K : List α → Int → Option R) :
    ∀ (n i : Nat) (o : List α) (v : Int), o.length = N → i ≤ o.length → o.length < n + i → 0 ≤ v → v + s * ((o.length - i : Nat) : Int) ≤ B → g n o v i K = K (o.take i ++ mkR f s (o.length - i) v) (v + s * ((o.length - i : Nat) : Int))
  | 0, i, o, v, _, h1, h2, _, _ => by omega
  | n + 1, i, o, v, hN, h1, h2, h3, h4 => by
    by_cases hi : i < o.length
    · have hm : 0 ≤ s * ((o.length - i : Nat) : Int) := Int.mul_nonneg hs (by omega)
      rw [hstep n o v i K hN hi h3 (by omega)]
      have e : o.length - i = (o.length - (i + 1)) + 1 := by omega
      have e2 : s * ((o.length - i : Nat) : Int) = s + s * ((o.length - (i + 1) : Nat) : Int) := by
        rw [e]
        rw [show (((o.length - (i + 1)) + 1 : Nat) : Int) = ((o.length - (i + 1) : Nat) : Int) + 1 by omega, Int.mul_add]
        omega
      have ih := markRun f s B N hs g hstep hend K n (i + 1) (o.set i (f v)) (v + s) (by simp; omega) (by simp; omega) (by simp; omega) (by omega) (by
        rw [List.length_set]; omega)
      rw [ih, List.length_set, e2, e]
      simp only [mkR]
      congr 1
      · rw [List.take_add_one, List.take_set_of_le (Nat.le_refl _), List.getElem?_set_self hi]
        simp
      · omega
    · rw [hend n o v i K hN hi]
      have e : o.length - i = 0 := by omega
      rw [e]
      simp only [mkR, List.append_nil]
      rw [List.take_of_length_le (by omega)]
      congr 1
      simp

/-- A loop that asks whether the marks are there. -/
theorem heldRun {α R : Type} (d : α) (f : Int → α) (s : Int) (B : Int) (hs : 0 ≤ s) (N : Nat) (c : Int) (g : Nat → Int → Int → (Int → Option R) → Option R) (hc : 0 ≤ c)
    (hstep : ∀ n (v : Int) (i : Nat) K, i < N → 0 ≤ v → v ≤ B → (mkR f s N c).getD i d = f v → g (n + 1) v i K = g n (v + s) ((i + 1 : Nat) : Int) K)
    (hend : ∀ n (v : Int) (i : Nat) K, ¬ i < N → g (n + 1) v i K = K v) (hB : c + s * (N : Int) ≤ B) (K : Int → Option R) :
    ∀ (n i : Nat), i ≤ N → N < n + i → g n (c + s * (i : Int)) i K = K (c + s * (N : Int))
  | 0, i, h1, h2 => by omega
  | n + 1, i, h1, h2 => by
    by_cases hi : i < N
    · have h0 : 0 ≤ s * (i : Int) := Int.mul_nonneg hs (by omega)
      have h9 : s * (i : Int) ≤ s * (N : Int) := Int.mul_le_mul_of_nonneg_left (by omega) hs
      rw [hstep n _ i K hi (by omega) (by omega) (mkR_get f s d N i c hi)]
      have ih := heldRun d f s B hs N c g hc hstep hend hB K n (i + 1) (by omega) (by omega)
      rw [show c + s * (i : Int) + s = c + s * ((i + 1 : Nat) : Int) by rw [show ((i + 1 : Nat) : Int) = (i : Int) + 1 by omega, Int.mul_add]; omega]
      exact ih
    · rw [hend n _ i K hi, show i = N by omega]

/-- How many pieces, from the first one on, are alike. -/
def cmL {α : Type} (p : α → α → Bool) : List α → List α → Nat
  | x :: a, y :: b => if p x y then cmL p a b + 1 else 0
  | _, _ => 0
theorem cmL_le {α : Type} (p : α → α → Bool) : ∀ (a b : List α), cmL p a b ≤ a.length ∧ cmL p a b ≤ b.length
  | [], b => by simp [cmL]
  | x :: a, [] => by simp [cmL]
  | x :: a, y :: b => by
    have := cmL_le p a b
    simp only [cmL, List.length_cons]
    split <;> omega
theorem cmL_drop {α : Type} (d : α) (p : α → α → Bool) {a b : List α} {i : Nat} (ha : i < a.length) (hb : i < b.length) : cmL p (a.drop i) (b.drop i) = if p (a.getD i d) (b.getD i d) then cmL p (a.drop (i + 1)) (b.drop (i + 1)) + 1 else 0 := by
  rw [drop_cons d ha, drop_cons d hb]; rfl
theorem cmL_end {α : Type} (p : α → α → Bool) {a b : List α} (h : a = [] ∨ b = []) : cmL p a b = 0 := by
  rcases h with rfl | rfl
  · simp [cmL]
  · cases a <;> rfl
end Go.VM
