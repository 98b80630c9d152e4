/- A part of the proof of FnExactUpdateFault: VmPl, VmPm, VmPn. -/
import Derived.Test.YtnmnomckcjihoaaGreatVmJ
set_option linter.unusedVariables false
namespace Go.VM
open Go

/-! ### Loops that laws and programs share: plain forms -/
section
variable {α : Type}

theorem getD_at (d : α) {a : List α} {i : Nat} (h : i < a.length) : a.getD i d = a[i] := by simp [List.getD, List.getElem?_eq_getElem h]
theorem getD_mem (d : α) {a : List α} {i : Nat} (h : i < a.length) : a.getD i d ∈ a := by rw [getD_at d h]; exact List.getElem_mem h
/-- The first answer that is not 0, of n from i on. -/
def fst (f : Nat → Int) : Nat → Nat → Int
  | 0, _ => 0
  | n + 1, i => if f i = 0 then fst f n (i + 1) else f i
theorem fst_succ (f : Nat → Int) (n i : Nat) : fst f (n + 1) i = if f i = 0 then fst f n (i + 1) else f i := rfl
theorem fst_zero {f : Nat → Int} : ∀ {n i : Nat}, fst f n i = 0 ↔ ∀ j, i ≤ j → j < i + n → f j = 0
  | 0, i => by simp only [fst, true_iff]; intro j h1 h2; omega
  | n + 1, i => by
    rw [fst_succ]
    by_cases h : f i = 0
    · rw [if_pos h, fst_zero]
      constructor
      · intro k j h1 h2
        by_cases h3 : j = i
        · rw [h3]; exact h
        · exact k j (by omega) (by omega)
      · intro k j h1 h2; exact k j (by omega) (by omega)
    · rw [if_neg h]
      constructor
      · intro k; exact absurd k h
      · intro k; exact k i (Nat.le_refl _) (by omega)
theorem fst_any {f : Nat → Int} : ∀ {n i : Nat}, fst f n i ≠ 0 → ∃ j, i ≤ j ∧ j < i + n ∧ f j = fst f n i
  | 0, _, h => absurd rfl h
  | n + 1, i, h => by
    rw [fst_succ] at h ⊢
    by_cases h1 : f i = 0
    · rw [if_pos h1] at h ⊢
      obtain ⟨j, k1, k2, k3⟩ := fst_any h
      exact ⟨j, by omega, by omega, k3⟩
    · rw [if_neg h1] at h ⊢
      exact ⟨i, Nat.le_refl _, by omega, rfl⟩

/-- Two rows held against each other, piece by piece. -/
def eqL (d : α) (f : α × α → Option Bool) (a b : List α) : Nat → Int → Option Bool → Option Bool
  | 0, _, _ => none
  | n + 1, i, k => bif decide (i < (Nat.cast a.length : Int)) then bif (decide ((0 : Int) ≤ i) && decide (i < (Nat.cast a.length : Int))) then bif (decide ((0 : Int) ≤ i) && decide (i < (Nat.cast b.length : Int))) then
      tst (f (a.getD i.toNat d, b.getD i.toNat d)) false fun q => bif !q then some false else eqL d f a b n (IntKind.wrap .i64 (i + 1)) k
    else none else none else k
theorem eqL_ok [DecidableEq α] (d : α) (f : α × α → Option Bool) (a b : List α) (hl : a.length = b.length) (ha : a.length ≤ 1000000000000000000) (hf : ∀ x ∈ a, ∀ y ∈ b, f (x, y) = some (decide (x = y))) (k : Option Bool) :
    ∀ (n i : Nat), i ≤ a.length → a.length < n + i → eqL d f a b n i k = if a.drop i = b.drop i then k else some false
  | 0, i, h2, h3 => by omega
  | n + 1, i, h2, h3 => by
    unfold eqL
    by_cases hi : i < a.length
    · simp (disch := omega) only [dt, wi, cond_true, Bool.and_self, Int.toNat_natCast]
      rw [hf _ (getD_mem d hi) _ (getD_mem d (by omega)), tst_some, drop_cons d hi, drop_cons d (show i < b.length by omega)]
      have := eqL_ok d f a b hl ha hf k n (i + 1) (by omega) (by omega)
      rw [show (i : Int) + 1 = ((i + 1 : Nat) : Int) from rfl, this]
      by_cases hx : a.getD i d = b.getD i d
      · rw [hx]; simp
      · rw [dt_not hx, if_neg (fun h => hx (List.cons.inj h).1)]; rfl
    · simp (disch := omega) only [df, cond_false]
      rw [List.drop_eq_nil_of_le (by omega), List.drop_eq_nil_of_le (by omega)]
      simp
where dt_not {x y : α} (h : ¬ x = y) : (!decide (x = y)) = true := by simp [h]

/-- A row copied piece by piece. -/
def toL (d : α) (f : α → Option α) (a : List α) : Nat → List α → Int → (List α → Option (List α)) → Option (List α)
  | 0, _, _, _ => none
  | n + 1, o, i, k => bif decide (i < (Nat.cast a.length : Int)) then bif (decide ((0 : Int) ≤ i) && decide (i < (Nat.cast a.length : Int))) then tst (f (a.getD i.toNat d)) d fun q =>
      bif (decide ((0 : Int) ≤ i) && decide (i < (Nat.cast o.length : Int))) then toL d f a n (o.set i.toNat q) (IntKind.wrap .i64 (i + 1)) k else none else none else k o
theorem toL_ok (d : α) (f : α → Option α) (a : List α) (ha : a.length ≤ 1000000000000000000) (hf : ∀ x ∈ a, f x = some x) (k : List α → Option (List α)) :
    ∀ (n i : Nat) (o : List α), o.length = a.length → i ≤ a.length → a.length < n + i → o.take i = a.take i → toL d f a n o i k = k a
  | 0, i, o, _, h2, h3, _ => by omega
  | n + 1, i, o, h1, h2, h3, h4 => by
    unfold toL
    by_cases hi : i < a.length
    · simp (disch := omega) only [dt, wi, cond_true, Bool.and_self, Int.toNat_natCast]
      rw [hf _ (getD_mem d hi), tst_some, show (i : Int) + 1 = ((i + 1 : Nat) : Int) from rfl]
      refine toL_ok d f a ha hf k n (i + 1) _ (by rw [List.length_set]; exact h1) (by omega) (by omega) ?_
      rw [List.take_add_one, List.take_add_one, List.take_set_of_le (Nat.le_refl _), h4]
      congr 1
      rw [List.getElem?_set_self (by omega), List.getElem?_eq_getElem hi, getD_at d hi]
    · simp (disch := omega) only [df, cond_false]
      have hil : i = a.length := by omega
      rw [hil, List.take_length, ← h1, List.take_length] at h4
      rw [h4]

/-- Sizes taken away piece by piece; -1: too much. -/
def szv (acc w : Int) : Int := if acc - w < 0 then -1 else acc - w
def szL (d : α) (f : α × Int → Option Int) (a : List α) : Nat → Int → Int → (Int → Option Int) → Option Int
  | 0, _, _, _ => none
  | n + 1, v, i, k => bif decide (i < (Nat.cast a.length : Int)) then bif (decide ((0 : Int) ≤ i) && decide (i < (Nat.cast a.length : Int))) then tst (f (a.getD i.toNat d, v)) 0 fun q =>
      bif decide (q < 0) then some (-1) else szL d f a n q (IntKind.wrap .i64 (i + 1)) k else none else k v
def sumW (w : α → Int) : List α → Int
  | [] => 0
  | x :: r => w x + sumW w r
theorem sumW_nonneg {w : α → Int} : ∀ {l : List α}, (∀ x ∈ l, 0 ≤ w x) → 0 ≤ sumW w l
  | [], _ => by simp [sumW]
  | x :: r, h => by
    have h1 := h x (List.mem_cons_self ..)
    have h2 := sumW_nonneg (l := r) fun y hy => h y (List.mem_cons_of_mem _ hy)
    simp only [sumW]; omega
theorem sumW_mem {w : α → Int} : ∀ {l : List α}, (∀ x ∈ l, 0 ≤ w x) → ∀ x ∈ l, w x ≤ sumW w l
  | [], _, x, hx => by simp at hx
  | y :: r, h, x, hx => by
    have h1 := h y (List.mem_cons_self ..)
    have h2 := sumW_nonneg (l := r) fun y hy => h y (List.mem_cons_of_mem _ hy)
    simp only [sumW]
    rcases List.mem_cons.1 hx with rfl | hx
    · omega
    · have := sumW_mem (l := r) (fun y hy => h y (List.mem_cons_of_mem _ hy)) x hx
      omega
theorem szL_ok (d : α) (f : α × Int → Option Int) (a : List α) (w : α → Int) (B : Int) (ha : a.length ≤ 1000000000000000000) (hw : ∀ x ∈ a, 0 ≤ w x) (hf : ∀ x ∈ a, ∀ v : Int, 0 ≤ v → v ≤ B → f (x, v) = some (szv v (w x))) (k : Int → Option Int) :
    ∀ (n i : Nat) (v : Int), 0 ≤ v → v ≤ B → i ≤ a.length → a.length < n + i → szL d f a n v i k = if v - sumW w (a.drop i) < 0 then some (-1) else k (v - sumW w (a.drop i))
  | 0, i, v, _, _, h2, h3 => by omega
  | n + 1, i, v, h0, h1, h2, h3 => by
    unfold szL
    by_cases hi : i < a.length
    · simp (disch := omega) only [dt, wi, cond_true, Bool.and_self, Int.toNat_natCast]
      have hx := hw _ (getD_mem d hi)
      have hr : 0 ≤ sumW w (a.drop (i + 1)) := sumW_nonneg fun y hy => hw y (List.mem_of_mem_drop hy)
      have e : v - sumW w (a.drop i) = v - w (a.getD i d) - sumW w (a.drop (i + 1)) := by rw [drop_cons d hi]; simp only [sumW]; omega
      rw [hf _ (getD_mem d hi) v h0 h1, tst_some, show (i : Int) + 1 = ((i + 1 : Nat) : Int) from rfl, e]
      unfold szv
      by_cases hc : v - w (a.getD i d) < 0
      · rw [if_pos hc, if_pos (show v - w (a.getD i d) - sumW w (a.drop (i + 1)) < 0 by omega)]; rfl
      · rw [if_neg hc, df hc, cond_false, szL_ok d f a w B ha hw hf k n (i + 1) _ (by omega) (by omega) (by omega) (by omega)]
    · simp (disch := omega) only [df, cond_false]
      have e : v - sumW w (a.drop i) = v := by rw [List.drop_eq_nil_of_le (by omega)]; simp only [sumW]; omega
      rw [e, if_neg (by omega)]

/-- A search by halves: p tells how the piece at a place stands to what is sought. -/
def bsL {R : Type} (len : Nat) (p : Nat → Option Int) : Nat → Int → Int → (Int → Option R) → Option R
  | 0, _, _, _ => none
  | n + 1, lo, hi, k => bif decide (lo < hi) then bif (decide ((0 : Int) ≤ IntKind.wrap .i64 (Int.fdiv (IntKind.wrap .u64 (IntKind.wrap .i64 (lo + hi))) ((2 : Int) ^ (min (Int.toNat (1 : Int)) (IntKind.bits .u64))))) && decide (IntKind.wrap .i64 (Int.fdiv (IntKind.wrap .u64 (IntKind.wrap .i64 (lo + hi))) ((2 : Int) ^ (min (Int.toNat (1 : Int)) (IntKind.bits .u64)))) < (Nat.cast len : Int))) then
      tst (p (IntKind.wrap .i64 (Int.fdiv (IntKind.wrap .u64 (IntKind.wrap .i64 (lo + hi))) ((2 : Int) ^ (min (Int.toNat (1 : Int)) (IntKind.bits .u64))))).toNat) 0 fun q =>
        bif decide (q < 0) then bsL len p n (IntKind.wrap .i64 (IntKind.wrap .i64 (Int.fdiv (IntKind.wrap .u64 (IntKind.wrap .i64 (lo + hi))) ((2 : Int) ^ (min (Int.toNat (1 : Int)) (IntKind.bits .u64)))) + 1)) hi k
        else bsL len p n lo (IntKind.wrap .i64 (Int.fdiv (IntKind.wrap .u64 (IntKind.wrap .i64 (lo + hi))) ((2 : Int) ^ (min (Int.toNat (1 : Int)) (IntKind.bits .u64))))) k else none else k lo
theorem halve {lo hi : Nat} (h : lo + hi ≤ 1000000000000000000) : IntKind.wrap .i64 (Int.fdiv (IntKind.wrap .u64 (IntKind.wrap .i64 ((lo : Int) + (hi : Int)))) ((2 : Int) ^ (min (Int.toNat (1 : Int)) (IntKind.bits .u64)))) = (((lo + hi) / 2 : Nat) : Int) := by
  rw [wi (x := (lo : Int) + hi) (by omega) (by omega), wu (by omega) (by omega)]
  rw [show ((2 : Int) ^ (min (Int.toNat (1 : Int)) (IntKind.bits .u64))) = 2 from rfl]
  rw [Int.fdiv_eq_ediv_of_nonneg _ (by decide), wi (by omega) (by omega)]
  omega
theorem bsL_ok {R : Type} (len : Nat) (p : Nat → Option Int) (c : Nat → Int) (hlen : len ≤ 100000000000000000) (hp : ∀ j, j < len → p j = some (c j)) (r : Nat) (hlow : ∀ j, j < r → c j < 0) (hhigh : ∀ j, r ≤ j → j < len → 0 ≤ c j) (k : Int → Option R) :
    ∀ (n lo hi : Nat), lo ≤ r → r ≤ hi → hi ≤ len → hi - lo < n → bsL len p n lo hi k = k r
  | 0, lo, hi, _, _, _, h => by omega
  | n + 1, lo, hi, h1, h2, h3, h4 => by
    unfold bsL
    by_cases hlt : lo < hi
    · rw [halve (by omega), dt (show (lo : Int) < hi by omega), cond_true]
      rw [dt (show (0 : Int) ≤ (((lo + hi) / 2 : Nat) : Int) by omega), dt (show (((lo + hi) / 2 : Nat) : Int) < (len : Int) by omega), Bool.and_self, cond_true, Int.toNat_natCast]
      rw [hp _ (by omega), tst_some]
      by_cases hc : c ((lo + hi) / 2) < 0
      · rw [dt hc, cond_true, wi (by omega) (by omega)]
        have hr : (lo + hi) / 2 < r := by
          rcases Nat.lt_or_ge ((lo + hi) / 2) r with h | h
          · exact h
          · have := hhigh _ h (by omega); omega
        exact bsL_ok len p c hlen hp r hlow hhigh k n ((lo + hi) / 2 + 1) hi (by omega) h2 h3 (by omega)
      · rw [df hc, cond_false]
        have hr : r ≤ (lo + hi) / 2 := by
          rcases Nat.lt_or_ge ((lo + hi) / 2) r with h | h
          · have := hlow _ h; omega
          · exact h
        exact bsL_ok len p c hlen hp r hlow hhigh k n lo ((lo + hi) / 2) h1 hr (by omega) (by omega)
    · have e1 : ¬ (lo : Int) < (hi : Int) := by omega
      rw [df e1, cond_false, show lo = r by omega]
end

/-- The place of the first piece of which p is so; -1: there is none. -/
def idx {α : Type} (p : α → Bool) : List α → Nat → Int
  | [], _ => -1
  | x :: r, i => if p x then (i : Int) else idx p r (i + 1)
theorem idx_cons {α : Type} (p : α → Bool) (x : α) (r : List α) (i : Nat) : idx p (x :: r) i = if p x then (i : Int) else idx p r (i + 1) := rfl
theorem idx_neg {α : Type} {p : α → Bool} : ∀ {l : List α} {i : Nat}, idx p l i < 0 ↔ l.any p = false
  | [], i => by simp [idx]
  | x :: r, i => by
    rw [idx_cons, List.any_cons]
    by_cases h : p x
    · rw [if_pos h, h]; simp
    · rw [if_neg h, idx_neg]; simp [h]
theorem idx_get {α : Type} {p : α → Bool} (d : α) : ∀ {l : List α} {i : Nat}, l.any p = true → ∃ j, idx p l i = ((i + j : Nat) : Int) ∧ j < l.length ∧ p (l.getD j d) = true ∧ ∀ k, k < j → p (l.getD k d) = false
  | [], i, h => by simp at h
  | x :: r, i, h => by
    rw [idx_cons]
    by_cases hx : p x
    · exact ⟨0, by rw [if_pos hx]; simp, by simp, by simpa using hx, fun k hk => by omega⟩
    · rw [if_neg hx]
      obtain ⟨j, h1, h2, h3, h4⟩ := idx_get d (l := r) (i := i + 1) (by simpa [hx] using h)
      refine ⟨j + 1, by rw [h1]; omega, by simp; omega, by simpa using h3, fun k hk => ?_⟩
      cases k with
      | zero => simpa using hx
      | succ k => simpa using h4 k (by omega)

def cmpI (a b : Int) : Int := if a < b then -1 else if b < a then 1 else 0
theorem cmpI_neg {a b : Int} : cmpI a b < 0 ↔ a < b := by unfold cmpI; split <;> (try split) <;> omega
theorem cmpI_zero {a b : Int} : cmpI a b = 0 ↔ a = b := by unfold cmpI; split <;> (try split) <;> omega
theorem cmpI_pos {a b : Int} : 0 ≤ cmpI a b ↔ b ≤ a := by unfold cmpI; split <;> (try split) <;> omega
end Go.VM

namespace Go.VM
open Go

/-! ### Marks, and how far two rows are alike: plain forms -/
end Go.VM

set_option linter.unusedVariables false
set_option linter.unusedSimpArgs false
namespace Go.VM
open Go Go.RowKit
/-! ### Marks whose number hangs on the element -/
end Go.VM
