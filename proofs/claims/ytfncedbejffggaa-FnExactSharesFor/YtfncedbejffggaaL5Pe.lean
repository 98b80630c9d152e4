/- A part of the proof of FnExactSharesFor: L5Pe, L5Pf, L5Pg, L5Ph, L5Top. -/
import Derived.Test.YtfncedbejffggaaL5Pa
import Derived.Test.YtfncedbejffggaaL5Fd
import Derived.Test.YtfncedbejffggaaVmOpen
set_option maxHeartbeats 0
set_option linter.unusedVariables false
set_option linter.unusedSimpArgs false
namespace Go.Proofs.Try
open Go Go.VM Go.RowKit

/-! ### The program's ConfigFault -/
theorem sat84 : Sat prog cxT 84 (c84 fun x => some (cmpI x.1.1 x.2)) := s84 _ sat85 _ fun x t h => by
  obtain ⟨⟨a, b, c, d, e⟩, y⟩ := x
  cases h
  exact ⟨0, rfl⟩
/-- The first place of which p is not so. -/
def low {α : Type} (p : α → Bool) : List α → Nat
  | [] => 0
  | x :: r => if p x then low p r + 1 else 0
theorem low_le {α : Type} (p : α → Bool) : ∀ l, low p l ≤ l.length
  | [] => Nat.le_refl _
  | x :: r => by
    have := low_le p r
    unfold low
    split <;> simp only [List.length_cons] <;> omega
theorem low_lt {α : Type} (p : α → Bool) (d : α) : ∀ (l : List α) (j : Nat), j < low p l → p (l.getD j d) = true
  | [], j, h => by simp [low] at h
  | x :: r, j, h => by
    unfold low at h
    split at h
    · rename_i hx
      cases j with
      | zero => simpa using hx
      | succ j => simpa using low_lt p d r j (by omega)
    · omega
theorem low_at {α : Type} (p : α → Bool) (d : α) : ∀ (l : List α), low p l < l.length → p (l.getD (low p l) d) = false
  | [], h => by simp at h
  | x :: r, h => by
    unfold low at h ⊢
    split at h
    · rename_i hx
      rw [if_pos hx]
      simpa using low_at p d r (by simpa using h)
    · rename_i hx
      rw [if_neg hx]
      simpa using hx
theorem el83 (L : Nat) (a : List Bk) (y : Int) (u : Unit) : ∀ (n : Nat) (lo hi : Int) (k : Int → Option (Int × Bool)), l83_0 (fun x => some (cmpI x.1.1 x.2)) L a y u n lo hi k = bsL a.length (fun j => some (cmpI (a.getD j dBk).1 y)) n lo hi k
  | 0, _, _, _ => rfl
  | n + 1, lo, hi, k => by unfold l83_0 bsL; simp only [el83 L a y u n]; rfl
def plB (bs : List Bk) (y : Int) : Nat := low (fun b : Bk => decide (b.1 < y)) bs
instance (bs : List Bk) : Decidable (ris bs) := by
  have : ris bs ↔ ∀ j, j < bs.length → ∀ i, i < j → (bs.getD i dBk).1 < (bs.getD j dBk).1 := ⟨fun h j hj i hi => h i j hi hj, fun h i j hi hj => h j hj i hi⟩
  exact decidable_of_iff _ this.symm
theorem ris_high {bs : List Bk} (h : ris bs) {y : Int} {j : Nat} (h1 : plB bs y ≤ j) (h2 : j < bs.length) : y ≤ (bs.getD j dBk).1 := by
  have hl : plB bs y < bs.length := by omega
  have h3 := low_at (fun b : Bk => decide (b.1 < y)) dBk bs hl
  have h4 : ¬ (bs.getD (plB bs y) dBk).1 < y := of_decide_eq_false h3
  by_cases he : plB bs y = j
  · rw [he] at h4; omega
  · have := h (plB bs y) j (by omega) h2
    omega
theorem ris_has {bs : List Bk} (h : ris bs) (y : Int) : hasB bs y = (decide (plB bs y < bs.length) && ((bs.getD (plB bs y) dBk).1 == y)) := by
  by_cases hl : plB bs y < bs.length
  · rw [dt hl, Bool.true_and]
    by_cases he : (bs.getD (plB bs y) dBk).1 = y
    · rw [beq_iff_eq.2 he]
      exact List.any_eq_true.2 ⟨_, getD_mem dBk hl, beq_iff_eq.2 he⟩
    · rw [beq_eq_false_iff_ne.2 he]
      refine Bool.eq_false_iff.2 fun hh => ?_
      obtain ⟨b, hb, hy⟩ := List.any_eq_true.1 hh
      obtain ⟨j, hj, rfl⟩ := List.mem_iff_getElem.1 hb
      have hy : (bs.getD j dBk).1 = y := by rw [getD_at dBk hj]; simpa using hy
      have hge := ris_high h (y := y) (j := plB bs y) (Nat.le_refl _) hl
      rcases Nat.lt_trichotomy j (plB bs y) with h1 | h1 | h1
      · have := low_lt (fun b : Bk => decide (b.1 < y)) dBk bs j h1
        have : (bs.getD j dBk).1 < y := by simpa using this
        omega
      · rw [← h1] at he; exact he hy
      · have := h _ _ h1 hj; omega
  · rw [df hl, Bool.false_and]
    refine Bool.eq_false_iff.2 fun hh => ?_
    obtain ⟨b, hb, hy⟩ := List.any_eq_true.1 hh
    obtain ⟨j, hj, rfl⟩ := List.mem_iff_getElem.1 hb
    have hle := low_le (fun b : Bk => decide (b.1 < y)) bs
    have := low_lt (fun b : Bk => decide (b.1 < y)) dBk bs j (by show j < plB bs y; omega)
    have h5 : (bs.getD j dBk).1 < y := by simpa using this
    rw [getD_at dBk hj] at h5
    have : bs[j].1 = y := by simpa using hy
    omega
def m83 (x : List Bk × Int × Unit) : Option (Int × Bool) := if ris x.1 ∧ x.1.length ≤ big then some ((plB x.1 x.2.1 : Int), hasB x.1 x.2.1) else none
theorem sat83 : Sat prog cxT 83 (c83 m83) := s83 _ sat84 m83 fun x t h => by
  obtain ⟨bs, y, u⟩ := x
  unfold m83 at h
  split at h
  · rename_i hc
    obtain ⟨hr, hb⟩ := hc
    cases h
    simp only at hr hb
    have hb' : bs.length ≤ 1000000000000 := hb
    have hle : plB bs y ≤ bs.length := low_le _ bs
    refine ⟨bs.length + 1, ?_⟩
    show g83 _ _ bs y u = some ((plB bs y : Int), hasB bs y)
    unfold g83
    rw [el83]
    refine (bsL_ok bs.length _ (fun j => cmpI (bs.getD j dBk).1 y) (by omega) (fun _ _ => rfl) (plB bs y) (fun j hj => ?_) (fun j h1 h2 => cmpI_pos.2 (ris_high hr h1 h2)) _ (bs.length + 1) 0 bs.length (by omega) hle (Nat.le_refl _) (by omega)).trans ?_
    · have := low_lt (fun b : Bk => decide (b.1 < y)) dBk bs j hj
      exact cmpI_neg.2 (by simpa using this)
    · rw [ris_has hr]
      by_cases hl : plB bs y < bs.length
      · rw [dt (show (plB bs y : Int) < (bs.length : Int) by omega), dt (show (0 : Int) ≤ (plB bs y : Int) by omega), dt hl, Bool.and_self, cond_true, cond_true, tst_some, Int.toNat_natCast, Bool.true_and]
        show some ((plB bs y : Int), cmpI (bs.getD (plB bs y) dBk).1 y == 0) = _
        by_cases he : (bs.getD (plB bs y) dBk).1 = y
        · rw [beq_iff_eq.2 he, beq_iff_eq.2 (cmpI_zero.2 he)]
        · rw [beq_eq_false_iff_ne.2 he, beq_eq_false_iff_ne.2 (fun h => he (cmpI_zero.1 h))]
      · rw [df (show ¬ (plB bs y : Int) < (bs.length : Int) by omega), df hl, cond_false, Bool.false_and]
  · cases h
def m43 (x : List Bk × Int) : Option (Int × Bool) := if ris x.1 ∧ x.1.length ≤ big then some ((plB x.1 x.2 : Int), hasB x.1 x.2) else none
theorem sat43 : Sat prog cxT 43 (c43 m43) := s43 m83 sat83 m43 fun x t h => by
  obtain ⟨bs, y⟩ := x
  unfold m43 at h
  split at h
  · rename_i hc
    cases h
    refine ⟨0, ?_⟩
    show g43 m83 0 bs y = _
    unfold g43
    rw [show m83 (bs, y, PUnit.unit) = some ((plB bs y : Int), hasB bs y) from if_pos hc, tst_some]
  · cases h
def orI : List Int → Int
  | [] => 0
  | x :: r => if x = 0 then orI r else x
theorem p93 (L : Nat) (a : List Int) (ha : a.length ≤ big) : ∀ (n i : Nat), i ≤ a.length → a.length < n + i → l93_0 L a n i (some 0) = some (orI (a.drop i))
  | 0, i, h2, h3 => by omega
  | n + 1, i, h2, h3 => by
    unfold l93_0
    unfold big at ha
    by_cases hi : i < a.length
    · rw [Int.toNat_natCast]
      simp (disch := omega) only [dt, wi, cond_true, Bool.and_self]
      rw [drop_cons 0 hi]
      unfold orI
      by_cases h0 : a.getD i 0 = 0
      · rw [bneF h0, cond_false, if_pos h0]; exact p93 L a ha n (i + 1) (by omega) (by omega)
      · rw [bneT h0, cond_true, if_neg h0]
    · simp (disch := omega) only [df, cond_false]
      rw [List.drop_eq_nil_of_le (by omega)]; rfl
def m93 (a : List Int) : Option Int := if a.length ≤ big then some (orI a) else none
theorem sat93 : Sat prog cxT 93 (c93 m93) := s93 m93 fun x t h => by
  unfold m93 at h
  split at h
  · rename_i hc
    cases h
    exact ⟨x.length + 1, p93 _ x hc _ 0 (by omega) (by omega)⟩
  · cases h
def cmpV (a b : Vp) : Int := orI [cmpI a.1 b.1, cmpI a.2.1 b.2.1, cmpI a.2.2.1 b.2.2.1]
theorem sat53 : Sat prog cxT 53 (c53 fun x => some (cmpV x.1 x.2)) := s53 _ m93 sat85 sat93 _ fun x t h => by
  obtain ⟨⟨a, b, c, d⟩, a', b', c', d'⟩ := x
  cases h
  exact ⟨0, rfl⟩
theorem cmpV_le {a b : Vp} : cmpV a b ≤ 0 ↔ beh b a = false := by
  have key : cmpV a b ≤ 0 ↔ ¬ beh b a = true := by
    unfold cmpV orI orI orI orI beh cmpI
    by_cases h1 : b.1 = a.1
    · rw [if_pos h1]
      by_cases h2 : b.2.1 = a.2.1
      · rw [if_pos h2]
        simp only [h1, h2, Int.lt_irrefl, if_false, if_true, decide_eq_true_eq]
        split <;> (try split) <;> (try split) <;> omega
      · rw [if_neg h2]
        simp only [h1, Int.lt_irrefl, if_false, if_true, decide_eq_true_eq]
        by_cases h3 : a.2.1 < b.2.1
        · simp only [h3, if_true]; simp; omega
        · have h4 : b.2.1 < a.2.1 := by omega
          simp only [h3, h4, if_false, if_true]; simp
    · rw [if_neg h1]
      simp only [decide_eq_true_eq]
      by_cases h3 : a.1 < b.1
      · simp only [h3, if_true]; simp; omega
      · have h4 : b.1 < a.1 := by omega
        simp only [h3, h4, if_false, if_true]; simp
  rw [key]; simp

/-! names -/
theorem p54_0 (bs : List Bk) (hr : ris bs) (hb : bs.length ≤ big) (L : Nat) (ns : List Int) (hn : ns.length ≤ big) (k : Option Int) : ∀ (n i : Nat), i ≤ ns.length → ns.length < n + i → l54_0 m43 L ns bs n i k = if fst (knN bs ns) (ns.length - i) i = 0 then k else some 4
  | 0, i, h2, h3 => by omega
  | n + 1, i, h2, h3 => by
    unfold l54_0
    have hn' : ns.length ≤ 1000000000000 := hn
    by_cases hi : i < ns.length
    · rw [Int.toNat_natCast]
      simp (disch := omega) only [dt, wi, cond_true, Bool.and_self]
      rw [fst_step hi, show m43 (bs, ns.getD i 0) = some ((plB bs (ns.getD i 0) : Int), hasB bs (ns.getD i 0)) from if_pos ⟨hr, hb⟩, tst_some]
      unfold knN
      by_cases hh : hasB bs (ns.getD i 0) = true
      · simp only [hh, if_true, Bool.not_true, cond_false]
        exact p54_0 bs hr hb L ns hn k n (i + 1) (by omega) (by omega)
      · simp only [show hasB bs (ns.getD i 0) = false by simpa using hh, Bool.false_eq_true, if_false, Bool.not_false, cond_true]
        rfl
    · simp (disch := omega) only [df, cond_false]
      rw [fst_done hi, if_pos rfl]
theorem p54_2 (bs : List Bk) (L : Nat) (ns : List Int) (hn : ns.length ≤ big) (k : Option Int) : ∀ (n i : Nat), i ≤ ns.length → ns.length < n + i → l54_2 m43 L ns bs n i k = if fst (rsN ns) (ns.length - i) i = 0 then k else some 1
  | 0, i, h2, h3 => by omega
  | n + 1, i, h2, h3 => by
    unfold l54_2
    have hn' : ns.length ≤ 1000000000000 := hn
    by_cases hi : i < ns.length
    · rw [dt (show (i : Int) < (ns.length : Int) by omega), dt (show (0 : Int) ≤ (i : Int) by omega), Bool.and_self, cond_true, cond_true, fst_step hi, wi (x := (i : Int) + 1) (by omega) (by omega)]
      have ih := p54_2 bs L ns hn k n (i + 1) (by omega) (by omega)
      by_cases h0 : 0 < i
      · rw [dt (show (i : Int) > 0 by omega), cond_true, wi (by omega) (by omega), dt (show (0 : Int) ≤ (i : Int) - 1 by omega), dt (show (i : Int) - 1 < (ns.length : Int) by omega), Bool.and_self, cond_true, toNat_pred h0, Int.toNat_natCast]
        by_cases hh : ns.getD i 0 ≤ ns.getD (i - 1) 0
        · have e : rsN ns i = 1 := if_pos ⟨h0, hh⟩
          rw [dt hh, cond_true, e]; rfl
        · have e : rsN ns i = 0 := if_neg fun h => hh h.2
          rw [df hh, cond_false, if_pos e]; exact ih
      · have e : rsN ns i = 0 := if_neg fun h => h0 h.1
        rw [df (show ¬ (i : Int) > 0 by omega), cond_false, if_pos e]; exact ih
    · simp (disch := omega) only [df, cond_false]
      rw [fst_done hi, if_pos rfl]
def m54 (x : List Int × List Bk) : Option Int := if ris x.2 ∧ x.2.length ≤ big ∧ x.1.length ≤ big then some (nF x.2 x.1) else none
theorem sat54 : Sat prog cxT 54 (c54 m54) := s54 m43 sat43 m54 fun x t h => by
  obtain ⟨ns, bs⟩ := x
  unfold m54 at h
  split at h
  · rename_i hc
    obtain ⟨hr, hb, hn⟩ := hc
    cases h
    refine ⟨ns.length + 1, ?_⟩
    show g54 m43 _ ns bs = some (nF bs ns)
    unfold g54
    refine (p54_0 bs hr hb _ ns hn _ _ 0 (by omega) (by omega)).trans ?_
    rw [Nat.sub_zero]
    unfold nF
    by_cases h : fst (knN bs ns) ns.length 0 = 0
    · rw [if_pos h, if_pos h]
      refine (p54_2 bs _ ns hn _ _ 0 (by omega) (by omega)).trans ?_
      rw [Nat.sub_zero]
      rcases rsN_val ns with h2 | h2
      · rw [if_pos h2, h2]
      · rw [if_neg (by rw [h2]; decide), h2]
    · rw [if_neg h, if_neg h]
  · cases h

/-! ConfigFault -/
abbrev vB : Bk → Option Bool := fun b => some (bkOk b)
abbrev vV : Vp → Option Bool := fun v => some (vpOk v)
abbrev vW : Vp × Vp → Option Int := fun x => some (cmpV x.1 x.2)
theorem p20_0 (M50 : Int → Option Bool) (L : Nat) (a : Int) (bs : List Bk) (vs : List Vp) (v : Int) (ws : List Vp) (hb : bs.length ≤ big) (k : Int → List Bk → List Vp → Option Int) :
    ∀ (n i : Nat), i ≤ bs.length → bs.length < n + i → l20_0 M50 vB vV vW m54 L a bs vs n v bs ws i k = if fst (bF bs) (bs.length - i) i = 0 then k v bs ws else some (fst (bF bs) (bs.length - i) i)
  | 0, i, h2, h3 => by omega
  | n + 1, i, h2, h3 => by
    unfold l20_0
    have hn' : bs.length ≤ 1000000000000 := hb
    by_cases hi : i < bs.length
    · rw [dt (show (i : Int) < (bs.length : Int) by omega), dt (show (0 : Int) ≤ (i : Int) by omega), Bool.and_self, cond_true, cond_true, tst_some, Int.toNat_natCast, fst_step hi, wi (x := (i : Int) + 1) (by omega) (by omega)]
      have ih := p20_0 M50 L a bs vs v ws hb k n (i + 1) (by omega) (by omega)
      by_cases hok : bkOk (bs.getD i dBk) = true
      · refine (congrArg (fun b => bif !b then _ else _) hok).trans ?_
        simp only [Bool.not_true, cond_false]
        by_cases h0 : 0 < i
        · rw [dt (show (i : Int) > 0 by omega), cond_true, wi (by omega) (by omega), dt (show (0 : Int) ≤ (i : Int) - 1 by omega), dt (show (i : Int) - 1 < (bs.length : Int) by omega), Bool.and_self, cond_true, toNat_pred h0]
          by_cases hh : (bs.getD i dBk).1 ≤ (bs.getD (i - 1) dBk).1
          · have e : bF bs i = 1 := by unfold bF; rw [if_pos hok, if_pos ⟨h0, hh⟩]
            rw [dt (c := (List.getD bs i (0, 0, 0, 0, false)).1 ≤ (List.getD bs (i - 1) (0, 0, 0, 0, false)).1) hh, cond_true, e]; rfl
          · have e : bF bs i = 0 := by unfold bF; rw [if_pos hok, if_neg (fun h => hh h.2)]
            rw [df (c := (List.getD bs i (0, 0, 0, 0, false)).1 ≤ (List.getD bs (i - 1) (0, 0, 0, 0, false)).1) hh, cond_false, if_pos e]
            exact ih
        · have e : bF bs i = 0 := by unfold bF; rw [if_pos hok, if_neg (fun h => h0 h.1)]
          rw [df (show ¬ (i : Int) > 0 by omega), cond_false, if_pos e]
          exact ih
      · have e : bF bs i = 3 := by unfold bF; rw [if_neg hok]
        refine (congrArg (fun b => bif !b then _ else _) (show bkOk (bs.getD i dBk) = false by simpa using hok)).trans ?_
        rw [e]; rfl
    · rw [df (show ¬ (i : Int) < (bs.length : Int) by omega), cond_false, fst_done hi, if_pos rfl]
theorem p20_2 (M50 : Int → Option Bool) (M51 : Bk → Option Bool) (L : Nat) (a : Int) (as0 : List Bk) (us : List Vp) (v : Int) (bs : List Bk) (vs : List Vp) (hr : ris bs) (hok : okC (v, bs, vs)) (k : Option Int) :
    ∀ (n i : Nat), i ≤ vs.length → vs.length < n + i → l20_2 M50 M51 vV vW m54 L a as0 us n v bs vs vs (vs.length : Int) i k = if fst (vF bs vs) (vs.length - i) i = 0 then k else some (fst (vF bs vs) (vs.length - i) i)
  | 0, i, h2, h3 => by omega
  | n + 1, i, h2, h3 => by
    unfold l20_2
    have hn' : vs.length ≤ 1000000000000 := hok.2.1
    by_cases hi : i < vs.length
    · rw [dt (show (i : Int) < (vs.length : Int) by omega), dt (show (0 : Int) ≤ (i : Int) by omega), Bool.and_self, cond_true, cond_true, tst_some, Int.toNat_natCast, fst_step hi, wi (x := (i : Int) + 1) (by omega) (by omega)]
      have ih := p20_2 M50 M51 L a as0 us v bs vs hr hok k n (i + 1) (by omega) (by omega)
      have en : m54 ((vs.getD i dVp).2.2.2, bs) = some (nF bs (vs.getD i dVp).2.2.2) := if_pos ⟨hr, hok.1, hok.2.2 _ (getD_mem dVp hi)⟩
      have tail : ∀ (e : vF bs vs i = nF bs (vs.getD i dVp).2.2.2), (tst (m54 ((vs.getD i dVp).2.2.2, bs)) 0 fun q => bif q != 0 then some q else l20_2 M50 M51 vV vW m54 L a as0 us n v bs vs vs (vs.length : Int) ((i : Int) + 1) k) = if vF bs vs i = 0 then (if fst (vF bs vs) (vs.length - (i + 1)) (i + 1) = 0 then k else some (fst (vF bs vs) (vs.length - (i + 1)) (i + 1))) else some (vF bs vs i) := fun e => by
        rw [en, tst_some, ← e]
        by_cases h : vF bs vs i = 0
        · rw [bneF h, cond_false, if_pos h]; exact ih
        · rw [bneT h, cond_true, if_neg h]
      have fin : ∀ X : Option Int, X = (if vF bs vs i = 0 then (if fst (vF bs vs) (vs.length - (i + 1)) (i + 1) = 0 then k else some (fst (vF bs vs) (vs.length - (i + 1)) (i + 1))) else some (vF bs vs i)) → X = if (if vF bs vs i = 0 then fst (vF bs vs) (vs.length - (i + 1)) (i + 1) else vF bs vs i) = 0 then k else some (if vF bs vs i = 0 then fst (vF bs vs) (vs.length - (i + 1)) (i + 1) else vF bs vs i) := fun X hX => by
        rw [hX]
        by_cases h : vF bs vs i = 0
        · simp only [h, if_true]
        · simp only [h, if_false]
      refine fin _ ?_
      by_cases hk : vpOk (vs.getD i dVp) = true
      · refine (congrArg (fun b => bif !b then _ else _) hk).trans ?_
        simp only [Bool.not_true, cond_false]
        by_cases h0 : 0 < i
        · rw [dt (show (i : Int) > 0 by omega), cond_true, wi (by omega) (by omega), dt (show (0 : Int) ≤ (i : Int) - 1 by omega), dt (show (i : Int) - 1 < (vs.length : Int) by omega), Bool.and_self, cond_true, toNat_pred h0, tst_some]
          by_cases hh : cmpV (vs.getD i dVp) (vs.getD (i - 1) dVp) ≤ 0
          · have e : vF bs vs i = 1 := by unfold vF; rw [if_pos hk, if_pos ⟨h0, cmpV_le.1 hh⟩]
            refine (congrArg (fun b => bif b then _ else _) (dt hh)).trans ?_
            rw [e]; rfl
          · have e : vF bs vs i = nF bs (vs.getD i dVp).2.2.2 := by unfold vF; rw [if_pos hk, if_neg (fun h => hh (cmpV_le.2 h.2))]
            refine (congrArg (fun b => bif b then _ else _) (df hh)).trans ?_
            exact tail e
        · have e : vF bs vs i = nF bs (vs.getD i dVp).2.2.2 := by unfold vF; rw [if_pos hk, if_neg (fun h => h0 h.1)]
          rw [df (show ¬ (i : Int) > 0 by omega), cond_false]
          exact tail e
      · have e : vF bs vs i = 3 := by unfold vF; rw [if_neg hk]
        refine (congrArg (fun b => bif !b then _ else _) (show vpOk (vs.getD i dVp) = false by simpa using hk)).trans ?_
        rw [e]; rfl
    · rw [df (show ¬ (i : Int) < (vs.length : Int) by omega), cond_false, fst_done hi, if_pos rfl]
theorem sat20 : Sat prog cxT 20 (c20 mCF) := s20 _ _ _ _ m54 sat50 sat51 sat52 sat53 sat54 mCF fun x t h => by
  obtain ⟨a, b, c⟩ := x
  unfold mCF at h
  split at h
  · rename_i hc
    cases h
    refine ⟨b.length + c.length + 1, ?_⟩
    show g20 _ _ _ _ m54 _ a b c = some (cF (a, b, c))
    unfold g20 cF
    simp only [tst_some]
    cases hv : vrOk a
    · simp
    · simp only [Bool.not_true, cond_false, if_true]
      by_cases h8 : 8 < b.length
      · rw [dt (show (b.length : Int) > 8 by omega), cond_true, if_pos (.inl h8)]
      · rw [df (show ¬ (b.length : Int) > 8 by omega), cond_false]
        by_cases h4 : 4 < c.length
        · rw [dt (show (c.length : Int) > 4 by omega), cond_true, if_pos (.inr h4)]
        · rw [df (show ¬ (c.length : Int) > 4 by omega), cond_false, if_neg (by omega)]
          refine (p20_0 _ _ a b c a c hc.1 _ _ 0 (by omega) (by omega)).trans ?_
          rw [Nat.sub_zero]
          by_cases e : fst (bF b) b.length 0 = 0
          · rw [if_pos e, if_pos e]
            refine (p20_2 _ _ _ a b c a b c (ris_of fun j hj => fst_zero.1 e j (Nat.zero_le _) (by omega)) hc _ _ 0 (by omega) (by omega)).trans ?_
            rw [Nat.sub_zero]
            split
            · rename_i e2; rw [e2]
            · rfl
          · rw [if_neg e, if_neg e]
  · cases h
end Go.Proofs.Try

set_option maxHeartbeats 0
set_option linter.unusedVariables false
set_option linter.unusedSimpArgs false
namespace Go.Proofs.Try
open Go Go.VM Go.RowKit

theorem small_ok {c : Cg} (h : ¬ szv 1048576 (wC c) < 0) : okM c ∧ okC c := by
  obtain ⟨h1, h2, h3⟩ := wC_small (c := c) (by omega)
  unfold okM okC mid big
  exact ⟨⟨by omega, by omega, fun v hv => by have := h3 v hv; omega⟩, by omega, by omega, fun v hv => by have := h3 v hv; omega⟩
theorem sz_at {c : Cg} (h : okZ c) : m17 (c, 1048576) = some (szv 1048576 (wC c)) := if_pos ⟨by simp only; omega, by simp only; omega, h⟩

/-! FnExactConfigFault -/
def m4 (c : Cg) : Option Bool := if okZ c then some true else none
/-! BackendAt -/
def bA (c : Cg) (y : Int) : BkR := if cF c = 0 then (if hasB c.2.1 y then (0, c.2.1.getD (plB c.2.1 y) dBk) else (4, dBk)) else (cF c, dBk)
def mBA (x : Cg × Int) : Option BkR := if okC x.1 then some (bA x.1 x.2) else none
theorem pl_lt {bs : List Bk} (hr : ris bs) {y : Int} (h : hasB bs y = true) : plB bs y < bs.length := by
  rw [ris_has hr] at h
  simp only [Bool.and_eq_true, decide_eq_true_eq] at h
  exact h.1
theorem at_pl {bs : List Bk} (hr : ris bs) {y : Int} (h : hasB bs y = true) : atB bs y = (plB bs y : Int) := by
  obtain ⟨j, h1, h2, h3, h4⟩ := idx_get dBk (p := fun b : Bk => b.1 == y) (l := bs) (i := 0) h
  have hl := pl_lt hr h
  rw [ris_has hr] at h
  simp only [Bool.and_eq_true, decide_eq_true_eq] at h
  have hy : (bs.getD (plB bs y) dBk).1 = y := by simpa using h.2
  have hj : (bs.getD j dBk).1 = y := by simpa using h3
  have : j = plB bs y := by
    rcases Nat.lt_trichotomy j (plB bs y) with h5 | h5 | h5
    · have := hr _ _ h5 hl; omega
    · exact h5
    · have := hr _ _ h5 h2; omega
  unfold atB
  rw [h1, this, Nat.zero_add]
theorem sat14 : Sat prog cxT 14 (c14 mBA) := s14 mCF m43 sat20 sat43 mBA fun x t h => by
  obtain ⟨⟨a, b, c⟩, y⟩ := x
  unfold mBA at h
  split at h
  · rename_i hc
    cases h
    refine ⟨0, ?_⟩
    show g14 mCF m43 0 a b c y = some (bA (a, b, c) y)
    unfold g14 bA
    rw [show mCF (a, b, c) = some (cF (a, b, c)) from if_pos hc, tst_some]
    by_cases h0 : cF (a, b, c) = 0
    · have hr := ris_of (cF_zero h0).2.2.2.1
      rw [bneF h0, cond_false, if_pos h0, show m43 (b, y) = some ((plB b y : Int), hasB b y) from if_pos ⟨hr, hc.1⟩, tst_some]
      by_cases hh : hasB b y = true
      · have hl : plB b y < b.length := pl_lt hr hh
        simp only [hh, Bool.not_true, cond_false, if_true]
        rw [dt (show (0 : Int) ≤ (plB b y : Int) by omega), dt (show (plB b y : Int) < (b.length : Int) by omega), Bool.and_self, cond_true, Int.toNat_natCast]
        rfl
      · simp only [show hasB b y = false by simpa using hh, Bool.not_false, cond_true, Bool.false_eq_true, if_false]; rfl
    · rw [bneT h0, cond_true, if_neg h0]; rfl
  · cases h
/-! VipFor -/
abbrev Fl := Int × Int × Int × Int × Int
/-- Vips rise. -/
def risV (vs : List Vp) : Prop := ∀ i j, i < j → j < vs.length → beh (vs.getD i dVp) (vs.getD j dVp) = true
instance (vs : List Vp) : Decidable (risV vs) := by
  have : risV vs ↔ ∀ j, j < vs.length → ∀ i, i < j → beh (vs.getD i dVp) (vs.getD j dVp) = true := ⟨fun h j hj i hi => h i j hi hj, fun h i j hi hj => h j hj i hi⟩
  exact decidable_of_iff _ this.symm
end Go.Proofs.Try

set_option maxHeartbeats 0
set_option linter.unusedVariables false
set_option linter.unusedSimpArgs false
namespace Go.Proofs.Try
open Go Go.VM Go.RowKit

/-! ### Configurations held against each other -/
theorem eq_row {α : Type} [DecidableEq α] (d : α) (f : α × α → Option Bool) (a b : List α) (ha : a.length ≤ big) (hf : ∀ x ∈ a, ∀ y ∈ b, f (x, y) = some (decide (x = y))) : (bif ((a.length : Int) != (b.length : Int)) then some false else eqL d f a b (a.length + 1) 0 (some true)) = some (decide (a = b)) := by
  have ha' : a.length ≤ 1000000000000 := ha
  refine bifeq (fun e => ?_) fun e h => e (by rw [h])
  refine (eqL_ok d f a b (by omega) (by omega) hf _ _ 0 (by omega) (by omega)).trans ?_
  simp only [List.drop_zero]
  split <;> rename_i hh <;> simp [hh]
end Go.Proofs.Try

set_option maxHeartbeats 0
set_option linter.unusedVariables false
set_option linter.unusedSimpArgs false
namespace Go.Proofs.Try
open Go Go.VM Go.RowKit

/-! ### Who is there for flows that are new -/
abbrev Sh := Int × Int
def pick (bs : List Bk) (y : Int) : List Sh := if (bs.getD (plB bs y) dBk).2.2.2.2 = true ∧ (bs.getD (plB bs y) dBk).2.2.2.1 = 1 then [(y, (bs.getD (plB bs y) dBk).2.2.1)] else []
def shs (bs : List Bk) : List Int → List Sh
  | [] => []
  | y :: r => pick bs y ++ shs bs r
theorem pick_len (bs : List Bk) (y : Int) : (pick bs y).length ≤ 1 := by unfold pick; split <;> simp
theorem shs_len (bs : List Bk) : ∀ ns, (shs bs ns).length ≤ ns.length
  | [] => Nat.le_refl _
  | y :: r => by
    have h1 := pick_len bs y
    have h2 := shs_len bs r
    simp only [shs, List.length_append, List.length_cons]
    omega
def sF (c : Cg) (i : Int) : Int × List Sh := if cF c = 0 then (if 0 ≤ i ∧ i < (c.2.2.length : Int) then (0, shs c.2.1 (c.2.2.getD i.toNat dVp).2.2.2) else (3, [])) else (cF c, [])
def mSF (x : Cg × Int) : Option (Int × List Sh) := if okM x.1 then some (sF x.1 x.2) else none
theorem okC_of {c : Cg} (h : okM c) : okC c := by
  obtain ⟨h1, h2, h3⟩ := h
  unfold mid at h1 h2 h3
  unfold okC big
  exact ⟨by omega, by omega, fun v hv => by have := h3 v hv; omega⟩
theorem known {bs : List Bk} {vs : List Vp} (h : ∀ j, j < vs.length → vF bs vs j = 0) {j : Nat} (hj : j < vs.length) {i : Nat} (hi : i < (vs.getD j dVp).2.2.2.length) : hasB bs ((vs.getD j dVp).2.2.2.getD i 0) = true := by
  have h1 := h j hj
  unfold vF at h1
  split at h1
  · split at h1
    · exact absurd h1 (by decide)
    · unfold nF at h1
      split at h1
      · rename_i h2
        have := fst_zero.1 h2 i (Nat.zero_le _) (by omega)
        unfold knN at this
        split at this
        · assumption
        · exact absurd this (by decide)
      · exact absurd h1 (by decide)
  · exact absurd h1 (by decide)
theorem bA_at {c : Cg} (h0 : cF c = 0) {y : Int} (hy : hasB c.2.1 y = true) : bA c y = (0, c.2.1.getD (plB c.2.1 y) dBk) := by
  unfold bA
  rw [if_pos h0, if_pos hy]
theorem p12 (L : Nat) (a : Int) (bs : List Bk) (vs : List Vp) (j : Nat) (hj : j < vs.length) (hM : okM (a, bs, vs)) (h0 : cF (a, bs, vs) = 0) (r0 : Int) (r1 : List Sh) (k : Int → List Sh → List Sh → Option (Int × List Sh)) : ∀ (n i : Nat) (out : List Sh), out.length ≤ i → i ≤ (vs.getD j dVp).2.2.2.length → (vs.getD j dVp).2.2.2.length < n + i →
    l12_0 mCF mBA L a bs vs (j : Int) n a bs vs r0 r1 out i k = k r0 r1 (out ++ shs bs ((vs.getD j dVp).2.2.2.drop i))
  | 0, i, out, _, h2, h3 => by omega
  | n + 1, i, out, h1, h2, h3 => by
    unfold l12_0
    have hns := hM.2.2 _ (getD_mem dVp hj)
    unfold mid at hns
    have ev : (List.getD vs (Int.toNat (j : Int)) (0, 0, 0, [])) = vs.getD j dVp := by rw [Int.toNat_natCast]; rfl
    simp only [ev]
    generalize hN : (vs.getD j dVp).2.2.2 = ns at *
    by_cases hi : i < ns.length
    · rw [dt (show (i : Int) < (ns.length : Int) by omega), dt (show (0 : Int) ≤ (i : Int) by omega), Bool.and_self, cond_true, cond_true, Int.toNat_natCast, wi (x := (i : Int) + 1) (by omega) (by omega)]
      have hk : hasB bs (ns.getD i 0) = true := by
        have := known (cF_zero h0).2.2.2.2 hj (i := i) (by show i < (vs.getD j dVp).2.2.2.length; rw [hN]; exact hi)
        have e : ((a, bs, vs).2.2.getD j dVp).2.2.2 = ns := hN
        rw [e] at this
        exact this
      rw [show mBA ((a, bs, vs), ns.getD i 0) = some (0, bs.getD (plB bs (ns.getD i 0)) dBk) by rw [← bA_at h0 hk]; exact if_pos (okC_of hM), tst_some]
      rw [drop_cons 0 hi]
      have ih := fun out (h : out.length ≤ i + 1) => p12 L a bs vs j hj hM h0 r0 r1 k n (i + 1) out h (by rw [hN]; omega) (by rw [hN]; omega)
      rw [hN] at ih
      simp only [shs]
      unfold pick
      cases hu : (bs.getD (plB bs (ns.getD i 0)) dBk).2.2.2.2
      · rw [if_neg (by simp)]
        exact (ih out (by omega)).trans (by simp)
      · by_cases hs : (bs.getD (plB bs (ns.getD i 0)) dBk).2.2.2.1 = 1
        · rw [if_pos ⟨rfl, hs⟩, cond_true, beq_iff_eq.2 hs, cond_true, dt (by simp only [List.length_cons, List.length_nil]; omega), cond_true]
          refine (ih _ (by simp; omega)).trans ?_
          simp
        · rw [if_neg (fun h => hs h.2), cond_true, beq_eq_false_iff_ne.2 hs, cond_false]
          exact (ih out (by omega)).trans (by simp)
    · rw [df (show ¬ (i : Int) < (ns.length : Int) by omega), cond_false, List.drop_eq_nil_of_le (by omega)]
      simp [shs]
theorem sat12 : Sat prog cxT 12 (c12 mSF) := s12 mCF mBA sat20 sat14 mSF fun x t h => by
  obtain ⟨⟨a, b, c⟩, y⟩ := x
  unfold mSF at h
  split at h
  · rename_i hM
    cases h
    have hc := okC_of hM
    refine ⟨(c.getD y.toNat dVp).2.2.2.length + 1, ?_⟩
    show g12 mCF mBA _ a b c y = some (sF (a, b, c) y)
    unfold g12 sF
    rw [show mCF (a, b, c) = some (cF (a, b, c)) from if_pos hc, tst_some]
    by_cases h0 : cF (a, b, c) = 0
    · rw [bneF h0, cond_false, if_pos h0]
      by_cases h1 : y < 0
      · rw [dt h1, cond_true, if_neg (fun h => by have := h.1; omega)]
      · rw [df h1, cond_false]
        by_cases h2 : y < (c.length : Int)
        · rw [df (show ¬ y ≥ (c.length : Int) by omega), cond_false, if_pos ⟨by omega, h2⟩, dt (show (0 : Int) ≤ y by omega), dt h2, Bool.and_self, cond_true]
          obtain ⟨j, rfl⟩ := Int.eq_ofNat_of_zero_le (show 0 ≤ y by omega)
          rw [Int.toNat_natCast]
          refine (p12 _ a b c j (by omega) hM h0 0 [] _ _ 0 [] (Nat.le_refl _) (by omega) (by omega)).trans ?_
          rw [List.drop_zero, List.nil_append]
        · rw [dt (show y ≥ (c.length : Int) by omega), cond_true, if_neg (fun h => h2 h.2)]
    · rw [bneT h0, cond_true, if_neg h0]
  · cases h

def okS (c : Cg) (y : Int) : Prop := okM c ∧ cF c = 0 ∧ 0 ≤ y ∧ y < (c.2.2.length : Int)
instance (c : Cg) (y : Int) : Decidable (okS c y) := by unfold okS; infer_instance
def m42 (x : Cg × Int) : Option (List Sh) := if okS x.1 x.2 then some (shs x.1.2.1 (x.1.2.2.getD x.2.toNat dVp).2.2.2) else none
theorem p42 (L : Nat) (c : Cg) (j : Nat) (hj : j < c.2.2.length) (hM : okM c) (h0 : cF c = 0) (k : List Sh → Option (List Sh)) : ∀ (n i : Nat) (out : List Sh), out.length ≤ i → i ≤ (c.2.2.getD j dVp).2.2.2.length → (c.2.2.getD j dVp).2.2.2.length < n + i →
    l42_0 m64 L c (j : Int) n out i k = k (out ++ shs c.2.1 ((c.2.2.getD j dVp).2.2.2.drop i))
  | 0, i, out, _, h2, h3 => by omega
  | n + 1, i, out, h1, h2, h3 => by
    unfold l42_0
    have hns := hM.2.2 _ (getD_mem dVp hj)
    unfold mid at hns
    have ev : (List.getD c.2.2 (Int.toNat (j : Int)) (0, 0, 0, [])) = c.2.2.getD j dVp := by rw [Int.toNat_natCast]; rfl
    simp only [ev]
    rw [dt (show (0 : Int) ≤ (j : Int) by omega), dt (show (j : Int) < (c.2.2.length : Int) by omega), Bool.and_self, cond_true]
    generalize hN : (c.2.2.getD j dVp).2.2.2 = ns at *
    by_cases hi : i < ns.length
    · rw [dt (show (i : Int) < (ns.length : Int) by omega), dt (show (0 : Int) ≤ (i : Int) by omega), Bool.and_self, cond_true, cond_true, cond_true, Int.toNat_natCast, wi (x := (i : Int) + 1) (by omega) (by omega)]
      have hk : hasB c.2.1 (ns.getD i 0) = true := by
        have := known (cF_zero h0).2.2.2.2 hj (i := i) (by rw [hN]; exact hi)
        rw [hN] at this
        exact this
      have hr := ris_of (cF_zero h0).2.2.2.1
      have hl := pl_lt hr hk
      have hat := at_pl hr hk
      rw [show m64 (c, ns.getD i 0) = some (plB c.2.1 (ns.getD i 0) : Int) by rw [← hat]; exact if_pos (okC_of hM).1, tst_some]
      rw [dt (show (0 : Int) ≤ (plB c.2.1 (ns.getD i 0) : Int) by omega), dt (show (plB c.2.1 (ns.getD i 0) : Int) < (c.2.1.length : Int) by omega), Bool.and_self, cond_true, Int.toNat_natCast]
      have hnm : (c.2.1.getD (plB c.2.1 (ns.getD i 0)) dBk).1 = ns.getD i 0 := by
        rw [ris_has hr] at hk
        simp only [Bool.and_eq_true, decide_eq_true_eq] at hk
        simpa using hk.2
      rw [drop_cons 0 hi]
      have ih := fun out (h : out.length ≤ i + 1) => p42 L c j hj hM h0 k n (i + 1) out h (by rw [hN]; omega) (by rw [hN]; omega)
      rw [hN] at ih
      simp only [shs]
      have eb : (List.getD c.2.1 (plB c.2.1 (ns.getD i 0)) (0, 0, 0, 0, false)) = c.2.1.getD (plB c.2.1 (ns.getD i 0)) dBk := rfl
      simp only [eb, hnm]
      unfold pick
      cases hu : (c.2.1.getD (plB c.2.1 (ns.getD i 0)) dBk).2.2.2.2
      · rw [if_neg (by simp), cond_false]
        exact (ih out (by omega)).trans (by simp)
      · by_cases hs : (c.2.1.getD (plB c.2.1 (ns.getD i 0)) dBk).2.2.2.1 = 1
        · rw [if_pos ⟨rfl, hs⟩, cond_true, beq_iff_eq.2 hs, cond_true, dt (by simp only [List.length_cons, List.length_nil]; omega), cond_true]
          refine (ih _ (by simp; omega)).trans ?_
          simp
        · rw [if_neg (fun h => hs h.2), cond_true, beq_eq_false_iff_ne.2 hs, cond_false]
          exact (ih out (by omega)).trans (by simp)
    · rw [df (show ¬ (i : Int) < (ns.length : Int) by omega), cond_false, List.drop_eq_nil_of_le (by omega)]
      simp [shs]
theorem sat42 : Sat prog cxT 42 (c42 m42) := s42 m64 sat64 m42 fun x t h => by
  obtain ⟨c, y⟩ := x
  unfold m42 at h
  split at h
  · rename_i hc
    obtain ⟨hM, h0, h1, h2⟩ := hc
    cases h
    simp only at hM h0 h1 h2
    obtain ⟨j, rfl⟩ := Int.eq_ofNat_of_zero_le h1
    refine ⟨(c.2.2.getD j dVp).2.2.2.length + 1, ?_⟩
    show g42 m64 _ c (j : Int) = some (shs c.2.1 (c.2.2.getD (j : Int).toNat dVp).2.2.2)
    unfold g42
    rw [Int.toNat_natCast]
    refine (p42 _ c j (by omega) hM h0 _ _ 0 [] (Nat.le_refl _) (by omega) (by omega)).trans ?_
    rw [List.drop_zero, List.nil_append]
  · cases h
theorem sat13 : Sat prog cxT 13 (c13 mSF) := s13 m40 _ m42 sat40 sat41 sat42 mSF fun x t h => by
  obtain ⟨⟨a, b, c⟩, y⟩ := x
  unfold mSF at h
  split at h
  · rename_i hM
    cases h
    have hc := okC_of hM
    have hl := hM.2.1
    unfold mid at hl
    simp only at hl
    refine ⟨0, ?_⟩
    show g13 m40 _ m42 _ a b c y = some (sF (a, b, c) y)
    unfold g13 sF
    rw [show m40 (a, b, c) = some (cF (a, b, c)) from if_pos hc, tst_some]
    by_cases h0 : cF (a, b, c) = 0
    · rw [bneF h0, cond_false, if_pos h0, tst_some, wi (by omega) (by omega)]
      by_cases h1 : 0 ≤ y ∧ y < (c.length : Int)
      · rw [if_pos h1]
        refine (congrArg (fun b => bif !b then _ else _) (dt (show 0 ≤ y ∧ y ≤ (c.length : Int) - 1 by omega))).trans ?_
        simp only [Bool.not_true, cond_false]
        rw [show m42 ((a, b, c), y) = some (shs b (c.getD y.toNat dVp).2.2.2) from if_pos ⟨hM, h0, h1.1, h1.2⟩, tst_some]
      · rw [if_neg h1]
        refine (congrArg (fun b => bif !b then _ else _) (df (show ¬ (0 ≤ y ∧ y ≤ (c.length : Int) - 1) by omega))).trans ?_
        rfl
    · rw [bneT h0, cond_true, if_neg h0]
  · cases h

/-! results held against each other -/
theorem sat108 : Sat prog cxT 108 (c108 fun x => some (decide (x.1 = x.2))) := s108 _ fun x t h => by
  obtain ⟨⟨a, b⟩, a', b'⟩ := x
  cases h
  refine ⟨0, ?_⟩
  show g108 0 a b a' b' = some (decide ((a, b) = (a', b')))
  unfold g108
  refine bifeq (fun e1 => ?_) ?_
  · subst e1
    by_cases e2 : b = b'
    · rw [bneF e2]; simp [e2]
    · rw [bneT e2]; simp [e2]
  · intro e h; simp at h; exact e h.1
theorem el70 (L : Nat) (a b : List Sh) : ∀ (n : Nat) (i : Int) (k : Option Bool), l70_0 (fun x => some (decide (x.1 = x.2))) L a b n i k = eqL (0, 0) (fun x => some (decide (x.1 = x.2))) a b n i k
  | 0, _, _ => rfl
  | n + 1, i, k => by unfold l70_0 eqL; simp only [el70 L a b n]
def m70 (x : List Sh × List Sh) : Option Bool := if x.1.length ≤ big then some (decide (x.1 = x.2)) else none
theorem sat70 : Sat prog cxT 70 (c70 m70) := s70 _ sat108 m70 fun x t h => by
  obtain ⟨a, b⟩ := x
  unfold m70 at h
  split at h
  · rename_i hc
    cases h
    refine ⟨a.length + 1, ?_⟩
    show g70 _ (a.length + 1) a b = some (decide (a = b))
    unfold g70
    rw [el70]
    exact eq_row (0, 0) _ a b hc (fun _ _ _ _ => rfl)
  · cases h
def m31 (x : (Int × List Sh) × (Int × List Sh)) : Option Bool := if x.1.2.length ≤ big then some (decide (x.1 = x.2)) else none
theorem sat31 : Sat prog cxT 31 (c31 m31) := s31 m70 sat70 m31 fun x t h => by
  obtain ⟨⟨a, b⟩, a', b'⟩ := x
  unfold m31 at h
  split at h
  · rename_i hc
    cases h
    refine ⟨0, ?_⟩
    show g31 m70 0 a b a' b' = some (decide ((a, b) = (a', b')))
    unfold g31
    rw [show m70 (b, b') = some (decide (b = b')) from if_pos hc, tst_some, bifn]
    refine bifeq (fun e1 => ?_) ?_
    · subst e1; simp
    · intro e h; exact e (Prod.mk.inj h).1
  · cases h

/-! marks of shares -/
def mkS (k : Int) (n : Nat) : List Sh := (List.range n).map fun (i : Nat) => (k + 2 * (i : Int), k + 2 * (i : Int) + 1)
theorem mkS_len (k : Int) (n : Nat) : (mkS k n).length = n := by simp [mkS]
theorem mkS_get (k : Int) (n i : Nat) (h : i < n) : (mkS k n).getD i (0, 0) = (k + 2 * (i : Int), k + 2 * (i : Int) + 1) := by
  simp [mkS, List.getD, h]
def m73 (x : List Sh × Int) : Option (Int × List Sh) := if 0 ≤ x.2 ∧ x.2 ≤ 1000000000000 ∧ x.1.length ≤ 1000000000000 then some (x.2 + 2 * (x.1.length : Int), mkS x.2 x.1.length) else none
theorem p73 (L : Nat) (a b : List Sh) (c k0 : Int) (h0 : 0 ≤ k0) (h1 : k0 ≤ 1000000000000) (hb : b.length ≤ 1000000000000) (k : List Sh → Int → Option (Int × List Sh)) : ∀ (n i : Nat) (o : List Sh), o.length = b.length → i ≤ b.length → b.length < n + i → o.take i = (mkS k0 b.length).take i →
    l73_0 L a c n o (k0 + 2 * (i : Int)) i k = k (mkS k0 b.length) (k0 + 2 * (b.length : Int))
  | 0, i, o, _, h3, h4, _ => by omega
  | n + 1, i, o, h2, h3, h4, h5 => by
    unfold l73_0
    by_cases hi : i < b.length
    · have hio : i < o.length := by omega
      simp only [Int.toNat_natCast, List.length_set, List.set_set]
      simp (disch := omega) only [dt, wi, cond_true, Bool.and_self]
      have eg : ∀ x : Sh, (o.set i x).getD i (0, 0) = x := fun x => by
        simp [List.getD, List.getElem?_set_self hio]
      rw [eg]
      have := p73 L a b c k0 h0 h1 hb k n (i + 1) (o.set i (k0 + 2 * (i : Int), k0 + 2 * (i : Int) + 1)) (by rw [List.length_set]; exact h2) (by omega) (by omega) (by
        rw [List.take_add_one, List.take_add_one, List.take_set_of_le (Nat.le_refl _), h5]
        congr 1
        rw [List.getElem?_set_self (by omega)]
        have := mkS_get k0 b.length i hi
        have hl : i < (mkS k0 b.length).length := by rw [mkS_len]; exact hi
        simp only [List.getD, List.getElem?_eq_getElem hl, Option.getD_some] at this
        rw [List.getElem?_eq_getElem hl, this])
      rw [show k0 + 2 * ((i + 1 : Nat) : Int) = k0 + 2 * (i : Int) + 1 + 1 by omega] at this
      exact this
    · simp (disch := omega) only [df, cond_false]
      have hil : i = b.length := by omega
      have : o = mkS k0 b.length := by
        rw [hil] at h5
        rw [← h2, List.take_length, h2] at h5
        rw [h5]
        exact List.take_of_length_le (by rw [mkS_len]; exact Nat.le_refl _)
      rw [this, hil]
theorem sat73 : SatW prog cxT 73 (c73 m73).nres (c73 m73).n (c73 m73).F := s73 m73 fun x t h => by
  obtain ⟨a, k⟩ := x
  unfold m73 at h
  split at h
  · rename_i hc
    obtain ⟨h1, h2, h3⟩ := hc
    simp only at h1 h2 h3 h
    cases h
    refine ⟨a.length + 1, ?_⟩
    unfold g73
    have := p73 (a.length + 1) a a k k h1 h2 h3 (fun o k => some (k, o)) (a.length + 1) 0 a rfl (by omega) (by omega) rfl
    simpa using this
  · cases h
def m74 (x : List Sh × Int) : Option Int := if 0 ≤ x.2 ∧ x.2 ≤ 1000000000000 ∧ x.1.length ≤ 1000000000000 ∧ x.1 = mkS x.2 x.1.length then some (x.2 + 2 * (x.1.length : Int)) else none
theorem p74 (L : Nat) (a : List Sh) (c k0 : Int) (h0 : 0 ≤ k0) (h1 : k0 ≤ 1000000000000) (hb : a.length ≤ 1000000000000) (ha : ∀ i, i < a.length → a.getD i (0, 0) = (k0 + 2 * (i : Int), k0 + 2 * (i : Int) + 1)) (k : Int → Option Int) : ∀ (n i : Nat), i ≤ a.length → a.length < n + i →
    l74_0 L a c n (k0 + 2 * (i : Int)) i k = k (k0 + 2 * (a.length : Int))
  | 0, i, h3, h4 => by omega
  | n + 1, i, h3, h4 => by
    unfold l74_0
    by_cases hi : i < a.length
    · simp (disch := omega) only [dt, df, wi, cond_true, Bool.and_self, Int.toNat_natCast]
      rw [ha i hi, bneF rfl, bneF rfl, cond_false, cond_false]
      have := p74 L a c k0 h0 h1 hb ha k n (i + 1) (by omega) (by omega)
      rw [show k0 + 2 * ((i + 1 : Nat) : Int) = k0 + 2 * (i : Int) + 1 + 1 by omega] at this
      exact this
    · simp (disch := omega) only [df, cond_false]
      rw [show i = a.length by omega]
theorem sat74 : Sat prog cxT 74 (c74 m74) := s74 m74 fun x t h => by
  obtain ⟨a, k⟩ := x
  unfold m74 at h
  split at h
  · rename_i hc
    obtain ⟨h1, h2, h3, h4⟩ := hc
    simp only at h1 h2 h3 h4 h
    cases h
    refine ⟨a.length + 1, ?_⟩
    unfold g74
    have := p74 (a.length + 1) a k k h1 h2 h3 (fun i hi => by
      have e := mkS_get k a.length i hi
      rw [← h4] at e
      exact e) (fun k => some k) (a.length + 1) 0 (by omega) (by omega)
    simpa using this
  · cases h

def m33 (x : (Int × List Sh) × Int) : Option (Int × Int × List Sh) := if 0 ≤ x.2 ∧ x.2 ≤ 1000000000000 ∧ x.1.2.length ≤ 1000000000000 then some (x.2 + 2 * (x.1.2.length : Int), x.1.1, mkS x.2 x.1.2.length) else none
theorem sat33 : SatW prog cxT 33 (c33 m33).nres (c33 m33).n (c33 m33).F := s33 m73 sat73 m33 fun x t h => by
  obtain ⟨⟨a, l⟩, k⟩ := x
  unfold m33 at h
  split at h
  · rename_i hc
    cases h
    refine ⟨0, ?_⟩
    show g33 m73 0 a l k = _
    unfold g33
    rw [show m73 (l, k) = some (k + 2 * (l.length : Int), mkS k l.length) from if_pos hc, tst_some]
  · cases h
def m34 (x : (Int × List Sh) × Int) : Option Int := if 0 ≤ x.2 ∧ x.2 ≤ 1000000000000 ∧ x.1.2.length ≤ 1000000000000 ∧ x.1.2 = mkS x.2 x.1.2.length then some (x.2 + 2 * (x.1.2.length : Int)) else none
theorem sat34 : Sat prog cxT 34 (c34 m34) := s34 m74 sat74 m34 fun x t h => by
  obtain ⟨⟨a, l⟩, k⟩ := x
  unfold m34 at h
  split at h
  · rename_i hc
    cases h
    refine ⟨0, ?_⟩
    show g34 m74 0 a l k = _
    unfold g34
    rw [show m74 (l, k) = some (k + 2 * (l.length : Int)) from if_pos hc, tst_some]
    have := hc.1
    simp only at this
    rw [df (by omega)]; rfl
  · cases h

/-! marks of configurations: what they write is of no matter -/
def m109 (x : List Int × Int) : Option (Int × List Int) := g109 (x.1.length + 1) x.1 x.2
theorem sat109 : SatW prog cxT 109 (c109 m109).nres (c109 m109).n (c109 m109).F := s109 m109 fun x t h => ⟨_, h⟩
theorem p109 (L : Nat) (a : List Int) (c : Int) (N : Nat) (hN : N ≤ 1000000000000) (K : List Int → Int → Option (Int × List Int)) : ∀ (n i : Nat) (o : List Int) (q : Int), o.length = N → i ≤ N → N < n + i → 0 ≤ q → q + (N - i : Nat) ≤ 1000000000000000 →
    ∃ o', o'.length = N ∧ l109_0 L a c n o q i K = K o' (q + (N - i : Nat))
  | 0, i, o, q, _, h2, h3, _, _ => by omega
  | n + 1, i, o, q, h1, h2, h3, h4, h5 => by
    unfold l109_0
    by_cases hi : i < N
    · obtain ⟨o', k1, k2⟩ := p109 L a c N hN K n (i + 1) (o.set i q) (q + 1) (by rw [List.length_set]; exact h1) (by omega) (by omega) (by omega) (by omega)
      refine ⟨o', k1, ?_⟩
      rw [dt (show (i : Int) < (o.length : Int) by omega), dt (show (0 : Int) ≤ (i : Int) by omega), Bool.and_self, cond_true, cond_true, Int.toNat_natCast, wi (x := (i : Int) + 1) (by omega) (by omega), wi (x := q + 1) (by omega) (by omega)]
      refine k2.trans ?_
      congr 1
      omega
    · refine ⟨o, h1, ?_⟩
      rw [df (show ¬ (i : Int) < (o.length : Int) by omega), cond_false, show N - i = 0 by omega]
      simp
theorem m109_some {l : List Int} {q : Int} (hl : l.length ≤ 1000000000000) (h0 : 0 ≤ q) (h1 : q ≤ 100000000000000) : ∃ l', l'.length = l.length ∧ m109 (l, q) = some (q + (l.length : Int), l') := by
  obtain ⟨o', k1, k2⟩ := p109 (l.length + 1) l q l.length hl (fun o k => some (k, o)) (l.length + 1) 0 l q rfl (by omega) (by omega) h0 (by omega)
  exact ⟨o', k1, k2⟩
def m71 (x : List Bk × Int) : Option (Int × List Bk) := g71 (x.1.length + 1) x.1 x.2
theorem sat71 : SatW prog cxT 71 (c71 m71).nres (c71 m71).n (c71 m71).F := s71 m71 fun x t h => ⟨_, h⟩
theorem p71 (L : Nat) (a : List Bk) (c : Int) (N : Nat) (hN : N ≤ 1000000000) (K : List Bk → Int → Option (Int × List Bk)) : ∀ (n i : Nat) (o : List Bk) (q : Int), o.length = N → i ≤ N → N < n + i → 0 ≤ q → q + 5 * (N - i : Nat) ≤ 1000000000000000 →
    ∃ o', o'.length = N ∧ l71_0 L a c n o q i K = K o' (q + 5 * (N - i : Nat))
  | 0, i, o, q, _, h2, h3, _, _ => by omega
  | n + 1, i, o, q, h1, h2, h3, h4, h5 => by
    unfold l71_0
    by_cases hi : i < N
    · simp only [bnd_eq, List.length_set]
      rw [dt (show (i : Int) < (o.length : Int) by omega), dt (show (0 : Int) ≤ (i : Int) by omega), Bool.and_self]
      simp only [cond_true]
      rw [wi (x := (i : Int) + 1) (by omega) (by omega), wi (x := q + 1) (by omega) (by omega), wi (x := q + 1 + 1) (by omega) (by omega), wi (x := q + 1 + 1 + 1) (by omega) (by omega), wi (x := q + 1 + 1 + 1 + 1) (by omega) (by omega), wi (x := q + 1 + 1 + 1 + 1 + 1) (by omega) (by omega)]
      refine (p71 L a c N hN K n (i + 1) _ (q + 1 + 1 + 1 + 1 + 1) (by simp only [List.length_set]; exact h1) (by omega) (by omega) (by omega) (by omega)).imp fun o' k => ⟨k.1, k.2.trans ?_⟩
      congr 1
      omega
    · refine ⟨o, h1, ?_⟩
      rw [df (show ¬ (i : Int) < (o.length : Int) by omega), cond_false, show N - i = 0 by omega]
      simp
theorem m71_some {l : List Bk} {q : Int} (hl : l.length ≤ 1000000000) (h0 : 0 ≤ q) (h1 : q ≤ 100000000000000) : ∃ l', m71 (l, q) = some (q + 5 * (l.length : Int), l') := by
  obtain ⟨o', k1, k2⟩ := p71 (l.length + 1) l q l.length hl (fun o k => some (k, o)) (l.length + 1) 0 l q rfl (by omega) (by omega) h0 (by omega)
  exact ⟨o', k2⟩
def m72 (x : List Vp × Int) : Option (Int × List Vp) := g72 m109 (x.1.length + 1) x.1 x.2
theorem sat72 : SatW prog cxT 72 (c72 m72).nres (c72 m72).n (c72 m72).F := s72 m109 sat109 m72 fun x t h => ⟨_, h⟩
theorem p72 (L : Nat) (a : List Vp) (c : Int) (N : Nat) (hN : N ≤ 1048576) (K : List Vp → Int → Option (Int × List Vp)) : ∀ (n i : Nat) (o : List Vp) (q : Int), o.length = N → (∀ v ∈ o, v.2.2.2.length ≤ 1048576) → i ≤ N → N < n + i → 0 ≤ q → q ≤ 10000000 + 2000000 * (i : Int) →
    ∃ o' q', 0 ≤ q' ∧ l72_0 m109 L a c n o q i K = K o' q'
  | 0, i, o, q, _, _, h2, h3, _, _ => by omega
  | n + 1, i, o, q, h1, hv, h2, h3, h4, h5 => by
    unfold l72_0
    by_cases hi : i < N
    · have hio : i < o.length := by omega
      simp only [bnd_eq, List.length_set]
      rw [dt (show (i : Int) < (o.length : Int) by omega), dt (show (0 : Int) ≤ (i : Int) by omega), Bool.and_self]
      simp only [cond_true]
      rw [wi (x := (i : Int) + 1) (by omega) (by omega), wi (x := q + 1) (by omega) (by omega), wi (x := q + 1 + 1) (by omega) (by omega), wi (x := q + 1 + 1 + 1) (by omega) (by omega)]
      simp only [Int.toNat_natCast, List.set_set]
      have eg : ∀ x : Vp, (o.set i x).getD i (0, 0, 0, []) = x := fun x => by simp [List.getD, List.getElem?_set_self hio]
      simp only [eg]
      have hnl : (o.getD i dVp).2.2.2.length ≤ 1048576 := hv _ (getD_mem dVp hio)
      have hnl' : (o.getD i (0, 0, 0, [])).2.2.2.length ≤ 1048576 := hnl
      obtain ⟨l', e1, e2⟩ := m109_some (l := (o.getD i (0, 0, 0, [])).2.2.2) (q := q + 1 + 1 + 1) (by omega) (by omega) (by omega)
      rw [e2, tst_some]
      refine p72 L a c N hN K n (i + 1) _ _ (by rw [List.length_set]; exact h1) (fun v hvm => ?_) (by omega) (by omega) (by simp only; omega) (by simp only; omega)
      rcases List.mem_or_eq_of_mem_set hvm with hvm | rfl
      · exact hv v hvm
      · show l'.length ≤ 1048576
        rw [e1]; exact hnl'
    · refine ⟨o, q, h4, ?_⟩
      rw [df (show ¬ (i : Int) < (o.length : Int) by omega), cond_false]
theorem m72_some {l : List Vp} {q : Int} (hl : l.length ≤ 1048576) (hv : ∀ v ∈ l, v.2.2.2.length ≤ 1048576) (h0 : 0 ≤ q) (h1 : q ≤ 10000000) : ∃ l' q', 0 ≤ q' ∧ m72 (l, q) = some (q', l') := by
  obtain ⟨o', q', k1, k2⟩ := p72 (l.length + 1) l q l.length hl (fun o k => some (k, o)) (l.length + 1) 0 l q rfl hv (by omega) (by omega) h0 (by omega)
  exact ⟨o', q', k1, k2⟩
def m32 (x : Cg × Int) : Option (Int × Cg) := g32 m71 m72 0 x.1.1 x.1.2.1 x.1.2.2 x.2
theorem sat32 : SatW prog cxT 32 (c32 m32).nres (c32 m32).n (c32 m32).F := s32 m71 m72 sat71 sat72 m32 fun x t h => ⟨0, h⟩
theorem m32_some {c : Cg} (h1 : c.2.1.length ≤ 1048576) (h2 : c.2.2.length ≤ 1048576) (h3 : ∀ v ∈ c.2.2, v.2.2.2.length ≤ 1048576) : ∃ r : Int × Cg, 0 ≤ r.1 ∧ m32 (c, 1) = some r := by
  obtain ⟨l', e1⟩ := m71_some (l := c.2.1) (q := 1) (by omega) (by omega) (by omega)
  obtain ⟨l2, q', e2, e3⟩ := m72_some (l := c.2.2) (q := 1 + 5 * (c.2.1.length : Int)) h2 h3 (by omega) (by omega)
  refine ⟨(q', c.1, l', l2), e2, ?_⟩
  show g32 m71 m72 0 c.1 c.2.1 c.2.2 1 = _
  unfold g32
  rw [e1, tst_some, e3, tst_some]

/-! FnExactSharesFor -/
def m8 (x : Cg × Int) : Option Bool := if okZ x.1 then some true else none
theorem sF_len (c : Cg) (y : Int) (h : okC c) : (sF c y).2.length ≤ big := by
  unfold sF
  split
  · split
    · rename_i h1
      simp only
      have := shs_len c.2.1 (c.2.2.getD y.toNat dVp).2.2.2
      have h2 := h.2.2 _ (getD_mem dVp (show y.toNat < c.2.2.length by omega))
      omega
    · simp [big]
  · simp [big]
theorem sat8 : Sat prog cxT 8 (c8 m8) := s8 m17 m19 mSF mSF m31 m21 m32 m33 m34 sat17 sat19 sat13 sat12 sat31 sat21 sat32 sat33 sat34 m8 fun x t h => by
  obtain ⟨⟨a, b, c⟩, y⟩ := x
  unfold m8 at h
  split at h
  · rename_i hz
    cases h
    refine ⟨0, ?_⟩
    show g8 m17 m19 mSF mSF m31 m21 m32 m33 m34 0 a b c y = some true
    unfold g8
    rw [sz_at hz, tst_some]
    by_cases h : szv 1048576 (wC (a, b, c)) < 0
    · rw [dt h, cond_true]
    · obtain ⟨hM, hC⟩ := small_ok h
      obtain ⟨w1, w2, w3⟩ := wC_small (c := (a, b, c)) (by omega)
      obtain ⟨r, hr0, hr⟩ := m32_some (c := (a, b, c)) w1 w2 w3
      have hS : mSF ((a, b, c), y) = some (sF (a, b, c) y) := if_pos hM
      have hsl := sF_len (a, b, c) y hC
      generalize sF (a, b, c) y = z at hS hsl
      obtain ⟨z1, z2⟩ := z
      have hsl : z2.length ≤ 1000000000000 := hsl
      have h31 : m31 ((z1, z2), z1, z2) = some true := by
        have : m31 ((z1, z2), z1, z2) = some (decide ((z1, z2) = (z1, z2))) := if_pos hsl
        rw [this, dt rfl]
      have h21 : m21 ((a, b, c), a, b, c) = some true := by
        have : m21 ((a, b, c), a, b, c) = some (decide ((a, b, c) = (a, b, c))) := if_pos hC
        rw [this, dt rfl]
      have h33 : m33 ((z1, z2), 1) = some (1 + 2 * (z2.length : Int), z1, mkS 1 z2.length) := if_pos ⟨by simp only; omega, by simp only; omega, hsl⟩
      have h34 : m34 ((z1, mkS 1 z2.length), 1) = some (1 + 2 * (z2.length : Int)) := by
        have : m34 ((z1, mkS 1 z2.length), 1) = some (1 + 2 * ((mkS 1 z2.length).length : Int)) := if_pos ⟨by simp only; omega, by simp only; omega, by simp only [mkS_len]; exact hsl, by simp only [mkS_len]⟩
        rw [this, mkS_len]
      rw [df h, cond_false, show m19 (a, b, c) = some (a, b, c) from if_pos hM]
      simp only [tst_some, hS, h31, h21, hr, h33, h34, Bool.not_true, cond_false]
      rw [df (show ¬ r.1 < 0 by omega), df (show ¬ 1 + 2 * (z2.length : Int) < 0 by omega), bneF rfl]
      simp only [cond_false]
  · cases h
end Go.Proofs.Try

namespace Go.Proofs.Try
open Go Go.VM Go.RowKit

theorem cells2 : prog.cellsOf 2 = 1 := by kernel_rfl
theorem cells4 : prog.cellsOf 4 = 1 := by kernel_rfl
theorem cells34 : prog.cellsOf 34 = 1 := by kernel_rfl
theorem cells46 : prog.cellsOf 46 = 1 := by kernel_rfl
theorem cells47 : prog.cellsOf 47 = 1 := by kernel_rfl
theorem cells49 : prog.cellsOf 49 = 3 := by kernel_rfl
theorem cells127 : prog.cellsOf 127 = 4 := by kernel_rfl
theorem cells129 : prog.cellsOf 129 = 5 := by kernel_rfl
def i64In (x : Int) : Prop := (Lit.int .i64 x).wf = true
def opI_good (x : List Int) : Prop := x.length ≤ maxLen ∧ ∀ y ∈ x, i64In y
def row2 (xs : List Int) : L cxT.ty := some (.inr (ro 2 xs))
theorem opI : Opens prog cxT 34 (fun x : List Int => [row2 x]) opI_good :=
  opens_slice (cx := cxT) (e := 2) (good := i64In) underlying34 cells2 (by decide) cxT_ok (opens_int (cx := cxT) underlying2)
def bk_good (b : Bk) : Prop := i64In b.1 ∧ i64In b.2.1 ∧ i64In b.2.2.1 ∧ i64In b.2.2.2.1 ∧ True
set_option maxRecDepth 100000 in
theorem opBk : Opens prog cxT 129 (fun b : Bk => [lv (.int .i64 b.1), lv (.int .i64 b.2.1), lv (.int .i64 b.2.2.1), lv (.int .i64 b.2.2.2.1), lv (.bool b.2.2.2.2)]) bk_good :=
  opens_struct underlying129 cells129 (opensF_cons (opens_int underlying2) rfl cells2 (opensF_cons (opens_int underlying2) rfl cells2 (opensF_cons (opens_int underlying2) rfl cells2 (opensF_cons (opens_int underlying2) rfl cells2 (opensF_one (l := fun x : Bool => lv (.bool x)) (opens_bool underlying4) rfl cells4)))))
def bks_good (x : List Bk) : Prop := x.length ≤ maxLen ∧ ∀ y ∈ x, bk_good y
def row129 (xs : List Bk) : L cxT.ty := some (.inr (ro 129 xs))
set_option maxRecDepth 100000 in
theorem opBks : Opens prog cxT 46 (fun x : List Bk => [row129 x]) bks_good :=
  opens_slice (cx := cxT) (e := 129) (good := bk_good) underlying46 cells129 (by decide) cxT_ok opBk
def vp_good (b : Vp) : Prop := i64In b.1 ∧ i64In b.2.1 ∧ i64In b.2.2.1 ∧ opI_good b.2.2.2
set_option maxRecDepth 100000 in
theorem opVp : Opens prog cxT 127 (fun b : Vp => [lv (.int .i64 b.1), lv (.int .i64 b.2.1), lv (.int .i64 b.2.2.1), row2 b.2.2.2]) vp_good :=
  opens_struct underlying127 cells127 (opensF_cons (opens_int underlying2) rfl cells2 (opensF_cons (opens_int underlying2) rfl cells2 (opensF_cons (opens_int underlying2) rfl cells2 (opensF_one (l := row2) opI rfl cells34))))
def vps_good (x : List Vp) : Prop := x.length ≤ maxLen ∧ ∀ y ∈ x, vp_good y
def row127 (xs : List Vp) : L cxT.ty := some (.inr (ro 127 xs))
set_option maxRecDepth 100000 in
theorem opVps : Opens prog cxT 47 (fun x : List Vp => [row127 x]) vps_good :=
  opens_slice (cx := cxT) (e := 127) (good := vp_good) underlying47 cells127 (by decide) cxT_ok opVp
def opC_good (c : Cg) : Prop := i64In c.1 ∧ bks_good c.2.1 ∧ vps_good c.2.2
def encC (c : Cg) : List (L cxT.ty) := [lv (.int .i64 c.1), row129 c.2.1, row127 c.2.2]
set_option maxRecDepth 100000 in
theorem opC : Opens prog cxT 49 encC opC_good :=
  opens_struct underlying49 cells49 (opensF_cons (opens_int underlying2) rfl cells2 (opensF_cons (l := row129) opBks rfl cells46 (opensF_one (l := row127) opVps rfl cells47)))
theorem okZ_of {c : Cg} (h : opC_good c) : okZ c := by
  have hm : maxLen ≤ 9223372036854775807 := by decide
  obtain ⟨_, ⟨h1, _⟩, h2, h3⟩ := h
  exact ⟨Nat.le_trans h1 hm, Nat.le_trans h2 hm, fun v hv => Nat.le_trans (h3 v hv).2.2.2.1 hm⟩
end Go.Proofs.Try
