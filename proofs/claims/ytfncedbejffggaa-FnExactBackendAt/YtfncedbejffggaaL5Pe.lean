/- A part of the proof of FnExactBackendAt: L5Pe, L5Pf, L5Top. -/
import Derived.Test.YtfncedbejffggaaL5Pa
import Derived.Test.YtfncedbejffggaaVmOpen
set_option maxHeartbeats 0
set_option linter.unusedVariables false
set_option linter.unusedSimpArgs false
namespace Go.Proofs.Try
open Go Go.VM Go.RowKit

/-! ### The program's ConfigFault -/
theorem sat84 : Sat prog cxT 84 (c84 fun x => some (cmpI x.1.1 x.2)) := s84 _ sat85 _ fun x t h => by
  obtain ⟨⟨a, b, c, d, e⟩, y⟩ := x
  cases h
  exact ⟨0, rfl⟩
/-- The first place of which p is not so. -/
def low {α : Type} (p : α → Bool) : List α → Nat
  | [] => 0
  | x :: r => if p x then low p r + 1 else 0
theorem low_le {α : Type} (p : α → Bool) : ∀ l, low p l ≤ l.length
  | [] => Nat.le_refl _
  | x :: r => by
    have := low_le p r
    unfold low
    split <;> simp only [List.length_cons] <;> omega
theorem low_lt {α : Type} (p : α → Bool) (d : α) : ∀ (l : List α) (j : Nat), j < low p l → p (l.getD j d) = true
  | [], j, h => by simp [low] at h
  | x :: r, j, h => by
    unfold low at h
    split at h
    · rename_i hx
      cases j with
      | zero => simpa using hx
      | succ j => simpa using low_lt p d r j (by omega)
    · omega
theorem low_at {α : Type} (p : α → Bool) (d : α) : ∀ (l : List α), low p l < l.length → p (l.getD (low p l) d) = false
  | [], h => by simp at h
  | x :: r, h => by
    unfold low at h ⊢
    split at h
    · rename_i hx
      rw [if_pos hx]
      simpa using low_at p d r (by simpa using h)
    · rename_i hx
      rw [if_neg hx]
      simpa using hx
theorem el83 (L : Nat) (a : List Bk) (y : Int) (u : Unit) : ∀ (n : Nat) (lo hi : Int) (k : Int → Option (Int × Bool)), l83_0 (fun x => some (cmpI x.1.1 x.2)) L a y u n lo hi k = bsL a.length (fun j => some (cmpI (a.getD j dBk).1 y)) n lo hi k
  | 0, _, _, _ => rfl
  | n + 1, lo, hi, k => by unfold l83_0 bsL; simp only [el83 L a y u n]; rfl
def plB (bs : List Bk) (y : Int) : Nat := low (fun b : Bk => decide (b.1 < y)) bs
instance (bs : List Bk) : Decidable (ris bs) := by
  have : ris bs ↔ ∀ j, j < bs.length → ∀ i, i < j → (bs.getD i dBk).1 < (bs.getD j dBk).1 := ⟨fun h j hj i hi => h i j hi hj, fun h i j hi hj => h j hj i hi⟩
  exact decidable_of_iff _ this.symm
theorem ris_high {bs : List Bk} (h : ris bs) {y : Int} {j : Nat} (h1 : plB bs y ≤ j) (h2 : j < bs.length) : y ≤ (bs.getD j dBk).1 := by
  have hl : plB bs y < bs.length := by omega
  have h3 := low_at (fun b : Bk => decide (b.1 < y)) dBk bs hl
  have h4 : ¬ (bs.getD (plB bs y) dBk).1 < y := of_decide_eq_false h3
  by_cases he : plB bs y = j
  · rw [he] at h4; omega
  · have := h (plB bs y) j (by omega) h2
    omega
theorem ris_has {bs : List Bk} (h : ris bs) (y : Int) : hasB bs y = (decide (plB bs y < bs.length) && ((bs.getD (plB bs y) dBk).1 == y)) := by
  by_cases hl : plB bs y < bs.length
  · rw [dt hl, Bool.true_and]
    by_cases he : (bs.getD (plB bs y) dBk).1 = y
    · rw [beq_iff_eq.2 he]
      exact List.any_eq_true.2 ⟨_, getD_mem dBk hl, beq_iff_eq.2 he⟩
    · rw [beq_eq_false_iff_ne.2 he]
      refine Bool.eq_false_iff.2 fun hh => ?_
      obtain ⟨b, hb, hy⟩ := List.any_eq_true.1 hh
      obtain ⟨j, hj, rfl⟩ := List.mem_iff_getElem.1 hb
      have hy : (bs.getD j dBk).1 = y := by rw [getD_at dBk hj]; simpa using hy
      have hge := ris_high h (y := y) (j := plB bs y) (Nat.le_refl _) hl
      rcases Nat.lt_trichotomy j (plB bs y) with h1 | h1 | h1
      · have := low_lt (fun b : Bk => decide (b.1 < y)) dBk bs j h1
        have : (bs.getD j dBk).1 < y := by simpa using this
        omega
      · rw [← h1] at he; exact he hy
      · have := h _ _ h1 hj; omega
  · rw [df hl, Bool.false_and]
    refine Bool.eq_false_iff.2 fun hh => ?_
    obtain ⟨b, hb, hy⟩ := List.any_eq_true.1 hh
    obtain ⟨j, hj, rfl⟩ := List.mem_iff_getElem.1 hb
    have hle := low_le (fun b : Bk => decide (b.1 < y)) bs
    have := low_lt (fun b : Bk => decide (b.1 < y)) dBk bs j (by show j < plB bs y; omega)
    have h5 : (bs.getD j dBk).1 < y := by simpa using this
    rw [getD_at dBk hj] at h5
    have : bs[j].1 = y := by simpa using hy
    omega
def m83 (x : List Bk × Int × Unit) : Option (Int × Bool) := if ris x.1 ∧ x.1.length ≤ big then some ((plB x.1 x.2.1 : Int), hasB x.1 x.2.1) else none
theorem sat83 : Sat prog cxT 83 (c83 m83) := s83 _ sat84 m83 fun x t h => by
  obtain ⟨bs, y, u⟩ := x
  unfold m83 at h
  split at h
  · rename_i hc
    obtain ⟨hr, hb⟩ := hc
    cases h
    simp only at hr hb
    have hb' : bs.length ≤ 1000000000000 := hb
    have hle : plB bs y ≤ bs.length := low_le _ bs
    refine ⟨bs.length + 1, ?_⟩
    show g83 _ _ bs y u = some ((plB bs y : Int), hasB bs y)
    unfold g83
    rw [el83]
    refine (bsL_ok bs.length _ (fun j => cmpI (bs.getD j dBk).1 y) (by omega) (fun _ _ => rfl) (plB bs y) (fun j hj => ?_) (fun j h1 h2 => cmpI_pos.2 (ris_high hr h1 h2)) _ (bs.length + 1) 0 bs.length (by omega) hle (Nat.le_refl _) (by omega)).trans ?_
    · have := low_lt (fun b : Bk => decide (b.1 < y)) dBk bs j hj
      exact cmpI_neg.2 (by simpa using this)
    · rw [ris_has hr]
      by_cases hl : plB bs y < bs.length
      · rw [dt (show (plB bs y : Int) < (bs.length : Int) by omega), dt (show (0 : Int) ≤ (plB bs y : Int) by omega), dt hl, Bool.and_self, cond_true, cond_true, tst_some, Int.toNat_natCast, Bool.true_and]
        show some ((plB bs y : Int), cmpI (bs.getD (plB bs y) dBk).1 y == 0) = _
        by_cases he : (bs.getD (plB bs y) dBk).1 = y
        · rw [beq_iff_eq.2 he, beq_iff_eq.2 (cmpI_zero.2 he)]
        · rw [beq_eq_false_iff_ne.2 he, beq_eq_false_iff_ne.2 (fun h => he (cmpI_zero.1 h))]
      · rw [df (show ¬ (plB bs y : Int) < (bs.length : Int) by omega), df hl, cond_false, Bool.false_and]
  · cases h
def m43 (x : List Bk × Int) : Option (Int × Bool) := if ris x.1 ∧ x.1.length ≤ big then some ((plB x.1 x.2 : Int), hasB x.1 x.2) else none
theorem sat43 : Sat prog cxT 43 (c43 m43) := s43 m83 sat83 m43 fun x t h => by
  obtain ⟨bs, y⟩ := x
  unfold m43 at h
  split at h
  · rename_i hc
    cases h
    refine ⟨0, ?_⟩
    show g43 m83 0 bs y = _
    unfold g43
    rw [show m83 (bs, y, PUnit.unit) = some ((plB bs y : Int), hasB bs y) from if_pos hc, tst_some]
  · cases h
def orI : List Int → Int
  | [] => 0
  | x :: r => if x = 0 then orI r else x
theorem p93 (L : Nat) (a : List Int) (ha : a.length ≤ big) : ∀ (n i : Nat), i ≤ a.length → a.length < n + i → l93_0 L a n i (some 0) = some (orI (a.drop i))
  | 0, i, h2, h3 => by omega
  | n + 1, i, h2, h3 => by
    unfold l93_0
    unfold big at ha
    by_cases hi : i < a.length
    · rw [Int.toNat_natCast]
      simp (disch := omega) only [dt, wi, cond_true, Bool.and_self]
      rw [drop_cons 0 hi]
      unfold orI
      by_cases h0 : a.getD i 0 = 0
      · rw [bneF h0, cond_false, if_pos h0]; exact p93 L a ha n (i + 1) (by omega) (by omega)
      · rw [bneT h0, cond_true, if_neg h0]
    · simp (disch := omega) only [df, cond_false]
      rw [List.drop_eq_nil_of_le (by omega)]; rfl
def m93 (a : List Int) : Option Int := if a.length ≤ big then some (orI a) else none
theorem sat93 : Sat prog cxT 93 (c93 m93) := s93 m93 fun x t h => by
  unfold m93 at h
  split at h
  · rename_i hc
    cases h
    exact ⟨x.length + 1, p93 _ x hc _ 0 (by omega) (by omega)⟩
  · cases h
def cmpV (a b : Vp) : Int := orI [cmpI a.1 b.1, cmpI a.2.1 b.2.1, cmpI a.2.2.1 b.2.2.1]
theorem sat53 : Sat prog cxT 53 (c53 fun x => some (cmpV x.1 x.2)) := s53 _ m93 sat85 sat93 _ fun x t h => by
  obtain ⟨⟨a, b, c, d⟩, a', b', c', d'⟩ := x
  cases h
  exact ⟨0, rfl⟩
theorem cmpV_le {a b : Vp} : cmpV a b ≤ 0 ↔ beh b a = false := by
  have key : cmpV a b ≤ 0 ↔ ¬ beh b a = true := by
    unfold cmpV orI orI orI orI beh cmpI
    by_cases h1 : b.1 = a.1
    · rw [if_pos h1]
      by_cases h2 : b.2.1 = a.2.1
      · rw [if_pos h2]
        simp only [h1, h2, Int.lt_irrefl, if_false, if_true, decide_eq_true_eq]
        split <;> (try split) <;> (try split) <;> omega
      · rw [if_neg h2]
        simp only [h1, Int.lt_irrefl, if_false, if_true, decide_eq_true_eq]
        by_cases h3 : a.2.1 < b.2.1
        · simp only [h3, if_true]; simp; omega
        · have h4 : b.2.1 < a.2.1 := by omega
          simp only [h3, h4, if_false, if_true]; simp
    · rw [if_neg h1]
      simp only [decide_eq_true_eq]
      by_cases h3 : a.1 < b.1
      · simp only [h3, if_true]; simp; omega
      · have h4 : b.1 < a.1 := by omega
        simp only [h3, h4, if_false, if_true]; simp
  rw [key]; simp

/-! names -/
theorem p54_0 (bs : List Bk) (hr : ris bs) (hb : bs.length ≤ big) (L : Nat) (ns : List Int) (hn : ns.length ≤ big) (k : Option Int) : ∀ (n i : Nat), i ≤ ns.length → ns.length < n + i → l54_0 m43 L ns bs n i k = if fst (knN bs ns) (ns.length - i) i = 0 then k else some 4
  | 0, i, h2, h3 => by omega
  | n + 1, i, h2, h3 => by
    unfold l54_0
    have hn' : ns.length ≤ 1000000000000 := hn
    by_cases hi : i < ns.length
    · rw [Int.toNat_natCast]
      simp (disch := omega) only [dt, wi, cond_true, Bool.and_self]
      rw [fst_step hi, show m43 (bs, ns.getD i 0) = some ((plB bs (ns.getD i 0) : Int), hasB bs (ns.getD i 0)) from if_pos ⟨hr, hb⟩, tst_some]
      unfold knN
      by_cases hh : hasB bs (ns.getD i 0) = true
      · simp only [hh, if_true, Bool.not_true, cond_false]
        exact p54_0 bs hr hb L ns hn k n (i + 1) (by omega) (by omega)
      · simp only [show hasB bs (ns.getD i 0) = false by simpa using hh, Bool.false_eq_true, if_false, Bool.not_false, cond_true]
        rfl
    · simp (disch := omega) only [df, cond_false]
      rw [fst_done hi, if_pos rfl]
theorem p54_2 (bs : List Bk) (L : Nat) (ns : List Int) (hn : ns.length ≤ big) (k : Option Int) : ∀ (n i : Nat), i ≤ ns.length → ns.length < n + i → l54_2 m43 L ns bs n i k = if fst (rsN ns) (ns.length - i) i = 0 then k else some 1
  | 0, i, h2, h3 => by omega
  | n + 1, i, h2, h3 => by
    unfold l54_2
    have hn' : ns.length ≤ 1000000000000 := hn
    by_cases hi : i < ns.length
    · rw [dt (show (i : Int) < (ns.length : Int) by omega), dt (show (0 : Int) ≤ (i : Int) by omega), Bool.and_self, cond_true, cond_true, fst_step hi, wi (x := (i : Int) + 1) (by omega) (by omega)]
      have ih := p54_2 bs L ns hn k n (i + 1) (by omega) (by omega)
      by_cases h0 : 0 < i
      · rw [dt (show (i : Int) > 0 by omega), cond_true, wi (by omega) (by omega), dt (show (0 : Int) ≤ (i : Int) - 1 by omega), dt (show (i : Int) - 1 < (ns.length : Int) by omega), Bool.and_self, cond_true, toNat_pred h0, Int.toNat_natCast]
        by_cases hh : ns.getD i 0 ≤ ns.getD (i - 1) 0
        · have e : rsN ns i = 1 := if_pos ⟨h0, hh⟩
          rw [dt hh, cond_true, e]; rfl
        · have e : rsN ns i = 0 := if_neg fun h => hh h.2
          rw [df hh, cond_false, if_pos e]; exact ih
      · have e : rsN ns i = 0 := if_neg fun h => h0 h.1
        rw [df (show ¬ (i : Int) > 0 by omega), cond_false, if_pos e]; exact ih
    · simp (disch := omega) only [df, cond_false]
      rw [fst_done hi, if_pos rfl]
def m54 (x : List Int × List Bk) : Option Int := if ris x.2 ∧ x.2.length ≤ big ∧ x.1.length ≤ big then some (nF x.2 x.1) else none
theorem sat54 : Sat prog cxT 54 (c54 m54) := s54 m43 sat43 m54 fun x t h => by
  obtain ⟨ns, bs⟩ := x
  unfold m54 at h
  split at h
  · rename_i hc
    obtain ⟨hr, hb, hn⟩ := hc
    cases h
    refine ⟨ns.length + 1, ?_⟩
    show g54 m43 _ ns bs = some (nF bs ns)
    unfold g54
    refine (p54_0 bs hr hb _ ns hn _ _ 0 (by omega) (by omega)).trans ?_
    rw [Nat.sub_zero]
    unfold nF
    by_cases h : fst (knN bs ns) ns.length 0 = 0
    · rw [if_pos h, if_pos h]
      refine (p54_2 bs _ ns hn _ _ 0 (by omega) (by omega)).trans ?_
      rw [Nat.sub_zero]
      rcases rsN_val ns with h2 | h2
      · rw [if_pos h2, h2]
      · rw [if_neg (by rw [h2]; decide), h2]
    · rw [if_neg h, if_neg h]
  · cases h

/-! ConfigFault -/
abbrev vB : Bk → Option Bool := fun b => some (bkOk b)
abbrev vV : Vp → Option Bool := fun v => some (vpOk v)
abbrev vW : Vp × Vp → Option Int := fun x => some (cmpV x.1 x.2)
theorem p20_0 (M50 : Int → Option Bool) (L : Nat) (a : Int) (bs : List Bk) (vs : List Vp) (v : Int) (ws : List Vp) (hb : bs.length ≤ big) (k : Int → List Bk → List Vp → Option Int) :
    ∀ (n i : Nat), i ≤ bs.length → bs.length < n + i → l20_0 M50 vB vV vW m54 L a bs vs n v bs ws i k = if fst (bF bs) (bs.length - i) i = 0 then k v bs ws else some (fst (bF bs) (bs.length - i) i)
  | 0, i, h2, h3 => by omega
  | n + 1, i, h2, h3 => by
    unfold l20_0
    have hn' : bs.length ≤ 1000000000000 := hb
    by_cases hi : i < bs.length
    · rw [dt (show (i : Int) < (bs.length : Int) by omega), dt (show (0 : Int) ≤ (i : Int) by omega), Bool.and_self, cond_true, cond_true, tst_some, Int.toNat_natCast, fst_step hi, wi (x := (i : Int) + 1) (by omega) (by omega)]
      have ih := p20_0 M50 L a bs vs v ws hb k n (i + 1) (by omega) (by omega)
      by_cases hok : bkOk (bs.getD i dBk) = true
      · refine (congrArg (fun b => bif !b then _ else _) hok).trans ?_
        simp only [Bool.not_true, cond_false]
        by_cases h0 : 0 < i
        · rw [dt (show (i : Int) > 0 by omega), cond_true, wi (by omega) (by omega), dt (show (0 : Int) ≤ (i : Int) - 1 by omega), dt (show (i : Int) - 1 < (bs.length : Int) by omega), Bool.and_self, cond_true, toNat_pred h0]
          by_cases hh : (bs.getD i dBk).1 ≤ (bs.getD (i - 1) dBk).1
          · have e : bF bs i = 1 := by unfold bF; rw [if_pos hok, if_pos ⟨h0, hh⟩]
            rw [dt (c := (List.getD bs i (0, 0, 0, 0, false)).1 ≤ (List.getD bs (i - 1) (0, 0, 0, 0, false)).1) hh, cond_true, e]; rfl
          · have e : bF bs i = 0 := by unfold bF; rw [if_pos hok, if_neg (fun h => hh h.2)]
            rw [df (c := (List.getD bs i (0, 0, 0, 0, false)).1 ≤ (List.getD bs (i - 1) (0, 0, 0, 0, false)).1) hh, cond_false, if_pos e]
            exact ih
        · have e : bF bs i = 0 := by unfold bF; rw [if_pos hok, if_neg (fun h => h0 h.1)]
          rw [df (show ¬ (i : Int) > 0 by omega), cond_false, if_pos e]
          exact ih
      · have e : bF bs i = 3 := by unfold bF; rw [if_neg hok]
        refine (congrArg (fun b => bif !b then _ else _) (show bkOk (bs.getD i dBk) = false by simpa using hok)).trans ?_
        rw [e]; rfl
    · rw [df (show ¬ (i : Int) < (bs.length : Int) by omega), cond_false, fst_done hi, if_pos rfl]
theorem p20_2 (M50 : Int → Option Bool) (M51 : Bk → Option Bool) (L : Nat) (a : Int) (as0 : List Bk) (us : List Vp) (v : Int) (bs : List Bk) (vs : List Vp) (hr : ris bs) (hok : okC (v, bs, vs)) (k : Option Int) :
    ∀ (n i : Nat), i ≤ vs.length → vs.length < n + i → l20_2 M50 M51 vV vW m54 L a as0 us n v bs vs vs (vs.length : Int) i k = if fst (vF bs vs) (vs.length - i) i = 0 then k else some (fst (vF bs vs) (vs.length - i) i)
  | 0, i, h2, h3 => by omega
  | n + 1, i, h2, h3 => by
    unfold l20_2
    have hn' : vs.length ≤ 1000000000000 := hok.2.1
    by_cases hi : i < vs.length
    · rw [dt (show (i : Int) < (vs.length : Int) by omega), dt (show (0 : Int) ≤ (i : Int) by omega), Bool.and_self, cond_true, cond_true, tst_some, Int.toNat_natCast, fst_step hi, wi (x := (i : Int) + 1) (by omega) (by omega)]
      have ih := p20_2 M50 M51 L a as0 us v bs vs hr hok k n (i + 1) (by omega) (by omega)
      have en : m54 ((vs.getD i dVp).2.2.2, bs) = some (nF bs (vs.getD i dVp).2.2.2) := if_pos ⟨hr, hok.1, hok.2.2 _ (getD_mem dVp hi)⟩
      have tail : ∀ (e : vF bs vs i = nF bs (vs.getD i dVp).2.2.2), (tst (m54 ((vs.getD i dVp).2.2.2, bs)) 0 fun q => bif q != 0 then some q else l20_2 M50 M51 vV vW m54 L a as0 us n v bs vs vs (vs.length : Int) ((i : Int) + 1) k) = if vF bs vs i = 0 then (if fst (vF bs vs) (vs.length - (i + 1)) (i + 1) = 0 then k else some (fst (vF bs vs) (vs.length - (i + 1)) (i + 1))) else some (vF bs vs i) := fun e => by
        rw [en, tst_some, ← e]
        by_cases h : vF bs vs i = 0
        · rw [bneF h, cond_false, if_pos h]; exact ih
        · rw [bneT h, cond_true, if_neg h]
      have fin : ∀ X : Option Int, X = (if vF bs vs i = 0 then (if fst (vF bs vs) (vs.length - (i + 1)) (i + 1) = 0 then k else some (fst (vF bs vs) (vs.length - (i + 1)) (i + 1))) else some (vF bs vs i)) → X = if (if vF bs vs i = 0 then fst (vF bs vs) (vs.length - (i + 1)) (i + 1) else vF bs vs i) = 0 then k else some (if vF bs vs i = 0 then fst (vF bs vs) (vs.length - (i + 1)) (i + 1) else vF bs vs i) := fun X hX => by
        rw [hX]
        by_cases h : vF bs vs i = 0
        · simp only [h, if_true]
        · simp only [h, if_false]
      refine fin _ ?_
      by_cases hk : vpOk (vs.getD i dVp) = true
      · refine (congrArg (fun b => bif !b then _ else _) hk).trans ?_
        simp only [Bool.not_true, cond_false]
        by_cases h0 : 0 < i
        · rw [dt (show (i : Int) > 0 by omega), cond_true, wi (by omega) (by omega), dt (show (0 : Int) ≤ (i : Int) - 1 by omega), dt (show (i : Int) - 1 < (vs.length : Int) by omega), Bool.and_self, cond_true, toNat_pred h0, tst_some]
          by_cases hh : cmpV (vs.getD i dVp) (vs.getD (i - 1) dVp) ≤ 0
          · have e : vF bs vs i = 1 := by unfold vF; rw [if_pos hk, if_pos ⟨h0, cmpV_le.1 hh⟩]
            refine (congrArg (fun b => bif b then _ else _) (dt hh)).trans ?_
            rw [e]; rfl
          · have e : vF bs vs i = nF bs (vs.getD i dVp).2.2.2 := by unfold vF; rw [if_pos hk, if_neg (fun h => hh (cmpV_le.2 h.2))]
            refine (congrArg (fun b => bif b then _ else _) (df hh)).trans ?_
            exact tail e
        · have e : vF bs vs i = nF bs (vs.getD i dVp).2.2.2 := by unfold vF; rw [if_pos hk, if_neg (fun h => h0 h.1)]
          rw [df (show ¬ (i : Int) > 0 by omega), cond_false]
          exact tail e
      · have e : vF bs vs i = 3 := by unfold vF; rw [if_neg hk]
        refine (congrArg (fun b => bif !b then _ else _) (show vpOk (vs.getD i dVp) = false by simpa using hk)).trans ?_
        rw [e]; rfl
    · rw [df (show ¬ (i : Int) < (vs.length : Int) by omega), cond_false, fst_done hi, if_pos rfl]
theorem sat20 : Sat prog cxT 20 (c20 mCF) := s20 _ _ _ _ m54 sat50 sat51 sat52 sat53 sat54 mCF fun x t h => by
  obtain ⟨a, b, c⟩ := x
  unfold mCF at h
  split at h
  · rename_i hc
    cases h
    refine ⟨b.length + c.length + 1, ?_⟩
    show g20 _ _ _ _ m54 _ a b c = some (cF (a, b, c))
    unfold g20 cF
    simp only [tst_some]
    cases hv : vrOk a
    · simp
    · simp only [Bool.not_true, cond_false, if_true]
      by_cases h8 : 8 < b.length
      · rw [dt (show (b.length : Int) > 8 by omega), cond_true, if_pos (.inl h8)]
      · rw [df (show ¬ (b.length : Int) > 8 by omega), cond_false]
        by_cases h4 : 4 < c.length
        · rw [dt (show (c.length : Int) > 4 by omega), cond_true, if_pos (.inr h4)]
        · rw [df (show ¬ (c.length : Int) > 4 by omega), cond_false, if_neg (by omega)]
          refine (p20_0 _ _ a b c a c hc.1 _ _ 0 (by omega) (by omega)).trans ?_
          rw [Nat.sub_zero]
          by_cases e : fst (bF b) b.length 0 = 0
          · rw [if_pos e, if_pos e]
            refine (p20_2 _ _ _ a b c a b c (ris_of fun j hj => fst_zero.1 e j (Nat.zero_le _) (by omega)) hc _ _ 0 (by omega) (by omega)).trans ?_
            rw [Nat.sub_zero]
            split
            · rename_i e2; rw [e2]
            · rfl
          · rw [if_neg e, if_neg e]
  · cases h
end Go.Proofs.Try

set_option maxHeartbeats 0
set_option linter.unusedVariables false
set_option linter.unusedSimpArgs false
namespace Go.Proofs.Try
open Go Go.VM Go.RowKit

theorem small_ok {c : Cg} (h : ¬ szv 1048576 (wC c) < 0) : okM c ∧ okC c := by
  obtain ⟨h1, h2, h3⟩ := wC_small (c := c) (by omega)
  unfold okM okC mid big
  exact ⟨⟨by omega, by omega, fun v hv => by have := h3 v hv; omega⟩, by omega, by omega, fun v hv => by have := h3 v hv; omega⟩
theorem sz_at {c : Cg} (h : okZ c) : m17 (c, 1048576) = some (szv 1048576 (wC c)) := if_pos ⟨by simp only; omega, by simp only; omega, h⟩

/-! FnExactConfigFault -/
def m4 (c : Cg) : Option Bool := if okZ c then some true else none
theorem sat4 : Sat prog cxT 4 (c4 m4) := s4 m17 m19 mCF mCF m21 sat17 sat19 sat18 sat20 sat21 m4 fun x t h => by
  obtain ⟨a, b, c⟩ := x
  unfold m4 at h
  split at h
  · rename_i hz
    cases h
    refine ⟨0, ?_⟩
    show g4 m17 m19 mCF mCF m21 0 a b c = some true
    unfold g4
    rw [sz_at hz, tst_some]
    by_cases h : szv 1048576 (wC (a, b, c)) < 0
    · rw [dt h, cond_true]
    · obtain ⟨hM, hC⟩ := small_ok h
      rw [df h, cond_false, show m19 (a, b, c) = some (a, b, c) from if_pos hM]
      simp only [tst_some]
      rw [show mCF (a, b, c) = some (cF (a, b, c)) from if_pos hC]
      simp only [tst_some]
      rw [bneF rfl, cond_false, show m21 ((a, b, c), a, b, c) = some (decide ((a, b, c) = (a, b, c))) from if_pos hC, tst_some, dt rfl]
      rfl
  · cases h

/-! BackendAt -/
def bA (c : Cg) (y : Int) : BkR := if cF c = 0 then (if hasB c.2.1 y then (0, c.2.1.getD (plB c.2.1 y) dBk) else (4, dBk)) else (cF c, dBk)
def mBA (x : Cg × Int) : Option BkR := if okC x.1 then some (bA x.1 x.2) else none
theorem pl_lt {bs : List Bk} (hr : ris bs) {y : Int} (h : hasB bs y = true) : plB bs y < bs.length := by
  rw [ris_has hr] at h
  simp only [Bool.and_eq_true, decide_eq_true_eq] at h
  exact h.1
theorem at_pl {bs : List Bk} (hr : ris bs) {y : Int} (h : hasB bs y = true) : atB bs y = (plB bs y : Int) := by
  obtain ⟨j, h1, h2, h3, h4⟩ := idx_get dBk (p := fun b : Bk => b.1 == y) (l := bs) (i := 0) h
  have hl := pl_lt hr h
  rw [ris_has hr] at h
  simp only [Bool.and_eq_true, decide_eq_true_eq] at h
  have hy : (bs.getD (plB bs y) dBk).1 = y := by simpa using h.2
  have hj : (bs.getD j dBk).1 = y := by simpa using h3
  have : j = plB bs y := by
    rcases Nat.lt_trichotomy j (plB bs y) with h5 | h5 | h5
    · have := hr _ _ h5 hl; omega
    · exact h5
    · have := hr _ _ h5 h2; omega
  unfold atB
  rw [h1, this, Nat.zero_add]
theorem sat14 : Sat prog cxT 14 (c14 mBA) := s14 mCF m43 sat20 sat43 mBA fun x t h => by
  obtain ⟨⟨a, b, c⟩, y⟩ := x
  unfold mBA at h
  split at h
  · rename_i hc
    cases h
    refine ⟨0, ?_⟩
    show g14 mCF m43 0 a b c y = some (bA (a, b, c) y)
    unfold g14 bA
    rw [show mCF (a, b, c) = some (cF (a, b, c)) from if_pos hc, tst_some]
    by_cases h0 : cF (a, b, c) = 0
    · have hr := ris_of (cF_zero h0).2.2.2.1
      rw [bneF h0, cond_false, if_pos h0, show m43 (b, y) = some ((plB b y : Int), hasB b y) from if_pos ⟨hr, hc.1⟩, tst_some]
      by_cases hh : hasB b y = true
      · have hl : plB b y < b.length := pl_lt hr hh
        simp only [hh, Bool.not_true, cond_false, if_true]
        rw [dt (show (0 : Int) ≤ (plB b y : Int) by omega), dt (show (plB b y : Int) < (b.length : Int) by omega), Bool.and_self, cond_true, Int.toNat_natCast]
        rfl
      · simp only [show hasB b y = false by simpa using hh, Bool.not_false, cond_true, Bool.false_eq_true, if_false]; rfl
    · rw [bneT h0, cond_true, if_neg h0]; rfl
  · cases h
theorem sat25 : Sat prog cxT 25 (c25 mBA) := s25 m40 m64 sat40 sat64 mBA fun x t h => by
  obtain ⟨⟨a, b, c⟩, y⟩ := x
  unfold mBA at h
  split at h
  · rename_i hc
    cases h
    refine ⟨0, ?_⟩
    show g25 m40 m64 0 a b c y = some (bA (a, b, c) y)
    unfold g25 bA
    rw [show m40 (a, b, c) = some (cF (a, b, c), a, b, c) from if_pos hc, tst_some]
    by_cases h0 : cF (a, b, c) = 0
    · have hr := ris_of (cF_zero h0).2.2.2.1
      rw [bneF (show (cF (a, b, c), a, b, c).1 = 0 from h0), cond_false, if_pos h0, show m64 ((a, b, c), y) = some (atB b y, a, b, c) from if_pos hc.1, tst_some]
      simp only [hasB_at]
      by_cases hh : hasB b y = true
      · have hl : plB b y < b.length := pl_lt hr hh
        simp only [hh, Bool.not_true, cond_false, if_true]
        rw [at_pl hr hh, dt (show (0 : Int) ≤ (plB b y : Int) by omega), dt (show (plB b y : Int) < (b.length : Int) by omega), Bool.and_self, cond_true, Int.toNat_natCast]
        rfl
      · simp only [show hasB b y = false by simpa using hh, Bool.not_false, cond_true, Bool.false_eq_true, if_false]; rfl
    · rw [bneT (show ¬ (cF (a, b, c), a, b, c).1 = 0 from h0), cond_true, if_neg h0]; rfl
  · cases h
def m6 (x : Cg × Int) : Option Bool := if okZ x.1 then some true else none
theorem sat6 : Sat prog cxT 6 (c6 m6) := s6 m17 m19 mBA mBA _ m21 sat17 sat19 sat25 sat14 sat26 sat21 m6 fun x t h => by
  obtain ⟨⟨a, b, c⟩, y⟩ := x
  unfold m6 at h
  split at h
  · rename_i hz
    cases h
    refine ⟨0, ?_⟩
    show g6 m17 m19 mBA mBA _ m21 0 a b c y = some true
    unfold g6
    rw [sz_at hz, tst_some]
    by_cases h : szv 1048576 (wC (a, b, c)) < 0
    · rw [dt h, cond_true]
    · obtain ⟨hM, hC⟩ := small_ok h
      rw [df h, cond_false, show m19 (a, b, c) = some (a, b, c) from if_pos hM]
      simp only [tst_some]
      rw [show mBA ((a, b, c), y) = some (bA (a, b, c) y) from if_pos hC]
      simp only [tst_some]
      rw [show decide True = true from rfl, show m21 ((a, b, c), a, b, c) = some (decide ((a, b, c) = (a, b, c))) from if_pos hC, tst_some, dt rfl]
      rfl
  · cases h

/-! VipFor -/
abbrev Fl := Int × Int × Int × Int × Int
def flOk (f : Fl) : Bool := adOk f.1 && adOk f.2.1 && prOk f.2.2.1 && ptOk f.2.2.2.1 && ptOk f.2.2.2.2
def keyV (v : Vp) (a p q : Int) : Bool := v.1 == a && (v.2.1 == p && v.2.2.1 == q)
def hasV (vs : List Vp) (a p q : Int) : Bool := vs.any fun v => keyV v a p q
def atV (vs : List Vp) (a p q : Int) : Int := idx (fun v => keyV v a p q) vs 0
theorem sat66 : Sat prog cxT 66 (c66 fun f => some (flOk f)) := s66 _ _ sat60 sat95 _ fun x t h => by
  obtain ⟨a, b, c, d, e⟩ := x
  cases h
  refine ⟨0, ?_⟩
  show g66 _ _ 0 a b c d e = some (adOk a && adOk b && prOk c && ptOk d && ptOk e)
  unfold g66
  simp only [tst_some]
  have hp : prOk c = ((c == 6) || (c == 17)) := by
    unfold prOk
    by_cases h1 : c = 6
    · simp [h1]
    · by_cases h2 : c = 17
      · simp [h2]
      · rw [df (by rintro (h | h) <;> contradiction), beq_eq_false_iff_ne.2 h1, beq_eq_false_iff_ne.2 h2]; rfl
  rw [hp]
  cases adOk a <;> cases adOk b <;> cases c == 6 <;> cases c == 17 <;> cases ptOk d <;> rfl
def pkF (x : Int × Int × Int × Int × Int × List Int) : Int := if flOk (x.1, x.2.1, x.2.2.1, x.2.2.2.1, x.2.2.2.2.1) then (if 200 < x.2.2.2.2.2.length then 2 else 0) else 3
theorem sat106 : Sat prog cxT 106 (c106 fun x => some (pkF x)) := s106 _ _ _ sat89 sat92 sat91 _ fun x t h => by
  obtain ⟨a, b, c, d, e, l⟩ := x
  cases h
  refine ⟨0, ?_⟩
  show g106 _ _ _ 0 a b c d e l = some (if (adOk a && adOk b && prOk c && ptOk d && ptOk e) = true then (if 200 < l.length then 2 else 0) else 3)
  unfold g106
  simp only [tst_some]
  by_cases hl : 200 < l.length
  · rw [dt (show (l.length : Int) > 200 by omega), if_pos hl]
    cases adOk a <;> cases adOk b <;> cases prOk c <;> cases ptOk d <;> cases ptOk e <;> rfl
  · rw [df (show ¬ (l.length : Int) > 200 by omega), if_neg hl]
    cases adOk a <;> cases adOk b <;> cases prOk c <;> cases ptOk d <;> cases ptOk e <;> rfl
theorem sat68 : Sat prog cxT 68 (c68 fun f => some (if flOk f then 0 else 3)) := s68 _ sat106 _ fun x t h => by
  obtain ⟨a, b, c, d, e⟩ := x
  cases h
  exact ⟨0, rfl⟩
theorem p67 (L : Nat) (a0 : Int) (a1 : List Bk) (a2 : List Vp) (f0 f1 f2 f3 f4 : Int) (v : Int) (bs : List Bk) (vs : List Vp) (g0 g1 g2 g3 g4 : Int) (hb : vs.length ≤ big) (k : Int → List Bk → List Vp → Option (Int × Cg)) : ∀ (n i : Nat), i ≤ vs.length → vs.length < n + i →
    l67_0 L a0 a1 a2 f0 f1 f2 f3 f4 n v bs vs g0 g1 g2 g3 g4 i k = if idx (fun w => keyV w g1 g4 g2) (vs.drop i) i < 0 then k v bs vs else some (idx (fun w => keyV w g1 g4 g2) (vs.drop i) i, v, bs, vs)
  | 0, i, h2, h3 => by omega
  | n + 1, i, h2, h3 => by
    unfold l67_0
    have hb' : vs.length ≤ 1000000000000 := hb
    by_cases hi : i < vs.length
    · rw [dt (show (i : Int) < (vs.length : Int) by omega), dt (show (0 : Int) ≤ (i : Int) by omega), Bool.and_self, cond_true, cond_true, Int.toNat_natCast, wi (x := (i : Int) + 1) (by omega) (by omega)]
      have ih := p67 L a0 a1 a2 f0 f1 f2 f3 f4 v bs vs g0 g1 g2 g3 g4 hb k n (i + 1) (by omega) (by omega)
      rw [show (i : Int) + 1 = ((i + 1 : Nat) : Int) from rfl, ih]
      have e : ∀ X Y : Option (Int × Cg), (bif (vs.getD i dVp).1 == g1 then bif (vs.getD i dVp).2.1 == g4 then bif (vs.getD i dVp).2.2.1 == g2 then X else Y else Y else Y) = if keyV (vs.getD i dVp) g1 g4 g2 = true then X else Y := fun X Y => by
        unfold keyV
        cases (vs.getD i dVp).1 == g1 <;> cases (vs.getD i dVp).2.1 == g4 <;> cases (vs.getD i dVp).2.2.1 == g2 <;> simp
      refine (e _ _).trans ?_
      rw [drop_cons dVp hi, idx_cons]
      by_cases hk : keyV (vs.getD i dVp) g1 g4 g2 = true
      · simp only [hk, if_true]
        rw [if_neg (by omega)]
      · simp only [show keyV (vs.getD i dVp) g1 g4 g2 = false by simpa using hk, Bool.false_eq_true, if_false]
    · rw [df (show ¬ (i : Int) < (vs.length : Int) by omega), cond_false, List.drop_eq_nil_of_le (by omega)]
      rfl
theorem idx_none {α : Type} {p : α → Bool} : ∀ (l : List α) (i : Nat), l.any p = false → idx p l i = -1
  | [], _, _ => rfl
  | x :: r, i, h => by
    simp only [List.any_cons, Bool.or_eq_false_iff] at h
    rw [idx_cons, h.1]
    simp only [Bool.false_eq_true, if_false]
    exact idx_none r _ h.2
def m67 (x : Cg × Fl) : Option (Int × Cg) := if x.1.2.2.length ≤ big then some (atV x.1.2.2 x.2.2.1 x.2.2.2.2.2 x.2.2.2.1, x.1) else none
theorem sat67 : SatP prog cxT 67 (c67 m67).nres (c67 m67).F := s67 m67 fun x t h => by
  obtain ⟨⟨a, b, c⟩, f0, f1, f2, f3, f4⟩ := x
  unfold m67 at h
  split at h
  · rename_i hc
    cases h
    refine ⟨c.length + 1, ?_⟩
    show g67 (c.length + 1) a b c f0 f1 f2 f3 f4 = some (atV c f1 f4 f2, a, b, c)
    unfold g67
    refine (p67 _ a b c f0 f1 f2 f3 f4 a b c f0 f1 f2 f3 f4 hc _ (c.length + 1) 0 (by omega) (by omega)).trans ?_
    rw [List.drop_zero]
    unfold atV
    split
    · rename_i h2
      rw [idx_none c 0 (idx_neg.1 h2)]
    · rfl
  · cases h

theorem beh_trans {a b c : Vp} (h1 : beh a b = true) (h2 : beh b c = true) : beh a c = true := by
  have key : ∀ x y : Vp, beh x y = true ↔ (x.1 < y.1 ∨ (x.1 = y.1 ∧ (x.2.1 < y.2.1 ∨ (x.2.1 = y.2.1 ∧ x.2.2.1 < y.2.2.1)))) := fun x y => by
    unfold beh
    by_cases e1 : x.1 = y.1
    · rw [if_pos e1]
      by_cases e2 : x.2.1 = y.2.1
      · rw [if_pos e2, decide_eq_true_eq]; omega
      · rw [if_neg e2, decide_eq_true_eq]; omega
    · rw [if_neg e1, decide_eq_true_eq]; omega
  rw [key] at h1 h2 ⊢
  omega
theorem beh_key {x y : Vp} : beh x y = true ↔ (x.1 < y.1 ∨ (x.1 = y.1 ∧ (x.2.1 < y.2.1 ∨ (x.2.1 = y.2.1 ∧ x.2.2.1 < y.2.2.1)))) := by
  unfold beh
  by_cases e1 : x.1 = y.1
  · rw [if_pos e1]
    by_cases e2 : x.2.1 = y.2.1
    · rw [if_pos e2, decide_eq_true_eq]; omega
    · rw [if_neg e2, decide_eq_true_eq]; omega
  · rw [if_neg e1, decide_eq_true_eq]; omega
/-- Vips rise. -/
def risV (vs : List Vp) : Prop := ∀ i j, i < j → j < vs.length → beh (vs.getD i dVp) (vs.getD j dVp) = true
theorem risV_of {bs : List Bk} {vs : List Vp} (h : ∀ j, j < vs.length → vF bs vs j = 0) : risV vs := by
  have step : ∀ j, 0 < j → j < vs.length → beh (vs.getD (j - 1) dVp) (vs.getD j dVp) = true := fun j h0 hj => by
    have := h j hj
    unfold vF at this
    split at this
    · split at this
      · exact absurd this (by decide)
      · rename_i h2
        cases hb : beh (vs.getD (j - 1) dVp) (vs.getD j dVp)
        · exact absurd ⟨h0, hb⟩ h2
        · rfl
    · exact absurd this (by decide)
  intro i j hij
  induction j with
  | zero => omega
  | succ j ih =>
    intro hj
    have h1 := step (j + 1) (by omega) hj
    simp only [Nat.add_sub_cancel] at h1
    by_cases h2 : i = j
    · rw [h2]; exact h1
    · exact beh_trans (ih (by omega) (by omega)) h1
instance (vs : List Vp) : Decidable (risV vs) := by
  have : risV vs ↔ ∀ j, j < vs.length → ∀ i, i < j → beh (vs.getD i dVp) (vs.getD j dVp) = true := ⟨fun h j hj i hi => h i j hi hj, fun h i j hi hj => h j hj i hi⟩
  exact decidable_of_iff _ this.symm
theorem cmpV_neg {a b : Vp} : cmpV a b < 0 ↔ beh a b = true := by
  rw [beh_key]
  unfold cmpV orI orI orI orI cmpI
  rcases Int.lt_trichotomy a.1 b.1 with h1 | h1 | h1
  · simp [h1]
  · simp only [h1, Int.lt_irrefl, if_false, if_true]
    rcases Int.lt_trichotomy a.2.1 b.2.1 with h2 | h2 | h2
    · simp [h2]
    · simp only [h2, Int.lt_irrefl, if_false, if_true, true_and, false_or]
      rcases Int.lt_trichotomy a.2.2.1 b.2.2.1 with h3 | h3 | h3
      · simp [h3]
      · simp [h3]
      · have : ¬ a.2.2.1 < b.2.2.1 := by omega
        simp [h3, this]
    · have : ¬ a.2.1 < b.2.1 := by omega
      simp [h2, this]; omega
  · have : ¬ a.1 < b.1 := by omega
    simp [h1, this]; omega
theorem cmpV_zero {a b : Vp} : cmpV a b = 0 ↔ (a.1 = b.1 ∧ a.2.1 = b.2.1 ∧ a.2.2.1 = b.2.2.1) := by
  unfold cmpV orI orI orI orI
  by_cases h1 : cmpI a.1 b.1 = 0
  · rw [if_pos h1]
    by_cases h2 : cmpI a.2.1 b.2.1 = 0
    · rw [if_pos h2]
      by_cases h3 : cmpI a.2.2.1 b.2.2.1 = 0
      · rw [if_pos h3]; simp [cmpI_zero.1 h1, cmpI_zero.1 h2, cmpI_zero.1 h3]
      · rw [if_neg h3]; exact ⟨fun h => absurd h h3, fun h => absurd (cmpI_zero.2 h.2.2) h3⟩
    · rw [if_neg h2]; exact ⟨fun h => absurd h h2, fun h => absurd (cmpI_zero.2 h.2.1) h2⟩
  · rw [if_neg h1]; exact ⟨fun h => absurd h h1, fun h => absurd (cmpI_zero.2 h.1) h1⟩
def plV (vs : List Vp) (t : Vp) : Nat := low (fun v => beh v t) vs
theorem el107 (L : Nat) (a : List Vp) (b1 b2 b3 : Int) (b4 : List Int) (u : Unit) (x y z : Int) (ns : List Int) (k : Int → Int → Int → List Int → Int → Option (Int × Bool)) : ∀ (n : Nat) (lo hi : Int), l107_0 vW L a b1 b2 b3 b4 u n x y z ns lo hi k = bsL a.length (fun j => some (cmpV (a.getD j dVp) (x, y, z, ns))) n lo hi (k x y z ns)
  | 0, _, _ => rfl
  | n + 1, lo, hi => by unfold l107_0 bsL; simp only [el107 L a b1 b2 b3 b4 u x y z ns k n]; rfl
theorem risV_high {vs : List Vp} (h : risV vs) {t : Vp} {j : Nat} (h1 : plV vs t ≤ j) (h2 : j < vs.length) : beh (vs.getD j dVp) t = false := by
  have hl : plV vs t < vs.length := by omega
  have h4 : beh (vs.getD (plV vs t) dVp) t = false := low_at (fun v => beh v t) dVp vs hl
  by_cases he : plV vs t = j
  · rw [he] at h4; exact h4
  · refine Bool.eq_false_iff.2 fun hh => ?_
    have := beh_trans (h (plV vs t) j (by omega) h2) hh
    rw [h4] at this; cases this
theorem keyV_iff {v : Vp} {a p q : Int} : keyV v a p q = true ↔ (v.1 = a ∧ v.2.1 = p ∧ v.2.2.1 = q) := by unfold keyV; simp
theorem risV_has {vs : List Vp} (h : risV vs) (a p q : Int) (l : List Int) : hasV vs a p q = (decide (plV vs (a, p, q, l) < vs.length) && keyV (vs.getD (plV vs (a, p, q, l)) dVp) a p q) := by
  have irr : ∀ j, j < vs.length → keyV (vs.getD j dVp) a p q = true → j = plV vs (a, p, q, l) := fun j hj hk => by
    rw [keyV_iff] at hk
    rcases Nat.lt_trichotomy j (plV vs (a, p, q, l)) with h1 | h1 | h1
    · have h2 : beh (vs.getD j dVp) (a, p, q, l) = true := low_lt (fun v => beh v (a, p, q, l)) dVp vs j h1
      rw [beh_key] at h2
      simp only at h2
      omega
    · exact h1
    · have h2 := h _ _ h1 hj
      have h3 := risV_high h (t := (a, p, q, l)) (Nat.le_refl _) (by omega)
      have h4 : ¬ beh (vs.getD (plV vs (a, p, q, l)) dVp) (a, p, q, l) = true := by rw [h3]; decide
      rw [beh_key] at h2 h4
      simp only at h4
      omega
  by_cases hh : hasV vs a p q = true
  · rw [hh]
    obtain ⟨v, hv, hk⟩ := List.any_eq_true.1 hh
    obtain ⟨j, hj, rfl⟩ := List.mem_iff_getElem.1 hv
    have hk : keyV (vs.getD j dVp) a p q = true := by rw [getD_at dVp hj]; exact hk
    have := irr j hj hk
    rw [← this, dt hj, hk]; rfl
  · rw [show hasV vs a p q = false by simpa using hh]
    by_cases hl : plV vs (a, p, q, l) < vs.length
    · rw [dt hl, Bool.true_and]
      refine (Bool.eq_false_iff.2 fun hk => hh ?_).symm
      exact List.any_eq_true.2 ⟨_, getD_mem dVp hl, hk⟩
    · rw [df hl]; rfl
def m107 (x : List Vp × Vp × Unit) : Option (Int × Bool) := if risV x.1 ∧ x.1.length ≤ big then some ((plV x.1 x.2.1 : Int), hasV x.1 x.2.1.1 x.2.1.2.1 x.2.1.2.2.1) else none
theorem sat107 : Sat prog cxT 107 (c107 m107) := s107 _ sat53 m107 fun x t h => by
  obtain ⟨vs, ⟨a, p, q, l⟩, u⟩ := x
  unfold m107 at h
  split at h
  · rename_i hc
    obtain ⟨hr, hb⟩ := hc
    cases h
    simp only at hr hb
    have hb' : vs.length ≤ 1000000000000 := hb
    have hle : plV vs (a, p, q, l) ≤ vs.length := low_le _ vs
    refine ⟨vs.length + 1, ?_⟩
    show g107 _ _ vs a p q l u = some ((plV vs (a, p, q, l) : Int), hasV vs a p q)
    unfold g107
    rw [el107]
    refine (bsL_ok vs.length _ (fun j => cmpV (vs.getD j dVp) (a, p, q, l)) (by omega) (fun _ _ => rfl) (plV vs (a, p, q, l)) (fun j hj => ?_) (fun j h1 h2 => ?_) _ (vs.length + 1) 0 vs.length (by omega) hle (Nat.le_refl _) (by omega)).trans ?_
    · exact cmpV_neg.2 (low_lt (fun v => beh v (a, p, q, l)) dVp vs j hj)
    · have := risV_high hr h1 h2
      have h3 : ¬ cmpV (vs.getD j dVp) (a, p, q, l) < 0 := fun h => by rw [cmpV_neg.1 h] at this; cases this
      omega
    · rw [risV_has hr a p q l]
      by_cases hl : plV vs (a, p, q, l) < vs.length
      · rw [dt (show (plV vs (a, p, q, l) : Int) < (vs.length : Int) by omega), dt (show (0 : Int) ≤ (plV vs (a, p, q, l) : Int) by omega), dt hl, Bool.and_self, cond_true, cond_true, tst_some, Int.toNat_natCast, Bool.true_and]
        show some ((plV vs (a, p, q, l) : Int), cmpV (vs.getD (plV vs (a, p, q, l)) dVp) (a, p, q, l) == 0) = _
        by_cases he : keyV (vs.getD (plV vs (a, p, q, l)) dVp) a p q = true
        · rw [he, beq_iff_eq.2 (cmpV_zero.2 (keyV_iff.1 he))]
        · rw [show keyV (vs.getD (plV vs (a, p, q, l)) dVp) a p q = false by simpa using he, beq_eq_false_iff_ne.2 (fun h => he (keyV_iff.2 (cmpV_zero.1 h)))]
      · rw [df (show ¬ (plV vs (a, p, q, l) : Int) < (vs.length : Int) by omega), df hl, cond_false, Bool.false_and]
  · cases h
def m69 (x : List Vp × Int × Int × Int) : Option (Int × Bool) := if risV x.1 ∧ x.1.length ≤ big then some ((plV x.1 (x.2.1, x.2.2.1, x.2.2.2, []) : Int), hasV x.1 x.2.1 x.2.2.1 x.2.2.2) else none
theorem sat69 : Sat prog cxT 69 (c69 m69) := s69 m107 sat107 m69 fun x t h => by
  obtain ⟨vs, a, p, q⟩ := x
  unfold m69 at h
  split at h
  · rename_i hc
    cases h
    refine ⟨0, ?_⟩
    show g69 m107 0 vs a p q = _
    unfold g69
    rw [show m107 (vs, (a, p, q, []), PUnit.unit) = some ((plV vs (a, p, q, []) : Int), hasV vs a p q) from if_pos hc, tst_some]
  · cases h
theorem at_plV {vs : List Vp} (hr : risV vs) {a p q : Int} (h : hasV vs a p q = true) : atV vs a p q = (plV vs (a, p, q, []) : Int) := by
  obtain ⟨j, h1, h2, h3, h4⟩ := idx_get dVp (p := fun v : Vp => keyV v a p q) (l := vs) (i := 0) h
  unfold atV
  rw [h1, Nat.zero_add]
  rw [risV_has hr a p q []] at h
  simp only [Bool.and_eq_true, decide_eq_true_eq] at h
  have h5 := keyV_iff.1 h.2
  have h6 := keyV_iff.1 h3
  rcases Nat.lt_trichotomy j (plV vs (a, p, q, [])) with h7 | h7 | h7
  · have := hr _ _ h7 h.1
    rw [beh_key] at this; omega
  · rw [h7]
  · have := hr _ _ h7 h2
    rw [beh_key] at this; omega
def vFor (c : Cg) (f : Fl) : Int × Int := if cF c = 0 then (if flOk f then (if hasV c.2.2 f.2.1 f.2.2.2.2 f.2.2.1 then (0, (plV c.2.2 (f.2.1, f.2.2.2.2, f.2.2.1, []) : Int)) else (4, 0)) else (3, 0)) else (cF c, 0)
def mVF (x : Cg × Fl) : Option (Int × Int) := if okC x.1 then some (vFor x.1 x.2) else none
theorem sat29 : Sat prog cxT 29 (c29 mVF) := s29 mCF _ m69 sat20 sat68 sat69 mVF fun x t h => by
  obtain ⟨⟨a, b, c⟩, f0, f1, f2, f3, f4⟩ := x
  unfold mVF at h
  split at h
  · rename_i hc
    cases h
    refine ⟨0, ?_⟩
    show g29 mCF _ m69 0 a b c f0 f1 f2 f3 f4 = some (vFor (a, b, c) (f0, f1, f2, f3, f4))
    unfold g29 vFor
    rw [show mCF (a, b, c) = some (cF (a, b, c)) from if_pos hc, tst_some]
    by_cases h0 : cF (a, b, c) = 0
    · have hr : risV c := risV_of (cF_zero h0).2.2.2.2
      rw [bneF h0, cond_false, if_pos h0, tst_some]
      by_cases hf : flOk (f0, f1, f2, f3, f4) = true
      · simp only [hf, if_true]
        rw [bneF rfl, cond_false, show m69 (c, f1, f4, f2) = some ((plV c (f1, f4, f2, []) : Int), hasV c f1 f4 f2) from if_pos ⟨hr, hc.2.1⟩, tst_some]
        by_cases hh : hasV c f1 f4 f2 = true
        · simp only [hh, Bool.not_true, cond_false, if_true]
        · simp only [show hasV c f1 f4 f2 = false by simpa using hh, Bool.not_false, cond_true, Bool.false_eq_true, if_false]
      · simp only [show flOk (f0, f1, f2, f3, f4) = false by simpa using hf, Bool.false_eq_true, if_false]; rfl
    · rw [bneT h0, cond_true, if_neg h0]
  · cases h
theorem hasV_at {vs : List Vp} {a p q : Int} : decide (atV vs a p q < 0) = !hasV vs a p q := by
  by_cases h : hasV vs a p q = true
  · rw [h]
    obtain ⟨j, h1, _⟩ := idx_get dVp (p := fun v : Vp => keyV v a p q) (l := vs) (i := 0) h
    exact df (by unfold atV; rw [h1]; omega)
  · have h' : hasV vs a p q = false := by simpa using h
    rw [h']
    exact dt (idx_neg.2 h')
theorem sat27 : Sat prog cxT 27 (c27 mVF) := s27 m40 _ m67 sat40 sat66 sat67 mVF fun x t h => by
  obtain ⟨⟨a, b, c⟩, f0, f1, f2, f3, f4⟩ := x
  unfold mVF at h
  split at h
  · rename_i hc
    cases h
    refine ⟨0, ?_⟩
    show g27 m40 _ m67 0 a b c f0 f1 f2 f3 f4 = some (vFor (a, b, c) (f0, f1, f2, f3, f4))
    unfold g27 vFor
    rw [show m40 (a, b, c) = some (cF (a, b, c), a, b, c) from if_pos hc, tst_some]
    by_cases h0 : cF (a, b, c) = 0
    · have hr : risV c := risV_of (cF_zero h0).2.2.2.2
      rw [bneF (show (cF (a, b, c), a, b, c).1 = 0 from h0), cond_false, if_pos h0, tst_some]
      by_cases hf : flOk (f0, f1, f2, f3, f4) = true
      · simp only [hf, if_true, Bool.not_true, cond_false]
        rw [show m67 ((a, b, c), f0, f1, f2, f3, f4) = some (atV c f1 f4 f2, a, b, c) from if_pos hc.2.1, tst_some]
        simp only [hasV_at]
        by_cases hh : hasV c f1 f4 f2 = true
        · simp only [hh, Bool.not_true, cond_false, if_true]
          rw [at_plV hr hh]
        · simp only [show hasV c f1 f4 f2 = false by simpa using hh, Bool.not_false, cond_true, Bool.false_eq_true, if_false]
      · simp only [show flOk (f0, f1, f2, f3, f4) = false by simpa using hf, Bool.false_eq_true, if_false, Bool.not_false, cond_true]
    · rw [bneT (show ¬ (cF (a, b, c), a, b, c).1 = 0 from h0), cond_true, if_neg h0]
  · cases h
def m7 (x : Cg × Fl) : Option Bool := if okZ x.1 then some true else none
theorem sat7 : Sat prog cxT 7 (c7 m7) := s7 m17 m19 _ mVF mVF _ m21 sat17 sat19 sat28 sat27 sat29 sat30 sat21 m7 fun x t h => by
  obtain ⟨⟨a, b, c⟩, f0, f1, f2, f3, f4⟩ := x
  unfold m7 at h
  split at h
  · rename_i hz
    cases h
    refine ⟨0, ?_⟩
    show g7 m17 m19 _ mVF mVF _ m21 0 a b c f0 f1 f2 f3 f4 = some true
    unfold g7
    rw [sz_at hz, tst_some]
    by_cases h : szv 1048576 (wC (a, b, c)) < 0
    · rw [dt h, cond_true]
    · obtain ⟨hM, hC⟩ := small_ok h
      rw [df h, cond_false, show m19 (a, b, c) = some (a, b, c) from if_pos hM]
      simp only [tst_some]
      rw [show mVF ((a, b, c), f0, f1, f2, f3, f4) = some (vFor (a, b, c) (f0, f1, f2, f3, f4)) from if_pos hC]
      simp only [tst_some]
      rw [show decide True = true from rfl, show m21 ((a, b, c), a, b, c) = some (decide ((a, b, c) = (a, b, c))) from if_pos hC, tst_some, dt rfl]
      rfl
  · cases h
end Go.Proofs.Try

namespace Go.Proofs.Try
open Go Go.VM Go.RowKit

theorem cells2 : prog.cellsOf 2 = 1 := by kernel_rfl
theorem cells4 : prog.cellsOf 4 = 1 := by kernel_rfl
theorem cells34 : prog.cellsOf 34 = 1 := by kernel_rfl
theorem cells46 : prog.cellsOf 46 = 1 := by kernel_rfl
theorem cells47 : prog.cellsOf 47 = 1 := by kernel_rfl
theorem cells49 : prog.cellsOf 49 = 3 := by kernel_rfl
theorem cells127 : prog.cellsOf 127 = 4 := by kernel_rfl
theorem cells129 : prog.cellsOf 129 = 5 := by kernel_rfl
def i64In (x : Int) : Prop := (Lit.int .i64 x).wf = true
def opI_good (x : List Int) : Prop := x.length ≤ maxLen ∧ ∀ y ∈ x, i64In y
def row2 (xs : List Int) : L cxT.ty := some (.inr (ro 2 xs))
theorem opI : Opens prog cxT 34 (fun x : List Int => [row2 x]) opI_good :=
  opens_slice (cx := cxT) (e := 2) (good := i64In) underlying34 cells2 (by decide) cxT_ok (opens_int (cx := cxT) underlying2)
def bk_good (b : Bk) : Prop := i64In b.1 ∧ i64In b.2.1 ∧ i64In b.2.2.1 ∧ i64In b.2.2.2.1 ∧ True
set_option maxRecDepth 100000 in
theorem opBk : Opens prog cxT 129 (fun b : Bk => [lv (.int .i64 b.1), lv (.int .i64 b.2.1), lv (.int .i64 b.2.2.1), lv (.int .i64 b.2.2.2.1), lv (.bool b.2.2.2.2)]) bk_good :=
  opens_struct underlying129 cells129 (opensF_cons (opens_int underlying2) rfl cells2 (opensF_cons (opens_int underlying2) rfl cells2 (opensF_cons (opens_int underlying2) rfl cells2 (opensF_cons (opens_int underlying2) rfl cells2 (opensF_one (l := fun x : Bool => lv (.bool x)) (opens_bool underlying4) rfl cells4)))))
def bks_good (x : List Bk) : Prop := x.length ≤ maxLen ∧ ∀ y ∈ x, bk_good y
def row129 (xs : List Bk) : L cxT.ty := some (.inr (ro 129 xs))
set_option maxRecDepth 100000 in
theorem opBks : Opens prog cxT 46 (fun x : List Bk => [row129 x]) bks_good :=
  opens_slice (cx := cxT) (e := 129) (good := bk_good) underlying46 cells129 (by decide) cxT_ok opBk
def vp_good (b : Vp) : Prop := i64In b.1 ∧ i64In b.2.1 ∧ i64In b.2.2.1 ∧ opI_good b.2.2.2
set_option maxRecDepth 100000 in
theorem opVp : Opens prog cxT 127 (fun b : Vp => [lv (.int .i64 b.1), lv (.int .i64 b.2.1), lv (.int .i64 b.2.2.1), row2 b.2.2.2]) vp_good :=
  opens_struct underlying127 cells127 (opensF_cons (opens_int underlying2) rfl cells2 (opensF_cons (opens_int underlying2) rfl cells2 (opensF_cons (opens_int underlying2) rfl cells2 (opensF_one (l := row2) opI rfl cells34))))
def vps_good (x : List Vp) : Prop := x.length ≤ maxLen ∧ ∀ y ∈ x, vp_good y
def row127 (xs : List Vp) : L cxT.ty := some (.inr (ro 127 xs))
set_option maxRecDepth 100000 in
theorem opVps : Opens prog cxT 47 (fun x : List Vp => [row127 x]) vps_good :=
  opens_slice (cx := cxT) (e := 127) (good := vp_good) underlying47 cells127 (by decide) cxT_ok opVp
def opC_good (c : Cg) : Prop := i64In c.1 ∧ bks_good c.2.1 ∧ vps_good c.2.2
def encC (c : Cg) : List (L cxT.ty) := [lv (.int .i64 c.1), row129 c.2.1, row127 c.2.2]
set_option maxRecDepth 100000 in
theorem opC : Opens prog cxT 49 encC opC_good :=
  opens_struct underlying49 cells49 (opensF_cons (opens_int underlying2) rfl cells2 (opensF_cons (l := row129) opBks rfl cells46 (opensF_one (l := row127) opVps rfl cells47)))
theorem okZ_of {c : Cg} (h : opC_good c) : okZ c := by
  have hm : maxLen ≤ 9223372036854775807 := by decide
  obtain ⟨_, ⟨h1, _⟩, h2, h3⟩ := h
  exact ⟨Nat.le_trans h1 hm, Nat.le_trans h2 hm, fun v hv => Nat.le_trans (h3 v hv).2.2.2.1 hm⟩
theorem cells64 : prog.cellsOf 64 = 5 := by kernel_rfl
def opF_good (f : Fl) : Prop := i64In f.1 ∧ i64In f.2.1 ∧ i64In f.2.2.1 ∧ i64In f.2.2.2.1 ∧ i64In f.2.2.2.2
def encF (f : Fl) : List (L cxT.ty) := [lv (.int .i64 f.1), lv (.int .i64 f.2.1), lv (.int .i64 f.2.2.1), lv (.int .i64 f.2.2.2.1), lv (.int .i64 f.2.2.2.2)]
set_option maxRecDepth 100000 in
theorem opF : Opens prog cxT 64 encF opF_good :=
  opens_struct underlying64 cells64 (opensF_cons (opens_int underlying2) rfl cells2 (opensF_cons (opens_int underlying2) rfl cells2 (opensF_cons (opens_int underlying2) rfl cells2 (opensF_cons (opens_int underlying2) rfl cells2 (opensF_one (l := fun x : Int => lv (.int .i64 x)) (opens_int underlying2) rfl cells2)))))
end Go.Proofs.Try
