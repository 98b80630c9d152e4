/- A part of the proof of FnExactUpdateFault: LtPe, LtPg. -/
import Derived.Test.YtnmnomckcjihoaaGreatLtPc
set_option linter.unusedVariables false
set_option maxHeartbeats 0
set_option linter.unusedVariables false
set_option linter.unusedSimpArgs false
namespace Go.Proofs.Tryz
open Go Go.VM Go.RowKit

/-! ### The program's ConfigFault -/
theorem sat111 : Sat prog cxT 111 (c111 fun x => some (cmpI x.1.1 x.2)) := s111 _ sat92 _ fun x t h => by
  obtain ⟨⟨a, b, c, d, e⟩, y⟩ := x
  cases h
  exact ⟨0, rfl⟩
/-- The first place of which p is not so. -/
def low {α : Type} (p : α → Bool) : List α → Nat
  | [] => 0
  | x :: r => if p x then low p r + 1 else 0
theorem low_le {α : Type} (p : α → Bool) : ∀ l, low p l ≤ l.length
  | [] => Nat.le_refl _
  | x :: r => by
    have := low_le p r
    unfold low
    split <;> simp only [List.length_cons] <;> omega
theorem low_lt {α : Type} (p : α → Bool) (d : α) : ∀ (l : List α) (j : Nat), j < low p l → p (l.getD j d) = true
  | [], j, h => by simp [low] at h
  | x :: r, j, h => by
    unfold low at h
    split at h
    · rename_i hx
      cases j with
      | zero => simpa using hx
      | succ j => simpa using low_lt p d r j (by omega)
    · omega
theorem low_at {α : Type} (p : α → Bool) (d : α) : ∀ (l : List α), low p l < l.length → p (l.getD (low p l) d) = false
  | [], h => by simp at h
  | x :: r, h => by
    unfold low at h ⊢
    split at h
    · rename_i hx
      rw [if_pos hx]
      simpa using low_at p d r (by simpa using h)
    · rename_i hx
      rw [if_neg hx]
      simpa using hx
theorem el110 (L : Nat) (a : List Bk) (y : Int) (u : Unit) : ∀ (n : Nat) (lo hi : Int) (k : Int → Option (Int × Bool)), l110_0 (fun x => some (cmpI x.1.1 x.2)) L a y u n lo hi k = bsL a.length (fun j => some (cmpI (a.getD j dBk).1 y)) n lo hi k
  | 0, _, _, _ => rfl
  | n + 1, lo, hi, k => by unfold l110_0 bsL; simp only [el110 L a y u n]; rfl
def plB (bs : List Bk) (y : Int) : Nat := low (fun b : Bk => decide (b.1 < y)) bs
instance (bs : List Bk) : Decidable (ris bs) := by
  have : ris bs ↔ ∀ j, j < bs.length → ∀ i, i < j → (bs.getD i dBk).1 < (bs.getD j dBk).1 := ⟨fun h j hj i hi => h i j hi hj, fun h i j hi hj => h j hj i hi⟩
  exact decidable_of_iff _ this.symm
theorem ris_high {bs : List Bk} (h : ris bs) {y : Int} {j : Nat} (h1 : plB bs y ≤ j) (h2 : j < bs.length) : y ≤ (bs.getD j dBk).1 := by
  have hl : plB bs y < bs.length := by omega
  have h3 := low_at (fun b : Bk => decide (b.1 < y)) dBk bs hl
  have h4 : ¬ (bs.getD (plB bs y) dBk).1 < y := of_decide_eq_false h3
  by_cases he : plB bs y = j
  · rw [he] at h4; omega
  · have := h (plB bs y) j (by omega) h2
    omega
theorem ris_has {bs : List Bk} (h : ris bs) (y : Int) : hasB bs y = (decide (plB bs y < bs.length) && ((bs.getD (plB bs y) dBk).1 == y)) := by
  by_cases hl : plB bs y < bs.length
  · rw [dt hl, Bool.true_and]
    by_cases he : (bs.getD (plB bs y) dBk).1 = y
    · rw [beq_iff_eq.2 he]
      exact List.any_eq_true.2 ⟨_, getD_mem dBk hl, beq_iff_eq.2 he⟩
    · rw [beq_eq_false_iff_ne.2 he]
      refine Bool.eq_false_iff.2 fun hh => ?_
      obtain ⟨b, hb, hy⟩ := List.any_eq_true.1 hh
      obtain ⟨j, hj, rfl⟩ := List.mem_iff_getElem.1 hb
      have hy : (bs.getD j dBk).1 = y := by rw [getD_at dBk hj]; simpa using hy
      have hge := ris_high h (y := y) (j := plB bs y) (Nat.le_refl _) hl
      rcases Nat.lt_trichotomy j (plB bs y) with h1 | h1 | h1
      · have := low_lt (fun b : Bk => decide (b.1 < y)) dBk bs j h1
        have : (bs.getD j dBk).1 < y := by simpa using this
        omega
      · rw [← h1] at he; exact he hy
      · have := h _ _ h1 hj; omega
  · rw [df hl, Bool.false_and]
    refine Bool.eq_false_iff.2 fun hh => ?_
    obtain ⟨b, hb, hy⟩ := List.any_eq_true.1 hh
    obtain ⟨j, hj, rfl⟩ := List.mem_iff_getElem.1 hb
    have hle := low_le (fun b : Bk => decide (b.1 < y)) bs
    have := low_lt (fun b : Bk => decide (b.1 < y)) dBk bs j (by show j < plB bs y; omega)
    have h5 : (bs.getD j dBk).1 < y := by simpa using this
    rw [getD_at dBk hj] at h5
    have : bs[j].1 = y := by simpa using hy
    omega
def m110 (x : List Bk × Int × Unit) : Option (Int × Bool) := if ris x.1 ∧ x.1.length ≤ big then some ((plB x.1 x.2.1 : Int), hasB x.1 x.2.1) else none
theorem sat110 : Sat prog cxT 110 (c110 m110) := s110 _ sat111 m110 fun x t h => by
  obtain ⟨bs, y, u⟩ := x
  unfold m110 at h
  split at h
  · rename_i hc
    obtain ⟨hr, hb⟩ := hc
    cases h
    simp only at hr hb
    have hb' : bs.length ≤ 1000000000000 := hb
    have hle : plB bs y ≤ bs.length := low_le _ bs
    refine ⟨bs.length + 1, ?_⟩
    show g110 _ _ bs y u = some ((plB bs y : Int), hasB bs y)
    unfold g110
    rw [el110]
    refine (bsL_ok bs.length _ (fun j => cmpI (bs.getD j dBk).1 y) (by omega) (fun _ _ => rfl) (plB bs y) (fun j hj => ?_) (fun j h1 h2 => cmpI_pos.2 (ris_high hr h1 h2)) _ (bs.length + 1) 0 bs.length (by omega) hle (Nat.le_refl _) (by omega)).trans ?_
    · have := low_lt (fun b : Bk => decide (b.1 < y)) dBk bs j hj
      exact cmpI_neg.2 (by simpa using this)
    · rw [ris_has hr]
      by_cases hl : plB bs y < bs.length
      · rw [dt (show (plB bs y : Int) < (bs.length : Int) by omega), dt (show (0 : Int) ≤ (plB bs y : Int) by omega), dt hl, Bool.and_self, cond_true, cond_true, tst_some, Int.toNat_natCast, Bool.true_and]
        show some ((plB bs y : Int), cmpI (bs.getD (plB bs y) dBk).1 y == 0) = _
        by_cases he : (bs.getD (plB bs y) dBk).1 = y
        · rw [beq_iff_eq.2 he, beq_iff_eq.2 (cmpI_zero.2 he)]
        · rw [beq_eq_false_iff_ne.2 he, beq_eq_false_iff_ne.2 (fun h => he (cmpI_zero.1 h))]
      · rw [df (show ¬ (plB bs y : Int) < (bs.length : Int) by omega), df hl, cond_false, Bool.false_and]
  · cases h
def m93 (x : List Bk × Int) : Option (Int × Bool) := if ris x.1 ∧ x.1.length ≤ big then some ((plB x.1 x.2 : Int), hasB x.1 x.2) else none
theorem sat93 : Sat prog cxT 93 (c93 m93) := s93 m110 sat110 m93 fun x t h => by
  obtain ⟨bs, y⟩ := x
  unfold m93 at h
  split at h
  · rename_i hc
    cases h
    refine ⟨0, ?_⟩
    show g93 m110 0 bs y = _
    unfold g93
    rw [show m110 (bs, y, PUnit.unit) = some ((plB bs y : Int), hasB bs y) from if_pos hc, tst_some]
  · cases h
def orI : List Int → Int
  | [] => 0
  | x :: r => if x = 0 then orI r else x
theorem p91 (L : Nat) (a : List Int) (ha : a.length ≤ big) : ∀ (n i : Nat), i ≤ a.length → a.length < n + i → l91_0 L a n i (some 0) = some (orI (a.drop i))
  | 0, i, h2, h3 => by omega
  | n + 1, i, h2, h3 => by
    unfold l91_0
    unfold big at ha
    by_cases hi : i < a.length
    · rw [Int.toNat_natCast]
      simp (disch := omega) only [dt, wi, cond_true, Bool.and_self]
      rw [drop_cons 0 hi]
      unfold orI
      by_cases h0 : a.getD i 0 = 0
      · rw [bneF h0, cond_false, if_pos h0]; exact p91 L a ha n (i + 1) (by omega) (by omega)
      · rw [bneT h0, cond_true, if_neg h0]
    · simp (disch := omega) only [df, cond_false]
      rw [List.drop_eq_nil_of_le (by omega)]; rfl
def m91 (a : List Int) : Option Int := if a.length ≤ big then some (orI a) else none
theorem sat91 : Sat prog cxT 91 (c91 m91) := s91 m91 fun x t h => by
  unfold m91 at h
  split at h
  · rename_i hc
    cases h
    exact ⟨x.length + 1, p91 _ x hc _ 0 (by omega) (by omega)⟩
  · cases h
def cmpV (a b : Vp) : Int := orI [cmpI a.1 b.1, cmpI a.2.1 b.2.1, cmpI a.2.2.1 b.2.2.1]
theorem sat75 : Sat prog cxT 75 (c75 fun x => some (cmpV x.1 x.2)) := s75 _ m91 sat92 sat91 _ fun x t h => by
  obtain ⟨⟨a, b, c, d⟩, a', b', c', d'⟩ := x
  cases h
  exact ⟨0, rfl⟩
theorem cmpV_le {a b : Vp} : cmpV a b ≤ 0 ↔ beh b a = false := by
  have key : cmpV a b ≤ 0 ↔ ¬ beh b a = true := by
    unfold cmpV orI orI orI orI beh cmpI
    by_cases h1 : b.1 = a.1
    · rw [if_pos h1]
      by_cases h2 : b.2.1 = a.2.1
      · rw [if_pos h2]
        simp only [h1, h2, Int.lt_irrefl, if_false, if_true, decide_eq_true_eq]
        split <;> (try split) <;> (try split) <;> omega
      · rw [if_neg h2]
        simp only [h1, Int.lt_irrefl, if_false, if_true, decide_eq_true_eq]
        by_cases h3 : a.2.1 < b.2.1
        · simp only [h3, if_true]; simp; omega
        · have h4 : b.2.1 < a.2.1 := by omega
          simp only [h3, h4, if_false, if_true]; simp
    · rw [if_neg h1]
      simp only [decide_eq_true_eq]
      by_cases h3 : a.1 < b.1
      · simp only [h3, if_true]; simp; omega
      · have h4 : b.1 < a.1 := by omega
        simp only [h3, h4, if_false, if_true]; simp
  rw [key]; simp

/-! names -/
theorem p76_0 (bs : List Bk) (hr : ris bs) (hb : bs.length ≤ big) (L : Nat) (ns : List Int) (hn : ns.length ≤ big) (k : Option Int) : ∀ (n i : Nat), i ≤ ns.length → ns.length < n + i → l76_0 m93 L ns bs n i k = if fst (knN bs ns) (ns.length - i) i = 0 then k else some 4
  | 0, i, h2, h3 => by omega
  | n + 1, i, h2, h3 => by
    unfold l76_0
    have hn' : ns.length ≤ 1000000000000 := hn
    by_cases hi : i < ns.length
    · rw [Int.toNat_natCast]
      simp (disch := omega) only [dt, wi, cond_true, Bool.and_self]
      rw [fst_step hi, show m93 (bs, ns.getD i 0) = some ((plB bs (ns.getD i 0) : Int), hasB bs (ns.getD i 0)) from if_pos ⟨hr, hb⟩, tst_some]
      unfold knN
      by_cases hh : hasB bs (ns.getD i 0) = true
      · simp only [hh, if_true, Bool.not_true, cond_false]
        exact p76_0 bs hr hb L ns hn k n (i + 1) (by omega) (by omega)
      · simp only [show hasB bs (ns.getD i 0) = false by simpa using hh, Bool.false_eq_true, if_false, Bool.not_false, cond_true]
        rfl
    · simp (disch := omega) only [df, cond_false]
      rw [fst_done hi, if_pos rfl]
theorem p76_2 (bs : List Bk) (L : Nat) (ns : List Int) (hn : ns.length ≤ big) (k : Option Int) : ∀ (n i : Nat), i ≤ ns.length → ns.length < n + i → l76_2 m93 L ns bs n i k = if fst (rsN ns) (ns.length - i) i = 0 then k else some 1
  | 0, i, h2, h3 => by omega
  | n + 1, i, h2, h3 => by
    unfold l76_2
    have hn' : ns.length ≤ 1000000000000 := hn
    by_cases hi : i < ns.length
    · rw [dt (show (i : Int) < (ns.length : Int) by omega), dt (show (0 : Int) ≤ (i : Int) by omega), Bool.and_self, cond_true, cond_true, fst_step hi, wi (x := (i : Int) + 1) (by omega) (by omega)]
      have ih := p76_2 bs L ns hn k n (i + 1) (by omega) (by omega)
      by_cases h0 : 0 < i
      · rw [dt (show (i : Int) > 0 by omega), cond_true, wi (by omega) (by omega), dt (show (0 : Int) ≤ (i : Int) - 1 by omega), dt (show (i : Int) - 1 < (ns.length : Int) by omega), Bool.and_self, cond_true, toNat_pred h0, Int.toNat_natCast]
        by_cases hh : ns.getD i 0 ≤ ns.getD (i - 1) 0
        · have e : rsN ns i = 1 := if_pos ⟨h0, hh⟩
          rw [dt hh, cond_true, e]; rfl
        · have e : rsN ns i = 0 := if_neg fun h => hh h.2
          rw [df hh, cond_false, if_pos e]; exact ih
      · have e : rsN ns i = 0 := if_neg fun h => h0 h.1
        rw [df (show ¬ (i : Int) > 0 by omega), cond_false, if_pos e]; exact ih
    · simp (disch := omega) only [df, cond_false]
      rw [fst_done hi, if_pos rfl]
def m76 (x : List Int × List Bk) : Option Int := if ris x.2 ∧ x.2.length ≤ big ∧ x.1.length ≤ big then some (nF x.2 x.1) else none
theorem sat76 : Sat prog cxT 76 (c76 m76) := s76 m93 sat93 m76 fun x t h => by
  obtain ⟨ns, bs⟩ := x
  unfold m76 at h
  split at h
  · rename_i hc
    obtain ⟨hr, hb, hn⟩ := hc
    cases h
    refine ⟨ns.length + 1, ?_⟩
    show g76 m93 _ ns bs = some (nF bs ns)
    unfold g76
    refine (p76_0 bs hr hb _ ns hn _ _ 0 (by omega) (by omega)).trans ?_
    rw [Nat.sub_zero]
    unfold nF
    by_cases h : fst (knN bs ns) ns.length 0 = 0
    · rw [if_pos h, if_pos h]
      refine (p76_2 bs _ ns hn _ _ 0 (by omega) (by omega)).trans ?_
      rw [Nat.sub_zero]
      rcases rsN_val ns with h2 | h2
      · rw [if_pos h2, h2]
      · rw [if_neg (by rw [h2]; decide), h2]
    · rw [if_neg h, if_neg h]
  · cases h

/-! ConfigFault -/
abbrev vB : Bk → Option Bool := fun b => some (bkOk b)
abbrev vV : Vp → Option Bool := fun v => some (vpOk v)
abbrev vW : Vp × Vp → Option Int := fun x => some (cmpV x.1 x.2)
theorem p57_0 (M50 : Int → Option Bool) (L : Nat) (a : Int) (bs : List Bk) (vs : List Vp) (v : Int) (ws : List Vp) (hb : bs.length ≤ big) (k : Int → List Bk → List Vp → Option Int) :
    ∀ (n i : Nat), i ≤ bs.length → bs.length < n + i → l57_0 M50 vB vV vW m76 L a bs vs n v bs ws i k = if fst (bF bs) (bs.length - i) i = 0 then k v bs ws else some (fst (bF bs) (bs.length - i) i)
  | 0, i, h2, h3 => by omega
  | n + 1, i, h2, h3 => by
    unfold l57_0
    have hn' : bs.length ≤ 1000000000000 := hb
    by_cases hi : i < bs.length
    · rw [dt (show (i : Int) < (bs.length : Int) by omega), dt (show (0 : Int) ≤ (i : Int) by omega), Bool.and_self, cond_true, cond_true, tst_some, Int.toNat_natCast, fst_step hi, wi (x := (i : Int) + 1) (by omega) (by omega)]
      have ih := p57_0 M50 L a bs vs v ws hb k n (i + 1) (by omega) (by omega)
      by_cases hok : bkOk (bs.getD i dBk) = true
      · refine (congrArg (fun b => bif !b then _ else _) hok).trans ?_
        simp only [Bool.not_true, cond_false]
        by_cases h0 : 0 < i
        · rw [dt (show (i : Int) > 0 by omega), cond_true, wi (by omega) (by omega), dt (show (0 : Int) ≤ (i : Int) - 1 by omega), dt (show (i : Int) - 1 < (bs.length : Int) by omega), Bool.and_self, cond_true, toNat_pred h0]
          by_cases hh : (bs.getD i dBk).1 ≤ (bs.getD (i - 1) dBk).1
          · have e : bF bs i = 1 := by unfold bF; rw [if_pos hok, if_pos ⟨h0, hh⟩]
            rw [dt (c := (List.getD bs i (0, 0, 0, 0, false)).1 ≤ (List.getD bs (i - 1) (0, 0, 0, 0, false)).1) hh, cond_true, e]; rfl
          · have e : bF bs i = 0 := by unfold bF; rw [if_pos hok, if_neg (fun h => hh h.2)]
            rw [df (c := (List.getD bs i (0, 0, 0, 0, false)).1 ≤ (List.getD bs (i - 1) (0, 0, 0, 0, false)).1) hh, cond_false, if_pos e]
            exact ih
        · have e : bF bs i = 0 := by unfold bF; rw [if_pos hok, if_neg (fun h => h0 h.1)]
          rw [df (show ¬ (i : Int) > 0 by omega), cond_false, if_pos e]
          exact ih
      · have e : bF bs i = 3 := by unfold bF; rw [if_neg hok]
        refine (congrArg (fun b => bif !b then _ else _) (show bkOk (bs.getD i dBk) = false by simpa using hok)).trans ?_
        rw [e]; rfl
    · rw [df (show ¬ (i : Int) < (bs.length : Int) by omega), cond_false, fst_done hi, if_pos rfl]
theorem p57_2 (M50 : Int → Option Bool) (M51 : Bk → Option Bool) (L : Nat) (a : Int) (as0 : List Bk) (us : List Vp) (v : Int) (bs : List Bk) (vs : List Vp) (hr : ris bs) (hok : okC (v, bs, vs)) (k : Option Int) :
    ∀ (n i : Nat), i ≤ vs.length → vs.length < n + i → l57_2 M50 M51 vV vW m76 L a as0 us n v bs vs vs (vs.length : Int) i k = if fst (vF bs vs) (vs.length - i) i = 0 then k else some (fst (vF bs vs) (vs.length - i) i)
  | 0, i, h2, h3 => by omega
  | n + 1, i, h2, h3 => by
    unfold l57_2
    have hn' : vs.length ≤ 1000000000000 := hok.2.1
    by_cases hi : i < vs.length
    · rw [dt (show (i : Int) < (vs.length : Int) by omega), dt (show (0 : Int) ≤ (i : Int) by omega), Bool.and_self, cond_true, cond_true, tst_some, Int.toNat_natCast, fst_step hi, wi (x := (i : Int) + 1) (by omega) (by omega)]
      have ih := p57_2 M50 M51 L a as0 us v bs vs hr hok k n (i + 1) (by omega) (by omega)
      have en : m76 ((vs.getD i dVp).2.2.2, bs) = some (nF bs (vs.getD i dVp).2.2.2) := if_pos ⟨hr, hok.1, hok.2.2 _ (getD_mem dVp hi)⟩
      have tail : ∀ (e : vF bs vs i = nF bs (vs.getD i dVp).2.2.2), (tst (m76 ((vs.getD i dVp).2.2.2, bs)) 0 fun q => bif q != 0 then some q else l57_2 M50 M51 vV vW m76 L a as0 us n v bs vs vs (vs.length : Int) ((i : Int) + 1) k) = if vF bs vs i = 0 then (if fst (vF bs vs) (vs.length - (i + 1)) (i + 1) = 0 then k else some (fst (vF bs vs) (vs.length - (i + 1)) (i + 1))) else some (vF bs vs i) := fun e => by
        rw [en, tst_some, ← e]
        by_cases h : vF bs vs i = 0
        · rw [bneF h, cond_false, if_pos h]; exact ih
        · rw [bneT h, cond_true, if_neg h]
      have fin : ∀ X : Option Int, X = (if vF bs vs i = 0 then (if fst (vF bs vs) (vs.length - (i + 1)) (i + 1) = 0 then k else some (fst (vF bs vs) (vs.length - (i + 1)) (i + 1))) else some (vF bs vs i)) → X = if (if vF bs vs i = 0 then fst (vF bs vs) (vs.length - (i + 1)) (i + 1) else vF bs vs i) = 0 then k else some (if vF bs vs i = 0 then fst (vF bs vs) (vs.length - (i + 1)) (i + 1) else vF bs vs i) := fun X hX => by
        rw [hX]
        by_cases h : vF bs vs i = 0
        · simp only [h, if_true]
        · simp only [h, if_false]
      refine fin _ ?_
      by_cases hk : vpOk (vs.getD i dVp) = true
      · refine (congrArg (fun b => bif !b then _ else _) hk).trans ?_
        simp only [Bool.not_true, cond_false]
        by_cases h0 : 0 < i
        · rw [dt (show (i : Int) > 0 by omega), cond_true, wi (by omega) (by omega), dt (show (0 : Int) ≤ (i : Int) - 1 by omega), dt (show (i : Int) - 1 < (vs.length : Int) by omega), Bool.and_self, cond_true, toNat_pred h0, tst_some]
          by_cases hh : cmpV (vs.getD i dVp) (vs.getD (i - 1) dVp) ≤ 0
          · have e : vF bs vs i = 1 := by unfold vF; rw [if_pos hk, if_pos ⟨h0, cmpV_le.1 hh⟩]
            refine (congrArg (fun b => bif b then _ else _) (dt hh)).trans ?_
            rw [e]; rfl
          · have e : vF bs vs i = nF bs (vs.getD i dVp).2.2.2 := by unfold vF; rw [if_pos hk, if_neg (fun h => hh (cmpV_le.2 h.2))]
            refine (congrArg (fun b => bif b then _ else _) (df hh)).trans ?_
            exact tail e
        · have e : vF bs vs i = nF bs (vs.getD i dVp).2.2.2 := by unfold vF; rw [if_pos hk, if_neg (fun h => h0 h.1)]
          rw [df (show ¬ (i : Int) > 0 by omega), cond_false]
          exact tail e
      · have e : vF bs vs i = 3 := by unfold vF; rw [if_neg hk]
        refine (congrArg (fun b => bif !b then _ else _) (show vpOk (vs.getD i dVp) = false by simpa using hk)).trans ?_
        rw [e]; rfl
    · rw [df (show ¬ (i : Int) < (vs.length : Int) by omega), cond_false, fst_done hi, if_pos rfl]
theorem sat57 : Sat prog cxT 57 (c57 mCF) := s57 _ _ _ _ m76 sat29 sat73 sat74 sat75 sat76 mCF fun x t h => by
  obtain ⟨a, b, c⟩ := x
  unfold mCF at h
  split at h
  · rename_i hc
    cases h
    refine ⟨b.length + c.length + 1, ?_⟩
    show g57 _ _ _ _ m76 _ a b c = some (cF (a, b, c))
    unfold g57 cF
    simp only [tst_some]
    cases hv : vrOk a
    · simp
    · simp only [Bool.not_true, cond_false, if_true]
      by_cases h8 : 8 < b.length
      · rw [dt (show (b.length : Int) > 8 by omega), cond_true, if_pos (.inl h8)]
      · rw [df (show ¬ (b.length : Int) > 8 by omega), cond_false]
        by_cases h4 : 4 < c.length
        · rw [dt (show (c.length : Int) > 4 by omega), cond_true, if_pos (.inr h4)]
        · rw [df (show ¬ (c.length : Int) > 4 by omega), cond_false, if_neg (by omega)]
          refine (p57_0 _ _ a b c a c hc.1 _ _ 0 (by omega) (by omega)).trans ?_
          rw [Nat.sub_zero]
          by_cases e : fst (bF b) b.length 0 = 0
          · rw [if_pos e, if_pos e]
            refine (p57_2 _ _ _ a b c a b c (ris_of fun j hj => fst_zero.1 e j (Nat.zero_le _) (by omega)) hc _ _ 0 (by omega) (by omega)).trans ?_
            rw [Nat.sub_zero]
            split
            · rename_i e2; rw [e2]
            · rfl
          · rw [if_neg e, if_neg e]
  · cases h

end Go.Proofs.Tryz

set_option maxHeartbeats 0
set_option linter.unusedVariables false
set_option linter.unusedSimpArgs false
namespace Go.Proofs.Tryz
open Go Go.VM Go.RowKit

theorem cmpV_zero {a b : Vp} : cmpV a b = 0 ↔ (a.1 = b.1 ∧ a.2.1 = b.2.1 ∧ a.2.2.1 = b.2.2.1) := by
  unfold cmpV orI orI orI orI
  by_cases h1 : cmpI a.1 b.1 = 0
  · rw [if_pos h1]
    by_cases h2 : cmpI a.2.1 b.2.1 = 0
    · rw [if_pos h2]
      by_cases h3 : cmpI a.2.2.1 b.2.2.1 = 0
      · rw [if_pos h3]; simp [cmpI_zero.1 h1, cmpI_zero.1 h2, cmpI_zero.1 h3]
      · rw [if_neg h3]; exact ⟨fun h => absurd h h3, fun h => absurd (cmpI_zero.2 h.2.2) h3⟩
    · rw [if_neg h2]; exact ⟨fun h => absurd h h2, fun h => absurd (cmpI_zero.2 h.2.1) h2⟩
  · rw [if_neg h1]; exact ⟨fun h => absurd h h1, fun h => absurd (cmpI_zero.2 h.1) h1⟩

/-! ### Configurations held against each other -/
theorem el112 (L : Nat) (a b : List Int) : ∀ (n : Nat) (i : Int) (k : Option Bool), l112_0 L a b n i k = eqL 0 (fun x => some (decide (x.1 = x.2))) a b n i k
  | 0, _, _ => rfl
  | n + 1, i, k => by
    unfold l112_0 eqL
    simp only [el112 L a b n, tst_some]
    congr 2
theorem eq_row {α : Type} [DecidableEq α] (d : α) (f : α × α → Option Bool) (a b : List α) (ha : a.length ≤ big) (hf : ∀ x ∈ a, ∀ y ∈ b, f (x, y) = some (decide (x = y))) : (bif ((a.length : Int) != (b.length : Int)) then some false else eqL d f a b (a.length + 1) 0 (some true)) = some (decide (a = b)) := by
  have ha' : a.length ≤ 1000000000000 := ha
  refine bifeq (fun e => ?_) fun e h => e (by rw [h])
  refine (eqL_ok d f a b (by omega) (by omega) hf _ _ 0 (by omega) (by omega)).trans ?_
  simp only [List.drop_zero]
  split <;> rename_i hh <;> simp [hh]
theorem sat112 : Sat prog cxT 112 (c112 m107) := s112 m107 fun x t h => by
  obtain ⟨a, b⟩ := x
  unfold m107 at h
  split at h
  · rename_i hc
    cases h
    refine ⟨a.length + 1, ?_⟩
    show g112 (a.length + 1) a b = some (decide (a = b))
    unfold g112
    rw [el112]
    exact eq_row 0 _ a b hc (fun _ _ _ _ => rfl)
  · cases h
theorem and5 (x y : Bk) : ((((x.1 == y.1 && x.2.1 == y.2.1) && x.2.2.1 == y.2.2.1) && x.2.2.2.1 == y.2.2.2.1) && x.2.2.2.2 == y.2.2.2.2) = decide (x = y) := by
  obtain ⟨a, b, c, d, e⟩ := x
  obtain ⟨a', b', c', d', e'⟩ := y
  by_cases h : (a, b, c, d, e) = (a', b', c', d', e')
  · rw [dt h]
    simp only [Prod.mk.injEq] at h
    obtain ⟨rfl, rfl, rfl, rfl, rfl⟩ := h
    simp
  · rw [df h]
    refine Bool.eq_false_iff.2 fun hh => h ?_
    simp only [Bool.and_eq_true, beq_iff_eq] at hh
    obtain ⟨⟨⟨⟨rfl, rfl⟩, rfl⟩, rfl⟩, rfl⟩ := hh
    rfl
theorem el94 (L : Nat) (a b : List Bk) : ∀ (n : Nat) (i : Int) (k : Option Bool), l94_0 L a b n i k = eqL dBk (fun x => some (decide (x.1 = x.2))) a b n i k
  | 0, _, _ => rfl
  | n + 1, i, k => by
    unfold l94_0 eqL
    simp only [el94 L a b n, tst_some, ← and5]
    rfl
theorem sat94 : Sat prog cxT 94 (c94 m60) := s94 m60 fun x t h => by
  obtain ⟨a, b⟩ := x
  unfold m60 at h
  split at h
  · rename_i hc
    cases h
    refine ⟨a.length + 1, ?_⟩
    show g94 (a.length + 1) a b = some (decide (a = b))
    unfold g94
    rw [el94]
    exact eq_row dBk _ a b hc (fun _ _ _ _ => rfl)
  · cases h
theorem sat96 : Sat prog cxT 96 (c96 m80) := s96 _ m107 sat75 sat112 m80 fun x t h => by
  obtain ⟨⟨a, b, c, d⟩, a', b', c', d'⟩ := x
  unfold m80 at h
  split at h
  · rename_i hc
    cases h
    refine ⟨0, ?_⟩
    show g96 _ m107 0 a b c d a' b' c' d' = some (decide ((a, b, c, d) = (a', b', c', d')))
    unfold g96
    rw [tst_some]
    show (bif cmpV (a, b, c, d) (a', b', c', d') == 0 then _ else _) = _
    by_cases h0 : cmpV (a, b, c, d) (a', b', c', d') = 0
    · rw [beq_iff_eq.2 h0, cond_true, show m107 (d, d') = some (decide (d = d')) from if_pos hc, tst_some]
      obtain ⟨h1, h2, h3⟩ := cmpV_zero.1 h0
      simp only at h1 h2 h3
      rw [h1, h2, h3]
      simp
    · rw [beq_eq_false_iff_ne.2 h0, cond_false, df]
      intro h
      simp only [Prod.mk.injEq] at h
      exact h0 (cmpV_zero.2 ⟨h.1, h.2.1, h.2.2.1⟩)
  · cases h
theorem el95 (L : Nat) (a b : List Vp) (u : Unit) : ∀ (n : Nat) (i : Int) (k : Option Bool), l95_0 m80 L a b u n i k = eqL dVp m80 a b n i k
  | 0, _, _ => rfl
  | n + 1, i, k => by unfold l95_0 eqL; simp only [el95 L a b u n]; rfl
def m95 (x : List Vp × List Vp × Unit) : Option Bool := if x.1.length ≤ big ∧ ∀ v ∈ x.1, v.2.2.2.length ≤ big then some (decide (x.1 = x.2.1)) else none
theorem sat95 : Sat prog cxT 95 (c95 m95) := s95 m80 sat96 m95 fun x t h => by
  obtain ⟨a, b, u⟩ := x
  unfold m95 at h
  split at h
  · rename_i hc
    cases h
    refine ⟨a.length + 1, ?_⟩
    show g95 m80 (a.length + 1) a b u = some (decide (a = b))
    unfold g95
    rw [el95]
    exact eq_row dVp _ a b hc.1 (fun x hx y _ => if_pos (hc.2 x hx))
  · cases h
theorem sat77 : Sat prog cxT 77 (c77 m32) := s77 m60 m95 sat94 sat95 m32 fun x t h => by
  obtain ⟨⟨a, b, c⟩, a', b', c'⟩ := x
  unfold m32 at h
  split at h
  · rename_i hc
    cases h
    refine ⟨0, ?_⟩
    show g77 m60 m95 0 a b c a' b' c' = some (decide ((a, b, c) = (a', b', c')))
    unfold g77
    rw [show m60 (b, b') = some (decide (b = b')) from if_pos hc.1, tst_some, show m95 (c, c', PUnit.unit) = some (decide (c = c')) from if_pos hc.2, tst_some]
    by_cases e1 : a = a'
    · subst e1
      by_cases e2 : b = b' <;> by_cases e3 : c = c' <;> simp [e2, e3]
    · rw [beq_eq_false_iff_ne.2 e1, cond_false, df (fun h => e1 (Prod.mk.inj h).1)]
  · cases h
end Go.Proofs.Tryz
