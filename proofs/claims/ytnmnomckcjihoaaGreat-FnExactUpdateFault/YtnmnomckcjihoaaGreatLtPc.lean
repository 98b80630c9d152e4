/- A part of the proof of FnExactUpdateFault: LtPc, LtPd. -/
import Derived.Test.YtnmnomckcjihoaaGreatLtPa
set_option linter.unusedVariables false
set_option maxHeartbeats 0
set_option linter.unusedVariables false
set_option linter.unusedSimpArgs false
namespace Go.Proofs.Tryz
open Go Go.VM Go.RowKit

/-! ### Faults of configurations, plainly -/
def bkOk (b : Bk) : Bool := nmOk b.1 && adOk b.2.1 && wtOk b.2.2.1 && stOk b.2.2.2.1
def vpOk (v : Vp) : Bool := adOk v.1 && ptOk v.2.1 && prOk v.2.2.1
def beh (a b : Vp) : Bool := if a.1 = b.1 then (if a.2.1 = b.2.1 then decide (a.2.2.1 < b.2.2.1) else decide (a.2.1 < b.2.1)) else decide (a.1 < b.1)
def hasB (bs : List Bk) (y : Int) : Bool := bs.any fun b => b.1 == y
def rsN (ns : List Int) (i : Nat) : Int := if 0 < i ∧ ns.getD i 0 ≤ ns.getD (i - 1) 0 then 1 else 0
def knN (bs : List Bk) (ns : List Int) (i : Nat) : Int := if hasB bs (ns.getD i 0) then 0 else 4
def nF (bs : List Bk) (ns : List Int) : Int := if fst (knN bs ns) ns.length 0 = 0 then fst (rsN ns) ns.length 0 else 4
def bF (bs : List Bk) (i : Nat) : Int := if bkOk (bs.getD i dBk) then (if 0 < i ∧ (bs.getD i dBk).1 ≤ (bs.getD (i - 1) dBk).1 then 1 else 0) else 3
def vF (bs : List Bk) (vs : List Vp) (i : Nat) : Int := if vpOk (vs.getD i dVp) then (if 0 < i ∧ beh (vs.getD (i - 1) dVp) (vs.getD i dVp) = false then 1 else nF bs (vs.getD i dVp).2.2.2) else 3
def cF (c : Cg) : Int := if vrOk c.1 then (if 8 < c.2.1.length ∨ 4 < c.2.2.length then 2 else if fst (bF c.2.1) c.2.1.length 0 = 0 then fst (vF c.2.1 c.2.2) c.2.2.length 0 else fst (bF c.2.1) c.2.1.length 0) else 3

/-- Names of backends rise. -/
def ris (bs : List Bk) : Prop := ∀ i j, i < j → j < bs.length → (bs.getD i dBk).1 < (bs.getD j dBk).1
theorem ris_of {bs : List Bk} (h : ∀ j, j < bs.length → bF bs j = 0) : ris bs := by
  have step : ∀ j, 0 < j → j < bs.length → (bs.getD (j - 1) dBk).1 < (bs.getD j dBk).1 := fun j h0 hj => by
    have := h j hj
    unfold bF at this
    split at this
    · split at this
      · exact absurd this (by decide)
      · rename_i h2; have : ¬ (bs.getD j dBk).1 ≤ (bs.getD (j - 1) dBk).1 := fun h3 => h2 ⟨h0, h3⟩; omega
    · exact absurd this (by decide)
  intro i j hij
  induction j with
  | zero => omega
  | succ j ih =>
    intro hj
    have h1 := step (j + 1) (by omega) hj
    simp only [Nat.add_sub_cancel] at h1
    by_cases h2 : i = j
    · rw [h2]; exact h1
    · have := ih (by omega) (by omega)
      omega

theorem sat48 : Sat prog cxT 48 (c48 fun b => some (bkOk b)) := s48 _ _ _ sat51 sat52 sat34 _ fun x t h => by
  obtain ⟨a, b, c, d, e⟩ := x
  cases h
  refine ⟨0, ?_⟩
  show g48 _ _ _ 0 a b c d e = some (nmOk a && adOk b && wtOk c && stOk d)
  unfold g48
  simp only [tst_some]
  cases nmOk a <;> cases adOk b <;> simp only [cond_true, cond_false, Bool.false_and, Bool.true_and]
  show (bif wtOk c then some (stOk d) else some false) = _
  cases wtOk c <;> rfl
theorem sat73 : Sat prog cxT 73 (c73 fun b => some (bkOk b)) := s73 _ _ _ _ sat85 sat86 sat87 sat88 _ fun x t h => by
  obtain ⟨a, b, c, d, e⟩ := x
  cases h
  refine ⟨0, ?_⟩
  show g73 _ _ _ _ 0 a b c d e = some (nmOk a && adOk b && wtOk c && stOk d)
  unfold g73
  simp only [tst_some]
  cases nmOk a <;> cases adOk b <;> cases wtOk c <;> rfl
theorem sat74 : Sat prog cxT 74 (c74 fun v => some (vpOk v)) := s74 _ _ _ sat86 sat89 sat90 _ fun x t h => by
  obtain ⟨a, b, c, d⟩ := x
  cases h
  refine ⟨0, ?_⟩
  show g74 _ _ _ 0 a b c d = some (adOk a && ptOk b && prOk c)
  unfold g74
  simp only [tst_some]
  cases adOk a <;> cases ptOk b <;> rfl
theorem sat69 : Sat prog cxT 69 (c69 fun x => some (beh x.1 x.2)) := s69 _ fun x t h => by
  obtain ⟨⟨a, b, c, d⟩, a', b', c', d'⟩ := x
  cases h
  refine ⟨0, ?_⟩
  show g69 0 a b c d a' b' c' d' = some (if a = a' then (if b = b' then decide (c < c') else decide (b < b')) else decide (a < a'))
  unfold g69
  by_cases h1 : a = a'
  · rw [bneF h1, cond_false, if_pos h1]
    by_cases h2 : b = b'
    · rw [bneF h2, cond_false, if_pos h2]
    · rw [bneT h2, cond_true, if_neg h2]
  · rw [bneT h1, cond_true, if_neg h1]

def atB (bs : List Bk) (y : Int) : Int := idx (fun b => b.1 == y) bs 0
theorem p70 (L : Nat) (c : Cg) (y : Int) (hb : c.2.1.length ≤ big) (k : Option Int) : ∀ (n i : Nat), i ≤ c.2.1.length → c.2.1.length < n + i →
    l70_0 L c y n i k = if idx (fun b => b.1 == y) (c.2.1.drop i) i < 0 then k else some (idx (fun b => b.1 == y) (c.2.1.drop i) i)
  | 0, i, h2, h3 => by omega
  | n + 1, i, h2, h3 => by
    unfold l70_0
    have hb' : c.2.1.length ≤ 1000000000000 := hb
    by_cases hi : i < c.2.1.length
    · rw [Int.toNat_natCast]
      simp (disch := omega) only [dt, wi, cond_true, Bool.and_self]
      rw [drop_cons dBk hi, idx_cons]
      by_cases hy : (c.2.1.getD i dBk).1 = y
      · rw [show ((c.2.1.getD i dBk).1 == y) = true from beq_iff_eq.2 hy, if_pos rfl, if_neg (by omega)]
        rw [show ((List.getD c.2.1 i (0, 0, 0, 0, false)).1 == y) = true from beq_iff_eq.2 hy]; rfl
      · simp only [show ((c.2.1.getD i dBk).1 == y) = false from beq_eq_false_iff_ne.2 hy, Bool.false_eq_true, if_false]
        rw [show ((List.getD c.2.1 i (0, 0, 0, 0, false)).1 == y) = false from beq_eq_false_iff_ne.2 hy, cond_false, show (i : Int) + 1 = ((i + 1 : Nat) : Int) from rfl]
        exact p70 L c y hb k n (i + 1) (by omega) (by omega)
    · simp (disch := omega) only [df, cond_false]
      rw [List.drop_eq_nil_of_le (by omega)]
      rfl
theorem idx_none {α : Type} {p : α → Bool} : ∀ (l : List α) (i : Nat), l.any p = false → idx p l i = -1
  | [], _, _ => rfl
  | x :: r, i, h => by
    simp only [List.any_cons, Bool.or_eq_false_iff] at h
    rw [idx_cons, h.1]
    simp only [Bool.false_eq_true, if_false]
    exact idx_none r _ h.2
def m70 (x : Cg × Int) : Option Int := if x.1.2.1.length ≤ big then some (atB x.1.2.1 x.2) else none
theorem sat70 : Sat prog cxT 70 (c70 m70) := s70 m70 fun x t h => by
  obtain ⟨c, y⟩ := x
  unfold m70 at h
  split at h
  · rename_i hc
    cases h
    refine ⟨c.2.1.length + 1, ?_⟩
    show g70 (c.2.1.length + 1) c y = some (atB c.2.1 y)
    unfold g70
    refine (p70 _ c y hc _ (c.2.1.length + 1) 0 (by omega) (by omega)).trans ?_
    rw [List.drop_zero]
    unfold atB
    split
    · rename_i h2
      rw [idx_none c.2.1 0 (idx_neg.1 h2)]
    · rfl
  · cases h

end Go.Proofs.Tryz

set_option maxHeartbeats 0
set_option linter.unusedVariables false
set_option linter.unusedSimpArgs false
namespace Go.Proofs.Tryz
open Go Go.VM Go.RowKit

/-! ### The specification's ConfigFault -/
theorem toNat_pred {i : Nat} (h : 0 < i) : ((i : Int) - 1).toNat = i - 1 := by omega
theorem fst_step {f : Nat → Int} {m i : Nat} (h : i < m) : fst f (m - i) i = if f i = 0 then fst f (m - (i + 1)) (i + 1) else f i := by
  rw [show m - i = (m - (i + 1)) + 1 by omega, fst_succ]
theorem fst_done {f : Nat → Int} {m i : Nat} (h : ¬ i < m) : fst f (m - i) i = 0 := by
  rw [show m - i = 0 by omega]; rfl
theorem hasB_at {bs : List Bk} {y : Int} : decide (atB bs y < 0) = !hasB bs y := by
  by_cases h : hasB bs y = true
  · rw [h]
    obtain ⟨j, h1, _⟩ := idx_get dBk (l := bs) (i := 0) h
    exact df (by unfold atB; rw [h1]; omega)
  · have h' : hasB bs y = false := by simpa using h
    rw [h']
    exact dt (idx_neg.2 h')
theorem p49_0 (M60 M95 M62 : Int → Option Bool) (M113 : Vp × Vp → Option Bool) (L : Nat) (c : Cg) (b1 : Int) (x y z : Int) (ns : List Int) (hb : c.2.1.length ≤ big) (hn : ns.length ≤ big) (k : Int → Int → Int → List Int → Option Int) :
    ∀ (n i : Nat), i ≤ ns.length → ns.length < n + i → l49_0 M60 M95 M62 M113 m70 L c b1 n x y z ns i k = if fst (knN c.2.1 ns) (ns.length - i) i = 0 then k x y z ns else some 4
  | 0, i, h2, h3 => by omega
  | n + 1, i, h2, h3 => by
    unfold l49_0
    have hn' : ns.length ≤ 1000000000000 := hn
    by_cases hi : i < ns.length
    · rw [Int.toNat_natCast]
      simp (disch := omega) only [dt, wi, cond_true, Bool.and_self]
      rw [fst_step hi, show m70 (c, ns.getD i 0) = some (atB c.2.1 (ns.getD i 0)) from if_pos hb, tst_some]
      simp only [hasB_at]
      unfold knN
      by_cases hh : hasB c.2.1 (ns.getD i 0) = true
      · simp only [hh, if_true, Bool.not_true, cond_false]
        exact p49_0 M60 M95 M62 M113 L c b1 x y z ns hb hn k n (i + 1) (by omega) (by omega)
      · simp only [show hasB c.2.1 (ns.getD i 0) = false by simpa using hh, Bool.false_eq_true, if_false, Bool.not_false, cond_true]
        rfl
    · simp (disch := omega) only [df, cond_false]
      rw [fst_done hi, if_pos rfl]
theorem p49_2 (M60 M95 M62 : Int → Option Bool) (M113 : Vp × Vp → Option Bool) (M64 : Cg × Int → Option Int) (L : Nat) (c : Cg) (b1 : Int) (x y z : Int) (ns : List Int) (hn : ns.length ≤ big) (k : Option Int) :
    ∀ (n i : Nat), 0 < i → (i ≤ ns.length + 1) → ns.length + 1 < n + i → l49_2 M60 M95 M62 M113 M64 L c b1 n x y z ns i k = if fst (rsN ns) (ns.length - i) i = 0 then k else some 1
  | 0, i, h2, h1, h3 => by omega
  | n + 1, i, h2, h1, h3 => by
    unfold l49_2
    have hn' : ns.length ≤ 1000000000000 := hn
    by_cases hi : i < ns.length
    · simp (disch := omega) only [dt, wi, cond_true, Bool.and_self]
      rw [toNat_pred h2, Int.toNat_natCast, fst_step hi]
      unfold rsN
      by_cases hh : ns.getD i 0 ≤ ns.getD (i - 1) 0
      · rw [dt hh, cond_true, if_pos (show 0 < i ∧ ns.getD i 0 ≤ ns.getD (i - 1) 0 from ⟨h2, hh⟩)]; rfl
      · rw [df hh, cond_false, if_neg (show ¬ (0 < i ∧ ns.getD i 0 ≤ ns.getD (i - 1) 0) from fun h => hh h.2), if_pos rfl]
        exact p49_2 M60 M95 M62 M113 M64 L c b1 x y z ns hn k n (i + 1) (by omega) (by omega) (by omega)
    · have e : ¬ (i : Int) < (ns.length : Int) := by omega
      simp only [df e, cond_false]
      rw [fst_done hi, if_pos rfl]

def m49 (x : Cg × Int) : Option Int := if okC x.1 ∧ 0 ≤ x.2 ∧ x.2 < (x.1.2.2.length : Int) then some (vF x.1.2.1 x.1.2.2 x.2.toNat) else none
theorem rsN_zero (ns : List Int) : rsN ns 0 = 0 := by unfold rsN; rw [if_neg (by omega)]
theorem rsN_from (ns : List Int) : fst (rsN ns) (ns.length - 1) 1 = fst (rsN ns) ns.length 0 := by
  cases h : ns.length with
  | zero => rfl
  | succ n => rw [fst_succ, if_pos (rsN_zero ns)]; rfl
theorem rsN_val (ns : List Int) : fst (rsN ns) ns.length 0 = 0 ∨ fst (rsN ns) ns.length 0 = 1 := by
  by_cases h : fst (rsN ns) ns.length 0 = 0
  · exact .inl h
  · obtain ⟨j, _, _, hj⟩ := fst_any h
    refine .inr ?_
    rw [← hj] at h ⊢
    unfold rsN at h ⊢
    split
    · rfl
    · rename_i h2; rw [if_neg h2] at h; exact absurd rfl h
theorem tail82 (L : Nat) (c : Cg) (b1 : Int) (x y z : Int) (ns : List Int) (hb : c.2.1.length ≤ big) (hn : ns.length ≤ big) (hL : ns.length + 1 < L) (M60 M95 M62 : Int → Option Bool) (M113 : Vp × Vp → Option Bool) :
    l49_0 M60 M95 M62 M113 m70 L c b1 L x y z ns 0 (fun u0 u1 u2 u3 => l49_2 M60 M95 M62 M113 m70 L c b1 L u0 u1 u2 u3 1 (some 0)) = some (nF c.2.1 ns) := by
  refine (p49_0 M60 M95 M62 M113 L c b1 x y z ns hb hn _ L 0 (by omega) (by omega)).trans ?_
  rw [Nat.sub_zero]
  unfold nF
  by_cases h : fst (knN c.2.1 ns) ns.length 0 = 0
  · rw [if_pos h, if_pos h]
    refine (p49_2 M60 M95 M62 M113 m70 L c b1 x y z ns hn _ L 1 (by omega) (by omega) (by omega)).trans ?_
    rw [rsN_from]
    rcases rsN_val ns with h2 | h2
    · rw [if_pos h2, h2]
    · rw [if_neg (by rw [h2]; decide), h2]
  · rw [if_neg h, if_neg h]
theorem sat49 : Sat prog cxT 49 (c49 m49) := s49 _ _ _ _ m70 sat52 sat68 sat54 sat69 sat70 m49 fun x t h => by
  obtain ⟨⟨a, b, c⟩, y⟩ := x
  unfold m49 at h
  split at h
  · rename_i hc
    obtain ⟨⟨h1, h2, h3⟩, h4, h5⟩ := hc
    cases h
    simp only at h1 h2 h3 h4 h5
    obtain ⟨i, rfl⟩ := Int.eq_ofNat_of_zero_le h4
    have hi : i < c.length := by omega
    have h2' : c.length ≤ 1000000000000 := h2
    refine ⟨(c.getD i dVp).2.2.2.length + 2, ?_⟩
    have hns := h3 _ (getD_mem dVp hi)
    show g49 _ _ _ _ m70 _ (a, b, c) (i : Int) = some (vF b c (i : Int).toNat)
    unfold g49
    simp only
    rw [Int.toNat_natCast, dt h4, dt h5, Bool.and_self, cond_true]
    simp only [tst_some]
    unfold vF
    have hv : ∀ o : Option Int, (bif !adOk (c.getD i dVp).1 then some 3 else bif !ptOk (c.getD i dVp).2.1 then some 3 else bif !prOk (c.getD i dVp).2.2.1 then some 3 else o) = if vpOk (c.getD i dVp) = true then o else some 3 := by
      intro o
      unfold vpOk
      cases adOk (c.getD i dVp).1 <;> cases ptOk (c.getD i dVp).2.1 <;> cases prOk (c.getD i dVp).2.2.1 <;> simp
    refine (hv _).trans ?_
    by_cases hok : vpOk (c.getD i dVp) = true
    · rw [if_pos hok, if_pos hok]
      by_cases h0 : 0 < i
      · rw [dt (show (i : Int) > 0 by omega), cond_true, wi (by omega) (by omega), dt (show (0 : Int) ≤ (i : Int) - 1 by omega), dt (show (i : Int) - 1 < (c.length : Int) by omega), Bool.and_self, cond_true, toNat_pred h0]
        by_cases hbh : beh (c.getD (i - 1) dVp) (c.getD i dVp) = false
        · rw [if_pos ⟨h0, hbh⟩]
          show (bif !beh (c.getD (i - 1) dVp) (c.getD i dVp) then _ else _) = _
          rw [hbh]; rfl
        · rw [if_neg (fun h => hbh h.2)]
          show (bif !beh (c.getD (i - 1) dVp) (c.getD i dVp) then _ else _) = _
          rw [show beh (c.getD (i - 1) dVp) (c.getD i dVp) = true by simpa using hbh]
          exact tail82 _ (a, b, c) i _ _ _ _ h1 hns (by omega) _ _ _ _
      · rw [df (show ¬ (i : Int) > 0 by omega), cond_false, if_neg (fun h => h0 h.1)]
        exact tail82 _ (a, b, c) i _ _ _ _ h1 hns (by omega) _ _ _ _
    · rw [if_neg hok, if_neg hok]
  · cases h

theorem p25_0 (M58 : Int → Option Bool) (M82 : Cg × Int → Option Int) (L : Nat) (c : Cg) (hb : c.2.1.length ≤ big) (k : Option Int) :
    ∀ (n i : Nat), i ≤ c.2.1.length → c.2.1.length < n + i → l25_0 M58 (fun b => some (bkOk b)) M82 L c n i k = if fst (bF c.2.1) (c.2.1.length - i) i = 0 then k else some (fst (bF c.2.1) (c.2.1.length - i) i)
  | 0, i, h2, h3 => by omega
  | n + 1, i, h2, h3 => by
    unfold l25_0
    have hn' : c.2.1.length ≤ 1000000000000 := hb
    generalize hbs : c.2.1 = bs at *
    by_cases hi : i < bs.length
    · rw [dt (show (i : Int) < (bs.length : Int) by omega), dt (show (0 : Int) ≤ (i : Int) by omega), Bool.and_self, cond_true, cond_true, tst_some, Int.toNat_natCast, fst_step hi, wi (x := (i : Int) + 1) (by omega) (by omega)]
      have ih := p25_0 M58 M82 L c (by rw [hbs]; exact hb) k n (i + 1) (by rw [hbs]; omega) (by rw [hbs]; omega)
      rw [hbs] at ih
      by_cases hok : bkOk (bs.getD i dBk) = true
      · refine (congrArg (fun b => bif !b then _ else _) hok).trans ?_
        simp only [Bool.not_true, cond_false]
        by_cases h0 : 0 < i
        · rw [dt (show (i : Int) > 0 by omega), cond_true, wi (by omega) (by omega), dt (show (0 : Int) ≤ (i : Int) - 1 by omega), dt (show (i : Int) - 1 < (bs.length : Int) by omega), Bool.and_self, cond_true, toNat_pred h0]
          by_cases hh : (bs.getD i dBk).1 ≤ (bs.getD (i - 1) dBk).1
          · have e : bF bs i = 1 := by unfold bF; rw [if_pos hok, if_pos ⟨h0, hh⟩]
            rw [dt (c := (List.getD bs i (0, 0, 0, 0, false)).1 ≤ (List.getD bs (i - 1) (0, 0, 0, 0, false)).1) hh, cond_true, e]; rfl
          · have e : bF bs i = 0 := by unfold bF; rw [if_pos hok, if_neg (fun h => hh h.2)]
            rw [df (c := (List.getD bs i (0, 0, 0, 0, false)).1 ≤ (List.getD bs (i - 1) (0, 0, 0, 0, false)).1) hh, cond_false, if_pos e]
            exact ih
        · have e : bF bs i = 0 := by unfold bF; rw [if_pos hok, if_neg (fun h => h0 h.1)]
          rw [df (show ¬ (i : Int) > 0 by omega), cond_false, if_pos e]
          exact ih
      · have e : bF bs i = 3 := by unfold bF; rw [if_neg hok]
        refine (congrArg (fun b => bif !b then _ else _) (show bkOk (bs.getD i dBk) = false by simpa using hok)).trans ?_
        rw [e]; rfl
    · rw [df (show ¬ (i : Int) < (bs.length : Int) by omega), cond_false, fst_done hi, if_pos rfl]
theorem p25_2 (M58 : Int → Option Bool) (M81 : Bk → Option Bool) (L : Nat) (c : Cg) (hok : okC c) (k : Option Int) :
    ∀ (n i : Nat), i ≤ c.2.2.length → c.2.2.length < n + i → l25_2 M58 M81 m49 L c n i k = if fst (vF c.2.1 c.2.2) (c.2.2.length - i) i = 0 then k else some (fst (vF c.2.1 c.2.2) (c.2.2.length - i) i)
  | 0, i, h2, h3 => by omega
  | n + 1, i, h2, h3 => by
    unfold l25_2
    have hn' : c.2.2.length ≤ 1000000000000 := hok.2.1
    by_cases hi : i < c.2.2.length
    · rw [dt (show (i : Int) < (c.2.2.length : Int) by omega), cond_true, fst_step hi, wi (x := (i : Int) + 1) (by omega) (by omega)]
      rw [show m49 (c, (i : Int)) = some (vF c.2.1 c.2.2 i) from if_pos ⟨hok, by simp only; omega, by simp only; omega⟩, tst_some]
      by_cases e : vF c.2.1 c.2.2 i = 0
      · rw [bneF e, cond_false, if_pos e]
        exact p25_2 M58 M81 L c hok k n (i + 1) (by omega) (by omega)
      · rw [bneT e, cond_true, if_neg e, if_neg e]
    · rw [df (show ¬ (i : Int) < (c.2.2.length : Int) by omega), cond_false, fst_done hi, if_pos rfl]
def m25 (c : Cg) : Option Int := if okC c then some (cF c) else none
theorem sat25 : Sat prog cxT 25 (c25 m25) := s25 _ _ m49 sat24 sat48 sat49 m25 fun x t h => by
  obtain ⟨a, b, c⟩ := x
  unfold m25 at h
  split at h
  · rename_i hc
    cases h
    refine ⟨b.length + c.length + 1, ?_⟩
    show g25 _ _ m49 _ (a, b, c) = some (cF (a, b, c))
    unfold g25 cF
    simp only [tst_some]
    cases hv : vrOk a
    · simp
    · simp only [Bool.not_true, cond_false, if_true]
      by_cases h8 : 8 < b.length
      · rw [dt (show (b.length : Int) > 8 by omega), cond_true, if_pos (.inl h8)]
      · rw [df (show ¬ (b.length : Int) > 8 by omega), cond_false]
        by_cases h4 : 4 < c.length
        · rw [dt (show (c.length : Int) > 4 by omega), cond_true, if_pos (.inr h4)]
        · rw [df (show ¬ (c.length : Int) > 4 by omega), cond_false, if_neg (by omega)]
          refine (p25_0 _ _ _ (a, b, c) hc.1 _ _ 0 (by omega) (by simp only; omega)).trans ?_
          rw [Nat.sub_zero]
          by_cases e : fst (bF b) b.length 0 = 0
          · rw [if_pos e, if_pos e]
            refine (p25_2 _ _ _ (a, b, c) hc _ _ 0 (by omega) (by simp only; omega)).trans ?_
            rw [Nat.sub_zero]
            split
            · rename_i e2; rw [e2]
            · rfl
          · rw [if_neg e, if_neg e]
  · cases h
def mCF (c : Cg) : Option Int := if okC c then some (cF c) else none

end Go.Proofs.Tryz
