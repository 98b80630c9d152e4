/- A part of the proof of FnExactAskNode: LgRa, LgRd, LgRe, LgTop. -/
import Derived.Test.YtdnjjhambjafoaaGreatLgPc
import Derived.Test.YtdnjjhambjafoaaGreatLgFi
import Derived.Test.YtdnjjhambjafoaaGreatLgPt
import Derived.Test.YtdnjjhambjafoaaGreatLgFn
import Derived.Test.YtdnjjhambjafoaaGreatLgFo
import Derived.Test.YtdnjjhambjafoaaGreatVmOpen
set_option linter.unusedVariables false
set_option maxHeartbeats 0
set_option linter.unusedVariables false
set_option linter.unusedSimpArgs false
namespace Go.Proofs.Tryz
open Go Go.VM Go.RowKit
theorem ge_le {a b c : Int} : (bif decide (a ≥ b) then some (decide (a ≤ c)) else some false) = some (decide (b ≤ a ∧ a ≤ c)) := by
  by_cases h : a ≥ b
  · rw [dt h, cond_true]; exact congrArg some (decide_eq_decide.2 ⟨fun k => ⟨h, k⟩, fun k => k.2⟩)
  · rw [df h, cond_false, df (fun k => h k.1)]
def m52 (x : Int × Int × Int) : Option Bool := some (decide (x.2.1 ≤ x.1 ∧ x.1 ≤ x.2.2))
theorem sat52 : Sat prog cxT 52 (c52 m52) := s52 m52 fun x t h => by
  obtain ⟨a, b, c⟩ := x
  cases h
  exact ⟨0, ge_le⟩
def m45 (p : Int) : Option Bool := some (decide (1 ≤ p ∧ p ≤ 5))
theorem sat45 : Sat prog cxT 45 (c45 m45) := s45 m52 sat52 m45 fun x t h => by cases h; exact ⟨0, rfl⟩
def isId (p i : Int) : Bool := decide (0 ≤ i ∧ i < p)
def m46 (x : Int × Int) : Option Bool := some (isId x.2 x.1)
theorem sat46 : Sat prog cxT 46 (c46 m46) := s46 m46 fun x t h => by
  obtain ⟨a, b⟩ := x
  cases h
  refine ⟨0, ?_⟩
  show g46 0 a b = some (decide (0 ≤ a ∧ a < b))
  unfold g46
  by_cases h : a ≥ 0
  · rw [dt h, cond_true]; exact congrArg some (decide_eq_decide.2 ⟨fun k => ⟨h, k⟩, fun k => k.2⟩)
  · rw [df h, cond_false, df (fun k => h k.1)]
def m60 (x : Int) : Option Bool := some (tmOk x)
def m47 (x : Int) : Option Bool := some (decide (0 ≤ x ∧ x ≤ 100000))
theorem beqd (x y : Int) : (x == y) = decide (x = y) := by by_cases h : x = y <;> simp [h]
theorem bned (x y : Int) : (x != y) = !decide (x = y) := by by_cases h : x = y <;> simp [h]
theorem sat47 : Sat prog cxT 47 (c47 m47) := s47 m60 sat60 m47 fun x t h => by
  cases h
  refine ⟨0, ?_⟩
  show g47 m60 0 x = some (decide (0 ≤ x ∧ x ≤ 100000))
  unfold g47
  simp only [m60, tst_some, tmOk]
  rw [beqd]
  by_cases h : x = 0
  · rw [dt h, cond_true, dt (by omega)]
  · rw [df h, cond_false]; exact congrArg some (decide_eq_decide.2 (by omega))
def m48 (x : Int × Int) : Option Bool := some (decide (x.1 = -1) || isId x.2 x.1)
theorem sat48 : Sat prog cxT 48 (c48 m48) := s48 m46 sat46 m48 fun x t h => by
  obtain ⟨a, b⟩ := x
  cases h
  refine ⟨0, ?_⟩
  show g48 m46 0 a b = some (decide (a = -1) || isId b a)
  unfold g48
  simp only [m46, tst_some]
  rw [beqd]
  by_cases h : a = -1
  · rw [dt h]; rfl
  · rw [df h]; rfl
def m49 (x : Int) : Option Bool := some (decide (0 ≤ x ∧ x ≤ 2))
theorem sat49 : Sat prog cxT 49 (c49 m49) := s49 m52 sat52 m49 fun x t h => by cases h; exact ⟨0, rfl⟩
def m53 (x : Nd) : Option Int := some (x.2.2.2.2.1.length : Int)
theorem sat53 : Sat prog cxT 53 (c53 m53) := s53 m99 sat99 m53 fun x t h => by cases h; exact ⟨0, rfl⟩
def vq (p : Int) (v : List Int) (j : Nat) : Bool := isId p (v.getD j 0) && decide ((if j = 0 then -1 else v.getD (j - 1) 0) < v.getD j 0)
theorem el54 (L : Nat) (x : Nd) (hv : x.2.2.2.2.2.2.2.1.length ≤ 1000000000) (K : Option Bool) : ∀ (n i : Nat) (ah : Int), ah = (if i = 0 then -1 else x.2.2.2.2.2.2.2.1.getD (i - 1) 0) → i ≤ x.2.2.2.2.2.2.2.1.length → x.2.2.2.2.2.2.2.1.length < n + i →
    l54_0 m46 L x n ah (i : Int) K = bif alw (vq x.2.1 x.2.2.2.2.2.2.2.1) (x.2.2.2.2.2.2.2.1.length - i) i then K else some false
  | 0, i, ah, _, h0, h => by omega
  | n + 1, i, ah, ha, h0, h => by
    unfold l54_0
    by_cases hi : i < x.2.2.2.2.2.2.2.1.length
    · simp (disch := omega) only [dt, wi, cond_true, Bool.and_self, Int.toNat_natCast]
      rw [show m46 (x.2.2.2.2.2.2.2.1.getD i 0, x.2.1) = some (isId x.2.1 (x.2.2.2.2.2.2.2.1.getD i 0)) from rfl, tst_some, show x.2.2.2.2.2.2.2.1.length - i = x.2.2.2.2.2.2.2.1.length - (i + 1) + 1 by omega]
      unfold alw
      rw [show vq x.2.1 x.2.2.2.2.2.2.2.1 i = (isId x.2.1 (x.2.2.2.2.2.2.2.1.getD i 0) && decide (ah < x.2.2.2.2.2.2.2.1.getD i 0)) by rw [ha]; rfl]
      cases hq : isId x.2.1 (x.2.2.2.2.2.2.2.1.getD i 0)
      · rfl
      · by_cases hg : x.2.2.2.2.2.2.2.1.getD i 0 ≤ ah
        · rw [dt hg, df (show ¬ ah < _ by omega)]; rfl
        · rw [df hg, dt (show ah < x.2.2.2.2.2.2.2.1.getD i 0 by omega), Bool.not_true, cond_false, cond_false, show (i : Int) + 1 = ((i + 1 : Nat) : Int) by omega, el54 L x hv K n (i + 1) _ (by rw [if_neg (by omega)]; rfl) (by omega) (by omega)]
          rfl
    · rw [df (by omega), cond_false, show x.2.2.2.2.2.2.2.1.length - i = 0 by omega]
      rfl
theorem isId_ok {p i : Int} (hp : 1 ≤ p ∧ p ≤ 5) : isId p i = idOk p i := by
  unfold isId idOk
  rw [wi (show -9223372036854775808 ≤ p - 1 by omega) (by omega)]
  exact decide_eq_decide.2 (by omega)
theorem vq_ok {p : Int} (hp : 1 ≤ p ∧ p ≤ 5) (v : List Int) : alw (vq p v) v.length 0 = (rises v && ids p v) := by
  rw [Bool.eq_iff_iff, Bool.and_eq_true]
  unfold rises ids
  rw [alw_iff, alw_iff, alw_iff]
  constructor
  · intro h
    refine ⟨fun j h1 h2 => ?_, fun j h1 h2 => ?_⟩
    · have := h j (by omega) (by omega)
      simp only [vq, Bool.and_eq_true, decide_eq_true_eq] at this ⊢
      have := this.2
      rw [if_neg (by omega)] at this
      exact this
    · have := h j (by omega) (by omega)
      simp only [vq, Bool.and_eq_true] at this
      rw [isId_ok hp] at this
      exact this.1
  · rintro ⟨h1, h2⟩ j h3 h4
    have k := h2 j h3 h4
    simp only [vq, Bool.and_eq_true, decide_eq_true_eq]
    rw [isId_ok hp]
    refine ⟨k, ?_⟩
    split
    · rw [← isId_ok hp] at k
      have := of_decide_eq_true k
      omega
    · have := h1 j (by omega) (by omega)
      simpa using this
def hv (x : Nd) : Bool := rises x.2.2.2.2.2.2.2.1 && (decide (x.2.2.2.2.2.2.2.1 = []) || x.2.2.2.2.2.1 == 1) && ids x.2.1 x.2.2.2.2.2.2.2.1
def m54 (x : Nd) : Option Bool := if nLen x mid ∧ 1 ≤ x.2.1 ∧ x.2.1 ≤ 5 then some (hv x) else none
theorem sat54 : Sat prog cxT 54 (c54 m54) := s54 m46 sat46 m54 fun x t h => by
  unfold m54 at h
  split at h
  · rename_i hc
    cases h
    obtain ⟨hl, hp⟩ := hc
    refine ⟨x.2.2.2.2.2.2.2.1.length + 1, ?_⟩
    show g54 m46 _ x = _
    unfold g54
    have e := el54 (x.2.2.2.2.2.2.2.1.length + 1) x hl.2.1 (some true) (x.2.2.2.2.2.2.2.1.length + 1) 0 (-1) rfl (by omega) (by omega)
    rw [Nat.sub_zero, vq_ok hp] at e
    simp only [Int.natCast_zero] at e
    rw [e, bned]
    unfold hv
    rw [beqd]
    have eb : ∀ b : Bool, (bif b then some true else some false) = some b := fun b => by cases b <;> rfl
    rw [eb]
    by_cases hr : x.2.2.2.2.2.1 = 1
    · rw [dt hr, Bool.not_true, cond_false, Bool.or_true, Bool.and_true]
    · rw [df hr, Bool.not_false, cond_true, Bool.or_false]
      by_cases hn : x.2.2.2.2.2.2.2.1 = []
      · rw [dt hn, hn]; simp
      · rw [df hn]
        have : x.2.2.2.2.2.2.2.1.length ≠ 0 := fun h => hn (List.eq_nil_of_length_eq_zero h)
        rw [dt (show (x.2.2.2.2.2.2.2.1.length : Int) > 0 by omega), cond_true, Bool.and_false, Bool.false_and]
  · cases h
def hr (x : Nd) : Bool := decide ((x.2.2.2.2.2.2.2.2.1.length : Int) = if x.2.2.2.2.2.1 = 2 then x.2.1 else 0) && decide ((x.2.2.2.2.2.2.2.2.2.length : Int) = if x.2.2.2.2.2.1 = 2 then x.2.1 else 0)
theorem lists_hv (x : Nd) : lists x = (hv x && hr x) := rfl
def m55 (x : Nd) : Option Bool := some (hr x)
theorem sat55 : Sat prog cxT 55 (c55 m55) := s55 m55 fun x t h => by
  cases h
  refine ⟨0, ?_⟩
  show g55 0 x = some (hr x)
  unfold g55 hr
  rw [bned, beqd, beqd, beqd, beqd]
  by_cases h2 : x.2.2.2.2.2.1 = 2
  · rw [dt h2, if_pos h2, Bool.not_true, cond_false]
    cases decide ((x.2.2.2.2.2.2.2.2.1.length : Int) = x.2.1) <;> rfl
  · rw [df h2, if_neg h2, Bool.not_false, cond_true]
    cases decide ((x.2.2.2.2.2.2.2.2.1.length : Int) = 0) <;> rfl
def btw (l h : Int) (a : List Int) (i : Nat) : Bool := decide (l ≤ a.getD i 0 ∧ a.getD i 0 ≤ h)
theorem el56 (L : Nat) (a : List Int) (l h : Int) (ha : a.length ≤ 1000000000) (K : Option Bool) : ∀ (n i : Nat), i ≤ a.length → a.length < n + i →
    l56_0 m52 L a l h n (i : Int) K = bif alw (btw l h a) (a.length - i) i then K else some false
  | 0, i, h0, h => by omega
  | n + 1, i, h0, hn => by
    unfold l56_0
    by_cases hi : i < a.length
    · simp (disch := omega) only [dt, wi, cond_true, Bool.and_self, Int.toNat_natCast]
      rw [show m52 (a.getD i 0, l, h) = some (btw l h a i) from rfl, tst_some, show a.length - i = a.length - (i + 1) + 1 by omega]
      unfold alw
      cases btw l h a i
      · rfl
      · rw [Bool.not_true, cond_false, show (i : Int) + 1 = ((i + 1 : Nat) : Int) by omega, el56 L a l h ha K n (i + 1) (by omega) (by omega), Bool.true_and]
    · rw [df (by omega), cond_false, show a.length - i = 0 by omega]
      rfl
def m56 (x : List Int × Int × Int) : Option Bool := if x.1.length ≤ mid then some (alw (btw x.2.1 x.2.2 x.1) x.1.length 0) else none
theorem sat56 : Sat prog cxT 56 (c56 m56) := s56 m52 sat52 m56 fun x t h => by
  obtain ⟨a, l, u⟩ := x
  unfold m56 at h
  split at h
  · rename_i hm
    cases h
    refine ⟨a.length + 1, ?_⟩
    have e := el56 (a.length + 1) a l u hm (some true) (a.length + 1) 0 (by omega) (by omega)
    simp only [Int.natCast_zero, Nat.sub_zero] at e
    show g56 m52 _ a l u = _
    unfold g56
    rw [e]
    cases alw (btw l u a) a.length 0 <;> rfl
  · cases h
theorem alw_and {p q : Nat → Bool} : ∀ (n i : Nat), alw (fun j => p j && q j) n i = (alw p n i && alw q n i)
  | 0, i => rfl
  | n + 1, i => by
    show ((p i && q i) && alw _ n (i + 1)) = ((p i && alw p n (i + 1)) && (q i && alw q n (i + 1)))
    rw [alw_and n (i + 1)]
    cases p i <;> cases q i <;> simp
theorem nm_ok {x : Nd} (h : x.2.2.2.2.2.2.2.2.2.length = x.2.2.2.2.2.2.2.2.1.length) : alw (nmOkN x) x.2.2.2.2.2.2.2.2.1.length 0 = (alw (btw 1 ((x.2.2.2.2.1.length : Int) + 1) x.2.2.2.2.2.2.2.2.1) x.2.2.2.2.2.2.2.2.1.length 0 && alw (btw 0 (x.2.2.2.2.1.length : Int) x.2.2.2.2.2.2.2.2.2) x.2.2.2.2.2.2.2.2.2.length 0) := by
  rw [h]
  exact alw_and _ _
theorem m50_eq (a : List En) : mLog a = some (logF a) := rfl
theorem sat14 : Sat prog cxT 14 (c14 m42) := s14 m45 m46 m47 m48 m49 mLog mLast m53 m52 m54 m55 m56 sat45 sat46 sat47 sat48 sat49 sat50 sat51 sat53 sat52 sat54 sat55 sat56 m42 fun x t h => by
  obtain ⟨a, b, c, d, lg, e, f, vt, nx, mt⟩ := x
  unfold m42 at h
  split at h
  · rename_i hm
    cases h
    have hl := hm
    obtain ⟨h1, h2, h3, h4⟩ := hm
    refine ⟨0, ?_⟩
    show g14 m45 m46 m47 m48 m49 mLog mLast m53 m52 m54 m55 m56 0 a b c d lg e f vt nx mt = _
    unfold g14 ndF
    simp only [m45, m46, m47, m48, m49, m53, m52, m55, tst_some, m50_eq]
    by_cases hp : 1 ≤ b ∧ b ≤ 5
    case neg => rw [df hp]; rfl
    rw [dt hp]
    simp only [Bool.not_true, cond_false]
    rw [isId_ok hp]
    cases hi : idOk b a
    case false => rfl
    simp only [Bool.not_true, cond_false]
    cases ht : decide (0 ≤ c ∧ c ≤ 100000)
    case false => rfl
    simp only [Bool.not_true, cond_false]
    rw [show (decide (d = -1) || isId b d) = decide (-1 ≤ d ∧ d ≤ IntKind.wrap .i64 (b - 1)) by
      rw [wi (show -9223372036854775808 ≤ b - 1 by omega) (by omega)]
      unfold isId
      rw [← Bool.decide_or]
      exact decide_eq_decide.2 (by omega)]
    cases hd : decide (-1 ≤ d ∧ d ≤ IntKind.wrap .i64 (b - 1))
    case false => rfl
    simp only [Bool.not_true, cond_false]
    cases hro : decide (0 ≤ e ∧ e ≤ 2)
    case false => rfl
    simp only [Bool.not_true, cond_false]
    have bq : ∀ (b : Bool) (u v : Int), (bif b then some u else some v) = some (bif b then u else v) := fun b u v => by cases b <;> rfl
    cases hlf : logF lg != 0
    case true => rfl
    simp only [cond_false]
    rw [show mLast lg = some (lastE lg) from if_pos h1]
    simp only [tst_some]
    cases htm : decide ((lastE lg).1 > c)
    case true => rfl
    simp only [cond_false]
    cases hcm : decide (0 ≤ f ∧ f ≤ (lg.length : Int))
    case false => rfl
    simp only [Bool.not_true, cond_false]
    rw [show m54 (a, b, c, d, lg, e, f, vt, nx, mt) = some (hv (a, b, c, d, lg, e, f, vt, nx, mt)) from if_pos ⟨hl, hp⟩]
    simp only [tst_some]
    rw [lists_hv]
    cases hhv : hv (a, b, c, d, lg, e, f, vt, nx, mt)
    case false => rfl
    simp only [Bool.not_true, cond_false, Bool.true_and]
    cases hhr : hr (a, b, c, d, lg, e, f, vt, nx, mt)
    case false => rfl
    simp only [Bool.not_true, cond_false]
    have hlen := lists_len (x := (a, b, c, d, lg, e, f, vt, nx, mt)) (by rw [lists_hv, hhv, hhr]; rfl)
    rw [nm_ok hlen]
    simp only [mid] at h1
    rw [wi (show -9223372036854775808 ≤ (lg.length : Int) + 1 by omega) (by omega)]
    rw [show m56 (nx, 1, (lg.length : Int) + 1) = some (alw (btw 1 ((lg.length : Int) + 1) nx) nx.length 0) from if_pos h3,
      show m56 (mt, 0, (lg.length : Int)) = some (alw (btw 0 (lg.length : Int) mt) mt.length 0) from if_pos h4]
    simp only [tst_some]
    cases alw (btw 1 ((lg.length : Int) + 1) nx) nx.length 0
    case false => rfl
    simp only [Bool.not_true, cond_false, Bool.true_and]
    cases alw (btw 0 (lg.length : Int) mt) mt.length 0
    case false => rfl
    simp only [Bool.not_true, cond_false, cond_true]
    unfold endF
    simp only [bq]
  · cases h
theorem bqi (b : Bool) (u v : Int) : (bif b then some u else some v) = some (bif b then u else v) := by cases b <;> rfl
theorem nd_peers {x : Nd} (h : ndF x = 0) : 1 ≤ x.2.1 ∧ x.2.1 ≤ 5 := by
  unfold ndF at h
  by_cases hp : 1 ≤ x.2.1 ∧ x.2.1 ≤ 5
  · exact hp
  · rw [df hp] at h; cases h
end Go.Proofs.Tryz

set_option maxHeartbeats 0
set_option linter.unusedVariables false
set_option linter.unusedSimpArgs false
namespace Go.Proofs.Tryz
open Go Go.VM Go.RowKit
def m93 (a : List En) : Option (List En) := if a.length ≤ mid then some a else none
theorem sat93 : Sat prog cxT 93 (c93 m93) := s93 m93 fun a t h => by
  unfold m93 at h
  split at h
  · rename_i hm
    cases h
    have hm : a.length ≤ 1000000000 := hm
    refine ⟨0, ?_⟩
    unfold g93
    rw [dt (show ([] : List E9).length + a.length ≤ 1000000000 by simpa using hm)]
    rfl
  · cases h
theorem sat65 : Sat prog cxT 65 (c65 m13) := s65 m93 sat93 m13 fun x t h => by
  obtain ⟨a, b, c, d, lg, e, f, vt, nx, mt⟩ := x
  unfold m13 at h
  split at h
  · rename_i hm
    cases h
    obtain ⟨h1, h2, h3, h4⟩ := hm
    simp only [mid] at h1 h2 h3 h4
    refine ⟨0, ?_⟩
    show g65 m93 0 a b c d lg e f vt nx mt = _
    unfold g65
    rw [show m93 lg = some lg from if_pos h1, tst_some, dt (show ([] : List Int).length + vt.length ≤ 1000000000 by simpa using h2), dt (show ([] : List Int).length + nx.length ≤ 1000000000 by simpa using h3), dt (show ([] : List Int).length + mt.length ≤ 1000000000 by simpa using h4)]
    rfl
  · cases h
theorem sat69 : Sat prog cxT 69 (c69 m13) := s69 m13 fun x t h => by
  obtain ⟨a, b, c, d, lg, e, f, vt, nx, mt⟩ := x
  unfold m13 at h
  split at h
  · rename_i hm
    cases h
    obtain ⟨h1, h2, h3, h4⟩ := hm
    simp only [mid] at h1 h2 h3 h4
    refine ⟨0, ?_⟩
    show g69 0 a b c d lg e f vt nx mt = _
    unfold g69
    rw [dt h1, dt h2, dt h3, dt h4]
    rfl
  · cases h
def crR (x : Nd) : Nr := bif ndF x != 0 then (ndF x, 0, 0, 0, 0, [], 0, 0, [], [], [], []) else (0, x.1, x.2.1, x.2.2.1, x.2.2.2.1, x.2.2.2.2.1, 0, 0, [], [], [], [])
def m35 (x : Nd) : Option Nr := if nLen x mid then some (crR x) else none
theorem nr_law (r : Nr) (hr : nrOk r) : m23 (r, r) = some true ∧ m25 (r, 1) = some (k4 (ndR r) 1 + sumW wM (sdR r), mkNr r.1 (mkN (ndR r) 1) (mkV mkM wM (sdR r) (k4 (ndR r) 1))) ∧
    m26 (mkNr r.1 (mkN (ndR r) 1) (mkV mkM wM (sdR r) (k4 (ndR r) 1)), 1) = some (k4 (ndR r) 1 + sumW wM (sdR r)) ∧ 0 ≤ k4 (ndR r) 1 + sumW wM (sdR r) := by
  have hk := k4_pos (n := ndR r) (v := 1) (by omega)
  have hs := sumW_nonneg (w := wM) (l := sdR r) fun y _ => wM_pos y
  refine ⟨(if_pos hr).trans (by rw [dt rfl]), if_pos ⟨hr, rfl⟩, (if_pos ⟨hdR_mk hr, rfl⟩).trans ?_, by omega⟩
  show some (k4 (mkN (ndR r) 1) 1 + sumW wM (mkV mkM wM (sdR r) (k4 (ndR r) 1))) = _
  rw [k4_mk, mkV_sum wM_mk]
end Go.Proofs.Tryz

set_option maxHeartbeats 0
set_option linter.unusedVariables false
set_option linter.unusedSimpArgs false
namespace Go.Proofs.Tryz
open Go Go.VM Go.RowKit
def geI (i m : Int) : Bool := decide (m ≥ i)
def cntM (mt : List Int) (i : Int) : Int := (mt.countP (geI i) : Int)
theorem cnt_le (mt : List Int) (i : Int) : cntM mt i ≤ (mt.length : Int) := by
  unfold cntM
  have := List.countP_le_length (l := mt) (p := geI i)
  omega
theorem cnt_nn (mt : List Int) (i : Int) : 0 ≤ cntM mt i := by unfold cntM; omega
theorem cnt_drop (mt : List Int) (i : Int) (j : Nat) (hj : j < mt.length) : cntM (mt.drop j) i = (if mt.getD j 0 ≥ i then 1 else 0) + cntM (mt.drop (j + 1)) i := by
  unfold cntM
  rw [List.drop_eq_getElem_cons hj, List.countP_cons]
  have : mt.getD j 0 = mt[j] := by simp [List.getD, hj]
  rw [this]
  unfold geI
  by_cases h : mt[j] ≥ i
  · rw [if_pos h, if_pos (dt h)]; omega
  · rw [if_neg h, if_neg (by rw [df h]; decide)]; omega
def m67 (x : Nd × Int) : Option Bool := some (decide (IntKind.wrap .i64 (2 * x.2) > x.1.2.1))
theorem sat67 : Sat prog cxT 67 (c67 m67) := s67 m67 fun x t h => by cases h; exact ⟨0, rfl⟩
def m106 (x : Int × Int) : Option Bool := some (decide (IntKind.wrap .i64 (2 * x.1) > x.2))
theorem sat106 : Sat prog cxT 106 (c106 m106) := s106 m106 fun x t h => by cases h; exact ⟨0, rfl⟩
theorem el84_2 (m : Nd × Int → Option Bool) (L : Nat) (a0 a1 a2 a3 a4 : Int) (a5 : List En) (a6 a7 : Int) (a8 a9 a10 : List Int) (a11 : List Ml) (u0 u1 u2 u3 u4 : Int) (u5 : List En) (u6 u7 : Int) (u8 u9 u10 : List Int) (u11 : List Ml) (ix : Int)
    (x0 x1 x2 x3 x4 : Int) (x5 : List En) (x6 x7 : Int) (x8 x9 x10 : List Int) (x11 : List Ml) (k : Int → Int → Int → Int → Int → List En → Int → Int → List Int → List Int → List Int → List Ml → Int → Option Nr) (hm : x10.length ≤ 1000000000) : ∀ (n j : Nat) (c : Int), j ≤ x10.length → x10.length < n + j → 0 ≤ c → c ≤ (j : Int) →
    l84_2 m L a0 a1 a2 a3 a4 a5 a6 a7 a8 a9 a10 a11 u0 u1 u2 u3 u4 u5 u6 u7 u8 u9 u10 u11 ix n x0 x1 x2 x3 x4 x5 x6 x7 x8 x9 x10 x11 c (j : Int) k = k x0 x1 x2 x3 x4 x5 x6 x7 x8 x9 x10 x11 (c + cntM (x10.drop j) ix)
  | 0, j, c, h0, h, _, _ => by omega
  | n + 1, j, c, h0, h, hc, hc2 => by
    unfold l84_2
    by_cases hj : j < x10.length
    · simp (disch := omega) only [dt, wi, cond_true, Bool.and_self, Int.toNat_natCast]
      rw [cnt_drop x10 ix j hj, show (j : Int) + 1 = ((j + 1 : Nat) : Int) by omega]
      by_cases hg : x10.getD j 0 ≥ ix
      · rw [dt hg, cond_true, if_pos hg, el84_2 m L a0 a1 a2 a3 a4 a5 a6 a7 a8 a9 a10 a11 u0 u1 u2 u3 u4 u5 u6 u7 u8 u9 u10 u11 ix x0 x1 x2 x3 x4 x5 x6 x7 x8 x9 x10 x11 k hm n (j + 1) (c + 1) (by omega) (by omega) (by omega) (by omega), show c + 1 + cntM (x10.drop (j + 1)) ix = c + (1 + cntM (x10.drop (j + 1)) ix) by omega]
      · rw [df hg, cond_false, if_neg hg, el84_2 m L a0 a1 a2 a3 a4 a5 a6 a7 a8 a9 a10 a11 u0 u1 u2 u3 u4 u5 u6 u7 u8 u9 u10 u11 ix x0 x1 x2 x3 x4 x5 x6 x7 x8 x9 x10 x11 k hm n (j + 1) c (by omega) (by omega) (by omega) (by omega), show c + cntM (x10.drop (j + 1)) ix = c + (0 + cntM (x10.drop (j + 1)) ix) by omega]
    · rw [df (by omega), cond_false, show j = x10.length by omega, List.drop_length]
      show _ = k x0 x1 x2 x3 x4 x5 x6 x7 x8 x9 x10 x11 (c + 0)
      rw [Int.add_zero]
def okA (p t : Int) (lg : List En) (mt : List Int) (i : Nat) : Bool := decide (2 * cntM mt (i : Int) > p) && (lg.getD (i - 1) dEn).1 == t
def agI (p t cm : Int) (lg : List En) (mt : List Int) : Nat → Int
  | 0 => cm
  | i + 1 => bif decide (((i + 1 : Nat) : Int) > cm) then (bif okA p t lg mt (i + 1) then ((i + 1 : Nat) : Int) else agI p t cm lg mt i) else cm
theorem el84 (L : Nat) (a0 a1 a2 a3 a4 : Int) (a5 : List En) (a6 a7 : Int) (a8 a9 a10 : List Int) (a11 : List Ml) (x0 x1 x2 x3 x4 : Int) (x5 : List En) (x6 x7 : Int) (x8 x9 x10 : List Int) (x11 : List Ml) (hl : x5.length ≤ 1000000000) (hm : x10.length ≤ 1000000000) (h7 : 0 ≤ x7) (hL : x10.length < L) : ∀ (i n : Nat), i ≤ x5.length → i < n →
    l84_0 m67 L a0 a1 a2 a3 a4 a5 a6 a7 a8 a9 a10 a11 n x0 x1 x2 x3 x4 x5 x6 x7 x8 x9 x10 x11 (i : Int) (fun w0 w1 w2 w3 w4 w5 w6 w7 w8 w9 w10 w11 => some (w0, w1, w2, w3, w4, w5, w6, w7, w8, w9, w10, w11)) =
      some (x0, x1, x2, x3, x4, x5, x6, agI x2 x3 x7 x5 x10 i, x8, x9, x10, x11)
  | 0, n + 1, h1, h2 => by
    unfold l84_0
    rw [df (by omega), cond_false]
    rfl
  | i + 1, n + 1, h1, h2 => by
    unfold l84_0 agI
    by_cases hc : ((i + 1 : Nat) : Int) > x7
    · rw [dt hc, cond_true, cond_true]
      have e := el84_2 m67 L a0 a1 a2 a3 a4 a5 a6 a7 a8 a9 a10 a11 x0 x1 x2 x3 x4 x5 x6 x7 x8 x9 x10 x11 ((i + 1 : Nat) : Int) x0 x1 x2 x3 x4 x5 x6 x7 x8 x9 x10 x11
      refine (e _ hm L 0 0 (by omega) (by omega) (by omega) (by omega)).trans ?_
      rw [List.drop_zero, Int.zero_add]
      have c1 := cnt_le x10 ((i + 1 : Nat) : Int)
      have c2 := cnt_nn x10 ((i + 1 : Nat) : Int)
      simp only [m67, tst_some]
      rw [wi (show -9223372036854775808 ≤ 2 * cntM x10 ((i + 1 : Nat) : Int) by omega) (by omega), wi (show -9223372036854775808 ≤ ((i + 1 : Nat) : Int) - 1 by omega) (by omega), show ((i + 1 : Nat) : Int) - 1 = (i : Int) by omega, dt (show (0 : Int) ≤ (i : Int) by omega), dt (show (i : Int) < (x5.length : Int) by omega)]
      simp only [Bool.and_self, cond_true, Int.toNat_natCast]
      rw [el84 L a0 a1 a2 a3 a4 a5 a6 a7 a8 a9 a10 a11 x0 x1 x2 x3 x4 x5 x6 x7 x8 x9 x10 x11 hl hm h7 hL i n (by omega) (by omega)]
      unfold okA
      rw [show i + 1 - 1 = i from rfl]
      cases decide (2 * cntM x10 ((i + 1 : Nat) : Int) > x2)
      · rfl
      · show (bif ((x5.getD i dEn).1 == x3) then _ else _) = _
        cases (x5.getD i dEn).1 == x3 <;> rfl
    · rw [df hc, cond_false, cond_false]
def agN (x : Nd) : Nd := (x.1, x.2.1, x.2.2.1, x.2.2.2.1, x.2.2.2.2.1, x.2.2.2.2.2.1, agI x.2.1 x.2.2.1 x.2.2.2.2.2.2.1 x.2.2.2.2.1 x.2.2.2.2.2.2.2.2.2 x.2.2.2.2.1.length, x.2.2.2.2.2.2.2.1, x.2.2.2.2.2.2.2.2.1, x.2.2.2.2.2.2.2.2.2)
def agOk (x : Nd) : Prop := nLen x mid ∧ 0 ≤ x.2.2.2.2.2.2.1
instance (x : Nd) : Decidable (agOk x) := by unfold agOk; infer_instance
def m84 (r : Nr) : Option Nr := if agOk (ndR r) then some (mkNr r.1 (agN (ndR r)) (sdR r)) else none
theorem sat84 : SatQ prog cxT 84 (c84 m84).nres (c84 m84).F (c84 m84).bx := s84 m67 sat67 m84 fun x t h => by
  obtain ⟨x0, x1, x2, x3, x4, x5, x6, x7, x8, x9, x10, x11⟩ := x
  unfold m84 at h
  split at h
  · rename_i hc
    cases h
    obtain ⟨⟨h1, h2, h3, h4⟩, h7⟩ := hc
    have h1 : x5.length ≤ 1000000000 := h1
    have h4 : x10.length ≤ 1000000000 := h4
    have h7 : 0 ≤ x7 := h7
    refine ⟨x5.length + x10.length + 1, ?_⟩
    show g84 m67 (x5.length + x10.length + 1) x0 x1 x2 x3 x4 x5 x6 x7 x8 x9 x10 x11 = _
    unfold g84
    exact el84 _ x0 x1 x2 x3 x4 x5 x6 x7 x8 x9 x10 x11 x0 x1 x2 x3 x4 x5 x6 x7 x8 x9 x10 x11 h1 h4 h7 (by omega) x5.length _ (Nat.le_refl _) (by omega)
  · cases h
def m112 (x : Nd × Int) : Option Int := if x.1.2.2.2.2.1.length ≤ mid then some (if 1 ≤ x.2 ∧ x.2 ≤ (x.1.2.2.2.2.1.length : Int) then (x.1.2.2.2.2.1.getD (x.2 - 1).toNat dEn).1 else 0) else none
theorem sat112 : Sat prog cxT 112 (c112 m112) := s112 m98 sat98 m112 fun x t h => by
  obtain ⟨x, i⟩ := x
  unfold m112 at h
  split at h
  · rename_i hm
    cases h
    refine ⟨0, ?_⟩
    show g112 m98 0 x i = _
    unfold g112
    rw [show m98 (x.2.2.2.2.1, i) = some _ from if_pos hm, tst_some]
    simp only
    split <;> rfl
  · cases h
theorem el119 (L : Nat) (x : Nd) (ix : Int) (hm : x.2.2.2.2.2.2.2.2.2.length ≤ 1000000000) (k : Int → Option Int) : ∀ (n j : Nat) (c : Int), j ≤ x.2.2.2.2.2.2.2.2.2.length → x.2.2.2.2.2.2.2.2.2.length < n + j → 0 ≤ c → c ≤ (j : Int) →
    l119_0 L x ix n c (j : Int) k = k (c + cntM (x.2.2.2.2.2.2.2.2.2.drop j) ix)
  | 0, j, c, h0, h, _, _ => by omega
  | n + 1, j, c, h0, h, hc, hc2 => by
    unfold l119_0
    by_cases hj : j < x.2.2.2.2.2.2.2.2.2.length
    · simp (disch := omega) only [dt, wi, cond_true, Bool.and_self, Int.toNat_natCast]
      rw [cnt_drop _ ix j hj, show (j : Int) + 1 = ((j + 1 : Nat) : Int) by omega]
      by_cases hg : x.2.2.2.2.2.2.2.2.2.getD j 0 ≥ ix
      · rw [dt hg, cond_true, if_pos hg, el119 L x ix hm k n (j + 1) (c + 1) (by omega) (by omega) (by omega) (by omega), Int.add_assoc]
      · rw [df hg, cond_false, if_neg hg, el119 L x ix hm k n (j + 1) c (by omega) (by omega) (by omega) (by omega), Int.zero_add]
    · rw [df (by omega), cond_false, show j = x.2.2.2.2.2.2.2.2.2.length by omega, List.drop_length]
      show _ = k (c + 0)
      rw [Int.add_zero]
def m119 (x : Nd × Int) : Option Int := if x.1.2.2.2.2.2.2.2.2.2.length ≤ mid then some (cntM x.1.2.2.2.2.2.2.2.2.2 x.2) else none
theorem sat119 : Sat prog cxT 119 (c119 m119) := s119 m119 fun x t h => by
  obtain ⟨x, i⟩ := x
  unfold m119 at h
  split at h
  · rename_i hm
    cases h
    refine ⟨x.2.2.2.2.2.2.2.2.2.length + 1, ?_⟩
    show g119 _ x i = _
    unfold g119
    have e := el119 (x.2.2.2.2.2.2.2.2.2.length + 1) x i hm (fun w => some w) (x.2.2.2.2.2.2.2.2.2.length + 1) 0 0 (by omega) (by omega) (by omega) (by omega)
    rw [List.drop_zero, Int.zero_add] at e
    exact e
  · cases h
theorem el88 (L : Nat) (a0 a1 a2 a3 : Int) (a4 : List En) (a5 a6 : Int) (a7 a8 a9 : List Int) (x0 x1 x2 x3 : Int) (x4 : List En) (x5 x6 : Int) (x7 x8 x9 : List Int) (hl : x4.length ≤ 1000000000) (hm : x9.length ≤ 1000000000) (h7 : 0 ≤ x6) : ∀ (i n : Nat), i ≤ x4.length → i < n →
    l88_0 m53 m112 m119 m106 L a0 a1 a2 a3 a4 a5 a6 a7 a8 a9 n x0 x1 x2 x3 x4 x5 x6 x7 x8 x9 (i : Int) (fun w0 w1 w2 w3 w4 w5 w6 w7 w8 w9 => some (w0, w1, w2, w3, w4, w5, w6, w7, w8, w9)) =
      some (x0, x1, x2, x3, x4, x5, agI x1 x2 x6 x4 x9 i, x7, x8, x9)
  | 0, n + 1, h1, h2 => by
    unfold l88_0
    rw [df (by omega), cond_false]
    rfl
  | i + 1, n + 1, h1, h2 => by
    unfold l88_0 agI
    by_cases hc : ((i + 1 : Nat) : Int) > x6
    · rw [dt hc, cond_true, cond_true]
      have c1 := cnt_le x9 ((i + 1 : Nat) : Int)
      have c2 := cnt_nn x9 ((i + 1 : Nat) : Int)
      rw [show m112 ((x0, x1, x2, x3, x4, x5, x6, x7, x8, x9), ((i + 1 : Nat) : Int)) = some (x4.getD i dEn).1 from (if_pos hl).trans (by rw [if_pos (by simp only; omega)]; simp only; rw [show (((i + 1 : Nat) : Int) - 1).toNat = i by omega]),
        show m119 ((x0, x1, x2, x3, x4, x5, x6, x7, x8, x9), ((i + 1 : Nat) : Int)) = some (cntM x9 ((i + 1 : Nat) : Int)) from if_pos hm]
      simp only [m106, tst_some]
      rw [wi (show -9223372036854775808 ≤ 2 * cntM x9 ((i + 1 : Nat) : Int) by omega) (by omega), wi (show -9223372036854775808 ≤ ((i + 1 : Nat) : Int) - 1 by omega) (by omega), show ((i + 1 : Nat) : Int) - 1 = (i : Int) by omega]
      rw [el88 L a0 a1 a2 a3 a4 a5 a6 a7 a8 a9 x0 x1 x2 x3 x4 x5 x6 x7 x8 x9 hl hm h7 i n (by omega) (by omega)]
      unfold okA
      rw [show i + 1 - 1 = i from rfl]
      show (bif ((x4.getD i dEn).1 == x2) then _ else _) = _
      cases (x4.getD i dEn).1 == x2
      · rw [Bool.and_false]; rfl
      · rw [Bool.and_true]
        cases decide (2 * cntM x9 ((i + 1 : Nat) : Int) > x1) <;> rfl
    · rw [df hc, cond_false, cond_false]
def m88 (x : Nd) : Option Nd := if agOk x then some (agN x) else none
theorem sat88 : SatQ prog cxT 88 (c88 m88).nres (c88 m88).F (c88 m88).bx := s88 m53 m112 m119 m106 sat53 sat112 sat119 sat106 m88 fun x t h => by
  obtain ⟨x0, x1, x2, x3, x4, x5, x6, x7, x8, x9⟩ := x
  unfold m88 at h
  split at h
  · rename_i hc
    cases h
    obtain ⟨⟨h1, h2, h3, h4⟩, h7⟩ := hc
    have h1 : x4.length ≤ 1000000000 := h1
    have h4 : x9.length ≤ 1000000000 := h4
    have h7 : 0 ≤ x6 := h7
    refine ⟨x4.length + 1, ?_⟩
    show g88 m53 m112 m119 m106 (x4.length + 1) x0 x1 x2 x3 x4 x5 x6 x7 x8 x9 = _
    unfold g88
    rw [show m53 (x0, x1, x2, x3, x4, x5, x6, x7, x8, x9) = some (x4.length : Int) from rfl, tst_some]
    exact el88 _ x0 x1 x2 x3 x4 x5 x6 x7 x8 x9 x0 x1 x2 x3 x4 x5 x6 x7 x8 x9 h1 h4 h7 x4.length _ (Nat.le_refl _) (by omega)
  · cases h
def stM (x : Nd) (i ix : Int) : Nd := (x.1, x.2.1, x.2.2.1, x.2.2.2.1, x.2.2.2.2.1, x.2.2.2.2.2.1, x.2.2.2.2.2.2.1, x.2.2.2.2.2.2.2.1, x.2.2.2.2.2.2.2.2.1.set i.toNat (ix + 1), x.2.2.2.2.2.2.2.2.2.set i.toNat ix)
def m87 (x : Nd × Int × Int) : Option Nd := if 0 ≤ x.2.1 ∧ x.2.1 < (x.1.2.2.2.2.2.2.2.2.1.length : Int) ∧ x.2.1 < (x.1.2.2.2.2.2.2.2.2.2.length : Int) ∧ 0 ≤ x.2.2 ∧ x.2.2 ≤ 1000000000000 then some (stM x.1 x.2.1 x.2.2) else none
theorem sat87 : SatQ prog cxT 87 (c87 m87).nres (c87 m87).F (c87 m87).bx := s87 m87 fun x t h => by
  obtain ⟨⟨x0, x1, x2, x3, x4, x5, x6, x7, x8, x9⟩, i, ix⟩ := x
  unfold m87 at h
  split at h
  · rename_i hc
    cases h
    obtain ⟨h1, h2, h3, h4, h5⟩ := hc
    simp only at h1 h2 h3 h4 h5
    refine ⟨0, ?_⟩
    show g87 0 x0 x1 x2 x3 x4 x5 x6 x7 x8 x9 i ix = _
    unfold g87
    rw [dt h1, dt h2, dt h3, wi (show -9223372036854775808 ≤ ix + 1 by omega) (by omega)]
    rfl
  · cases h
def badR (c : Int) : Nr := (c, 0, 0, 0, 0, [], 0, 0, [], [], [], [])
def moreN (x : Nd) (e : En) : Nd := agN (stM (x.1, x.2.1, x.2.2.1, x.2.2.2.1, x.2.2.2.2.1 ++ [e], x.2.2.2.2.2.1, x.2.2.2.2.2.2.1, x.2.2.2.2.2.2.2.1, x.2.2.2.2.2.2.2.2.1, x.2.2.2.2.2.2.2.2.2) x.1 ((x.2.2.2.2.1 ++ [e]).length : Int))
def asR (x : Nd) (e : En) : Nr := bif ndF x != 0 then badR (ndF x) else bif x.2.2.2.2.2.1 != 2 then badR 10 else bif enF e != 0 then badR (enF e) else bif e.1 != x.2.2.1 then badR 1 else bif decide ((x.2.2.2.2.1.length : Int) ≥ 40) then badR 2 else mkNr 0 (moreN x e) []
theorem nd_log {x : Nd} (h : ndF x = 0) : logF x.2.2.2.2.1 = 0 := by
  unfold ndF at h
  cases h1 : decide (1 ≤ x.2.1 ∧ x.2.1 ≤ 5) <;> rw [h1] at h
  · cases h
  cases h2 : idOk x.2.1 x.1 <;> rw [h2] at h
  · cases h
  cases h3 : decide (0 ≤ x.2.2.1 ∧ x.2.2.1 ≤ 100000) <;> rw [h3] at h
  · cases h
  cases h4 : decide (-1 ≤ x.2.2.2.1 ∧ x.2.2.2.1 ≤ IntKind.wrap .i64 (x.2.1 - 1)) <;> rw [h4] at h
  · cases h
  cases h5 : decide (0 ≤ x.2.2.2.2.2.1 ∧ x.2.2.2.2.2.1 ≤ 2) <;> rw [h5] at h
  · cases h
  by_cases h6 : logF x.2.2.2.2.1 = 0
  · exact h6
  · rw [show (logF x.2.2.2.2.1 != 0) = true by simpa using h6] at h
    exact h
theorem log40 {a : List En} (h : logF a = 0) : a.length ≤ 40 := by
  unfold logF at h
  split at h
  · cases h
  · omega
theorem nd_rest {x : Nd} (h : ndF x = 0) : idOk x.2.1 x.1 = true ∧ (0 ≤ x.2.2.2.2.2.2.1 ∧ x.2.2.2.2.2.2.1 ≤ (x.2.2.2.2.1.length : Int)) ∧ lists x = true := by
  have hl := nd_log h
  unfold ndF at h
  cases h1 : decide (1 ≤ x.2.1 ∧ x.2.1 ≤ 5) <;> rw [h1] at h
  · cases h
  cases h2 : idOk x.2.1 x.1 <;> rw [h2] at h
  · cases h
  cases h3 : decide (0 ≤ x.2.2.1 ∧ x.2.2.1 ≤ 100000) <;> rw [h3] at h
  · cases h
  cases h4 : decide (-1 ≤ x.2.2.2.1 ∧ x.2.2.2.1 ≤ IntKind.wrap .i64 (x.2.1 - 1)) <;> rw [h4] at h
  · cases h
  cases h5 : decide (0 ≤ x.2.2.2.2.2.1 ∧ x.2.2.2.2.2.1 ≤ 2) <;> rw [h5] at h
  · cases h
  rw [hl] at h
  cases h6 : decide ((lastE x.2.2.2.2.1).1 > x.2.2.1) <;> rw [h6] at h
  · cases h7 : decide (0 ≤ x.2.2.2.2.2.2.1 ∧ x.2.2.2.2.2.2.1 ≤ (x.2.2.2.2.1.length : Int)) <;> rw [h7] at h
    · cases h
    cases h8 : lists x <;> rw [h8] at h
    · cases h
    exact ⟨rfl, of_decide_eq_true h7, rfl⟩
  · cases h
theorem lead_len {x : Nd} (h : ndF x = 0) (hr : x.2.2.2.2.2.1 = 2) : (x.2.2.2.2.2.2.2.2.1.length : Int) = x.2.1 ∧ (x.2.2.2.2.2.2.2.2.2.length : Int) = x.2.1 := by
  have := (nd_rest h).2.2
  unfold lists at this
  simp only [Bool.and_eq_true, decide_eq_true_eq] at this
  obtain ⟨_, h1, h2⟩ := this
  rw [if_pos hr] at h1 h2
  exact ⟨h1, h2⟩
theorem nd_id {x : Nd} (h : ndF x = 0) : 0 ≤ x.1 ∧ x.1 < x.2.1 := by
  have h1 := (nd_rest h).1
  rw [← isId_ok (nd_peers h)] at h1
  exact of_decide_eq_true h1
def m29 (y : Nd × En) : Option Nr := if nLen y.1 mid then some (asR y.1 y.2) else none
def m81 (x : Nd) : Option Int := if nLen x mid then some (bif ndF x != 0 then ndF x else bif x.2.2.2.2.2.1 != 2 then 10 else 0) else none
theorem sat81 : Sat prog cxT 81 (c81 m81) := s81 m42 sat14 m81 fun x t h => by
  obtain ⟨a, b, c, d, lg, e, f, vt, nx, mt⟩ := x
  unfold m81 at h
  split at h
  · rename_i hm
    cases h
    refine ⟨0, ?_⟩
    show g81 m42 0 a b c d lg e f vt nx mt = _
    unfold g81
    rw [show m42 (a, b, c, d, lg, e, f, vt, nx, mt) = some (ndF (a, b, c, d, lg, e, f, vt, nx, mt)) from if_pos hm]
    simp only [tst_some, bqi]
  · cases h
theorem lead_ok {x : Nd} (hl : nLen x 1000000000) (hn : ndF x = 0) (hr : x.2.2.2.2.2.1 = 2) (h40 : ¬ (x.2.2.2.2.1.length : Int) ≥ 40) (e : En) :
    m87 ((x.1, x.2.1, x.2.2.1, x.2.2.2.1, x.2.2.2.2.1 ++ [e], x.2.2.2.2.2.1, x.2.2.2.2.2.2.1, x.2.2.2.2.2.2.2.1, x.2.2.2.2.2.2.2.2.1, x.2.2.2.2.2.2.2.2.2), x.1, ((x.2.2.2.2.1 ++ [e]).length : Int)) = some (stM (x.1, x.2.1, x.2.2.1, x.2.2.2.1, x.2.2.2.2.1 ++ [e], x.2.2.2.2.2.1, x.2.2.2.2.2.2.1, x.2.2.2.2.2.2.2.1, x.2.2.2.2.2.2.2.2.1, x.2.2.2.2.2.2.2.2.2) x.1 ((x.2.2.2.2.1 ++ [e]).length : Int)) ∧
    agOk (stM (x.1, x.2.1, x.2.2.1, x.2.2.2.1, x.2.2.2.2.1 ++ [e], x.2.2.2.2.2.1, x.2.2.2.2.2.2.1, x.2.2.2.2.2.2.2.1, x.2.2.2.2.2.2.2.2.1, x.2.2.2.2.2.2.2.2.2) x.1 ((x.2.2.2.2.1 ++ [e]).length : Int)) := by
  obtain ⟨h1, h2⟩ := lead_len hn hr
  obtain ⟨h3, h4⟩ := nd_id hn
  have hp := nd_peers hn
  have hc := (nd_rest hn).2.1
  have eL : (x.2.2.2.2.1 ++ [e]).length = x.2.2.2.2.1.length + 1 := by simp
  constructor
  · refine if_pos ⟨h3, ?_, ?_, ?_, ?_⟩
    · simp only; omega
    · simp only; omega
    · simp only; omega
    · simp only [eL]; omega
  · refine ⟨⟨?_, hl.2.1, ?_, ?_⟩, hc.1⟩
    · simp only [stM, eL, mid]; omega
    · simp only [stM, List.length_set, mid]; omega
    · simp only [stM, List.length_set, mid]; omega
theorem sat29 : Sat prog cxT 29 (c29 m29) := s29 m42 m64 mEn m13 m84 sat42 sat64 sat83 sat65 sat84 m29 fun x t h => by
  obtain ⟨⟨a, b, c, d, lg, e, f, vt, nx, mt⟩, e0, e1, e2, e3, e4, e5, e6, e7, e8⟩ := x
  unfold m29 at h
  split at h
  · rename_i hm
    cases h
    refine ⟨0, ?_⟩
    show g29 m42 m64 mEn m13 m84 0 a b c d lg e f vt nx mt e0 e1 e2 e3 e4 e5 e6 e7 e8 = _
    unfold g29 asR
    rw [show m42 (a, b, c, d, lg, e, f, vt, nx, mt) = some (ndF (a, b, c, d, lg, e, f, vt, nx, mt)) from if_pos hm]
    simp only [tst_some, m64, show mEn (e0, e1, e2, e3, e4, e5, e6, e7, e8) = some (enF (e0, e1, e2, e3, e4, e5, e6, e7, e8)) from rfl]
    by_cases hn : ndF (a, b, c, d, lg, e, f, vt, nx, mt) = 0
    case neg => rw [bned, df hn]; rfl
    rw [hn]
    by_cases hr : e = 2
    case neg => rw [bned e, df hr]; rfl
    subst hr
    cases he : enF (e0, e1, e2, e3, e4, e5, e6, e7, e8) != 0
    case true => rfl
    cases ht : e0 != c
    case true => rfl
    by_cases h40 : (lg.length : Int) ≥ 40
    · rw [dt h40]; rfl
    rw [df h40]
    simp only [bneF, cond_false]
    have hk := lead_ok hm hn rfl h40 (e0, e1, e2, e3, e4, e5, e6, e7, e8)
    rw [show m13 (a, b, c, d, lg, 2, f, vt, nx, mt) = some (a, b, c, d, lg, 2, f, vt, nx, mt) from if_pos hm]
    simp only [tst_some]
    have h1 := lead_len hn rfl
    have h2 := nd_id hn
    have h3 := nd_peers hn
    simp only at h1 h2 h3 h40
    have e40 : lg.length + [(e0, e1, e2, e3, e4, e5, e6, e7, e8)].length ≤ 1000000000 := by simp only [List.length_singleton]; omega
    have eL : ((lg ++ [(e0, e1, e2, e3, e4, e5, e6, e7, e8)]).length : Int) = (lg.length : Int) + 1 := by simp
    rw [dt e40, dt h2.1, dt (show a < (mt.length : Int) by omega), dt (show a < (nx.length : Int) by omega), wi (show -9223372036854775808 ≤ ((lg ++ [(e0, e1, e2, e3, e4, e5, e6, e7, e8)]).length : Int) + 1 by omega) (by omega)]
    simp only [bnd, cond_true, Bool.and_self]
    rw [show m84 (0, a, b, c, d, lg ++ [(e0, e1, e2, e3, e4, e5, e6, e7, e8)], 2, f, vt, nx.set a.toNat (((lg ++ [(e0, e1, e2, e3, e4, e5, e6, e7, e8)]).length : Int) + 1), mt.set a.toNat ((lg ++ [(e0, e1, e2, e3, e4, e5, e6, e7, e8)]).length : Int), []) = some _ from if_pos hk.2]
    rfl
  · cases h
theorem sat31 : Sat prog cxT 31 (c31 m29) := s31 m81 mEn m53 m13 m87 m88 sat81 sat86 sat53 sat69 sat87 sat88 m29 fun x t h => by
  obtain ⟨⟨a, b, c, d, lg, e, f, vt, nx, mt⟩, e0, e1, e2, e3, e4, e5, e6, e7, e8⟩ := x
  unfold m29 at h
  split at h
  · rename_i hm
    cases h
    refine ⟨0, ?_⟩
    show g31 m81 mEn m53 m13 m87 m88 0 a b c d lg e f vt nx mt e0 e1 e2 e3 e4 e5 e6 e7 e8 = _
    unfold g31 asR
    rw [show m81 (a, b, c, d, lg, e, f, vt, nx, mt) = some _ from if_pos hm]
    simp only [tst_some, m53, show mEn (e0, e1, e2, e3, e4, e5, e6, e7, e8) = some (enF (e0, e1, e2, e3, e4, e5, e6, e7, e8)) from rfl]
    by_cases hn : ndF (a, b, c, d, lg, e, f, vt, nx, mt) = 0
    case neg =>
      have hb : (ndF (a, b, c, d, lg, e, f, vt, nx, mt) != 0) = true := by rw [bned, df hn]; rfl
      simp only [hb, cond_true]
      rfl
    rw [hn]
    by_cases hr : e = 2
    case neg =>
      have hb : (e != 2) = true := by rw [bned, df hr]; rfl
      simp only [hb, cond_true, bneF, cond_false]
      rfl
    subst hr
    cases he : enF (e0, e1, e2, e3, e4, e5, e6, e7, e8) != 0
    case true => rfl
    cases ht : e0 != c
    case true => rfl
    have h10 : lg.length ≤ 40 := log40 (nd_log hn)
    by_cases h40 : (lg.length : Int) ≥ 40
    · rw [dt h40, show ((lg.length : Int) == 40) = true by simp; omega]; rfl
    rw [df h40, show ((lg.length : Int) == 40) = false by simp; omega]
    simp only [bneF, cond_false]
    have hk := lead_ok hm hn rfl h40 (e0, e1, e2, e3, e4, e5, e6, e7, e8)
    rw [show m13 (a, b, c, d, lg, 2, f, vt, nx, mt) = some (a, b, c, d, lg, 2, f, vt, nx, mt) from if_pos hm]
    simp only [tst_some]
    have e40 : lg.length + [(e0, e1, e2, e3, e4, e5, e6, e7, e8)].length ≤ 1000000000 := by simp only [List.length_singleton]; omega
    rw [dt e40, cond_true, show m87 ((a, b, c, d, lg ++ [(e0, e1, e2, e3, e4, e5, e6, e7, e8)], 2, f, vt, nx, mt), a, ((lg ++ [(e0, e1, e2, e3, e4, e5, e6, e7, e8)]).length : Int)) = some _ from hk.1]
    simp only [tst_some]
    rw [show m88 _ = some _ from if_pos hk.2]
    rfl
  · cases h
theorem asR_ok {x : Nd} {e : En} (h : nLen x 1048576) : nrOk (asR x e) := by
  unfold asR
  by_cases hn : ndF x = 0
  case neg => rw [bned, df hn]; exact bare_ok ..
  rw [hn]
  cases x.2.2.2.2.2.1 != 2
  case true => exact bare_ok ..
  cases enF e != 0
  case true => exact bare_ok ..
  cases e.1 != x.2.2.1
  case true => exact bare_ok ..
  by_cases h40 : (x.2.2.2.2.1.length : Int) ≥ 40
  · rw [dt h40]; exact bare_ok ..
  rw [df h40]
  obtain ⟨h1, h2, h3, h4⟩ := h
  refine ⟨⟨?_, Nat.le_trans h2 (by decide), ?_, ?_⟩, Nat.zero_le _, fun x hx => (by cases hx), ?_⟩
  · simp only [bneF, cond_false, mkNr, ndR, moreN, agN, stM, List.length_append, List.length_singleton]; omega
  · simp only [bneF, cond_false, mkNr, ndR, moreN, agN, stM, List.length_set]; omega
  · simp only [bneF, cond_false, mkNr, ndR, moreN, agN, stM, List.length_set]; omega
  · simp only [bneF, cond_false, k4, k3, k2, k1, mkNr, ndR, sdR, moreN, agN, stM, sumW, List.length_set, List.length_append, List.length_singleton]
    simp
    omega
def mWE (y : Nd × En) : Option Bool := if nLen y.1 top then some true else none
theorem law7 (x : Nd) (e : En) (t : Bool) (h : mWE (x, e) = some t) :
    g7 m11 m13 (fun x => some x) m29 m29 m23 m15 m24 m25 m26 0 x.1 x.2.1 x.2.2.1 x.2.2.2.1 x.2.2.2.2.1 x.2.2.2.2.2.1 x.2.2.2.2.2.2.1 x.2.2.2.2.2.2.2.1 x.2.2.2.2.2.2.2.2.1 x.2.2.2.2.2.2.2.2.2 e.1 e.2.1 e.2.2.1 e.2.2.2.1 e.2.2.2.2.1 e.2.2.2.2.2.1 e.2.2.2.2.2.2.1 e.2.2.2.2.2.2.2.1 e.2.2.2.2.2.2.2.2 = some t := by
  unfold mWE at h
  split at h
  · rename_i ht
    cases h
    unfold g7
    rw [show m11 (_, 1048576) = some (szv 1048576 (wN x)) from m6_eq ht, tst_some]
    by_cases hs : szv 1048576 (wN x) < 0
    · rw [dt hs, cond_true]
    · rw [df hs, cond_false]
      have hsm := (small_nd (by omega) hs).1
      have hl := nLen_up (b := mid) hsm (by decide)
      rw [show m13 _ = some x from m8_eq hl]
      simp only [tst_some]
      rw [show m29 (x, e) = some (asR x e) from if_pos hl]
      have hr := asR_ok (x := x) (e := e) hsm
      generalize asR x e = r at hr
      obtain ⟨e23, e25, e26, hk⟩ := nr_law r hr
      simp only [tst_some]
      rw [show m23 _ = some true from e23, show m15 _ = some true from m10_eq hl, show m24 (x, 1) = some (k4 x 1, mkN x 1) from if_pos ⟨nLen_up hsm (by decide), by simp only; omega, by simp only; omega⟩, show m25 _ = some _ from e25]
      simp only [tst_some]
      have hx := k4_pos (n := x) (v := 1) (by omega)
      rw [df (show ¬ k4 x 1 < 0 by omega)]
      simp only [mkNr, mkN, ndR, sdR] at e26 hk ⊢
      rw [e26]
      simp only [tst_some]
      rw [df (by omega), bneF rfl]
      rfl
  · cases h
theorem sat7 : Sat prog cxT 7 (c7 mWE) := s7 m11 m13 _ m29 m29 m23 m15 m24 m25 m26 sat11 sat13 sat30 sat29 sat31 sat23 sat15 sat24 sat25 sat26 mWE fun x t h => by
  obtain ⟨⟨a, b, c, d, lg, e, f, vt, nx, mt⟩, e0, e1, e2, e3, e4, e5, e6, e7, e8⟩ := x
  exact ⟨0, law7 (a, b, c, d, lg, e, f, vt, nx, mt) (e0, e1, e2, e3, e4, e5, e6, e7, e8) t h⟩
end Go.Proofs.Tryz

set_option linter.unusedVariables false
set_option linter.unusedSimpArgs false
namespace Go.Proofs.Tryz
open Go Go.VM Go.RowKit

theorem cells2 : prog.cellsOf 2 = 1 := by kernel_rfl
theorem cells22 : prog.cellsOf 22 = 1 := by kernel_rfl
theorem cells23 : prog.cellsOf 23 = 1 := by kernel_rfl
theorem cells51 : prog.cellsOf 51 = 6 := by kernel_rfl
theorem cells53 : prog.cellsOf 53 = 9 := by kernel_rfl
theorem cells25 : prog.cellsOf 25 = 10 := by kernel_rfl
def i64In (x : Int) : Prop := (Lit.int .i64 x).wf = true
def opM_good (f : Cm) : Prop := i64In f.1 ∧ i64In f.2.1 ∧ i64In f.2.2.1 ∧ i64In f.2.2.2.1 ∧ i64In f.2.2.2.2.1 ∧ i64In f.2.2.2.2.2
def encM (f : Cm) : List (L cxT.ty) := [lv (.int .i64 f.1), lv (.int .i64 f.2.1), lv (.int .i64 f.2.2.1), lv (.int .i64 f.2.2.2.1), lv (.int .i64 f.2.2.2.2.1), lv (.int .i64 f.2.2.2.2.2)]
set_option maxRecDepth 100000 in
theorem opM : Opens prog cxT 51 encM opM_good :=
  opens_struct underlying51 cells51 (opensF_cons (opens_int underlying2) rfl cells2 (opensF_cons (opens_int underlying2) rfl cells2 (opensF_cons (opens_int underlying2) rfl cells2 (opensF_cons (opens_int underlying2) rfl cells2 (opensF_cons (opens_int underlying2) rfl cells2 (opensF_one (l := fun x : Int => lv (.int .i64 x)) (opens_int underlying2) rfl cells2))))))
def opE_good (x : En) : Prop := i64In x.1 ∧ i64In x.2.1 ∧ i64In x.2.2.1 ∧ opM_good x.2.2.2
def encE (x : En) : List (L cxT.ty) := [lv (.int .i64 x.1), lv (.int .i64 x.2.1), lv (.int .i64 x.2.2.1), lv (.int .i64 x.2.2.2.1), lv (.int .i64 x.2.2.2.2.1), lv (.int .i64 x.2.2.2.2.2.1), lv (.int .i64 x.2.2.2.2.2.2.1), lv (.int .i64 x.2.2.2.2.2.2.2.1), lv (.int .i64 x.2.2.2.2.2.2.2.2)]
def i1 (x : Int) : List (L cxT.ty) := [lv (.int .i64 x)]
theorem opI1 : Opens prog cxT 2 i1 i64In := opens_int underlying2
set_option maxRecDepth 100000 in
theorem opE : Opens prog cxT 53 encE opE_good :=
  opens_structG (T := En) (k := 1 + (1 + (1 + 6))) (enc := fun x => i1 x.1 ++ (i1 x.2.1 ++ (i1 x.2.2.1 ++ encM x.2.2.2))) (good := opE_good) underlying53 cells53
    (opensG_cons (enc1 := i1) (good := i64In) opI1 rfl cells2 (opensG_cons (enc1 := i1) (good := i64In) opI1 rfl cells2 (opensG_cons (enc1 := i1) (good := i64In) opI1 rfl cells2 (opensG_one (enc := encM) (good := opM_good) opM rfl cells51))))
def opEs_good (x : List En) : Prop := x.length ≤ maxLen ∧ ∀ y ∈ x, opE_good y
def row53 (xs : List En) : L cxT.ty := some (.inr (ro 53 xs))
set_option maxRecDepth 100000 in
theorem opEs : Opens prog cxT 22 (fun x : List En => [row53 x]) opEs_good :=
  opens_slice (cx := cxT) (e := 53) (good := opE_good) underlying22 cells53 (by decide) cxT_ok opE
def opIs_good (x : List Int) : Prop := x.length ≤ maxLen ∧ ∀ y ∈ x, i64In y
def row2 (xs : List Int) : L cxT.ty := some (.inr (ro 2 xs))
set_option maxRecDepth 100000 in
theorem opIs : Opens prog cxT 23 (fun x : List Int => [row2 x]) opIs_good :=
  opens_slice (cx := cxT) (e := 2) (good := i64In) underlying23 cells2 (by decide) cxT_ok (opens_int (cx := cxT) underlying2)
def encN (x : Nd) : List (L cxT.ty) := [lv (.int .i64 x.1), lv (.int .i64 x.2.1), lv (.int .i64 x.2.2.1), lv (.int .i64 x.2.2.2.1), row53 x.2.2.2.2.1, lv (.int .i64 x.2.2.2.2.2.1), lv (.int .i64 x.2.2.2.2.2.2.1), row2 x.2.2.2.2.2.2.2.1, row2 x.2.2.2.2.2.2.2.2.1, row2 x.2.2.2.2.2.2.2.2.2]
def opN_good (x : Nd) : Prop := i64In x.1 ∧ i64In x.2.1 ∧ i64In x.2.2.1 ∧ i64In x.2.2.2.1 ∧ opEs_good x.2.2.2.2.1 ∧ i64In x.2.2.2.2.2.1 ∧ i64In x.2.2.2.2.2.2.1 ∧ opIs_good x.2.2.2.2.2.2.2.1 ∧ opIs_good x.2.2.2.2.2.2.2.2.1 ∧ opIs_good x.2.2.2.2.2.2.2.2.2
set_option maxRecDepth 100000 in
theorem opN : Opens prog cxT 25 encN opN_good :=
  opens_struct underlying25 cells25 (opensF_cons (opens_int underlying2) rfl cells2 (opensF_cons (opens_int underlying2) rfl cells2 (opensF_cons (opens_int underlying2) rfl cells2 (opensF_cons (opens_int underlying2) rfl cells2 (opensF_cons (l := row53) opEs rfl cells22
    (opensF_cons (opens_int underlying2) rfl cells2 (opensF_cons (opens_int underlying2) rfl cells2 (opensF_cons (l := row2) opIs rfl cells23 (opensF_cons (l := row2) opIs rfl cells23 (opensF_one (l := row2) opIs rfl cells23))))))))))
theorem top_of {α : Type} {x : List α} {p : α → Prop} (h : x.length ≤ maxLen ∧ ∀ y ∈ x, p y) : x.length ≤ top := Nat.le_trans h.1 (by decide)
theorem nd_top {x : Nd} (h : opN_good x) : nLen x top := ⟨top_of h.2.2.2.2.1, top_of h.2.2.2.2.2.2.2.1, top_of h.2.2.2.2.2.2.2.2.1, top_of h.2.2.2.2.2.2.2.2.2⟩
end Go.Proofs.Tryz
