/- A part of the proof of FnExactSpreadNode: LgRa, LgRd, LgRe. -/
import Derived.Test.YtdnjjhambjafoaaGreatLgPc
import Derived.Test.YtdnjjhambjafoaaGreatLgFi
import Derived.Test.YtdnjjhambjafoaaGreatLgPt
import Derived.Test.YtdnjjhambjafoaaGreatLgFn
import Derived.Test.YtdnjjhambjafoaaGreatLgFo
set_option linter.unusedVariables false
set_option maxHeartbeats 0
set_option linter.unusedSimpArgs false
namespace Go.Proofs.Tryz
open Go Go.VM Go.RowKit
theorem ge_le {a b c : Int} : (bif decide (a ≥ b) then some (decide (a ≤ c)) else some false) = some (decide (b ≤ a ∧ a ≤ c)) := by
  by_cases h : a ≥ b
  · rw [dt h, cond_true]; exact congrArg some (decide_eq_decide.2 ⟨fun k => ⟨h, k⟩, fun k => k.2⟩)
  · rw [df h, cond_false, df (fun k => h k.1)]
def m52 (x : Int × Int × Int) : Option Bool := some (decide (x.2.1 ≤ x.1 ∧ x.1 ≤ x.2.2))
theorem sat52 : Sat prog cxT 52 (c52 m52) := s52 m52 fun x t h => by
  obtain ⟨a, b, c⟩ := x
  cases h
  exact ⟨0, ge_le⟩
def m45 (p : Int) : Option Bool := some (decide (1 ≤ p ∧ p ≤ 5))
theorem sat45 : Sat prog cxT 45 (c45 m45) := s45 m52 sat52 m45 fun x t h => by cases h; exact ⟨0, rfl⟩
def isId (p i : Int) : Bool := decide (0 ≤ i ∧ i < p)
def m46 (x : Int × Int) : Option Bool := some (isId x.2 x.1)
theorem sat46 : Sat prog cxT 46 (c46 m46) := s46 m46 fun x t h => by
  obtain ⟨a, b⟩ := x
  cases h
  refine ⟨0, ?_⟩
  show g46 0 a b = some (decide (0 ≤ a ∧ a < b))
  unfold g46
  by_cases h : a ≥ 0
  · rw [dt h, cond_true]; exact congrArg some (decide_eq_decide.2 ⟨fun k => ⟨h, k⟩, fun k => k.2⟩)
  · rw [df h, cond_false, df (fun k => h k.1)]
def m60 (x : Int) : Option Bool := some (tmOk x)
def m47 (x : Int) : Option Bool := some (decide (0 ≤ x ∧ x ≤ 100000))
theorem beqd (x y : Int) : (x == y) = decide (x = y) := by by_cases h : x = y <;> simp [h]
theorem bned (x y : Int) : (x != y) = !decide (x = y) := by by_cases h : x = y <;> simp [h]
theorem sat47 : Sat prog cxT 47 (c47 m47) := s47 m60 sat60 m47 fun x t h => by
  cases h
  refine ⟨0, ?_⟩
  show g47 m60 0 x = some (decide (0 ≤ x ∧ x ≤ 100000))
  unfold g47
  simp only [m60, tst_some, tmOk]
  rw [beqd]
  by_cases h : x = 0
  · rw [dt h, cond_true, dt (by omega)]
  · rw [df h, cond_false]; exact congrArg some (decide_eq_decide.2 (by omega))
def m48 (x : Int × Int) : Option Bool := some (decide (x.1 = -1) || isId x.2 x.1)
theorem sat48 : Sat prog cxT 48 (c48 m48) := s48 m46 sat46 m48 fun x t h => by
  obtain ⟨a, b⟩ := x
  cases h
  refine ⟨0, ?_⟩
  show g48 m46 0 a b = some (decide (a = -1) || isId b a)
  unfold g48
  simp only [m46, tst_some]
  rw [beqd]
  by_cases h : a = -1
  · rw [dt h]; rfl
  · rw [df h]; rfl
def m49 (x : Int) : Option Bool := some (decide (0 ≤ x ∧ x ≤ 2))
theorem sat49 : Sat prog cxT 49 (c49 m49) := s49 m52 sat52 m49 fun x t h => by cases h; exact ⟨0, rfl⟩
def m53 (x : Nd) : Option Int := some (x.2.2.2.2.1.length : Int)
theorem sat53 : Sat prog cxT 53 (c53 m53) := s53 m99 sat99 m53 fun x t h => by cases h; exact ⟨0, rfl⟩
def vq (p : Int) (v : List Int) (j : Nat) : Bool := isId p (v.getD j 0) && decide ((if j = 0 then -1 else v.getD (j - 1) 0) < v.getD j 0)
theorem el54 (L : Nat) (x : Nd) (hv : x.2.2.2.2.2.2.2.1.length ≤ 1000000000) (K : Option Bool) : ∀ (n i : Nat) (ah : Int), ah = (if i = 0 then -1 else x.2.2.2.2.2.2.2.1.getD (i - 1) 0) → i ≤ x.2.2.2.2.2.2.2.1.length → x.2.2.2.2.2.2.2.1.length < n + i →
    l54_0 m46 L x n ah (i : Int) K = bif alw (vq x.2.1 x.2.2.2.2.2.2.2.1) (x.2.2.2.2.2.2.2.1.length - i) i then K else some false
  | 0, i, ah, _, h0, h => by omega
  | n + 1, i, ah, ha, h0, h => by
    unfold l54_0
    by_cases hi : i < x.2.2.2.2.2.2.2.1.length
    · simp (disch := omega) only [dt, wi, cond_true, Bool.and_self, Int.toNat_natCast]
      rw [show m46 (x.2.2.2.2.2.2.2.1.getD i 0, x.2.1) = some (isId x.2.1 (x.2.2.2.2.2.2.2.1.getD i 0)) from rfl, tst_some, show x.2.2.2.2.2.2.2.1.length - i = x.2.2.2.2.2.2.2.1.length - (i + 1) + 1 by omega]
      unfold alw
      rw [show vq x.2.1 x.2.2.2.2.2.2.2.1 i = (isId x.2.1 (x.2.2.2.2.2.2.2.1.getD i 0) && decide (ah < x.2.2.2.2.2.2.2.1.getD i 0)) by rw [ha]; rfl]
      cases hq : isId x.2.1 (x.2.2.2.2.2.2.2.1.getD i 0)
      · rfl
      · by_cases hg : x.2.2.2.2.2.2.2.1.getD i 0 ≤ ah
        · rw [dt hg, df (show ¬ ah < _ by omega)]; rfl
        · rw [df hg, dt (show ah < x.2.2.2.2.2.2.2.1.getD i 0 by omega), Bool.not_true, cond_false, cond_false, show (i : Int) + 1 = ((i + 1 : Nat) : Int) by omega, el54 L x hv K n (i + 1) _ (by rw [if_neg (by omega)]; rfl) (by omega) (by omega)]
          rfl
    · rw [df (by omega), cond_false, show x.2.2.2.2.2.2.2.1.length - i = 0 by omega]
      rfl
theorem isId_ok {p i : Int} (hp : 1 ≤ p ∧ p ≤ 5) : isId p i = idOk p i := by
  unfold isId idOk
  rw [wi (show -9223372036854775808 ≤ p - 1 by omega) (by omega)]
  exact decide_eq_decide.2 (by omega)
theorem vq_ok {p : Int} (hp : 1 ≤ p ∧ p ≤ 5) (v : List Int) : alw (vq p v) v.length 0 = (rises v && ids p v) := by
  rw [Bool.eq_iff_iff, Bool.and_eq_true]
  unfold rises ids
  rw [alw_iff, alw_iff, alw_iff]
  constructor
  · intro h
    refine ⟨fun j h1 h2 => ?_, fun j h1 h2 => ?_⟩
    · have := h j (by omega) (by omega)
      simp only [vq, Bool.and_eq_true, decide_eq_true_eq] at this ⊢
      have := this.2
      rw [if_neg (by omega)] at this
      exact this
    · have := h j (by omega) (by omega)
      simp only [vq, Bool.and_eq_true] at this
      rw [isId_ok hp] at this
      exact this.1
  · rintro ⟨h1, h2⟩ j h3 h4
    have k := h2 j h3 h4
    simp only [vq, Bool.and_eq_true, decide_eq_true_eq]
    rw [isId_ok hp]
    refine ⟨k, ?_⟩
    split
    · rw [← isId_ok hp] at k
      have := of_decide_eq_true k
      omega
    · have := h1 j (by omega) (by omega)
      simpa using this
def hv (x : Nd) : Bool := rises x.2.2.2.2.2.2.2.1 && (decide (x.2.2.2.2.2.2.2.1 = []) || x.2.2.2.2.2.1 == 1) && ids x.2.1 x.2.2.2.2.2.2.2.1
def m54 (x : Nd) : Option Bool := if nLen x mid ∧ 1 ≤ x.2.1 ∧ x.2.1 ≤ 5 then some (hv x) else none
theorem sat54 : Sat prog cxT 54 (c54 m54) := s54 m46 sat46 m54 fun x t h => by
  unfold m54 at h
  split at h
  · rename_i hc
    cases h
    obtain ⟨hl, hp⟩ := hc
    refine ⟨x.2.2.2.2.2.2.2.1.length + 1, ?_⟩
    show g54 m46 _ x = _
    unfold g54
    have e := el54 (x.2.2.2.2.2.2.2.1.length + 1) x hl.2.1 (some true) (x.2.2.2.2.2.2.2.1.length + 1) 0 (-1) rfl (by omega) (by omega)
    rw [Nat.sub_zero, vq_ok hp] at e
    simp only [Int.natCast_zero] at e
    rw [e, bned]
    unfold hv
    rw [beqd]
    have eb : ∀ b : Bool, (bif b then some true else some false) = some b := fun b => by cases b <;> rfl
    rw [eb]
    by_cases hr : x.2.2.2.2.2.1 = 1
    · rw [dt hr, Bool.not_true, cond_false, Bool.or_true, Bool.and_true]
    · rw [df hr, Bool.not_false, cond_true, Bool.or_false]
      by_cases hn : x.2.2.2.2.2.2.2.1 = []
      · rw [dt hn, hn]; simp
      · rw [df hn]
        have : x.2.2.2.2.2.2.2.1.length ≠ 0 := fun h => hn (List.eq_nil_of_length_eq_zero h)
        rw [dt (show (x.2.2.2.2.2.2.2.1.length : Int) > 0 by omega), cond_true, Bool.and_false, Bool.false_and]
  · cases h
def hr (x : Nd) : Bool := decide ((x.2.2.2.2.2.2.2.2.1.length : Int) = if x.2.2.2.2.2.1 = 2 then x.2.1 else 0) && decide ((x.2.2.2.2.2.2.2.2.2.length : Int) = if x.2.2.2.2.2.1 = 2 then x.2.1 else 0)
theorem lists_hv (x : Nd) : lists x = (hv x && hr x) := rfl
def m55 (x : Nd) : Option Bool := some (hr x)
theorem sat55 : Sat prog cxT 55 (c55 m55) := s55 m55 fun x t h => by
  cases h
  refine ⟨0, ?_⟩
  show g55 0 x = some (hr x)
  unfold g55 hr
  rw [bned, beqd, beqd, beqd, beqd]
  by_cases h2 : x.2.2.2.2.2.1 = 2
  · rw [dt h2, if_pos h2, Bool.not_true, cond_false]
    cases decide ((x.2.2.2.2.2.2.2.2.1.length : Int) = x.2.1) <;> rfl
  · rw [df h2, if_neg h2, Bool.not_false, cond_true]
    cases decide ((x.2.2.2.2.2.2.2.2.1.length : Int) = 0) <;> rfl
def btw (l h : Int) (a : List Int) (i : Nat) : Bool := decide (l ≤ a.getD i 0 ∧ a.getD i 0 ≤ h)
theorem el56 (L : Nat) (a : List Int) (l h : Int) (ha : a.length ≤ 1000000000) (K : Option Bool) : ∀ (n i : Nat), i ≤ a.length → a.length < n + i →
    l56_0 m52 L a l h n (i : Int) K = bif alw (btw l h a) (a.length - i) i then K else some false
  | 0, i, h0, h => by omega
  | n + 1, i, h0, hn => by
    unfold l56_0
    by_cases hi : i < a.length
    · simp (disch := omega) only [dt, wi, cond_true, Bool.and_self, Int.toNat_natCast]
      rw [show m52 (a.getD i 0, l, h) = some (btw l h a i) from rfl, tst_some, show a.length - i = a.length - (i + 1) + 1 by omega]
      unfold alw
      cases btw l h a i
      · rfl
      · rw [Bool.not_true, cond_false, show (i : Int) + 1 = ((i + 1 : Nat) : Int) by omega, el56 L a l h ha K n (i + 1) (by omega) (by omega), Bool.true_and]
    · rw [df (by omega), cond_false, show a.length - i = 0 by omega]
      rfl
def m56 (x : List Int × Int × Int) : Option Bool := if x.1.length ≤ mid then some (alw (btw x.2.1 x.2.2 x.1) x.1.length 0) else none
theorem sat56 : Sat prog cxT 56 (c56 m56) := s56 m52 sat52 m56 fun x t h => by
  obtain ⟨a, l, u⟩ := x
  unfold m56 at h
  split at h
  · rename_i hm
    cases h
    refine ⟨a.length + 1, ?_⟩
    have e := el56 (a.length + 1) a l u hm (some true) (a.length + 1) 0 (by omega) (by omega)
    simp only [Int.natCast_zero, Nat.sub_zero] at e
    show g56 m52 _ a l u = _
    unfold g56
    rw [e]
    cases alw (btw l u a) a.length 0 <;> rfl
  · cases h
theorem alw_and {p q : Nat → Bool} : ∀ (n i : Nat), alw (fun j => p j && q j) n i = (alw p n i && alw q n i)
  | 0, i => rfl
  | n + 1, i => by
    show ((p i && q i) && alw _ n (i + 1)) = ((p i && alw p n (i + 1)) && (q i && alw q n (i + 1)))
    rw [alw_and n (i + 1)]
    cases p i <;> cases q i <;> simp
theorem nm_ok {x : Nd} (h : x.2.2.2.2.2.2.2.2.2.length = x.2.2.2.2.2.2.2.2.1.length) : alw (nmOkN x) x.2.2.2.2.2.2.2.2.1.length 0 = (alw (btw 1 ((x.2.2.2.2.1.length : Int) + 1) x.2.2.2.2.2.2.2.2.1) x.2.2.2.2.2.2.2.2.1.length 0 && alw (btw 0 (x.2.2.2.2.1.length : Int) x.2.2.2.2.2.2.2.2.2) x.2.2.2.2.2.2.2.2.2.length 0) := by
  rw [h]
  exact alw_and _ _
theorem m50_eq (a : List En) : mLog a = some (logF a) := rfl
theorem sat14 : Sat prog cxT 14 (c14 m42) := s14 m45 m46 m47 m48 m49 mLog mLast m53 m52 m54 m55 m56 sat45 sat46 sat47 sat48 sat49 sat50 sat51 sat53 sat52 sat54 sat55 sat56 m42 fun x t h => by
  obtain ⟨a, b, c, d, lg, e, f, vt, nx, mt⟩ := x
  unfold m42 at h
  split at h
  · rename_i hm
    cases h
    have hl := hm
    obtain ⟨h1, h2, h3, h4⟩ := hm
    refine ⟨0, ?_⟩
    show g14 m45 m46 m47 m48 m49 mLog mLast m53 m52 m54 m55 m56 0 a b c d lg e f vt nx mt = _
    unfold g14 ndF
    simp only [m45, m46, m47, m48, m49, m53, m52, m55, tst_some, m50_eq]
    by_cases hp : 1 ≤ b ∧ b ≤ 5
    case neg => rw [df hp]; rfl
    rw [dt hp]
    simp only [Bool.not_true, cond_false]
    rw [isId_ok hp]
    cases hi : idOk b a
    case false => rfl
    simp only [Bool.not_true, cond_false]
    cases ht : decide (0 ≤ c ∧ c ≤ 100000)
    case false => rfl
    simp only [Bool.not_true, cond_false]
    rw [show (decide (d = -1) || isId b d) = decide (-1 ≤ d ∧ d ≤ IntKind.wrap .i64 (b - 1)) by
      rw [wi (show -9223372036854775808 ≤ b - 1 by omega) (by omega)]
      unfold isId
      rw [← Bool.decide_or]
      exact decide_eq_decide.2 (by omega)]
    cases hd : decide (-1 ≤ d ∧ d ≤ IntKind.wrap .i64 (b - 1))
    case false => rfl
    simp only [Bool.not_true, cond_false]
    cases hro : decide (0 ≤ e ∧ e ≤ 2)
    case false => rfl
    simp only [Bool.not_true, cond_false]
    have bq : ∀ (b : Bool) (u v : Int), (bif b then some u else some v) = some (bif b then u else v) := fun b u v => by cases b <;> rfl
    cases hlf : logF lg != 0
    case true => rfl
    simp only [cond_false]
    rw [show mLast lg = some (lastE lg) from if_pos h1]
    simp only [tst_some]
    cases htm : decide ((lastE lg).1 > c)
    case true => rfl
    simp only [cond_false]
    cases hcm : decide (0 ≤ f ∧ f ≤ (lg.length : Int))
    case false => rfl
    simp only [Bool.not_true, cond_false]
    rw [show m54 (a, b, c, d, lg, e, f, vt, nx, mt) = some (hv (a, b, c, d, lg, e, f, vt, nx, mt)) from if_pos ⟨hl, hp⟩]
    simp only [tst_some]
    rw [lists_hv]
    cases hhv : hv (a, b, c, d, lg, e, f, vt, nx, mt)
    case false => rfl
    simp only [Bool.not_true, cond_false, Bool.true_and]
    cases hhr : hr (a, b, c, d, lg, e, f, vt, nx, mt)
    case false => rfl
    simp only [Bool.not_true, cond_false]
    have hlen := lists_len (x := (a, b, c, d, lg, e, f, vt, nx, mt)) (by rw [lists_hv, hhv, hhr]; rfl)
    rw [nm_ok hlen]
    simp only [mid] at h1
    rw [wi (show -9223372036854775808 ≤ (lg.length : Int) + 1 by omega) (by omega)]
    rw [show m56 (nx, 1, (lg.length : Int) + 1) = some (alw (btw 1 ((lg.length : Int) + 1) nx) nx.length 0) from if_pos h3,
      show m56 (mt, 0, (lg.length : Int)) = some (alw (btw 0 (lg.length : Int) mt) mt.length 0) from if_pos h4]
    simp only [tst_some]
    cases alw (btw 1 ((lg.length : Int) + 1) nx) nx.length 0
    case false => rfl
    simp only [Bool.not_true, cond_false, Bool.true_and]
    cases alw (btw 0 (lg.length : Int) mt) mt.length 0
    case false => rfl
    simp only [Bool.not_true, cond_false, cond_true]
    unfold endF
    simp only [bq]
  · cases h
theorem bqi (b : Bool) (u v : Int) : (bif b then some u else some v) = some (bif b then u else v) := by cases b <;> rfl
theorem nd_peers {x : Nd} (h : ndF x = 0) : 1 ≤ x.2.1 ∧ x.2.1 ≤ 5 := by
  unfold ndF at h
  by_cases hp : 1 ≤ x.2.1 ∧ x.2.1 ≤ 5
  · exact hp
  · rw [df hp] at h; cases h
end Go.Proofs.Tryz

namespace Go.Proofs.Tryz
open Go Go.VM Go.RowKit
def m93 (a : List En) : Option (List En) := if a.length ≤ mid then some a else none
theorem sat93 : Sat prog cxT 93 (c93 m93) := s93 m93 fun a t h => by
  unfold m93 at h
  split at h
  · rename_i hm
    cases h
    have hm : a.length ≤ 1000000000 := hm
    refine ⟨0, ?_⟩
    unfold g93
    rw [dt (show ([] : List E9).length + a.length ≤ 1000000000 by simpa using hm)]
    rfl
  · cases h
theorem sat65 : Sat prog cxT 65 (c65 m13) := s65 m93 sat93 m13 fun x t h => by
  obtain ⟨a, b, c, d, lg, e, f, vt, nx, mt⟩ := x
  unfold m13 at h
  split at h
  · rename_i hm
    cases h
    obtain ⟨h1, h2, h3, h4⟩ := hm
    simp only [mid] at h1 h2 h3 h4
    refine ⟨0, ?_⟩
    show g65 m93 0 a b c d lg e f vt nx mt = _
    unfold g65
    rw [show m93 lg = some lg from if_pos h1, tst_some, dt (show ([] : List Int).length + vt.length ≤ 1000000000 by simpa using h2), dt (show ([] : List Int).length + nx.length ≤ 1000000000 by simpa using h3), dt (show ([] : List Int).length + mt.length ≤ 1000000000 by simpa using h4)]
    rfl
  · cases h
theorem sat69 : Sat prog cxT 69 (c69 m13) := s69 m13 fun x t h => by
  obtain ⟨a, b, c, d, lg, e, f, vt, nx, mt⟩ := x
  unfold m13 at h
  split at h
  · rename_i hm
    cases h
    obtain ⟨h1, h2, h3, h4⟩ := hm
    simp only [mid] at h1 h2 h3 h4
    refine ⟨0, ?_⟩
    show g69 0 a b c d lg e f vt nx mt = _
    unfold g69
    rw [dt h1, dt h2, dt h3, dt h4]
    rfl
  · cases h
def crR (x : Nd) : Nr := bif ndF x != 0 then (ndF x, 0, 0, 0, 0, [], 0, 0, [], [], [], []) else (0, x.1, x.2.1, x.2.2.1, x.2.2.2.1, x.2.2.2.2.1, 0, 0, [], [], [], [])
def m35 (x : Nd) : Option Nr := if nLen x mid then some (crR x) else none
theorem k4_le {x : Nd} (h : nLen x 1048576) : k4 x 1 ≤ 20000000 := by
  obtain ⟨h1, h2, h3, h4⟩ := h
  unfold k4 k3 k2 k1
  omega
theorem nr_law (r : Nr) (hr : nrOk r) : m23 (r, r) = some true ∧ m25 (r, 1) = some (k4 (ndR r) 1 + sumW wM (sdR r), mkNr r.1 (mkN (ndR r) 1) (mkV mkM wM (sdR r) (k4 (ndR r) 1))) ∧
    m26 (mkNr r.1 (mkN (ndR r) 1) (mkV mkM wM (sdR r) (k4 (ndR r) 1)), 1) = some (k4 (ndR r) 1 + sumW wM (sdR r)) ∧ 0 ≤ k4 (ndR r) 1 + sumW wM (sdR r) := by
  have hk := k4_pos (n := ndR r) (v := 1) (by omega)
  have hs := sumW_nonneg (w := wM) (l := sdR r) fun y _ => wM_pos y
  refine ⟨(if_pos hr).trans (by rw [dt rfl]), if_pos ⟨hr, rfl⟩, (if_pos ⟨hdR_mk hr, rfl⟩).trans ?_, by omega⟩
  show some (k4 (mkN (ndR r) 1) 1 + sumW wM (mkV mkM wM (sdR r) (k4 (ndR r) 1))) = _
  rw [k4_mk, mkV_sum wM_mk]
end Go.Proofs.Tryz

namespace Go.Proofs.Tryz
open Go Go.VM Go.RowKit
def geI (i m : Int) : Bool := decide (m ≥ i)
def cntM (mt : List Int) (i : Int) : Int := (mt.countP (geI i) : Int)
def okA (p t : Int) (lg : List En) (mt : List Int) (i : Nat) : Bool := decide (2 * cntM mt (i : Int) > p) && (lg.getD (i - 1) dEn).1 == t
def agI (p t cm : Int) (lg : List En) (mt : List Int) : Nat → Int
  | 0 => cm
  | i + 1 => bif decide (((i + 1 : Nat) : Int) > cm) then (bif okA p t lg mt (i + 1) then ((i + 1 : Nat) : Int) else agI p t cm lg mt i) else cm
def agN (x : Nd) : Nd := (x.1, x.2.1, x.2.2.1, x.2.2.2.1, x.2.2.2.2.1, x.2.2.2.2.2.1, agI x.2.1 x.2.2.1 x.2.2.2.2.2.2.1 x.2.2.2.2.1 x.2.2.2.2.2.2.2.2.2 x.2.2.2.2.1.length, x.2.2.2.2.2.2.2.1, x.2.2.2.2.2.2.2.2.1, x.2.2.2.2.2.2.2.2.2)
def agOk (x : Nd) : Prop := nLen x mid ∧ 0 ≤ x.2.2.2.2.2.2.1
instance (x : Nd) : Decidable (agOk x) := by unfold agOk; infer_instance
def m112 (x : Nd × Int) : Option Int := if x.1.2.2.2.2.1.length ≤ mid then some (if 1 ≤ x.2 ∧ x.2 ≤ (x.1.2.2.2.2.1.length : Int) then (x.1.2.2.2.2.1.getD (x.2 - 1).toNat dEn).1 else 0) else none
theorem sat112 : Sat prog cxT 112 (c112 m112) := s112 m98 sat98 m112 fun x t h => by
  obtain ⟨x, i⟩ := x
  unfold m112 at h
  split at h
  · rename_i hm
    cases h
    refine ⟨0, ?_⟩
    show g112 m98 0 x i = _
    unfold g112
    rw [show m98 (x.2.2.2.2.1, i) = some _ from if_pos hm, tst_some]
    simp only
    split <;> rfl
  · cases h
def stM (x : Nd) (i ix : Int) : Nd := (x.1, x.2.1, x.2.2.1, x.2.2.2.1, x.2.2.2.2.1, x.2.2.2.2.2.1, x.2.2.2.2.2.2.1, x.2.2.2.2.2.2.2.1, x.2.2.2.2.2.2.2.2.1.set i.toNat (ix + 1), x.2.2.2.2.2.2.2.2.2.set i.toNat ix)
def badR (c : Int) : Nr := (c, 0, 0, 0, 0, [], 0, 0, [], [], [], [])
def moreN (x : Nd) (e : En) : Nd := agN (stM (x.1, x.2.1, x.2.2.1, x.2.2.2.1, x.2.2.2.2.1 ++ [e], x.2.2.2.2.2.1, x.2.2.2.2.2.2.1, x.2.2.2.2.2.2.2.1, x.2.2.2.2.2.2.2.2.1, x.2.2.2.2.2.2.2.2.2) x.1 ((x.2.2.2.2.1 ++ [e]).length : Int))
def asR (x : Nd) (e : En) : Nr := bif ndF x != 0 then badR (ndF x) else bif x.2.2.2.2.2.1 != 2 then badR 10 else bif enF e != 0 then badR (enF e) else bif e.1 != x.2.2.1 then badR 1 else bif decide ((x.2.2.2.2.1.length : Int) ≥ 40) then badR 2 else mkNr 0 (moreN x e) []
theorem nd_log {x : Nd} (h : ndF x = 0) : logF x.2.2.2.2.1 = 0 := by
  unfold ndF at h
  cases h1 : decide (1 ≤ x.2.1 ∧ x.2.1 ≤ 5) <;> rw [h1] at h
  · cases h
  cases h2 : idOk x.2.1 x.1 <;> rw [h2] at h
  · cases h
  cases h3 : decide (0 ≤ x.2.2.1 ∧ x.2.2.1 ≤ 100000) <;> rw [h3] at h
  · cases h
  cases h4 : decide (-1 ≤ x.2.2.2.1 ∧ x.2.2.2.1 ≤ IntKind.wrap .i64 (x.2.1 - 1)) <;> rw [h4] at h
  · cases h
  cases h5 : decide (0 ≤ x.2.2.2.2.2.1 ∧ x.2.2.2.2.2.1 ≤ 2) <;> rw [h5] at h
  · cases h
  by_cases h6 : logF x.2.2.2.2.1 = 0
  · exact h6
  · rw [show (logF x.2.2.2.2.1 != 0) = true by simpa using h6] at h
    exact h
theorem log40 {a : List En} (h : logF a = 0) : a.length ≤ 40 := by
  unfold logF at h
  split at h
  · cases h
  · omega
theorem nd_rest {x : Nd} (h : ndF x = 0) : idOk x.2.1 x.1 = true ∧ (0 ≤ x.2.2.2.2.2.2.1 ∧ x.2.2.2.2.2.2.1 ≤ (x.2.2.2.2.1.length : Int)) ∧ lists x = true := by
  have hl := nd_log h
  unfold ndF at h
  cases h1 : decide (1 ≤ x.2.1 ∧ x.2.1 ≤ 5) <;> rw [h1] at h
  · cases h
  cases h2 : idOk x.2.1 x.1 <;> rw [h2] at h
  · cases h
  cases h3 : decide (0 ≤ x.2.2.1 ∧ x.2.2.1 ≤ 100000) <;> rw [h3] at h
  · cases h
  cases h4 : decide (-1 ≤ x.2.2.2.1 ∧ x.2.2.2.1 ≤ IntKind.wrap .i64 (x.2.1 - 1)) <;> rw [h4] at h
  · cases h
  cases h5 : decide (0 ≤ x.2.2.2.2.2.1 ∧ x.2.2.2.2.2.1 ≤ 2) <;> rw [h5] at h
  · cases h
  rw [hl] at h
  cases h6 : decide ((lastE x.2.2.2.2.1).1 > x.2.2.1) <;> rw [h6] at h
  · cases h7 : decide (0 ≤ x.2.2.2.2.2.2.1 ∧ x.2.2.2.2.2.2.1 ≤ (x.2.2.2.2.1.length : Int)) <;> rw [h7] at h
    · cases h
    cases h8 : lists x <;> rw [h8] at h
    · cases h
    exact ⟨rfl, of_decide_eq_true h7, rfl⟩
  · cases h
theorem lead_len {x : Nd} (h : ndF x = 0) (hr : x.2.2.2.2.2.1 = 2) : (x.2.2.2.2.2.2.2.2.1.length : Int) = x.2.1 ∧ (x.2.2.2.2.2.2.2.2.2.length : Int) = x.2.1 := by
  have := (nd_rest h).2.2
  unfold lists at this
  simp only [Bool.and_eq_true, decide_eq_true_eq] at this
  obtain ⟨_, h1, h2⟩ := this
  rw [if_pos hr] at h1 h2
  exact ⟨h1, h2⟩
def m29 (y : Nd × En) : Option Nr := if nLen y.1 mid then some (asR y.1 y.2) else none
def m81 (x : Nd) : Option Int := if nLen x mid then some (bif ndF x != 0 then ndF x else bif x.2.2.2.2.2.1 != 2 then 10 else 0) else none
theorem sat81 : Sat prog cxT 81 (c81 m81) := s81 m42 sat14 m81 fun x t h => by
  obtain ⟨a, b, c, d, lg, e, f, vt, nx, mt⟩ := x
  unfold m81 at h
  split at h
  · rename_i hm
    cases h
    refine ⟨0, ?_⟩
    show g81 m42 0 a b c d lg e f vt nx mt = _
    unfold g81
    rw [show m42 (a, b, c, d, lg, e, f, vt, nx, mt) = some (ndF (a, b, c, d, lg, e, f, vt, nx, mt)) from if_pos hm]
    simp only [tst_some, bqi]
  · cases h
end Go.Proofs.Tryz
