/- A part of the proof of FnExactCrashNode: LgRa, LgRd, LgTop. -/
import Derived.Test.YtdnjjhambjafoaaGreatLgPc
import Derived.Test.YtdnjjhambjafoaaGreatLgFi
import Derived.Test.YtdnjjhambjafoaaGreatLgPt
import Derived.Test.YtdnjjhambjafoaaGreatLgFn
import Derived.Test.YtdnjjhambjafoaaGreatVmOpen
set_option linter.unusedVariables false
set_option maxHeartbeats 0
set_option linter.unusedVariables false
set_option linter.unusedSimpArgs false
namespace Go.Proofs.Tryz
open Go Go.VM Go.RowKit
/-! ### What is not right with a node: the program's own side -/
theorem ge_le {a b c : Int} : (bif decide (a ≥ b) then some (decide (a ≤ c)) else some false) = some (decide (b ≤ a ∧ a ≤ c)) := by
  by_cases h : a ≥ b
  · rw [dt h, cond_true]; exact congrArg some (decide_eq_decide.2 ⟨fun k => ⟨h, k⟩, fun k => k.2⟩)
  · rw [df h, cond_false, df (fun k => h k.1)]
def m52 (x : Int × Int × Int) : Option Bool := some (decide (x.2.1 ≤ x.1 ∧ x.1 ≤ x.2.2))
theorem sat52 : Sat prog cxT 52 (c52 m52) := s52 m52 fun x t h => by
  obtain ⟨a, b, c⟩ := x
  cases h
  exact ⟨0, ge_le⟩
def m45 (p : Int) : Option Bool := some (decide (1 ≤ p ∧ p ≤ 5))
theorem sat45 : Sat prog cxT 45 (c45 m45) := s45 m52 sat52 m45 fun x t h => by cases h; exact ⟨0, rfl⟩
def isId (p i : Int) : Bool := decide (0 ≤ i ∧ i < p)
def m46 (x : Int × Int) : Option Bool := some (isId x.2 x.1)
theorem sat46 : Sat prog cxT 46 (c46 m46) := s46 m46 fun x t h => by
  obtain ⟨a, b⟩ := x
  cases h
  refine ⟨0, ?_⟩
  show g46 0 a b = some (decide (0 ≤ a ∧ a < b))
  unfold g46
  by_cases h : a ≥ 0
  · rw [dt h, cond_true]; exact congrArg some (decide_eq_decide.2 ⟨fun k => ⟨h, k⟩, fun k => k.2⟩)
  · rw [df h, cond_false, df (fun k => h k.1)]
def m60 (x : Int) : Option Bool := some (tmOk x)
def m47 (x : Int) : Option Bool := some (decide (0 ≤ x ∧ x ≤ 100000))
theorem beqd (x y : Int) : (x == y) = decide (x = y) := by by_cases h : x = y <;> simp [h]
theorem bned (x y : Int) : (x != y) = !decide (x = y) := by by_cases h : x = y <;> simp [h]
theorem sat47 : Sat prog cxT 47 (c47 m47) := s47 m60 sat60 m47 fun x t h => by
  cases h
  refine ⟨0, ?_⟩
  show g47 m60 0 x = some (decide (0 ≤ x ∧ x ≤ 100000))
  unfold g47
  simp only [m60, tst_some, tmOk]
  rw [beqd]
  by_cases h : x = 0
  · rw [dt h, cond_true, dt (by omega)]
  · rw [df h, cond_false]; exact congrArg some (decide_eq_decide.2 (by omega))
def m48 (x : Int × Int) : Option Bool := some (decide (x.1 = -1) || isId x.2 x.1)
theorem sat48 : Sat prog cxT 48 (c48 m48) := s48 m46 sat46 m48 fun x t h => by
  obtain ⟨a, b⟩ := x
  cases h
  refine ⟨0, ?_⟩
  show g48 m46 0 a b = some (decide (a = -1) || isId b a)
  unfold g48
  simp only [m46, tst_some]
  rw [beqd]
  by_cases h : a = -1
  · rw [dt h]; rfl
  · rw [df h]; rfl
def m49 (x : Int) : Option Bool := some (decide (0 ≤ x ∧ x ≤ 2))
theorem sat49 : Sat prog cxT 49 (c49 m49) := s49 m52 sat52 m49 fun x t h => by cases h; exact ⟨0, rfl⟩
def m53 (x : Nd) : Option Int := some (x.2.2.2.2.1.length : Int)
theorem sat53 : Sat prog cxT 53 (c53 m53) := s53 m99 sat99 m53 fun x t h => by cases h; exact ⟨0, rfl⟩
def vq (p : Int) (v : List Int) (j : Nat) : Bool := isId p (v.getD j 0) && decide ((if j = 0 then -1 else v.getD (j - 1) 0) < v.getD j 0)
theorem el54 (L : Nat) (x : Nd) (hv : x.2.2.2.2.2.2.2.1.length ≤ 1000000000) (K : Option Bool) : ∀ (n i : Nat) (ah : Int), ah = (if i = 0 then -1 else x.2.2.2.2.2.2.2.1.getD (i - 1) 0) → i ≤ x.2.2.2.2.2.2.2.1.length → x.2.2.2.2.2.2.2.1.length < n + i →
    l54_0 m46 L x n ah (i : Int) K = bif alw (vq x.2.1 x.2.2.2.2.2.2.2.1) (x.2.2.2.2.2.2.2.1.length - i) i then K else some false
  | 0, i, ah, _, h0, h => by omega
  | n + 1, i, ah, ha, h0, h => by
    unfold l54_0
    by_cases hi : i < x.2.2.2.2.2.2.2.1.length
    · simp (disch := omega) only [dt, wi, cond_true, Bool.and_self, Int.toNat_natCast]
      rw [show m46 (x.2.2.2.2.2.2.2.1.getD i 0, x.2.1) = some (isId x.2.1 (x.2.2.2.2.2.2.2.1.getD i 0)) from rfl, tst_some, show x.2.2.2.2.2.2.2.1.length - i = x.2.2.2.2.2.2.2.1.length - (i + 1) + 1 by omega]
      unfold alw
      rw [show vq x.2.1 x.2.2.2.2.2.2.2.1 i = (isId x.2.1 (x.2.2.2.2.2.2.2.1.getD i 0) && decide (ah < x.2.2.2.2.2.2.2.1.getD i 0)) by rw [ha]; rfl]
      cases hq : isId x.2.1 (x.2.2.2.2.2.2.2.1.getD i 0)
      · rfl
      · by_cases hg : x.2.2.2.2.2.2.2.1.getD i 0 ≤ ah
        · rw [dt hg, df (show ¬ ah < _ by omega)]; rfl
        · rw [df hg, dt (show ah < x.2.2.2.2.2.2.2.1.getD i 0 by omega), Bool.not_true, cond_false, cond_false, show (i : Int) + 1 = ((i + 1 : Nat) : Int) by omega, el54 L x hv K n (i + 1) _ (by rw [if_neg (by omega)]; rfl) (by omega) (by omega)]
          rfl
    · rw [df (by omega), cond_false, show x.2.2.2.2.2.2.2.1.length - i = 0 by omega]
      rfl
theorem isId_ok {p i : Int} (hp : 1 ≤ p ∧ p ≤ 5) : isId p i = idOk p i := by
  unfold isId idOk
  rw [wi (show -9223372036854775808 ≤ p - 1 by omega) (by omega)]
  exact decide_eq_decide.2 (by omega)
theorem vq_ok {p : Int} (hp : 1 ≤ p ∧ p ≤ 5) (v : List Int) : alw (vq p v) v.length 0 = (rises v && ids p v) := by
  rw [Bool.eq_iff_iff, Bool.and_eq_true]
  unfold rises ids
  rw [alw_iff, alw_iff, alw_iff]
  constructor
  · intro h
    refine ⟨fun j h1 h2 => ?_, fun j h1 h2 => ?_⟩
    · have := h j (by omega) (by omega)
      simp only [vq, Bool.and_eq_true, decide_eq_true_eq] at this ⊢
      have := this.2
      rw [if_neg (by omega)] at this
      exact this
    · have := h j (by omega) (by omega)
      simp only [vq, Bool.and_eq_true] at this
      rw [isId_ok hp] at this
      exact this.1
  · rintro ⟨h1, h2⟩ j h3 h4
    have k := h2 j h3 h4
    simp only [vq, Bool.and_eq_true, decide_eq_true_eq]
    rw [isId_ok hp]
    refine ⟨k, ?_⟩
    split
    · rw [← isId_ok hp] at k
      have := of_decide_eq_true k
      omega
    · have := h1 j (by omega) (by omega)
      simpa using this
def hv (x : Nd) : Bool := rises x.2.2.2.2.2.2.2.1 && (decide (x.2.2.2.2.2.2.2.1 = []) || x.2.2.2.2.2.1 == 1) && ids x.2.1 x.2.2.2.2.2.2.2.1
def m54 (x : Nd) : Option Bool := if nLen x mid ∧ 1 ≤ x.2.1 ∧ x.2.1 ≤ 5 then some (hv x) else none
theorem sat54 : Sat prog cxT 54 (c54 m54) := s54 m46 sat46 m54 fun x t h => by
  unfold m54 at h
  split at h
  · rename_i hc
    cases h
    obtain ⟨hl, hp⟩ := hc
    refine ⟨x.2.2.2.2.2.2.2.1.length + 1, ?_⟩
    show g54 m46 _ x = _
    unfold g54
    have e := el54 (x.2.2.2.2.2.2.2.1.length + 1) x hl.2.1 (some true) (x.2.2.2.2.2.2.2.1.length + 1) 0 (-1) rfl (by omega) (by omega)
    rw [Nat.sub_zero, vq_ok hp] at e
    simp only [Int.natCast_zero] at e
    rw [e, bned]
    unfold hv
    rw [beqd]
    have eb : ∀ b : Bool, (bif b then some true else some false) = some b := fun b => by cases b <;> rfl
    rw [eb]
    by_cases hr : x.2.2.2.2.2.1 = 1
    · rw [dt hr, Bool.not_true, cond_false, Bool.or_true, Bool.and_true]
    · rw [df hr, Bool.not_false, cond_true, Bool.or_false]
      by_cases hn : x.2.2.2.2.2.2.2.1 = []
      · rw [dt hn, hn]; simp
      · rw [df hn]
        have : x.2.2.2.2.2.2.2.1.length ≠ 0 := fun h => hn (List.eq_nil_of_length_eq_zero h)
        rw [dt (show (x.2.2.2.2.2.2.2.1.length : Int) > 0 by omega), cond_true, Bool.and_false, Bool.false_and]
  · cases h
def hr (x : Nd) : Bool := decide ((x.2.2.2.2.2.2.2.2.1.length : Int) = if x.2.2.2.2.2.1 = 2 then x.2.1 else 0) && decide ((x.2.2.2.2.2.2.2.2.2.length : Int) = if x.2.2.2.2.2.1 = 2 then x.2.1 else 0)
theorem lists_hv (x : Nd) : lists x = (hv x && hr x) := rfl
def m55 (x : Nd) : Option Bool := some (hr x)
theorem sat55 : Sat prog cxT 55 (c55 m55) := s55 m55 fun x t h => by
  cases h
  refine ⟨0, ?_⟩
  show g55 0 x = some (hr x)
  unfold g55 hr
  rw [bned, beqd, beqd, beqd, beqd]
  by_cases h2 : x.2.2.2.2.2.1 = 2
  · rw [dt h2, if_pos h2, Bool.not_true, cond_false]
    cases decide ((x.2.2.2.2.2.2.2.2.1.length : Int) = x.2.1) <;> rfl
  · rw [df h2, if_neg h2, Bool.not_false, cond_true]
    cases decide ((x.2.2.2.2.2.2.2.2.1.length : Int) = 0) <;> rfl
def btw (l h : Int) (a : List Int) (i : Nat) : Bool := decide (l ≤ a.getD i 0 ∧ a.getD i 0 ≤ h)
theorem el56 (L : Nat) (a : List Int) (l h : Int) (ha : a.length ≤ 1000000000) (K : Option Bool) : ∀ (n i : Nat), i ≤ a.length → a.length < n + i →
    l56_0 m52 L a l h n (i : Int) K = bif alw (btw l h a) (a.length - i) i then K else some false
  | 0, i, h0, h => by omega
  | n + 1, i, h0, hn => by
    unfold l56_0
    by_cases hi : i < a.length
    · simp (disch := omega) only [dt, wi, cond_true, Bool.and_self, Int.toNat_natCast]
      rw [show m52 (a.getD i 0, l, h) = some (btw l h a i) from rfl, tst_some, show a.length - i = a.length - (i + 1) + 1 by omega]
      unfold alw
      cases btw l h a i
      · rfl
      · rw [Bool.not_true, cond_false, show (i : Int) + 1 = ((i + 1 : Nat) : Int) by omega, el56 L a l h ha K n (i + 1) (by omega) (by omega), Bool.true_and]
    · rw [df (by omega), cond_false, show a.length - i = 0 by omega]
      rfl
def m56 (x : List Int × Int × Int) : Option Bool := if x.1.length ≤ mid then some (alw (btw x.2.1 x.2.2 x.1) x.1.length 0) else none
theorem sat56 : Sat prog cxT 56 (c56 m56) := s56 m52 sat52 m56 fun x t h => by
  obtain ⟨a, l, u⟩ := x
  unfold m56 at h
  split at h
  · rename_i hm
    cases h
    refine ⟨a.length + 1, ?_⟩
    have e := el56 (a.length + 1) a l u hm (some true) (a.length + 1) 0 (by omega) (by omega)
    simp only [Int.natCast_zero, Nat.sub_zero] at e
    show g56 m52 _ a l u = _
    unfold g56
    rw [e]
    cases alw (btw l u a) a.length 0 <;> rfl
  · cases h
theorem alw_and {p q : Nat → Bool} : ∀ (n i : Nat), alw (fun j => p j && q j) n i = (alw p n i && alw q n i)
  | 0, i => rfl
  | n + 1, i => by
    show ((p i && q i) && alw _ n (i + 1)) = ((p i && alw p n (i + 1)) && (q i && alw q n (i + 1)))
    rw [alw_and n (i + 1)]
    cases p i <;> cases q i <;> simp
theorem nm_ok {x : Nd} (h : x.2.2.2.2.2.2.2.2.2.length = x.2.2.2.2.2.2.2.2.1.length) : alw (nmOkN x) x.2.2.2.2.2.2.2.2.1.length 0 = (alw (btw 1 ((x.2.2.2.2.1.length : Int) + 1) x.2.2.2.2.2.2.2.2.1) x.2.2.2.2.2.2.2.2.1.length 0 && alw (btw 0 (x.2.2.2.2.1.length : Int) x.2.2.2.2.2.2.2.2.2) x.2.2.2.2.2.2.2.2.2.length 0) := by
  rw [h]
  exact alw_and _ _
theorem m50_eq (a : List En) : mLog a = some (logF a) := rfl
theorem sat14 : Sat prog cxT 14 (c14 m42) := s14 m45 m46 m47 m48 m49 mLog mLast m53 m52 m54 m55 m56 sat45 sat46 sat47 sat48 sat49 sat50 sat51 sat53 sat52 sat54 sat55 sat56 m42 fun x t h => by
  obtain ⟨a, b, c, d, lg, e, f, vt, nx, mt⟩ := x
  unfold m42 at h
  split at h
  · rename_i hm
    cases h
    have hl := hm
    obtain ⟨h1, h2, h3, h4⟩ := hm
    refine ⟨0, ?_⟩
    show g14 m45 m46 m47 m48 m49 mLog mLast m53 m52 m54 m55 m56 0 a b c d lg e f vt nx mt = _
    unfold g14 ndF
    simp only [m45, m46, m47, m48, m49, m53, m52, m55, tst_some, m50_eq]
    by_cases hp : 1 ≤ b ∧ b ≤ 5
    case neg => rw [df hp]; rfl
    rw [dt hp]
    simp only [Bool.not_true, cond_false]
    rw [isId_ok hp]
    cases hi : idOk b a
    case false => rfl
    simp only [Bool.not_true, cond_false]
    cases ht : decide (0 ≤ c ∧ c ≤ 100000)
    case false => rfl
    simp only [Bool.not_true, cond_false]
    rw [show (decide (d = -1) || isId b d) = decide (-1 ≤ d ∧ d ≤ IntKind.wrap .i64 (b - 1)) by
      rw [wi (show -9223372036854775808 ≤ b - 1 by omega) (by omega)]
      unfold isId
      rw [← Bool.decide_or]
      exact decide_eq_decide.2 (by omega)]
    cases hd : decide (-1 ≤ d ∧ d ≤ IntKind.wrap .i64 (b - 1))
    case false => rfl
    simp only [Bool.not_true, cond_false]
    cases hro : decide (0 ≤ e ∧ e ≤ 2)
    case false => rfl
    simp only [Bool.not_true, cond_false]
    have bq : ∀ (b : Bool) (u v : Int), (bif b then some u else some v) = some (bif b then u else v) := fun b u v => by cases b <;> rfl
    cases hlf : logF lg != 0
    case true => rfl
    simp only [cond_false]
    rw [show mLast lg = some (lastE lg) from if_pos h1]
    simp only [tst_some]
    cases htm : decide ((lastE lg).1 > c)
    case true => rfl
    simp only [cond_false]
    cases hcm : decide (0 ≤ f ∧ f ≤ (lg.length : Int))
    case false => rfl
    simp only [Bool.not_true, cond_false]
    rw [show m54 (a, b, c, d, lg, e, f, vt, nx, mt) = some (hv (a, b, c, d, lg, e, f, vt, nx, mt)) from if_pos ⟨hl, hp⟩]
    simp only [tst_some]
    rw [lists_hv]
    cases hhv : hv (a, b, c, d, lg, e, f, vt, nx, mt)
    case false => rfl
    simp only [Bool.not_true, cond_false, Bool.true_and]
    cases hhr : hr (a, b, c, d, lg, e, f, vt, nx, mt)
    case false => rfl
    simp only [Bool.not_true, cond_false]
    have hlen := lists_len (x := (a, b, c, d, lg, e, f, vt, nx, mt)) (by rw [lists_hv, hhv, hhr]; rfl)
    rw [nm_ok hlen]
    simp only [mid] at h1
    rw [wi (show -9223372036854775808 ≤ (lg.length : Int) + 1 by omega) (by omega)]
    rw [show m56 (nx, 1, (lg.length : Int) + 1) = some (alw (btw 1 ((lg.length : Int) + 1) nx) nx.length 0) from if_pos h3,
      show m56 (mt, 0, (lg.length : Int)) = some (alw (btw 0 (lg.length : Int) mt) mt.length 0) from if_pos h4]
    simp only [tst_some]
    cases alw (btw 1 ((lg.length : Int) + 1) nx) nx.length 0
    case false => rfl
    simp only [Bool.not_true, cond_false, Bool.true_and]
    cases alw (btw 0 (lg.length : Int) mt) mt.length 0
    case false => rfl
    simp only [Bool.not_true, cond_false, cond_true]
    unfold endF
    simp only [bq]
  · cases h
end Go.Proofs.Tryz

set_option maxHeartbeats 0
set_option linter.unusedVariables false
set_option linter.unusedSimpArgs false
namespace Go.Proofs.Tryz
open Go Go.VM Go.RowKit
/-! ### Copies of nodes; what is left behind a crash -/
def m93 (a : List En) : Option (List En) := if a.length ≤ mid then some a else none
theorem sat93 : Sat prog cxT 93 (c93 m93) := s93 m93 fun a t h => by
  unfold m93 at h
  split at h
  · rename_i hm
    cases h
    have hm : a.length ≤ 1000000000 := hm
    refine ⟨0, ?_⟩
    unfold g93
    rw [dt (show ([] : List E9).length + a.length ≤ 1000000000 by simpa using hm)]
    rfl
  · cases h
theorem sat69 : Sat prog cxT 69 (c69 m13) := s69 m13 fun x t h => by
  obtain ⟨a, b, c, d, lg, e, f, vt, nx, mt⟩ := x
  unfold m13 at h
  split at h
  · rename_i hm
    cases h
    obtain ⟨h1, h2, h3, h4⟩ := hm
    simp only [mid] at h1 h2 h3 h4
    refine ⟨0, ?_⟩
    show g69 0 a b c d lg e f vt nx mt = _
    unfold g69
    rw [dt h1, dt h2, dt h3, dt h4]
    rfl
  · cases h
def crR (x : Nd) : Nr := bif ndF x != 0 then (ndF x, 0, 0, 0, 0, [], 0, 0, [], [], [], []) else (0, x.1, x.2.1, x.2.2.1, x.2.2.2.1, x.2.2.2.2.1, 0, 0, [], [], [], [])
def m35 (x : Nd) : Option Nr := if nLen x mid then some (crR x) else none
theorem bqR (b : Bool) (u v : Nr) : (bif b then some u else some v) = some (bif b then u else v) := by cases b <;> rfl
theorem sat35 : Sat prog cxT 35 (c35 m35) := s35 m42 m64 m93 sat42 sat64 sat93 m35 fun x t h => by
  obtain ⟨a, b, c, d, lg, e, f, vt, nx, mt⟩ := x
  unfold m35 at h
  split at h
  · rename_i hm
    cases h
    refine ⟨0, ?_⟩
    show g35 m42 m64 m93 0 a b c d lg e f vt nx mt = _
    unfold g35 crR
    rw [show m42 (a, b, c, d, lg, e, f, vt, nx, mt) = some (ndF (a, b, c, d, lg, e, f, vt, nx, mt)) from if_pos hm, show m93 lg = some lg from if_pos hm.1]
    simp only [tst_some, m64]
    exact bqR _ _ _
  · cases h
theorem sat36 : Sat prog cxT 36 (c36 m35) := s36 m42 m13 sat14 sat69 m35 fun x t h => by
  obtain ⟨a, b, c, d, lg, e, f, vt, nx, mt⟩ := x
  unfold m35 at h
  split at h
  · rename_i hm
    cases h
    refine ⟨0, ?_⟩
    show g36 m42 m13 0 a b c d lg e f vt nx mt = _
    unfold g36 crR
    rw [show m42 (a, b, c, d, lg, e, f, vt, nx, mt) = some (ndF (a, b, c, d, lg, e, f, vt, nx, mt)) from if_pos hm, show m13 (a, b, c, d, lg, 0, 0, [], [], []) = some (a, b, c, d, lg, 0, 0, [], [], []) from if_pos ⟨hm.1, Nat.zero_le _, Nat.zero_le _, Nat.zero_le _⟩]
    simp only [tst_some]
    exact bqR _ _ _
  · cases h
theorem crR_ok {x : Nd} (h : nLen x 1048576) : nrOk (crR x) := by
  unfold crR
  cases ndF x != 0
  · refine ⟨⟨Nat.le_trans h.1 (by decide), Nat.zero_le _, Nat.zero_le _, Nat.zero_le _⟩, Nat.zero_le _, fun x hx => (by cases hx), ?_⟩
    have := h.1
    simp only [k4, k3, k2, k1, ndR, sdR, sumW, cond_false]
    simp
    omega
  · exact bare_ok ..
/-- A law of answers with nodes, out of the contracts. -/
theorem nr_law (r : Nr) (hr : nrOk r) : m23 (r, r) = some true ∧ m25 (r, 1) = some (k4 (ndR r) 1 + sumW wM (sdR r), mkNr r.1 (mkN (ndR r) 1) (mkV mkM wM (sdR r) (k4 (ndR r) 1))) ∧
    m26 (mkNr r.1 (mkN (ndR r) 1) (mkV mkM wM (sdR r) (k4 (ndR r) 1)), 1) = some (k4 (ndR r) 1 + sumW wM (sdR r)) ∧ 0 ≤ k4 (ndR r) 1 + sumW wM (sdR r) := by
  have hk := k4_pos (n := ndR r) (v := 1) (by omega)
  have hs := sumW_nonneg (w := wM) (l := sdR r) fun y _ => wM_pos y
  refine ⟨(if_pos hr).trans (by rw [dt rfl]), if_pos ⟨hr, rfl⟩, (if_pos ⟨hdR_mk hr, rfl⟩).trans ?_, by omega⟩
  show some (k4 (mkN (ndR r) 1) 1 + sumW wM (mkV mkM wM (sdR r) (k4 (ndR r) 1))) = _
  rw [k4_mk, mkV_sum wM_mk]
theorem law9 (mS mI : Nd → Option Nr) (R : Nd → Nr) (hS : ∀ x, nLen x 1048576 → mS x = some (R x)) (hI : ∀ x, nLen x 1048576 → mI x = some (R x)) (hR : ∀ x, nLen x 1048576 → nrOk (R x)) (x : Nd) (t : Bool) (h : mW x = some t) :
    g9 m11 m13 mS mI m23 m15 m24 m25 m26 0 x.1 x.2.1 x.2.2.1 x.2.2.2.1 x.2.2.2.2.1 x.2.2.2.2.2.1 x.2.2.2.2.2.2.1 x.2.2.2.2.2.2.2.1 x.2.2.2.2.2.2.2.2.1 x.2.2.2.2.2.2.2.2.2 = some t := by
  unfold mW at h
  split at h
  · rename_i ht
    cases h
    unfold g9
    rw [show m11 (_, 1048576) = some (szv 1048576 (wN x)) from m6_eq ht, tst_some]
    by_cases hs : szv 1048576 (wN x) < 0
    · rw [dt hs, cond_true]
    · rw [df hs, cond_false]
      have hsm := (small_nd (by omega) hs).1
      have hl := nLen_up (b := mid) hsm (by decide)
      rw [show m13 _ = some x from m8_eq hl]
      simp only [tst_some]
      rw [show mS _ = some (R x) from hS x hsm, show mI _ = some (R x) from hI x hsm]
      have hr := hR x hsm
      generalize R x = r at hr
      obtain ⟨e23, e25, e26, hk⟩ := nr_law r hr
      simp only [tst_some]
      rw [show m23 _ = some true from e23, show m15 _ = some true from m10_eq hl, show m24 (x, 1) = some (k4 x 1, mkN x 1) from if_pos ⟨nLen_up hsm (by decide), by simp only; omega, by simp only; omega⟩, show m25 _ = some _ from e25]
      simp only [tst_some]
      have hx := k4_pos (n := x) (v := 1) (by omega)
      rw [df (show ¬ k4 x 1 < 0 by omega)]
      simp only [mkNr, mkN, ndR, sdR] at e26 hk ⊢
      rw [e26]
      simp only [tst_some]
      rw [df (by omega), bneF rfl]
      rfl
  · cases h
theorem sat9 : Sat prog cxT 9 (c9 mW) := s9 m11 m13 m35 m35 m23 m15 m24 m25 m26 sat11 sat13 sat35 sat36 sat23 sat15 sat24 sat25 sat26 mW fun x t h => by
  obtain ⟨a, b, c, d, lg, e, f, vt, nx, mt⟩ := x
  exact ⟨0, law9 m35 m35 crR (fun x h => if_pos (nLen_up h (by decide))) (fun x h => if_pos (nLen_up h (by decide))) (fun x h => crR_ok h) (a, b, c, d, lg, e, f, vt, nx, mt) t h⟩
end Go.Proofs.Tryz

set_option linter.unusedVariables false
set_option linter.unusedSimpArgs false
namespace Go.Proofs.Tryz
open Go Go.VM Go.RowKit

theorem cells2 : prog.cellsOf 2 = 1 := by kernel_rfl
theorem cells22 : prog.cellsOf 22 = 1 := by kernel_rfl
theorem cells23 : prog.cellsOf 23 = 1 := by kernel_rfl
theorem cells51 : prog.cellsOf 51 = 6 := by kernel_rfl
theorem cells53 : prog.cellsOf 53 = 9 := by kernel_rfl
theorem cells25 : prog.cellsOf 25 = 10 := by kernel_rfl
def i64In (x : Int) : Prop := (Lit.int .i64 x).wf = true
def opM_good (f : Cm) : Prop := i64In f.1 ∧ i64In f.2.1 ∧ i64In f.2.2.1 ∧ i64In f.2.2.2.1 ∧ i64In f.2.2.2.2.1 ∧ i64In f.2.2.2.2.2
def encM (f : Cm) : List (L cxT.ty) := [lv (.int .i64 f.1), lv (.int .i64 f.2.1), lv (.int .i64 f.2.2.1), lv (.int .i64 f.2.2.2.1), lv (.int .i64 f.2.2.2.2.1), lv (.int .i64 f.2.2.2.2.2)]
set_option maxRecDepth 100000 in
theorem opM : Opens prog cxT 51 encM opM_good :=
  opens_struct underlying51 cells51 (opensF_cons (opens_int underlying2) rfl cells2 (opensF_cons (opens_int underlying2) rfl cells2 (opensF_cons (opens_int underlying2) rfl cells2 (opensF_cons (opens_int underlying2) rfl cells2 (opensF_cons (opens_int underlying2) rfl cells2 (opensF_one (l := fun x : Int => lv (.int .i64 x)) (opens_int underlying2) rfl cells2))))))
def opE_good (x : En) : Prop := i64In x.1 ∧ i64In x.2.1 ∧ i64In x.2.2.1 ∧ opM_good x.2.2.2
def encE (x : En) : List (L cxT.ty) := [lv (.int .i64 x.1), lv (.int .i64 x.2.1), lv (.int .i64 x.2.2.1), lv (.int .i64 x.2.2.2.1), lv (.int .i64 x.2.2.2.2.1), lv (.int .i64 x.2.2.2.2.2.1), lv (.int .i64 x.2.2.2.2.2.2.1), lv (.int .i64 x.2.2.2.2.2.2.2.1), lv (.int .i64 x.2.2.2.2.2.2.2.2)]
def i1 (x : Int) : List (L cxT.ty) := [lv (.int .i64 x)]
theorem opI1 : Opens prog cxT 2 i1 i64In := opens_int underlying2
set_option maxRecDepth 100000 in
theorem opE : Opens prog cxT 53 encE opE_good :=
  opens_structG (T := En) (k := 1 + (1 + (1 + 6))) (enc := fun x => i1 x.1 ++ (i1 x.2.1 ++ (i1 x.2.2.1 ++ encM x.2.2.2))) (good := opE_good) underlying53 cells53
    (opensG_cons (enc1 := i1) (good := i64In) opI1 rfl cells2 (opensG_cons (enc1 := i1) (good := i64In) opI1 rfl cells2 (opensG_cons (enc1 := i1) (good := i64In) opI1 rfl cells2 (opensG_one (enc := encM) (good := opM_good) opM rfl cells51))))
def opEs_good (x : List En) : Prop := x.length ≤ maxLen ∧ ∀ y ∈ x, opE_good y
def row53 (xs : List En) : L cxT.ty := some (.inr (ro 53 xs))
set_option maxRecDepth 100000 in
theorem opEs : Opens prog cxT 22 (fun x : List En => [row53 x]) opEs_good :=
  opens_slice (cx := cxT) (e := 53) (good := opE_good) underlying22 cells53 (by decide) cxT_ok opE
def opIs_good (x : List Int) : Prop := x.length ≤ maxLen ∧ ∀ y ∈ x, i64In y
def row2 (xs : List Int) : L cxT.ty := some (.inr (ro 2 xs))
set_option maxRecDepth 100000 in
theorem opIs : Opens prog cxT 23 (fun x : List Int => [row2 x]) opIs_good :=
  opens_slice (cx := cxT) (e := 2) (good := i64In) underlying23 cells2 (by decide) cxT_ok (opens_int (cx := cxT) underlying2)
def encN (x : Nd) : List (L cxT.ty) := [lv (.int .i64 x.1), lv (.int .i64 x.2.1), lv (.int .i64 x.2.2.1), lv (.int .i64 x.2.2.2.1), row53 x.2.2.2.2.1, lv (.int .i64 x.2.2.2.2.2.1), lv (.int .i64 x.2.2.2.2.2.2.1), row2 x.2.2.2.2.2.2.2.1, row2 x.2.2.2.2.2.2.2.2.1, row2 x.2.2.2.2.2.2.2.2.2]
def opN_good (x : Nd) : Prop := i64In x.1 ∧ i64In x.2.1 ∧ i64In x.2.2.1 ∧ i64In x.2.2.2.1 ∧ opEs_good x.2.2.2.2.1 ∧ i64In x.2.2.2.2.2.1 ∧ i64In x.2.2.2.2.2.2.1 ∧ opIs_good x.2.2.2.2.2.2.2.1 ∧ opIs_good x.2.2.2.2.2.2.2.2.1 ∧ opIs_good x.2.2.2.2.2.2.2.2.2
set_option maxRecDepth 100000 in
theorem opN : Opens prog cxT 25 encN opN_good :=
  opens_struct underlying25 cells25 (opensF_cons (opens_int underlying2) rfl cells2 (opensF_cons (opens_int underlying2) rfl cells2 (opensF_cons (opens_int underlying2) rfl cells2 (opensF_cons (opens_int underlying2) rfl cells2 (opensF_cons (l := row53) opEs rfl cells22
    (opensF_cons (opens_int underlying2) rfl cells2 (opensF_cons (opens_int underlying2) rfl cells2 (opensF_cons (l := row2) opIs rfl cells23 (opensF_cons (l := row2) opIs rfl cells23 (opensF_one (l := row2) opIs rfl cells23))))))))))
theorem top_of {α : Type} {x : List α} {p : α → Prop} (h : x.length ≤ maxLen ∧ ∀ y ∈ x, p y) : x.length ≤ top := Nat.le_trans h.1 (by decide)
theorem nd_top {x : Nd} (h : opN_good x) : nLen x top := ⟨top_of h.2.2.2.2.1, top_of h.2.2.2.2.2.2.2.1, top_of h.2.2.2.2.2.2.2.2.1, top_of h.2.2.2.2.2.2.2.2.2⟩
end Go.Proofs.Tryz
