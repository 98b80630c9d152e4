/- A part of the proof of FnExactVerdictFor: LqRh, LqRi. -/
import Derived.Test.YtklmlomaleaaaaaLqRf
import Derived.Test.YtklmlomaleaaaaaLqFc
import Derived.Test.YtklmlomaleaaaaaLqFb
set_option linter.unusedVariables false
set_option maxHeartbeats 0
set_option linter.unusedVariables false
set_option linter.unusedSimpArgs false
namespace Go.Proofs.Try
open Go Go.VM Go.RowKit Go.Maps

/-! ### VerdictFor: the model's side -/
def Rb (l : List Vd) (p nm : Int) (i : Nat) (b : Int) : Prop := (b = -1 ∧ stT (l.take i) p nm = none) ∨ ∃ j : Nat, b = j ∧ j < i ∧ stT (l.take i) p nm = some ((l.getD j dVd).2.2.1, (l.getD j dVd).2.2.2)
theorem Rb_other {l : List Vd} {p nm : Int} {i : Nat} {b : Int} (hi : i < l.length) (h : Rb l p nm i b) (hne : ¬ ((l.getD i dVd).1 = p ∧ (l.getD i dVd).2.1 = nm)) : Rb l p nm (i + 1) b := by
  have e : stT (l.take (i + 1)) p nm = stT (l.take i) p nm := by
    rw [stT_step l i hi]
    unfold hearT
    rw [if_neg (fun h => hne ⟨h.1.symm, h.2.symm⟩)]
  unfold Rb
  rw [e]
  rcases h with h | ⟨j, h1, h2, h3⟩
  · exact .inl h
  · exact .inr ⟨j, h1, by omega, h3⟩
theorem stT_at {l : List Vd} {p nm : Int} {i : Nat} (hi : i < l.length) (h1 : (l.getD i dVd).1 = p) (h2 : (l.getD i dVd).2.1 = nm) : stT (l.take (i + 1)) p nm = (match stT (l.take i) p nm with
    | some (u, e) => if e ≥ (l.getD i dVd).2.2.2 then some (u, e) else some ((l.getD i dVd).2.2.1, (l.getD i dVd).2.2.2)
    | none => some ((l.getD i dVd).2.2.1, (l.getD i dVd).2.2.2)) := by
  rw [stT_step l i hi]
  unfold hearT
  rw [if_pos ⟨h1.symm, h2.symm⟩, h1, h2]
  rfl
theorem lp71 (L : Nat) (l : List Vd) (p nm : Int) (hl : l.length ≤ 1000) (K : Int → Option Int) : ∀ (n i : Nat) (b : Int), i ≤ l.length → l.length < n + i → Rb l p nm i b → ∃ b', Rb l p nm l.length b' ∧ l71_0 L l p nm n b (i : Int) K = K b'
  | 0, i, b, h1, h2, _ => by omega
  | n + 1, i, b, h1, h2, hR => by
    unfold l71_0
    by_cases hi : i < l.length
    · rw [dt (show (i : Int) < (l.length : Int) by omega), dt (show (0 : Int) ≤ (i : Int) by omega), Bool.and_self, cond_true, cond_true, Int.toNat_natCast, wi (x := (i : Int) + 1) (by omega) (by omega), show ((i : Int) + 1) = ((i + 1 : Nat) : Int) by omega]
      rw [show (((0 : Int), ((0 : Int), (Bool.false, (0 : Int)))) : Vd) = dVd from rfl]
      by_cases e1 : (l.getD i dVd).1 = p
      · rw [show ((l.getD i dVd).1 == p) = true by simpa using e1, cond_true]
        by_cases e2 : (l.getD i dVd).2.1 = nm
        · rw [show ((l.getD i dVd).2.1 == nm) = true by simpa using e2, cond_true]
          have hs := stT_at hi e1 e2
          rcases hR with ⟨rfl, h3⟩ | ⟨j, rfl, h3, h4⟩
          · rw [dt (show (-1 : Int) < 0 by omega), cond_true]
            refine lp71 L l p nm hl K n (i + 1) i (by omega) (by omega) (.inr ⟨i, rfl, by omega, ?_⟩)
            rw [hs, h3]
          · rw [df (show ¬ (j : Int) < 0 by omega), cond_false, dt (show (0 : Int) ≤ (j : Int) by omega), dt (show (j : Int) < (l.length : Int) by omega), Bool.and_self, cond_true, Int.toNat_natCast]
            by_cases e3 : (l.getD i dVd).2.2.2 > (l.getD j dVd).2.2.2
            · rw [dt e3, cond_true]
              refine lp71 L l p nm hl K n (i + 1) i (by omega) (by omega) (.inr ⟨i, rfl, by omega, ?_⟩)
              rw [hs, h4]
              simp only
              rw [if_neg (by omega)]
            · rw [df e3, cond_false]
              refine lp71 L l p nm hl K n (i + 1) j (by omega) (by omega) (.inr ⟨j, rfl, by omega, ?_⟩)
              rw [hs, h4]
              simp only
              rw [if_pos (by omega)]
        · rw [show ((l.getD i dVd).2.1 == nm) = false by simpa using e2, cond_false]
          exact lp71 L l p nm hl K n (i + 1) b (by omega) (by omega) (Rb_other hi hR fun h => e2 h.2)
      · rw [show ((l.getD i dVd).1 == p) = false by simpa using e1, cond_false]
        exact lp71 L l p nm hl K n (i + 1) b (by omega) (by omega) (Rb_other hi hR fun h => e1 h.1)
    · obtain rfl : i = l.length := by omega
      rw [df (show ¬ ((l.length : Nat) : Int) < (l.length : Int) by omega), cond_false]
      exact ⟨b, hR, rfl⟩
def saysT (T : Tt) (p nm : Int) : Int := match T p nm with
  | some (u, _) => if u = true then 1 else 2
  | none => 0
def m71 (x : List Vd × Int × Int) : Option Int := if x.1.length ≤ 1000 then some (saysT (stT x.1) x.2.1 x.2.2) else none
theorem sat71 : Sat prog cxT 71 (c71 m71) := s71 m71 fun x t h => by
  obtain ⟨l, p, nm⟩ := x
  unfold m71 at h
  split at h
  · rename_i hc
    have hc : l.length ≤ 1000 := hc
    cases h
    refine ⟨l.length + 1, ?_⟩
    show g71 _ l p nm = some (saysT (stT l) p nm)
    unfold g71
    obtain ⟨b', hR, e⟩ := lp71 (l.length + 1) l p nm hc (fun (w0_7 : Int) => bif (decide (w0_7 < (0 : Int))) then some (0 : Int)
      else bif ((decide ((0 : Int) ≤ w0_7)) && (decide (w0_7 < (Nat.cast (List.length l) : Int)))) then bif (List.getD l (Int.toNat w0_7) ((0 : Int), ((0 : Int), (Bool.false, (0 : Int))))).2.2.1 then some (1 : Int)
        else some (2 : Int)
      else none) (l.length + 1) 0 (-1) (by omega) (by omega) (.inl ⟨rfl, rfl⟩)
    refine (show _ = _ from e).trans ?_
    unfold saysT
    unfold Rb at hR
    rw [List.take_length] at hR
    rcases hR with ⟨rfl, h3⟩ | ⟨j, rfl, h3, h4⟩
    · rw [h3]; rfl
    · rw [h4]
      simp only
      rw [df (show ¬ (j : Int) < 0 by omega), cond_false, dt (show (0 : Int) ≤ (j : Int) by omega), dt (show (j : Int) < (l.length : Int) by omega), Bool.and_self, cond_true, Int.toNat_natCast]
      rw [show (((0 : Int), ((0 : Int), (Bool.false, (0 : Int)))) : Vd) = dVd from rfl]
      cases (l.getD j dVd).2.2.1 <;> rfl
  · cases h
def noL : Lit → Bool := fun _ => false
theorem cn_succ (T : Tt) (nm : Int) (u : Bool) (i : Nat) : cnT T nm u noL (i + 1) = cnT T nm u noL i + (if saysT T i nm = (if u = true then 1 else 2) then 1 else 0) := by
  unfold cnT
  rw [List.range_succ, List.countP_append]
  congr 1
  simp only [List.countP_cons, List.countP_nil]
  unfold prT saysT noL
  cases T (i : Int) nm with
  | none => cases u <;> simp
  | some q =>
    obtain ⟨u', e⟩ := q
    cases u <;> cases u' <;> simp
theorem lp51 (L : Nat) (l : List Vd) (nm : Int) (N : Nat) (hN : N ≤ 10) (hl : l.length ≤ 1000) (K : Int → Int → Option Int) : ∀ (n i : Nat), i ≤ N → N < n + i →
    l51_0 m71 L l nm (N : Int) n (cnT (stT l) nm true noL i : Int) (cnT (stT l) nm false noL i : Int) (i : Int) K = K (cnT (stT l) nm true noL N : Int) (cnT (stT l) nm false noL N : Int)
  | 0, i, h1, h2 => by omega
  | n + 1, i, h1, h2 => by
    unfold l51_0
    by_cases hi : i < N
    · have c1 := cn_le (stT l) nm true noL i
      have c2 := cn_le (stT l) nm false noL i
      rw [dt (show (i : Int) < (N : Int) by omega), cond_true, show m71 (l, ((i : Int), nm)) = some (saysT (stT l) i nm) from if_pos hl, tst_some, wi (x := (i : Int) + 1) (by omega) (by omega), wi (x := (cnT (stT l) nm true noL i : Int) + 1) (by omega) (by omega), wi (x := (cnT (stT l) nm false noL i : Int) + 1) (by omega) (by omega)]
      have ih := lp51 L l nm N hN hl K n (i + 1) (by omega) (by omega)
      rw [cn_succ, cn_succ] at ih
      have h3 : saysT (stT l) i nm = 0 ∨ saysT (stT l) i nm = 1 ∨ saysT (stT l) i nm = 2 := by
        unfold saysT
        split
        · split <;> simp
        · simp
      rcases h3 with h3 | h3 | h3
      · rw [h3] at ih ⊢
        simp at ih
        simpa using ih
      · rw [h3] at ih ⊢
        simp at ih
        simpa using ih
      · rw [h3] at ih ⊢
        simp at ih
        simpa using ih
    · obtain rfl : i = N := by omega
      rw [df (show ¬ ((i : Nat) : Int) < (i : Int) by omega), cond_false]
def m51 (x : List Vd × Int × Int) : Option Int := if x.1.length ≤ 1000 ∧ 0 ≤ x.2.2 ∧ x.2.2 ≤ 10 then some (sayT (stT x.1) x.2.1 x.2.2) else none
theorem sat51 : Sat prog cxT 51 (c51 m51) := s51 m71 sat71 m51 fun x t h => by
  obtain ⟨l, nm, pr⟩ := x
  unfold m51 at h
  split at h
  · rename_i hc
    obtain ⟨hc, h0, h1⟩ := hc
    simp only at h0 h1
    have hc : l.length ≤ 1000 := hc
    cases h
    obtain ⟨N, rfl⟩ := Int.eq_ofNat_of_zero_le h0
    refine ⟨N + 1, ?_⟩
    show g51 m71 _ l nm (N : Int) = some (sayT (stT l) nm (N : Int))
    unfold g51
    have c1 := cn_le (stT l) nm true noL N
    have c2 := cn_le (stT l) nm false noL N
    have e0 : ∀ u, cnT (stT l) nm u noL 0 = 0 := fun u => rfl
    have e := lp51 (N + 1) l nm N (by omega) hc (fun (w0_7 : Int) (w0_8 : Int) => bif (decide ((Go.IntKind.wrap Go.IntKind.i64 ((2 : Int) * w0_7)) > (N : Int))) then some (1 : Int)
      else bif (decide ((Go.IntKind.wrap Go.IntKind.i64 ((2 : Int) * w0_8)) > (N : Int))) then some (2 : Int)
      else some (0 : Int)) (N + 1) 0 (by omega) (by omega)
    rw [e0, e0] at e
    refine (show _ = _ from e).trans ?_
    have es : sayT (stT l) nm (N : Int) = if 2 * (cnT (stT l) nm true noL N : Int) > N then 1 else if 2 * (cnT (stT l) nm false noL N : Int) > N then 2 else 0 := rfl
    rw [es, wi (x := 2 * (cnT (stT l) nm true noL N : Int)) (by omega) (by omega), wi (x := 2 * (cnT (stT l) nm false noL N : Int)) (by omega) (by omega)]
    by_cases g1 : 2 * (cnT (stT l) nm true noL N : Int) > N
    · rw [dt g1, cond_true, if_pos g1]
    · rw [df g1, cond_false, if_neg g1]
      by_cases g2 : 2 * (cnT (stT l) nm false noL N : Int) > N
      · rw [dt g2, cond_true, if_pos g2]
      · rw [df g2, cond_false, if_neg g2]
  · cases h
def vfF (x : List Vd × Int × Int) : Int × Int := if vsF x.1 = 0 then (if nmOk x.2.1 = true then (if 1 ≤ x.2.2 ∧ x.2.2 ≤ 10 then (0, sayT (stT x.1) x.2.1 x.2.2) else (3, 0)) else (3, 0)) else (vsF x.1, 0)
theorem vs_zero {l : List Vd} (h : vsF l = 0) : l.length ≤ 60 ∧ ∀ v ∈ l, vdOk v = true := by
  unfold vsF at h
  split at h
  · exact absurd h (by decide)
  · split at h
    · rename_i h1 h2
      exact ⟨by omega, fun v hv => List.all_eq_true.1 h2 v hv⟩
    · exact absurd h (by decide)
def mV (x : List Vd × Int × Int) : Option (Int × Int) := if x.1.length ≤ big then some (vfF x) else none
theorem sat25 : Sat prog cxT 25 (c25 mV) := s25 mVF mN mIn m51 sat21 sat40' sat41' sat51 mV fun x t h => by
  obtain ⟨l, nm, pr⟩ := x
  unfold mV at h
  split at h
  · rename_i hc
    cases h
    refine ⟨0, ?_⟩
    show g25 mVF mN mIn m51 0 l nm pr = some (vfF (l, nm, pr))
    unfold g25 vfF
    rw [show mVF l = some (vsF l) from if_pos hc, tst_some]
    by_cases e : vsF l = 0
    · obtain ⟨h6, _⟩ := vs_zero e
      rw [bneF e, cond_false, if_pos e, show mN nm = some (nmOk nm) from rfl, tst_some, show mIn (pr, ((1 : Int), (10 : Int))) = some (decide (1 ≤ pr ∧ pr ≤ 10)) from rfl, tst_some]
      cases nmOk nm with
      | false => rfl
      | true =>
        simp only [Bool.not_true, cond_false, if_true]
        by_cases hp : 1 ≤ pr ∧ pr ≤ 10
        · rw [dt hp, Bool.not_true, cond_false, if_pos hp, show m51 (l, (nm, pr)) = some (sayT (stT l) nm pr) from if_pos ⟨by simp only; omega, by simp only; omega, by simp only; omega⟩, tst_some]
        · rw [df hp, Bool.not_false, cond_true, if_neg hp]
    · rw [bneT e, cond_true, if_neg e]
  · cases h
def sdF (l : List Vd) (pr : Int) : Int := if vsF l = 0 then (if 1 ≤ pr ∧ pr ≤ 10 then 0 else 3) else vsF l
def m52 (x : List Vd × Int) : Option Int := if x.1.length ≤ big then some (sdF x.1 x.2) else none
theorem sat52 : Sat prog cxT 52 (c52 m52) := s52 mVF mIn sat23 sat44 m52 fun x t h => by
  obtain ⟨l, pr⟩ := x
  unfold m52 at h
  split at h
  · rename_i hc
    cases h
    refine ⟨0, ?_⟩
    show g52 mVF mIn 0 l pr = some (sdF l pr)
    unfold g52 sdF
    rw [show mVF l = some (vsF l) from if_pos hc, tst_some]
    by_cases e : vsF l = 0
    · rw [bneF e, cond_false, if_pos e, show mIn (pr, ((1 : Int), (10 : Int))) = some (decide (1 ≤ pr ∧ pr ≤ 10)) from rfl, tst_some]
      by_cases hp : 1 ≤ pr ∧ pr ≤ 10
      · rw [dt hp, Bool.not_true, cond_false, if_pos hp]
      · rw [df hp, Bool.not_false, cond_true, if_neg hp]
    · rw [bneT e, cond_true, if_neg e]
  · cases h
end Go.Proofs.Try

set_option maxHeartbeats 0
set_option linter.unusedVariables false
set_option linter.unusedSimpArgs false
namespace Go.Proofs.Try
open Go Go.VM Go.RowKit Go.Maps

/-! ### VerdictFor: the program's contract, the law -/
def inW (c : Int) : Prop := (Lit.int .i64 c).wf = true
instance (c : Int) : Decidable (inW c) := by unfold inW; infer_instance
def mVi (x : List Vd × Int × Int) : Option (Int × Int) := if x.1.length ≤ big ∧ inW x.2.1 then some (vfF x) else none
theorem args_cons' {w : World} {A0 : Nat → Prop} {a b : A cxT.ty} {u v : Value} (h : ArgA cxT w A0 a u) (h2 : ArgA cxT w A0 b v) : ArgAs cxT w A0 [a, b] [u, v] := by
  refine ⟨rfl, fun j c v h1 h3 => ?_⟩
  match j with
  | 0 => cases h1; cases h3; exact h
  | 1 => cases h1; cases h3; exact h2
  | j + 2 => simp at h1
theorem three_arg {w : World} {A0 : Nat → Prop} {a b c : A cxT.ty} {us : List Value} (h : ArgAs cxT w A0 [a, b, c] us) : ∃ x y z, us = [x, y, z] ∧ ArgA cxT w A0 a x ∧ ArgA cxT w A0 b y ∧ ArgA cxT w A0 c z := by
  obtain ⟨hl, h⟩ := h
  match us, hl with
  | [x, y, z], _ => exact ⟨x, y, z, rfl, h 0 _ _ rfl rfl, h 1 _ _ rfl rfl, h 2 _ _ rfl rfl⟩
theorem res_two {W : World} {A0 N : Nat → Prop} (x y : Int) : ResV cxT W A0 N (.inl (.inr [lv (.int .i64 x), lv (.int .i64 y)])) (.agg #[.int .i64 x, .int .i64 y]) := by
  refine ⟨[], List.nodup_nil, by simp, [.int .i64 x, .int .i64 y], [[], []], rfl, by simp, rfl, rfl, fun j a u f e1 e2 e3 => ?_⟩
  match j with
  | 0 => cases e1; cases e2; cases e3; exact ⟨rfl, rfl⟩
  | 1 => cases e1; cases e2; cases e3; exact ⟨rfl, rfl⟩
  | j + 2 => simp at e2
theorem q43 (n : Int) (w : World) : Calls prog 43 #[.int .i64 n] w fun e W => e = .returned (.bool (nmOk n)) ∧ Below w.heap.size w W :=
  call_one sat43 (fun _ => args_lv [.int .i64 n]) rfl w
theorem nm_range {n : Int} (h : nmOk n = true) : 1 ≤ n ∧ n ≤ 1000000 := by
  unfold nmOk at h
  have h := of_decide_eq_true h
  omega
theorem vd_wf {v : Vd} (h : vdOk v = true) : wfV v ∧ 0 ≤ v.1 := by
  unfold vdOk at h
  simp only [Bool.and_eq_true, decide_eq_true_eq] at h
  obtain ⟨⟨⟨h1, h2⟩, h3⟩, h4, h5⟩ := h
  have := nm_range h3
  exact ⟨⟨WalkArith.wf_i64 (by omega), WalkArith.wf_i64 (by omega), WalkArith.wf_i64 (by omega)⟩, h1⟩
theorem sat26 : Sat prog cxT 26 (c26 mVi) := by
  intro w A0 l us r hA hargs hF
  obtain ⟨x, t, rfl, hx, rfl⟩ := fnT_inv hF
  obtain ⟨xs, nm, pr⟩ := x
  obtain ⟨u, unm, upr, rfl, hu, hu1, hu2⟩ := three_arg (show ArgAs cxT w A0 [.inl (ls (ro 80 xs)), .inl (lv (.int .i64 nm)), .inl (lv (.int .i64 pr))] us from hargs)
  obtain rfl : unm = .int .i64 nm := hu1
  obtain rfl : upr = .int .i64 pr := hu2
  unfold mVi at hx
  split at hx
  · rename_i hc
    obtain ⟨hc, hnm⟩ := hc
    cases hx
    obtain ⟨_, n1, h1⟩ := (show (ro 80 xs : SlD cxT.ty).own = 0 ∧ ∃ n, RepL cxT w A0 n (some (.inr (ro 80 xs))) u from hu)
    obtain ⟨q, c, rfl, hcap, hq⟩ := rep_row h1
    have h52 : ∀ W, Below w.heap.size w W → Calls prog 52 #[.slice q xs.length c, .int .i64 pr] W fun e W' => e = .returned (.int .i64 (sdF xs pr)) ∧ Below W.heap.size W W' := fun W hB => by
      have hBs := hB.size
      have mono := fun (l : L cxT.ty) u (n : Nat) (h : RepL cxT w A0 n l u) => RepL_mono cxT (w' := W) (fun b hb => hB.block b (hA b hb)) (fun _ h => h) n l u h
      refine (sat52 W A0 (a52.enc (xs, pr)) [.slice q xs.length c, .int .i64 pr] (n52 (sdF xs pr)) (fun b hb => by have := hA b hb; omega) (args_cons' (a := .inl (ls (ro 80 xs))) (b := .inl (lv (.int .i64 pr))) ⟨rfl, n1, mono _ _ _ h1⟩ rfl) ?_).mono ?_
      · show some ((m52 (xs, pr)).isSome, n52 ((m52 (xs, pr)).getD dd52)) = _
        rw [show m52 (xs, pr) = some (sdF xs pr) from if_pos hc]
        rfl
      · rintro e' W' ⟨u, rfl, hb, hr⟩
        exact ⟨by rw [one_res (show ResV cxT W' A0 _ (.inl (.inl (lv (.int .i64 (sdF xs pr))))) u from hr)], hb⟩
    refine (verdict26 q c xs nm pr (sdF xs pr) (nmOk nm) w hnm h52 (q43 nm) (fun h0 => ?_) (fun h => ?_)).mono ?_
    · unfold sdF at h0
      split at h0
      · rename_i hv
        split at h0
        · rename_i hp
          obtain ⟨k1, k2⟩ := vs_zero hv
          exact ⟨k1, fun x hx => vd_wf (k2 x hx), hp.1, hp.2⟩
        · exact absurd h0 (by decide)
      · rename_i hv; exact absurd h0 hv
    · rcases hq with hq | ⟨b, off, rfl, hS, hel⟩
      · have : xs.length = 0 := by rw [show xs = [] from hq]; rfl
        exact absurd this h
      · refine ⟨b, off, rfl, hA b hS, fun j hj => ?_⟩
        have hy : (xs : List Vd)[j]? = some xs[j] := List.getElem?_eq_getElem hj
        have hg : (xs : List Vd).getD j dVd = xs[j] := getD_at dVd hj
        have hpl : ∀ (t : Nat) v, (cxT.enc 80 false xs[j])[t]? = some (lv v) → w.cell? ⟨b, off + (j * 4 + t), none⟩ = some v := fun t v h => by
          obtain ⟨u, m, k1, k2⟩ := hel j _ hy t _ h
          have h5 : u = v := by cases m <;> simpa [RepL, lv] using k2
          rw [← h5]; exact k1
        rw [hg]
        exact ⟨hpl 0 _ rfl, hpl 1 _ rfl, hpl 2 _ rfl, hpl 3 _ rfl⟩
    · rintro e W ⟨rfl, hB⟩
      refine ⟨_, rfl, hB, ?_⟩
      have e1 : vfF (xs, nm, pr) = (if sdF xs pr = 0 then (if nmOk nm = true then 0 else 3) else sdF xs pr, if sdF xs pr = 0 ∧ nmOk nm = true then sayT (stT xs) nm pr else 0) := by
        unfold vfF sdF
        simp only
        by_cases e : vsF xs = 0
        · rw [if_pos e, if_pos e]
          by_cases hp : 1 ≤ pr ∧ pr ≤ 10
          · rw [if_pos hp, if_pos hp]
            cases nmOk nm <;> simp
          · rw [if_neg hp, if_neg hp]
            cases nmOk nm <;> simp
        · rw [if_neg e, if_neg e, if_neg e, if_neg (fun h => e h.1)]
      show ResV cxT W A0 _ (.inl (.inr [lv (.int .i64 (vfF (xs, nm, pr)).1), lv (.int .i64 (vfF (xs, nm, pr)).2)])) _
      rw [e1]
      exact res_two _ _
  · cases hx
def m27 (x : (Int × Int) × (Int × Int)) : Option Bool := some (decide (x.1 = x.2))
theorem sat27' : Sat prog cxT 27 (c27 m27) := sat27
def m7 (x : List Vd × Int × Int) : Option Bool := if x.1.length ≤ top ∧ inW x.2.1 then some true else none
theorem sat7 : Sat prog cxT 7 (c7 m7) := s7 m20 m22 mV mVi m27 m24 sat20 sat22 sat25 sat26 sat27' sat24 m7 fun x t h => by
  obtain ⟨l, nm, pr⟩ := x
  unfold m7 at h
  split at h
  · rename_i hz
    obtain ⟨hz, hw⟩ := hz
    have hz : l.length ≤ top := hz
    cases h
    refine ⟨0, ?_⟩
    show g7 m20 m22 mV mVi m27 m24 0 l nm pr = some true
    unfold g7
    rw [show m20 (l, 1048576) = some (szv 1048576 l.length) from if_pos ⟨by simp only; omega, by simp only; omega, hz⟩, tst_some]
    by_cases h : szv 1048576 (l.length : Int) < 0
    · rw [dt h, cond_true]
    · rw [df h, cond_false]
      have hl : l.length ≤ 1048576 := by unfold szv at h; split at h <;> omega
      have e22 : m22 l = some l := if_pos (by unfold mid; omega)
      have eV : mV (l, nm, pr) = some (vfF (l, nm, pr)) := if_pos (by show l.length ≤ big; unfold big; omega)
      have eI : mVi (l, nm, pr) = some (vfF (l, nm, pr)) := if_pos ⟨by show l.length ≤ big; unfold big; omega, hw⟩
      have e24 : m24 (l, l) = some true := (if_pos (by show l.length ≤ big; unfold big; omega)).trans (by rw [dt rfl])
      have e27 : ∀ a b : Int, m27 ((a, b), a, b) = some true := fun a b => by unfold m27; rw [dt rfl]
      simp only [e22, tst_some, eV, eI, e24, e27, Bool.not_true, cond_false]
  · cases h
end Go.Proofs.Try
