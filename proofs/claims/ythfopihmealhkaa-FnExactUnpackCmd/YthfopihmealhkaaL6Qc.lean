/- A part of the proof of FnExactUnpackCmd: L6Qc, L6Qh, L6Qi, L6Pk, L6Rb. -/
import Derived.Test.YthfopihmealhkaaL6Qb
import Derived.Test.YthfopihmealhkaaVmCb
import Derived.Test.YthfopihmealhkaaL6Fe
import Derived.Test.YthfopihmealhkaaL6Qe
import Derived.Test.YthfopihmealhkaaL6Qf
import Derived.Test.YthfopihmealhkaaL6Qga
import Derived.Test.YthfopihmealhkaaL6Qgb
import Derived.Test.YthfopihmealhkaaL6Qgc
import Derived.Test.YthfopihmealhkaaL6Qgd
import Derived.Test.YthfopihmealhkaaL6Qge
import Derived.Test.YthfopihmealhkaaL6Pb
set_option maxHeartbeats 0
set_option linter.unusedVariables false
set_option linter.unusedSimpArgs false
namespace Go.Proofs.Try
open Go Go.VM Go.RowKit

def ynOk (x : Int) : Bool := decide (x = 0 ∨ x = 1)
theorem sat161 : Sat prog cxT 161 (c161 fun x => some (ynOk x)) := s161 _ fun x t h => by cases h; exact ⟨0, bif_or⟩
def nuOk (k n : Int) : Bool := if k = 1 ∨ k = 2 then wtOk n else if k = 3 then stOk n else if k = 9 then ynOk n else ptOk n
theorem ynOk_eq (x : Int) : decide ((0 : Int) ≤ x ∧ x ≤ 1) = ynOk x := by
  unfold ynOk
  by_cases h : x = 0 ∨ x = 1
  · rw [dt h, dt (by omega)]
  · rw [df h, df (by omega)]
theorem sat108 : Sat prog cxT 108 (c108 fun x => some (nuOk x.1 x.2.2.2.2.1)) := s108 _ _ sat105 sat150 _ fun x t h => by
  obtain ⟨k, b, c, d, n, p⟩ := x
  cases h
  refine ⟨0, ?_⟩
  show g108 _ _ 0 k b c d n p = some (nuOk k n)
  unfold g108 nuOk
  simp only [tst_some]
  by_cases h1 : k = 1
  · subst h1; rfl
  by_cases h2 : k = 2
  · subst h2; rfl
  by_cases h3 : k = 3
  · subst h3; rfl
  by_cases h9 : k = 9
  · subst h9
    show some (decide ((0 : Int) ≤ n ∧ n ≤ 1)) = some (ynOk n)
    rw [ynOk_eq]
  rw [beqF h1, beqF h2, beqF h3, beqF h9, if_neg (by omega), if_neg h3, if_neg h9]
  rfl

/-- What is not right with a command. -/
def cmF (x : Cm) : Int :=
  if 1 ≤ x.1 ∧ x.1 ≤ 9 then
    (bif (x.2.1 != -1 && !vrOk x.2.1) || ((nd x.1).1 && !nmOk x.2.2.1) || ((nd x.1).2.1 && !adOk x.2.2.2.1) || ((nd x.1).2.2.1 && !nuOk x.1 x.2.2.2.2.1) || ((nd x.1).2.2.2 && !prOk x.2.2.2.2.2) then 3
     else bif (!(nd x.1).1 && x.2.2.1 != 0) || (!(nd x.1).2.1 && x.2.2.2.1 != 0) || (!(nd x.1).2.2.1 && x.2.2.2.2.1 != 0) || (!(nd x.1).2.2.2 && x.2.2.2.2.2 != 0) then 1 else 0)
  else 1
theorem cb91 (n : Int) : CB 91 #[.int .i64 n] (.bool (vrOk n)) := call_one sat91 (fun _ => args_lv [.int .i64 n]) rfl
theorem cb131 (n : Int) : CB 131 #[.int .i64 n] (.bool (nmOk n)) := call_one sat131 (fun _ => args_lv [.int .i64 n]) rfl
theorem cb132 (n : Int) : CB 132 #[.int .i64 n] (.bool (adOk n)) := call_one sat132 (fun _ => args_lv [.int .i64 n]) rfl
theorem cb133 (n : Int) : CB 133 #[.int .i64 n] (.bool (wtOk n)) := call_one sat133 (fun _ => args_lv [.int .i64 n]) rfl
theorem cb134 (n : Int) : CB 134 #[.int .i64 n] (.bool (stOk n)) := call_one sat134 (fun _ => args_lv [.int .i64 n]) rfl
theorem cb135 (n : Int) : CB 135 #[.int .i64 n] (.bool (ptOk n)) := call_one sat135 (fun _ => args_lv [.int .i64 n]) rfl
theorem cb136 (n : Int) : CB 136 #[.int .i64 n] (.bool (prOk n)) := call_one sat136 (fun _ => args_lv [.int .i64 n]) rfl
theorem cb161 (n : Int) : CB 161 #[.int .i64 n] (.bool (ynOk n)) := call_one sat161 (fun _ => args_lv [.int .i64 n]) rfl
theorem cb99 (n : Int) : CB 99 #[.int .i64 n] (.bool (vrOk n)) := call_one sat99 (fun _ => args_lv [.int .i64 n]) rfl
theorem cb106 (n : Int) : CB 106 #[.int .i64 n] (.bool (nmOk n)) := call_one sat106 (fun _ => args_lv [.int .i64 n]) rfl
theorem cb107 (n : Int) : CB 107 #[.int .i64 n] (.bool (adOk n)) := call_one sat107 (fun _ => args_lv [.int .i64 n]) rfl
theorem cb109 (n : Int) : CB 109 #[.int .i64 n] (.bool (prOk n)) := call_one sat109 (fun _ => args_lv [.int .i64 n]) rfl
theorem cb105 (a b c : Int) : CB 105 #[.int .i64 a, .int .i64 b, .int .i64 c] (.bool (decide (b ≤ a ∧ a ≤ c))) := call_one sat105 (fun _ => args_lv [.int .i64 a, .int .i64 b, .int .i64 c]) rfl
def cV (x : Cm) : List Value := [.int .i64 x.1, .int .i64 x.2.1, .int .i64 x.2.2.1, .int .i64 x.2.2.2.1, .int .i64 x.2.2.2.2.1, .int .i64 x.2.2.2.2.2]
theorem cb108 (x : Cm) : CB 108 #[.agg (cV x).toArray] (.bool (nuOk x.1 x.2.2.2.2.1)) := call_one sat108 (fun _ => args_agg (cV x)) rfl
theorem cb90 (k : Int) : CB 90 #[.int .i64 k] (.tuple #[.bool (nd k).1, .bool (nd k).2.1, .bool (nd k).2.2.1, .bool (nd k).2.2.2]) := call_tup (vs := [.bool (nd k).1, .bool (nd k).2.1, .bool (nd k).2.2.1, .bool (nd k).2.2.2]) sat90 (fun _ => args_lv [.int .i64 k]) rfl
theorem cb111 {k : Int} (hk : 1 ≤ k ∧ k ≤ 9) : CB 111 #[.int .i64 k] (.agg (ruL k).toArray) := call_agg (vs := ruL k) sat111 (fun _ => args_lv [.int .i64 k]) (if_pos hk)
theorem rl131 (n : Int) : Rl n (fnV 131) (some (nmOk n)) := .yes 131 _ (fun _ _ => by kernel_rfl) (cb131 n)
theorem rl132 (n : Int) : Rl n (fnV 132) (some (adOk n)) := .yes 132 _ (fun _ _ => by kernel_rfl) (cb132 n)
theorem rl133 (n : Int) : Rl n (fnV 133) (some (wtOk n)) := .yes 133 _ (fun _ _ => by kernel_rfl) (cb133 n)
theorem rl134 (n : Int) : Rl n (fnV 134) (some (stOk n)) := .yes 134 _ (fun _ _ => by kernel_rfl) (cb134 n)
theorem rl135 (n : Int) : Rl n (fnV 135) (some (ptOk n)) := .yes 135 _ (fun _ _ => by kernel_rfl) (cb135 n)
theorem rl136 (n : Int) : Rl n (fnV 136) (some (prOk n)) := .yes 136 _ (fun _ _ => by kernel_rfl) (cb136 n)
theorem rl161 (n : Int) : Rl n (fnV 161) (some (ynOk n)) := .yes 161 _ (fun _ _ => by kernel_rfl) (cb161 n)
/-- What the rules of a kind say of a command's numbers. -/
def osK (k c d e f : Int) : List (Option Bool) :=
  if k = 1 then [some (nmOk c), some (adOk d), some (wtOk e), none] else
  if k = 2 then [some (nmOk c), none, some (wtOk e), none] else
  if k = 3 then [some (nmOk c), none, some (stOk e), none] else
  if k = 4 then [some (nmOk c), none, none, none] else
  if k = 5 ∨ k = 6 then [none, some (adOk d), some (ptOk e), some (prOk f)] else
  if k = 7 ∨ k = 8 then [some (nmOk c), some (adOk d), some (ptOk e), some (prOk f)] else
  [some (nmOk c), none, some (ynOk e), none]
theorem nine {k : Int} (hk : 1 ≤ k ∧ k ≤ 9) : k = 1 ∨ k = 2 ∨ k = 3 ∨ k = 4 ∨ k = 5 ∨ k = 6 ∨ k = 7 ∨ k = 8 ∨ k = 9 := by omega
theorem rules (k c d e f : Int) (hk : 1 ≤ k ∧ k ≤ 9) : ∃ r0 r1 r2 r3 fa o0 o1 o2 o3, ruL k = [r0, r1, r2, r3, .func (.func fa) #[] #[]] ∧ osK k c d e f = [o0, o1, o2, o3] ∧ Rl c r0 o0 ∧ Rl d r1 o1 ∧ Rl e r2 o2 ∧ Rl f r3 o3 := by
  rcases nine hk with rfl | rfl | rfl | rfl | rfl | rfl | rfl | rfl | rfl
  · exact ⟨_, _, _, _, _, _, _, _, _, rfl, rfl, rl131 c, rl132 d, rl133 e, .no⟩
  · exact ⟨_, _, _, _, _, _, _, _, _, rfl, rfl, rl131 c, .no, rl133 e, .no⟩
  · exact ⟨_, _, _, _, _, _, _, _, _, rfl, rfl, rl131 c, .no, rl134 e, .no⟩
  · exact ⟨_, _, _, _, _, _, _, _, _, rfl, rfl, rl131 c, .no, .no, .no⟩
  · exact ⟨_, _, _, _, _, _, _, _, _, rfl, rfl, .no, rl132 d, rl135 e, rl136 f⟩
  · exact ⟨_, _, _, _, _, _, _, _, _, rfl, rfl, .no, rl132 d, rl135 e, rl136 f⟩
  · exact ⟨_, _, _, _, _, _, _, _, _, rfl, rfl, rl131 c, rl132 d, rl135 e, rl136 f⟩
  · exact ⟨_, _, _, _, _, _, _, _, _, rfl, rfl, rl131 c, rl132 d, rl135 e, rl136 f⟩
  · exact ⟨_, _, _, _, _, _, _, _, _, rfl, rfl, rl131 c, .no, rl161 e, .no⟩
/-- What the four fields come to. -/
def fR (n1 n2 n3 n4 z2 z3 z4 z5 : Bool) (c d e f : Int) : Int :=
  bif (n1 && !z2) || (n2 && !z3) || (n3 && !z4) || (n4 && !z5) then 3 else bif (!n1 && c != 0) || (!n2 && d != 0) || (!n3 && e != 0) || (!n4 && f != 0) then 1 else 0
theorem cmF_eq {k b c d e f : Int} (hk : 1 ≤ k ∧ k ≤ 9) : cmF (k, b, c, d, e, f) = bif (b != -1 && !vrOk b) then 3 else fR (nd k).1 (nd k).2.1 (nd k).2.2.1 (nd k).2.2.2 (nmOk c) (adOk d) (nuOk k e) (prOk f) c d e f := by
  unfold cmF fR
  rw [if_pos hk]
  simp only
  generalize (b != -1 && !vrOk b) = g
  cases g <;> rfl
end Go.Proofs.Try

set_option maxHeartbeats 0
set_option linter.unusedVariables false
set_option linter.unusedSimpArgs false
namespace Go.Proofs.Try
open Go Go.VM Go.RowKit

def vl (o0 o1 o2 o3 : Option Bool) (c d e f : Int) : Int :=
  bif (o0 == some false) || (o1 == some false) || (o2 == some false) || (o3 == some false) then 3 else bif (o0 == none && c != 0) || (o1 == none && d != 0) || (o2 == none && e != 0) || (o3 == none && f != 0) then 1 else 0
theorem nsf {o : Option Bool} (h : o ≠ some false) : (o == some false) = false := by
  rcases o with _ | _ | _
  · rfl
  · exact absurd rfl h
  · rfl
theorem res_val {o0 o1 o2 o3 : Option Bool} {c d e f : Int} {en : Ending} (h : res58 [o0, o1, o2, o3] [c, d, e, f] en) : en = .returned (.int .i64 (vl o0 o1 o2 o3 c d e f)) := by
  have four : ∀ p, p < 4 → p = 0 ∨ p = 1 ∨ p = 2 ∨ p = 3 := fun p h => by omega
  rcases h with ⟨rfl, p, hp, hq⟩ | ⟨h, h2⟩
  · unfold vl
    rcases four p hp with rfl | rfl | rfl | rfl
    · rw [show o0 = some false from hq]; simp
    · rw [show o1 = some false from hq]; simp
    · rw [show o2 = some false from hq]; simp
    · rw [show o3 = some false from hq]; simp
  · have a0 : (o0 == some false) = false := nsf (h 0 (by omega))
    have a1 : (o1 == some false) = false := nsf (h 1 (by omega))
    have a2 : (o2 == some false) = false := nsf (h 2 (by omega))
    have a3 : (o3 == some false) = false := nsf (h 3 (by omega))
    unfold vl
    rw [a0, a1, a2, a3]
    rcases h2 with ⟨rfl, p, hp, hq, hn⟩ | ⟨rfl, hz⟩
    · rcases four p hp with rfl | rfl | rfl | rfl
      · rw [show o0 = none from hq, show (c != 0) = true from bneT hn]; simp
      · rw [show o1 = none from hq, show (d != 0) = true from bneT hn]; simp
      · rw [show o2 = none from hq, show (e != 0) = true from bneT hn]; simp
      · rw [show o3 = none from hq, show (f != 0) = true from bneT hn]; simp
    · have g : ∀ (o : Option Bool) (v : Int), (o = none → v = 0) → (o == none && v != 0) = false := fun o v h => by
        cases o with
        | none => rw [h rfl]; rfl
        | some z => rfl
      rw [g o0 c (hz 0 (by omega)), g o1 d (hz 1 (by omega)), g o2 e (hz 2 (by omega)), g o3 f (hz 3 (by omega))]
      rfl
theorem val_fR {k c d e f : Int} (hk : 1 ≤ k ∧ k ≤ 9) {o0 o1 o2 o3 : Option Bool} (ho : osK k c d e f = [o0, o1, o2, o3]) : vl o0 o1 o2 o3 c d e f = fR (nd k).1 (nd k).2.1 (nd k).2.2.1 (nd k).2.2.2 (nmOk c) (adOk d) (nuOk k e) (prOk f) c d e f := by
  have hs : ∀ z : Bool, ((some z : Option Bool) == some false) = !z := fun z => by cases z <;> rfl
  have hn : ∀ z : Bool, ((some z : Option Bool) == none) = false := fun z => rfl
  rcases nine hk with rfl | rfl | rfl | rfl | rfl | rfl | rfl | rfl | rfl <;> cases ho <;> unfold vl fR <;> simp only [hs, hn] <;> simp [nd, nuOk]
def m58 (x : Cm) : Option Int := some (cmF x)
theorem agg1 {w : World} {A0 : Nat → Prop} {x : Cm} {us : List Value} (h : ArgAs cxT w A0 (a58.enc x) us) : us = [.agg (cV x).toArray] := by
  obtain ⟨u, rfl, hu⟩ := one_arg (show ArgAs cxT w A0 [.inr ((cV x).map lv)] us from h)
  rw [agg_arg hu]
theorem sat58 : Sat prog cxT 58 (c58 m58) := by
  intro w A0 l us r hA hargs hF
  obtain ⟨x, t, rfl, hx, rfl⟩ := fnT_inv hF
  cases hx
  rw [agg1 hargs]
  obtain ⟨k, b, c, d, e, f⟩ := x
  have fin : Calls prog 58 #[.agg #[.int .i64 k, .int .i64 b, .int .i64 c, .int .i64 d, .int .i64 e, .int .i64 f]] w fun e' w' => e' = .returned (.int .i64 (cmF (k, b, c, d, e, f))) ∧ Below w.heap.size w w' := by
    by_cases hk : 1 ≤ k ∧ k ≤ 9
    · rw [cmF_eq hk]
      obtain ⟨r0, r1, r2, r3, fa, o0, o1, o2, o3, hr, ho, h0, h1, h2, h3⟩ := rules k c d e f hk
      have h111 := cb111 hk
      rw [hr] at h111
      rw [← val_fR hk ho]
      by_cases hb : b = -1
      · subst hb
        exact (in58a k c d e f hk r0 r1 r2 r3 _ o0 o1 o2 o3 h0 h1 h2 h3 fa rfl h111 w).mono fun e' w' ⟨h, hw⟩ => ⟨res_val h, hw⟩
      · have hb2 : (b != -1) = true := bneT hb
        rw [hb2, Bool.true_and]
        cases hv : vrOk b with
        | true => exact (in58b k b c d e f hk hb (by have := cb91 b; rwa [hv] at this) r0 r1 r2 r3 _ o0 o1 o2 o3 h0 h1 h2 h3 fa rfl h111 w).mono fun e' w' ⟨h, hw⟩ => ⟨res_val h, hw⟩
        | false => exact bad58 k b c d e f hk hb (by have := cb91 b; rwa [hv] at this) w
    · have e : cmF (k, b, c, d, e, f) = 1 := if_neg hk
      rw [e]
      exact out58 k b c d _ f hk w
  exact fin.mono fun e' w' ⟨he, hw⟩ => ⟨_, he, hw, res_lv _⟩
end Go.Proofs.Try

set_option maxHeartbeats 0
set_option linter.unusedVariables false
set_option linter.unusedSimpArgs false
namespace Go.Proofs.Try
open Go Go.VM Go.RowKit
theorem b01 (p : Prop) [Decidable p] : (if p then (1 : Int) else 0) = bif decide p then 1 else 0 := by by_cases h : p <;> simp [h]
theorem ne0 (c : Int) : decide (c ≠ 0) = (c != 0) := by by_cases h : c = 0 <;> simp [h]
theorem tin105 {k : Int} (hk : 1 ≤ k ∧ k ≤ 9) : CB 105 #[.int .i64 k, .int .i64 1, .int .i64 9] (.bool true) := by
  have := cb105 k 1 9
  rwa [dt hk] at this
theorem in56 (k b c d e f : Int) (hk : 1 ≤ k ∧ k ≤ 9) (w : World) : Calls prog 56 #[.agg #[.int .i64 k, .int .i64 b, .int .i64 c, .int .i64 d, .int .i64 e, .int .i64 f]] w fun e' w' => e' = .returned (.int .i64 (cmF (k, b, c, d, e, f))) ∧ Below w.heap.size w w' := by
  have h5 := tin105 hk
  have h9 := cb90 k
  have h8 := cb108 (k, b, c, d, e, f)
  have hr := cmF_eq (b := b) (c := c) (d := d) (e := e) (f := f) hk
  rcases nine hk with rfl | rfl | rfl | rfl | rfl | rfl | rfl | rfl | rfl
  · exact in56a 1 b c d e f _ _ rfl h5 h9 (cb99 b) _ (cb106 c) _ (cb107 d) _ h8 _ (by rw [hr]; unfold fR; simp only [b01, Bool.decide_or, ne0]; simp [nd, nuOk]; cases (b != -1 && !vrOk b) <;> simp [Bool.or_assoc]) w
  · exact in56b 2 b c d e f _ _ rfl h5 h9 (cb99 b) _ (cb106 c) _ h8 _ (by rw [hr]; unfold fR; simp only [b01, Bool.decide_or, ne0]; simp [nd, nuOk]; cases (b != -1 && !vrOk b) <;> simp [Bool.or_assoc]) w
  · exact in56b 3 b c d e f _ _ rfl h5 h9 (cb99 b) _ (cb106 c) _ h8 _ (by rw [hr]; unfold fR; simp only [b01, Bool.decide_or, ne0]; simp [nd, nuOk]; cases (b != -1 && !vrOk b) <;> simp [Bool.or_assoc]) w
  · exact in56c 4 b c d e f _ _ rfl h5 h9 (cb99 b) _ (cb106 c) _ (by rw [hr]; unfold fR; simp only [b01, Bool.decide_or, ne0]; simp [nd, nuOk]; cases (b != -1 && !vrOk b) <;> simp [Bool.or_assoc]) w
  · exact in56d 5 b c d e f _ _ rfl h5 h9 (cb99 b) _ (cb107 d) _ h8 _ (cb109 f) _ (by rw [hr]; unfold fR; simp only [b01, Bool.decide_or, ne0]; simp [nd, nuOk]; cases (b != -1 && !vrOk b) <;> simp [Bool.or_assoc]) w
  · exact in56d 6 b c d e f _ _ rfl h5 h9 (cb99 b) _ (cb107 d) _ h8 _ (cb109 f) _ (by rw [hr]; unfold fR; simp only [b01, Bool.decide_or, ne0]; simp [nd, nuOk]; cases (b != -1 && !vrOk b) <;> simp [Bool.or_assoc]) w
  · exact in56e 7 b c d e f _ _ rfl h5 h9 (cb99 b) _ (cb106 c) _ (cb107 d) _ h8 _ (cb109 f) _ (by rw [hr]; unfold fR; simp only [b01, Bool.decide_or, ne0]; simp [nd, nuOk]; cases (b != -1 && !vrOk b) <;> simp [Bool.or_assoc]) w
  · exact in56e 8 b c d e f _ _ rfl h5 h9 (cb99 b) _ (cb106 c) _ (cb107 d) _ h8 _ (cb109 f) _ (by rw [hr]; unfold fR; simp only [b01, Bool.decide_or, ne0]; simp [nd, nuOk]; cases (b != -1 && !vrOk b) <;> simp [Bool.or_assoc]) w
  · exact in56b 9 b c d e f _ _ rfl h5 h9 (cb99 b) _ (cb106 c) _ h8 _ (by rw [hr]; unfold fR; simp only [b01, Bool.decide_or, ne0]; simp [nd, nuOk]; cases (b != -1 && !vrOk b) <;> simp [Bool.or_assoc]) w
theorem sat56 : Sat prog cxT 56 (c56 m58) := by
  intro w A0 l us r hA hargs hF
  obtain ⟨x, t, rfl, hx, rfl⟩ := fnT_inv hF
  cases hx
  rw [show us = [.agg (cV x).toArray] from agg1 hargs]
  obtain ⟨k, b, c, d, e, f⟩ := x
  have fin : Calls prog 56 #[.agg #[.int .i64 k, .int .i64 b, .int .i64 c, .int .i64 d, .int .i64 e, .int .i64 f]] w fun e' w' => e' = .returned (.int .i64 (cmF (k, b, c, d, e, f))) ∧ Below w.heap.size w w' := by
    by_cases hk : 1 ≤ k ∧ k ≤ 9
    · exact in56 k b c d e f hk w
    · have e' : cmF (k, b, c, d, e, f) = 1 := if_neg hk
      rw [e']
      exact out56 k b c d _ f hk w
  exact fin.mono fun e' w' ⟨he, hw⟩ => ⟨_, he, hw, res_lv _⟩
end Go.Proofs.Try

set_option maxHeartbeats 0
set_option linter.unusedVariables false
set_option linter.unusedSimpArgs false
namespace Go.Proofs.Try
open Go Go.VM Go.RowKit

/-! ### Commands in bytes -/
structure CmIn (x : Cm) : Prop where
  k : 1 ≤ x.1 ∧ x.1 ≤ 9
  b : -1 ≤ x.2.1 ∧ x.2.1 ≤ 1000000
  c : 0 ≤ x.2.2.1 ∧ x.2.2.1 ≤ 999
  d : 0 ≤ x.2.2.2.1 ∧ x.2.2.2.1 ≤ 4294967295
  e : 0 ≤ x.2.2.2.2.1 ∧ x.2.2.2.2.1 ≤ 65535
  f : 0 ≤ x.2.2.2.2.2 ∧ x.2.2.2.2.2 ≤ 17
theorem nuOk_in {k n : Int} (h : nuOk k n = true) : 0 ≤ n ∧ n ≤ 65535 := by
  unfold nuOk wtOk stOk ynOk ptOk at h
  split at h
  · have := of_decide_eq_true h; omega
  · split at h
    · have := of_decide_eq_true h; omega
    · split at h
      · have := of_decide_eq_true h; omega
      · exact of_decide_eq_true h
theorem cm_in {x : Cm} (h : cmF x = 0) : CmIn x := by
  obtain ⟨k, b, c, d, e, f⟩ := x
  by_cases hk : 1 ≤ k ∧ k ≤ 9
  · rw [cmF_eq hk] at h
    cases hb : (b != -1 && !vrOk b) with
    | true => rw [hb, cond_true] at h; exact absurd h (by decide)
    | false =>
      rw [hb, cond_false] at h
      unfold fR at h
      generalize (nd k).1 = n1, (nd k).2.1 = n2, (nd k).2.2.1 = n3, (nd k).2.2.2 = n4 at h
      cases h1 : ((n1 && !nmOk c) || (n2 && !adOk d) || (n3 && !nuOk k e) || (n4 && !prOk f)) with
      | true => rw [h1, cond_true] at h; exact absurd h (by decide)
      | false =>
        rw [h1, cond_false] at h
        cases h2 : ((!n1 && c != 0) || (!n2 && d != 0) || (!n3 && e != 0) || (!n4 && f != 0)) with
        | true => rw [h2, cond_true] at h; exact absurd h (by decide)
        | false =>
          simp only [Bool.or_eq_false_iff, Bool.and_eq_false_iff, Bool.not_eq_false', Bool.not_eq_true'] at hb h1 h2
          obtain ⟨⟨⟨a1, a2⟩, a3⟩, a4⟩ := h1
          obtain ⟨⟨⟨z1, z2⟩, z3⟩, z4⟩ := h2
          refine ⟨hk, ?_, ?_, ?_, ?_, ?_⟩
          · rcases hb with hb | hb
            · have : b = -1 := by simpa using hb
              subst this; simp
            · have := of_decide_eq_true (show decide (0 ≤ b ∧ b ≤ 1000000) = true from hb)
              simp only; omega
          · simp only
            rcases z1 with z | z
            · rcases a1 with a | a
              · rw [a] at z; cases z
              · have := nm_in a; omega
            · have : c = 0 := by simpa using z
              omega
          · simp only
            rcases z2 with z | z
            · rcases a2 with a | a
              · rw [a] at z; cases z
              · have := of_decide_eq_true (show decide (0 ≤ d ∧ d ≤ 4294967295) = true from a); omega
            · have : d = 0 := by simpa using z
              omega
          · simp only
            rcases z3 with z | z
            · rcases a3 with a | a
              · rw [a] at z; cases z
              · exact nuOk_in a
            · have : e = 0 := by simpa using z
              omega
          · simp only
            rcases z4 with z | z
            · rcases a4 with a | a
              · rw [a] at z; cases z
              · have := of_decide_eq_true (show decide (f = 6 ∨ f = 17) = true from a); omega
            · have : f = 0 := by simpa using z
              omega
  · have : cmF (k, b, c, d, e, f) = 1 := if_neg hk
    rw [this] at h
    exact absurd h (by decide)
def cmB (x : Cm) : List Int := numB x.1 1 ++ numB (x.2.1 + 1) 4 ++ numB x.2.2.1 2 ++ numB x.2.2.2.1 4 ++ numB x.2.2.2.2.1 2 ++ numB x.2.2.2.2.2 1
theorem cmB_len (x : Cm) : (cmB x).length = 14 := by simp [cmB, numB_len]
def pM (x : Cm) : Int × List Int := if cmF x = 0 then (0, cmB x) else (cmF x, [])
def mPM (x : Cm) : Option (Int × List Int) := some (pM x)
theorem sat18 : Sat prog cxT 18 (c18 mPM) := s18 m58 m60 m61 m59 sat58 sat60 sat61 sat59 mPM fun x t h => by
  obtain ⟨k, b, c, d, e, f⟩ := x
  cases h
  refine ⟨0, ?_⟩
  show g18 m58 m60 m61 m59 0 k b c d e f = some (pM (k, b, c, d, e, f))
  unfold g18 pM
  rw [show m58 (k, b, c, d, e, f) = some (cmF (k, b, c, d, e, f)) from rfl, tst_some]
  by_cases h0 : cmF (k, b, c, d, e, f) = 0
  · obtain ⟨hk, hb, hc, hd, he, hf⟩ := cm_in h0
    simp only at hk hb hc hd he hf
    rw [bneF h0, cond_false, if_pos h0, wi (by omega) (by omega), show m60 (k, (1 : Int)) = some (numB k 1) from pk (z := 1) (by omega) (by omega) (by omega), tst_some,
      show m60 (b + 1, (4 : Int)) = some (numB (b + 1) 4) from pk (z := 4) (by omega) (by omega) (by omega), tst_some, show m61 c = some (numB c 2) from if_pos hc, tst_some,
      show m60 (d, (4 : Int)) = some (numB d 4) from pk (z := 4) (by omega) (by omega) (by omega), tst_some, show m60 (e, (2 : Int)) = some (numB e 2) from pk (z := 2) (by omega) (by omega) (by omega), tst_some,
      show m60 (f, (1 : Int)) = some (numB f 1) from pk (z := 1) (by omega) (by omega) (by omega), tst_some]
    have hj : m59 [numB k 1, numB (b + 1) 4, numB c 2, numB d 4, numB e 2, numB f 1] = some (cmB (k, b, c, d, e, f)) := by
      unfold m59 cmB
      rw [if_pos ⟨by simp, by simp [numB_len]⟩]
      simp
    rw [hj, tst_some]
  · rw [bneT h0, cond_true, if_neg h0]
end Go.Proofs.Try

set_option maxHeartbeats 0
set_option linter.unusedVariables false
set_option linter.unusedSimpArgs false
namespace Go.Proofs.Try
open Go Go.VM Go.RowKit

def iv (x : Int) : Bool := decide (-9223372036854775808 ≤ x) && decide (x ≤ 9223372036854775807)
def m188 (x : Int) : Option Bool := some (decide (1 ≤ x ∧ x ≤ 6))
theorem sat188 : Sat prog cxT 188 (c188 m188) := s188 m188 fun x t h => by
  cases h
  refine ⟨0, ?_⟩
  unfold g188
  by_cases h1 : 1 ≤ x <;> simp [h1]
/-! numbers in bytes -/
def num (a : List Int) (h : Int) : Int := a.foldl (fun h x => h * 256 + x) h
theorem num_nil (h : Int) : num [] h = h := rfl
theorem num_cons (x : Int) (a : List Int) (h : Int) : num (x :: a) h = num a (h * 256 + x) := rfl
theorem pow256 {i : Nat} (h : i < 6) : (256 : Int) ^ i ≤ 1099511627776 := by
  have : i = 0 ∨ i = 1 ∨ i = 2 ∨ i = 3 ∨ i = 4 ∨ i = 5 := by omega
  rcases this with rfl | rfl | rfl | rfl | rfl | rfl <;> decide
theorem num_bound : ∀ (a : List Int) (h : Int) (i : Nat), okB a = true → 0 ≤ h → h < 256 ^ i → 0 ≤ num a h ∧ num a h < 256 ^ (i + a.length)
  | [], h, i, _, h0, h1 => ⟨h0, h1⟩
  | x :: a, h, i, hb, h0, h1 => by
    obtain ⟨hx, hb⟩ := okB_cons.1 hb
    have hp : (256 : Int) ^ (i + 1) = 256 ^ i * 256 := Int.pow_succ ..
    have := num_bound a (h * 256 + x) (i + 1) hb (by omega) (by omega)
    rw [num_cons, List.length_cons, show i + (a.length + 1) = i + 1 + a.length by omega]
    exact this

def m63 (x : List Int × Int × Int) : Option Int :=
  if okB x.1 = true ∧ x.1.length ≤ 1000000000000 ∧ 0 ≤ x.2.1 ∧ 0 ≤ x.2.2 ∧ x.2.2 ≤ 6 ∧ x.2.1 + x.2.2 ≤ x.1.length then some (num ((x.1.drop x.2.1.toNat).take x.2.2.toNat) 0) else none
theorem p63 (L : Nat) (a : List Int) (p z : Nat) (hb : okB a = true) (hl : a.length ≤ 1000000000000) (hz : z ≤ 6) (hp : p + z ≤ a.length) (k : Int → Option Int) : ∀ (n i : Nat) (h : Int), i ≤ z → z < n + i → 0 ≤ h → h < 256 ^ i →
    l63_0 L a p z n h i k = k (num ((a.drop (p + i)).take (z - i)) h)
  | 0, i, h, h2, h3, _, _ => by omega
  | n + 1, i, h, h2, h3, h4, h5 => by
    unfold l63_0
    by_cases hi : i < z
    · have hx := okB_get hb (show p + i < a.length by omega)
      have hq := pow256 (show i < 6 by omega)
      have e1 : ((p : Int) + (i : Int)) = ((p + i : Nat) : Int) := by simp
      simp (disch := omega) only [dt, df, wi, cond_true, Bool.and_self]
      rw [e1]
      simp (disch := omega) only [dt, wi, cond_true, Bool.and_self, Int.toNat_natCast]
      have hp2 : (256 : Int) ^ (i + 1) = 256 ^ i * 256 := Int.pow_succ ..
      have := p63 L a p z hb hl hz hp k n (i + 1) (h * 256 + a.getD (p + i) 0) (by omega) (by omega) (by omega) (by omega)
      simp only [Int.natCast_add, Int.cast_ofNat_Int] at this
      rw [this, drop_cons 0 (show p + i < a.length by omega), show z - i = (z - (i + 1)) + 1 by omega, List.take_succ_cons, num_cons]
      rfl
    · simp (disch := omega) only [df, cond_false]
      rw [show z - i = 0 by omega, List.take_zero, num_nil]
theorem sat63 : Sat prog cxT 63 (c63 m63) := s63 m63 fun x t h => by
  obtain ⟨a, p, z⟩ := x
  unfold m63 at h
  split at h
  · rename_i hc
    obtain ⟨h1, h2, h3, h4, h5, h6⟩ := hc
    simp only at h1 h2 h3 h4 h5 h6 h
    cases h
    refine ⟨7, ?_⟩
    obtain ⟨p, rfl⟩ := Int.eq_ofNat_of_zero_le h3
    obtain ⟨z, rfl⟩ := Int.eq_ofNat_of_zero_le h4
    have := p63 7 a p z h1 h2 (by omega) (by omega) some 7 0 0 (by omega) (by omega) (by omega) (by decide)
    unfold g63
    simpa using this
  · cases h

def takeN (a : List Int) (p z : Int) : Int × Int := if 1 ≤ z ∧ z ≤ 6 ∧ 0 ≤ p ∧ p ≤ a.length - z then (0, num ((a.drop p.toNat).take z.toNat) 0) else (3, 0)
theorem takeN_in {a : List Int} {p z : Int} (h : 1 ≤ z ∧ z ≤ 6 ∧ 0 ≤ p ∧ p ≤ a.length - z) : takeN a p z = (0, num ((a.drop p.toNat).take z.toNat) 0) := if_pos h
theorem takeN_out {a : List Int} {p z : Int} (h : ¬ (1 ≤ z ∧ z ≤ 6 ∧ 0 ≤ p ∧ p ≤ a.length - z)) : takeN a p z = (3, 0) := if_neg h
/-! impl.TakeNumber -/
def m163 (x : List Int × Int × Int) : Option (Int × Int) := if okB x.1 = true ∧ x.1.length ≤ 1000000000000 ∧ iv x.2.2 = true then some (takeN x.1 x.2.1 x.2.2) else none
theorem p163 (mm : Int → Option Bool) (L : Nat) (a : List Int) (q z : Int) (b : List Int) (u v : Int) (hab : List.drop (Int.toNat q) (List.take (Int.toNat (IntKind.wrap IntKind.i64 (q + z))) a) = b) (hb : okB b = true) (hl : b.length ≤ 6) (k : Int → Int → Int → Option (Int × Int)) : ∀ (n i : Nat) (h : Int), i ≤ b.length → b.length < n + i → 0 ≤ h → h < 256 ^ i →
    l163_0 mm L a q z n u v h i k = k u v (num (b.drop i) h)
  | 0, i, h, h2, h3, _, _ => by omega
  | n + 1, i, h, h2, h3, h4, h5 => by
    unfold l163_0
    rw [hab]
    by_cases hi : i < b.length
    · have hx := okB_get hb hi
      have hq := pow256 (show i < 6 by omega)
      have hp2 : (256 : Int) ^ (i + 1) = 256 ^ i * 256 := Int.pow_succ ..
      simp (disch := omega) only [dt, df, wi, cond_true, Bool.and_self, Int.toNat_natCast]
      simp (disch := omega) only [shl8, wu, or_byte]
      have := p163 mm L a q z b u v hab hb hl k n (i + 1) (h * 256 + b.getD i 0) (by omega) (by omega) (by omega) (by omega)
      simp only [Int.natCast_add, Int.cast_ofNat_Int] at this
      rw [this, drop_cons 0 hi, num_cons]
    · simp (disch := omega) only [df, cond_false]
      rw [List.drop_eq_nil_of_le (by omega), num_nil]
theorem sat163 : Sat prog cxT 163 (c163 m163) := s163 m188 sat188 m163 fun x t h => by
  obtain ⟨a, p, z⟩ := x
  unfold m163 at h
  split at h
  · rename_i hc
    obtain ⟨h1, h2, h3⟩ := hc
    simp only [iv, Bool.and_eq_true, decide_eq_true_eq] at h1 h2 h3 h
    cases h
    refine ⟨7, ?_⟩
    unfold g163 m188
    simp only [tst_some]
    by_cases hz : 1 ≤ z ∧ z ≤ 6
    · simp (disch := omega) only [dt, wi, Bool.not_true, cond_false]
      by_cases hp0 : p < 0
      · rw [takeN_out (by omega), dt hp0]
        rfl
      · by_cases hp1 : p > (a.length : Int) - z
        · rw [takeN_out (by omega), df hp0, dt hp1]
          rfl
        · simp (disch := omega) only [dt, df, wi, cond_false, cond_true, Bool.and_self]
          rw [takeN_in (by omega)]
          obtain ⟨q, rfl⟩ := Int.eq_ofNat_of_zero_le (show 0 ≤ p by omega)
          obtain ⟨y, rfl⟩ := Int.eq_ofNat_of_zero_le (show 0 ≤ z by omega)
          have hab : List.drop (Int.toNat (q : Int)) (List.take (Int.toNat (IntKind.wrap IntKind.i64 ((q : Int) + (y : Int)))) a) = (a.drop q).take y := by
            rw [wi (by omega) (by omega), ← Int.natCast_add, Int.toNat_natCast, Int.toNat_natCast, List.drop_take, Nat.add_sub_cancel_left]
          have hlen : ((a.drop q).take y).length ≤ 6 := by simp; omega
          have hbb := okB_sub h1 (b := (a.drop q).take y) (fun x hx => List.mem_of_mem_drop (List.mem_of_mem_take hx))
          have := p163 (fun x => some (decide (1 ≤ x ∧ x ≤ 6))) 7 a q y ((a.drop q).take y) 0 0 hab hbb hlen (fun _ _ h => some (0, IntKind.wrap .i64 h)) 7 0 0 (by omega) (by omega) (by omega) (by decide)
          refine this.trans ?_
          have hbd := num_bound ((a.drop q).take y) 0 0 hbb (by omega) (by decide)
          have hbd2 : (256 : Int) ^ (0 + ((a.drop q).take y).length) ≤ 281474976710656 := by
            have : ((a.drop q).take y).length = 0 ∨ ((a.drop q).take y).length = 1 ∨ ((a.drop q).take y).length = 2 ∨ ((a.drop q).take y).length = 3 ∨ ((a.drop q).take y).length = 4 ∨ ((a.drop q).take y).length = 5 ∨ ((a.drop q).take y).length = 6 := by omega
            rcases this with h | h | h | h | h | h | h <;> rw [h] <;> decide
          simp only [List.drop_zero, Int.toNat_natCast]
          rw [wi (by omega) (by omega)]
    · rw [takeN_out (fun h => hz ⟨h.1, h.2.1⟩), df hz]
      rfl
  · cases h

end Go.Proofs.Try
