/- A part of the proof of FnExactUpdateFault: LtQc, LtQh, LtQi. -/
import Derived.Test.YtnmnomckcjihoaaGreatLtQa
import Derived.Test.YtnmnomckcjihoaaGreatVmCb
import Derived.Test.YtnmnomckcjihoaaGreatLtFc
import Derived.Test.YtnmnomckcjihoaaGreatLtQe
import Derived.Test.YtnmnomckcjihoaaGreatLtQgb
import Derived.Test.YtnmnomckcjihoaaGreatLtQgd
set_option linter.unusedVariables false
set_option maxHeartbeats 0
set_option linter.unusedVariables false
set_option linter.unusedSimpArgs false
namespace Go.Proofs.Tryz
open Go Go.VM Go.RowKit

def ynOk (x : Int) : Bool := decide (x = 0 ∨ x = 1)
theorem sat105 : Sat prog cxT 105 (c105 fun x => some (ynOk x)) := s105 _ fun x t h => by cases h; exact ⟨0, bif_or⟩
def nuOk (k n : Int) : Bool := if k = 1 ∨ k = 2 then wtOk n else if k = 3 then stOk n else if k = 9 then ynOk n else ptOk n
theorem ynOk_eq (x : Int) : decide ((0 : Int) ≤ x ∧ x ≤ 1) = ynOk x := by
  unfold ynOk
  by_cases h : x = 0 ∨ x = 1
  · rw [dt h, dt (by omega)]
  · rw [df h, df (by omega)]
theorem sat53 : Sat prog cxT 53 (c53 fun x => some (nuOk x.1 x.2.2.2.2.1)) := s53 _ _ sat34 sat68 _ fun x t h => by
  obtain ⟨k, b, c, d, n, p⟩ := x
  cases h
  refine ⟨0, ?_⟩
  show g53 _ _ 0 k b c d n p = some (nuOk k n)
  unfold g53 nuOk
  simp only [tst_some]
  by_cases h1 : k = 1
  · subst h1; rfl
  by_cases h2 : k = 2
  · subst h2; rfl
  by_cases h3 : k = 3
  · subst h3; rfl
  by_cases h9 : k = 9
  · subst h9
    show some (decide ((0 : Int) ≤ n ∧ n ≤ 1)) = some (ynOk n)
    rw [ynOk_eq]
  rw [beqF h1, beqF h2, beqF h3, beqF h9, if_neg (by omega), if_neg h3, if_neg h9]
  rfl

/-- What is not right with a command. -/
def cmF (x : Cm) : Int :=
  if 1 ≤ x.1 ∧ x.1 ≤ 9 then
    (bif (x.2.1 != -1 && !vrOk x.2.1) || ((nd x.1).1 && !nmOk x.2.2.1) || ((nd x.1).2.1 && !adOk x.2.2.2.1) || ((nd x.1).2.2.1 && !nuOk x.1 x.2.2.2.2.1) || ((nd x.1).2.2.2 && !prOk x.2.2.2.2.2) then 3
     else bif (!(nd x.1).1 && x.2.2.1 != 0) || (!(nd x.1).2.1 && x.2.2.2.1 != 0) || (!(nd x.1).2.2.1 && x.2.2.2.2.1 != 0) || (!(nd x.1).2.2.2 && x.2.2.2.2.2 != 0) then 1 else 0)
  else 1
theorem cb29 (n : Int) : CB 29 #[.int .i64 n] (.bool (vrOk n)) := call_one sat29 (fun _ => args_lv [.int .i64 n]) rfl
theorem cb85 (n : Int) : CB 85 #[.int .i64 n] (.bool (nmOk n)) := call_one sat85 (fun _ => args_lv [.int .i64 n]) rfl
theorem cb86 (n : Int) : CB 86 #[.int .i64 n] (.bool (adOk n)) := call_one sat86 (fun _ => args_lv [.int .i64 n]) rfl
theorem cb87 (n : Int) : CB 87 #[.int .i64 n] (.bool (wtOk n)) := call_one sat87 (fun _ => args_lv [.int .i64 n]) rfl
theorem cb88 (n : Int) : CB 88 #[.int .i64 n] (.bool (stOk n)) := call_one sat88 (fun _ => args_lv [.int .i64 n]) rfl
theorem cb89 (n : Int) : CB 89 #[.int .i64 n] (.bool (ptOk n)) := call_one sat89 (fun _ => args_lv [.int .i64 n]) rfl
theorem cb90 (n : Int) : CB 90 #[.int .i64 n] (.bool (prOk n)) := call_one sat90 (fun _ => args_lv [.int .i64 n]) rfl
theorem cb105 (n : Int) : CB 105 #[.int .i64 n] (.bool (ynOk n)) := call_one sat105 (fun _ => args_lv [.int .i64 n]) rfl
theorem cb24 (n : Int) : CB 24 #[.int .i64 n] (.bool (vrOk n)) := call_one sat24 (fun _ => args_lv [.int .i64 n]) rfl
theorem cb51 (n : Int) : CB 51 #[.int .i64 n] (.bool (nmOk n)) := call_one sat51 (fun _ => args_lv [.int .i64 n]) rfl
theorem cb52 (n : Int) : CB 52 #[.int .i64 n] (.bool (adOk n)) := call_one sat52 (fun _ => args_lv [.int .i64 n]) rfl
theorem cb54 (n : Int) : CB 54 #[.int .i64 n] (.bool (prOk n)) := call_one sat54 (fun _ => args_lv [.int .i64 n]) rfl
theorem cb34 (a b c : Int) : CB 34 #[.int .i64 a, .int .i64 b, .int .i64 c] (.bool (decide (b ≤ a ∧ a ≤ c))) := call_one sat34 (fun _ => args_lv [.int .i64 a, .int .i64 b, .int .i64 c]) rfl
def cV (x : Cm) : List Value := [.int .i64 x.1, .int .i64 x.2.1, .int .i64 x.2.2.1, .int .i64 x.2.2.2.1, .int .i64 x.2.2.2.2.1, .int .i64 x.2.2.2.2.2]
theorem cb53 (x : Cm) : CB 53 #[.agg (cV x).toArray] (.bool (nuOk x.1 x.2.2.2.2.1)) := call_one sat53 (fun _ => args_agg (cV x)) rfl
theorem cb50 (k : Int) : CB 50 #[.int .i64 k] (.tuple #[.bool (nd k).1, .bool (nd k).2.1, .bool (nd k).2.2.1, .bool (nd k).2.2.2]) := call_tup (vs := [.bool (nd k).1, .bool (nd k).2.1, .bool (nd k).2.2.1, .bool (nd k).2.2.2]) sat50 (fun _ => args_lv [.int .i64 k]) rfl
theorem cb78 {k : Int} (hk : 1 ≤ k ∧ k ≤ 9) : CB 78 #[.int .i64 k] (.agg (ruL k).toArray) := call_agg (vs := ruL k) sat78 (fun _ => args_lv [.int .i64 k]) (if_pos hk)
theorem rl85 (n : Int) : Rl n (fnV 85) (some (nmOk n)) := .yes 85 _ (fun _ _ => by kernel_rfl) (cb85 n)
theorem rl86 (n : Int) : Rl n (fnV 86) (some (adOk n)) := .yes 86 _ (fun _ _ => by kernel_rfl) (cb86 n)
theorem rl87 (n : Int) : Rl n (fnV 87) (some (wtOk n)) := .yes 87 _ (fun _ _ => by kernel_rfl) (cb87 n)
theorem rl88 (n : Int) : Rl n (fnV 88) (some (stOk n)) := .yes 88 _ (fun _ _ => by kernel_rfl) (cb88 n)
theorem rl89 (n : Int) : Rl n (fnV 89) (some (ptOk n)) := .yes 89 _ (fun _ _ => by kernel_rfl) (cb89 n)
theorem rl90 (n : Int) : Rl n (fnV 90) (some (prOk n)) := .yes 90 _ (fun _ _ => by kernel_rfl) (cb90 n)
theorem rl105 (n : Int) : Rl n (fnV 105) (some (ynOk n)) := .yes 105 _ (fun _ _ => by kernel_rfl) (cb105 n)
/-- What the rules of a kind say of a command's numbers. -/
def osK (k c d e f : Int) : List (Option Bool) :=
  if k = 1 then [some (nmOk c), some (adOk d), some (wtOk e), none] else
  if k = 2 then [some (nmOk c), none, some (wtOk e), none] else
  if k = 3 then [some (nmOk c), none, some (stOk e), none] else
  if k = 4 then [some (nmOk c), none, none, none] else
  if k = 5 ∨ k = 6 then [none, some (adOk d), some (ptOk e), some (prOk f)] else
  if k = 7 ∨ k = 8 then [some (nmOk c), some (adOk d), some (ptOk e), some (prOk f)] else
  [some (nmOk c), none, some (ynOk e), none]
theorem nine {k : Int} (hk : 1 ≤ k ∧ k ≤ 9) : k = 1 ∨ k = 2 ∨ k = 3 ∨ k = 4 ∨ k = 5 ∨ k = 6 ∨ k = 7 ∨ k = 8 ∨ k = 9 := by omega
theorem rules (k c d e f : Int) (hk : 1 ≤ k ∧ k ≤ 9) : ∃ r0 r1 r2 r3 fa o0 o1 o2 o3, ruL k = [r0, r1, r2, r3, .func (.func fa) #[] #[]] ∧ osK k c d e f = [o0, o1, o2, o3] ∧ Rl c r0 o0 ∧ Rl d r1 o1 ∧ Rl e r2 o2 ∧ Rl f r3 o3 := by
  rcases nine hk with rfl | rfl | rfl | rfl | rfl | rfl | rfl | rfl | rfl
  · exact ⟨_, _, _, _, _, _, _, _, _, rfl, rfl, rl85 c, rl86 d, rl87 e, .no⟩
  · exact ⟨_, _, _, _, _, _, _, _, _, rfl, rfl, rl85 c, .no, rl87 e, .no⟩
  · exact ⟨_, _, _, _, _, _, _, _, _, rfl, rfl, rl85 c, .no, rl88 e, .no⟩
  · exact ⟨_, _, _, _, _, _, _, _, _, rfl, rfl, rl85 c, .no, .no, .no⟩
  · exact ⟨_, _, _, _, _, _, _, _, _, rfl, rfl, .no, rl86 d, rl89 e, rl90 f⟩
  · exact ⟨_, _, _, _, _, _, _, _, _, rfl, rfl, .no, rl86 d, rl89 e, rl90 f⟩
  · exact ⟨_, _, _, _, _, _, _, _, _, rfl, rfl, rl85 c, rl86 d, rl89 e, rl90 f⟩
  · exact ⟨_, _, _, _, _, _, _, _, _, rfl, rfl, rl85 c, rl86 d, rl89 e, rl90 f⟩
  · exact ⟨_, _, _, _, _, _, _, _, _, rfl, rfl, rl85 c, .no, rl105 e, .no⟩
/-- What the four fields come to. -/
def fR (n1 n2 n3 n4 z2 z3 z4 z5 : Bool) (c d e f : Int) : Int :=
  bif (n1 && !z2) || (n2 && !z3) || (n3 && !z4) || (n4 && !z5) then 3 else bif (!n1 && c != 0) || (!n2 && d != 0) || (!n3 && e != 0) || (!n4 && f != 0) then 1 else 0
theorem cmF_eq {k b c d e f : Int} (hk : 1 ≤ k ∧ k ≤ 9) : cmF (k, b, c, d, e, f) = bif (b != -1 && !vrOk b) then 3 else fR (nd k).1 (nd k).2.1 (nd k).2.2.1 (nd k).2.2.2 (nmOk c) (adOk d) (nuOk k e) (prOk f) c d e f := by
  unfold cmF fR
  rw [if_pos hk]
  simp only
  generalize (b != -1 && !vrOk b) = g
  cases g <;> rfl
end Go.Proofs.Tryz

set_option maxHeartbeats 0
set_option linter.unusedVariables false
set_option linter.unusedSimpArgs false
namespace Go.Proofs.Tryz
open Go Go.VM Go.RowKit

def vl (o0 o1 o2 o3 : Option Bool) (c d e f : Int) : Int :=
  bif (o0 == some false) || (o1 == some false) || (o2 == some false) || (o3 == some false) then 3 else bif (o0 == none && c != 0) || (o1 == none && d != 0) || (o2 == none && e != 0) || (o3 == none && f != 0) then 1 else 0
theorem nsf {o : Option Bool} (h : o ≠ some false) : (o == some false) = false := by
  rcases o with _ | _ | _
  · rfl
  · exact absurd rfl h
  · rfl
theorem res_val {o0 o1 o2 o3 : Option Bool} {c d e f : Int} {en : Ending} (h : res58 [o0, o1, o2, o3] [c, d, e, f] en) : en = .returned (.int .i64 (vl o0 o1 o2 o3 c d e f)) := by
  have four : ∀ p, p < 4 → p = 0 ∨ p = 1 ∨ p = 2 ∨ p = 3 := fun p h => by omega
  rcases h with ⟨rfl, p, hp, hq⟩ | ⟨h, h2⟩
  · unfold vl
    rcases four p hp with rfl | rfl | rfl | rfl
    · rw [show o0 = some false from hq]; simp
    · rw [show o1 = some false from hq]; simp
    · rw [show o2 = some false from hq]; simp
    · rw [show o3 = some false from hq]; simp
  · have a0 : (o0 == some false) = false := nsf (h 0 (by omega))
    have a1 : (o1 == some false) = false := nsf (h 1 (by omega))
    have a2 : (o2 == some false) = false := nsf (h 2 (by omega))
    have a3 : (o3 == some false) = false := nsf (h 3 (by omega))
    unfold vl
    rw [a0, a1, a2, a3]
    rcases h2 with ⟨rfl, p, hp, hq, hn⟩ | ⟨rfl, hz⟩
    · rcases four p hp with rfl | rfl | rfl | rfl
      · rw [show o0 = none from hq, show (c != 0) = true from bneT hn]; simp
      · rw [show o1 = none from hq, show (d != 0) = true from bneT hn]; simp
      · rw [show o2 = none from hq, show (e != 0) = true from bneT hn]; simp
      · rw [show o3 = none from hq, show (f != 0) = true from bneT hn]; simp
    · have g : ∀ (o : Option Bool) (v : Int), (o = none → v = 0) → (o == none && v != 0) = false := fun o v h => by
        cases o with
        | none => rw [h rfl]; rfl
        | some z => rfl
      rw [g o0 c (hz 0 (by omega)), g o1 d (hz 1 (by omega)), g o2 e (hz 2 (by omega)), g o3 f (hz 3 (by omega))]
      rfl
theorem val_fR {k c d e f : Int} (hk : 1 ≤ k ∧ k ≤ 9) {o0 o1 o2 o3 : Option Bool} (ho : osK k c d e f = [o0, o1, o2, o3]) : vl o0 o1 o2 o3 c d e f = fR (nd k).1 (nd k).2.1 (nd k).2.2.1 (nd k).2.2.2 (nmOk c) (adOk d) (nuOk k e) (prOk f) c d e f := by
  have hs : ∀ z : Bool, ((some z : Option Bool) == some false) = !z := fun z => by cases z <;> rfl
  have hn : ∀ z : Bool, ((some z : Option Bool) == none) = false := fun z => rfl
  rcases nine hk with rfl | rfl | rfl | rfl | rfl | rfl | rfl | rfl | rfl <;> cases ho <;> unfold vl fR <;> simp only [hs, hn] <;> simp [nd, nuOk]
def m59 (x : Cm) : Option Int := some (cmF x)
theorem agg1 {w : World} {A0 : Nat → Prop} {x : Cm} {us : List Value} (h : ArgAs cxT w A0 (a59.enc x) us) : us = [.agg (cV x).toArray] := by
  obtain ⟨u, rfl, hu⟩ := one_arg (show ArgAs cxT w A0 [.inr ((cV x).map lv)] us from h)
  rw [agg_arg hu]
theorem sat59 : Sat prog cxT 59 (c59 m59) := by
  intro w A0 l us r hA hargs hF
  obtain ⟨x, t, rfl, hx, rfl⟩ := fnT_inv hF
  cases hx
  rw [agg1 hargs]
  obtain ⟨k, b, c, d, e, f⟩ := x
  have fin : Calls prog 59 #[.agg #[.int .i64 k, .int .i64 b, .int .i64 c, .int .i64 d, .int .i64 e, .int .i64 f]] w fun e' w' => e' = .returned (.int .i64 (cmF (k, b, c, d, e, f))) ∧ Below w.heap.size w w' := by
    by_cases hk : 1 ≤ k ∧ k ≤ 9
    · rw [cmF_eq hk]
      obtain ⟨r0, r1, r2, r3, fa, o0, o1, o2, o3, hr, ho, h0, h1, h2, h3⟩ := rules k c d e f hk
      have h111 := cb78 hk
      rw [hr] at h111
      rw [← val_fR hk ho]
      by_cases hb : b = -1
      · subst hb
        exact (in58a k c d e f hk r0 r1 r2 r3 _ o0 o1 o2 o3 h0 h1 h2 h3 fa rfl h111 w).mono fun e' w' ⟨h, hw⟩ => ⟨res_val h, hw⟩
      · have hb2 : (b != -1) = true := bneT hb
        rw [hb2, Bool.true_and]
        cases hv : vrOk b with
        | true => exact (in58b k b c d e f hk hb (by have := cb29 b; rwa [hv] at this) r0 r1 r2 r3 _ o0 o1 o2 o3 h0 h1 h2 h3 fa rfl h111 w).mono fun e' w' ⟨h, hw⟩ => ⟨res_val h, hw⟩
        | false => exact bad58 k b c d e f hk hb (by have := cb29 b; rwa [hv] at this) w
    · have e : cmF (k, b, c, d, e, f) = 1 := if_neg hk
      rw [e]
      exact out58 k b c d _ f hk w
  exact fin.mono fun e' w' ⟨he, hw⟩ => ⟨_, he, hw, res_lv _⟩
end Go.Proofs.Tryz

set_option maxHeartbeats 0
set_option linter.unusedVariables false
set_option linter.unusedSimpArgs false
namespace Go.Proofs.Tryz
open Go Go.VM Go.RowKit
theorem b01 (p : Prop) [Decidable p] : (if p then (1 : Int) else 0) = bif decide p then 1 else 0 := by by_cases h : p <;> simp [h]
theorem ne0 (c : Int) : decide (c ≠ 0) = (c != 0) := by by_cases h : c = 0 <;> simp [h]
theorem tin34 {k : Int} (hk : 1 ≤ k ∧ k ≤ 9) : CB 34 #[.int .i64 k, .int .i64 1, .int .i64 9] (.bool true) := by
  have := cb34 k 1 9
  rwa [dt hk] at this
theorem in56 (k b c d e f : Int) (hk : 1 ≤ k ∧ k ≤ 9) (w : World) : Calls prog 27 #[.agg #[.int .i64 k, .int .i64 b, .int .i64 c, .int .i64 d, .int .i64 e, .int .i64 f]] w fun e' w' => e' = .returned (.int .i64 (cmF (k, b, c, d, e, f))) ∧ Below w.heap.size w w' := by
  have h5 := tin34 hk
  have h9 := cb50 k
  have h8 := cb53 (k, b, c, d, e, f)
  have hr := cmF_eq (b := b) (c := c) (d := d) (e := e) (f := f) hk
  rcases nine hk with rfl | rfl | rfl | rfl | rfl | rfl | rfl | rfl | rfl
  · exact in56a 1 b c d e f _ _ rfl h5 h9 (cb24 b) _ (cb51 c) _ (cb52 d) _ h8 _ (by rw [hr]; unfold fR; simp only [b01, Bool.decide_or, ne0]; simp [nd, nuOk]; cases (b != -1 && !vrOk b) <;> simp [Bool.or_assoc]) w
  · exact in56b 2 b c d e f _ _ rfl h5 h9 (cb24 b) _ (cb51 c) _ h8 _ (by rw [hr]; unfold fR; simp only [b01, Bool.decide_or, ne0]; simp [nd, nuOk]; cases (b != -1 && !vrOk b) <;> simp [Bool.or_assoc]) w
  · exact in56b 3 b c d e f _ _ rfl h5 h9 (cb24 b) _ (cb51 c) _ h8 _ (by rw [hr]; unfold fR; simp only [b01, Bool.decide_or, ne0]; simp [nd, nuOk]; cases (b != -1 && !vrOk b) <;> simp [Bool.or_assoc]) w
  · exact in56c 4 b c d e f _ _ rfl h5 h9 (cb24 b) _ (cb51 c) _ (by rw [hr]; unfold fR; simp only [b01, Bool.decide_or, ne0]; simp [nd, nuOk]; cases (b != -1 && !vrOk b) <;> simp [Bool.or_assoc]) w
  · exact in56d 5 b c d e f _ _ rfl h5 h9 (cb24 b) _ (cb52 d) _ h8 _ (cb54 f) _ (by rw [hr]; unfold fR; simp only [b01, Bool.decide_or, ne0]; simp [nd, nuOk]; cases (b != -1 && !vrOk b) <;> simp [Bool.or_assoc]) w
  · exact in56d 6 b c d e f _ _ rfl h5 h9 (cb24 b) _ (cb52 d) _ h8 _ (cb54 f) _ (by rw [hr]; unfold fR; simp only [b01, Bool.decide_or, ne0]; simp [nd, nuOk]; cases (b != -1 && !vrOk b) <;> simp [Bool.or_assoc]) w
  · exact in56e 7 b c d e f _ _ rfl h5 h9 (cb24 b) _ (cb51 c) _ (cb52 d) _ h8 _ (cb54 f) _ (by rw [hr]; unfold fR; simp only [b01, Bool.decide_or, ne0]; simp [nd, nuOk]; cases (b != -1 && !vrOk b) <;> simp [Bool.or_assoc]) w
  · exact in56e 8 b c d e f _ _ rfl h5 h9 (cb24 b) _ (cb51 c) _ (cb52 d) _ h8 _ (cb54 f) _ (by rw [hr]; unfold fR; simp only [b01, Bool.decide_or, ne0]; simp [nd, nuOk]; cases (b != -1 && !vrOk b) <;> simp [Bool.or_assoc]) w
  · exact in56b 9 b c d e f _ _ rfl h5 h9 (cb24 b) _ (cb51 c) _ h8 _ (by rw [hr]; unfold fR; simp only [b01, Bool.decide_or, ne0]; simp [nd, nuOk]; cases (b != -1 && !vrOk b) <;> simp [Bool.or_assoc]) w
theorem sat27 : Sat prog cxT 27 (c27 m59) := by
  intro w A0 l us r hA hargs hF
  obtain ⟨x, t, rfl, hx, rfl⟩ := fnT_inv hF
  cases hx
  rw [show us = [.agg (cV x).toArray] from agg1 hargs]
  obtain ⟨k, b, c, d, e, f⟩ := x
  have fin : Calls prog 27 #[.agg #[.int .i64 k, .int .i64 b, .int .i64 c, .int .i64 d, .int .i64 e, .int .i64 f]] w fun e' w' => e' = .returned (.int .i64 (cmF (k, b, c, d, e, f))) ∧ Below w.heap.size w w' := by
    by_cases hk : 1 ≤ k ∧ k ≤ 9
    · exact in56 k b c d e f hk w
    · have e' : cmF (k, b, c, d, e, f) = 1 := if_neg hk
      rw [e']
      exact out56 k b c d _ f hk w
  exact fin.mono fun e' w' ⟨he, hw⟩ => ⟨_, he, hw, res_lv _⟩
end Go.Proofs.Tryz
