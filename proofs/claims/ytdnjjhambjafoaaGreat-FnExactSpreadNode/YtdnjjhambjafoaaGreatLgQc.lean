/- A part of the proof of FnExactSpreadNode: LgQc, LgQh, LgQi. -/
import Derived.Test.YtdnjjhambjafoaaGreatLgQb
import Derived.Test.YtdnjjhambjafoaaGreatVmCb
import Derived.Test.YtdnjjhambjafoaaGreatLgFa
import Derived.Test.YtdnjjhambjafoaaGreatLgQe
import Derived.Test.YtdnjjhambjafoaaGreatLgQf
import Derived.Test.YtdnjjhambjafoaaGreatLgQga
import Derived.Test.YtdnjjhambjafoaaGreatLgQgb
import Derived.Test.YtdnjjhambjafoaaGreatLgQgc
import Derived.Test.YtdnjjhambjafoaaGreatLgQgd
import Derived.Test.YtdnjjhambjafoaaGreatLgQge
set_option linter.unusedVariables false
set_option maxHeartbeats 0
set_option linter.unusedSimpArgs false
namespace Go.Proofs.Tryz
open Go Go.VM Go.RowKit
def ynOk (x : Int) : Bool := decide (x = 0 ∨ x = 1)
theorem sat171 : Sat prog cxT 171 (c171 fun x => some (ynOk x)) := s171 _ fun x t h => by cases h; exact ⟨0, bif_or⟩
def nuOk (k n : Int) : Bool := if k = 1 ∨ k = 2 then wtOk n else if k = 3 then stOk n else if k = 9 then ynOk n else ptOk n
theorem ynOk_eq (x : Int) : decide ((0 : Int) ≤ x ∧ x ≤ 1) = ynOk x := by
  unfold ynOk
  by_cases h : x = 0 ∨ x = 1
  · rw [dt h, dt (by omega)]
  · rw [df h, df (by omega)]
theorem sat139 : Sat prog cxT 139 (c139 fun x => some (nuOk x.1 x.2.2.2.2.1)) := s139 _ _ sat94 sat156 _ fun x t h => by
  obtain ⟨k, b, c, d, n, p⟩ := x
  cases h
  refine ⟨0, ?_⟩
  show g139 _ _ 0 k b c d n p = some (nuOk k n)
  unfold g139 nuOk
  simp only [tst_some]
  by_cases h1 : k = 1
  · subst h1; rfl
  by_cases h2 : k = 2
  · subst h2; rfl
  by_cases h3 : k = 3
  · subst h3; rfl
  by_cases h9 : k = 9
  · subst h9
    show some (decide ((0 : Int) ≤ n ∧ n ≤ 1)) = some (ynOk n)
    rw [ynOk_eq]
  rw [beqF h1, beqF h2, beqF h3, beqF h9, if_neg (by omega), if_neg h3, if_neg h9]
  rfl
def cmF (x : Cm) : Int :=
  if 1 ≤ x.1 ∧ x.1 ≤ 9 then
    (bif (x.2.1 != -1 && !vrOk x.2.1) || ((nd x.1).1 && !nmOk x.2.2.1) || ((nd x.1).2.1 && !adOk x.2.2.2.1) || ((nd x.1).2.2.1 && !nuOk x.1 x.2.2.2.2.1) || ((nd x.1).2.2.2 && !prOk x.2.2.2.2.2) then 3
     else bif (!(nd x.1).1 && x.2.2.1 != 0) || (!(nd x.1).2.1 && x.2.2.2.1 != 0) || (!(nd x.1).2.2.1 && x.2.2.2.2.1 != 0) || (!(nd x.1).2.2.2 && x.2.2.2.2.2 != 0) then 1 else 0)
  else 1
theorem cb141 (n : Int) : CB 141 #[.int .i64 n] (.bool (vrOk n)) := call_one sat141 (fun _ => args_lv [.int .i64 n]) rfl
theorem cb157 (n : Int) : CB 157 #[.int .i64 n] (.bool (nmOk n)) := call_one sat157 (fun _ => args_lv [.int .i64 n]) rfl
theorem cb158 (n : Int) : CB 158 #[.int .i64 n] (.bool (adOk n)) := call_one sat158 (fun _ => args_lv [.int .i64 n]) rfl
theorem cb159 (n : Int) : CB 159 #[.int .i64 n] (.bool (wtOk n)) := call_one sat159 (fun _ => args_lv [.int .i64 n]) rfl
theorem cb162 (n : Int) : CB 162 #[.int .i64 n] (.bool (stOk n)) := call_one sat162 (fun _ => args_lv [.int .i64 n]) rfl
theorem cb165 (n : Int) : CB 165 #[.int .i64 n] (.bool (ptOk n)) := call_one sat165 (fun _ => args_lv [.int .i64 n]) rfl
theorem cb166 (n : Int) : CB 166 #[.int .i64 n] (.bool (prOk n)) := call_one sat166 (fun _ => args_lv [.int .i64 n]) rfl
theorem cb171 (n : Int) : CB 171 #[.int .i64 n] (.bool (ynOk n)) := call_one sat171 (fun _ => args_lv [.int .i64 n]) rfl
theorem cb136 (n : Int) : CB 136 #[.int .i64 n] (.bool (vrOk n)) := call_one sat136 (fun _ => args_lv [.int .i64 n]) rfl
theorem cb137 (n : Int) : CB 137 #[.int .i64 n] (.bool (nmOk n)) := call_one sat137 (fun _ => args_lv [.int .i64 n]) rfl
theorem cb138 (n : Int) : CB 138 #[.int .i64 n] (.bool (adOk n)) := call_one sat138 (fun _ => args_lv [.int .i64 n]) rfl
theorem cb140 (n : Int) : CB 140 #[.int .i64 n] (.bool (prOk n)) := call_one sat140 (fun _ => args_lv [.int .i64 n]) rfl
theorem cb94 (a b c : Int) : CB 94 #[.int .i64 a, .int .i64 b, .int .i64 c] (.bool (decide (b ≤ a ∧ a ≤ c))) := call_one sat94 (fun _ => args_lv [.int .i64 a, .int .i64 b, .int .i64 c]) rfl
def cV (x : Cm) : List Value := [.int .i64 x.1, .int .i64 x.2.1, .int .i64 x.2.2.1, .int .i64 x.2.2.2.1, .int .i64 x.2.2.2.2.1, .int .i64 x.2.2.2.2.2]
theorem cb139 (x : Cm) : CB 139 #[.agg (cV x).toArray] (.bool (nuOk x.1 x.2.2.2.2.1)) := call_one sat139 (fun _ => args_agg (cV x)) rfl
theorem cb135 (k : Int) : CB 135 #[.int .i64 k] (.tuple #[.bool (nd k).1, .bool (nd k).2.1, .bool (nd k).2.2.1, .bool (nd k).2.2.2]) := call_tup (vs := [.bool (nd k).1, .bool (nd k).2.1, .bool (nd k).2.2.1, .bool (nd k).2.2.2]) sat135 (fun _ => args_lv [.int .i64 k]) rfl
theorem cb142 {k : Int} (hk : 1 ≤ k ∧ k ≤ 9) : CB 142 #[.int .i64 k] (.agg (ruL k).toArray) := call_agg (vs := ruL k) sat142 (fun _ => args_lv [.int .i64 k]) (if_pos hk)
theorem rl157 (n : Int) : Rl n (fnV 157) (some (nmOk n)) := .yes 157 _ (fun _ _ => by kernel_rfl) (cb157 n)
theorem rl158 (n : Int) : Rl n (fnV 158) (some (adOk n)) := .yes 158 _ (fun _ _ => by kernel_rfl) (cb158 n)
theorem rl159 (n : Int) : Rl n (fnV 159) (some (wtOk n)) := .yes 159 _ (fun _ _ => by kernel_rfl) (cb159 n)
theorem rl162 (n : Int) : Rl n (fnV 162) (some (stOk n)) := .yes 162 _ (fun _ _ => by kernel_rfl) (cb162 n)
theorem rl165 (n : Int) : Rl n (fnV 165) (some (ptOk n)) := .yes 165 _ (fun _ _ => by kernel_rfl) (cb165 n)
theorem rl166 (n : Int) : Rl n (fnV 166) (some (prOk n)) := .yes 166 _ (fun _ _ => by kernel_rfl) (cb166 n)
theorem rl171 (n : Int) : Rl n (fnV 171) (some (ynOk n)) := .yes 171 _ (fun _ _ => by kernel_rfl) (cb171 n)
def osK (k c d e f : Int) : List (Option Bool) :=
  if k = 1 then [some (nmOk c), some (adOk d), some (wtOk e), none] else
  if k = 2 then [some (nmOk c), none, some (wtOk e), none] else
  if k = 3 then [some (nmOk c), none, some (stOk e), none] else
  if k = 4 then [some (nmOk c), none, none, none] else
  if k = 5 ∨ k = 6 then [none, some (adOk d), some (ptOk e), some (prOk f)] else
  if k = 7 ∨ k = 8 then [some (nmOk c), some (adOk d), some (ptOk e), some (prOk f)] else
  [some (nmOk c), none, some (ynOk e), none]
theorem nine {k : Int} (hk : 1 ≤ k ∧ k ≤ 9) : k = 1 ∨ k = 2 ∨ k = 3 ∨ k = 4 ∨ k = 5 ∨ k = 6 ∨ k = 7 ∨ k = 8 ∨ k = 9 := by omega
theorem rules (k c d e f : Int) (hk : 1 ≤ k ∧ k ≤ 9) : ∃ r0 r1 r2 r3 fa o0 o1 o2 o3, ruL k = [r0, r1, r2, r3, .func (.func fa) #[] #[]] ∧ osK k c d e f = [o0, o1, o2, o3] ∧ Rl c r0 o0 ∧ Rl d r1 o1 ∧ Rl e r2 o2 ∧ Rl f r3 o3 := by
  rcases nine hk with rfl | rfl | rfl | rfl | rfl | rfl | rfl | rfl | rfl
  · exact ⟨_, _, _, _, _, _, _, _, _, rfl, rfl, rl157 c, rl158 d, rl159 e, .no⟩
  · exact ⟨_, _, _, _, _, _, _, _, _, rfl, rfl, rl157 c, .no, rl159 e, .no⟩
  · exact ⟨_, _, _, _, _, _, _, _, _, rfl, rfl, rl157 c, .no, rl162 e, .no⟩
  · exact ⟨_, _, _, _, _, _, _, _, _, rfl, rfl, rl157 c, .no, .no, .no⟩
  · exact ⟨_, _, _, _, _, _, _, _, _, rfl, rfl, .no, rl158 d, rl165 e, rl166 f⟩
  · exact ⟨_, _, _, _, _, _, _, _, _, rfl, rfl, .no, rl158 d, rl165 e, rl166 f⟩
  · exact ⟨_, _, _, _, _, _, _, _, _, rfl, rfl, rl157 c, rl158 d, rl165 e, rl166 f⟩
  · exact ⟨_, _, _, _, _, _, _, _, _, rfl, rfl, rl157 c, rl158 d, rl165 e, rl166 f⟩
  · exact ⟨_, _, _, _, _, _, _, _, _, rfl, rfl, rl157 c, .no, rl171 e, .no⟩
def fR (n1 n2 n3 n4 z2 z3 z4 z5 : Bool) (c d e f : Int) : Int :=
  bif (n1 && !z2) || (n2 && !z3) || (n3 && !z4) || (n4 && !z5) then 3 else bif (!n1 && c != 0) || (!n2 && d != 0) || (!n3 && e != 0) || (!n4 && f != 0) then 1 else 0
theorem cmF_eq {k b c d e f : Int} (hk : 1 ≤ k ∧ k ≤ 9) : cmF (k, b, c, d, e, f) = bif (b != -1 && !vrOk b) then 3 else fR (nd k).1 (nd k).2.1 (nd k).2.2.1 (nd k).2.2.2 (nmOk c) (adOk d) (nuOk k e) (prOk f) c d e f := by
  unfold cmF fR
  rw [if_pos hk]
  simp only
  generalize (b != -1 && !vrOk b) = g
  cases g <;> rfl
end Go.Proofs.Tryz

namespace Go.Proofs.Tryz
open Go Go.VM Go.RowKit
def vl (o0 o1 o2 o3 : Option Bool) (c d e f : Int) : Int :=
  bif (o0 == some false) || (o1 == some false) || (o2 == some false) || (o3 == some false) then 3 else bif (o0 == none && c != 0) || (o1 == none && d != 0) || (o2 == none && e != 0) || (o3 == none && f != 0) then 1 else 0
theorem nsf {o : Option Bool} (h : o ≠ some false) : (o == some false) = false := by
  rcases o with _ | _ | _
  · rfl
  · exact absurd rfl h
  · rfl
theorem res_val {o0 o1 o2 o3 : Option Bool} {c d e f : Int} {en : Ending} (h : res58 [o0, o1, o2, o3] [c, d, e, f] en) : en = .returned (.int .i64 (vl o0 o1 o2 o3 c d e f)) := by
  have four : ∀ p, p < 4 → p = 0 ∨ p = 1 ∨ p = 2 ∨ p = 3 := fun p h => by omega
  rcases h with ⟨rfl, p, hp, hq⟩ | ⟨h, h2⟩
  · unfold vl
    rcases four p hp with rfl | rfl | rfl | rfl
    · rw [show o0 = some false from hq]; simp
    · rw [show o1 = some false from hq]; simp
    · rw [show o2 = some false from hq]; simp
    · rw [show o3 = some false from hq]; simp
  · have a0 : (o0 == some false) = false := nsf (h 0 (by omega))
    have a1 : (o1 == some false) = false := nsf (h 1 (by omega))
    have a2 : (o2 == some false) = false := nsf (h 2 (by omega))
    have a3 : (o3 == some false) = false := nsf (h 3 (by omega))
    unfold vl
    rw [a0, a1, a2, a3]
    rcases h2 with ⟨rfl, p, hp, hq, hn⟩ | ⟨rfl, hz⟩
    · rcases four p hp with rfl | rfl | rfl | rfl
      · rw [show o0 = none from hq, show (c != 0) = true from bneT hn]; simp
      · rw [show o1 = none from hq, show (d != 0) = true from bneT hn]; simp
      · rw [show o2 = none from hq, show (e != 0) = true from bneT hn]; simp
      · rw [show o3 = none from hq, show (f != 0) = true from bneT hn]; simp
    · have g : ∀ (o : Option Bool) (v : Int), (o = none → v = 0) → (o == none && v != 0) = false := fun o v h => by
        cases o with
        | none => rw [h rfl]; rfl
        | some z => rfl
      rw [g o0 c (hz 0 (by omega)), g o1 d (hz 1 (by omega)), g o2 e (hz 2 (by omega)), g o3 f (hz 3 (by omega))]
      rfl
theorem val_fR {k c d e f : Int} (hk : 1 ≤ k ∧ k ≤ 9) {o0 o1 o2 o3 : Option Bool} (ho : osK k c d e f = [o0, o1, o2, o3]) : vl o0 o1 o2 o3 c d e f = fR (nd k).1 (nd k).2.1 (nd k).2.2.1 (nd k).2.2.2 (nmOk c) (adOk d) (nuOk k e) (prOk f) c d e f := by
  have hs : ∀ z : Bool, ((some z : Option Bool) == some false) = !z := fun z => by cases z <;> rfl
  have hn : ∀ z : Bool, ((some z : Option Bool) == none) = false := fun z => rfl
  rcases nine hk with rfl | rfl | rfl | rfl | rfl | rfl | rfl | rfl | rfl <;> cases ho <;> unfold vl fR <;> simp only [hs, hn] <;> simp [nd, nuOk]
def m118 (x : Cm) : Option Int := some (cmF x)
theorem agg1 {w : World} {A0 : Nat → Prop} {x : Cm} {us : List Value} (h : ArgAs cxT w A0 (a118.enc x) us) : us = [.agg (cV x).toArray] := by
  obtain ⟨u, rfl, hu⟩ := one_arg (show ArgAs cxT w A0 [.inr ((cV x).map lv)] us from h)
  rw [agg_arg hu]
theorem sat118 : Sat prog cxT 118 (c118 m118) := by
  intro w A0 l us r hA hargs hF
  obtain ⟨x, t, rfl, hx, rfl⟩ := fnT_inv hF
  cases hx
  rw [agg1 hargs]
  obtain ⟨k, b, c, d, e, f⟩ := x
  have fin : Calls prog 118 #[.agg #[.int .i64 k, .int .i64 b, .int .i64 c, .int .i64 d, .int .i64 e, .int .i64 f]] w fun e' w' => e' = .returned (.int .i64 (cmF (k, b, c, d, e, f))) ∧ Below w.heap.size w w' := by
    by_cases hk : 1 ≤ k ∧ k ≤ 9
    · rw [cmF_eq hk]
      obtain ⟨r0, r1, r2, r3, fa, o0, o1, o2, o3, hr, ho, h0, h1, h2, h3⟩ := rules k c d e f hk
      have h111 := cb142 hk
      rw [hr] at h111
      rw [← val_fR hk ho]
      by_cases hb : b = -1
      · subst hb
        exact (in58a k c d e f hk r0 r1 r2 r3 _ o0 o1 o2 o3 h0 h1 h2 h3 fa rfl h111 w).mono fun e' w' ⟨h, hw⟩ => ⟨res_val h, hw⟩
      · have hb2 : (b != -1) = true := bneT hb
        rw [hb2, Bool.true_and]
        cases hv : vrOk b with
        | true => exact (in58b k b c d e f hk hb (by have := cb141 b; rwa [hv] at this) r0 r1 r2 r3 _ o0 o1 o2 o3 h0 h1 h2 h3 fa rfl h111 w).mono fun e' w' ⟨h, hw⟩ => ⟨res_val h, hw⟩
        | false => exact bad58 k b c d e f hk hb (by have := cb141 b; rwa [hv] at this) w
    · have e : cmF (k, b, c, d, e, f) = 1 := if_neg hk
      rw [e]
      exact out58 k b c d _ f hk w
  exact fin.mono fun e' w' ⟨he, hw⟩ => ⟨_, he, hw, res_lv _⟩
end Go.Proofs.Tryz

namespace Go.Proofs.Tryz
open Go Go.VM Go.RowKit
theorem b01 (p : Prop) [Decidable p] : (if p then (1 : Int) else 0) = bif decide p then 1 else 0 := by by_cases h : p <;> simp [h]
theorem ne0 (c : Int) : decide (c ≠ 0) = (c != 0) := by by_cases h : c = 0 <;> simp [h]
theorem tin94 {k : Int} (hk : 1 ≤ k ∧ k ≤ 9) : CB 94 #[.int .i64 k, .int .i64 1, .int .i64 9] (.bool true) := by
  have := cb94 k 1 9
  rwa [dt hk] at this
theorem in56 (k b c d e f : Int) (hk : 1 ≤ k ∧ k ≤ 9) (w : World) : Calls prog 115 #[.agg #[.int .i64 k, .int .i64 b, .int .i64 c, .int .i64 d, .int .i64 e, .int .i64 f]] w fun e' w' => e' = .returned (.int .i64 (cmF (k, b, c, d, e, f))) ∧ Below w.heap.size w w' := by
  have h5 := tin94 hk
  have h9 := cb135 k
  have h8 := cb139 (k, b, c, d, e, f)
  have hr := cmF_eq (b := b) (c := c) (d := d) (e := e) (f := f) hk
  rcases nine hk with rfl | rfl | rfl | rfl | rfl | rfl | rfl | rfl | rfl
  · exact in56a 1 b c d e f _ _ rfl h5 h9 (cb136 b) _ (cb137 c) _ (cb138 d) _ h8 _ (by rw [hr]; unfold fR; simp only [b01, Bool.decide_or, ne0]; simp [nd, nuOk]; cases (b != -1 && !vrOk b) <;> simp [Bool.or_assoc]) w
  · exact in56b 2 b c d e f _ _ rfl h5 h9 (cb136 b) _ (cb137 c) _ h8 _ (by rw [hr]; unfold fR; simp only [b01, Bool.decide_or, ne0]; simp [nd, nuOk]; cases (b != -1 && !vrOk b) <;> simp [Bool.or_assoc]) w
  · exact in56b 3 b c d e f _ _ rfl h5 h9 (cb136 b) _ (cb137 c) _ h8 _ (by rw [hr]; unfold fR; simp only [b01, Bool.decide_or, ne0]; simp [nd, nuOk]; cases (b != -1 && !vrOk b) <;> simp [Bool.or_assoc]) w
  · exact in56c 4 b c d e f _ _ rfl h5 h9 (cb136 b) _ (cb137 c) _ (by rw [hr]; unfold fR; simp only [b01, Bool.decide_or, ne0]; simp [nd, nuOk]; cases (b != -1 && !vrOk b) <;> simp [Bool.or_assoc]) w
  · exact in56d 5 b c d e f _ _ rfl h5 h9 (cb136 b) _ (cb138 d) _ h8 _ (cb140 f) _ (by rw [hr]; unfold fR; simp only [b01, Bool.decide_or, ne0]; simp [nd, nuOk]; cases (b != -1 && !vrOk b) <;> simp [Bool.or_assoc]) w
  · exact in56d 6 b c d e f _ _ rfl h5 h9 (cb136 b) _ (cb138 d) _ h8 _ (cb140 f) _ (by rw [hr]; unfold fR; simp only [b01, Bool.decide_or, ne0]; simp [nd, nuOk]; cases (b != -1 && !vrOk b) <;> simp [Bool.or_assoc]) w
  · exact in56e 7 b c d e f _ _ rfl h5 h9 (cb136 b) _ (cb137 c) _ (cb138 d) _ h8 _ (cb140 f) _ (by rw [hr]; unfold fR; simp only [b01, Bool.decide_or, ne0]; simp [nd, nuOk]; cases (b != -1 && !vrOk b) <;> simp [Bool.or_assoc]) w
  · exact in56e 8 b c d e f _ _ rfl h5 h9 (cb136 b) _ (cb137 c) _ (cb138 d) _ h8 _ (cb140 f) _ (by rw [hr]; unfold fR; simp only [b01, Bool.decide_or, ne0]; simp [nd, nuOk]; cases (b != -1 && !vrOk b) <;> simp [Bool.or_assoc]) w
  · exact in56b 9 b c d e f _ _ rfl h5 h9 (cb136 b) _ (cb137 c) _ h8 _ (by rw [hr]; unfold fR; simp only [b01, Bool.decide_or, ne0]; simp [nd, nuOk]; cases (b != -1 && !vrOk b) <;> simp [Bool.or_assoc]) w
theorem sat115 : Sat prog cxT 115 (c115 m118) := by
  intro w A0 l us r hA hargs hF
  obtain ⟨x, t, rfl, hx, rfl⟩ := fnT_inv hF
  cases hx
  rw [show us = [.agg (cV x).toArray] from agg1 hargs]
  obtain ⟨k, b, c, d, e, f⟩ := x
  have fin : Calls prog 115 #[.agg #[.int .i64 k, .int .i64 b, .int .i64 c, .int .i64 d, .int .i64 e, .int .i64 f]] w fun e' w' => e' = .returned (.int .i64 (cmF (k, b, c, d, e, f))) ∧ Below w.heap.size w w' := by
    by_cases hk : 1 ≤ k ∧ k ≤ 9
    · exact in56 k b c d e f hk w
    · have e' : cmF (k, b, c, d, e, f) = 1 := if_neg hk
      rw [e']
      exact out56 k b c d _ f hk w
  exact fin.mono fun e' w' ⟨he, hw⟩ => ⟨_, he, hw, res_lv _⟩
end Go.Proofs.Tryz
