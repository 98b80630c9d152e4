/- A part of the proof of FnOrders: L3Pq. -/
import Derived.RangeFuncBox
import Derived.RangeFuncLeaves
import Derived.Shelf.Abstract
import Derived.WalkKit
import Derived.OwnWalkIn
import Derived.TacticsInMore
import Derived.LoopNIn
import Derived.LoopIn
import Derived.Maps.AppendAt
import Derived.Test.YteiaijhjndielaaL3Pb
set_option linter.unusedVariables false
set_option linter.unusedSimpArgs false
namespace Go.Proofs.Try
open Go Go.VM Go.RowKit Go.Shelf

attribute [local go_sem] Oper.semAt_some

theorem res_pair {w : World} {A0 N : Nat → Prop} {a b : Value} {u : Value} (h : ResV cxT w A0 N (.inl (.inr [lv a, lv b])) u) : u = .agg #[a, b] := by
  obtain ⟨fp, _, _, us, fps, hu, _, hl, hf, h⟩ := h
  match us, fps, hl, hf with
  | [x, y], [f, g], _, _ =>
    have h1 : x = a := (h 0 _ x f rfl rfl rfl).1
    have h2 : y = b := (h 1 _ y g rfl rfl rfl).1
    rw [hu, h1, h2]
theorem res_one {w : World} {A0 N : Nat → Prop} {a : Value} {u : Value} (h : ResV cxT w A0 N (.inl (.inl (lv a))) u) : u = a := by
  obtain ⟨fp, _, _, h⟩ := h
  exact h.1
theorem arg1 {w : World} (n : Int) : ArgAs cxT w (fun _ => False) [.inl (lv (.int .i64 n))] [.int .i64 n] := ⟨rfl, fun j a u h1 h2 => by
  cases j with
  | zero =>
    simp only [List.getElem?_cons_zero, Option.some.injEq] at h1 h2
    subst h1; subst h2
    exact rfl
  | succ j => simp at h1⟩
theorem name_calls (n : Int) (w : World) : Calls prog 37 #[.int .i64 n] w fun e w' => e = .returned (.bool (decide (isN n))) ∧ Below w.heap.size w w' := by
  have := sat37 w (fun _ => False) [.inl (lv (.int .i64 n))] [.int .i64 n] (n37 (decide (isN n))) (fun _ h => h.elim) (arg1 n) rfl
  exact this.mono fun e w' ⟨u, he, hb, hr⟩ => ⟨by rw [he, res_one hr], hb⟩
theorem off_calls (n : Int) (hn : isN n) (w : World) : Calls prog 16 #[.int .i64 n] w fun e w' => e = .returned (.agg #[.int .i64 0, .int .i64 (offI n)]) ∧ Below w.heap.size w w' := by
  have := sat16 w (fun _ => False) [.inl (lv (.int .i64 n))] [.int .i64 n] (n16 (0, offI n)) (fun _ h => h.elim) (arg1 n) (by
    show some (true, n16 (if isN n then (0, offI n) else (3, 0))) = _
    rw [if_pos hn])
  exact this.mono fun e w' ⟨u, he, hb, hr⟩ => ⟨by rw [he, res_pair hr], hb⟩
theorem skip_calls (n : Int) (hn : isN n) (w : World) : Calls prog 17 #[.int .i64 n] w fun e w' => e = .returned (.agg #[.int .i64 0, .int .i64 (skipI n)]) ∧ Below w.heap.size w w' := by
  have := sat17 w (fun _ => False) [.inl (lv (.int .i64 n))] [.int .i64 n] (n17 (0, skipI n)) (fun _ h => h.elim) (arg1 n) (by
    show some (true, n17 (if isN n then (0, skipI n) else (3, 0))) = _
    rw [if_pos hn])
  exact this.mono fun e w' ⟨u, he, hb, hr⟩ => ⟨by rw [he, res_pair hr], hb⟩

theorem cell_of_box_l {W : World} {B : Nat} {v : Value} {t : TypeId} (h : W.heap[B]? = some (.cells #[v] t (0, 0))) : W.cell? ⟨B, 0, none⟩ = some v ∧ W.frozen? ⟨B, 0, none⟩ = false := by
  constructor <;> simp [World.cell?, World.frozen?, h]
theorem cell_new_l (W : World) (v : Value) (t : TypeId) : (W.alloc (.cells #[v] t)).cell? ⟨W.heap.size, 0, none⟩ = some v ∧ (W.alloc (.cells #[v] t)).frozen? ⟨W.heap.size, 0, none⟩ = false :=
  cell_of_box_l (World.alloc_heap_new W _)
theorem cell_alloc_l {W : World} {a : Addr} {v : Value} (o : Obj) (h : W.cell? a = some v) : (W.alloc o).cell? a = some v := cell_kept h (World.grownBy_alloc W o none) (fun r e => by cases e)

/-- All but a box, and what is new from R on. -/
abbrev Kb (R B : Nat) : World → World → Prop := Kept (fun k => R ≤ k ∨ k = B)
theorem kb_grown {R B : Nat} {W W' : World} {row : Option Nat} (hg : W.grownBy W' row) (hR : R ≤ W.heap.size) (hr : ∀ k, row = some k → R ≤ k ∨ k = B) : Kb R B W W' :=
  ⟨hg.os, hg.tape, hg.output, hg.size, fun k hk => by
    have h1 : ¬ R ≤ k ∧ ¬ k = B := ⟨fun h => hk (.inl h), fun h => hk (.inr h)⟩
    exact hg.block k (by omega) (fun e => hk (hr k e.symm))⟩
theorem own_base {W : World} {R : Nat} {e : TypeId} {size : Nat} {v : Value} {k : Nat} {xs : List Value} (h : W.ownsRow R e size v k xs) : W.ownsRow 0 e size v k xs :=
  ⟨h.1, h.2.imp id fun ⟨g, cap, cur, h1, _, h2⟩ => ⟨g, cap, cur, h1, Nat.zero_le _, h2⟩⟩
theorem appended2 {W w1 : World} {R B : Nat} {v v' : Value} {k m : Nat} {xs ys : List Value} {tmp : Obj} (hv : Boxed W B 25 v) (hrow : W.ownsRow R 2 1 v k xs) (hR : R ≤ W.heap.size)
    (hown' : w1.ownsRow R 2 1 v' m ys) (hgrow : (W.alloc tmp).grownBy w1 v.ownBlock) :
    Boxed w1 B 25 v ∧ Boxed (w1.setCell ⟨B, 0, none⟩ v') B 25 v' ∧ (w1.setCell ⟨B, 0, none⟩ v').ownsRow R 2 1 v' m ys ∧ KeepsOthers W (w1.setCell ⟨B, 0, none⟩ v') ∧ Kb R B W (w1.setCell ⟨B, 0, none⟩ v') := by
  obtain ⟨h1, h2, _, h4, _⟩ := hv.appended (by decide) (own_base hrow) (Nat.zero_le _) (Nat.zero_le _) (own_base hown') hgrow
  refine ⟨h1, h2, hown'.kept (grownBy_setCell' w1 B v') (.inr (h1.not_row (by decide) hown').symm), h4, ?_⟩
  have a1 : Kb R B W (W.alloc tmp) := kb_grown (World.grownBy_alloc W tmp none) hR (fun k e => by cases e)
  have a2 : Kb R B (W.alloc tmp) w1 := kb_grown hgrow (by simp; omega) (fun k e => by
    rcases hrow.2 with ⟨rfl, _⟩ | ⟨g, cap, cur, rfl, hb, _, _⟩
    · simp [Value.ownBlock] at e
    · obtain rfl : g = k := by simpa [Value.ownBlock] using e
      exact .inl hb)
  have a3 : Kb R B w1 (w1.setCell ⟨B, 0, none⟩ v') := kb_grown (grownBy_setCell' w1 B v') (by have := hgrow.size; simp at this; omega) (fun k e => by cases e; exact .inr rfl)
  exact (a1.trans a2).trans a3
/-- What the iterator reads lies as it lay. -/
def Kq (b c : Nat) (W W' : World) : Prop := W'.heap[b]? = W.heap[b]? ∧ W'.heap[c]? = W.heap[c]?

theorem field31 (x y : Value) (w : World) : (Instr.field 31 (.agg #[x, y]) 1).run prog w = .ok y w := by kernel_rfl
theorem makeF (fn : Fn) (first cap : Array Value) (w : World) : (Instr.makeFunc fn first cap).run prog w = .ok (.func fn first cap) w := rfl

set_option maxRecDepth 100000 in
set_option maxHeartbeats 1000000 in
theorem places_in (n : Nat) (hn : 3 ≤ n) (a : Int) (ha : isN a) (w : World) :
    CallsIn Fence.wide n prog 38 #[.int .i64 a] w fun e w' => ∃ b c, e = .returned (.func (.func 62) #[] #[.pointer (some ⟨b, 0, none⟩), .pointer (some ⟨c, 0, none⟩)]) ∧ w.heap.size ≤ b ∧ b < w'.heap.size ∧ w.heap.size ≤ c ∧ c < w'.heap.size ∧
      w'.cell? ⟨b, 0, none⟩ = some (.int .i64 (offI a)) ∧ w'.cell? ⟨c, 0, none⟩ = some (.int .i64 (skipI a)) ∧ Below w.heap.size w w' := by
  have hmf := makeF
  have hfd := field31
  refine callsIn_of_wp func38 rfl trivial ?_ rfl
  simp only [ntmps38, List.size_toArray, List.length_cons, List.length_nil, Nat.reduceAdd, Nat.reduceSub, Array.replicate_succ, Array.replicate_zero, List.push_toArray, List.append_toArray, List.nil_append, List.cons_append]
  have hd : Fence.wide.depth.isSome = true → 1 ≤ n := fun h => by cases h
  gi_wp2
  refine ⟨trivial, hd, (callsIn_wide.2 (off_calls a ha _)).mono ?_⟩
  rintro e w1 ⟨rfl, hb1⟩
  gi_wp2
  refine ⟨trivial, hd, (callsIn_wide.2 (skip_calls a ha _)).mono ?_⟩
  rintro e w2 ⟨rfl, hb2⟩
  gi_wp2
  go_ret
  have hbb : Below w.heap.size w w2 := hb1.trans (hb2.mono hb1.size)
  have hs := hbb.size
  refine ⟨w2.heap.size, w2.heap.size + 1, rfl, hs, by simp; omega, by omega, by simp, ?_, ?_, (hbb.alloc (by omega) _).alloc (by simp; omega) _⟩
  · exact cell_alloc_l _ (cell_new_l w2 (.int .i64 (offI a)) 2).1
  · have hc := (cell_new_l (w2.alloc (.cells #[.int .i64 (offI a)] 2)) (.int .i64 (skipI a)) 2).1
    rw [World.size_alloc] at hc
    exact hc

/-- What has come when k rounds are over. -/
def upto (f : Nat → Int) (k : Nat) : List Int := (List.range k).map f
theorem upto_succ (f : Nat → Int) (k : Nat) : upto f (k + 1) = upto f k ++ [f k] := by simp [upto, List.range_succ]
theorem upto_length (f : Nat → Int) (k : Nat) : (upto f k).length = k := by simp [upto]
def pl (a : Int) (k : Nat) : Int := (offI a + k * skipI a) % 31
theorem off_in (a : Int) : 0 ≤ offI a ∧ offI a < 31 := by
  unfold offI
  have := mixI_in a 3
  omega
theorem skip_in (a : Int) : 1 ≤ skipI a ∧ skipI a ≤ 30 := by
  unfold skipI
  have := mixI_in a 5
  omega
theorem mul_in {k : Nat} (hk : k < 31) {s : Int} (hs : 1 ≤ s ∧ s ≤ 30) : 0 ≤ (k : Int) * s ∧ (k : Int) * s ≤ 900 :=
  ⟨Int.mul_nonneg (by omega) (by omega), Int.le_trans (Int.mul_le_mul (show (k : Int) ≤ 30 by omega) hs.2 (by omega) (by omega)) (by omega)⟩
theorem pl_eq (a : Int) {k : Nat} (hk : k < 31) : (wrap64 (offI a + wrap64 ((k : Int) * skipI a))).tmod 31 = pl a k := by
  have h1 := off_in a
  have h2 := mul_in hk (skip_in a)
  have w1 : wrap64 ((k : Int) * skipI a) = (k : Int) * skipI a := by unfold wrap64; omega
  have w2 : wrap64 (offI a + (k : Int) * skipI a) = offI a + (k : Int) * skipI a := by unfold wrap64; omega
  rw [w1, w2, Int.tmod_eq_emod_of_nonneg (by omega)]
  rfl

set_option maxRecDepth 100000 in
set_option maxHeartbeats 2000000 in
theorem iter_in (n : Nat) (hn : 1 ≤ n) (l B C : Nat) (a : Int) (J Jx : List Int → World → Prop)
    (hY : ∀ pre x W, J pre W → pre.length < 31 → YieldAt Fence.wide (n - 1) prog l #[.int .i64 x] W fun e W' =>
      (e = .returned (.bool true) ∧ J (pre ++ [x]) W' ∧ Kq B C W W') ∨ (e = .returned (.bool false) ∧ Jx (pre ++ [x]) W'))
    (W : World) (h1 : W.cell? ⟨B, 0, none⟩ = some (.int .i64 (offI a))) (h2 : W.cell? ⟨C, 0, none⟩ = some (.int .i64 (skipI a))) (h0 : J [] W) :
    CallsIn Fence.wide n prog 62 #[.func (.yield l) #[] #[], .pointer (some ⟨B, 0, none⟩), .pointer (some ⟨C, 0, none⟩)] W fun e W' => (∃ v, e = .returned v) ∧
      ((∃ ys, ys = upto (pl a) 31 ∧ J ys W') ∨ (∃ pre, (∃ k, k ≤ 31 ∧ pre = upto (pl a) k) ∧ Jx pre W')) := by
  refine callsIn_of_wp func62 rfl trivial ?_ rfl
  simp only [ntmps62, List.size_toArray, List.length_cons, List.length_nil, Nat.reduceAdd, Nat.reduceSub, Array.replicate_succ, Array.replicate_zero, List.push_toArray, List.append_toArray, List.nil_append, List.cons_append]
  gi_wp2
  gi_loopw [5] (fun i wr => ∃ k : Nat, k ≤ 31 ∧ i = .int .i64 k ∧ J (upto (pl a) k) wr ∧ Kq B C W wr)
    (fun i _ => 31 - (intOf i).toNat)
  case atStart => exact ⟨0, Nat.zero_le _, rfl, h0, rfl, rfl⟩
  case round =>
    obtain ⟨k, hk, rfl, hJs, hnx⟩ := hrel
    have c1 : wr.cell? ⟨B, 0, none⟩ = some (.int .i64 (offI a)) := (World.cell?_of_block (a := ⟨B, 0, none⟩) hnx.1).trans h1
    have c2 : wr.cell? ⟨C, 0, none⟩ = some (.int .i64 (skipI a)) := (World.cell?_of_block (a := ⟨C, 0, none⟩) hnx.2).trans h2
    by_cases hlt : k < 31
    · obtain ⟨fn, tmps, assign, body, hy, hR⟩ := hY _ (pl a k) wr hJs (by rw [upto_length]; exact hlt)
      have he : (wrap64 (offI a + wrap64 ((k : Int) * skipI a))).tmod 31 = pl a k := pl_eq a hlt
      gi_wp2
      refine hR.mono ?_
      rintro e W3 (⟨rfl, hJ3, hk3⟩ | ⟨rfl, hJx3⟩)
      · gi_wp2
        go_roundw
        case rel => exact ⟨k + 1, by omega, by simp, by rw [upto_succ]; exact hJ3, hk3.1.trans hnx.1, hk3.2.trans hnx.2⟩
        case measure => simp [intOf]; omega
      · gi_wp2
        refine bodyPost_ret (results_none rfl _ _ _) rfl ?_
        exact ⟨⟨_, rfl⟩, .inr ⟨_, ⟨k + 1, by omega, (upto_succ _ _).symm⟩, hJx3⟩⟩
    · obtain rfl : k = 31 := by omega
      gi_wp2
      go_end0
      exact ⟨⟨_, rfl⟩, .inl ⟨_, rfl, hJs⟩⟩

theorem places_stops (n : Nat) (hn : 1 ≤ n) (B C : Nat) (a : Int) (w : World) (hB : B < w.heap.size) (hC : C < w.heap.size)
    (h1 : w.cell? ⟨B, 0, none⟩ = some (.int .i64 (offI a))) (h2 : w.cell? ⟨C, 0, none⟩ = some (.int .i64 (skipI a))) :
    SeqStopsK Fence.wide n prog 62 #[.pointer (some ⟨B, 0, none⟩), .pointer (some ⟨C, 0, none⟩)] (fun x : Int => #[Value.int .i64 x]) (Kq B C) (fun ys => ys = upto (pl a) 31) (fun _ => True) 31 w := fun l J Jx W hW _ _ hY h0 => by
  refine (iter_in n hn l B C a J Jx hY W ((hW.cell (p := ⟨B, 0, none⟩) hB).trans h1) ((hW.cell (p := ⟨C, 0, none⟩) hC).trans h2) h0).mono ?_
  rintro e W' ⟨he, ⟨ys, rfl, hj⟩ | ⟨pre, _, hj⟩⟩
  · exact ⟨he, .inl ⟨_, rfl, hj⟩⟩
  · exact ⟨he, .inr ⟨_, trivial, hj⟩⟩

theorem info2 : (prog.info? 2).map (fun i => (i.zero, i.size, i.bytes)) = some (some (.int .i64 0), 1, 8) := by kernel_rfl

set_option maxRecDepth 100000 in
set_option maxHeartbeats 2000000 in
theorem perm_in (n : Nat) (hn : 5 ≤ n) (a : Int) (ha : isN a) (w : World) :
    CallsIn Fence.wide n prog 13 #[.int .i64 a] w fun e W' => ∃ v, e = .returned (.agg #[.int .i64 0, v]) ∧ W'.ownsRow w.heap.size 2 1 v 31 ((upto (pl a) 31).map (Value.int .i64)) ∧ Below w.heap.size w W' := by
  have h1 : 1 ≤ n := by omega
  have hd : Fence.wide.depth.isSome = true → 1 ≤ n := fun h => by cases h
  obtain ⟨i0, hi, hz0, hz1, hz2⟩ := info_parts info2
  refine callsIn_of_wp_marks func13 rfl trivial ?_ rfl
  simp only [ntmps13, List.size_toArray, List.length_cons, List.length_nil, Nat.reduceAdd, Nat.reduceSub, Array.replicate_succ, Array.replicate_zero, List.push_toArray, List.append_toArray, List.nil_append, List.cons_append]
  gi_wp2
  refine ⟨trivial, (callsIn_wide.2 (name_calls a _)).mono ?_⟩
  rintro e w1 ⟨rfl, hb1⟩
  rw [dt ha]
  gi_wp2
  refine ⟨trivial, (places_in (n - 1) (by omega) a ha _).mono ?_⟩
  rintro e w3 ⟨b, c, rfl, hb, hb', hc, hc', cb, cc, hb3⟩
  gi_wp2
  rw [World.size_alloc] at hb hc
  have hbx : Boxed w3 w1.heap.size 25 (.slice none 0 0) := (hb3.block w1.heap.size (by simp)).trans (Boxed.new w1 25 (.slice none 0 0))
  have hs3 := hb3.size
  rw [World.size_alloc] at hs3
  refine wpIn_rangeFunc_ownG rfl h1 (gf := 62) (lb := #[.pointer (some ⟨b, 0, none⟩), .pointer (some ⟨c, 0, none⟩)]) rfl trivial (enters_of func62 (by kernel_rfl) rfl)
    (places_stops (n - 1) (by omega) b c a w3 hb' hc' cb cc) (fun h k => ⟨k.1.trans h.1, k.2.trans h.2⟩)
    (fun W l o o' hl hlo _ _ => by
      have hlt := (Array.getElem?_eq_some_iff.1 hlo).1
      exact ⟨(grownBy_putObj' W l o').block b (by omega) (by intro e; cases e; omega), (grownBy_putObj' W l o').block c (by omega) (by intro e; cases e; omega)⟩) (Below.refl _ _) (fun _ => rfl)
    (fun (pre : List Int) W => (∃ v, Boxed W w1.heap.size 25 v ∧ W.ownsRow w3.heap.size 2 1 v pre.length (pre.map (Value.int .i64)) ∧ True) ∧ Kb w3.heap.size w1.heap.size w3 W)
    (fun _ _ _ => False)
    (OwnFrom.and (Own.from (holdsRow_own w3.heap.size w1.heap.size 25 2 1 (fun pre : List Int => pre.length) (fun pre : List Int => pre.map (Value.int .i64)) (fun _ _ => True)) _)
      (fun _ W W' row hs hg hr => hs.trans (kb_grown hg hs.size (fun k e => .inl (hr k e).1))))
    (fun _ _ _ _ _ hs _ _ => hs)
    ⟨⟨_, hbx, World.ownsRow_nil _ _ _ _, trivial⟩, Kept.refl _ _⟩
    (fun x => { tmps := #[Value.int IntKind.i64 a, undef, Value.pointer (some { block := w.heap.size, off := 0 }),
          Value.pointer (some { block := w1.heap.size, off := 0 }), .int .i64 x, Value.int IntKind.i64 a, Value.bool true,
          Value.bool false, undef, Value.int IntKind.i64 a,
          Value.func (Fn.func 62) #[]
            #[Value.pointer (some { block := b, off := 0 }), Value.pointer (some { block := c, off := 0 })],
          .int .i64 x, undef, undef, undef, undef, undef, undef], defers := [] }) ?assign ?body ?done ?stop
  case assign =>
    intro l x W K hK
    gi_wp2
    exact hK
  case body =>
    rintro l pre x W ⟨⟨v, hv, hrow, _⟩, hB⟩ hlt
    have hc := hv.cell
    have hRs := hB.size
    gi_wp2_with (gi_at_builtin; refine wpListIn_append_own _ rfl _ _ 25 rfl w3.heap.size 2 i0 (.int .i64 0) 1 8 underlying25 hi hz0 hz1 hz2 rfl (by decide) _ _ _ rfl (hrow.alloc _) ⟨W.heap.size, 0, none⟩ 1 1 [.int .i64 x] rfl rfl (cell_one_new _ _ _) (by simp [Value.oneCell']) (by simp [maxLen]; omega) (by omega) (by simp; omega) ?_; intro v' w4 hown' hgrow _; obtain ⟨g', cap', rfl⟩ := ownsRow_succ hown'; obtain ⟨hv1, hv2, hr2, hk2, hb2⟩ := appended2 hv hrow hB.size hown' hgrow; have hc1 := hv1.cell; have hf1 := hv1.frozen)
    exact ⟨hk2.from _, ⟨hb2.block b (by omega), hb2.block c (by omega)⟩, ⟨_, hv2, by simpa using hr2, trivial⟩, hB.trans hb2⟩
  case done =>
    rintro D ys W hD rfl ⟨⟨v, hv, hrow, _⟩, hB⟩ hK
    rw [upto_length] at hrow
    have hrow : W.ownsRow w3.heap.size 2 1 v (30 + 1) ((upto (pl a) 31).map (Value.int .i64)) := hrow
    obtain ⟨g', cap', rfl⟩ := ownsRow_succ hrow
    have hc := hv.cell
    have hs1 := hb1.size
    rw [World.size_alloc] at hs1
    have q1 : w1.heap[w.heap.size]? = some (.cells #[.int .i64 0, .slice none 0 0] 27 (0, 0)) := (hb1.block w.heap.size (by simp)).trans (World.alloc_heap_new w _)
    have q3 : w3.heap[w.heap.size]? = some (.cells #[.int .i64 0, .slice none 0 0] 27 (0, 0)) := ((hb3.block w.heap.size (by simp; omega)).trans (Below.heap_alloc _ _ _ (by omega))).trans q1
    have q4 : W.heap[w.heap.size]? = some (.cells #[.int .i64 0, .slice none 0 0] 27 (0, 0)) := (hB.block w.heap.size (by omega)).trans q3
    have c0 : W.cell? ⟨w.heap.size, 0, none⟩ = some (.int .i64 0) := by simp [World.cell?, q4]
    have c1 : W.cell? ⟨w.heap.size, 1, none⟩ = some (.slice none 0 0) := by simp [World.cell?, q4]
    have f0 : W.frozen? ⟨w.heap.size, 0, none⟩ = false := by simp [World.frozen?, q4]
    have f1 : W.frozen? ⟨w.heap.size, 1, none⟩ = false := by simp [World.frozen?, q4]
    gi_wp2
    generalize hW2 : ((W.setCell { block := w.heap.size, off := 0 } (Value.int IntKind.i64 0)).setCell { block := w.heap.size, off := 1 } (Value.slice (some { block := g', off := 0 }) 31 cap')) = W2
    have k0 : ∀ k, k ≠ w.heap.size → W2.heap[k]? = W.heap[k]? := fun k hk => by
      rw [← hW2, heap_setCell_other _ _ _ _ hk, heap_setCell_other _ _ _ _ hk]
    have kr : W2.heap[w.heap.size]? = some (.cells #[.int .i64 0, .slice (some ⟨g', 0, none⟩) 31 cap'] 27 (0, 0)) := by
      rw [← hW2]
      have := heap_setCell_same W w.heap.size 0 #[.int .i64 0, .slice none 0 0] 27 (.int .i64 0) q4
      rw [heap_setCell_same _ w.heap.size 1 _ 27 _ this]
      rfl
    have kz : W2.heap.size = W.heap.size := by rw [← hW2]; simp [World.setCell]
    have hK2 : W2.heap[D]? = some (.deferred (some [])) := (k0 D (by omega)).trans hK
    refine ⟨by simp, .inl ⟨_, _, rfl, run_takeDeferred hK2, ?_⟩⟩
    have hne : w.heap.size ≠ D := by omega
    have hput : ∀ k, k ≠ D → (W2.putObj D (.deferred none)).heap[k]? = W2.heap[k]? := fun k hk => by
      by_cases hlt : k < W2.heap.size
      · exact (grownBy_putObj' W2 D (.deferred none)).block k hlt (by intro e; cases e; exact hk rfl)
      · simp [World.putObj, Array.getElem?_setIfInBounds_ne (Ne.symm hk)]
    generalize hW3 : W2.putObj D (.deferred none) = W3 at hput
    have z0 : W3.cell? ⟨w.heap.size, 0, none⟩ = some (.int .i64 0) := by simp [World.cell?, hput _ hne, kr]
    have z1 : W3.cell? ⟨w.heap.size, 1, none⟩ = some (.slice (some ⟨g', 0, none⟩) 31 cap') := by simp [World.cell?, hput _ hne, kr]
    refine ⟨.agg #[.int .i64 0, .slice (some ⟨g', 0, none⟩) 31 cap'], ?_, _, rfl, ?_, ?_⟩
    · simp [results, show f13.results = #[.cell 2 27] from rfl, go_sem, z0, z1]
    · have o2 : W2.ownsRow w3.heap.size 2 1 (.slice (some ⟨g', 0, none⟩) 31 cap') 31 ((upto (pl a) 31).map (Value.int .i64)) := by
        obtain ⟨hx, hcx⟩ := hrow
        refine ⟨hx, ?_⟩
        rcases hcx with ⟨e1, _⟩ | ⟨g2, cap2, cur2, hv', hg2, hh2, hrest⟩
        · cases e1
        · exact .inr ⟨g2, cap2, cur2, hv', hg2, (k0 g2 (by omega)).trans hh2, hrest⟩
      obtain ⟨hx, hcx⟩ := o2
      refine ⟨hx, ?_⟩
      rcases hcx with ⟨e1, _⟩ | ⟨g2, cap2, cur2, hv', hg2, hh2, hrest⟩
      · cases e1
      · refine .inr ⟨g2, cap2, cur2, hv', by omega, (hput g2 ?_).trans hh2, hrest⟩
        rintro rfl
        rw [hK2] at hh2
        cases hh2
    · have e1 : Below w.heap.size w w1 := ((Below.refl _ w).alloc (Nat.le_refl _) _).trans (hb1.mono (by simp))
      have e3 : Below w.heap.size w w3 := (e1.alloc (by omega) _).trans (hb3.mono (by simp; omega))
      refine e3.trans ⟨?_, ?_, ?_, ?_, fun k hk => ?_⟩
      · rw [← hW3, ← hW2]; exact hB.os
      · rw [← hW3, ← hW2]; exact hB.tape
      · rw [← hW3, ← hW2]; exact hB.output
      · rw [← hW3]
        have := hB.size
        simp [World.putObj]
        omega
      · rw [hput k (by omega), k0 k (by omega)]
        exact hB.block k (by omega)
  case stop =>
    rintro D c pre W _ _ h _
    exact h.elim
end Go.Proofs.Try
