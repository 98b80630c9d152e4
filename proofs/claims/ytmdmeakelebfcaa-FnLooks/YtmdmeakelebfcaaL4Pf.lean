/- A part of the proof of FnLooks: L4Pf, L4Pg, L4Ph, L4Pi, L4Pj. -/
import Derived.RangeFuncBox
import Derived.RangeFuncLeaves
import Derived.Shelf.Abstract
import Derived.WalkKit
import Derived.OwnWalkIn
import Derived.TacticsInMore
import Derived.LoopNIn
import Derived.LoopIn
import Derived.Maps.AppendAt
import Derived.Test.YtmdmeakelebfcaaL4Pa
import Derived.WalkMore
import Derived.Deep.LoopGhost
set_option linter.unusedVariables false
set_option linter.unusedSimpArgs false
namespace Go.Proofs.Try
open Go Go.VM Go.RowKit Go.Shelf

attribute [local go_sem] Oper.semAt_some

theorem res_pair {w : World} {A0 N : Nat → Prop} {a b : Value} {u : Value} (h : ResV cxT w A0 N (.inl (.inr [lv a, lv b])) u) : u = .agg #[a, b] := by
  obtain ⟨fp, _, _, us, fps, hu, _, hl, hf, h⟩ := h
  match us, fps, hl, hf with
  | [x, y], [f, g], _, _ =>
    have h1 : x = a := (h 0 _ x f rfl rfl rfl).1
    have h2 : y = b := (h 1 _ y g rfl rfl rfl).1
    rw [hu, h1, h2]
theorem res_one {w : World} {A0 N : Nat → Prop} {a : Value} {u : Value} (h : ResV cxT w A0 N (.inl (.inl (lv a))) u) : u = a := by
  obtain ⟨fp, _, _, h⟩ := h
  exact h.1
theorem arg1 {w : World} (n : Int) : ArgAs cxT w (fun _ => False) [.inl (lv (.int .i64 n))] [.int .i64 n] := ⟨rfl, fun j a u h1 h2 => by
  cases j with
  | zero =>
    simp only [List.getElem?_cons_zero, Option.some.injEq] at h1 h2
    subst h1; subst h2
    exact rfl
  | succ j => simp at h1⟩
theorem name_calls (n : Int) (w : World) : Calls prog 56 #[.int .i64 n] w fun e w' => e = .returned (.bool (decide (isN n))) ∧ Below w.heap.size w w' := by
  have := sat56 w (fun _ => False) [.inl (lv (.int .i64 n))] [.int .i64 n] (n56 (decide (isN n))) (fun _ h => h.elim) (arg1 n) rfl
  exact this.mono fun e w' ⟨u, he, hb, hr⟩ => ⟨by rw [he, res_one hr], hb⟩
theorem off_calls (n : Int) (hn : isN n) (w : World) : Calls prog 72 #[.int .i64 n] w fun e w' => e = .returned (.agg #[.int .i64 0, .int .i64 (offI n)]) ∧ Below w.heap.size w w' := by
  have := sat72 w (fun _ => False) [.inl (lv (.int .i64 n))] [.int .i64 n] (n72 (0, offI n)) (fun _ h => h.elim) (arg1 n) (by
    show some (true, n72 (if isN n then (0, offI n) else (3, 0))) = _
    rw [if_pos hn])
  exact this.mono fun e w' ⟨u, he, hb, hr⟩ => ⟨by rw [he, res_pair hr], hb⟩
theorem skip_calls (n : Int) (hn : isN n) (w : World) : Calls prog 73 #[.int .i64 n] w fun e w' => e = .returned (.agg #[.int .i64 0, .int .i64 (skipI n)]) ∧ Below w.heap.size w w' := by
  have := sat73 w (fun _ => False) [.inl (lv (.int .i64 n))] [.int .i64 n] (n73 (0, skipI n)) (fun _ h => h.elim) (arg1 n) (by
    show some (true, n73 (if isN n then (0, skipI n) else (3, 0))) = _
    rw [if_pos hn])
  exact this.mono fun e w' ⟨u, he, hb, hr⟩ => ⟨by rw [he, res_pair hr], hb⟩

theorem cell_of_box_l {W : World} {B : Nat} {v : Value} {t : TypeId} (h : W.heap[B]? = some (.cells #[v] t (0, 0))) : W.cell? ⟨B, 0, none⟩ = some v ∧ W.frozen? ⟨B, 0, none⟩ = false := by
  constructor <;> simp [World.cell?, World.frozen?, h]
theorem cell_new_l (W : World) (v : Value) (t : TypeId) : (W.alloc (.cells #[v] t)).cell? ⟨W.heap.size, 0, none⟩ = some v ∧ (W.alloc (.cells #[v] t)).frozen? ⟨W.heap.size, 0, none⟩ = false :=
  cell_of_box_l (World.alloc_heap_new W _)
theorem cell_alloc_l {W : World} {a : Addr} {v : Value} (o : Obj) (h : W.cell? a = some v) : (W.alloc o).cell? a = some v := cell_kept h (World.grownBy_alloc W o none) (fun r e => by cases e)

/-- All but a box, and what is new from R on. -/
abbrev Kb (R B : Nat) : World → World → Prop := Kept (fun k => R ≤ k ∨ k = B)
theorem kb_grown {R B : Nat} {W W' : World} {row : Option Nat} (hg : W.grownBy W' row) (hR : R ≤ W.heap.size) (hr : ∀ k, row = some k → R ≤ k ∨ k = B) : Kb R B W W' :=
  ⟨hg.os, hg.tape, hg.output, hg.size, fun k hk => by
    have h1 : ¬ R ≤ k ∧ ¬ k = B := ⟨fun h => hk (.inl h), fun h => hk (.inr h)⟩
    exact hg.block k (by omega) (fun e => hk (hr k e.symm))⟩
theorem own_base {W : World} {R : Nat} {e : TypeId} {size : Nat} {v : Value} {k : Nat} {xs : List Value} (h : W.ownsRow R e size v k xs) : W.ownsRow 0 e size v k xs :=
  ⟨h.1, h.2.imp id fun ⟨g, cap, cur, h1, _, h2⟩ => ⟨g, cap, cur, h1, Nat.zero_le _, h2⟩⟩
theorem appended2 {W w1 : World} {R B : Nat} {v v' : Value} {k m : Nat} {xs ys : List Value} {tmp : Obj} (hv : Boxed W B 25 v) (hrow : W.ownsRow R 2 1 v k xs) (hR : R ≤ W.heap.size)
    (hown' : w1.ownsRow R 2 1 v' m ys) (hgrow : (W.alloc tmp).grownBy w1 v.ownBlock) :
    Boxed w1 B 25 v ∧ Boxed (w1.setCell ⟨B, 0, none⟩ v') B 25 v' ∧ (w1.setCell ⟨B, 0, none⟩ v').ownsRow R 2 1 v' m ys ∧ KeepsOthers W (w1.setCell ⟨B, 0, none⟩ v') ∧ Kb R B W (w1.setCell ⟨B, 0, none⟩ v') := by
  obtain ⟨h1, h2, _, h4, _⟩ := hv.appended (by decide) (own_base hrow) (Nat.zero_le _) (Nat.zero_le _) (own_base hown') hgrow
  refine ⟨h1, h2, hown'.kept (grownBy_setCell' w1 B v') (.inr (h1.not_row (by decide) hown').symm), h4, ?_⟩
  have a1 : Kb R B W (W.alloc tmp) := kb_grown (World.grownBy_alloc W tmp none) hR (fun k e => by cases e)
  have a2 : Kb R B (W.alloc tmp) w1 := kb_grown hgrow (by simp; omega) (fun k e => by
    rcases hrow.2 with ⟨rfl, _⟩ | ⟨g, cap, cur, rfl, hb, _, _⟩
    · simp [Value.ownBlock] at e
    · obtain rfl : g = k := by simpa [Value.ownBlock] using e
      exact .inl hb)
  have a3 : Kb R B w1 (w1.setCell ⟨B, 0, none⟩ v') := kb_grown (grownBy_setCell' w1 B v') (by have := hgrow.size; simp at this; omega) (fun k e => by cases e; exact .inr rfl)
  exact (a1.trans a2).trans a3
/-- What the iterator reads lies as it lay. -/
def Kq (b c : Nat) (W W' : World) : Prop := W'.heap[b]? = W.heap[b]? ∧ W'.heap[c]? = W.heap[c]?

theorem field42 (x y : Value) (w : World) : (Instr.field 42 (.agg #[x, y]) 1).run prog w = .ok y w := by kernel_rfl
theorem makeF (fn : Fn) (first cap : Array Value) (w : World) : (Instr.makeFunc fn first cap).run prog w = .ok (.func fn first cap) w := rfl

set_option maxRecDepth 100000 in
set_option maxHeartbeats 1000000 in
theorem places_in (n : Nat) (hn : 3 ≤ n) (a : Int) (ha : isN a) (w : World) :
    CallsIn Fence.wide n prog 69 #[.int .i64 a] w fun e w' => ∃ b c, e = .returned (.func (.func 74) #[] #[.pointer (some ⟨b, 0, none⟩), .pointer (some ⟨c, 0, none⟩)]) ∧ w.heap.size ≤ b ∧ b < w'.heap.size ∧ w.heap.size ≤ c ∧ c < w'.heap.size ∧
      w'.heap[b]? = some (.cells #[.int .i64 (offI a)] 2 (0, 0)) ∧ w'.heap[c]? = some (.cells #[.int .i64 (skipI a)] 2 (0, 0)) ∧ Below w.heap.size w w' := by
  have hmf := makeF
  have hfd := field42
  refine callsIn_of_wp func69 rfl trivial ?_ rfl
  simp only [ntmps69, List.size_toArray, List.length_cons, List.length_nil, Nat.reduceAdd, Nat.reduceSub, Array.replicate_succ, Array.replicate_zero, List.push_toArray, List.append_toArray, List.nil_append, List.cons_append]
  have hd : Fence.wide.depth.isSome = true → 1 ≤ n := fun h => by cases h
  gi_wp2
  refine ⟨trivial, hd, (callsIn_wide.2 (off_calls a ha _)).mono ?_⟩
  rintro e w1 ⟨rfl, hb1⟩
  gi_wp2
  refine ⟨trivial, hd, (callsIn_wide.2 (skip_calls a ha _)).mono ?_⟩
  rintro e w2 ⟨rfl, hb2⟩
  gi_wp2
  go_ret
  have hbb : Below w.heap.size w w2 := hb1.trans (hb2.mono hb1.size)
  have hs := hbb.size
  refine ⟨w2.heap.size, w2.heap.size + 1, rfl, hs, by simp; omega, by omega, by simp, ?_, ?_, (hbb.alloc (by omega) _).alloc (by simp; omega) _⟩
  · exact (Below.heap_alloc _ _ _ (by simp)).trans (World.alloc_heap_new w2 _)
  · have hc := World.alloc_heap_new (w2.alloc (.cells #[.int .i64 (offI a)] 2)) (.cells #[.int .i64 (skipI a)] 2)
    rw [World.size_alloc] at hc
    exact hc

/-- What has come when k rounds are over. -/
def upto {α : Type} (f : Nat → α) (k : Nat) : List α := (List.range k).map f
theorem upto_succ {α : Type} (f : Nat → α) (k : Nat) : upto f (k + 1) = upto f k ++ [f k] := by simp [upto, List.range_succ]
theorem upto_length {α : Type} (f : Nat → α) (k : Nat) : (upto f k).length = k := by simp [upto]
def pl (a : Int) (k : Nat) : Int := (offI a + k * skipI a) % 31
abbrev Pl := { x : Int // 0 ≤ x ∧ x < 31 }
def pls (a : Int) (k : Nat) : Pl := ⟨pl a k, by unfold pl; omega⟩
theorem off_in (a : Int) : 0 ≤ offI a ∧ offI a < 31 := by
  unfold offI
  have := mixI_in a 3
  omega
theorem skip_in (a : Int) : 1 ≤ skipI a ∧ skipI a ≤ 30 := by
  unfold skipI
  have := mixI_in a 5
  omega
theorem mul_in {k : Nat} (hk : k < 31) {s : Int} (hs : 1 ≤ s ∧ s ≤ 30) : 0 ≤ (k : Int) * s ∧ (k : Int) * s ≤ 900 :=
  ⟨Int.mul_nonneg (by omega) (by omega), Int.le_trans (Int.mul_le_mul (show (k : Int) ≤ 30 by omega) hs.2 (by omega) (by omega)) (by omega)⟩
theorem pl_eq (a : Int) {k : Nat} (hk : k < 31) : (wrap64 (offI a + wrap64 ((k : Int) * skipI a))).tmod 31 = pl a k := by
  have h1 := off_in a
  have h2 := mul_in hk (skip_in a)
  have w1 : wrap64 ((k : Int) * skipI a) = (k : Int) * skipI a := by unfold wrap64; omega
  have w2 : wrap64 (offI a + (k : Int) * skipI a) = offI a + (k : Int) * skipI a := by unfold wrap64; omega
  rw [w1, w2, Int.tmod_eq_emod_of_nonneg (by omega)]
  rfl

set_option maxRecDepth 100000 in
set_option maxHeartbeats 2000000 in
theorem iter_in (n : Nat) (hn : 1 ≤ n) (l B C : Nat) (a : Int) (J Jx : List Pl → World → Prop)
    (hY : ∀ pre x W, J pre W → pre.length < 31 → YieldAt Fence.wide (n - 1) prog l #[.int .i64 x.1] W fun e W' =>
      (e = .returned (.bool true) ∧ J (pre ++ [x]) W' ∧ Kq B C W W') ∨ (e = .returned (.bool false) ∧ Jx (pre ++ [x]) W'))
    (W : World) (h1 : W.cell? ⟨B, 0, none⟩ = some (.int .i64 (offI a))) (h2 : W.cell? ⟨C, 0, none⟩ = some (.int .i64 (skipI a))) (h0 : J [] W) :
    CallsIn Fence.wide n prog 74 #[.func (.yield l) #[] #[], .pointer (some ⟨B, 0, none⟩), .pointer (some ⟨C, 0, none⟩)] W fun e W' => (∃ v, e = .returned v) ∧
      ((∃ ys, ys = upto (pls a) 31 ∧ J ys W') ∨ (∃ pre, (∃ k, k ≤ 31 ∧ pre = upto (pls a) k) ∧ Jx pre W')) := by
  refine callsIn_of_wp func74 rfl trivial ?_ rfl
  simp only [ntmps74, List.size_toArray, List.length_cons, List.length_nil, Nat.reduceAdd, Nat.reduceSub, Array.replicate_succ, Array.replicate_zero, List.push_toArray, List.append_toArray, List.nil_append, List.cons_append]
  gi_wp2
  gi_loopw [5] (fun i wr => ∃ k : Nat, k ≤ 31 ∧ i = .int .i64 k ∧ J (upto (pls a) k) wr ∧ Kq B C W wr)
    (fun i _ => 31 - (intOf i).toNat)
  case atStart => exact ⟨0, Nat.zero_le _, rfl, h0, rfl, rfl⟩
  case round =>
    obtain ⟨k, hk, rfl, hJs, hnx⟩ := hrel
    have c1 : wr.cell? ⟨B, 0, none⟩ = some (.int .i64 (offI a)) := (World.cell?_of_block (a := ⟨B, 0, none⟩) hnx.1).trans h1
    have c2 : wr.cell? ⟨C, 0, none⟩ = some (.int .i64 (skipI a)) := (World.cell?_of_block (a := ⟨C, 0, none⟩) hnx.2).trans h2
    by_cases hlt : k < 31
    · obtain ⟨fn, tmps, assign, body, hy, hR⟩ := hY _ (pls a k) wr hJs (by rw [upto_length]; exact hlt)
      have hpv : (pls a k).1 = pl a k := rfl
      rw [hpv] at hy
      have he : (wrap64 (offI a + wrap64 ((k : Int) * skipI a))).tmod 31 = pl a k := pl_eq a hlt
      gi_wp2
      refine hR.mono ?_
      rintro e W3 (⟨rfl, hJ3, hk3⟩ | ⟨rfl, hJx3⟩)
      · gi_wp2
        go_roundw
        case rel => exact ⟨k + 1, by omega, by simp, by rw [upto_succ]; exact hJ3, hk3.1.trans hnx.1, hk3.2.trans hnx.2⟩
        case measure => simp [intOf]; omega
      · gi_wp2
        refine bodyPost_ret (results_none rfl _ _ _) rfl ?_
        exact ⟨⟨_, rfl⟩, .inr ⟨_, ⟨k + 1, by omega, (upto_succ _ _).symm⟩, hJx3⟩⟩
    · obtain rfl : k = 31 := by omega
      gi_wp2
      go_end0
      exact ⟨⟨_, rfl⟩, .inl ⟨_, rfl, hJs⟩⟩

theorem places_stops (n : Nat) (hn : 1 ≤ n) (B C : Nat) (a : Int) (w : World) (hB : B < w.heap.size) (hC : C < w.heap.size)
    (h1 : w.cell? ⟨B, 0, none⟩ = some (.int .i64 (offI a))) (h2 : w.cell? ⟨C, 0, none⟩ = some (.int .i64 (skipI a))) :
    SeqStopsK Fence.wide n prog 74 #[.pointer (some ⟨B, 0, none⟩), .pointer (some ⟨C, 0, none⟩)] (fun x : Pl => #[Value.int .i64 x.1]) (Kq B C) (fun ys => ys = upto (pls a) 31) (fun pre => ∃ k, k ≤ 31 ∧ pre = upto (pls a) k) 31 w := fun l J Jx W hW _ _ hY h0 => by
  refine (iter_in n hn l B C a J Jx hY W ((hW.cell (p := ⟨B, 0, none⟩) hB).trans h1) ((hW.cell (p := ⟨C, 0, none⟩) hC).trans h2) h0).mono ?_
  rintro e W' ⟨he, ⟨ys, rfl, hj⟩ | ⟨pre, hp, hj⟩⟩
  · exact ⟨he, .inl ⟨_, rfl, hj⟩⟩
  · exact ⟨he, .inr ⟨_, hp, hj⟩⟩

end Go.Proofs.Try

set_option linter.unusedVariables false
set_option linter.unusedSimpArgs false
namespace Go.Proofs.Try
open Go Go.VM Go.RowKit Go.Shelf

attribute [local go_sem] Oper.semAt_some

/-- The first place of an order that is free. -/
def ff (xs : List Int) : List Pl → Option Nat
  | [] => none
  | p :: r => if xs.getD p.1.toNat 0 = 0 then some p.1.toNat else ff xs r
theorem ff_none {xs : List Int} : ∀ {ps : List Pl}, (∀ p ∈ ps, xs.getD p.1.toNat 0 ≠ 0) → ff xs ps = none
  | [], _ => rfl
  | p :: r, h => by
    rw [ff, if_neg (h p (List.mem_cons_self ..))]
    exact ff_none fun q hq => h q (List.mem_cons_of_mem _ hq)
theorem ff_some {xs : List Int} : ∀ {ps : List Pl} {x : Pl} (r : List Pl), (∀ p ∈ ps, xs.getD p.1.toNat 0 ≠ 0) → xs.getD x.1.toNat 0 = 0 → ff xs (ps ++ x :: r) = some x.1.toNat
  | [], x, r, _, hx => by rw [List.nil_append, ff, if_pos hx]
  | p :: q, x, r, h, hx => by
    rw [List.cons_append, ff, if_neg (h p (List.mem_cons_self ..))]
    exact ff_some r (fun y hy => h y (List.mem_cons_of_mem _ hy)) hx
theorem upto_add {α : Type} (f : Nat → α) (k : Nat) : ∀ m, ∃ r, upto f (k + m) = upto f k ++ r
  | 0 => ⟨[], by simp⟩
  | m + 1 => by
    obtain ⟨r, hr⟩ := upto_add f k m
    exact ⟨r ++ [f (k + m)], by rw [← Nat.add_assoc, upto_succ, hr, List.append_assoc]⟩
theorem ff_stop {xs : List Int} {a : Int} {pre : List Pl} {x : Pl} {k : Nat} (hk : k ≤ 31) (he : pre ++ [x] = upto (pls a) k) (h : ∀ p ∈ pre, xs.getD p.1.toNat 0 ≠ 0) (hx : xs.getD x.1.toNat 0 = 0) :
    ff xs (upto (pls a) 31) = some x.1.toNat := by
  obtain ⟨r, hr⟩ := upto_add (pls a) k (31 - k)
  rw [show k + (31 - k) = 31 by omega] at hr
  rw [hr, ← he, List.append_assoc]
  exact ff_some r h hx

/-- A row of 31 numbers in a block of its own. -/
def Row (W : World) (t : Nat) (xs : List Int) : Prop := W.heap[t]? = some (.cells (xs.map (Value.int .i64)).toArray 2 (0, 0)) ∧ xs.length = 31
theorem Row.cell {W : World} {t : Nat} {xs : List Int} (h : Row W t xs) (j : Nat) (hj : j < 31) : W.cell? ⟨t, j, none⟩ = some (.int .i64 (xs.getD j 0)) := by
  have hl : j < xs.length := by have := h.2; omega
  simp [World.cell?, h.1, List.getD, hl]
theorem Row.frozen {W : World} {t : Nat} {xs : List Int} (h : Row W t xs) (j : Nat) : W.frozen? ⟨t, j, none⟩ = false := by
  simp [World.frozen?, h.1]
theorem Row.set {W : World} {t : Nat} {xs : List Int} (h : Row W t xs) (j : Nat) (a : Int) : Row (W.setCell ⟨t, j, none⟩ (.int .i64 a)) t (xs.set j a) := by
  refine ⟨?_, by rw [List.length_set]; exact h.2⟩
  rw [heap_setCell_same W t j _ 2 _ h.1]
  simp [List.map_set]

/-- What a turn has caught. -/
structure Tk (W : World) (t P Tv Nv B C : Nat) (a : Int) : Prop where
  hP : W.heap[P]? = some (.cells #[.func (.func 74) #[] #[.pointer (some ⟨B, 0, none⟩), .pointer (some ⟨C, 0, none⟩)]] 86 (0, 0))
  hT : W.heap[Tv]? = some (.cells #[.slice (some ⟨t, 0, none⟩) 31 31] 26 (0, 0))
  hN : W.heap[Nv]? = some (.cells #[.int .i64 a] 2 (0, 0))
  hB : W.heap[B]? = some (.cells #[.int .i64 (offI a)] 2 (0, 0))
  hC : W.heap[C]? = some (.cells #[.int .i64 (skipI a)] 2 (0, 0))
  nP : P ≠ t
  nT : Tv ≠ t
  nN : Nv ≠ t
  nB : B ≠ t
  nC : C ≠ t
theorem lt_of_at {W : World} {b : Nat} {o : Obj} (h : W.heap[b]? = some o) : b < W.heap.size := (Array.getElem?_eq_some_iff.1 h).1
theorem Tk.kept {W W' : World} {R t P Tv Nv B C : Nat} {a : Int} (h : Tk W t P Tv Nv B C a) (hR : W.heap.size ≤ R) (hk : Kb R t W W') : Tk W' t P Tv Nv B C a := by
  have g : ∀ b o, W.heap[b]? = some o → b ≠ t → W'.heap[b]? = some o := fun b o hb hn => by
    have := lt_of_at hb
    exact (hk.block b (by rintro (h1 | h1); omega; exact hn h1)).trans hb
  exact ⟨g _ _ h.hP h.nP, g _ _ h.hT h.nT, g _ _ h.hN h.nN, g _ _ h.hB h.nB, g _ _ h.hC h.nC, h.nP, h.nT, h.nN, h.nB, h.nC⟩

theorem kb_below {R t : Nat} {w W : World} (h : Below R w W) : Kb R t w W := ⟨h.os, h.tape, h.output, h.size, fun k hk => h.block k (by omega)⟩
theorem kb_set {R t : Nat} {W : World} {p : Addr} {v : Value} (hR : R ≤ W.heap.size) (hp : R ≤ p.block ∨ p.block = t) : Kb R t W (W.setCell p v) :=
  ⟨by simp [World.setCell], by simp [World.setCell], by simp [World.setCell], by simp [World.setCell], fun k hk => heap_setCell_other _ _ _ _ (fun e => hk (by subst e; exact hp))⟩
def takeP (w : World) (t : Nat) (xs : List Int) (a : Int) (e : Ending) (W' : World) : Prop :=
  (ff xs (upto (pls a) 31) = none ∧ e = .returned (.bool false) ∧ Below w.heap.size w W') ∨
  (∃ p, p < 31 ∧ ff xs (upto (pls a) 31) = some p ∧ e = .returned (.bool true) ∧ Row W' t (xs.set p a) ∧ Kb w.heap.size t w W')

set_option maxRecDepth 100000 in
set_option maxHeartbeats 4000000 in
theorem take_in (n : Nat) (hn : 3 ≤ n) (t P Tv Nv B C : Nat) (a : Int) (xs : List Int) (w : World) (hw : Tk w t P Tv Nv B C a) (hrow : Row w t xs) :
    CallsIn Fence.wide n prog 70 #[.pointer (some ⟨P, 0, none⟩), .pointer (some ⟨Tv, 0, none⟩), .pointer (some ⟨Nv, 0, none⟩)] w (takeP w t xs a) := by
  have h1 : 1 ≤ n := by omega
  have lP := lt_of_at hw.hP
  have lT := lt_of_at hw.hT
  have lN := lt_of_at hw.hN
  have lB := lt_of_at hw.hB
  have lC := lt_of_at hw.hC
  have lt := lt_of_at hrow.1
  have cP := (cell_of_box_l hw.hP).1
  refine callsIn_of_wp_marks func70 rfl trivial ?_ rfl
  simp only [ntmps70, List.size_toArray, List.length_cons, List.length_nil, Nat.reduceAdd, Nat.reduceSub, Array.replicate_succ, Array.replicate_zero, List.push_toArray, List.append_toArray, List.nil_append, List.cons_append]
  have cP1 := cell_alloc_l (.cells #[.bool false] 4) cP
  gi_wp2
  have cR := cell_new_l w (.bool false) 4
  have hB0 : Below w.heap.size w (w.alloc (.cells #[.bool false] 4)) := (Below.refl _ w).alloc (Nat.le_refl _) _
  have hrun : Row (w.alloc (.cells #[.bool false] 4)) t xs := ⟨(Below.heap_alloc _ _ _ lt).trans hrow.1, hrow.2⟩
  refine wpIn_rangeFunc_ownG rfl h1 (gf := 74) (lb := #[.pointer (some ⟨B, 0, none⟩), .pointer (some ⟨C, 0, none⟩)]) rfl trivial (enters_of func74 (by kernel_rfl) rfl)
    (places_stops (n - 1) (by omega) B C a (w.alloc (.cells #[.bool false] 4)) (by simp; omega) (by simp; omega) (cell_alloc_l _ (cell_of_box_l hw.hB).1) (cell_alloc_l _ (cell_of_box_l hw.hC).1)) (fun h k => ⟨k.1.trans h.1, k.2.trans h.2⟩)
    (fun W l o o' hl hlo _ _ => by
      have hlt := lt_of_at hlo
      simp at hl
      exact ⟨(grownBy_putObj' W l o').block B (by omega) (by intro e; cases e; omega), (grownBy_putObj' W l o').block C (by omega) (by intro e; cases e; omega)⟩) (Below.refl _ _) (fun _ => rfl)
    (fun (pre : List Pl) W => ((∀ p ∈ pre, xs.getD p.1.toNat 0 ≠ 0) ∧ W.cell? ⟨w.heap.size, 0, none⟩ = some (.bool false) ∧ W.frozen? ⟨w.heap.size, 0, none⟩ = false) ∧ Below w.heap.size w W)
    (fun c pre W => (c = .ret ∧ (∃ pre0 x, pre = pre0 ++ [x] ∧ (∀ p ∈ pre0, xs.getD p.1.toNat 0 ≠ 0) ∧ xs.getD x.1.toNat 0 = 0 ∧ Row W t (xs.set x.1.toNat a)) ∧ W.cell? ⟨w.heap.size, 0, none⟩ = some (.bool true)) ∧ Kb w.heap.size t w W)
    (OwnFrom.and (Own.from (fun s A B row hs hg hr => ⟨hs.1, cell_kept hs.2.1 hg hr, (frozen_kept hs.2.1 hg hr).trans hs.2.2⟩) _) (ownFrom_below (Nat.le_refl _) (by simp)))
    (fun c s A B row hs hg hr => by
      obtain ⟨⟨h1, ⟨p0, x, h2, h3, h4, h5⟩, h6⟩, h7⟩ := hs
      refine ⟨⟨h1, ⟨p0, x, h2, h3, h4, (hg.block t (lt_of_at h5.1) (fun e => ?_)).trans h5.1, h5.2⟩, cell_kept h6 hg (fun r e => (hr r e).2)⟩, h7.trans (kb_grown hg h7.size (fun k e => .inl ?_))⟩
      · have := (hr t e.symm).1
        simp at this
        omega
      · have := (hr k e).1
        simp at this
        omega)
    ⟨⟨by simp, cR.1, cR.2⟩, hB0⟩
    (fun x => { tmps := #[.pointer (some ⟨P, 0, none⟩), .pointer (some ⟨Tv, 0, none⟩), .pointer (some ⟨Nv, 0, none⟩), .pointer (some ⟨w.heap.size, 0, none⟩), .int .i64 x.1,
      .func (.func 74) #[] #[.pointer (some ⟨B, 0, none⟩), .pointer (some ⟨C, 0, none⟩)], .int .i64 x.1, undef, undef, undef, undef, undef, undef, undef, undef, undef], defers := [] }) ?assign ?body ?done ?stop
  case assign =>
    intro l x W K hK
    gi_wp2
    exact hK
  case body =>
    rintro l pre ⟨x, hx0, hx1⟩ W ⟨⟨hp, hcr, hfr⟩, hB⟩ _
    have cT := (cell_of_box_l ((hB.block Tv lT).trans hw.hT)).1
    have cN := (cell_of_box_l ((hB.block Nv lN).trans hw.hN)).1
    have hr : Row W t xs := ⟨(hB.block t lt).trans hrow.1, hrow.2⟩
    have cE := hr.cell x.toNat (by omega)
    have fE := hr.frozen x.toNat
    have hts : t ≠ w.heap.size := by omega
    gi_wp2
    · rename_i hx
      have hx' : xs.getD x.toNat 0 = 0 := by simpa [List.getD] using hx
      have hr1 := hr.set x.toNat a
      have q1 : (W.setCell ⟨t, x.toNat, none⟩ (.int .i64 a)).cell? ⟨w.heap.size, 0, none⟩ = some (.bool false) :=
        (World.cell?_of_block (a := ⟨w.heap.size, 0, none⟩) (heap_setCell_other _ _ _ _ (Ne.symm hts))).trans hcr
      refine ⟨((KeepsOthers.setCell _ _ _).trans (KeepsOthers.setCell _ _ _)).from _, ⟨rfl, ⟨pre, ⟨x, hx0, hx1⟩, rfl, hp, hx', (heap_setCell_other _ _ _ _ hts).trans hr1.1, hr1.2⟩, World.cell?_setCell_same' _ _ _ (by rw [q1]; rfl)⟩, ?_⟩
      exact ((kb_below hB).trans (kb_set (p := ⟨t, x.toNat, none⟩) hB.size (.inr rfl))).trans (kb_set (p := ⟨w.heap.size, 0, none⟩) (by have := hB.size; simp [World.setCell]; exact this) (.inl (Nat.le_refl w.heap.size)))
    · rename_i hx
      have hx' : xs.getD x.toNat 0 ≠ 0 := by simpa [List.getD] using hx
      exact ⟨(KeepsOthers.refl _).from _, ⟨rfl, rfl⟩, ⟨fun y hy => (List.mem_append.1 hy).elim (hp y) (fun e => by simp at e; subst e; exact hx'), hcr, hfr⟩, hB⟩
  case done =>
    rintro D ys W hD rfl ⟨⟨hp, hcr, hfr⟩, hB⟩ hK
    simp at hD
    gi_wp2
    have hK' := (KeepsOthers.setCell W ⟨w.heap.size, 0, none⟩ (.bool false)).same D _ hK rfl
    refine ⟨by simp, .inl ⟨_, _, rfl, run_takeDeferred hK', ?_⟩⟩
    have hc5 := cell_kept (World.cell?_setCell_same' W ⟨w.heap.size, 0, none⟩ (.bool false) (by rw [hcr]; rfl)) (grownBy_putObj' _ D (.deferred none)) (fun r e => by cases e; exact ⟨_, hK', rfl⟩)
    refine ⟨.bool false, ?_, .inl ⟨ff_none hp, rfl, (hB.setCell (p := ⟨w.heap.size, 0, none⟩) (by simp) _).trans (belowK_b (w := w) (Nat.le_refl _) _ D _ _ (by omega) hK' rfl rfl)⟩⟩
    simp [results, f70, go_sem, hc5]
  case stop =>
    rintro D c pre W hD ⟨k, hk, hpre⟩ ⟨⟨rfl, ⟨p0, x, rfl, h2, h3, h4⟩, hcr⟩, hB⟩ hK
    simp at hD
    gi_wp2
    refine ⟨by simp, .inl ⟨_, _, rfl, run_takeDeferred hK, ?_⟩⟩
    have hc5 := cell_kept hcr (grownBy_putObj' _ D (.deferred none)) (fun r e => by cases e; exact ⟨_, hK, rfl⟩)
    have hput := grownBy_putObj' W D (.deferred none)
    refine ⟨.bool true, ?_, .inr ⟨x.1.toNat, by have := x.2; omega, ff_stop hk hpre h2 h3, rfl, ⟨(hput.block t (lt_of_at h4.1) (by intro e; cases e; omega)).trans h4.1, h4.2⟩, hB.trans (kb_grown hput hB.size (fun k e => by cases e; exact .inl (by omega)))⟩⟩
    simp [results, f70, go_sem, hc5]
end Go.Proofs.Try

set_option linter.unusedVariables false
set_option linter.unusedSimpArgs false
namespace Go.Proofs.Try
open Go Go.VM Go.RowKit Go.Shelf

attribute [local go_sem] Oper.semAt_some
theorem run_store_func (P : Program) (w : World) (a : Addr) (m : Mode) (f : Fn) (x y : Array Value) : (store a (.func f x y) m).run P w = stored P w a (.func f x y) m := run_store P w a _ m rfl
attribute [local go_sem] run_store_func

set_option maxRecDepth 100000 in
set_option maxHeartbeats 4000000 in
theorem turn_in (n : Nat) (hn : 4 ≤ n) (t : Nat) (a : Int) (ha : isN a) (w : World) (ht : t < w.heap.size) :
    CallsIn Fence.wide n prog 66 #[.int .i64 a, .slice (some ⟨t, 0, none⟩) 31 31] w fun e W' => ∃ P Tv Nv B C, e = .returned (.func (.func 70) #[] #[.pointer (some ⟨P, 0, none⟩), .pointer (some ⟨Tv, 0, none⟩), .pointer (some ⟨Nv, 0, none⟩)]) ∧
      Tk W' t P Tv Nv B C a ∧ Below w.heap.size w W' := by
  have hmf := makeF
  refine callsIn_of_wp func66 rfl trivial ?_ rfl
  simp only [ntmps66, List.size_toArray, List.length_cons, List.length_nil, Nat.reduceAdd, Nat.reduceSub, Array.replicate_succ, Array.replicate_zero, List.push_toArray, List.append_toArray, List.nil_append, List.cons_append]
  have hd : Fence.wide.depth.isSome = true → 1 ≤ n := fun h => by cases h
  gi_wp2
  refine ⟨trivial, hd, (places_in (n - 1) (by omega) a ha _).mono ?_⟩
  rintro e w1 ⟨b, c, rfl, hb, hb', hc, hc', qb, qc, hb1⟩
  simp only [World.size_alloc] at hb hc
  gi_wp2
  go_ret
  have hs := hb1.size
  simp only [World.size_alloc] at hs
  have e0 : Below w.heap.size w ((w.alloc (.cells #[.int .i64 a] 2)).alloc (.cells #[.slice (some ⟨t, 0, none⟩) 31 31] 26)) := ((Below.refl _ w).alloc (Nat.le_refl _) _).alloc (by simp) _
  have e1 : Below w.heap.size w w1 := e0.trans (hb1.mono (by simp; omega))
  have a0 : w1.heap[w.heap.size]? = some (.cells #[.int .i64 a] 2 (0, 0)) := ((hb1.block w.heap.size (by simp; omega)).trans (Below.heap_alloc _ _ _ (by simp))).trans (World.alloc_heap_new w _)
  have a1 : w1.heap[w.heap.size + 1]? = some (.cells #[.slice (some ⟨t, 0, none⟩) 31 31] 26 (0, 0)) := by
    have := World.alloc_heap_new (w.alloc (.cells #[.int .i64 a] 2)) (.cells #[.slice (some ⟨t, 0, none⟩) 31 31] 26)
    rw [World.size_alloc] at this
    exact (hb1.block (w.heap.size + 1) (by simp)).trans this
  exact ⟨w1.heap.size, w.heap.size + 1, w.heap.size, b, c, rfl, ⟨World.alloc_heap_new w1 _, (Below.heap_alloc _ _ _ (by omega)).trans a1, (Below.heap_alloc _ _ _ (by omega)).trans a0,
    (Below.heap_alloc _ _ _ hb').trans qb, (Below.heap_alloc _ _ _ hc').trans qc, by omega, by omega, by omega, by omega, by omega⟩, e1.alloc (by omega) _⟩
end Go.Proofs.Try

set_option linter.unusedVariables false
set_option linter.unusedSimpArgs false
namespace Go.Proofs.Try
open Go Go.VM Go.RowKit Go.Shelf

attribute [local go_sem] Oper.semAt_some
attribute [local go_sem] run_store_func

/-- A turn, as the list of turns holds it. -/
structure Cl where
  (P Tv Nv B C : Nat)
  a : Int
def fv (c : Cl) : Value := .func (.func 70) #[] #[.pointer (some ⟨c.P, 0, none⟩), .pointer (some ⟨c.Tv, 0, none⟩), .pointer (some ⟨c.Nv, 0, none⟩)]
abbrev TkC (W : World) (t : Nat) (c : Cl) : Prop := Tk W t c.P c.Tv c.Nv c.B c.C c.a
theorem Tk.below {W W' : World} {R t : Nat} {P Tv Nv B C : Nat} {a : Int} (h : Tk W t P Tv Nv B C a) (hR : W.heap.size ≤ R) (hk : Below R W W') : Tk W' t P Tv Nv B C a := h.kept hR (kb_below hk)
theorem Tk.append {W w1 : World} {R t k : Nat} {P Tv Nv B C : Nat} {a : Int} {v : Value} {ys : List Value} {o : Obj} (h : Tk W t P Tv Nv B C a) (hrow : W.ownsRow R 68 1 v k ys) (hg : (W.alloc o).grownBy w1 v.ownBlock) : Tk w1 t P Tv Nv B C a := by
  have g : ∀ (b : Nat) (ty : TypeId) (x : Value), W.heap[b]? = some (.cells #[x] ty (0, 0)) → ty ≠ 68 → w1.heap[b]? = some (.cells #[x] ty (0, 0)) := fun b ty x hb hn =>
    (hg.block b (by have := lt_of_at hb; simp; omega) (Boxed.not_row (show Boxed W b ty x from hb) hn hrow)).trans ((Below.heap_alloc _ _ _ (lt_of_at hb)).trans hb)
  exact ⟨g _ _ _ h.hP (by decide), g _ _ _ h.hT (by decide), g _ _ _ h.hN (by decide), g _ _ _ h.hB (by decide), g _ _ _ h.hC (by decide), h.nP, h.nT, h.nN, h.nB, h.nC⟩
theorem below_append {W w1 : World} {R k : Nat} {v : Value} {ys : List Value} {o : Obj} (hR : R ≤ W.heap.size) (hrow : W.ownsRow R 68 1 v k ys) (hg : (W.alloc o).grownBy w1 v.ownBlock) : Below R W w1 :=
  ((Below.refl R W).alloc hR o).grown hg (by simp; omega) (fun k e => by
    rcases hrow.2 with ⟨rfl, _⟩ | ⟨g, cap, cur, rfl, hb, _, _⟩
    · simp [Value.ownBlock] at e
    · obtain rfl : g = k := by simpa [Value.ownBlock] using e
      exact hb)
theorem own_below {W W' : World} {R m e : Nat} {size k : Nat} {v : Value} {ys : List Value} (h : W.ownsRow R e size v k ys) (hm : W.heap.size ≤ m) (hb : Below m W W') : W'.ownsRow R e size v k ys :=
  ⟨h.1, h.2.imp id fun ⟨g, cap, cur, h1, h2, h3, h4⟩ => ⟨g, cap, cur, h1, h2, (hb.block g (by have := lt_of_at h3; omega)).trans h3, h4⟩⟩
/-- Whose turns come in a round. -/
def expand (xs : List (Int × Int)) : List Int := xs.flatMap fun s => List.replicate s.2.toNat s.1
def Shs (W : World) (b off : Nat) (xs : List (Int × Int)) : Prop := ∀ i s, xs[i]? = some s → W.cell? ⟨b, off + i * 2, none⟩ = some (.int .i64 s.1) ∧ W.cell? ⟨b, off + i * 2 + 1, none⟩ = some (.int .i64 s.2)
def okS (s : Int × Int) : Prop := isN s.1 ∧ 0 ≤ s.2 ∧ s.2 ≤ 9
theorem info68 : (prog.info? 68).map (fun i => (i.zero, i.size, i.bytes)) = some (some .nilFunc, 1, 8) := by kernel_rfl
theorem expand_take {xs : List (Int × Int)} {k : Nat} {s : Int × Int} (h : xs[k]? = some s) : expand (xs.take (k + 1)) = expand (xs.take k) ++ List.replicate s.2.toNat s.1 := by
  rw [List.take_add_one, h]
  simp [expand]
theorem expand_le : ∀ {xs : List (Int × Int)}, (∀ s ∈ xs, okS s) → (expand xs).length ≤ 9 * xs.length
  | [], _ => by simp [expand]
  | s :: r, h => by
    have h1 := expand_le (xs := r) fun y hy => h y (List.mem_cons_of_mem _ hy)
    have h2 := (h s (List.mem_cons_self ..)).2
    simp only [expand, List.flatMap_cons, List.length_append, List.length_replicate, List.length_cons] at h1 ⊢
    omega

set_option maxRecDepth 100000 in
set_option maxHeartbeats 4000000 in
theorem turns_in (n : Nat) (hn : 5 ≤ n) (t : Nat) (b off cap : Nat) (xs : List (Int × Int)) (hlen : xs.length ≤ 8) (hok : ∀ s ∈ xs, okS s) (w : World) (ht : t < w.heap.size) (hb : b < w.heap.size) (hxs : Shs w b off xs) :
    CallsIn Fence.wide n prog 45 #[.slice (some ⟨b, off, none⟩) xs.length cap, .slice (some ⟨t, 0, none⟩) 31 31] w fun e W' => ∃ (v : Value) (ts : List Cl), e = .returned v ∧ ts.map Cl.a = expand xs ∧ W'.ownsRow w.heap.size 68 1 v ts.length (ts.map fv) ∧
      (∀ c ∈ ts, TkC W' t c) ∧ Below w.heap.size w W' := by
  obtain ⟨i0, hi, hz0, hz1, hz2⟩ := info_parts info68
  refine callsIn_of_wp func45 rfl trivial ?_ rfl
  simp only [ntmps45, List.size_toArray, List.length_cons, List.length_nil, Nat.reduceAdd, Nat.reduceSub, Array.replicate_succ, Array.replicate_zero, List.push_toArray, List.append_toArray, List.nil_append, List.cons_append]
  have hd : Fence.wide.depth.isSome = true → 1 ≤ n := fun h => by cases h
  gi_wp2
  gi_loopw [5, 11] (fun v i wr => ∃ (k : Nat) (ts : List Cl), k ≤ xs.length ∧ i = .int .i64 k ∧ ts.map Cl.a = expand (xs.take k) ∧ wr.ownsRow w.heap.size 68 1 v ts.length (ts.map fv) ∧ (∀ c ∈ ts, TkC wr t c) ∧ Below w.heap.size w wr)
    (fun _ i _ => xs.length - (intOf i).toNat)
  case atStart => exact ⟨0, [], Nat.zero_le _, rfl, by simp [expand], World.ownsRow_nil _ _ _ _, by simp, Below.refl _ _⟩
  case round =>
    obtain ⟨k, ts, hk, rfl, hts, hrow, hT, hB⟩ := hrel
    by_cases hlt : k < xs.length
    · have hs := List.getElem?_eq_getElem hlt
      obtain ⟨c1, c2⟩ := hxs k _ hs
      have ho := hok _ (List.getElem_mem hlt)
      generalize xs[k] = s at hs c1 c2 ho
      obtain ⟨nm, wt⟩ := s
      simp only at c1 c2
      have ho2 : 0 ≤ wt ∧ wt ≤ 9 := ho.2
      have d1 : wr.cell? ⟨b, off + k * 2, none⟩ = some (.int .i64 nm) := (hB.cell (p := ⟨b, off + k * 2, none⟩) hb).trans c1
      have d2 : wr.cell? ⟨b, off + k * 2 + 1, none⟩ = some (.int .i64 wt) := (hB.cell (p := ⟨b, off + k * 2 + 1, none⟩) hb).trans c2
      gi_wp2
      have hBs := hB.size
      refine ⟨trivial, hd, (turn_in (n - 1) (by omega) t nm ho.1 _ (by simp; omega)).mono ?_⟩
      rintro e w1 ⟨P, Tv, Nv, B, C, rfl, hTk, hb1⟩
      simp only [World.size_alloc] at hb1
      have qW : w1.heap[wr.heap.size]? = some (.cells #[.int .i64 nm, .int .i64 wt] 31 (0, 0)) := (hb1.block _ (by simp)).trans (World.alloc_heap_new wr _)
      have cW : w1.cell? ⟨wr.heap.size, 1, none⟩ = some (.int .i64 wt) := by simp [World.cell?, qW]
      have hs1 := hb1.size
      have hB1 : Below w.heap.size w w1 := (hB.alloc hB.size _).trans (hb1.mono (by omega))
      have hrow1 : w1.ownsRow w.heap.size 68 1 u5 ts.length (ts.map fv) := own_below (own_below hrow (Nat.le_refl _) ((Below.refl _ wr).alloc (Nat.le_refl _) _)) (by simp) hb1
      have hT1 : ∀ c ∈ ts, TkC w1 t c := fun c hc => ((hT c hc).below (Nat.le_refl _) ((Below.refl _ wr).alloc (Nat.le_refl _) _)).below (by simp) hb1
      gi_wp2
      gi_loopw [5, 21] (fun v i wi => ∃ j : Nat, j ≤ wt.toNat ∧ i = .int .i64 j ∧ wi.ownsRow w.heap.size 68 1 v (ts.length + j) (ts.map fv ++ List.replicate j (fv ⟨P, Tv, Nv, B, C, nm⟩)) ∧ (∀ c ∈ ts, TkC wi t c) ∧ Tk wi t P Tv Nv B C nm ∧ Below w.heap.size w wi)
        (fun _ i _ => wt.toNat - (intOf i).toNat)
      case atStart => exact ⟨0, Nat.zero_le _, rfl, by simpa using hrow1, hT1, hTk, hB1⟩
      case round =>
        obtain ⟨j, hj, rfl, hrow2, hT2, hT3, hB2⟩ := hrel
        have hBs2 := hB2.size
        by_cases hlj : j < wt.toNat
        · have hlj' : (j : Int) < wt := by omega
          have hel := expand_le hok
          have htl : ts.length + j + 1 ≤ 81 := by
            have h1 : ts.length = (expand (xs.take k)).length := by rw [← hts, List.length_map]
            have h2 := expand_le (xs := xs.take k) fun y hy => hok y (List.mem_of_mem_take hy)
            rw [List.length_take] at h2
            have h3 := ho.2
            simp only at h3
            omega
          gi_wp2_with (gi_at_builtin; refine wpListIn_append_own _ rfl _ _ 66 rfl w.heap.size 68 i0 .nilFunc 1 8 underlying66 hi hz0 hz1 hz2 rfl (by decide) _ _ _ rfl (hrow2.alloc _) ⟨wr.heap.size, 0, none⟩ 1 1 [fv ⟨P, Tv, Nv, B, C, nm⟩] rfl rfl (cell_one_new _ _ _) (by simp [Value.oneCell', fv]) (by unfold maxLen; omega) (by omega) (by simp; omega) ?_; intro v' w4 hown' hgrow _)
          go_roundw
          case rel =>
            refine ⟨j + 1, by omega, by simp, ?_, fun c hc => (hT2 c hc).append hrow2 hgrow, hT3.append hrow2 hgrow, hB2.trans (below_append hBs2 hrow2 hgrow)⟩
            rw [List.replicate_succ', ← List.append_assoc]
            exact hown'
          case measure => simp [intOf]; omega
        · have hjw : (j : Int) = wt := by omega
          gi_wp2
          refine ⟨⟨k + 1, ts ++ List.replicate j ⟨P, Tv, Nv, B, C, nm⟩, by omega, by simp, ?_, ?_, fun c hc => ?_, hB2⟩, by simp [intOf]; omega⟩
          · rw [List.map_append, hts, expand_take hs, List.map_replicate, show j = wt.toNat by omega]
          · rw [List.length_append, List.length_replicate, List.map_append, List.map_replicate]
            exact hrow2
          · rcases List.mem_append.1 hc with hc | hc
            · exact hT2 c hc
            · obtain rfl := (List.mem_replicate.1 hc).2
              exact hT3
    · obtain rfl : k = xs.length := by omega
      gi_wp2
      go_ret
      exact ⟨_, ts, rfl, by rw [hts, List.take_length], hrow, hT, hB⟩

set_option maxRecDepth 100000 in
set_option maxHeartbeats 4000000 in
theorem turns_nil (n : Nat) (hn : 5 ≤ n) (t : Nat) (p : Option Addr) (cap : Nat) (w : World) :
    CallsIn Fence.wide n prog 45 #[.slice p 0 cap, .slice (some ⟨t, 0, none⟩) 31 31] w fun e W' => e = .returned (.slice none 0 0) ∧ W' = w := by
  refine callsIn_of_wp func45 rfl trivial ?_ rfl
  simp only [ntmps45, List.size_toArray, List.length_cons, List.length_nil, Nat.reduceAdd, Nat.reduceSub, Array.replicate_succ, Array.replicate_zero, List.push_toArray, List.append_toArray, List.nil_append, List.cons_append]
  have hd : Fence.wide.depth.isSome = true → 1 ≤ n := fun h => by cases h
  gi_wp2
  gi_loopw [5, 11] (fun v i wr => i = .int .i64 0 ∧ v = .slice none 0 0 ∧ wr = w) (fun _ i _ => 0)
  case atStart => exact ⟨rfl, rfl, rfl⟩
  case round =>
    obtain ⟨rfl, rfl, rfl⟩ := hrel
    gi_wp2
    go_ret
    exact ⟨rfl, rfl⟩

def ShsP (W : World) (p : Option Addr) (xs : List (Int × Int)) : Prop := xs = [] ∨ ∃ b off, p = some ⟨b, off, none⟩ ∧ b < W.heap.size ∧ Shs W b off xs
theorem turns_any (n : Nat) (hn : 5 ≤ n) (t : Nat) (p : Option Addr) (cap : Nat) (xs : List (Int × Int)) (hlen : xs.length ≤ 8) (hok : ∀ s ∈ xs, okS s) (w : World) (ht : t < w.heap.size) (hxs : ShsP w p xs) :
    CallsIn Fence.wide n prog 45 #[.slice p xs.length cap, .slice (some ⟨t, 0, none⟩) 31 31] w fun e W' => ∃ (v : Value) (ts : List Cl), e = .returned v ∧ ts.map Cl.a = expand xs ∧ W'.ownsRow w.heap.size 68 1 v ts.length (ts.map fv) ∧
      (∀ c ∈ ts, TkC W' t c) ∧ Below w.heap.size w W' := by
  rcases hxs with rfl | ⟨b, off, rfl, hb, hxs⟩
  · refine (turns_nil n hn t p cap w).mono ?_
    rintro e W' ⟨rfl, rfl⟩
    exact ⟨_, [], rfl, rfl, World.ownsRow_nil _ _ _ _, by simp, Below.refl _ _⟩
  · exact turns_in n hn t b off cap xs hlen hok w ht hb hxs
end Go.Proofs.Try

set_option linter.unusedVariables false
set_option linter.unusedSimpArgs false
namespace Go.Proofs.Try
open Go Go.VM Go.RowKit Go.Shelf

attribute [local go_sem] Oper.semAt_some
attribute [local go_sem] run_store_func

/-- The free places. -/
def free (xs : List Int) : Nat := (xs.filter (fun y => y == 0)).length
def rnd : List Int → List Int → List Int × Bool
  | [], xs => (xs, true)
  | a :: r, xs => match ff xs (upto (pls a) 31) with
    | none => (xs, false)
    | some p => rnd r (xs.set p a)
def fillF (ns : List Int) : Nat → List Int → List Int
  | 0, xs => xs
  | f + 1, xs => if ns = [] then xs else if (rnd ns xs).2 then fillF ns f (rnd ns xs).1 else (rnd ns xs).1
theorem ff_spec {xs : List Int} {p : Nat} : ∀ {ps : List Pl}, ff xs ps = some p → xs.getD p 0 = 0
  | [], h => by cases h
  | q :: r, h => by
    rw [ff] at h
    split at h
    · cases h; assumption
    · exact ff_spec h
theorem free_cons (x : Int) (r : List Int) : free (x :: r) = free r + (if x = 0 then 1 else 0) := by
  unfold free
  by_cases h : x = 0
  · subst h
    simp
  · rw [List.filter_cons_of_neg (by simpa using h), if_neg h, Nat.add_zero]
theorem free_set : ∀ {xs : List Int} {p : Nat} {a : Int}, p < xs.length → xs.getD p 0 = 0 → a ≠ 0 → free (xs.set p a) + 1 = free xs
  | [], p, a, h, _, _ => by simp at h
  | x :: r, 0, a, _, h0, ha => by
    have h0 : x = 0 := by simpa using h0
    rw [List.set_cons_zero, free_cons, free_cons, if_neg ha, if_pos h0]
  | x :: r, p + 1, a, h, h0, ha => by
    have := free_set (xs := r) (p := p) (a := a) (by simpa using h) (by simpa using h0) ha
    rw [List.set_cons_succ, free_cons, free_cons]
    omega

/-- The free places, read off the world. -/
def isZ : Value → Bool
  | .int _ y => y == 0
  | _ => false
def freeW (t : Nat) (W : World) : Nat := match W.heap[t]? with
  | some (.cells cs _ _) => (cs.toList.filter isZ).length
  | _ => 0
theorem freeW_eq {W : World} {t : Nat} {xs : List Int} (h : Row W t xs) : freeW t W = free xs := by
  unfold freeW free
  rw [h.1]
  simp only
  rw [List.filter_map, List.length_map]
  rfl
theorem Row.kb {W W' : World} {R t : Nat} {k : Nat} {v : Value} {ys : List Value} {xs : List Int} {Q : Nat} (hr : Row W t xs) (h : W.ownsRow Q 68 1 v k ys) (hR : W.heap.size ≤ R) (hb : Kb R t W W') : W'.ownsRow Q 68 1 v k ys :=
  ⟨h.1, h.2.imp id fun ⟨g, cap, cur, h1, h2, h3, h4⟩ => ⟨g, cap, cur, h1, h2, (hb.block g (by
    have := lt_of_at h3
    rintro (hg | rfl)
    · omega
    · have := hr.1.symm.trans h3
      simp at this)).trans h3, h4⟩⟩
theorem own_at {W : World} {R e n : Nat} {v : Value} {ys : List Value} {j : Nat} {x : Value} (h : W.ownsRow R e 1 v n ys) (hj : ys[j]? = some x) : ∃ g cap, v = .slice (some ⟨g, 0, none⟩) n cap ∧ g < W.heap.size ∧ R ≤ g ∧ W.cell? ⟨g, j, none⟩ = some x := by
  obtain ⟨hl, hc⟩ := h
  have hlt := (List.getElem?_eq_some_iff.1 hj).1
  rcases hc with ⟨rfl, rfl⟩ | ⟨g, cap, cur, rfl, hg, hh, h1, _, h3, h4⟩
  · simp at hl
    subst hl
    simp at hj
  · refine ⟨g, cap, rfl, lt_of_at hh, hg, ?_⟩
    have : cur.toList[j]? = some x := by
      rw [← h4, List.getElem?_take] at hj
      split at hj
      · exact hj
      · cases hj
    rw [Array.getElem?_toList] at this
    simp [World.cell?, hh, this]

theorem ShsP.below {W W' : World} {m : Nat} {p : Option Addr} {xs : List (Int × Int)} (h : ShsP W p xs) (hm : W.heap.size ≤ m) (hb : Below m W W') : ShsP W' p xs := by
  rcases h with h | ⟨b, off, rfl, hlt, h⟩
  · exact .inl h
  · refine .inr ⟨b, off, rfl, by have := hb.size; omega, fun i s hs => ?_⟩
    obtain ⟨h1, h2⟩ := h i s hs
    exact ⟨(hb.cell (p := ⟨b, off + i * 2, none⟩) (by simp; omega)).trans h1, (hb.cell (p := ⟨b, off + i * 2 + 1, none⟩) (by simp; omega)).trans h2⟩
theorem info2 : (prog.info? 2).map (fun i => (i.zero, i.size, i.bytes)) = some (some (.int .i64 0), 1, 8) := by kernel_rfl
def zeros : List Int := List.replicate 31 0
theorem fill_end {w wr : World} {t : Nat} {ys : List Int} (htw : w.heap.size < t) (hbw : wr.heap[w.heap.size]? = some (.cells #[.int .i64 0, .slice none 0 0] 28 (0, 0))) (hr : Row wr t ys) :
    let W2 := (wr.setCell ⟨w.heap.size, 0, none⟩ (.int .i64 0)).setCell ⟨w.heap.size, 1, none⟩ (.slice (some ⟨t, 0, none⟩) 31 31)
    W2.cell? ⟨w.heap.size, 0, none⟩ = some (.int .i64 0) ∧ W2.cell? ⟨w.heap.size, 1, none⟩ = some (.slice (some ⟨t, 0, none⟩) 31 31) ∧ Row W2 t ys ∧ Below w.heap.size wr W2 := by
  intro W2
  have kr : W2.heap[w.heap.size]? = some (.cells #[.int .i64 0, .slice (some ⟨t, 0, none⟩) 31 31] 28 (0, 0)) := by
    have := heap_setCell_same wr w.heap.size 0 #[.int .i64 0, .slice none 0 0] 28 (.int .i64 0) hbw
    show ((wr.setCell ⟨w.heap.size, 0, none⟩ (.int .i64 0)).setCell ⟨w.heap.size, 1, none⟩ (.slice (some ⟨t, 0, none⟩) 31 31)).heap[w.heap.size]? = _
    rw [heap_setCell_same _ w.heap.size 1 _ 28 _ this]
    rfl
  refine ⟨by simp [World.cell?, kr], by simp [World.cell?, kr], ⟨?_, hr.2⟩, ?_⟩
  · have hne : t ≠ w.heap.size := by omega
    exact (heap_setCell_other _ _ _ _ hne).trans ((heap_setCell_other _ _ _ _ hne).trans hr.1)
  · exact ((Below.refl w.heap.size wr).setCell (p := ⟨w.heap.size, 0, none⟩) (Nat.le_refl _) _).setCell (p := ⟨w.heap.size, 1, none⟩) (Nat.le_refl _) _
theorem below_kb {R t m : Nat} {w W : World} (h : Kb R t w W) (hR : m ≤ R) (ht : m ≤ t) : Below m w W := ⟨h.os, h.tape, h.output, h.size, fun k hk => h.block k (by omega)⟩
theorem kb_mono {R R' t : Nat} {w W : World} (h : Kb R t w W) (hR : R' ≤ R) : Kb R' t w W := ⟨h.os, h.tape, h.output, h.size, fun k hk => h.block k (by omega)⟩
theorem expand_ne {xs : List (Int × Int)} (h : ∀ s ∈ xs, okS s) : ∀ a ∈ expand xs, a ≠ 0 := by
  intro a ha
  obtain ⟨s, hs, hm⟩ := List.mem_flatMap.1 ha
  have h1 := (List.mem_replicate.1 hm).2
  have h2 := (h s hs).1
  unfold isN at h2
  omega
theorem make26 (W : World) : (Instr.makeSlice 26 (.int .i64 31) (.int .i64 31)).run prog W = .ok (.slice (some ⟨W.heap.size, 0, none⟩) 31 31) (W.alloc (.cells (zeros.map (Value.int .i64)).toArray 2)) := by
  obtain ⟨i0, hi, hz0, hz1, hz2⟩ := info_parts info2
  have := run_makeSlice (P := prog) (w := W) 26 2 i0 (.int .i64 0) underlying26 hi hz0 .i64 .i64 31 31 (by decide) (by decide) (by rw [hz1]; decide) (by rw [hz2]; decide) (by decide)
  rw [hz1] at this
  have hm : madeCells (Value.int .i64 0).cells (Int.toNat 31 * 1) = (zeros.map (Value.int .i64)).toArray := by
    apply Array.ext'
    rw [show (Value.int .i64 0).cells = #[Value.int .i64 0] from rfl, toList_madeCells_one]
    rfl
  rw [hm] at this
  exact this
set_option maxRecDepth 100000 in
set_option maxHeartbeats 8000000 in
theorem fill_in (p : Option Addr) (cap : Nat) (xs : List (Int × Int)) (hlen : xs.length ≤ 8) (hok : ∀ s ∈ xs, okS s) (w : World) (hxs : ShsP w p xs)
    (h26 : Calls prog 26 #[.slice p xs.length cap] (w.alloc (.cells #[.int .i64 0, .slice none 0 0] 28)) fun e w' => e = .returned (.int .i64 0) ∧ Below (w.heap.size + 1) (w.alloc (.cells #[.int .i64 0, .slice none 0 0] 28)) w') :
    Calls prog 14 #[.slice p xs.length cap] w fun e W' => ∃ t ys, e = .returned (.agg #[.int .i64 0, .slice (some ⟨t, 0, none⟩) 31 31]) ∧ w.heap.size ≤ t ∧ Row W' t ys ∧ ys = fillF (expand xs) 32 zeros ∧ Below w.heap.size w W' := by
  have hmk := make26
  go_enter func14, ntmps14
  go_wp2
  go_step3
  go_wp2_with (go_at_call 26; refine h26.mono ?_; rintro e w1 ⟨rfl, hb1⟩)
  clear h26
  have hs1 := hb1.size
  simp only [World.size_alloc] at hs1
  have hb1' : Below w.heap.size w w1 := ((Below.refl _ w).alloc (Nat.le_refl _) _).trans (hb1.mono (by omega))
  have ht1 := (hxs.below (Nat.le_refl _) (hb1'.alloc (by omega) (.cells (zeros.map (Value.int .i64)).toArray 2)))
  have t45 := callsIn_wide.1 (turns_any 5 (by omega) w1.heap.size p cap xs hlen hok (w1.alloc (.cells (zeros.map (Value.int .i64)).toArray 2)) (by simp) ht1)
  clear hb1' 
  go_wp2_with (go_at_call 45; refine t45.mono ?_; clear t45; rintro e w2 ⟨tv, ts, rfl, hts, hrow, hT, hb2⟩)
  go_step3
  clear hmk ht1
  have hrt : Row w2 w1.heap.size zeros := ⟨(hb2.block _ (by simp)).trans (World.alloc_heap_new w1 _), rfl⟩
  have hB : Below w.heap.size w w2 := (((Below.refl _ w).alloc (Nat.le_refl _) _).trans (hb1.mono (by omega))).trans (((Below.refl w.heap.size w1).alloc (by omega) _).trans (hb2.mono (by simp; omega)))
  have hbox : w2.heap[w.heap.size]? = some (.cells #[.int .i64 0, .slice none 0 0] 28 (0, 0)) :=
    ((hb2.block _ (by simp; omega)).trans (Below.heap_alloc _ _ _ (by omega))).trans ((hb1.block _ (by omega)).trans (World.alloc_heap_new w _))
  generalize ht : w1.heap.size = t at *
  have htw : w.heap.size < t := by omega
  clear hb1 hb2 hs1 hxs
  go_wp2
  go_loopg [] 32 (fun f wx => ∃ ys : List Int, Row wx t ys ∧ free ys < f ∧ fillF (expand xs) f ys = fillF (expand xs) 32 zeros ∧ wx.ownsRow (w1.alloc (.cells (zeros.map (Value.int .i64)).toArray 2)).heap.size 68 1 tv ts.length (ts.map fv) ∧ (∀ c ∈ ts, TkC wx t c) ∧ Kb w2.heap.size t w2 wx)
  case atStart => exact ⟨zeros, hrt, by decide, rfl, hrow, hT, Kept.refl _ _⟩
  case round =>
    obtain ⟨ys, hr, hf, hfe, hrow, hT, hk⟩ := hrel
    cases gk with
    | zero => exact absurd hf (by omega)
    | succ f =>
      have hbw : wr.heap[w.heap.size]? = some (.cells #[.int .i64 0, .slice none 0 0] 28 (0, 0)) := (hk.block _ (by have := lt_of_at hbox; omega)).trans hbox
      by_cases hne : ts = []
      · have q0 : wr.cell? ⟨w.heap.size, 0, none⟩ = some (.int .i64 0) := by simp [World.cell?, hbw]
        have q1 : wr.cell? ⟨w.heap.size, 1, none⟩ = some (.slice none 0 0) := by simp [World.cell?, hbw]
        have f0 : wr.frozen? ⟨w.heap.size, 0, none⟩ = false := by simp [World.frozen?, hbw]
        have f1 : wr.frozen? ⟨w.heap.size, 1, none⟩ = false := by simp [World.frozen?, hbw]
        obtain ⟨z0, z1, hr2, hb2⟩ := fill_end htw hbw hr
        have hend : ys = fillF (expand xs) 32 zeros := by
          rw [← hfe, ← hts, hne]
          rfl
        have hBe := hB.trans ((below_kb hk (by have := hB.size; omega) (by omega)).trans hb2)
        have hv : ∃ a c, tv = .slice a 0 c := by
          rcases hrow.2 with ⟨rfl, _⟩ | ⟨g, cap', cur, rfl, _⟩
          · exact ⟨_, _, rfl⟩
          · rw [hne]; exact ⟨_, _, rfl⟩
        obtain ⟨va, vc, rfl⟩ := hv
        go_wp2
        rw [Exit.noGoto_ret]
        refine bodyPost_ret (v := .agg #[.int .i64 0, .slice (some ⟨t, 0, none⟩) 31 31]) ?_ rfl ⟨t, ys, rfl, by omega, hr2, hend, hBe⟩
        simp [results, show f14.results = #[.cell 2 28] from rfl, go_sem, z0, z1]
      · have hpos : 0 < ts.length := List.length_pos_iff.2 hne
        have hel := expand_le hok
        have htl : ts.length ≤ 72 := by
          have : ts.length = (expand xs).length := by rw [← hts, List.length_map]
          omega
        obtain ⟨g, cap', hg, _⟩ := own_at (j := 0) hrow (by rw [List.getElem?_map, List.getElem?_eq_getElem hpos]; rfl)
        subst hg
        go_wp2
        go_loopg [23] ts.length (fun m i wx => ∃ (j : Nat) (zs : List Int), j + m = ts.length ∧ i = .int .i64 j ∧ Row wx t zs ∧ rnd ((expand xs).drop j) zs = rnd (expand xs) ys ∧ free zs + j ≤ free ys ∧
          wx.ownsRow (w1.alloc (.cells (zeros.map (Value.int .i64)).toArray 2)).heap.size 68 1 (.slice (some ⟨g, 0, none⟩) ts.length cap') ts.length (ts.map fv) ∧ (∀ c ∈ ts, TkC wx t c) ∧ Kb w2.heap.size t w2 wx)
        case atStart => exact ⟨0, ys, by omega, rfl, hr, rfl, by omega, hrow, hT, hk⟩
        case round =>
          obtain ⟨j, zs, hjm, rfl, hrz, hrn, hfz, hrow2, hT2, hk2⟩ := hrel
          cases gk with
          | zero =>
            have hj : j = ts.length := by omega
            have hne2 : expand xs ≠ [] := by rw [← hts]; simpa using hne
            have hdr : (expand xs).drop j = [] := List.drop_eq_nil_of_le (by rw [← hts, List.length_map]; omega)
            rw [hdr] at hrn
            have hrn : (zs, true) = rnd (expand xs) ys := hrn
            go_wp2
            go_roundg f
            case measure => omega
            case rel =>
              refine ⟨zs, hrz, by omega, ?_, hrow2, hT2, hk2⟩
              rw [← hfe, fillF, if_neg hne2, ← hrn]
              rfl
          | succ m =>
            have hjl : j < ts.length := by omega
            obtain ⟨c, hc⟩ : ∃ c, ts[j]? = some c := ⟨_, List.getElem?_eq_getElem hjl⟩
            have hmem := List.mem_of_getElem? hc
            obtain ⟨g', cap'', hge, _, _, hcl⟩ := own_at (j := j) (x := fv c) hrow2 (by rw [List.getElem?_map, hc]; rfl)
            cases hge
            have hdr : (expand xs).drop j = c.a :: (expand xs).drop (j + 1) := by
              rw [← hts, List.drop_eq_getElem_cons (by simpa using hjl)]
              rw [List.getElem_map, (List.getElem?_eq_some_iff.1 hc).2]
            have hca : c.a ≠ 0 := expand_ne hok _ (by rw [← hts]; exact List.mem_map_of_mem hmem)
            have htk := callsIn_wide.1 (take_in 3 (by omega) t c.P c.Tv c.Nv c.B c.C c.a zs wr (hT2 c hmem) hrz)
            replace hcl : wr.cell? ⟨g, j, none⟩ = some (.func (.func 70) #[] #[.pointer (some ⟨c.P, 0, none⟩), .pointer (some ⟨c.Tv, 0, none⟩), .pointer (some ⟨c.Nv, 0, none⟩)]) := hcl
            have htk2 := htk.mono (R' := fun e w3 => takeP wr t zs c.a e w3 ∧ w3.cell? ⟨w.heap.size, 0, none⟩ = some (.int .i64 0) ∧ w3.cell? ⟨w.heap.size, 1, none⟩ = some (.slice none 0 0) ∧ w3.frozen? ⟨w.heap.size, 0, none⟩ = false ∧ w3.frozen? ⟨w.heap.size, 1, none⟩ = false ∧
                w3.heap[w.heap.size]? = some (.cells #[.int .i64 0, .slice none 0 0] 28 (0, 0))) (fun e w3 h => by
              have hb3 : w3.heap[w.heap.size]? = some (.cells #[.int .i64 0, .slice none 0 0] 28 (0, 0)) := by
                have hbr : wr.heap[w.heap.size]? = some (.cells #[.int .i64 0, .slice none 0 0] 28 (0, 0)) := (hk2.block _ (by have := lt_of_at hbox; omega)).trans hbox
                have hlt := lt_of_at hbr
                rcases h with ⟨_, _, h⟩ | ⟨_, _, _, _, _, h⟩
                · exact (h.block _ hlt).trans hbr
                · exact (h.block _ (by omega)).trans hbr
              exact ⟨h, by simp [World.cell?, hb3], by simp [World.cell?, hb3], by simp [World.frozen?, hb3], by simp [World.frozen?, hb3], hb3⟩)
            clear htk
            have hwz := hk2.size
            go_wp2_with (go_at_call 70; refine htk2.mono ?_; clear htk2; rintro e w3 ⟨⟨hff, rfl, hb3⟩ | ⟨q, hq, hff, rfl, hr3, hk3⟩, q0, q1, f0, f1, hb3w⟩)
            · have hr3 : Row w3 t zs := ⟨(hb3.block t (lt_of_at hrz.1)).trans hrz.1, hrz.2⟩
              obtain ⟨z0, z1, hr4, hb4⟩ := fill_end htw hb3w hr3
              have hne2 : expand xs ≠ [] := by rw [← hts]; simpa using hne
              have hend : zs = fillF (expand xs) 32 zeros := by
                rw [hdr, rnd, hff] at hrn
                have hrn : (zs, false) = rnd (expand xs) ys := hrn
                rw [← hfe, fillF, if_neg hne2, ← hrn]
                rfl
              have hBs := hB.size
              have hBe := hB.trans ((below_kb hk2 (by omega) (by omega)).trans ((hb3.mono (by omega)).trans hb4))
              rw [Exit.noGoto_ret]
              refine bodyPost_ret (v := .agg #[.int .i64 0, .slice (some ⟨t, 0, none⟩) 31 31]) ?_ rfl ⟨t, zs, rfl, by omega, hr4, hend, hBe⟩
              simp [results, show f14.results = #[.cell 2 28] from rfl, go_sem, z0, z1]
            · go_roundg m
              case measure => omega
              case rel =>
                have hfs := free_set (a := c.a) (by rw [hrz.2]; exact hq) (ff_spec hff) hca
                refine ⟨j + 1, zs.set q c.a, by omega, by simp, hr3, ?_, by omega, hrz.kb hrow2 (Nat.le_refl _) hk3, fun d hd => (hT2 d hd).kept (Nat.le_refl _) hk3, hk2.trans (kb_mono hk3 hwz)⟩
                rw [← hrn, hdr, rnd, hff]
end Go.Proofs.Try
