/- A part of the proof of FnExactVerdictFor: LqRc, LqRd, LqRe. -/
import Derived.Test.YtklmlomaleaaaaaLqRa
import Derived.RangeFuncRecord
import Derived.Maps.AppendAt
import Derived.Deep.Cut
import Derived.Deep.DeepCutAuto
set_option linter.unusedVariables false
set_option linter.unusedVariables false
set_option linter.unusedSimpArgs false
namespace Go.Proofs.Try
open Go Go.VM Go.RowKit Go.Maps
theorem box4 {W : World} {b : Nat} {v0 v1 v2 v3 : Value} (h : W.heap[b]? = some (Obj.cells #[v0, v1, v2, v3] 80)) : W.cell? ⟨b, 0, none⟩ = some v0 ∧ W.cell? ⟨b, 1, none⟩ = some v1 ∧ W.cell? ⟨b, 2, none⟩ = some v2 ∧ W.cell? ⟨b, 3, none⟩ = some v3 :=
  ⟨(cell_of_row _ _ _ _ 80 (0, 0) h).trans rfl, (cell_of_row _ _ _ _ 80 (0, 0) h).trans rfl, (cell_of_row _ _ _ _ 80 (0, 0) h).trans rfl, (cell_of_row _ _ _ _ 80 (0, 0) h).trans rfl⟩
/-- What is known when a verdict has come in the range. -/
def MoreF (mb r n : Nat) (D : DataW Unit) (left : Lit → Bool) (cnt : Nat) (w : World) (v : Value) (w' : World) (cnt' : Nat) : Prop :=
  ∃ (y0 y1 : Int) (y2 : Bool) (y3 : Int), v = .agg #[.int .i64 y0, .int .i64 y1, .bool y2, .int .i64 y3] ∧ wfV (y0, y1, y2, y3) ∧ left (kD (y0, y1, y2, y3)) = true ∧ has D (kD (y0, y1, y2, y3)) = true ∧ w'.ranges prog 80 unitElem mb r n D (fun z => left z && !z.sameKey (kD (y0, y1, y2, y3))) cnt' ∧ cnt' < cnt ∧ w.grownBy w' (some r) ∧ w'.heap.size = w.heap.size ∧
    (Instr.entry (.pointer (some ⟨r, 0, none⟩))).run prog w' = .ok (.tuple #[v, .agg #[]]) w'
theorem next80 {Q : Exit → Act → World → Prop} {ops : Array Oper} {rest : List Oper} {o : Oper} {a : Act} (w : World) (hg : o.guard = none) (it : Operand) (hop : o.op = Op.next it false) (mb r n : Nat) (D : DataW Unit) (left : Lit → Bool) (cnt : Nat)
    (hit : a.eval it = .pointer (some ⟨r, 0, none⟩)) (h : w.ranges prog 80 unitElem mb r n D left cnt)
    (hDone : (∀ kl, left kl = false) → wpList prog ops Q rest (a.put o.dst (.tuple #[.bool false])) w)
    (hMore : ∀ v w' cnt', MoreF mb r n D left cnt w v w' cnt' → wpList prog ops Q rest (a.put o.dst (.tuple #[.bool true, v, .agg #[]])) w') : wpList prog ops Q (o :: rest) a w := by
  refine wpList_next_ranges w hg it hop 80 law80 unitElem vdV (fun _ : Unit => .agg #[]) (fun key kl hk => (key_inv hk).imp fun x h => h.1) elem_inv mb r n D left cnt hit h (fun _ hl => hDone hl) fun y u kl yy w1 cnt1 hkey hlk hR hat hrg1 hlt1 hg1 hs1 hen => hMore _ _ cnt1 ?_
  obtain ⟨y', e', hy⟩ := key_inv hkey
  obtain rfl : y = y' := by
    obtain ⟨a, b, c, d⟩ := y
    obtain ⟨a', b', c', d'⟩ := y'
    simp [vdV] at e'
    simp [e']
  obtain rfl : kl = kD y := by
    have := (keyOf_vd hy).symm.trans hkey
    simpa using this.symm
  exact ⟨y.1, y.2.1, y.2.2.1, y.2.2.2, rfl, hy, hlk, has_true_of_atKey hat, hrg1, hlt1, hg1, hs1, hen⟩
section
attribute [local go_sem] Oper.semAt_some
set_option maxRecDepth 100000 in
set_option maxHeartbeats 4000000 in
theorem hear72 (mb n : Nat) (hn : n ≤ 1000) (D : DataW Unit) (T : Tt) (x0 x1 : Int) (x2 : Bool) (x3 : Int) (hx : wfV (x0, x1, x2, x3)) (w : World) (hown : w.ownsMap prog 80 unitElem mb n D) (hT : isT D T) :
    Calls prog 72 #[.map (some mb), .agg #[.int .i64 x0, .int .i64 x1, .bool x2, .int .i64 x3]] w fun e W => e = .returned (.tuple #[]) ∧ (∃ D', W.ownsMap prog 80 unitElem mb (n + 1) D' ∧ isT D' (hearT T (x0, x1, x2, x3))) ∧ w.grownBy W (some mb) := by
  have hlt := hown.lt
  have hown0 := hown.alloc (.cells #[.int .i64 x0, .int .i64 x1, .bool x2, .int .i64 x3] 80)
  have hg00 := World.grownBy_alloc w (.cells #[.int .i64 x0, .int .i64 x1, .bool x2, .int .i64 x3] 80) (some mb)
  have hbx := World.alloc_heap_new w (.cells #[.int .i64 x0, .int .i64 x1, .bool x2, .int .i64 x3] 80)
  have hsz0 : (w.alloc (.cells #[.int .i64 x0, .int .i64 x1, .bool x2, .int .i64 x3] 80)).heap.size = w.heap.size + 1 := by simp
  go_enter func72, ntmps72
  go_wp2_with (first
    | (at_range; refine wpList_range_own _ rfl _ 88 rfl 80 135 law80 underlying88 _ mb n D rfl hown0 ?_; intro w0 hrg0 hg0 hs0)
    | go_in)
  go_frame
  generalize (w.alloc (Obj.cells #[Value.int IntKind.i64 x0, Value.int IntKind.i64 x1, Value.bool x2, Value.int IntKind.i64 x3] 80)).heap.size = r at hrg0 hs0 hsz0 ⊢
  subst hsz0
  go_loopw [4] (fun _ wr => ∃ (left : Lit → Bool) (cnt : Nat) (Dc : DataW Unit), wr.ranges prog 80 unitElem mb (w.heap.size + 1) n Dc left cnt ∧ w.heap.size + 1 < wr.heap.size ∧ hInv Dc T (x0, x1, x2, x3) left ∧ w.grownBy wr (some mb) ∧ wr.heap[w.heap.size]? = some (Obj.cells #[Value.int IntKind.i64 x0, Value.int IntKind.i64 x1, Value.bool x2, Value.int IntKind.i64 x3] 80))
    (fun _ wr => wr.rangeLeft mb (w.heap.size + 1))
  case atStart => exact ⟨_, _, _, hrg0, by omega, hInv_start hT, hg00.trans (hg0.but _), (hg0.block w.heap.size (by simp) (by simp)).trans hbx⟩
  case round =>
    obtain ⟨left, cnt, Dc, hrg, hsr, hI, hgw, hb⟩ := hrel
    obtain ⟨c0, c1, c2, c3⟩ := box4 hb
    go_wp2_with (first
      | (at_next; refine next80 _ rfl _ rfl mb (w.heap.size + 1) n _ _ _ rfl hrg ?_ ?_)
      | go_in)
    · intro hl0
      go_wp2_with (first
        | (at_mapUpdate; refine wpList_mapUpdate_own _ rfl _ _ _ 88 rfl 80 135 law80 underlying88 unitElem mb n _ rfl hrg.owns (by unfold maxLen; omega) _ _ _ rfl rfl (keyOf_vd hx) _ [] unitElem_mk ?_; intro w2 hown2 hgrow2)
        | go_in)
      go_end0
      exact ⟨rfl, ⟨_, hown2, hInv_end hx hT.2.2 hI hl0⟩, hgw.trans hgrow2⟩
    · rintro v w1 cnt1 ⟨y0, y1, y2, y3, rfl, hy, hlk, hhas, hrg1, hlt1, hg1, hs1, hen⟩
      have hgw1 := hgw.andThen hg1 (fun j hj => by cases hj; exact Or.inl (by omega))
      have hb1 := (hg1.block w.heap.size (by omega) (by simp)).trans hb
      generalize hW : w1.alloc (.cells #[.int .i64 y0, .int .i64 y1, .bool y2, .int .i64 y3] 80) = W
      have hrgW : W.ranges prog 80 unitElem mb (w.heap.size + 1) n Dc (fun z => left z && !z.sameKey (kD (y0, y1, y2, y3))) cnt1 := by subst hW; exact hrg1.alloc _
      have hgwW : w.grownBy W (some mb) := by subst hW; exact hgw1.trans (World.grownBy_alloc w1 _ _)
      have hsW : W.heap.size = wr.heap.size + 1 := by subst hW; simp [hs1]
      have hbW : W.heap[w.heap.size]? = some (Obj.cells #[.int .i64 x0, .int .i64 x1, .bool x2, .int .i64 x3] 80) := by subst hW; exact ((World.grownBy_alloc w1 _ none).block w.heap.size (by omega) (by simp)).trans hb1
      have hbY : W.heap[wr.heap.size]? = some (Obj.cells #[.int .i64 y0, .int .i64 y1, .bool y2, .int .i64 y3] 80) := by subst hW; rw [← hs1]; exact World.alloc_heap_new w1 _
      clear c0 c1 c2 c3
      obtain ⟨c0, c1, c2, c3⟩ := box4 hbW
      obtain ⟨d0, d1, d2, d3⟩ := box4 hbY
      by_cases h1 : y0 = x0 ∧ y1 = x1
      · obtain ⟨rfl, rfl⟩ := h1
        by_cases h3 : y3 ≥ x3
        · have e3 : decide (y3 ≥ x3) = true := decide_eq_true h3
          go_wp2
          refine bodyPost_ret (v := .tuple #[]) ?_ rfl ⟨rfl, ⟨Dc, hrgW.owns.mono (by omega), hInv_ret hx hy hT.2.2 hI hhas hlk rfl rfl h3⟩, hgwW⟩
          simp [results, show f72.results = #[] from rfl, go_sem]
        · have e3 : decide (y3 ≥ x3) = false := decide_eq_false h3
          go_wp2_with (first
            | (at_delete; refine wpList_delete_ranges _ rfl _ _ 88 80 rfl 135 law80 underlying88 _ mb (w.heap.size + 1) n _ _ _ rfl hrgW _ _ rfl (keyOf_vd hy) ?_; intro w2 cnt2 hrg2 hle hturn; go_frame)
            | go_in)
          rw [strike_twice] at hrg2
          have hg2 := hturn.grown
          exact ⟨⟨_, cnt2, _, hrg2, by have := hg2.size; omega, hInv_struck hI hy rfl rfl (by simp only; omega), hgwW.trans hg2, (hg2.block w.heap.size (by omega) (by simp; omega)).trans hbW⟩, by rw [hrg2.left_eq, hrg.left_eq]; omega⟩
      · by_cases h0 : y0 = x0
        · subst h0
          have h2 : ¬ y1 = x1 := fun h => h1 ⟨rfl, h⟩
          have e2 : (y1 != x1) = true := by simpa using h2
          go_wp2
          exact ⟨⟨_, cnt1, _, hrgW, by omega, hInv_stays hI hy hlk (fun h => h1 h), hgwW, hbW⟩, by rw [hrgW.left_eq, hrg.left_eq]; omega⟩
        · have e0 : (y0 != x0) = true := by simpa using h0
          go_wp2
          exact ⟨⟨_, cnt1, _, hrgW, by omega, hInv_stays hI hy hlk (fun h => h1 h), hgwW, hbW⟩, by rw [hrgW.left_eq, hrg.left_eq]; omega⟩
end
end Go.Proofs.Try

set_option linter.unusedVariables false
set_option linter.unusedSimpArgs false
namespace Go.Proofs.Try
open Go Go.VM Go.RowKit Go.Maps
def stT (l : List Vd) : Tt := l.foldl hearT (fun _ _ => none)
theorem stT_step (l : List Vd) (j : Nat) (hj : j < l.length) : stT (l.take (j + 1)) = hearT (stT (l.take j)) (l.getD j dVd) := by
  unfold stT
  rw [List.take_add_one, List.foldl_append]
  simp [List.getD, List.getElem?_eq_getElem hj]
theorem isT_empty : isT (.map []) (fun _ _ => none) := ⟨fun x hx => by simp [has], ⟨_, rfl⟩, fun p n u e h => by cases h⟩
section
attribute [local go_sem] Oper.semAt_some
set_option maxRecDepth 100000 in
set_option maxHeartbeats 4000000 in
theorem standing53 (q : Option Addr) (c : Nat) (xs : List Vd) (hn : xs.length ≤ 60) (w : World) (hwf : ∀ x ∈ xs, wfV x)
    (hq : xs.length ≠ 0 → ∃ b off, q = some ⟨b, off, none⟩ ∧ b < w.heap.size ∧ ∀ j, j < xs.length → w.cell? ⟨b, off + j * 4, none⟩ = some (.int .i64 (xs.getD j dVd).1) ∧ w.cell? ⟨b, off + j * 4 + 1, none⟩ = some (.int .i64 (xs.getD j dVd).2.1) ∧ w.cell? ⟨b, off + j * 4 + 2, none⟩ = some (.bool (xs.getD j dVd).2.2.1) ∧ w.cell? ⟨b, off + j * 4 + 3, none⟩ = some (.int .i64 (xs.getD j dVd).2.2.2)) :
    Calls prog 53 #[.slice q xs.length c] w fun e W => e = .returned (.map (some w.heap.size)) ∧ (∃ D, W.ownsMap prog 80 unitElem w.heap.size 60 D ∧ isT D (stT xs)) ∧ Below w.heap.size w W := by
  have hmm := @run_makeMap prog
  go_enter func53, ntmps53
  go_wp2
  go_loopw [9] (fun i wr => ∃ j : Nat, j ≤ xs.length ∧ i = .int .i64 j ∧ (∃ D, wr.ownsMap prog 80 unitElem w.heap.size j D ∧ isT D (stT (xs.take j))) ∧ Below w.heap.size w wr) (fun i _ => xs.length - (intOf i).toNat)
  case atStart => exact ⟨0, Nat.zero_le _, rfl, ⟨_, World.ownsMap_made w prog 80 unitElem, isT_empty⟩, (Below.refl _ w).alloc (Nat.le_refl _) _⟩
  case round =>
    obtain ⟨j, hj, rfl, ⟨D, hown, hT⟩, hB⟩ := hrel
    by_cases hlt : j < xs.length
    · obtain ⟨sb, so, rfl, hsb, had⟩ := hq (by omega)
      obtain ⟨k0, k1, k2, k3⟩ := had j hlt
      replace k0 := (hB.cell hsb).trans k0
      replace k1 := (hB.cell hsb).trans k1
      replace k2 := (hB.cell hsb).trans k2
      replace k3 := (hB.cell hsb).trans k3
      have hw1 := hwf _ (getD_mem dVd hlt)
      have hstep := stT_step xs j hlt
      generalize hX : xs.getD j dVd = X at k0 k1 k2 k3 hw1 hstep
      obtain ⟨x0, x1, x2, x3⟩ := X
      have ea : (⟨sb, so, none⟩ : Addr).add (j * 4) = ⟨sb, so + j * 4, none⟩ := Addr.add_lit ..
      have hl := hown.lt
      have hown1 := hown.alloc (.cells #[.int .i64 x0, .int .i64 x1, .bool x2, .int .i64 x3] 80)
      have hB1 := hB.alloc hB.size (.cells #[.int .i64 x0, .int .i64 x1, .bool x2, .int .i64 x3] 80)
      go_wp2_with (first
        | (go_at_call 72; refine (hear72 w.heap.size j (by omega) D (stT (xs.take j)) x0 x1 x2 x3 hw1 _ hown1 hT).mono ?_; rintro e w2 ⟨rfl, ⟨D2, hown2, hT2⟩, hg2⟩)
        | go_in)
      refine ⟨⟨j + 1, by omega, by simp, ⟨D2, hown2, hstep ▸ hT2⟩, hB1.grown hg2 hB1.size (fun k hk => by cases hk; omega)⟩, ?_⟩
      simp only [intOf]
      omega
    · obtain rfl : j = xs.length := by omega
      rw [List.take_length] at hT
      go_wp2
      go_ret
      exact ⟨rfl, ⟨D, hown.mono hn, hT⟩, hB⟩
end
end Go.Proofs.Try

set_option linter.unusedVariables false
set_option linter.unusedSimpArgs false
namespace Go.Proofs.Try
open Go Go.VM Go.RowKit Go.Maps
/-! ### What the verdicts that count say of a name -/
def prT (T : Tt) (name : Int) (u : Bool) (left : Lit → Bool) (p : Nat) : Bool := match T p name with
  | some (u', e) => (u' == u) && !left (kD ((p : Int), name, u', e))
  | none => false
def cnT (T : Tt) (name : Int) (u : Bool) (left : Lit → Bool) (N : Nat) : Nat := (List.range N).countP (prT T name u left)
theorem countP_one {f g : Nat → Bool} {i : Nat} (hf : f i = false) (hg : g i = true) : ∀ (N : Nat), i < N → (∀ j, j < N → j ≠ i → g j = f j) → (List.range N).countP g = (List.range N).countP f + 1
  | 0, h, _ => by omega
  | N + 1, h, ho => by
    rw [List.range_succ, List.countP_append, List.countP_append]
    by_cases e : i = N
    · subst e
      have : (List.range i).countP g = (List.range i).countP f := by
        apply List.countP_congr
        intro x hx
        rw [List.mem_range] at hx
        rw [ho x (by omega) (by omega)]
      rw [this]
      simp [hf, hg]
    · rw [countP_one hf hg N (by omega) (fun j h1 h2 => ho j (by omega) h2)]
      have := ho N (by omega) (fun h => e h.symm)
      simp [this]
      omega
theorem cn_le (T : Tt) (name : Int) (u : Bool) (left : Lit → Bool) (N : Nat) : cnT T name u left N ≤ N := by
  have := List.countP_le_length (p := prT T name u left) (l := List.range N)
  simpa [cnT] using this
theorem wf_nat {p : Nat} (h : p < 1000) : (Lit.int .i64 (p : Int)).wf = true := WalkArith.wf_i64 (by omega)
theorem cn_start {D : DataW Unit} {T : Tt} {name : Int} (hname : (Lit.int .i64 name).wf = true) (h : isT D T) (u : Bool) (N : Nat) (hN : N ≤ 100) : cnT T name u (has D) N = 0 := by
  unfold cnT
  rw [List.countP_eq_zero]
  intro p hp
  rw [List.mem_range] at hp
  unfold prT
  cases hc : T (p : Int) name with
  | none => simp
  | some q =>
    obtain ⟨u', e⟩ := q
    have := (h.1 ((p : Int), name, u', e) ⟨wf_nat (by omega), hname, h.2.2 _ _ _ _ hc⟩).2 hc
    simp [this]
/-- A verdict that is not asked for. -/
theorem cn_stays {D : DataW Unit} {T : Tt} {name : Int} (hname : (Lit.int .i64 name).wf = true) (h : isT D T) (u : Bool) (N : Nat) (hN : N ≤ 100) (left : Lit → Bool) {y : Vd} (hy : wfV y) (hne : ¬ (y.2.1 = name ∧ 0 ≤ y.1 ∧ y.1 < (N : Int) ∧ y.2.2.1 = u)) :
    cnT T name u (fun z => left z && !z.sameKey (kD y)) N = cnT T name u left N := by
  unfold cnT
  apply List.countP_congr
  intro p hp
  rw [List.mem_range] at hp
  unfold prT
  cases hc : T (p : Int) name with
  | none => simp
  | some q =>
    obtain ⟨u', e⟩ := q
    dsimp only
    rw [same_eq ⟨wf_nat (by omega), hname, h.2.2 _ _ _ _ hc⟩ hy]
    by_cases hu : u' = u
    · subst hu
      have : ¬ ((p : Int), name, u', e) = y := fun hh => hne (by subst hh; exact ⟨rfl, by simp only; omega, by simp only; omega, rfl⟩)
      simp [this]
    · simp [hu]
/-- One that is: it is counted. -/
theorem cn_counts {D : DataW Unit} {T : Tt} {name : Int} (hname : (Lit.int .i64 name).wf = true) (h : isT D T) (N : Nat) (hN : N ≤ 100) (left : Lit → Bool) {y : Vd} (hy : wfV y) (hD : has D (kD y) = true) (hl : left (kD y) = true) (h1 : y.2.1 = name) (h2 : 0 ≤ y.1) (h3 : y.1 < (N : Int)) :
    cnT T name y.2.2.1 (fun z => left z && !z.sameKey (kD y)) N = cnT T name y.2.2.1 left N + 1 := by
  have ey := (h.1 y hy).1 hD
  obtain ⟨a, b, c, d⟩ := y
  simp only at h1 h2 h3 ey
  subst h1
  obtain ⟨p, rfl⟩ := Int.eq_ofNat_of_zero_le h2
  refine countP_one (i := p) ?_ ?_ N (by omega) fun j hj hne => ?_
  · unfold prT; rw [ey]; simp [hl]
  · unfold prT; rw [ey]; dsimp only; rw [same_eq hy hy]; simp
  · unfold prT
    cases hc : T (j : Int) b with
    | none => simp
    | some q =>
      obtain ⟨u', e⟩ := q
      dsimp only
      rw [same_eq ⟨wf_nat (by omega), hname, h.2.2 _ _ _ _ hc⟩ hy]
      have : ¬ ((j : Int), b, u', e) = ((p : Int), b, c, d) := fun hh => hne (by simp at hh; omega)
      simp [this]
end Go.Proofs.Try
