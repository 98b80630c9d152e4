/- A part of the proof of FnExactVerdictFor: LqRf, LqRg. -/
import Derived.Test.YtklmlomaleaaaaaLqRc
import Derived.Test.YtklmlomaleaaaaaLqFa
import Derived.RangeFuncRecord
set_option linter.unusedVariables false
set_option linter.unusedVariables false
set_option linter.unusedSimpArgs false
namespace Go.Proofs.Try
open Go Go.VM Go.RowKit Go.Maps
def m73 (x : Int × Int) : Option Bool := some (decide (IntKind.wrap .i64 (2 * x.1) > x.2))
theorem sat73 : Sat prog cxT 73 (c73 m73) := s73 m73 fun x t h => by
  obtain ⟨a, b⟩ := x
  cases h
  exact ⟨0, rfl⟩
theorem q73 (a b : Int) (h0 : 0 ≤ a) (h1 : a ≤ 1000) (w : World) : Calls prog 73 #[.int .i64 a, .int .i64 b] w fun e W => e = .returned (.bool (decide (2 * a > b))) ∧ Below w.heap.size w W := by
  have e : IntKind.wrap .i64 (2 * a) = 2 * a := wi (by omega) (by omega)
  have := call_one sat73 (v := .bool (decide (IntKind.wrap .i64 (2 * a) > b))) (fun _ => args_lv [.int .i64 a, .int .i64 b]) rfl w
  rw [e] at this
  exact this
/-- What is said of a name: 1 (up), 2 (not) or nothing. -/
def sayT (T : Tt) (name probers : Int) : Int :=
  if 2 * (cnT T name true (fun _ => false) probers.toNat : Int) > probers then 1 else if 2 * (cnT T name false (fun _ => false) probers.toNat : Int) > probers then 2 else 0
section
attribute [local go_sem] Oper.semAt_some
set_option maxRecDepth 100000 in
set_option maxHeartbeats 4000000 in
theorem verdict54 (mb n : Nat) (D : DataW Unit) (T : Tt) (name probers : Int) (hname : (Lit.int .i64 name).wf = true) (hp0 : 0 ≤ probers) (hp1 : probers ≤ 10) (hpos : ∀ y : Vd, wfV y → has D (kD y) = true → 0 ≤ y.1) (w : World) (hown : w.ownsMap prog 80 unitElem mb n D) (hT : isT D T) :
    Calls prog 54 #[.map (some mb), .int .i64 name, .int .i64 probers] w fun e W => e = .returned (.int .i64 (sayT T name probers)) ∧ Below w.heap.size w W := by
  have hlt := hown.lt
  have hN : ((probers.toNat : Nat) : Int) = probers := by omega
  go_enter func54, ntmps54
  go_wp2_with (first
    | (at_range; refine wpList_range_own _ rfl _ 88 rfl 80 135 law80 underlying88 _ mb n D rfl hown ?_; intro w0 hrg0 hg0 hs0)
    | go_in)
  go_frame
  go_loopw [7, 8] (fun u v wr => ∃ (left : Lit → Bool) (cnt : Nat), wr.ranges prog 80 unitElem mb w.heap.size n D left cnt ∧ u = .int .i64 (cnT T name true left probers.toNat : Int) ∧ v = .int .i64 (cnT T name false left probers.toNat : Int) ∧ w.grownBy wr none)
    (fun _ _ wr => wr.rangeLeft mb w.heap.size)
  case atStart => exact ⟨_, _, hrg0, by rw [cn_start hname hT true _ (by omega)]; rfl, by rw [cn_start hname hT false _ (by omega)]; rfl, hg0⟩
  case round =>
    obtain ⟨left, cnt, hrg, rfl, rfl, hgw⟩ := hrel
    have l1 := cn_le T name true left probers.toNat
    have l2 := cn_le T name false left probers.toNat
    go_wp2_with (first
      | (at_next; refine next80 _ rfl _ rfl mb w.heap.size n _ _ _ rfl hrg ?_ ?_)
      | go_in)
    · intro hl0
      obtain rfl : left = fun _ => false := funext hl0
      have hBw : Below w.heap.size w wr := (Below.refl _ w).grown hgw (Nat.le_refl _) (fun k hk => by cases hk)
      have e1 : sayT T name probers = if 2 * (cnT T name true (fun _ => false) probers.toNat : Int) > probers then 1 else if 2 * (cnT T name false (fun _ => false) probers.toNat : Int) > probers then 2 else 0 := rfl
      generalize cnT T name true (fun _ => false) probers.toNat = N1 at l1 e1 ⊢
      generalize cnT T name false (fun _ => false) probers.toNat = N2 at l2 e1 ⊢
      have k1 := q73 (N1 : Int) probers (by omega) (by omega)
      have k2 := q73 (N2 : Int) probers (by omega) (by omega)
      by_cases g1 : 2 * (N1 : Int) > probers
      · rw [if_pos g1] at e1
        have d1 : decide (2 * (N1 : Int) > probers) = true := decide_eq_true g1
        rw [d1] at k1
        go_wp2_with (first
          | (go_at_call 73; refine (k1 _).mono ?_; rintro e w2 ⟨rfl, hb2⟩)
          | go_in)
        go_ret
        exact ⟨by rw [e1]; rfl, hBw.trans (hb2.mono hBw.size)⟩
      · rw [if_neg g1] at e1
        have d1 : decide (2 * (N1 : Int) > probers) = false := decide_eq_false g1
        rw [d1] at k1
        by_cases g2 : 2 * (N2 : Int) > probers
        · rw [if_pos g2] at e1
          have d2 : decide (2 * (N2 : Int) > probers) = true := decide_eq_true g2
          rw [d2] at k2
          go_wp2_with (first
            | (go_at_call 73; refine (k1 _).mono ?_; rintro e w2 ⟨rfl, hb2⟩)
            | (go_at_call 73; refine (k2 _).mono ?_; rintro e w3 ⟨rfl, hb3⟩)
            | go_in)
          go_ret
          exact ⟨by rw [e1]; rfl, (hBw.trans (hb2.mono hBw.size)).trans (hb3.mono (hBw.trans (hb2.mono hBw.size)).size)⟩
        · rw [if_neg g2] at e1
          have d2 : decide (2 * (N2 : Int) > probers) = false := decide_eq_false g2
          rw [d2] at k2
          go_wp2_with (first
            | (go_at_call 73; refine (k1 _).mono ?_; rintro e w2 ⟨rfl, hb2⟩)
            | (go_at_call 73; refine (k2 _).mono ?_; rintro e w3 ⟨rfl, hb3⟩)
            | go_in)
          go_ret
          exact ⟨by rw [e1]; rfl, (hBw.trans (hb2.mono hBw.size)).trans (hb3.mono (hBw.trans (hb2.mono hBw.size)).size)⟩
    · rintro v w1 cnt1 ⟨y0, y1, y2, y3, rfl, hy, hlk, hhas, hrg1, hlt1, hg1, hs1, hen⟩
      have hgw1 := hgw.andThen hg1 (fun j hj => by cases hj; exact Or.inl (Nat.le_refl _))
      generalize hW : w1.alloc (.cells #[.int .i64 y0, .int .i64 y1, .bool y2, .int .i64 y3] 80) = W
      have hrgW : W.ranges prog 80 unitElem mb w.heap.size n D (fun z => left z && !z.sameKey (kD (y0, y1, y2, y3))) cnt1 := by subst hW; exact hrg1.alloc _
      have hgwW : w.grownBy W none := by subst hW; exact hgw1.trans (World.grownBy_alloc w1 _ _)
      have hbY : W.heap[wr.heap.size]? = some (Obj.cells #[.int .i64 y0, .int .i64 y1, .bool y2, .int .i64 y3] 80) := by subst hW; rw [← hs1]; exact World.alloc_heap_new w1 _
      obtain ⟨d0, d1, d2, d3⟩ := box4 hbY
      have hyp := hpos _ hy hhas
      simp only at hyp
      have hst := cn_stays hname hT
      by_cases h1 : y1 = name
      · subst h1
        by_cases h2 : y0 ≥ probers
        · have e2 : decide (y0 ≥ probers) = true := decide_eq_true h2
          go_wp2
          exact ⟨⟨_, cnt1, hrgW, by rw [hst true probers.toNat (by omega) left hy (fun h => by have := h.2.2.1; simp only at this; omega)], by rw [hst false probers.toNat (by omega) left hy (fun h => by have := h.2.2.1; simp only at this; omega)], hgwW⟩, by rw [hrgW.left_eq, hrg.left_eq]; exact hlt1⟩
        · have e2 : decide (y0 ≥ probers) = false := decide_eq_false h2
          cases y2 with
          | true =>
            go_wp2
            have hc := cn_counts hname hT probers.toNat (by omega) left hy hhas hlk rfl hyp (by simp only; omega)
            simp only at hc
            exact ⟨⟨_, cnt1, hrgW, by rw [hc]; rfl, by rw [hst false probers.toNat (by omega) left hy (fun h => by have := h.2.2.2; simp at this)], hgwW⟩, by rw [hrgW.left_eq, hrg.left_eq]; exact hlt1⟩
          | false =>
            go_wp2
            have hc := cn_counts hname hT probers.toNat (by omega) left hy hhas hlk rfl hyp (by simp only; omega)
            simp only at hc
            exact ⟨⟨_, cnt1, hrgW, by rw [hst true probers.toNat (by omega) left hy (fun h => by have := h.2.2.2; simp at this)], by rw [hc]; rfl, hgwW⟩, by rw [hrgW.left_eq, hrg.left_eq]; exact hlt1⟩
      · have e1 : (y1 != name) = true := by simpa using h1
        go_wp2
        exact ⟨⟨_, cnt1, hrgW, by rw [hst true probers.toNat (by omega) left hy (fun h => h1 h.1)], by rw [hst false probers.toNat (by omega) left hy (fun h => h1 h.1)], hgwW⟩, by rw [hrgW.left_eq, hrg.left_eq]; exact hlt1⟩
end
end Go.Proofs.Try

set_option linter.unusedVariables false
set_option linter.unusedSimpArgs false
namespace Go.Proofs.Try
open Go Go.VM Go.RowKit Go.Maps
theorem hear_mem {T : Tt} {x : Vd} {p n : Int} {r : Bool × Int} (h : hearT T x p n = some r) : (x.1 = p) ∨ T p n = some r := by
  unfold hearT at h
  split at h
  · rename_i e
    exact .inl e.1.symm
  · exact .inr h
theorem stT_mem : ∀ (l : List Vd) (T : Tt) {p n : Int} {r : Bool × Int}, l.foldl hearT T p n = some r → (∃ x ∈ l, x.1 = p) ∨ T p n = some r
  | [], T, p, n, r, h => .inr h
  | x :: l, T, p, n, r, h => by
    rcases stT_mem l _ h with ⟨y, hy, e⟩ | h
    · exact .inl ⟨y, List.mem_cons_of_mem _ hy, e⟩
    · rcases hear_mem h with h | h
      · exact .inl ⟨x, List.mem_cons_self .., h⟩
      · exact .inr h
theorem set2q (W : World) (b : Nat) (v0 v1 u0 u1 : Value) (h : W.heap[b]? = some (.cells #[u0, u1] 46 (0, 0))) :
    ((W.setCell ⟨b, 0, none⟩ v0).setCell ⟨b, 1, none⟩ v1).heap[b]? = some (.cells #[v0, v1] 46 (0, 0)) ∧
    (∀ B w0, B ≤ b → Below B w0 W → Below B w0 ((W.setCell ⟨b, 0, none⟩ v0).setCell ⟨b, 1, none⟩ v1)) := by
  have h1 := heap_setCell_same W b 0 _ 46 v0 h
  exact ⟨heap_setCell_same _ b 1 _ 46 v1 h1, fun B w0 hB h => (h.setCell (p := ⟨b, 0, none⟩) hB _).setCell (p := ⟨b, 1, none⟩) hB _⟩
theorem box2 {W : World} {b : Nat} {v0 v1 : Value} (h : W.heap[b]? = some (Obj.cells #[v0, v1] 46)) : W.cell? ⟨b, 0, none⟩ = some v0 ∧ W.cell? ⟨b, 1, none⟩ = some v1 ∧ W.frozen? ⟨b, 0, none⟩ = false ∧ W.frozen? ⟨b, 1, none⟩ = false :=
  ⟨(cell_of_row _ _ _ _ 46 (0, 0) h).trans rfl, (cell_of_row _ _ _ _ 46 (0, 0) h).trans rfl, frozen_of_row _ _ _ _ 46 h, frozen_of_row _ _ _ _ 46 h⟩
section
attribute [local go_sem] Oper.semAt_some
set_option maxRecDepth 100000 in
set_option maxHeartbeats 8000000 in
theorem verdict26 (q : Option Addr) (c : Nat) (xs : List Vd) (name probers k : Int) (nb : Bool) (w : World) (hname : (Lit.int .i64 name).wf = true)
    (h52 : ∀ W, Below w.heap.size w W → Calls prog 52 #[.slice q xs.length c, .int .i64 probers] W fun e W' => e = .returned (.int .i64 k) ∧ Below W.heap.size W W')
    (h43 : ∀ W, Calls prog 43 #[.int .i64 name] W fun e W' => e = .returned (.bool nb) ∧ Below W.heap.size W W')
    (h0 : k = 0 → xs.length ≤ 60 ∧ (∀ x ∈ xs, wfV x ∧ 0 ≤ x.1) ∧ 1 ≤ probers ∧ probers ≤ 10)
    (hq : xs.length ≠ 0 → ∃ b off, q = some ⟨b, off, none⟩ ∧ b < w.heap.size ∧ ∀ j, j < xs.length → w.cell? ⟨b, off + j * 4, none⟩ = some (.int .i64 (xs.getD j dVd).1) ∧ w.cell? ⟨b, off + j * 4 + 1, none⟩ = some (.int .i64 (xs.getD j dVd).2.1) ∧ w.cell? ⟨b, off + j * 4 + 2, none⟩ = some (.bool (xs.getD j dVd).2.2.1) ∧ w.cell? ⟨b, off + j * 4 + 3, none⟩ = some (.int .i64 (xs.getD j dVd).2.2.2)) :
    Calls prog 26 #[.slice q xs.length c, .int .i64 name, .int .i64 probers] w fun e W => e = .returned (.agg #[.int .i64 (if k = 0 then (if nb = true then 0 else 3) else k), .int .i64 (if k = 0 ∧ nb = true then sayT (stT xs) name probers else 0)]) ∧ Below w.heap.size w W := by
  generalize hW0 : w.alloc (.cells #[.int .i64 0, .int .i64 0] 46) = W0
  have hB0 : Below w.heap.size w W0 := by subst hW0; exact (Below.refl w.heap.size w).alloc (Nat.le_refl _) _
  have b0 : W0.heap[w.heap.size]? = some (.cells #[.int .i64 0, .int .i64 0] 46 (0, 0)) := by subst hW0; exact World.alloc_heap_new w _
  have hs0 : W0.heap.size = w.heap.size + 1 := by subst hW0; simp
  have h52' := h52 W0 hB0
  by_cases hk : k = 0
  · subst hk
    obtain ⟨hn, hx, hp0, hp1⟩ := h0 rfl
    cases nb with
    | false =>
      rw [if_pos rfl, if_neg (by decide), if_neg (by simp)]
      go_enter func26, ntmps26
      go_wp2_with (first
        | (go_at_call 52; (first | rw [hW0] | skip); refine h52'.mono ?_; clear h52'; rintro e w1 ⟨rfl, hB1⟩)
        | (go_at_call 43; refine (h43 w1).mono ?_; rintro e w2 ⟨rfl, hB2⟩; have hs1 := hB1.size; have r2 : w2.heap[w.heap.size]? = some (.cells #[.int .i64 0, .int .i64 0] 46 (0, 0)) := (hB2.block _ (by omega)).trans ((hB1.block _ (by omega)).trans b0); obtain ⟨a0, a1, f0, f1⟩ := box2 r2)
        | go_in)
      obtain ⟨y1, y2⟩ := set2q w2 w.heap.size (.int .i64 3) (.int .i64 0) _ _ r2
      have y3 := y2 w.heap.size w (Nat.le_refl _) (hB0.trans ((hB1.trans (hB2.mono hB1.size)).mono hB0.size))
      generalize ((w2.setCell ⟨w.heap.size, 0, none⟩ (.int .i64 3)).setCell ⟨w.heap.size, 1, none⟩ (.int .i64 0)) = Wf at y1 y3 ⊢
      obtain ⟨z0, z1, _, _⟩ := box2 y1
      refine bodyPost_ret (v := .agg #[.int .i64 3, .int .i64 0]) ?_ rfl ⟨rfl, y3⟩
      simp [results, show f26.results = #[.cell 6 46] from rfl, go_sem, z0, z1]
    | true =>
      rw [if_pos rfl, if_pos rfl, if_pos ⟨rfl, rfl⟩]
      have h53 : ∀ W, Below w.heap.size w W → Calls prog 53 #[.slice q xs.length c] W fun e W' => e = .returned (.map (some W.heap.size)) ∧ (∃ D, W'.ownsMap prog 80 unitElem W.heap.size 60 D ∧ isT D (stT xs)) ∧ Below W.heap.size W W' := fun W hB => by
        refine standing53 q c xs hn W (fun x h => (hx x h).1) fun h => ?_
        obtain ⟨b, off, hb, hl, hc⟩ := hq h
        exact ⟨b, off, hb, Nat.lt_of_lt_of_le hl hB.size, fun j hj => ⟨(hB.cell hl).trans (hc j hj).1, (hB.cell hl).trans (hc j hj).2.1, (hB.cell hl).trans (hc j hj).2.2.1, (hB.cell hl).trans (hc j hj).2.2.2⟩⟩
      have h54 : ∀ (mb : Nat) (D : DataW Unit) (W : World), W.ownsMap prog 80 unitElem mb 60 D → isT D (stT xs) → Calls prog 54 #[.map (some mb), .int .i64 name, .int .i64 probers] W fun e W' => e = .returned (.int .i64 (sayT (stT xs) name probers)) ∧ Below W.heap.size W W' := fun mb D W hown hT => by
        refine verdict54 mb 60 D (stT xs) name probers hname (by omega) hp1 (fun y hy hD => ?_) W hown hT
        rcases stT_mem xs _ ((hT.1 y hy).1 hD) with ⟨z, hz, e⟩ | h
        · rw [← e]; exact (hx z hz).2
        · cases h
      generalize sayT (stT xs) name probers = sv at h54 ⊢
      go_enter func26, ntmps26
      go_wp2_with (first
        | (go_at_call 52; (first | rw [hW0] | skip); refine h52'.mono ?_; clear h52'; rintro e w1 ⟨rfl, hB1⟩)
        | (go_at_call 43; refine (h43 w1).mono ?_; rintro e w2 ⟨rfl, hB2⟩; have hB12 := hB0.trans ((hB1.trans (hB2.mono hB1.size)).mono hB0.size); have h53' := h53 w2 hB12)
        | (go_at_call 53; refine h53'.mono ?_; clear h53'; rintro e w3 ⟨rfl, ⟨D, hown, hT⟩, hB3⟩; have h54' := h54 _ D w3 hown hT)
        | (go_at_call 54; refine h54'.mono ?_; clear h54'; rintro e w4 ⟨rfl, hB4⟩; have hs1 := hB1.size; have hs2 := hB2.size; have hs3 := hB3.size; have r2 : w4.heap[w.heap.size]? = some (.cells #[.int .i64 0, .int .i64 0] 46 (0, 0)) := (hB4.block _ (by omega)).trans ((hB3.block _ (by omega)).trans ((hB2.block _ (by omega)).trans ((hB1.block _ (by omega)).trans b0))); obtain ⟨a0, a1, f0, f1⟩ := box2 r2)
        | go_in)
      obtain ⟨y1, y2⟩ := set2q w4 w.heap.size (.int .i64 0) (.int .i64 sv) _ _ r2
      have y3 := y2 w.heap.size w (Nat.le_refl _) (hB12.trans ((hB3.trans (hB4.mono hB3.size)).mono hB12.size))
      generalize ((w4.setCell ⟨w.heap.size, 0, none⟩ (.int .i64 0)).setCell ⟨w.heap.size, 1, none⟩ (.int .i64 sv)) = Wf at y1 y3 ⊢
      obtain ⟨z0, z1, _, _⟩ := box2 y1
      refine bodyPost_ret (v := .agg #[.int .i64 0, .int .i64 sv]) ?_ rfl ⟨rfl, y3⟩
      simp [results, show f26.results = #[.cell 6 46] from rfl, go_sem, z0, z1]
  · rw [if_neg hk, if_neg (fun h => hk h.1)]
    have hkb : (k != 0) = true := by simpa using hk
    go_enter func26, ntmps26
    go_wp2_with (first
      | (go_at_call 52; (first | rw [hW0] | skip); refine h52'.mono ?_; clear h52'; rintro e w1 ⟨rfl, hB1⟩; have r2 : w1.heap[w.heap.size]? = some (.cells #[.int .i64 0, .int .i64 0] 46 (0, 0)) := (hB1.block _ (by omega)).trans b0; obtain ⟨a0, a1, f0, f1⟩ := box2 r2)
      | go_in)
    obtain ⟨y1, y2⟩ := set2q w1 w.heap.size (.int .i64 k) (.int .i64 0) _ _ r2
    have y3 := y2 w.heap.size w (Nat.le_refl _) (hB0.trans (hB1.mono hB0.size))
    generalize ((w1.setCell ⟨w.heap.size, 0, none⟩ (.int .i64 k)).setCell ⟨w.heap.size, 1, none⟩ (.int .i64 0)) = Wf at y1 y3 ⊢
    obtain ⟨z0, z1, _, _⟩ := box2 y1
    refine bodyPost_ret (v := .agg #[.int .i64 k, .int .i64 0]) ?_ rfl ⟨rfl, y3⟩
    simp [results, show f26.results = #[.cell 6 46] from rfl, go_sem, z0, z1]
end
end Go.Proofs.Try
