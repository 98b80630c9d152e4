/- A part of the proof of FnExactAddressText: LdQa, LdQb. -/
import Derived.Test.YtfibmmgemhdebaaDoorLdPa
import Derived.Test.YtfibmmgemhdebaaDoorVmCb
import Derived.Test.YtfibmmgemhdebaaDoorTrydShelf
import Derived.Lib.AppendIntMem
import Derived.WalkKit
import Derived.OwnWalkIn
import Derived.Below
import Derived.WalkMore
import Derived.Test.YtfibmmgemhdebaaDoorVmJ
set_option linter.unusedVariables false
set_option linter.unusedSimpArgs false
namespace Go.Proofs.Tryd
open Go Go.VM Go.RowKit

/-! ### impl.AddressText, by hand: strconv.Itoa reads a table -/
theorem in15 (a : Int) (w : World) : Calls prog 15 #[.int .i64 a] w fun e w' => e = .returned (.bool (adOk a)) ∧ Below w.heap.size w w' := call_one sat15 (fun _ => args_lv [.int .i64 a]) rfl w
theorem flat5 : ∀ xs : List Int, flatVals cxT 5 xs = xs.map (Value.int .u8)
  | [] => rfl
  | x :: r => by
    show Value.int .u8 x :: flatVals cxT 5 r = _
    rw [flat5 r]
    rfl
theorem in16 (a : Int) (w : World) : Calls prog 16 #[.int .u64 a, .int .i64 4] w fun e W => ∃ g cap cur, e = .returned (.slice (some ⟨g, 0, none⟩) 4 cap) ∧ 4 ≤ cap ∧ w.heap.size ≤ g ∧ W.heap[g]? = some (.cells cur 5 (0, 0)) ∧ (∀ (i : Nat) x, (numB a 4)[i]? = some x → cur[i]? = some (.int .u8 x)) ∧ Below w.heap.size w W := by
  refine (sat16 w (fun _ => False) [.inl (lv (.int .u64 a)), .inl (lv (.int .i64 4))] [.int .u64 a, .int .i64 4] (n16 (numB a 4)) (fun _ h => h.elim) (args_lv [.int .u64 a, .int .i64 4]) rfl).mono ?_
  rintro e W ⟨v, rfl, hB, hr⟩
  obtain ⟨h1, h2⟩ := row_res (cx := cxT) (e := 5) (xs := numB a 4) cxT_ok rfl hr
  have h1 : W.ownsRow 0 5 1 v (numB a 4).length (flatVals cxT 5 (numB a 4)) := h1
  rw [flat5, numB_len] at h1
  rcases h1.2 with ⟨_, h0⟩ | ⟨g, cap, cur, rfl, _, hg, hc, _, hs, ht⟩
  · cases h0
  · refine ⟨g, cap, cur, rfl, hc, (h2 g rfl).1, hg, fun i x hx => ?_, hB⟩
    have h3 : ((numB a 4).map (Value.int .u8))[i]? = some (.int .u8 x) := by rw [List.getElem?_map, hx]; rfl
    rw [← ht, List.getElem?_take] at h3
    split at h3
    · simpa using h3
    · cases h3
theorem info9 : (prog.info? 9).map (fun i => (i.zero.isSome, (i.zero.getD .nilFunc).cells.size, i.size, i.bytes)) = some (true, 1, 1, 16) := by kernel_rfl
theorem info9' : ∃ i z, prog.info? 9 = some i ∧ i.zero = some z ∧ z.cells.size = 1 ∧ i.size = 1 ∧ i.bytes = 16 := by
  obtain ⟨i, hi, h⟩ := Option.map_eq_some_iff.1 info9
  simp only [Prod.mk.injEq] at h
  obtain ⟨h1, h2, h3, h4⟩ := h
  obtain ⟨z, hz⟩ := Option.isSome_iff_exists.1 h1
  rw [hz] at h2
  exact ⟨i, z, hi, hz, h2, h3, h4⟩
def Tab (w : World) : Prop := Lib.TabIs prog w "internal/strconv.uint64pow10" .u64 Lib.pow10Tab
/-- The numerals of some bytes, as strings. -/
def strs (l : List Int) : List Value := l.map fun x => .string (dg x.toNat)
theorem dg_itoa {x : Int} (h : 0 ≤ x) : (⟨(Lib.itoa x).toArray⟩ : ByteArray) = dg x.toNat := by
  unfold Lib.itoa dg
  rw [if_neg (by omega)]
theorem own_ne {W : World} {B e size n b : Nat} {v : Value} {xs : List Value} {cur : Array Value} {t : TypeId} (h : W.ownsRow B e size v n xs) (hb : W.heap[b]? = some (.cells cur t (0, 0))) (hne : t ≠ e) : some b ≠ v.ownBlock := by
  intro he
  rcases h.2 with ⟨rfl, _⟩ | ⟨g, cap, c, rfl, _, hg, _⟩
  · cases he
  · have : b = g := by simpa [Value.ownBlock] using he
    subst this
    rw [hg] at hb
    simp at hb
    exact hne hb.2.symm
theorem at_lt' {W : World} {b : Nat} {o : Obj} (h : W.heap[b]? = some o) : b < W.heap.size := (Array.getElem?_eq_some_iff.1 h).1
theorem own_on {W W' : World} {R e size k : Nat} {v : Value} {ys : List Value} (h : W.ownsRow R e size v k ys) (hb : Below W.heap.size W W') : W'.ownsRow R e size v k ys :=
  ⟨h.1, h.2.imp id fun ⟨g, cap, cur, h1, h2, h3, h4⟩ => ⟨g, cap, cur, h1, h2, (hb.block g (at_lt' h3)).trans h3, h4⟩⟩
theorem adp_map (xs : List Int) : (xs.map fun x => dg x.toNat).map (fun x => x.data.toList) = adp xs := by
  unfold adp dg
  rw [List.map_map]
  rfl
theorem join_small {xs : List Int} (h : xs.length = 4) (hx : ∀ x ∈ xs, 0 ≤ x ∧ x ≤ 255) : (Lib.join (adp xs) [46]).length ≤ 2000 := by
  match xs, h with
  | [a, b, c, d], _ =>
    have ha := dg_size a.toNat
    have hb := dg_size b.toNat
    have hc := dg_size c.toNat
    have hd := dg_size d.toNat
    have k0 := hx a (by simp)
    have k1 := hx b (by simp)
    have k2 := hx c (by simp)
    have k3 := hx d (by simp)
    have e := congrArg ByteArray.size (txt4 a b c d)
    have e2 : (txt [a, b, c, d]).size = (Lib.join (adp [a, b, c, d]) [46]).length := by
      show (Lib.join (adp [a, b, c, d]) [46]).toArray.size = _
      simp
    have hz : (⟨#[46]⟩ : ByteArray).size = 1 := rfl
    simp only [ByteArray.size_append, hz] at e
    omega
theorem one_new (w : World) (x : Value) (t : TypeId) : ∀ (j : Nat) u, [x][j]? = some u → (w.alloc (.cells #[x] t)).cell? ((⟨w.heap.size, 0, none⟩ : Addr).add j) = some u
  | 0, u, h => by
    simp only [List.getElem?_cons_zero, Option.some.injEq] at h
    subst h
    have h := heap_alloc_new w (Obj.cells #[x] t)
    show World.cell? _ ⟨w.heap.size, 0, none⟩ = _
    unfold World.cell?
    simp only [h]
    rfl
  | j + 1, u, h => by simp at h
theorem ap9 {w2 wr : World} {B k : Nat} {v : Value} {ys : List Value} (hrow : wr.ownsRow (B + 1) 9 1 v k ys) (hb3 : Below wr.heap.size wr w2) (hbl : B < wr.heap.size) (s : ByteArray) :
    (w2.alloc (.cells #[.string s] 9)).ownsRow (B + 1) 9 1 v k ys ∧ (∀ (j : Nat) u, [Value.string s][j]? = some u → (w2.alloc (.cells #[.string s] 9)).cell? ((⟨w2.heap.size, 0, none⟩ : Addr).add j) = some u) ∧ B + 1 ≤ (w2.alloc (.cells #[.string s] 9)).heap.size ∧ ∀ u ∈ [Value.string s], u.oneCell' = true :=
  ⟨(own_on hrow hb3).alloc _, one_new _ _ _, by have := hb3.size; simp; omega, by simp [Value.oneCell']⟩
section
attribute [local go_sem] Oper.semAt_some
set_option maxRecDepth 100000 in
set_option maxHeartbeats 4000000 in
theorem in6 (a : Int) (ha : adOk a = true) (w : World) (B : Nat) (hB : w.heap.size = B) (hT : Tab w) (hw : IntKind.wrap .u64 a = a) :
    Calls prog 6 #[.int .i64 a] w fun e W => e = .returned (.agg #[.int .i64 0, .string (txt (numB a 4))]) ∧ Below B w W := by
  have hTB : ∀ w', Below B w w' → Tab w' := by rw [← hB]; exact Lib.tabBelow_of_tabIs hT
  obtain ⟨i0, z, hi, hz, hz1, hz2, hz3⟩ := info9'
  have hxs : ∀ x ∈ numB a 4, 0 ≤ x ∧ x ≤ 255 := fun x hx => okB_mem (numB_okB a 4) hx
  have hxl := numB_len a 4
  have h16 := in16 a
  generalize numB a 4 = xs at hxs hxl h16 ⊢
  have h15 := in15 a
  rw [ha] at h15
  go_enter func6, ntmps6
  go_wp2_with (first
    | (go_at_call 15; refine (h15 _).mono ?_; rintro e w' ⟨rfl, hb15⟩)
    | (go_at_call 16; refine (h16 _).mono ?_; rintro e w1 ⟨g, cap, cur, rfl, hcap, hgB, hg, hcur, hb16⟩))
  have k15 := hb15.size
  simp only [World.size_alloc] at k15
  have kg : w'.heap.size ≤ g := hgB
  have kb0 : (w.alloc (.cells #[.int .i64 0, .string ⟨#[]⟩] 23)).heap[B]? = some (.cells #[.int .i64 0, .string ⟨#[]⟩] 23 (0, 0)) := by rw [← hB]; exact heap_alloc_new w _
  have kb1 : w1.heap[B]? = some (.cells #[.int .i64 0, .string ⟨#[]⟩] 23 (0, 0)) := (hb16.block B (by omega)).trans ((hb15.block B (by simp; omega)).trans kb0)
  have b0 : Below B w (w.alloc (.cells #[.int .i64 0, .string ⟨#[]⟩] 23)) := (Below.refl B w).alloc (by omega) _
  have b1 : Below B w w1 := (b0.trans (hb15.mono (by simp; omega))).trans (hb16.mono (by omega))
  have ks1 := b1.size
  go_loopw [3, 14] (fun v i wr => ∃ k : Nat, k ≤ 4 ∧ i = .int .i64 k ∧ wr.ownsRow (B + 1) 9 1 v k ((strs xs).take k) ∧ wr.heap[g]? = some (.cells cur 5 (0, 0)) ∧ wr.heap[B]? = some (.cells #[.int .i64 0, .string ⟨#[]⟩] 23 (0, 0)) ∧ Below B w wr) (fun _ i _ => 4 - (Lib.intOf i).toNat)
  case atStart => exact ⟨0, by omega, rfl, by simpa using World.ownsRow_nil _ _ _ _, hg, kb1, b1⟩
  case round =>
    obtain ⟨k, hk, rfl, hrow, hg2, hb2, hbw⟩ := hrel
    by_cases hlt : k < 4
    · obtain ⟨x, hx⟩ : ∃ x, xs[k]? = some x := ⟨_, List.getElem?_eq_getElem (by omega)⟩
      have hx2 := hxs x (List.mem_of_getElem? hx)
      have hc := hcur k x hx
      have hcell := cell_of_row _ g k cur 5 (0, 0) hg2
      rw [hc] at hcell
      have hwi : IntKind.wrap .i64 x = x := wi (by omega) (by omega)
      have hTw := hTB _ hbw
      have ksw := hbw.size
      have hwi2 : wrap64 x = x := by unfold wrap64; omega
      have hbl := at_lt' hb2
      have hm1 : k + 1 ≤ maxLen := by unfold maxLen; omega
      have hm2 : (k + 1) * 16 ≤ 140737488355328 := by omega
      have hst : (strs xs).take (k + 1) = (strs xs).take k ++ [.string (dg x.toNat)] := by
        rw [List.take_add_one]
        congr 1
        unfold strs
        rw [List.getElem?_map, hx]; rfl
      go_wp2_with (first
        | (go_at_call 17; refine (Tryd.strconv_Itoa x (by omega) (by omega) _ hTw).mono ?_; rintro e w2 ⟨rfl, n, os, hw2⟩; have hb3 : Below wr.heap.size wr w2 := (hw2 ▸ Lib.below_grow _ wr (Nat.le_refl _) n os); clear hw2; obtain ⟨hq1, hq2, hq3, hq4⟩ := ap9 hrow hb3 hbl ⟨(Lib.itoa x).toArray⟩)
        | (at_builtin; refine wpList_append_own _ rfl _ _ 41 rfl (B + 1) 9 i0 z 1 16 underlying41 hi hz hz2 hz3 hz1 (by decide) _ _ _ rfl hq1 ⟨w2.heap.size, 0, none⟩ 1 1 [.string ⟨(Lib.itoa x).toArray⟩] rfl rfl hq2 hq4 hm1 hm2 hq3 ?_; intro v' w4 hown' hgrow _))
      go_roundw
      case rel =>
        have hs3 := hb3.size
        have e1 : w4.heap[g]? = some (.cells cur 5 (0, 0)) := by
          have hgl := at_lt' hg2
          refine (hgrow.block g (by simp; omega) (own_ne hrow hg2 (by decide))).trans ?_
          exact (heap_alloc_old w2 _ (by omega)).trans ((hb3.block g hgl).trans hg2)
        have e2 : w4.heap[B]? = some (.cells #[.int .i64 0, .string ⟨#[]⟩] 23 (0, 0)) := by
          have hgl := at_lt' hb2
          refine (hgrow.block B (by simp; omega) (own_ne hrow hb2 (by decide))).trans ?_
          exact (heap_alloc_old w2 _ (by omega)).trans ((hb3.block B hgl).trans hb2)
        refine ⟨k + 1, by omega, by simp, by rw [hst, ← dg_itoa hx2.1]; exact hown', e1, e2, ?_⟩
        exact ((hbw.trans (hb3.mono (by omega))).alloc (by omega) _).trans ((below_grown (by simp; omega) ((own_on hrow hb3).alloc _) hgrow).mono (by omega))
      case measure => simp [Lib.intOf]; omega
    · obtain rfl : k = 4 := by omega
      have hsl : (strs xs).length = 4 := by simp [strs, hxl]
      rw [List.take_of_length_le (by omega)] at hrow
      have ksw := hbw.size
      rcases hrow.2 with ⟨_, h0⟩ | ⟨g2, cap2, cur2, rfl, hg2B, hgg, hc2, _, hs2, ht2⟩
      · cases h0
      have hcells : ∀ (j : Nat) (x : ByteArray), (xs.map fun x => dg x.toNat)[j]? = some x → World.cell? _ ⟨g2, 0 + j, none⟩ = some (.string x) := fun j x hj => by
        rw [List.getElem?_map] at hj
        obtain ⟨y, hy, rfl⟩ := Option.map_eq_some_iff.1 hj
        have := hrow.cells (g := g2) rfl j (.string (dg y.toNat)) (by unfold strs; rw [List.getElem?_map, hy]; rfl)
        rw [Addr.add_lit] at this
        exact this
      have hJ := Tryd.strings_Join g2 0 cap2 (xs.map fun x => dg x.toNat) ⟨#[46]⟩ _ hcells (at_lt' hgg) (by simp; omega) (by simp; omega) (by rw [adp_map]; exact Nat.le_trans (join_small hxl hxs) (by omega))
      rw [List.length_map, hxl, adp_map] at hJ
      have hJ2 := hJ.mono (R' := fun e w' => e = .returned (.string (txt xs)) ∧ Below _ _ w' ∧ w'.heap[B]? = some (.cells #[.int .i64 0, .string ⟨#[]⟩] 23 (0, 0)) ∧ w'.cell? ⟨B, 0, none⟩ = some (.int .i64 0) ∧ w'.cell? ⟨B, 1, none⟩ = some (.string ⟨#[]⟩) ∧ w'.frozen? ⟨B, 0, none⟩ = false ∧ w'.frozen? ⟨B, 1, none⟩ = false) (fun e w' h => by
        have hq := (h.2.block B (at_lt' hb2)).trans hb2
        exact ⟨h.1, h.2, hq, by simp [World.cell?, hq], by simp [World.cell?, hq], by simp [World.frozen?, hq], by simp [World.frozen?, hq]⟩)
      clear hJ
      go_wp2_with (go_at_call 18; refine hJ2.mono ?_; clear hJ2; rintro e w5 ⟨rfl, hb5, hq, q0, q1, f0, f1⟩)
      have e5 : Below B w w5 := hbw.trans (hb5.mono (by omega))
      generalize hW2 : ((w5.setCell { block := B, off := 0 } (Value.int IntKind.i64 0)).setCell { block := B, off := 1 } (Value.string (txt xs))) = W2
      have kr : W2.heap[B]? = some (.cells #[.int .i64 0, .string (txt xs)] 23 (0, 0)) := by
        rw [← hW2]
        have := heap_setCell_same w5 B 0 #[.int .i64 0, .string ⟨#[]⟩] 23 (.int .i64 0) hq
        rw [heap_setCell_same _ B 1 _ 23 _ this]
        rfl
      have z0 : W2.cell? ⟨B, 0, none⟩ = some (.int .i64 0) := by simp [World.cell?, kr]
      have z1 : W2.cell? ⟨B, 1, none⟩ = some (.string (txt xs)) := by simp [World.cell?, kr]
      refine bodyPost_ret (v := .agg #[.int .i64 0, .string (txt xs)]) ?_ rfl ⟨rfl, ?_⟩
      · simp [results, show f6.results = #[.cell 2 23] from rfl, go_sem, z0, z1]
      · rw [← hW2]
        exact (e5.setCell (p := ⟨B, 0, none⟩) (Nat.le_refl _) _).setCell (p := ⟨B, 1, none⟩) (Nat.le_refl _) _
end
end Go.Proofs.Tryd

set_option linter.unusedVariables false
set_option linter.unusedSimpArgs false
namespace Go.Proofs.Tryd
open Go Go.VM Go.RowKit

theorem arg_lvs {w : World} {S : Nat → Prop} (vs : List Value) : ArgA cxT w S (.inr (vs.map lv)) (.agg vs.toArray) :=
  ⟨vs, rfl, by simp, fun j a u h1 h2 => by
    rw [List.getElem?_map, h2] at h1
    simp only [Option.map_some, Option.some.injEq] at h1
    subst h1
    exact rfl⟩
theorem in5 (a : Int) (w : World) : Calls prog 5 #[.int .i64 a] w fun e w' => e = .returned (.agg #[.int .i64 (atx a).1, .string (atx a).2]) ∧ Below w.heap.size w w' :=
  call_agg (vs := [.int .i64 (atx a).1, .string (atx a).2]) sat5 (fun _ => args_lv [.int .i64 a]) rfl w
theorem in7 (c d : Int) (s t : ByteArray) (w : World) : Calls prog 7 #[.agg #[.int .i64 c, .string s], .agg #[.int .i64 d, .string t]] w fun e w' => e = .returned (.bool (decide (c = d ∧ s.toList = t.toList))) ∧ Below w.heap.size w w' :=
  call_one (l := [.inr [lv (.int .i64 c), lv (.string s)], .inr [lv (.int .i64 d), lv (.string t)]]) (us := [.agg #[.int .i64 c, .string s], .agg #[.int .i64 d, .string t]]) sat7
    (fun _ => args_cons (arg_lvs [.int .i64 c, .string s]) (args_cons (arg_lvs [.int .i64 d, .string t]) args_nil)) rfl w
theorem two {w w1 w2 : World} {c : Int} {t : ByteArray} (hb1 : Below w.heap.size w w1) (hb2 : Below (w1.alloc (Obj.cells #[.int .i64 c, .string t] 23)).heap.size (w1.alloc (Obj.cells #[.int .i64 c, .string t] 23)) w2) :
    (w2.alloc (Obj.cells #[.int .i64 c, .string t] 23)).cell? ⟨w1.heap.size, 0, none⟩ = some (.int .i64 c) ∧ (w2.alloc (Obj.cells #[.int .i64 c, .string t] 23)).cell? ⟨w1.heap.size, 1, none⟩ = some (.string t) ∧ Below w.heap.size w (w2.alloc (Obj.cells #[.int .i64 c, .string t] 23)) := by
  have hs1 := hb1.size
  have hs2 := hb2.size
  have hq := (hb2.block w1.heap.size (by simp)).trans (heap_alloc_new w1 (Obj.cells #[.int .i64 c, .string t] 23))
  have hq2 := (heap_alloc_old w2 (Obj.cells #[.int .i64 c, .string t] 23) (at_lt' hq)).trans hq
  refine ⟨by simp [World.cell?, hq2], by simp [World.cell?, hq2], ?_⟩
  simp at hs2
  exact (((hb1.alloc hs1 _).trans (hb2.mono (by simp; omega)))).alloc (by omega) _
section
attribute [local go_sem] Oper.semAt_some
set_option maxRecDepth 100000 in
set_option maxHeartbeats 4000000 in
theorem in6b (a : Int) (ha : adOk a = false) (w : World) : Calls prog 6 #[.int .i64 a] w fun e W => e = .returned (.agg #[.int .i64 3, .string ByteArray.empty]) ∧ Below w.heap.size w W := by
  have h15 := in15 a
  rw [ha] at h15
  go_enter func6, ntmps6
  go_wp2_with (go_at_call 15; refine (h15 _).mono ?_; rintro e w1 ⟨rfl, hb15⟩; have hq := (hb15.block w.heap.size (by simp)).trans (heap_alloc_new w _); have q0 : w1.cell? ⟨w.heap.size, 0, none⟩ = some (.int .i64 0) := (by simp [World.cell?, hq]); have q1 : w1.cell? ⟨w.heap.size, 1, none⟩ = some (.string ⟨#[]⟩) := (by simp [World.cell?, hq]); have f0 : w1.frozen? ⟨w.heap.size, 0, none⟩ = false := (by simp [World.frozen?, hq]); have f1 : w1.frozen? ⟨w.heap.size, 1, none⟩ = false := (by simp [World.frozen?, hq]))
  have e5 : Below w.heap.size w w1 := ((Below.refl _ w).alloc (Nat.le_refl _) _).trans (hb15.mono (by simp))
  generalize hW2 : ((w1.setCell { block := w.heap.size, off := 0 } (Value.int IntKind.i64 3)).setCell { block := w.heap.size, off := 1 } (Value.string ⟨#[]⟩)) = W2
  have kr : W2.heap[w.heap.size]? = some (.cells #[.int .i64 3, .string ⟨#[]⟩] 23 (0, 0)) := by
    rw [← hW2]
    have := heap_setCell_same w1 w.heap.size 0 #[.int .i64 0, .string ⟨#[]⟩] 23 (.int .i64 3) hq
    rw [heap_setCell_same _ w.heap.size 1 _ 23 _ this]
    rfl
  have z0 : W2.cell? ⟨w.heap.size, 0, none⟩ = some (.int .i64 3) := by simp [World.cell?, kr]
  have z1 : W2.cell? ⟨w.heap.size, 1, none⟩ = some (.string ⟨#[]⟩) := by simp [World.cell?, kr]
  refine bodyPost_ret (v := .agg #[.int .i64 3, .string ⟨#[]⟩]) ?_ rfl ⟨rfl, ?_⟩
  · simp [results, show f6.results = #[.cell 2 23] from rfl, go_sem, z0, z1]
  · rw [← hW2]
    exact (e5.setCell (p := ⟨w.heap.size, 0, none⟩) (Nat.le_refl _) _).setCell (p := ⟨w.heap.size, 1, none⟩) (Nat.le_refl _) _
theorem in6a (a : Int) (w : World) (hT : Tab w) : Calls prog 6 #[.int .i64 a] w fun e W => e = .returned (.agg #[.int .i64 (atx a).1, .string (atx a).2]) ∧ Below w.heap.size w W := by
  unfold atx
  by_cases ha : adOk a = true
  · rw [if_pos ha]
    have hr := of_decide_eq_true ha
    exact in6 a ha w _ rfl hT (wu (by omega) (by omega))
  · rw [if_neg ha]
    exact in6b a (by simpa using ha) w
set_option maxRecDepth 100000 in
set_option maxHeartbeats 4000000 in
theorem in3 (a : Int) (w : World) (hT : Tab w) : Calls prog 3 #[.int .i64 a] w fun e w' => e = .returned (.bool true) ∧ Below w.heap.size w w' := by
  have hTB : ∀ w', Below w.heap.size w w' → Tab w' := Lib.tabBelow_of_tabIs hT
  have h5 := in5 a
  have h6 := in6a a
  have h7 : ∀ w, Calls prog 7 #[.agg #[.int .i64 (atx a).1, .string (atx a).2], .agg #[.int .i64 (atx a).1, .string (atx a).2]] w fun e w' => e = .returned (.bool true) ∧ Below w.heap.size w w' := fun w => by
    have := in7 (atx a).1 (atx a).1 (atx a).2 (atx a).2 w
    rwa [dt ⟨rfl, rfl⟩] at this
  generalize (atx a).1 = c, (atx a).2 = t at h5 h6 h7
  go_enter func3, ntmps3
  go_wp2_with (first
    | (go_at_call 5; refine (h5 _).mono ?_; rintro e w1 ⟨rfl, hb1⟩; have hT1 := hTB _ (hb1.alloc hb1.size (Obj.cells #[.int .i64 c, .string t] 23)))
    | (go_at_call 6; refine (h6 _ hT1).mono ?_; rintro e w2 ⟨rfl, hb2⟩; obtain ⟨q0, q1, hb3⟩ := two hb1 hb2)
    | (go_at_call 7; refine (h7 _).mono ?_; rintro e w3 ⟨rfl, hb4⟩))
  go_ret
  have := hb3.size
  exact ⟨rfl, hb3.trans (hb4.mono this)⟩
end
end Go.Proofs.Tryd
