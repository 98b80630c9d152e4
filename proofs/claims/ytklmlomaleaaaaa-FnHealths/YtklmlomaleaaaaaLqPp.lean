/- A part of the proof of FnHealths: LqPp, LqQd, LqQe. -/
import Derived.Test.YtklmlomaleaaaaaLqQa
set_option maxHeartbeats 0
set_option linter.unusedVariables false
set_option linter.unusedSimpArgs false
namespace Go.Proofs.Try
open Go Go.VM Go.RowKit

/-! Draws -/
abbrev Src := List Int × Int
def okR (s : Src) (b : Int) : Prop := okB s.1 = true ∧ s.1.length ≤ 1048576 ∧ 0 ≤ s.2 ∧ s.2 ≤ b
instance (s : Src) (b : Int) : Decidable (okR s b) := by unfold okR; infer_instance
theorem okR.up {s : Src} {b c : Int} (h : okR s b) (hc : b ≤ c) : okR s c := ⟨h.1, h.2.1, h.2.2.1, Int.le_trans h.2.2.2 hc⟩
theorem okR.add {s : Src} {b : Int} (h : okR s b) {k : Int} (hk : 0 ≤ k) : okR (s.1, s.2 + k) (b + k) := by
  obtain ⟨h1, h2, h3, h4⟩ := h
  exact ⟨h1, h2, by simp only; omega, by simp only; omega⟩

def m68 (c : List Int) : Option (List Int × Int) := some (c, 0)
theorem sat68 : SatN prog cxT 68 (c68 m68).F := s68 m68 fun x t h => by
  cases h
  exact ⟨0, rfl⟩

def m89 (x : Src × Int) : Option (Int × List Int × Int) := if okR x.1 1000000000 then g89 0 x.1.1 x.1.2 x.2 else none
theorem sat89 : SatP prog cxT 89 (c89 m89).nres (c89 m89).F := s89 m89 fun x t h => by
  unfold m89 at h
  split at h
  · exact ⟨0, h⟩
  · cases h
theorem tmod_range (a : Int) {n : Int} (ha : 0 ≤ a) (hn : 1 ≤ n) : 0 ≤ a.tmod n ∧ a.tmod n < n := by
  rw [Int.tmod_eq_emod_of_nonneg ha]
  exact ⟨Int.emod_nonneg a (by omega), Int.emod_lt_of_pos a (by omega)⟩
theorem nx {s : Src} {b : Int} (h : okR s b) (hb : b ≤ 1000000000) (n : Int) : ∃ v, m89 (s, n) = some (v, s.1, s.2 + 1) ∧ (n < 1 → v = 0) ∧ (1 ≤ n → 0 ≤ v ∧ v < n) := by
  have hs := h.up hb
  obtain ⟨h1, h2, h3, h4⟩ := hs
  obtain ⟨c, at'⟩ := s
  simp only at h1 h2 h3 h4
  have e0 : m89 ((c, at'), n) = g89 0 c at' n := if_pos ⟨h1, h2, h3, h4⟩
  rw [e0]
  unfold g89
  have w1 : IntKind.wrap .i64 (at' + 1) = at' + 1 := wi (by omega) (by omega)
  have w2 : IntKind.wrap .i64 (at' + 1 - 1) = at' := by rw [Int.add_sub_cancel]; exact wi (by omega) (by omega)
  by_cases hn : n < 1
  · rw [dt hn, cond_true, w1]
    exact ⟨0, rfl, fun _ => rfl, fun h => by omega⟩
  · rw [df hn, cond_false]
    have hn0 : (n == 0) = false := by simp; omega
    by_cases hl : c.length = 0
    · have e1 : ((Nat.cast c.length : Int) == 0) = true := by simp [hl]
      simp only [e1, hn0, cond_true, cond_false, w1, w2]
      refine ⟨_, rfl, fun h => by omega, fun h => tmod_range _ ?_ h⟩
      rw [wi (by omega) (by omega)]
      omega
    · have e1 : ((Nat.cast c.length : Int) == 0) = false := by simp; intro h; simp [h] at hl
      have hk : (1 : Int) ≤ (c.length : Int) := by omega
      have r1 := tmod_range at' h3 hk
      have r2 := tmod_range (at' + 1) (by omega) hk
      have hq : 0 ≤ at'.tdiv (c.length : Int) ∧ at'.tdiv (c.length : Int) ≤ at' := by
        rw [Int.tdiv_eq_ediv_of_nonneg h3]
        exact ⟨Int.ediv_nonneg h3 (by omega), Int.ediv_le_self _ h3⟩
      have wq : IntKind.wrap .i64 (at'.tdiv (c.length : Int)) = at'.tdiv (c.length : Int) := wi (by omega) (by omega)
      have g1 := okB_get h1 (i := (at'.tmod (c.length : Int)).toNat) (by omega)
      have g2 := okB_get h1 (i := ((at' + 1).tmod (c.length : Int)).toNat) (by omega)
      have w3 : IntKind.wrap .i64 (at' + 1) = at' + 1 := w1
      simp only [e1, hn0, cond_false, w1, w2, dt r1.1, dt r1.2, dt r2.1, dt r2.2, Bool.and_self, cond_true, wq]
      generalize c.getD (at'.tmod (c.length : Int)).toNat 0 = x at g1 ⊢
      generalize c.getD ((at' + 1).tmod (c.length : Int)).toNat 0 = y at g2 ⊢
      generalize at'.tdiv (c.length : Int) = q at hq ⊢
      by_cases hb2 : n > 200
      · rw [dt hb2, cond_true]
        refine ⟨_, rfl, fun h => by omega, fun h => tmod_range _ ?_ h⟩
        simp (disch := omega) only [wi]
        omega
      · rw [df hb2, cond_false]
        refine ⟨_, rfl, fun h => by omega, fun h => tmod_range _ ?_ h⟩
        simp (disch := omega) only [wi]
        omega

def m90 (x : Src × List Int) : Option (Int × List Int × Int) := if okR x.1 1000000000 ∧ 1 ≤ x.2.length ∧ x.2.length ≤ 1000 then g90 m89 0 x.1.1 x.1.2 x.2 else none
theorem sat90 : SatP prog cxT 90 (c90 m90).nres (c90 m90).F := s90 m89 sat89 m90 fun x t h => by
  unfold m90 at h
  split at h
  · exact ⟨0, h⟩
  · cases h
theorem pick {s : Src} {b : Int} (h : okR s b) (hb : b ≤ 1000000000) (l : List Int) (h1 : 1 ≤ l.length) (h2 : l.length ≤ 1000) : ∃ v ∈ l, m90 (s, l) = some (v, s.1, s.2 + 1) := by
  obtain ⟨v, e, _, hv⟩ := nx h hb (l.length : Int)
  have hv := hv (by omega)
  have e0 : m90 (s, l) = g90 m89 0 s.1 s.2 l := if_pos ⟨h.up hb, h1, h2⟩
  refine ⟨l.getD v.toNat 0, ?_, ?_⟩
  · have : v.toNat < l.length := by omega
    simp only [List.getD, List.getElem?_eq_getElem this, Option.getD_some]
    exact List.getElem_mem this
  · rw [e0]
    unfold g90
    rw [e, tst_some, dt hv.1, dt hv.2]
    rfl

def okS (c : List Int) : Prop := okB c = true ∧ c.length ≤ 1048576
instance (c : List Int) : Decidable (okS c) := by unfold okS; infer_instance
theorem okS.src {c : List Int} (h : okS c) : okR (c, 0) 0 := ⟨h.1, h.2, Int.le_refl _, Int.le_refl _⟩
def m38 (c : List Int) : Option Bool := some (decide ((c.length : Int) > 1048576))
theorem sat38 : Sat prog cxT 38 (c38 m38) := s38 m38 fun x t h => by
  cases h
  exact ⟨0, rfl⟩

end Go.Proofs.Try

set_option maxHeartbeats 0
set_option linter.unusedVariables false
set_option linter.unusedSimpArgs false
namespace Go.Proofs.Try
open Go Go.VM Go.RowKit

/-! ### Draws: each of them comes to something -/
section
variable {β : Type} {Q : β → Prop} {c : List Int} {a b n : Int}
theorem nxG {d} {F : Int × List Int × Int → Option β} (h : okR (c, a) b) (hb : b ≤ 1000000000) (H : ∀ v, (n < 1 → v = 0) → (1 ≤ n → 0 ≤ v ∧ v < n) → okR (c, a + 1) (b + 1) → ∃ r, F (v, c, a + 1) = some r ∧ Q r) : ∃ r, tst (m89 ((c, a), n)) d F = some r ∧ Q r := by
  obtain ⟨v, e, h1, h2⟩ := nx h hb n
  rw [e, tst_some]
  exact H v h1 h2 (h.add (k := 1) (by omega))
theorem pkG {d} {l : List Int} {F : Int × List Int × Int → Option β} (h : okR (c, a) b) (hb : b ≤ 1000000000) (h1 : 1 ≤ l.length) (h2 : l.length ≤ 1000) (H : ∀ v ∈ l, okR (c, a + 1) (b + 1) → ∃ r, F (v, c, a + 1) = some r ∧ Q r) : ∃ r, tst (m90 ((c, a), l)) d F = some r ∧ Q r := by
  obtain ⟨v, hv, e⟩ := pick h hb l h1 h2
  rw [e, tst_some]
  exact H v hv (h.add (k := 1) (by omega))
theorem bifG {p : Bool} {x y : Option β} (h1 : p = true → ∃ r, x = some r ∧ Q r) (h2 : p = false → ∃ r, y = some r ∧ Q r) : ∃ r, (bif p then x else y) = some r ∧ Q r := by
  cases p
  · exact h2 rfl
  · exact h1 rfl
def m70 (x : Src × Int) : Option (Bool × List Int × Int) := if okR x.1 1000000000 then g70 m89 0 x.1.1 x.1.2 x.2 else none
theorem ch70 (h : okR (c, a) b) (hb : b ≤ 1000000000) : ∃ v, m70 ((c, a), n) = some (v, c, a + 1) := by
  obtain ⟨v, e, _, _⟩ := nx h hb n
  refine ⟨v == 0, ?_⟩
  unfold m70
  rw [if_pos (h.up hb)]
  unfold g70
  dsimp only
  rw [e, tst_some]
theorem chG {d} {F : Bool × List Int × Int → Option β} (h : okR (c, a) b) (hb : b ≤ 1000000000) (H : ∀ v, okR (c, a + 1) (b + 1) → ∃ r, F (v, c, a + 1) = some r ∧ Q r) : ∃ r, tst (m70 ((c, a), n)) d F = some r ∧ Q r := by
  obtain ⟨v, e2⟩ := ch70 (n := n) h hb
  rw [e2, tst_some]
  exact H _ (h.add (k := 1) (by omega))
end
theorem sat70 : SatP prog cxT 70 (c70 m70).nres (c70 m70).F := s70 m89 sat89 m70 fun x t h => by
  unfold m70 at h
  split at h
  · exact ⟨0, h⟩
  · cases h
abbrev H5 : Type := Int × Bool × Int × List Int × Int
def src5 (r : H5) : Src := (r.2.2.2.1, r.2.2.2.2)
def m69 (x : Src) : Option H5 := if okR x 900000000 then g69 m89 m70 mB m90 0 x.1 x.2 else none
theorem sat69 : SatP prog cxT 69 (c69 m69).nres (c69 m69).F := s69 m89 m70 mB m90 sat89 sat70 sat42 sat90 m69 fun x t h => by
  unfold m69 at h
  split at h
  · exact ⟨0, h⟩
  · cases h
theorem mBG {β : Type} {Q : β → Prop} {h : Hl} {d} {F : Int → Option β} (H : ∀ v, 1 ≤ v ∧ v ≤ 3 → ∃ t, F v = some t ∧ Q t) : ∃ t, tst (mB h) d F = some t ∧ Q t := by
  rw [show mB h = some (hB h.2.1) from rfl, tst_some]
  have := hB_r h.2.1
  exact H _ (by omega)
theorem tot69 {c : List Int} (a b : Int) (h : okR (c, a) b) (hb : b ≤ 800000000) : ∃ r, m69 (c, a) = some r ∧ (src5 r).1 = c ∧ okR (src5 r) (b + 20) := by
  unfold m69
  rw [if_pos (h.up (by omega))]
  show ∃ r, g69 m89 m70 mB m90 0 c a = some r ∧ _
  unfold g69
  repeat' first
    | refine pkG ‹okR _ _› (by omega) (by decide) (by decide) fun _ _ _ => ?_
    | refine nxG ‹okR _ _› (by omega) fun _ _ _ _ => ?_
    | refine chG ‹okR _ _› (by omega) fun _ _ => ?_
    | refine mBG fun _ _ => ?_
    | refine bifG (fun _ => ?_) (fun _ => ?_)
    | exact ⟨_, rfl, rfl, okR.up ‹okR _ _› (by omega)⟩
end Go.Proofs.Try

set_option linter.unusedVariables false
set_option linter.unusedSimpArgs false
namespace Go.Proofs.Try
open Go Go.VM Go.RowKit

theorem lt_of_at {W : World} {b : Nat} {o : Obj} (h : W.heap[b]? = some o) : b < W.heap.size := (Array.getElem?_eq_some_iff.1 h).1
/-- The source's box. -/
def Bx (W : World) (g : Nat) (c : List Int) (a : Int) : Prop := ∃ cur t, W.heap[g]? = some (.cells cur t (0, 0)) ∧ ArgA cxT W (fun b => b < W.heap.size ∧ b ≠ g) (.inr [ls (ro 5 c), lv (.int .i64 a)]) (.agg cur)
theorem argA_mono {W W' : World} {S S' : Nat → Prop} {c : List Int} {a : Int} {cur : Array Value} (hw : ∀ b, S b → W'.heap[b]? = W.heap[b]?) (hS : ∀ b, S b → S' b) (h : ArgA cxT W S (.inr [ls (ro 5 c), lv (.int .i64 a)]) (.agg cur)) :
    ArgA cxT W' S' (.inr [ls (ro 5 c), lv (.int .i64 a)]) (.agg cur) := by
  obtain ⟨us, hu, hl, h⟩ := h
  refine ⟨us, hu, hl, fun j x u e1 e2 => ?_⟩
  have := h j x u e1 e2
  match j with
  | 0 =>
    simp only [List.getElem?_cons_zero, Option.some.injEq] at e1
    subst e1
    obtain ⟨h1, n, h2⟩ := this
    exact ⟨h1, n, RepL_mono cxT hw hS _ _ _ h2⟩
  | 1 =>
    simp only [List.getElem?_cons_succ, List.getElem?_cons_zero, Option.some.injEq] at e1
    subst e1
    exact this
  | j + 2 => simp at e1
theorem Bx.drew {W : World} {g : Nat} {c : List Int} {a : Int} (h : Bx W g c a) : Bx W.drew g c a := by
  obtain ⟨cur, t, h1, h2⟩ := h
  exact ⟨cur, t, h1, argA_mono (W := W) (W' := W.drew) (S := fun b => b < W.heap.size ∧ b ≠ g) (S' := fun b => b < W.drew.heap.size ∧ b ≠ g) (fun _ _ => rfl) (fun _ h => h) h2⟩
theorem box_back {W : World} {A0 N : Nat → Prop} {X : A cxT.ty} {c : List Int} {a : Int} {x : Value} {cur : Array Value} (h : ResV cxT W A0 N (.inr (.inl [X, .inr [ls (ro 5 c), lv (.int .i64 a)]])) (.tuple ([x] ++ [Value.agg cur]).toArray)) :
    ∃ f0 S, ResA cxT W S X x f0 ∧ f0.Nodup ∧ (∀ b ∈ f0, N b ∧ b < W.heap.size) ∧ ArgA cxT W (fun b => A0 b ∨ (N b ∧ b < W.heap.size)) (.inr [ls (ro 5 c), lv (.int .i64 a)]) (.agg cur) := by
  obtain ⟨fp, hnd, hN, us, fps, hu, hfp, hl, hf, h⟩ := h
  have hu : [x, Value.agg cur] = us := by simpa using hu
  subst hu
  match fps, hf with
  | [f0, f1], _ =>
    have h0 := h 0 X x f0 rfl rfl rfl
    have h1 := h 1 _ (Value.agg cur) f1 rfl rfl rfl
    have hsub : ∀ b ∈ f0, b ∈ fp := fun b hb => by rw [hfp]; simp [hb]
    refine ⟨f0, _, h0, ?_, fun b hb => hN b (hsub b hb), ?_⟩
    · rw [hfp] at hnd
      simp only [List.flatten_cons] at hnd
      exact (List.nodup_append.1 hnd).1
    · obtain ⟨us2, fps2, hu2, _, hl2, hf2, h2⟩ := h1
      refine ⟨us2, hu2, hl2, fun j y u e1 e2 => ?_⟩
      have hj : j < fps2.length := by
        rw [hf2]
        exact (List.getElem?_eq_some_iff.1 e1).1
      have h3 := h2 j y u fps2[j] e1 e2 (List.getElem?_eq_getElem hj)
      match j with
      | 0 =>
        simp only [List.getElem?_cons_zero, Option.some.injEq] at e1
        subst e1
        obtain ⟨k1, _, n, k2⟩ := h3
        exact ⟨k1, n, RepL_mono cxT (fun _ _ => rfl) (fun b hb => hb.imp id fun h => ⟨h.1, h.2.1⟩) _ _ _ k2⟩
      | 1 =>
        simp only [List.getElem?_cons_succ, List.getElem?_cons_zero, Option.some.injEq] at e1
        subst e1
        exact h3.1
      | j + 2 => simp at e1

/-- A call that draws from the source. -/
theorem drawP {f : FuncId} {X : A cxT.ty} {F : List (A cxT.ty) → Option (Bool × List (A cxT.ty))} (hf : SatP prog cxT f 1 F) {W : World} {g : Nat} {c : List Int} {a a2 : Int} (hB : Bx W g c a) (l : List (A cxT.ty)) (us : List Value)
    (hl : ArgAs cxT W (fun b => b < W.heap.size ∧ b ≠ g) l us) (hF : F (.inr [ls (ro 5 c), lv (.int .i64 a)] :: l) = some (true, [X, .inr [ls (ro 5 c), lv (.int .i64 a2)]])) :
    Calls prog f (.pointer (some ⟨g, 0, none⟩) :: us).toArray W fun e W' => ∃ x f0 S, e = .returned x ∧ ResA cxT W' S X x f0 ∧ f0.Nodup ∧ (∀ b ∈ f0, W.heap.size ≤ b ∧ b < W'.heap.size) ∧ Bx W' g c a2 ∧ Kept (fun b => W.heap.size ≤ b ∨ b = g) W W' := by
  obtain ⟨cur, t, hg, hA⟩ := hB
  refine (hf W (fun b => b < W.heap.size ∧ b ≠ g) g cur t [ls (ro 5 c), lv (.int .i64 a)] l us _ (fun b hb => hb) hg hA rfl hl hF).mono ?_
  rintro e W' ⟨rs, cur', rfl, hr, ⟨t', hg'⟩, hk, hR⟩
  match rs, hr with
  | [x], _ =>
    obtain ⟨f0, S, h0, h1, h2, h3⟩ := box_back hR
    have hgl := lt_of_at hg
    have hsz := hk.size
    exact ⟨x, f0, S, rfl, h0, h1, h2, ⟨cur', t', hg', argA_mono (fun _ _ => rfl) (fun b hb => by
      rcases hb with ⟨hb1, hb2⟩ | ⟨hb1, hb2⟩
      · exact ⟨by omega, hb2⟩
      · exact ⟨hb2, by omega⟩) h3⟩, hk⟩
theorem arg1p {W : World} {S : Nat → Prop} (n : Int) : ArgAs cxT W S [.inl (lv (.int .i64 n))] [.int .i64 n] := ⟨rfl, fun j a u h1 h2 => by
  cases j with
  | zero =>
    simp only [List.getElem?_cons_zero, Option.some.injEq] at h1 h2
    subst h1; subst h2
    exact rfl
  | succ j => simp at h1⟩

theorem Bx.alloc {W : World} {g : Nat} {c : List Int} {a : Int} (h : Bx W g c a) (o : Obj) : Bx (W.alloc o) g c a := by
  obtain ⟨cur, t, h1, h2⟩ := h
  have hb := (Below.refl W.heap.size W).alloc (Nat.le_refl _) o
  have hs : W.heap.size ≤ (W.alloc o).heap.size := hb.size
  exact ⟨cur, t, (hb.block g (lt_of_at h1)).trans h1, argA_mono (W := W) (W' := W.alloc o) (fun b hh => hb.block b hh.1) (fun b hh => ⟨Nat.lt_of_lt_of_le hh.1 hs, hh.2⟩) h2⟩
theorem drawB {f : FuncId} {v : Value} {F : List (A cxT.ty) → Option (Bool × List (A cxT.ty))} (hf : SatP prog cxT f 1 F) {W : World} {g : Nat} {c : List Int} {a a2 : Int} (hB : Bx W g c a) (l : List (A cxT.ty)) (us : List Value)
    (hl : ArgAs cxT W (fun b => b < W.heap.size ∧ b ≠ g) l us) (hF : F (.inr [ls (ro 5 c), lv (.int .i64 a)] :: l) = some (true, [.inl (lv v), .inr [ls (ro 5 c), lv (.int .i64 a2)]])) :
    Calls prog f (.pointer (some ⟨g, 0, none⟩) :: us).toArray W fun e W' => e = .returned v ∧ Bx W' g c a2 ∧ Kept (fun b => W.heap.size ≤ b ∨ b = g) W W' := by
  refine (drawP hf hB l us hl hF).mono ?_
  rintro e W' ⟨x, f0, S, rfl, hr, _, _, h1, h2⟩
  obtain ⟨rfl, _⟩ : x = v ∧ f0 = [] := hr
  exact ⟨rfl, h1, h2⟩
theorem drawA {f : FuncId} {vs : List Value} {F : List (A cxT.ty) → Option (Bool × List (A cxT.ty))} (hf : SatP prog cxT f 1 F) {W : World} {g : Nat} {c : List Int} {a a2 : Int} (hB : Bx W g c a) (l : List (A cxT.ty)) (us : List Value)
    (hl : ArgAs cxT W (fun b => b < W.heap.size ∧ b ≠ g) l us) (hF : F (.inr [ls (ro 5 c), lv (.int .i64 a)] :: l) = some (true, [.inr (vs.map lv), .inr [ls (ro 5 c), lv (.int .i64 a2)]])) :
    Calls prog f (.pointer (some ⟨g, 0, none⟩) :: us).toArray W fun e W' => e = .returned (.agg vs.toArray) ∧ Bx W' g c a2 ∧ Kept (fun b => W.heap.size ≤ b ∨ b = g) W W' := by
  refine (drawP hf hB l us hl hF).mono ?_
  rintro e W' ⟨x, f0, S, rfl, ⟨us2, fps, rfl, _, hl2, hf2, h⟩, _, _, h1, h2⟩
  have e' : us2 = vs := vals_of (by simpa using hl2) fun j v u h1 h2 => by
    have hj : j < fps.length := by rw [hf2]; simpa using (List.getElem?_eq_some_iff.1 h1).1
    exact (h j (lv v) u fps[j] (by rw [List.getElem?_map, h1]; rfl) h2 (List.getElem?_eq_getElem hj)).1
  exact ⟨by rw [e'], h1, h2⟩
section
attribute [local go_sem] Oper.semAt_some
set_option maxRecDepth 100000 in
set_option maxHeartbeats 8000000 in
theorem dr39 (u0 : Value) (w : World) (c : List Int) (a1 a2 : Int) (x0 : Int) (x1 : Bool) (x2 : Int) (b : Bool) 
  (h68 : ∀ W, Below w.heap.size w W → Calls prog 68 #[u0] W fun e w1 => ∃ g, e = .returned (.pointer (some ⟨g, 0, none⟩)) ∧ W.heap.size ≤ g ∧ g < w1.heap.size ∧ Bx w1 g c 0 ∧ Below W.heap.size W w1)
  (h69 : ∀ g W, Bx W g c 0 → Calls prog 69 #[.pointer (some ⟨g, 0, none⟩)] W fun e W' => e = .returned (.agg #[.int .i64 x0, .bool x1, .int .i64 x2]) ∧ Bx W' g c a1 ∧ Kept (fun b => W.heap.size ≤ b ∨ b = g) W W')
  (h70 : ∀ g W, Bx W g c a1 → Calls prog 70 #[.pointer (some ⟨g, 0, none⟩), .int .i64 2] W fun e W' => e = .returned (.bool b) ∧ Bx W' g c a2 ∧ Kept (fun b => W.heap.size ≤ b ∨ b = g) W W') :
   Calls prog 39 #[u0] w fun e W => e = .returned (.tuple #[.agg #[.int .i64 x0, .bool x1, .int .i64 x2], .bool b]) ∧ Below w.heap.size w W := by
  generalize hW0 : w.alloc (.cells #[.int .i64 0, .bool false, .int .i64 0] 25) = W0
  have hB0 : Below w.heap.size w W0 := by subst hW0; exact (Below.refl w.heap.size w).alloc (Nat.le_refl _) _
  have b0 : W0.heap[w.heap.size]? = some (.cells #[.int .i64 0, .bool false, .int .i64 0] 25 (0, 0)) := by subst hW0; exact heap_alloc_new w _
  have hs0 : W0.heap.size = w.heap.size + 1 := by subst hW0; simp
  go_enter func39, ntmps39
  go_upto_region 2 with (go_at_call 68; (first | rw [hW0] | skip); refine (h68 _ hB0).mono ?_; rintro e w1 ⟨g, rfl, hg1, hg2, hb1, hB1⟩)
  go_upto_region 3 with (go_at_call 69; refine (h69 _ _ hb1).mono ?_; rintro e w2 ⟨rfl, hb2, hk2⟩)
  have hs1 := hB1.size
  have hs2 := hk2.size
  have hB2 : Below w.heap.size w w2 := (hB0.trans (hB1.mono hB0.size)).trans ⟨hk2.os, hk2.tape, hk2.output, hk2.size, fun k hk => hk2.block k (by omega)⟩
  have r2 : w2.heap[w.heap.size]? = some (.cells #[.int .i64 0, .bool false, .int .i64 0] 25 (0, 0)) := (hk2.block _ (by omega)).trans ((hB1.block _ (by omega)).trans b0)
  have o2 := heap_alloc_new w2 (.cells #[.int .i64 x0, .bool x1, .int .i64 x2] 25)
  have hB3 : Below w2.heap.size w2 (w2.alloc (.cells #[.int .i64 x0, .bool x1, .int .i64 x2] 25)) := (Below.refl w2.heap.size w2).alloc (Nat.le_refl _) _
  have hb3 := hb2.alloc (.cells #[.int .i64 x0, .bool x1, .int .i64 x2] 25)
  have r3 := (hB3.block _ (show w.heap.size < _ by omega)).trans r2
  generalize hV : w2.alloc (.cells #[.int .i64 x0, .bool x1, .int .i64 x2] 25) = V at o2 hB3 hb3 r3 ⊢
  have hsV : w2.heap.size < V.heap.size := (Array.getElem?_eq_some_iff.1 o2).1
  have hBV : Below w.heap.size w V := hB2.trans (hB3.mono (by omega))
  have e0 : V.cell? ⟨w2.heap.size, 0, none⟩ = some (.int .i64 x0) := (cell_of_row _ _ _ _ 25 (0, 0) o2).trans rfl
  have e1 : V.cell? ⟨w2.heap.size, 1, none⟩ = some (.bool x1) := (cell_of_row _ _ _ _ 25 (0, 0) o2).trans rfl
  have e2 : V.cell? ⟨w2.heap.size, 2, none⟩ = some (.int .i64 x2) := (cell_of_row _ _ _ _ 25 (0, 0) o2).trans rfl
  have hd : Bx V.drew g c a1 := hb3.drew
  have hgw : g < w2.heap.size := by omega
  go_region_with (go_at_call 70; (first | (refine (h70 _ _ hb3).mono ?_; rintro e w4 ⟨rfl, hb4, hk4⟩; have hB4 : Below w.heap.size w w4 := hBV.trans ⟨hk4.os, hk4.tape, hk4.output, hk4.size, fun k hk => hk4.block k (by omega)⟩) | (refine (h70 _ _ hd).mono ?_; rintro e w4 ⟨rfl, hb4, hk4⟩; have hB4 : Below w.heap.size w w4 := hBV.drew.trans ⟨hk4.os, hk4.tape, hk4.output, hk4.size, fun k hk => hk4.block k (by show ¬ (V.heap.size ≤ k ∨ k = g); omega)⟩)); have r4 : w4.heap[w.heap.size]? = some (.cells #[.int .i64 0, .bool false, .int .i64 0] 25 (0, 0)) := (hk4.block w.heap.size (by show ¬ (V.heap.size ≤ w.heap.size ∨ w.heap.size = g); omega)).trans r3; have o4 : w4.heap[w2.heap.size]? = some (.cells #[.int .i64 x0, .bool x1, .int .i64 x2] 25 (0, 0)) := (hk4.block w2.heap.size (by show ¬ (V.heap.size ≤ w2.heap.size ∨ w2.heap.size = g); omega)).trans o2; have p0 : w4.cell? ⟨w2.heap.size, 0, none⟩ = some (.int .i64 x0) := (cell_of_row _ _ _ _ 25 (0, 0) o4).trans rfl; have p1 : w4.cell? ⟨w2.heap.size, 1, none⟩ = some (.bool x1) := (cell_of_row _ _ _ _ 25 (0, 0) o4).trans rfl; have p2 : w4.cell? ⟨w2.heap.size, 2, none⟩ = some (.int .i64 x2) := (cell_of_row _ _ _ _ 25 (0, 0) o4).trans rfl; have f0 : w4.frozen? ⟨w.heap.size, 0, none⟩ = false := frozen_of_row _ _ _ _ 25 r4; have f1 : w4.frozen? ⟨w.heap.size, 1, none⟩ = false := frozen_of_row _ _ _ _ 25 r4; have f2 : w4.frozen? ⟨w.heap.size, 2, none⟩ = false := frozen_of_row _ _ _ _ 25 r4; have q0 : w4.cell? ⟨w.heap.size, 0, none⟩ = some (.int .i64 0) := (cell_of_row _ _ _ _ 25 (0, 0) r4).trans rfl; have q1 : w4.cell? ⟨w.heap.size, 1, none⟩ = some (.bool false) := (cell_of_row _ _ _ _ 25 (0, 0) r4).trans rfl; have q2 : w4.cell? ⟨w.heap.size, 2, none⟩ = some (.int .i64 0) := (cell_of_row _ _ _ _ 25 (0, 0) r4).trans rfl)
  all_goals (
    obtain ⟨y5, y6⟩ := set3 w4 w.heap.size (.int .i64 x0) (.bool x1) (.int .i64 x2) _ _ _ r4
    have y7 := y6 w.heap.size w (Nat.le_refl _) hB4
    generalize (((w4.setCell ⟨w.heap.size, 0, none⟩ (.int .i64 x0)).setCell ⟨w.heap.size, 1, none⟩ (.bool x1)).setCell ⟨w.heap.size, 2, none⟩ (.int .i64 x2)) = Wf at y5 y7 ⊢
    have z0 : Wf.cell? ⟨w.heap.size, 0, none⟩ = some (.int .i64 x0) := (cell_of_row _ _ _ _ 25 (0, 0) y5).trans rfl
    have z1 : Wf.cell? ⟨w.heap.size, 1, none⟩ = some (.bool x1) := (cell_of_row _ _ _ _ 25 (0, 0) y5).trans rfl
    have z2 : Wf.cell? ⟨w.heap.size, 2, none⟩ = some (.int .i64 x2) := (cell_of_row _ _ _ _ 25 (0, 0) y5).trans rfl
    go_wp2
    refine bodyPost_ret (v := .tuple #[.agg #[.int .i64 x0, .bool x1, .int .i64 x2], .bool b]) ?_ rfl ⟨rfl, y7⟩
    simp [results, show f39.results = #[.cell 2 25, .tmp 3] from rfl, go_sem, Act.put, z0, z1, z2])
end
/-! spec.DrawProbeHealth -/
def m39 (c : List Int) : Option (Int × Bool × Int × Bool) := if okS c then
    match m69 (c, 0) with
    | none => none
    | some r => match m70 (src5 r, 2) with
      | none => none
      | some (b, _) => some (r.1, r.2.1, r.2.2.1, b)
  else none
theorem draw39 {c : List Int} (h : okS c) : ∃ x0 x1 x2 a1 b, m69 (c, 0) = some (x0, x1, x2, c, a1) ∧ m70 ((c, a1), 2) = some (b, c, a1 + 1) ∧ m39 c = some (x0, x1, x2, b) := by
  obtain ⟨⟨x0, x1, x2, c', a1⟩, e1, hc, hz⟩ := tot69 0 0 h.src (by omega)
  obtain rfl : c' = c := hc
  obtain ⟨b, e2⟩ := ch70 (n := 2) (show okR (c', a1) (0 + 20) from hz) (by omega)
  refine ⟨x0, x1, x2, a1, b, e1, e2, ?_⟩
  unfold m39
  rw [if_pos h, e1]
  simp only
  rw [show m70 (src5 (x0, x1, x2, c', a1), 2) = some (b, c', a1 + 1) from e2]
theorem res_h4 {W : World} {A0 N : Nat → Prop} (h : Int × Bool × Int × Bool) : ResV cxT W A0 N (n39 h) (.tuple #[.agg #[.int .i64 h.1, .bool h.2.1, .int .i64 h.2.2.1], .bool h.2.2.2]) := by
  refine ⟨[], List.nodup_nil, by simp, [_, _], [[], []], rfl, by simp, rfl, rfl, fun j a u f e1 e2 e3 => ?_⟩
  match j with
  | 0 =>
    cases e1; cases e2; cases e3
    refine ⟨[_, _, _], [[], [], []], rfl, by simp, rfl, rfl, fun j a u f e1 e2 e3 => ?_⟩
    match j with
    | 0 => cases e1; cases e2; cases e3; exact ⟨rfl, rfl⟩
    | 1 => cases e1; cases e2; cases e3; exact ⟨rfl, rfl⟩
    | 2 => cases e1; cases e2; cases e3; exact ⟨rfl, rfl⟩
    | j + 3 => simp at e2
  | 1 => cases e1; cases e2; cases e3; exact ⟨rfl, rfl⟩
  | j + 2 => simp at e2
theorem sat39 : Sat prog cxT 39 (c39 m39) := by
  intro w A0 l us r hA hargs hF'
  obtain ⟨c, t, rfl, hx, rfl⟩ := fnT_inv hF'
  obtain ⟨u0, rfl, hu0⟩ := one_arg (show ArgAs cxT w A0 [.inl (ls (ro 5 c))] us from hargs)
  have hok : okS c := by
    unfold m39 at hx
    split at hx
    · assumption
    · cases hx
  obtain ⟨x0, x1, x2, a1, b, e1, e2, e3⟩ := draw39 hok
  rw [hx] at e3
  cases e3
  show Calls prog 39 #[u0] w fun e w' => ∃ u, e = .returned u ∧ Below w.heap.size w w' ∧ ResV cxT w' A0 (fun b => w.heap.size ≤ b) (n39 (x0, x1, x2, b)) u
  refine (dr39 u0 w c a1 (a1 + 1) x0 x1 x2 b (fun W hW => ?_) (fun g W hB => ?_) (fun g W hB => ?_)).mono ?_
  · have hs := hW.size
    have ha : ArgAs cxT W A0 (a68.enc c) [u0] := ⟨rfl, fun j a u h1 h2 => by
      match j with
      | 0 =>
        cases h1; cases h2
        obtain ⟨k1, n, k2⟩ := (show (ro 5 c : SlD cxT.ty).own = 0 ∧ ∃ n, RepL cxT w A0 n (some (.inr (ro 5 c))) u0 from hu0)
        exact ⟨k1, n, RepL_mono cxT (w' := W) (fun b hb => hW.block b (hA b hb)) (fun _ h => h) n _ _ k2⟩
      | j + 1 => simp at h2⟩
    refine (sat68 W A0 (a68.enc c) [u0] [ls (ro 5 c), lv (.int .i64 0)] (fun b hb => by have := hA b hb; omega) ha rfl).mono ?_
    rintro e w1 ⟨g, cur, t, rfl, hg, hh, hb, hArg⟩
    have hs1 := hb.size
    exact ⟨g, rfl, hg, lt_of_at hh, ⟨cur, t, hh, argA_mono (fun _ _ => rfl) (fun b hb' => by
      rcases hb' with h | h
      · have := hA b h
        exact ⟨by omega, by omega⟩
      · exact ⟨h.2.1, h.2.2⟩) hArg⟩, hb⟩
  · exact drawA (vs := [.int .i64 x0, .bool x1, .int .i64 x2]) sat69 hB [] [] ⟨rfl, by simp⟩ (by
      show some ((m69 (c, 0)).isSome, n69 ((m69 (c, 0)).getD dd69)) = _
      rw [e1]; rfl)
  · exact drawB (v := .bool b) sat70 hB [.inl (lv (.int .i64 2))] [.int .i64 2] (arg1p 2) (by
      show some ((m70 ((c, a1), 2)).isSome, n70 ((m70 ((c, a1), 2)).getD dd70)) = _
      rw [e2]; rfl)
  · rintro e W ⟨rfl, hB⟩
    exact ⟨_, rfl, hB, res_h4 (x0, x1, x2, b)⟩
/-! The law FnHealths -/
def m9 (c : List Int) : Option Bool := if okB c = true ∧ c.length ≤ top then some true else none
theorem sat9 : Sat prog cxT 9 (c9 m9) := s9 m38 m39 mM mM mK mHF sat38 sat39 sat14 sat13 sat18 sat12 m9 fun c t h => by
  unfold m9 at h
  split at h
  · rename_i hc
    cases h
    refine ⟨0, ?_⟩
    unfold g9 m38
    rw [tst_some]
    by_cases hl : c.length > 1048576
    · rw [dt (show (c.length : Int) > 1048576 by omega), cond_true]
    · rw [df (show ¬ (c.length : Int) > 1048576 by omega), cond_false]
      obtain ⟨x0, x1, x2, a1, b, _, _, e3⟩ := draw39 (c := c) ⟨hc.1, by omega⟩
      rw [e3, tst_some]
      simp only
      rw [show mM ((x0, x1, x2), b) = some (pM ((x0, x1, x2), b)) from rfl, tst_some]
      simp only [tst_some]
      by_cases h0 : hF (x0, x1, x2) = 0
      · rw [show mK ((x0, x1, x2), [b, b, b]) = some (pK ((x0, x1, x2), [b, b, b])) from if_pos (by unfold big; simp)]
        simp only [tst_some, mM, mHF]
        obtain ⟨hn, h1, h2⟩ := hF_zero h0
        have hfc : ∀ (up : Bool) (run : Int), 0 ≤ run → run ≤ hB up - 1 → hF (x0, up, run) = 0 := fun up run k1 k2 => if_pos ⟨hn, k1, k2⟩
        have hr := hB_r x1
        simp only at h1 h2
        have q0 := hfc true 0 (by decide) (by decide)
        have q1 := hfc true 1 (by decide) (by decide)
        have q2 := hfc true 2 (by decide) (by decide)
        have q3 := hfc false 0 (by decide) (by decide)
        have q4 := hfc false 1 (by decide) (by decide)
        rcases (show x2 = 0 ∨ x2 = 1 ∨ x2 = 2 by omega) with rfl | rfl | rfl <;> cases x1 <;> cases b <;> first | (exact absurd h2 (by decide)) | simp [pM, pS, pK, pL, stp, hl4, hB, q0, q1, q2, q3, q4]
      · have e5 : pM ((x0, x1, x2), b) = (3, false, 0, false, 0) := if_neg h0
        rw [e5]
        rfl
  · cases h
end Go.Proofs.Try
