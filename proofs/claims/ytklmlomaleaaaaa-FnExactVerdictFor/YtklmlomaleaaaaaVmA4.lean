/- A part of the proof of FnExactVerdictFor: VmA4, VmA5, VmA6, VmA7, VmA8. -/
import Derived.Test.YtklmlomaleaaaaaVmA
set_option linter.unusedVariables false
namespace Go.VM
open Go.RowKit
section
variable {cx : Cx} {P : Program}

theorem vb_nodup (u : Value) : (vb u).Nodup := by
  unfold vb
  split <;> simp

/-- Some rows of the table give way to a new one. -/
theorem good_repl {c : Ct cx.ty} (h : Wf cx c) {w' : World} {nm0 : Nat} (hf : ∀ n, Nm c n → ¬ (nm0 ≤ n ∧ n < nm0 + 64)) {dn r : List Nat} (hdn : ∀ tk ∈ c.T, tk.nm ∈ dn → ∃ s, tk.c = .inl s) (hdT : ∀ n ∈ dn, ∃ tk ∈ c.T, tk.nm = n) {u' : Value} {s' : SlD cx.ty} (hs' : s'.own = 1 ∧ s'.nm = nm0)
    (hblk : ∀ b ∈ vb u', (∃ tk ∈ c.T, tk.nm ∈ dn ∧ b ∈ vb tk.u) ∨ (c.w.heap.size ≤ b ∧ b < w'.heap.size))
    (hheap : ∀ b, b < c.w.heap.size → (∀ tk ∈ c.T, tk.nm ∈ dn → b ∉ vb tk.u) → w'.heap[b]? = c.w.heap[b]?) (hsz : c.w.heap.size ≤ w'.heap.size) (hbel : Kept c.N c.w w')
    (htok : ∀ c' : Ct cx.ty, c'.w = w' → TokRep cx c' { nm := nm0, u := u', fp := [], c := .inl s' }) (hsl : ∃ a n cap, u' = .slice a n cap) :
    Good cx c { v := vs s', dead := dn, frz := [], live := dn, read := r } nm0 u' w' ({ nm := nm0, u := u', fp := [], c := .inl s' } :: c.T.filter (fun tk => !dn.contains tk.nm)) := by
  have hmem : ∀ tk, tk ∈ c.T.filter (fun tk => !dn.contains tk.nm) ↔ tk ∈ c.T ∧ tk.nm ∉ dn := fun tk => by simp [List.mem_filter]
  have hpres : Pres cx c (c.nx { v := vs s', dead := dn, frz := [], live := dn, read := r } w' ({ nm := nm0, u := u', fp := [], c := .inl s' } :: c.T.filter (fun tk => !dn.contains tk.nm))) := by
    refine ⟨fun b hb => ?_, fun n hn => List.mem_append.2 (.inr hn), fun n hn => hn, fun tk ht hD _ => ?_, fun tk ht l hl => ?_, fun tk ht _ _ _ hF => absurd hF (h.live tk ht).2⟩
    · obtain ⟨h1, h2, h3⟩ := hb
      refine ⟨⟨Nat.lt_of_lt_of_le h1 hsz, h2, fun tk ht hv => ?_⟩, hheap b h1 (fun tk ht _ => h3 tk ht)⟩
      rcases List.mem_cons.1 ht with ht | ht
      · subst ht
        rcases hblk b hv with ⟨tk, k1, _, k3⟩ | hk
        · exact h3 tk k1 k3
        · omega
      · exact h3 tk ((hmem tk).1 ht).1 hv
    · refine List.mem_cons_of_mem _ ((hmem tk).2 ⟨ht, fun hd => hD (List.mem_append.2 (.inl hd))⟩)
    · refine List.mem_cons_of_mem _ ((hmem tk).2 ⟨ht, fun hd => ?_⟩)
      obtain ⟨s, hs⟩ := hdn tk ht hd
      rw [hl] at hs
      cases hs
  have hother : ∀ tk ∈ c.T, tk.nm ∉ dn → ∀ b ∈ blocks tk, ∀ t2 ∈ c.T, t2.nm ∈ dn → b ∉ vb t2.u := fun tk ht hn b hb t2 ht2 hn2 hb2 =>
    disjoint_toks h ht ht2 (fun e => hn (e ▸ hn2)) hb (List.mem_append.2 (.inl hb2))
  refine ⟨⟨?_, ?_, ?_, ?_, h.start, ?_, fun b hb => h.size b (Nat.le_trans hsz hb)⟩, hpres, ?_, hbel, ?_⟩
  · show (List.map _ (_ :: _)).Nodup
    rw [List.map_cons, List.nodup_cons]
    refine ⟨fun hm => ?_, (List.Sublist.map _ List.filter_sublist).nodup h.names⟩
    obtain ⟨tk, ht, he⟩ := List.mem_map.1 hm
    have he : tk.nm = nm0 := he
    exact hf _ (.inl ⟨tk, ((hmem tk).1 ht).1, rfl⟩) ⟨by omega, by omega⟩
  · show (List.flatMap _ (_ :: _)).Nodup
    rw [List.flatMap_cons, List.nodup_append]
    refine ⟨by simpa using vb_nodup u', ?_, fun a ha b hb he => ?_⟩
    · have hsub : List.Sublist ((c.T.filter (fun tk => !dn.contains tk.nm)).flatMap fun tk => vb tk.u ++ tk.fp) (c.T.flatMap fun tk => vb tk.u ++ tk.fp) := by
        have : ∀ T : List (Tk cx.ty), List.Sublist ((T.filter (fun tk => !dn.contains tk.nm)).flatMap fun tk => vb tk.u ++ tk.fp) (T.flatMap fun tk => vb tk.u ++ tk.fp) := by
          intro T
          induction T with
          | nil => exact List.Sublist.refl _
          | cons x r ih =>
            rw [List.filter_cons]
            split
            · rw [List.flatMap_cons, List.flatMap_cons]; exact (List.Sublist.refl _).append ih
            · rw [List.flatMap_cons]; exact ih.trans (List.sublist_append_right _ _)
        exact this _
      exact hsub.nodup h.nodup
    · subst he
      simp only [List.append_nil] at ha
      obtain ⟨tk, ht, hb⟩ := List.mem_flatMap.1 hb
      obtain ⟨ht1, ht2⟩ := (hmem tk).1 ht
      rcases hblk a ha with ⟨t2, k1, k2, k3⟩ | hk
      · exact hother tk ht1 ht2 a hb t2 k1 k2 k3
      · have := (h.bound tk ht1 a hb).2
        omega
  · intro tk ht b hb
    rcases List.mem_cons.1 ht with ht | ht
    · subst ht
      simp only [List.append_nil] at hb
      rcases hblk b hb with ⟨t2, k1, k2, k3⟩ | hk
      · have := h.bound t2 k1 b (List.mem_append.2 (.inl k3))
        exact ⟨this.1, Nat.lt_of_lt_of_le this.2 hsz⟩
      · have := h.size
        exact ⟨by show c.N b; exact this b (by omega), hk.2⟩
    · have := h.bound tk ((hmem tk).1 ht).1 b hb
      exact ⟨this.1, Nat.lt_of_lt_of_le this.2 hsz⟩
  · intro tk ht
    rcases List.mem_cons.1 ht with ht | ht
    · subst ht
      exact htok _ rfl
    · obtain ⟨ht1, ht2⟩ := (hmem tk).1 ht
      exact TokRep.pres cx hpres (fun b hb => hheap b (h.bound tk ht1 b hb).2 (hother tk ht1 ht2 b hb)) (h.rep tk ht1)
  · intro tk ht
    rcases List.mem_cons.1 ht with ht | ht
    · subst ht
      refine ⟨fun hd => ?_, fun hd => hf _ (.inr (.inr hd)) ⟨Nat.le_refl _, by show nm0 < nm0 + 64; omega⟩⟩
      rcases List.mem_append.1 hd with hd | hd
      · obtain ⟨tk, k1, k2⟩ := hdT _ hd
        exact hf _ (.inl ⟨tk, k1, k2⟩) ⟨Nat.le_refl _, by show nm0 < nm0 + 64; omega⟩
      · exact hf _ (.inr (.inl hd)) ⟨Nat.le_refl _, by show nm0 < nm0 + 64; omega⟩
    · obtain ⟨ht1, ht2⟩ := (hmem tk).1 ht
      refine ⟨fun hd => ?_, (h.live tk ht1).2⟩
      rcases List.mem_append.1 hd with hd | hd
      · exact ht2 hd
      · exact (h.live tk ht1).1 hd
  · refine (show RepV cx _ (vs s') u' from ?_)
    refine (show RepLS cx _ (some (.inr s')) u' from repLS_tok hs'.1 ?_ ?_ (List.mem_cons_self ..) hs'.2.symm rfl rfl hsl)
    · intro hd
      rw [hs'.2] at hd
      rcases List.mem_append.1 hd with hd | hd
      · obtain ⟨tk, k1, k2⟩ := hdT _ hd
        exact hf _ (.inl ⟨tk, k1, k2⟩) ⟨Nat.le_refl _, by omega⟩
      · exact hf _ (.inr (.inl hd)) ⟨Nat.le_refl _, by omega⟩
    · intro hd
      rw [hs'.2] at hd
      exact hf _ (.inr (.inr hd)) ⟨Nat.le_refl _, by omega⟩
  · intro n hn
    rcases hn with ⟨tk, ht, rfl⟩ | hn | hn
    · rcases List.mem_cons.1 ht with ht | ht
      · subst ht; exact .inr ⟨Nat.le_refl _, by show nm0 < nm0 + 64; omega⟩
      · exact .inl (.inl ⟨tk, ((hmem tk).1 ht).1, rfl⟩)
    · rcases List.mem_append.1 hn with hn | hn
      · obtain ⟨tk, k1, k2⟩ := hdT _ hn
        exact .inl (.inl ⟨tk, k1, k2⟩)
      · exact .inl (.inr (.inl hn))
    · exact .inl (.inr (.inr hn))

/-- The cells of a slice of plain elements that may be read. -/
theorem rep_cells (ok : cx.Ok) {c : Ct cx.ty} (hw : Wf cx c) {s : SlD cx.ty} (hflat : cx.flat s.e = true) (hpos : 0 < cx.size s.e) {u : Value} (h : RepLS cx c (some (.inr s)) u) (hd : ∀ n ∈ rdn s, n ∉ c.D) :
    ∃ a cap, u = .slice a s.xs.length cap ∧ (s.xs = [] ∨ ∃ ad, a = some ad ∧ ∀ (j : Nat) v, (flatVals cx s.e s.xs)[j]? = some v → c.w.cell? (ad.add j) = some v) := by
  have key : ∀ (b off : Nat), (∀ (i : Nat) x, s.xs[i]? = some x → ∃ n, ∀ j l, (cx.enc s.e false x)[j]? = some l → ∃ v, c.w.cell? ⟨b, off + i * cx.size s.e + j, none⟩ = some v ∧ RepL cx c.w (Rd c) n l v) →
      ∀ (j : Nat) v, (flatVals cx s.e s.xs)[j]? = some v → c.w.cell? ((⟨b, off, none⟩ : Addr).add j) = some v := by
    intro b off hc j v hv
    have hlen := flatVals_len ok hflat s.xs
    have hjl : j < s.xs.length * cx.size s.e := by rw [← hlen]; exact (List.getElem?_eq_some_iff.1 hv).1
    have hi : j / cx.size s.e < s.xs.length := (Nat.div_lt_iff_lt_mul hpos).2 hjl
    have hm : j % cx.size s.e < cx.size s.e := Nat.mod_lt _ hpos
    have hj : j / cx.size s.e * cx.size s.e + j % cx.size s.e = j := by rw [Nat.mul_comm]; exact Nat.div_add_mod j _
    obtain ⟨n, hn⟩ := hc (j / cx.size s.e) _ (List.getElem?_eq_getElem hi)
    have hfg := flat_get (cx.enc s.e false) (cx.size s.e) (fun x => ok.len s.e false x) s.xs _ _ (List.getElem?_eq_getElem hi) _ hm
    rw [hj, flat_enc ok hflat false s.xs, List.getElem?_map, hv] at hfg
    obtain ⟨v', h1, h2⟩ := hn _ _ hfg.symm
    have h2 : v' = v := by cases n <;> simpa [RepL, lv] using h2
    rw [Addr.add_lit, ← h2, ← h1]
    congr 2
    omega
  unfold RepLS at h
  have ofRepL : ∀ n, RepL cx c.w (Rd c) n (some (.inr s)) u → ∃ a cap, u = .slice a s.xs.length cap ∧ (s.xs = [] ∨ ∃ ad, a = some ad ∧ ∀ (j : Nat) v, (flatVals cx s.e s.xs)[j]? = some v → c.w.cell? (ad.add j) = some v) := by
    intro n hn
    cases n with
    | zero => simp [RepL] at hn
    | succ n =>
      obtain ⟨a, cap, hu, _, hcase⟩ := hn
      refine ⟨a, cap, hu, ?_⟩
      rcases hcase with hx | ⟨b, off, ha, hS, hc⟩
      · exact .inl hx
      · refine .inr ⟨⟨b, off, none⟩, ha, key b off (fun i x hx => ⟨n, fun j l hl => ?_⟩)⟩
        obtain ⟨v, hv, hr⟩ := hc i x hx j l hl
        exact ⟨v, by rw [Nat.add_assoc]; exact hv, hr⟩
  by_cases h1 : s.own = 1
  · have h2 : s.nm ∉ c.D := hd _ (by simp [rdn, h1])
    simp only [h1, if_true, h2, if_false] at h
    obtain ⟨_, h⟩ := h
    by_cases h3 : s.nm ∈ c.F
    · simp only [h3, if_true] at h
      obtain ⟨n, h⟩ := h
      exact ofRepL n h
    · simp only [h3, if_false] at h
      obtain ⟨tk, ht, _, hc, hu⟩ := h
      rcases tok_el ok hw ht hc with ⟨h4, h5⟩ | ⟨g, cap, h4, _, h5⟩
      · exact ⟨none, 0, by rw [← hu, h4, h5]; rfl, .inl h5⟩
      · refine ⟨_, cap, by rw [← hu, h4], .inr ⟨_, rfl, key g 0 (fun i x hx => ?_)⟩⟩
        obtain ⟨n, hn⟩ := h5 i x hx
        refine ⟨n, fun j l hl => ?_⟩
        obtain ⟨v, hv, hr⟩ := hn j l hl
        exact ⟨v, by rw [Nat.zero_add]; exact hv, hr⟩
  · simp only [h1, if_false] at h
    obtain ⟨n, h⟩ := h
    exact ofRepL n h

/-- append, whatever room there is: where the result lies, and what has turned. -/
theorem run_append_any {w : World} {t ty e : TypeId} {i : TypeInfo} {z : Value} {size : Nat} (ht : P.underlying t = some (.slice e)) (hi : P.info? e = some i) (hz : i.zero = some z) (hsize : i.size = size) (hzs : z.cells.size = size) (hpos : 0 < size)
    {v : Value} {n : Nat} {xs : List Value} (hown : w.ownsRow 0 e size v n xs) {a : Option Addr} {m cap : Nat} {news : List Value} (hl : news.length = m * size) (hcells : m = 0 ∨ ∃ ad, a = some ad ∧ ∀ (j : Nat) u, news[j]? = some u → w.cell? (ad.add j) = some u)
    (h1 : ∀ u ∈ news, u.oneCell' = true) (h63 : n + m ≤ maxLen) (hbytes : (n + m) * i.bytes ≤ 140737488355328) :
    ∃ v' w', (Builtin.append_ #[t, t] ty #[v, .slice a m cap]).run P w = .ok v' w' ∧ w'.ownsRow 0 e size v' (n + m) (xs ++ news) ∧ w.grownBy w' v.ownBlock ∧ (∀ g, v'.ownBlock = some g → v.ownBlock = some g ∨ w.heap.size ≤ g) ∧ (∃ a n c, v' = .slice a n c) := by
  by_cases hm : m = 0
  · subst hm
    have hn : news = [] := List.eq_nil_of_length_eq_zero (by simpa using hl)
    subst hn
    have hso : (sizeOf e).run P w = .ok i.size w := by simp [sizeOf, typeInfo, hi]
    refine ⟨v, w, ?_, by simpa using hown, ⟨rfl, rfl, rfl, Nat.le_refl _, fun _ _ _ => rfl⟩, fun g hg => .inl hg, ?_⟩
    · rcases hown.2 with ⟨rfl, rfl⟩ | ⟨g, cap', cur, rfl, _, _, hnc, _⟩
      · cases a <;> simp [Builtin.append_, run_underlying ht, sizeOf, typeInfo, hi, Builtin.lenOf, Builtin.firstCells, loadCells, loadCellsFrom]
      · cases a <;> simp [Builtin.append_, run_underlying ht, sizeOf, typeInfo, hi, Builtin.lenOf, Builtin.firstCells, hnc, storeCells, loadCells, loadCellsFrom]
    · rcases hown.2 with ⟨rfl, rfl⟩ | ⟨g, cap', cur, rfl, _⟩
      · exact ⟨_, _, _, rfl⟩
      · exact ⟨_, _, _, rfl⟩
  · have hcells : ∃ ad, a = some ad ∧ ∀ (j : Nat) u, news[j]? = some u → w.cell? (ad.add j) = some u := hcells.resolve_left hm
    obtain ⟨ad, rfl, hnews⟩ := hcells
    obtain ⟨v', w', hr, k1, k2, _⟩ := run_append_own (P := P) w 0 t ty e i z size i.bytes ht hi hz hsize rfl hzs hpos v n xs hown ad m cap news hl hnews h1 h63 hbytes (Nat.zero_le _)
    refine ⟨v', w', hr, k1, k2, ?_, ?_⟩
    · subst hsize
      rcases hown.2 with ⟨rfl, rfl⟩ | ⟨g, cap', cur, rfl, hb, hg, hnc, hcm, hcs, htake⟩
      · have hx := run_append_nil (P := P) w t ty e i z ht hi hz ad m cap news hl hnews (by omega) (by simp [maxLen] at h63; omega) (by simp at hbytes; omega)
        rw [hr] at hx
        simp only [Result.ok.injEq] at hx
        intro g hg
        rw [hx.1] at hg
        simp only [Value.ownBlock, Option.some.injEq] at hg
        exact .inr (by omega)
      · by_cases hroom : n + m ≤ cap'
        · obtain ⟨w2, hx, _⟩ := run_append_fits (P := P) w 0 t ty e i i.size ht hi rfl g n cap' xs hown ad m cap news hl hnews h1 hroom
          rw [hr] at hx
          simp only [Result.ok.injEq] at hx
          intro g' hg'
          rw [hx.1] at hg'
          simp only [Value.ownBlock, Option.some.injEq] at hg' ⊢
          exact .inl hg'
        · have holds := hown.cells (g := g) rfl
          have hx := run_append_grow (P := P) w t ty e i z ht hi hz ⟨g, 0, none⟩ n cap' xs hown.1 holds ad m cap news hl hnews (by omega) (by simp [maxLen] at h63; omega) (growslice_fits (by omega) hbytes)
          rw [hr] at hx
          simp only [Result.ok.injEq] at hx
          intro g' hg'
          rw [hx.1] at hg'
          simp only [Value.ownBlock, Option.some.injEq] at hg'
          exact .inr (by omega)
    · rcases k1.2 with ⟨hv, _⟩ | ⟨g, cap', cur, hv, _⟩
      · exact ⟨_, _, _, hv⟩
      · exact ⟨_, _, _, hv⟩

/-- A slice as an operand: the constant nil is one. -/
def asSl {ty : Nat → Type} (e : Nat) (v : V ty) : Option (SlD ty) :=
  match v with
  | .inl (.inl (some (.inr s))) => if s.e == e then some s else none
  | .inl (.inl (some (.inl (.slice none 0 0)))) => some (ro e [])
  | _ => none

def castXs {ty : Nat → Type} (e : Nat) (s : SlD ty) : List (ty e) := if h : s.e = e then h ▸ s.xs else []

def evAppend {β : Type} (P : Program) (cx : Cx) (slots : List (V cx.ty)) (t : TypeId) (x y : Operand) (nm0 : Nat) (k : Eff cx.ty → Option β) : Option β :=
  match sliceElem P t with
  | some e => if cx.flat e && cx.dom e then
      match asSl e (getV slots y) with
      | some s2 => match getV slots x with
        | .inl (.inl (some (.inr s))) => if s.e == e && s.own == 1 && s.o then
            bif decide (s.xs.length + s2.xs.length ≤ 1000000000) then
              k { v := tokV nm0 e (castXs e s ++ castXs e s2), dead := [s.nm], frz := [], live := [s.nm], read := rdn s2 }
            else none
          else none
        | .inl (.inl (some (.inl (.slice none 0 0)))) => bif decide (s2.xs.length ≤ 1000000000) then k { v := tokV nm0 e (castXs e s2), dead := [], frz := [], live := [], read := rdn s2 } else none
        | _ => none
      | none => none
    else none
  | none => none

theorem repLS_ro {c : Ct cx.ty} {s : SlD cx.ty} {u : Value} (h1 : ¬ s.own = 1) (h : ∃ n, RepL cx c.w (Rd c) n (some (.inr s)) u) : RepLS cx c (some (.inr s)) u := by
  unfold RepLS
  simp only [h1, if_false]
  exact h

theorem cast_vals {e : Nat} {s : SlD cx.ty} (h : s.e = e) : flatVals cx e (castXs e s) = flatVals cx s.e s.xs ∧ (castXs e s).length = s.xs.length := by
  subst h
  simp [castXs]

theorem flatVals_append (e : Nat) (xs ys : List (cx.ty e)) : flatVals cx e (xs ++ ys) = flatVals cx e xs ++ flatVals cx e ys := by
  simp [flatVals, List.flatMap_append]

theorem asSl_rep {c : Ct cx.ty} {e : Nat} {v : V cx.ty} {s : SlD cx.ty} (h : asSl e v = some s) {u : Value} (hr : RepV cx c v u) : s.e = e ∧ RepLS cx c (some (.inr s)) u := by
  unfold asSl at h
  split at h
  · split at h
    · rename_i he
      simp only [Option.some.injEq] at h
      subst h
      exact ⟨by simpa using he, hr⟩
    · simp at h
  · simp only [Option.some.injEq] at h
    subst h
    have hr : u = .slice none 0 0 := hr
    subst hr
    exact ⟨rfl, repLS_ro (by simp [ro]) ⟨1, none, 0, rfl, Nat.le_refl _, .inl rfl⟩⟩
  · simp at h

theorem evAppend_ok (ok : cx.Ok) (hZ : cx.POk P) {β : Type} {o : Oper} {slots : List (V cx.ty)} {nm0 : Nat} {t : TypeId} {x y : Operand} (ho : o.op = .call { callee := .builtin .append, args := #[x, y], argTypes := #[t, t] }) {k : Eff cx.ty → Option β} {r : β}
    (h : evAppend P cx slots t x y nm0 k = some r) : ∃ ef, k ef = some r ∧ EffOK P cx o slots nm0 ef := by
  unfold evAppend at h
  split at h
  · rename_i e he
    split at h
    · rename_i hfd
      simp only [Bool.and_eq_true] at hfd
      obtain ⟨hflat, hdom⟩ := hfd
      obtain ⟨i, z, hi, hz, hsz, hby, hzs, hpos, henc⟩ := hZ.zero e hdom
      have hxm : x ∈ o.op.operands := by simp [ho, Op.operands, Call.operands]
      have hym : y ∈ o.op.operands := by simp [ho, Op.operands, Call.operands]
      have execEq : ∀ (ρ : Operand → Value) (w : World) v' w', (Builtin.append_ #[t, t] o.type #[ρ x, ρ y]).run P w = .ok v' w' → (execOp ρ o).run P w = .ok (.value v') w' := by
        intro ρ w v' w' hr
        unfold execOp
        simp only [ho, resolve, invoke, builtin, Sem.run_bind, Sem.run_pure, Result.andThen_ok, List.map_toArray, List.map_cons, List.map_nil, hr]
      split at h
      · rename_i s2 hy
        split at h
        · rename_i s hx
          split at h
          · rename_i hso
            simp only [Bool.and_eq_true, beq_iff_eq] at hso
            obtain ⟨⟨hse, hown1⟩, hso⟩ := hso
            cases hb : decide (s.xs.length + s2.xs.length ≤ 1000000000) with
            | false => rw [hb] at h; simp at h
            | true =>
              rw [hb] at h
              have hb : s.xs.length + s2.xs.length ≤ 1000000000 := by simpa using hb
              refine ⟨_, h, ⟨fun c ρ hw hop hlive hrd hf => ?_⟩⟩
              have hrx := hop x hxm; rw [hx] at hrx
              have hrx : RepLS cx c (some (.inr s)) (ρ x) := hrx
              obtain ⟨hs2e, hry⟩ := asSl_rep hy (hop y hym)
              obtain ⟨hnD, hnF⟩ := hlive s.nm (List.mem_singleton.2 rfl)
              unfold RepLS at hrx
              simp only [hown1, if_true, hnD, hnF, if_false] at hrx
              obtain ⟨_, tk, htk, hn, hc, hu⟩ := hrx
              have htr := hw.rep tk htk
              unfold TokRep at htr
              rw [hc] at htr
              simp only [hso, if_true] at htr
              obtain ⟨hvb, nn, htr⟩ := htr
              obtain ⟨hrow, hfp⟩ := flat_of_own ok (by rw [hse]; exact hflat) htr
              rw [← (cast_vals hse).1, ← (cast_vals hse).2, hse, hu] at hrow
              obtain ⟨a2, cap2, hu2, hcells⟩ := rep_cells ok hw (by rw [hs2e]; exact hflat) (by rw [hs2e]; exact hpos) hry hrd
              have hl2 : (flatVals cx e (castXs e s2)).length = s2.xs.length * cx.size e := by rw [flatVals_len ok hflat, (cast_vals hs2e).2]
              obtain ⟨v', w', hr, k1, k2, k3, k4⟩ := run_append_any (P := P) (w := c.w) (ty := o.type) (sliceElem_eq he) hi hz hsz hzs hpos hrow (a := a2) (m := s2.xs.length) (cap := cap2) (news := flatVals cx e (castXs e s2)) hl2 (by
                rcases hcells with hx0 | ⟨ad, ha, hc2⟩
                · exact .inl (by rw [hx0]; rfl)
                · exact .inr ⟨ad, ha, by rw [(cast_vals hs2e).1]; exact hc2⟩) (flatVals_one ok hflat _) (by rw [(cast_vals hse).2]; simp [maxLen]; omega) (by
                rw [(cast_vals hse).2]
                exact Nat.le_trans (Nat.mul_le_mul hb hby) (by omega))
              rw [← hu2] at hr
              unfold Runs
              rw [execEq ρ c.w v' w' hr]
              have hblk : ∀ g, (ρ x).ownBlock = some g ↔ g ∈ vb tk.u := fun g => by rw [hvb, hu]; cases (ρ x).ownBlock <;> simp [eq_comm]
              have hvb' : ∀ b, b ∈ vb v' → v'.ownBlock = some b := by
                intro b hb'
                obtain ⟨a, n, cc, rfl⟩ := k4
                cases a with
                | none => simp [vb] at hb'
                | some ad => simp [vb] at hb'; simp [Value.ownBlock, hb']
              rw [← flatVals_append] at k1
              refine ⟨_, good_repl hw hf (fun tk' ht' hn' => ?_) (fun n hn' => ?_) (s' := { own := 1, nm := nm0, e := e, o := true, xs := castXs e s ++ castXs e s2 }) ⟨rfl, rfl⟩ (fun b hb' => ?_) (fun b hb' hno => ?_) k2.size ⟨k2.os, k2.tape, k2.output, k2.size, fun k hk => k2.block k (Wf.lt cx hw hk) ?_⟩ (fun c' hcw => ?_) k4⟩
              · simp only [List.mem_singleton] at hn'
                have : tk' = tk := by
                  have hnd := hw.names
                  rcases Classical.em (tk' = tk) with h | h
                  · exact h
                  · exfalso
                    obtain ⟨l1, l2, hl⟩ := List.append_of_mem htk
                    rw [hl] at hnd ht'
                    rw [List.map_append, List.map_cons, List.nodup_append] at hnd
                    rcases List.mem_append.1 ht' with h3 | h3
                    · exact hnd.2.2 tk'.nm (List.mem_map.2 ⟨tk', h3, rfl⟩) tk.nm (List.mem_cons_self ..) (by rw [hn', hn])
                    · rcases List.mem_cons.1 h3 with h3 | h3
                      · exact h h3
                      · exact (List.nodup_cons.1 hnd.2.1).1 (List.mem_map.2 ⟨tk', h3, by rw [hn', hn]⟩)
                rw [this]
                exact ⟨s, hc⟩
              · simp only [List.mem_singleton] at hn'
                exact ⟨tk, htk, by rw [hn', hn]⟩
              · rcases k3 b (hvb' b hb') with hg | hg
                · exact .inl ⟨tk, htk, by simp [hn], (hblk b).1 hg⟩
                · refine .inr ⟨hg, ?_⟩
                  have := World.ownsRow.lt k1 b (hvb' b hb')
                  exact this.2
              · exact k2.block b hb' (fun hg => hno tk htk (by simp [hn]) ((hblk b).1 hg.symm))
              · intro hg
                have hbm := (hblk k).1 hg.symm
                exact hk (hw.bound tk htk k (List.mem_append.2 (.inl hbm))).1
              · subst hcw
                refine ⟨?_, 1, ?_⟩
                · obtain ⟨a, n, cc, rfl⟩ := k4
                  cases a <;> rfl
                · have hlen : (castXs e s ++ castXs e s2).length = (castXs e s).length + s2.xs.length := by rw [List.length_append, (cast_vals hs2e).2]
                  rw [← hlen] at k1
                  have := own_flat ok (s := { own := 1, nm := nm0, e := e, o := true, xs := castXs e s ++ castXs e s2 }) hflat k1
                  have hvv : vb v' ++ [] = v'.ownBlock.toList := by
                    obtain ⟨a, n, cc, rfl⟩ := k4
                    cases a <;> rfl
                  rw [hvv]
                  exact this
          · simp at h
        · rename_i hx
          cases hb : decide (s2.xs.length ≤ 1000000000) with
          | false => rw [hb] at h; simp at h
          | true =>
            rw [hb] at h
            have hb : s2.xs.length ≤ 1000000000 := by simpa using hb
            refine ⟨_, h, ⟨fun c ρ hw hop hlive hrd hf => ?_⟩⟩
            have hrx := hop x hxm; rw [hx] at hrx
            have hrx : ρ x = .slice none 0 0 := hrx
            obtain ⟨hs2e, hry⟩ := asSl_rep hy (hop y hym)
            obtain ⟨a2, cap2, hu2, hcells⟩ := rep_cells ok hw (by rw [hs2e]; exact hflat) (by rw [hs2e]; exact hpos) hry hrd
            have hl2 : (flatVals cx e (castXs e s2)).length = s2.xs.length * cx.size e := by rw [flatVals_len ok hflat, (cast_vals hs2e).2]
            obtain ⟨v', w', hr, k1, k2, k3, k4⟩ := run_append_any (P := P) (w := c.w) (ty := o.type) (sliceElem_eq he) hi hz hsz hzs hpos (World.ownsRow_nil c.w 0 e (cx.size e)) (a := a2) (m := s2.xs.length) (cap := cap2) (news := flatVals cx e (castXs e s2)) hl2 (by
              rcases hcells with hx0 | ⟨ad, ha, hc2⟩
              · exact .inl (by rw [hx0]; rfl)
              · exact .inr ⟨ad, ha, by rw [(cast_vals hs2e).1]; exact hc2⟩) (flatVals_one ok hflat _) (by simp [maxLen]; omega) (by
              rw [Nat.zero_add]
              exact Nat.le_trans (Nat.mul_le_mul hb hby) (by omega))
            rw [← hu2, ← hrx] at hr
            unfold Runs
            rw [execEq ρ c.w v' w' hr]
            have hvb' : ∀ b, b ∈ vb v' → v'.ownBlock = some b := by
              intro b hb'
              obtain ⟨a, n, cc, rfl⟩ := k4
              cases a with
              | none => simp [vb] at hb'
              | some ad => simp [vb] at hb'; simp [Value.ownBlock, hb']
            simp only [Nat.zero_add, List.nil_append] at k1
            refine ⟨_, good_repl hw hf (fun tk' ht' hn' => by simp at hn') (fun n hn' => by simp at hn') (s' := { own := 1, nm := nm0, e := e, o := true, xs := castXs e s2 }) ⟨rfl, rfl⟩ (fun b hb' => ?_) (fun b hb' hno => ?_) k2.size ⟨k2.os, k2.tape, k2.output, k2.size, fun k hk => k2.block k (Wf.lt cx hw hk) (by simp [Value.ownBlock])⟩ (fun c' hcw => ?_) k4⟩
            · rcases k3 b (hvb' b hb') with hg | hg
              · simp [Value.ownBlock] at hg
              · exact .inr ⟨hg, (World.ownsRow.lt k1 b (hvb' b hb')).2⟩
            · exact k2.block b hb' (by simp [Value.ownBlock])
            · subst hcw
              refine ⟨?_, 1, ?_⟩
              · obtain ⟨a, n, cc, rfl⟩ := k4
                cases a <;> rfl
              · rw [← (cast_vals hs2e).2] at k1
                have := own_flat ok (s := { own := 1, nm := nm0, e := e, o := true, xs := castXs e s2 }) hflat k1
                have hvv : vb v' ++ [] = v'.ownBlock.toList := by
                  obtain ⟨a, n, cc, rfl⟩ := k4
                  cases a <;> rfl
                rw [hvv]
                exact this
        · simp at h
      · simp at h
    · simp at h
  · simp at h

end
end Go.VM

namespace Go.VM
open Go.RowKit
section
variable {cx : Cx} {P : Program}

theorem filter_sub_nodup {T : List (Tk cx.ty)} (q : Tk cx.ty → Bool) (h : (T.flatMap fun tk => vb tk.u ++ tk.fp).Nodup) : ((T.filter q).flatMap fun tk => vb tk.u ++ tk.fp).Nodup := by
  have : ∀ T : List (Tk cx.ty), List.Sublist ((T.filter q).flatMap fun tk => vb tk.u ++ tk.fp) (T.flatMap fun tk => vb tk.u ++ tk.fp) := by
    intro T
    induction T with
    | nil => exact List.Sublist.refl _
    | cons x r ih =>
      rw [List.filter_cons]
      split
      · rw [List.flatMap_cons, List.flatMap_cons]; exact (List.Sublist.refl _).append ih
      · rw [List.flatMap_cons]; exact ih.trans (List.sublist_append_right _ _)
  exact (this T).nodup h

/-- Some slices are owned no more: they are read alone from now on. -/
theorem good_frz (ok : cx.Ok) {c : Ct cx.ty} (h : Wf cx c) {nm0 : Nat} {fn r : List Nat} (hfn : ∀ n ∈ fn, Nm c n) (hsl : ∀ tk ∈ c.T, tk.nm ∈ fn → ∃ s, tk.c = .inl s) {v : V cx.ty} {u : Value}
    (hv : ∀ c' : Ct cx.ty, c'.w = c.w → Pres cx c c' → (∀ tk ∈ c.T, tk.nm ∈ fn → ∀ b ∈ vb tk.u, Rd c' b) → RepV cx c' v u) :
    Good cx c { v := v, dead := [], frz := fn, live := [], read := r } nm0 u c.w (c.T.filter (fun tk => !fn.contains tk.nm)) := by
  have hmem : ∀ tk, tk ∈ c.T.filter (fun tk => !fn.contains tk.nm) ↔ tk ∈ c.T ∧ tk.nm ∉ fn := fun tk => by simp [List.mem_filter]
  have hrd0 : ∀ b, Rd c b → Rd (c.nx { v := v, dead := [], frz := fn, live := [], read := r } c.w (c.T.filter (fun tk => !fn.contains tk.nm))) b :=
    fun b hb => ⟨hb.1, hb.2.1, fun tk ht => hb.2.2 tk ((hmem tk).1 ht).1⟩
  have hblk : ∀ tk ∈ c.T, tk.nm ∈ fn → ∀ b ∈ vb tk.u, Rd (c.nx { v := v, dead := [], frz := fn, live := [], read := r } c.w (c.T.filter (fun tk => !fn.contains tk.nm))) b := by
    intro tk ht hn b hb
    have hbd := h.bound tk ht b (List.mem_append.2 (.inl hb))
    refine ⟨hbd.2, .inr hbd.1, fun t2 ht2 hb2 => ?_⟩
    obtain ⟨h1, h2⟩ := (hmem t2).1 ht2
    exact disjoint_toks h ht h1 (fun e => h2 (e ▸ hn)) (List.mem_append.2 (.inl hb)) (List.mem_append.2 (.inl hb2))
  have hpres : Pres cx c (c.nx { v := v, dead := [], frz := fn, live := [], read := r } c.w (c.T.filter (fun tk => !fn.contains tk.nm))) := by
    refine ⟨fun b hb => ⟨hrd0 b hb, rfl⟩, fun n hn => hn, fun n hn => List.mem_append.2 (.inr hn), fun tk ht _ hF => (hmem tk).2 ⟨ht, fun hd => hF (List.mem_append.2 (.inl hd))⟩, fun tk ht l hl => (hmem tk).2 ⟨ht, fun hd => ?_⟩, fun tk ht s hs _ hF => ?_⟩
    · obtain ⟨s, hs⟩ := hsl tk ht hd
      rw [hl] at hs
      cases hs
    · rcases List.mem_append.1 hF with hF | hF
      · exact tok_any ok h ht hs hrd0 (hblk tk ht hF)
      · exact absurd hF (h.live tk ht).2
  refine ⟨⟨(List.Sublist.map _ List.filter_sublist).nodup h.names, filter_sub_nodup _ h.nodup, fun tk ht => h.bound tk ((hmem tk).1 ht).1, fun tk ht => ?_, h.start, fun tk ht => ?_, h.size⟩, hpres, hv _ rfl hpres hblk, Kept.refl _ _, fun n hn => ?_⟩
  · exact TokRep.pres cx hpres (fun _ _ => rfl) (h.rep tk ((hmem tk).1 ht).1)
  · obtain ⟨h1, h2⟩ := (hmem tk).1 ht
    refine ⟨(h.live tk h1).1, fun hF => ?_⟩
    rcases List.mem_append.1 hF with hF | hF
    · exact h2 hF
    · exact (h.live tk h1).2 hF
  · rcases hn with ⟨tk, ht, rfl⟩ | hn | hn
    · exact .inl (.inl ⟨tk, ((hmem tk).1 ht).1, rfl⟩)
    · exact .inl (.inr (.inl hn))
    · rcases List.mem_append.1 hn with hn | hn
      · exact .inl (hfn n hn)
      · exact .inl (.inr (.inr hn))

def getI {ty : Nat → Type} (slots : List (V ty)) (x : Option Operand) (d : Int) : Option Int :=
  match x with
  | none => some d
  | some x => match getV slots x with
    | .inl (.inl (some (.inl (.int _ i)))) => some i
    | _ => none

def evSlice {β : Type} (P : Program) (cx : Cx) (slots : List (V cx.ty)) (t : TypeId) (x : Operand) (lo hi mx : Option Operand) (k : Eff cx.ty → Option β) : Option β :=
  match mx, getV slots x, getI slots lo 0 with
  | none, .inl (.inl (some (.inr s))), some l => match getI slots hi s.xs.length, sliceElem P t with
    | some h, some e => if e == s.e && elemOk P cx e then
        bif decide (0 ≤ l) && decide (l ≤ h) && decide (h ≤ s.xs.length) then
          k { v := vs (ro s.e ((s.xs.take h.toNat).drop l.toNat)), dead := [], frz := rdn s, live := [], read := rdn s }
        else none
      else none
    | _, _ => none
  | none, .inl (.inl (some (.inl (.string str)))), some l => match getI slots hi str.size, P.underlying t with
    | some h, some .string => bif decide (0 ≤ l) && decide (l ≤ h) && decide (h ≤ str.size) then k (purR (vv (.string (str.extract l.toNat h.toNat))) []) else none
    | _, _ => none
  | _, _, _ => none

theorem getI_run {c : Ct cx.ty} {slots : List (V cx.ty)} {ρ : Operand → Value} {x : Option Operand} {d i : Int} (h : getI slots x d = some i) (hr : ∀ y, x = some y → RepV cx c (getV slots y) (ρ y)) : (x = none ∧ i = d) ∨ ∃ y k, x = some y ∧ ρ y = .int k i := by
  cases x with
  | none => simp only [getI, Option.some.injEq] at h; exact .inl ⟨rfl, h.symm⟩
  | some y =>
    simp only [getI] at h
    split at h
    · rename_i k j hy
      simp only [Option.some.injEq] at h
      subst h
      have := hr y rfl
      rw [hy] at this
      exact .inr ⟨y, k, rfl, this⟩
    · simp at h

theorem run_bounds {w : World} {isS : Bool} {len cap : Nat} {lo hi : Option Value} {l h : Int} (hl : (lo = none ∧ l = 0) ∨ ∃ k, lo = some (.int k l)) (hh : (hi = none ∧ h = len) ∨ ∃ k, hi = some (.int k h)) (h0 : 0 ≤ l) (h1 : l ≤ h) (h2 : h ≤ cap) :
    (Instr.sliceBounds isS len cap lo hi none).run P w = .ok (l.toNat, h.toNat, cap) w := by
  have hb : ∀ (k : IntKind) (j : Int) (y : Nat) code, 0 ≤ j → j ≤ y → (Instr.sliceBound (.int k j) y code).run P w = .ok j.toNat w := by
    intro k j y code a1 a2
    simp [Instr.sliceBound, asIntOf, a1, a2]
  unfold Instr.sliceBounds
  have hle : l ≤ (h.toNat : Int) := by omega
  rcases hh with ⟨rfl, rfl⟩ | ⟨k, rfl⟩ <;> rcases hl with ⟨rfl, rfl⟩ | ⟨k', rfl⟩
  · simp
  · simp only [Sem.run_bind, Sem.run_pure, Result.andThen_ok]
    rw [hb _ _ _ _ h0 (by omega)]
    simp
  · simp only [Sem.run_bind, Sem.run_pure, Result.andThen_ok]
    rw [hb _ _ _ _ (by omega) h2]
    simp
  · simp only [Sem.run_bind, Sem.run_pure, Result.andThen_ok]
    rw [hb _ _ _ _ (by omega) h2]
    simp only [Result.andThen_ok]
    rw [hb _ _ _ _ h0 hle]
    simp

theorem RepL_sub {w : World} {S : Nat → Prop} {n : Nat} {s : SlD cx.ty} {a : Option Addr} {k cap : Nat} (h : RepL cx w S n (some (.inr s)) (.slice a k cap)) {l hh : Nat} (h1 : l ≤ hh) (h2 : hh ≤ s.xs.length) :
    ∃ m, RepL cx w S m (some (.inr (ro s.e ((s.xs.take hh).drop l)))) (.slice (if cap = l then a else a.map (·.add (l * cx.size s.e))) (hh - l) (cap - l)) := by
  cases n with
  | zero => simp [RepL] at h
  | succ n =>
    obtain ⟨a', cap', hu, hcap, hcase⟩ := h
    simp only [Value.slice.injEq] at hu
    obtain ⟨rfl, rfl, rfl⟩ := hu
    have hlen : ((s.xs.take hh).drop l).length = hh - l := by simp; omega
    refine ⟨n + 1, _, cap - l, by rw [show (ro s.e ((s.xs.take hh).drop l)).xs.length = hh - l from hlen], by rw [show (ro s.e ((s.xs.take hh).drop l)).xs.length = hh - l from hlen]; omega, ?_⟩
    by_cases hlt : l < hh
    · rcases hcase with hx | ⟨b, off, rfl, hS, hc⟩
      · exact .inl (by simp [ro, hx])
      · have hne : ¬ cap = l := by omega
        refine .inr ⟨b, off + l * cx.size s.e, by simp [hne, Addr.add_lit], hS, fun i x hx j y hy => ?_⟩
        have hx1 : ((s.xs.take hh).drop l)[i]? = some x := hx
        rw [List.getElem?_drop, List.getElem?_take] at hx1
        split at hx1
        · obtain ⟨v, hv, hr⟩ := hc (l + i) x hx1 j y hy
          refine ⟨v, ?_, hr⟩
          rw [← hv]
          have : off + l * cx.size s.e + (i * cx.size (ro s.e ((s.xs.take hh).drop l)).e + j) = off + ((l + i) * cx.size s.e + j) := by
            show off + l * cx.size s.e + (i * cx.size s.e + j) = _
            rw [Nat.add_mul]; omega
          rw [this]
        · simp at hx1
    · refine .inl (List.eq_nil_of_length_eq_zero ?_)
      show ((s.xs.take hh).drop l).length = 0
      omega

theorem evSlice_ok (ok : cx.Ok) {β : Type} {o : Oper} {slots : List (V cx.ty)} {nm0 : Nat} {t : TypeId} {x : Operand} {lo hi mx : Option Operand} (ho : o.op = .slice t x lo hi mx) {k : Eff cx.ty → Option β} {r : β}
    (h : evSlice P cx slots t x lo hi mx k = some r) : ∃ ef, k ef = some r ∧ EffOK P cx o slots nm0 ef := by
  have hxm : x ∈ o.op.operands := by simp [ho, Op.operands]
  have hlm : ∀ y, lo = some y → y ∈ o.op.operands := fun y hy => by simp [ho, Op.operands, hy]
  have hhm : ∀ y, hi = some y → y ∈ o.op.operands := fun y hy => by simp [ho, Op.operands, hy]
  unfold evSlice at h
  split at h
  · rename_i s l hx hl
    split at h
    · rename_i hh e hhi he
      split at h
      · rename_i hc
        simp only [Bool.and_eq_true, beq_iff_eq] at hc
        obtain ⟨rfl, hel⟩ := hc
        obtain ⟨⟨d, hd⟩, hsz⟩ := elemOk_spec hel
        cases hb : (decide (0 ≤ l) && decide (l ≤ hh) && decide (hh ≤ s.xs.length)) with
        | false => rw [hb] at h; simp at h
        | true =>
          rw [hb] at h
          simp only [Bool.and_eq_true, decide_eq_true_eq] at hb
          obtain ⟨⟨h0, h1⟩, h2⟩ := hb
          refine ⟨_, h, ⟨fun c ρ hw hop _ hrd hf => ?_⟩⟩
          have hrx := hop x hxm; rw [hx] at hrx
          have hrx : RepLS cx c (some (.inr s)) (ρ x) := hrx
          have hlo := getI_run hl (fun y hy => hop y (hlm y hy))
          have hhi' := getI_run hhi (fun y hy => hop y (hhm y hy))
          have run : ∀ (a : Option Addr) (n cap : Nat), n = s.xs.length → s.xs.length ≤ cap → ρ x = .slice a n cap →
              (execOp ρ o).run P c.w = .ok (.value (.slice (if cap = l.toNat then a else a.map (·.add (l.toNat * cx.size s.e))) (hh.toNat - l.toNat) (cap - l.toNat))) c.w := by
            intro a n cap hn hcap hu
            have hbds := run_bounds (P := P) (w := c.w) (isS := true) (len := n) (cap := cap) (lo := lo.map ρ) (hi := hi.map ρ) (l := l) (h := hh) (by
              rcases hlo with ⟨a1, a2⟩ | ⟨y, kk, a1, a2⟩
              · exact .inl ⟨by rw [a1]; rfl, a2⟩
              · exact .inr ⟨kk, by rw [a1, Option.map_some, a2]⟩) (by
              rcases hhi' with ⟨a1, a2⟩ | ⟨y, kk, a1, a2⟩
              · exact .inl ⟨by rw [a1]; rfl, by rw [a2, hn]⟩
              · exact .inr ⟨kk, by rw [a1, Option.map_some, a2]⟩) h0 h1 (by omega)
            have hmx : (none : Option Operand).map ρ = none := rfl
            unfold execOp
            simp only [ho, Instr.sliceAt, Instr.slice, Sem.run_bind, run_underlying (sliceElem_eq he), Result.andThen_ok, hu, hmx, hbds, run_sizeOf' hd, hsz, Sem.run_pure]
          unfold RepLS at hrx
          by_cases h4 : s.own = 1
          · have hrn : rdn s = [s.nm] := by simp [rdn, h4]
            have h5 : s.nm ∉ c.D := hrd _ (by simp [hrn])
            simp only [h4, if_true, h5, if_false] at hrx
            obtain ⟨_, hrx⟩ := hrx
            unfold Runs
            by_cases h6 : s.nm ∈ c.F
            · simp only [h6, if_true] at hrx
              obtain ⟨n, hrx⟩ := hrx
              have hrx' := hrx
              cases n with
              | zero => simp [RepL] at hrx
              | succ n =>
                obtain ⟨a, cap, hu, hcap, _⟩ := hrx
                rw [run a _ cap rfl hcap hu]
                rw [hu] at hrx'
                obtain ⟨m, hm⟩ := RepL_sub hrx' (l := l.toNat) (hh := hh.toNat) (by omega) (by omega)
                refine ⟨_, good_frz ok hw (fun n hn => ?_) (fun tk ht hn => ?_) (fun c' hcw hp hbl => ?_)⟩
                · rw [hrn] at hn
                  simp only [List.mem_singleton] at hn
                  rw [hn]; exact .inr (.inr h6)
                · rw [hrn] at hn
                  simp only [List.mem_singleton] at hn
                  exact absurd (hn ▸ h6) (hw.live tk ht).2
                · exact (show RepLS cx c' (some (.inr _)) _ from repLS_ro (by simp [ro]) ⟨m, RepL.pres cx hp hm⟩)
            · simp only [h6, if_false] at hrx
              obtain ⟨tk, ht, hn, hcc, hu⟩ := hrx
              have hcapx : ∃ a cap, ρ x = .slice a s.xs.length cap ∧ s.xs.length ≤ cap := by
                rcases tok_el ok hw ht hcc with ⟨a1, a2⟩ | ⟨g, cap, a1, a2, _⟩
                · exact ⟨none, 0, by rw [← hu, a1, a2]; rfl, by rw [a2]; exact Nat.le_refl _⟩
                · exact ⟨_, cap, by rw [← hu, a1], a2⟩
              obtain ⟨a, cap, hua, hcap⟩ := hcapx
              rw [run a _ cap rfl hcap hua]
              have huniq : ∀ t2 ∈ c.T, t2.nm = s.nm → t2 = tk := by
                intro t2 ht2 hn2
                have hnd := hw.names
                rcases Classical.em (t2 = tk) with h | h
                · exact h
                · exfalso
                  obtain ⟨l1, l2, hl⟩ := List.append_of_mem ht
                  rw [hl] at hnd ht2
                  rw [List.map_append, List.map_cons, List.nodup_append] at hnd
                  rcases List.mem_append.1 ht2 with h3 | h3
                  · exact hnd.2.2 t2.nm (List.mem_map.2 ⟨t2, h3, rfl⟩) tk.nm (List.mem_cons_self ..) (by rw [hn2, hn])
                  · rcases List.mem_cons.1 h3 with h3 | h3
                    · exact h h3
                    · exact (List.nodup_cons.1 hnd.2.1).1 (List.mem_map.2 ⟨t2, h3, by rw [hn2, hn]⟩)
              refine ⟨_, good_frz ok hw (fun n hn' => ?_) (fun t2 ht2 hn2 => ?_) (fun c' hcw hp hbl => ?_)⟩
              · rw [hrn] at hn'
                simp only [List.mem_singleton] at hn'
                rw [hn']; exact .inl ⟨tk, ht, hn⟩
              · rw [hrn] at hn2
                simp only [List.mem_singleton] at hn2
                rw [huniq t2 ht2 hn2]
                exact ⟨s, hcc⟩
              · obtain ⟨n, hrx'⟩ := tok_any ok hw ht hcc (S := Rd c') (fun b hb => (hp.rd b hb).1) (hbl tk ht (by rw [hrn, hn]; exact List.mem_singleton.2 rfl))
                rw [hu, hua] at hrx'
                obtain ⟨m, hm⟩ := RepL_sub hrx' (l := l.toNat) (hh := hh.toNat) (by omega) (by omega)
                rw [← hcw] at hm
                exact (show RepLS cx c' (some (.inr _)) _ from repLS_ro (by simp [ro]) ⟨m, hm⟩)
          · have hrn : rdn s = [] := by simp [rdn, h4]
            simp only [h4, if_false] at hrx
            obtain ⟨n, hrx⟩ := hrx
            have hrx' := hrx
            cases n with
            | zero => simp [RepL] at hrx
            | succ n =>
              obtain ⟨a, cap, hu, hcap, _⟩ := hrx
              unfold Runs
              rw [run a _ cap rfl hcap hu]
              rw [hu] at hrx'
              obtain ⟨m, hm⟩ := RepL_sub hrx' (l := l.toNat) (hh := hh.toNat) (by omega) (by omega)
              rw [hrn]
              refine ⟨_, good_frz ok hw (fun n hn => by simp at hn) (fun tk ht hn => by simp at hn) (fun c' hcw hp hbl => ?_)⟩
              exact (show RepLS cx c' (some (.inr _)) _ from repLS_ro (by simp [ro]) ⟨m, RepL.pres cx hp hm⟩)
      · simp at h
    · simp at h
  · rename_i str l hx hl
    split at h
    · rename_i hh hhi he
      cases hb : (decide (0 ≤ l) && decide (l ≤ hh) && decide (hh ≤ str.size)) with
      | false => rw [hb] at h; simp at h
      | true =>
        rw [hb] at h
        simp only [Bool.and_eq_true, decide_eq_true_eq] at hb
        obtain ⟨⟨h0, h1⟩, h2⟩ := hb
        refine ⟨_, h, effok_pur fun c ρ hw hop _ => ?_⟩
        have hrx := hop x hxm; rw [hx] at hrx
        have hrx : ρ x = .string str := hrx
        have hlo := getI_run hl (fun y hy => hop y (hlm y hy))
        have hhi' := getI_run hhi (fun y hy => hop y (hhm y hy))
        have hbds := run_bounds (P := P) (w := c.w) (isS := false) (len := str.size) (cap := str.size) (lo := lo.map ρ) (hi := hi.map ρ) (l := l) (h := hh) (by
          rcases hlo with ⟨a1, a2⟩ | ⟨y, kk, a1, a2⟩
          · exact .inl ⟨by rw [a1]; rfl, a2⟩
          · exact .inr ⟨kk, by rw [a1, Option.map_some, a2]⟩) (by
          rcases hhi' with ⟨a1, a2⟩ | ⟨y, kk, a1, a2⟩
          · exact .inl ⟨by rw [a1]; rfl, a2⟩
          · exact .inr ⟨kk, by rw [a1, Option.map_some, a2]⟩) h0 h1 h2
        refine ⟨_, ?_, rfl⟩
        have hmx : (none : Option Operand).map ρ = none := rfl
        unfold execOp
        simp only [ho, Instr.sliceAt, Instr.slice, Sem.run_bind, run_underlying he, Result.andThen_ok, hrx, hmx, hbds, Sem.run_pure, Option.isSome_none, Bool.false_eq_true, if_false]
    · simp at h
  · simp at h

end
end Go.VM

namespace Go.VM
open Go.RowKit
section
variable {cx : Cx} {P : Program}

/-! ### States, and operations one behind the other -/
structure St (ty : Nat → Type) where
  slots : List (V ty)
  D : List Nat
  F : List Nat
  ctr : Nat
  lo : Nat := 0
  /-- What the first things handed stand for, where they are not written. -/
  ps : List (Nat × (A ty ⊕ SlD ty)) := []
  /-- A piece that has been read out of a row of rows, to be handed on: the place that it came from. -/
  pend : Option (Nat × Pt ty) := none

/-- What was lent stands for what it stood for. -/
def PsO (cx : Cx) (w : World) (S : Nat → Prop) (a : A cx.ty ⊕ SlD cx.ty) (u : Value) : Prop := match a with
  | .inl a => ArgA cx w S a u
  | .inr s => PtS cx w S s u
def PrOK (cx : Cx) (c : Ct cx.ty) (ps : List (Nat × (A cx.ty ⊕ SlD cx.ty))) : Prop := ∀ p a, (p, a) ∈ ps → ∃ u, (p, u) ∈ c.K ∧ PsO cx c.w c.S a u

theorem PrOK.nil {c : Ct cx.ty} : PrOK cx c [] := fun p a h => by simp at h

theorem PsO.mono {w w' : World} {S S' : Nat → Prop} (hS : ∀ b, S b → S' b) (hw : ∀ b, S b → w'.heap[b]? = w.heap[b]?) {a : A cx.ty ⊕ SlD cx.ty} {u : Value} (h : PsO cx w S a u) : PsO cx w' S' a u := by
  match a, h with
  | .inl a, h => exact ArgA.mono hS hw h
  | .inr s, h => exact PtS.mono hS hw h

theorem PrOK.keep {c c' : Ct cx.ty} {ps : List (Nat × (A cx.ty ⊕ SlD cx.ty))} (h : PrOK cx c ps) (hS : c'.S = c.S) (hK : c'.K = c.K) (hw : ∀ b, c.S b → c'.w.heap[b]? = c.w.heap[b]?) : PrOK cx c' ps := fun p a hp => by
  obtain ⟨u, h1, h2⟩ := h p a hp
  exact ⟨u, by rw [hK]; exact h1, by rw [hS]; exact PsO.mono (fun _ h => h) hw h2⟩

theorem Wf.rdS {c : Ct cx.ty} (hw : Wf cx c) {b : Nat} (hS : c.S b) : Rd c b :=
  ⟨hw.lt cx (hw.start b hS), .inl hS, fun tk ht hv => hw.start b hS (hw.bound tk ht b (List.mem_append.2 (.inl hv))).1⟩

def PdOK (cx : Cx) (c : Ct cx.ty) (a : Act) (q : Option (Nat × Pt cx.ty)) : Prop := ∀ d p, q = some (d, p) → p.nm ∉ c.D ∧ p.nm ∉ c.F ∧ ∃ tk ∈ c.T, tk.nm = p.nm ∧ tk.c = .inl p.s ∧ p.i < p.s.xs.length ∧
  ∃ g n cap, tk.u = .slice (some ⟨g, 0, none⟩) n cap ∧ c.w.cell? ⟨g, p.i * cx.size p.s.e + p.off, none⟩ = some (a.tmps.getD d undef)
theorem PdOK.none {c : Ct cx.ty} {a : Act} : PdOK cx c a .none := fun _ _ h => by cases h

structure RS (cx : Cx) (c : Ct cx.ty) (st : St cx.ty) (a : Act) : Prop where
  wf : Wf cx c
  size : a.tmps.size = st.slots.length
  rep : ∀ t, RepV cx c (st.slots.getD t junk) (a.tmps.getD t undef)
  defers : a.defers = []
  dead : ∀ n, n ∈ c.D ↔ n ∈ st.D
  frz : ∀ n, n ∈ c.F ↔ n ∈ st.F
  names : ∀ n, Nm c n → n < st.ctr * 65536
  kp : ∀ p u, (p, u) ∈ c.K → p < st.lo ∧ a.tmps.getD p undef = u
  pr : PrOK cx c st.ps
  pd : PdOK cx c a st.pend

def nmOf (ctr : Nat) (d : Option Nat) : Nat := ctr * 65536 + (match d with | some d => d | none => 1000) * 64

def setO {ty : Nat → Type} (slots : List (V ty)) (d : Option Tmp) (v : V ty) : List (V ty) :=
  match d with
  | some d => slots.set d v
  | none => slots

def chk {ty : Nat → Type} (st : St ty) (ef : Eff ty) : Bool :=
  ef.live.all (fun n => !st.D.contains n && !st.F.contains n) && ef.read.all (fun n => !st.D.contains n)

def St.app {ty : Nat → Type} (st : St ty) (d : Option Tmp) (ef : Eff ty) : St ty :=
  { slots := setO st.slots d ef.v, D := ef.dead ++ st.D, F := ef.frz ++ st.F, ctr := st.ctr + 1, lo := st.lo, ps := st.ps }

/-- The first slots are not written. -/
def loO (lo : Nat) (d : Option Nat) : Bool := match d with | some d => decide (lo ≤ d) | none => true

theorem put_lo {a : Act} {lo : Nat} {d : Option Nat} (h : loO lo d = true) (u : Value) {p : Nat} (hp : p < lo) : (a.put d u).tmps.getD p undef = a.tmps.getD p undef := by
  cases d with
  | none => rfl
  | some d =>
    have h : lo ≤ d := by simpa [loO] using h
    have hd : d ≠ p := by omega
    simp [Act.put, Array.getElem?_setIfInBounds_ne hd]

def smallO (d : Option Nat) : Bool := match d with | some d => decide (d < 1000) | none => true

theorem eval_rep {c : Ct cx.ty} {slots : List (V cx.ty)} {a : Act} (h : ∀ t, RepV cx c (slots.getD t junk) (a.tmps.getD t undef)) (x : Operand) : RepV cx c (getV slots x) (a.eval x) := by
  cases x with
  | tmp t => exact h t
  | const v => exact rfl
  | global g => trivial
  | func f => exact rfl

theorem put_rep {c : Ct cx.ty} {slots : List (V cx.ty)} {a : Act} (hs : a.tmps.size = slots.length) (h : ∀ t, RepV cx c (slots.getD t junk) (a.tmps.getD t undef)) (d : Option Tmp) {v : V cx.ty} {u : Value} (hv : RepV cx c v u) :
    ∀ t, RepV cx c ((setO slots d v).getD t junk) ((a.put d u).tmps.getD t undef) := by
  intro t
  cases d with
  | none => exact h t
  | some d =>
    by_cases hd : d = t
    · subst hd
      by_cases hl : d < slots.length
      · have e1 : (setO slots (some d) v).getD d junk = v := by simp [setO, List.getD, hl]
        have e2 : (a.put (some d) u).tmps.getD d undef = u := by simp [Act.put, hs, hl]
        rw [e1, e2]; exact hv
      · have e1 : (setO slots (some d) v).getD d junk = junk := by simp [setO, List.getD, Nat.le_of_not_lt hl]
        rw [e1]; trivial
    · have e1 : (setO slots (some d) v).getD t junk = slots.getD t junk := by simp [setO, List.getD, List.getElem?_set_ne hd]
      have e2 : (a.put (some d) u).tmps.getD t undef = a.tmps.getD t undef := by simp [Act.put, Array.getElem?_setIfInBounds_ne hd]
      rw [e1, e2]; exact h t

theorem put_size {a : Act} {slots : List (V cx.ty)} (hs : a.tmps.size = slots.length) (d : Option Tmp) (v : V cx.ty) (u : Value) : (a.put d u).tmps.size = (setO slots d v).length := by
  cases d <;> simp [Act.put, setO, hs]

theorem put_defers (a : Act) (d : Option Tmp) (u : Value) : (a.put d u).defers = a.defers := by cases d <;> rfl

theorem band_lt {ctr : Nat} {d : Option Nat} (hd : smallO d = true) {n : Nat} (h : nmOf ctr d ≤ n ∧ n < nmOf ctr d + 64) : n < (ctr + 1) * 65536 := by
  unfold nmOf at h
  cases d with
  | none => simp only at h; omega
  | some d =>
    have hd : d < 1000 := by simpa [smallO] using hd
    simp only at h
    omega

/-- The state behind an operation that has been carried out. -/
theorem RS.app {c : Ct cx.ty} {st : St cx.ty} {a : Act} (h : RS cx c st a) {d : Option Tmp} (hd : smallO d = true) (hlo : loO st.lo d = true) {ef : Eff cx.ty} {u : Value} {w' : World} {T' : List (Tk cx.ty)} (hg : Good cx c ef (nmOf st.ctr d) u w' T') :
    RS cx (c.nx ef w' T') (st.app d ef) (a.put d u) := by
  refine ⟨hg.wf, put_size h.size d ef.v u, ?_, by rw [put_defers]; exact h.defers, fun n => ?_, fun n => ?_, fun n hn => ?_, fun p u' hp => ⟨(h.kp p u' hp).1, (put_lo hlo u (h.kp p u' hp).1).trans (h.kp p u' hp).2⟩, h.pr.keep rfl rfl (fun b hb => (hg.pres.rd b (h.wf.rdS hb)).2), PdOK.none⟩
  · exact put_rep h.size (fun t => RepV.pres cx hg.pres (h.rep t)) d hg.rep
  · simp [Ct.nx, St.app, h.dead n]
  · simp [Ct.nx, St.app, h.frz n]
  · rcases hg.names n hn with hn | hn
    · exact Nat.lt_of_lt_of_le (h.names n hn) (Nat.mul_le_mul_right _ (Nat.le_succ _))
    · exact band_lt hd hn

theorem RS.fresh {c : Ct cx.ty} {st : St cx.ty} {a : Act} (h : RS cx c st a) (d : Option Tmp) : ∀ n, Nm c n → ¬ (nmOf st.ctr d ≤ n ∧ n < nmOf st.ctr d + 64) := by
  intro n hn hb
  have := h.names n hn
  unfold nmOf at hb
  omega

theorem chk_spec {c : Ct cx.ty} {st : St cx.ty} {a : Act} (h : RS cx c st a) {ef : Eff cx.ty} (hc : chk st ef = true) : (∀ n ∈ ef.live, n ∉ c.D ∧ n ∉ c.F) ∧ ∀ n ∈ ef.read, n ∉ c.D := by
  simp only [chk, Bool.and_eq_true, List.all_eq_true] at hc
  refine ⟨fun n hn => ?_, fun n hn => ?_⟩
  · have := hc.1 n hn
    rw [h.dead, h.frz]
    simpa using this
  · have := hc.2 n hn
    rw [h.dead]
    simpa using this

theorem Oper.wp_of_runs {o : Oper} {a : Act} {w : World} {next : Act → World → Prop} {Q : Exit → Act → World → Prop} (h : Runs P o a.eval w (fun u w' => next (a.put o.dst u) w')) : o.wp P a w next Q := by
  unfold Oper.wp
  unfold Runs at h
  generalize (execOp a.eval o).run P w = r at h
  cases r with
  | ok n w' =>
    cases n <;> first | exact h | exact h.elim | skip
    case enter f args =>
      refine h.mono fun e w'' ⟨v, he, hn⟩ => ?_
      subst he
      exact hn
  | halt x w' => exact h.elim

theorem Runs.mono {o : Oper} {ρ : Operand → Value} {w : World} {K K' : Value → World → Prop} (h : Runs P o ρ w K) (hk : ∀ u w', K u w' → K' u w') : Runs P o ρ w K' := by
  unfold Runs at h ⊢
  generalize (execOp ρ o).run P w = r at h
  cases r with
  | ok n w' =>
    cases n <;> first | exact hk _ _ h | exact h.elim | skip
    case enter f args => exact h.mono fun e w'' ⟨v, he, hn⟩ => ⟨v, he, hk _ _ hn⟩
  | halt x w' => exact h.elim

end
end Go.VM
namespace Go.VM
open Go.RowKit
section
variable {cx : Cx} {P : Program}

/-! ### Stores -/
/-- From one state of the table to another, where the things named in 'X' may have turned. -/
structure PresX (X : Nat → Prop) (c c' : Ct cx.ty) : Prop where
  rd : ∀ b, Rd c b → Rd c' b ∧ c'.w.heap[b]? = c.w.heap[b]?
  dead : c'.D = c.D
  frz : c'.F = c.F
  tok : ∀ tk ∈ c.T, ¬ X tk.nm → ∀ s, tk.c = .inl s → tk ∈ c'.T
  box : ∀ tk ∈ c.T, ¬ X tk.nm → ∀ l, tk.c = .inr l → ∃ tk' ∈ c'.T, tk'.nm = tk.nm ∧ tk'.u = tk.u ∧ tk'.c = .inr l

def touchL {ty : Nat → Type} (X : Nat → Prop) : L ty → Prop
  | some (.inr s) => s.own = 1 ∧ X s.nm
  | _ => False

theorem RepLS.presX {X : Nat → Prop} {c c' : Ct cx.ty} (h : PresX X c c') {l : L cx.ty} {u : Value} (ht : ¬ touchL X l) (hr : RepLS cx c l u) : RepLS cx c' l u := by
  have up : ∀ {n : Nat} {l : L cx.ty} {u : Value}, RepL cx c.w (Rd c) n l u → RepL cx c'.w (Rd c') n l u := fun hr => RepL_mono cx (fun b hb => (h.rd b hb).2) (fun b hb => (h.rd b hb).1) _ _ _ hr
  match l, hr with
  | none, _ => trivial
  | some (.inl v), hr => exact hr
  | some (.inr s), hr =>
    unfold RepLS at hr ⊢
    by_cases h1 : s.own = 1
    · have hX : ¬ X s.nm := fun hx => ht ⟨h1, hx⟩
      simp only [h1, if_true, h.dead, h.frz] at hr ⊢
      obtain ⟨hsl, hr⟩ := hr
      refine ⟨hsl, ?_⟩
      split at hr
      · rename_i hd; rw [if_pos hd]; trivial
      · rename_i hd
        rw [if_neg hd]
        split at hr
        · rename_i hf
          rw [if_pos hf]
          obtain ⟨n, hr⟩ := hr
          exact ⟨n, up hr⟩
        · rename_i hf
          rw [if_neg hf]
          obtain ⟨tk, k1, k2, k3, k4⟩ := hr
          exact ⟨tk, h.tok tk k1 (by rw [k2]; exact hX) s k3, k2, k3, k4⟩
    · simp only [h1, if_false] at hr ⊢
      obtain ⟨n, hr⟩ := hr
      exact ⟨n, up hr⟩

/-- A box that is stored into: its cells as they are then, wherever it is met. -/
def updB {ty : Nat → Type} (nm : Nat) (cells : List (L ty)) (v : V ty) : V ty :=
  match v with
  | .inr (.inr p) => if p.kind == 0 && p.nm == nm then .inr (.inr { p with cells := cells }) else .inr (.inr p)
  | v => v

theorem repLS_box {nm : Nat} {c c' : Ct cx.ty} (h : PresX (fun n => n = nm) c c') (hib : ∀ tk ∈ c.T, tk.nm = nm → ∃ l, tk.c = .inr l) {l : L cx.ty} {u : Value} (hl : RepLS cx c l u) : RepLS cx c' l u := by
  by_cases ht : touchL (fun n => n = nm) l
  · match l, hl, ht with
    | some (.inr s), hl, ⟨h1, h2⟩ =>
      unfold RepLS at hl ⊢
      simp only [h1, if_true, h.dead, h.frz] at hl ⊢
      obtain ⟨hsl, hl⟩ := hl
      refine ⟨hsl, ?_⟩
      split at hl
      · rename_i hd; rw [if_pos hd]; trivial
      · rename_i hd
        rw [if_neg hd]
        split at hl
        · rename_i hf
          rw [if_pos hf]
          obtain ⟨n, hr⟩ := hl
          exact ⟨n, RepL_mono cx (fun b hb => (h.rd b hb).2) (fun b hb => (h.rd b hb).1) _ _ _ hr⟩
        · obtain ⟨tk, k1, k2, k3, _⟩ := hl
          obtain ⟨l, hl⟩ := hib tk k1 (by rw [k2]; exact h2)
          rw [k3] at hl
          cases hl
  · exact hl.presX h ht

theorem updB_rep {nm : Nat} {cells : List (L cx.ty)} {c c' : Ct cx.ty} (h : PresX (fun n => n = nm) c c') (hbox : ∀ tk ∈ c.T, tk.nm = nm → ∃ tk' ∈ c'.T, tk'.nm = nm ∧ tk'.u = tk.u ∧ tk'.c = .inr cells) (hib : ∀ tk ∈ c.T, tk.nm = nm → ∃ l, tk.c = .inr l)
    {v : V cx.ty} {u : Value} (hr : RepV cx c v u) : RepV cx c' (updB nm cells v) u := by
  have leaf : ∀ {l : L cx.ty} {u : Value}, RepLS cx c l u → RepLS cx c' l u := fun hl => repLS_box h hib hl
  have agg : ∀ {a : A cx.ty} {u : Value}, RepA cx c a u → RepA cx c' a u := by
    intro a u ha
    match a, ha with
    | .inl l, ha => exact leaf ha
    | .inr l, ⟨us, hu, h1, h2⟩ => exact ⟨us, hu, h1, fun j a b e1 e2 => leaf (h2 j a b e1 e2)⟩
  have el : ∀ {s : SlD cx.ty} {i b o : Nat}, RepEl cx c s i b o → RepEl cx c' s i b o := by
    rintro s i b o ⟨hb, x, hx, n, hr⟩
    refine ⟨(h.rd b hb).1, x, hx, n, fun j l hl => ?_⟩
    obtain ⟨v, hv, hr⟩ := hr j l hl
    exact ⟨v, by rw [World.cell?_of_block (h.rd b hb).2]; exact hv, RepL_mono cx (fun b hb => (h.rd b hb).2) (fun b hb => (h.rd b hb).1) _ _ _ hr⟩
  match v, hr with
  | .inl a, hr => exact agg hr
  | .inr (.inl l), ⟨us, hu, h1, h2⟩ => exact ⟨us, hu, h1, fun j a b e1 e2 => agg (h2 j a b e1 e2)⟩
  | .inr (.inr p), hr =>
    have hr : RepP cx c p u := hr
    simp only [updB]
    unfold RepP at hr
    split at hr
    · rename_i hk
      obtain ⟨tk, k1, k2, k3, g, k4, k5⟩ := hr
      by_cases hn : p.nm = nm
      · have : (p.kind == 0 && p.nm == nm) = true := by simp [hk, hn]
        rw [if_pos this]
        obtain ⟨tk', m1, m2, m3, m4⟩ := hbox tk k1 (by rw [k2, hn])
        show RepP cx c' _ u
        unfold RepP
        simp only [hk]
        exact ⟨tk', m1, by rw [m2, hn], m4, g, by rw [m3]; exact k4, k5⟩
      · have : ¬ (p.kind == 0 && p.nm == nm) = true := by simp [hn]
        rw [if_neg this]
        obtain ⟨tk', m1, m2, m3, m4⟩ := h.box tk k1 (by rw [k2]; exact hn) _ k3
        show RepP cx c' p u
        unfold RepP
        simp only [hk]
        exact ⟨tk', m1, by rw [m2, k2], m4, g, by rw [m3]; exact k4, k5⟩
    · rename_i hk
      have : ¬ (p.kind == 0 && p.nm == nm) = true := by simp [hk]
      rw [if_neg this]
      show RepP cx c' p u
      unfold RepP
      simp only [hk, h.dead, h.frz] at hr ⊢
      split at hr
      · rename_i hd; rw [if_pos hd]; trivial
      · rename_i hd
        rw [if_neg hd]
        split at hr
        · rename_i hf
          rw [if_pos hf]
          obtain ⟨b, o, hu, hr⟩ := hr
          exact ⟨b, o, hu, el hr⟩
        · rename_i hf
          rw [if_neg hf]
          obtain ⟨tk, k1, k2, k3, k4⟩ := hr
          by_cases hn : tk.nm = nm
          · obtain ⟨l, hl⟩ := hib tk k1 hn
            rw [k3] at hl
            cases hl
          · exact ⟨tk, h.tok tk k1 hn _ k3, k2, k3, k4⟩
    · rename_i hk
      have : ¬ (p.kind == 0 && p.nm == nm) = true := by simp [hk]
      rw [if_neg this]
      show RepP cx c' p u
      unfold RepP
      simp only [hk]
      obtain ⟨b, o, hu, hr⟩ := hr
      exact ⟨b, o, hu, el hr⟩
    · rename_i k0 k1 k2
      have : ¬ (p.kind == 0 && p.nm == nm) = true := by
        have : p.kind ≠ 0 := k0
        simp [this]
      rw [if_neg this]
      show RepP cx c' p u
      unfold RepP
      split <;> first | trivial | (rename_i hh; first | exact (k0 hh).elim | exact (k1 hh).elim | exact (k2 hh).elim)

theorem leafOk_one {c : Ct cx.ty} {l : L cx.ty} {u : Value} (h : RepLS cx c l u) (ho : leafOk l = true) : u.oneCell' = true := by
  match l, h, ho with
  | some (.inl v), h, ho =>
    have h : u = v := h
    subst h
    cases u <;> first | rfl | (simp [leafOk] at ho)
  | some (.inr s), h, _ =>
    have : ∃ a n cap, u = .slice a n cap := by
      unfold RepLS at h
      by_cases h1 : s.own = 1
      · simp only [h1, if_true] at h
        exact h.1
      · simp only [h1, if_false] at h
        obtain ⟨n, h⟩ := h
        obtain ⟨a, cap, hu⟩ := RepL_slice h
        exact ⟨a, _, cap, hu⟩
    obtain ⟨a, n, cap, rfl⟩ := this
    rfl

/-- What a store leaves: the slots as they are then. -/
def stB (P : Program) (st : St cx.ty) (t : TypeId) (a x : Operand) : Option (St cx.ty) :=
  match getV st.slots a, cellsV (getV st.slots x) with
  | .inr (.inr p), some l => if p.kind == 0 && p.i == 0 && l.all leafOk && (P.underlying t).isSome && l.length == P.cellsOf t && decide (p.off + l.length ≤ p.cells.length) then
      some { st with slots := st.slots.map (updB p.nm (splice p.cells p.off l)), pend := none }
    else none
  | _, _ => none

theorem stB_ok {o : Oper} {t : TypeId} {a x : Operand} (ho : o.op = .store t a x) {st st' : St cx.ty} (hst : stB P st t a x = some st') {c : Ct cx.ty} {act : Act} (h : RS cx c st act) :
    ∃ w' T', (execOp act.eval o).run P c.w = .ok .skip w' ∧ RS cx { c with T := T', w := w' } st' act ∧ Kept c.N c.w w' := by
  unfold stB at hst
  split at hst
  · rename_i p l hp hl
    split at hst
    · rename_i hc
      simp only [Bool.and_eq_true, beq_iff_eq, decide_eq_true_eq] at hc
      obtain ⟨⟨⟨⟨⟨hk, hi0⟩, hlo⟩, hund⟩, hsz⟩, hoff⟩ := hc
      simp only [Option.some.injEq] at hst
      subst hst
      obtain ⟨d, hd⟩ := Option.isSome_iff_exists.1 hund
      have hra := eval_rep h.rep a
      rw [hp] at hra
      have hra : RepP cx c p (act.eval a) := hra
      unfold RepP at hra
      simp only [hk, hi0] at hra
      obtain ⟨tk, ht, hn, hcc, g, hu, hpa⟩ := hra
      have hpa : act.eval a = .pointer (some ⟨g, p.off, none⟩) := hpa
      have htr := h.wf.rep tk ht
      unfold TokRep at htr
      rw [hcc] at htr
      obtain ⟨hfp, g', cur, e, hu', hh, hcells⟩ := htr
      rw [hu] at hu'
      simp only [Value.pointer.injEq, Option.some.injEq, Addr.mk.injEq] at hu'
      obtain ⟨rfl, _⟩ := hu'
      have hcv := cellsV_rep (eval_rep h.rep x) hl
      have hlen : (act.eval x).cells.toList.length = l.length := hcv.1
      have hone : ∀ v ∈ (act.eval x).cells.toList, v.oneCell' = true := by
        intro v hv
        obtain ⟨j, hj⟩ := List.getElem?_of_mem hv
        have hjl : j < l.length := by rw [← hlen]; exact (List.getElem?_eq_some_iff.1 hj).1
        exact leafOk_one (hcv.2 j _ v (List.getElem?_eq_getElem hjl) hj) (List.all_eq_true.1 hlo _ (List.getElem_mem hjl))
      have hcs : cur.toList.length = p.cells.length := hcells.1
      have hstore := run_storeCells_at P g p.off e (act.eval x).cells.toList 0 cur c.w hh (by simp at hcs; omega) hone
      simp only [Nat.add_zero] at hstore
      have hrun : (execOp act.eval o).run P c.w = .ok .skip (c.w.setRow g (splice cur.toList p.off (act.eval x).cells.toList).toArray) := by
        have hsize : (act.eval x).cells.size = P.cellsOf t := by rw [← hsz, ← hlen]; simp
        unfold execOp
        simp only [ho, Instr.storeAt, Instr.sureAddr, hpa, storeVar, Sem.run_bind, Sem.run_pure, Result.andThen_ok, run_sizeOf' hd, hsize, ne_eq, not_true_eq_false, if_false]
        unfold splice
        rw [hstore]
        rfl
      have hheap : ∀ k, k ≠ g → (c.w.setRow g (splice cur.toList p.off (act.eval x).cells.toList).toArray).heap[k]? = c.w.heap[k]? := fun k hk => setRow_other c.w g k _ hk
      have hsame : (c.w.setRow g (splice cur.toList p.off (act.eval x).cells.toList).toArray).heap.size = c.w.heap.size := by simp [World.setRow]
      have hg : g ∈ vb tk.u := by rw [hu]; simp [vb]
      have hgb := h.wf.bound tk ht g (List.mem_append.2 (.inl hg))
      let up : Tk cx.ty → Tk cx.ty := fun t2 => if t2.nm = p.nm then { t2 with c := .inr (splice p.cells p.off l) } else t2
      have upnm : ∀ t2, (up t2).nm = t2.nm := fun t2 => by simp only [up]; split <;> rfl
      have upu : ∀ t2, (up t2).u = t2.u := fun t2 => by simp only [up]; split <;> rfl
      have upfp : ∀ t2, (up t2).fp = t2.fp := fun t2 => by simp only [up]; split <;> rfl
      have huniq : ∀ t2 ∈ c.T, t2.nm = p.nm → t2 = tk := by
        intro t2 ht2 hn2
        have hnd := h.wf.names
        rcases Classical.em (t2 = tk) with h | h
        · exact h
        · exfalso
          obtain ⟨l1, l2, hl⟩ := List.append_of_mem ht
          rw [hl] at hnd ht2
          rw [List.map_append, List.map_cons, List.nodup_append] at hnd
          rcases List.mem_append.1 ht2 with h3 | h3
          · exact hnd.2.2 t2.nm (List.mem_map.2 ⟨t2, h3, rfl⟩) tk.nm (List.mem_cons_self ..) (by rw [hn2, hn])
          · rcases List.mem_cons.1 h3 with h3 | h3
            · exact h h3
            · exact (List.nodup_cons.1 hnd.2.1).1 (List.mem_map.2 ⟨t2, h3, by rw [hn2, hn]⟩)
      have hib : ∀ t2 ∈ c.T, t2.nm = p.nm → ∃ l, t2.c = .inr l := fun t2 ht2 hn2 => by rw [huniq t2 ht2 hn2]; exact ⟨_, hcc⟩
      have hP : PresX (fun n => n = p.nm) c { c with T := c.T.map up, w := c.w.setRow g (splice cur.toList p.off (act.eval x).cells.toList).toArray } := by
        refine ⟨fun b hb => ?_, rfl, rfl, fun t2 ht2 hX s hs => ?_, fun t2 ht2 hX l' hl' => ?_⟩
        · have hbg : b ≠ g := fun e => hb.2.2 tk ht (e ▸ hg)
          refine ⟨⟨Nat.lt_of_lt_of_eq hb.1 hsame.symm, hb.2.1, fun t2 ht2 => ?_⟩, hheap b hbg⟩
          obtain ⟨t3, h3, rfl⟩ := List.mem_map.1 ht2
          rw [upu]
          exact hb.2.2 t3 h3
        · exact List.mem_map.2 ⟨t2, ht2, by simp only [up]; rw [if_neg hX]⟩
        · exact ⟨up t2, List.mem_map.2 ⟨t2, ht2, rfl⟩, upnm t2, upu t2, by simp only [up]; rw [if_neg hX]; exact hl'⟩
      refine ⟨_, c.T.map up, hrun, ⟨⟨?_, ?_, ?_, ?_, h.wf.start, ?_, ?_⟩, by simp [h.size], fun t2 => ?_, h.defers, h.dead, h.frz, fun n hn' => ?_, h.kp, h.pr.keep rfl rfl (fun b hb => (hP.rd b (h.wf.rdS hb)).2), PdOK.none⟩, ?_⟩
      · show ((c.T.map up).map (·.nm)).Nodup
        rw [List.map_map]
        have : ((fun t2 : Tk cx.ty => t2.nm) ∘ up) = fun t2 => t2.nm := funext upnm
        rw [this]; exact h.wf.names
      · show ((c.T.map up).flatMap _).Nodup
        rw [List.flatMap_map]
        have : (fun t2 => vb (up t2).u ++ (up t2).fp) = fun t2 : Tk cx.ty => vb t2.u ++ t2.fp := funext fun t2 => by rw [upu, upfp]
        rw [this]; exact h.wf.nodup
      · intro t2 ht2 b hb
        obtain ⟨t3, h3, rfl⟩ := List.mem_map.1 ht2
        rw [upu, upfp] at hb
        have := h.wf.bound t3 h3 b hb
        exact ⟨this.1, Nat.lt_of_lt_of_eq this.2 hsame.symm⟩
      · intro t2 ht2
        obtain ⟨t3, h3, rfl⟩ := List.mem_map.1 ht2
        have hold := h.wf.rep t3 h3
        by_cases hn3 : t3.nm = p.nm
        · have e3 := huniq t3 h3 hn3
          subst e3
          unfold TokRep
          simp only [up, hn3, if_true]
          refine ⟨hfp, g, _, e, hu, setRow_heap c.w g cur _ e _ hh, ?_⟩
          have a1 : RepLs cx { c with T := c.T.map up, w := c.w.setRow g (splice cur.toList p.off (act.eval x).cells.toList).toArray } p.cells cur.toList := ⟨hcells.1, fun j a b e1 e2 => repLS_box hP hib (hcells.2 j a b e1 e2)⟩
          have a2 : RepLs cx { c with T := c.T.map up, w := c.w.setRow g (splice cur.toList p.off (act.eval x).cells.toList).toArray } l (act.eval x).cells.toList := ⟨hcv.1, fun j a b e1 e2 => repLS_box hP hib (hcv.2 j a b e1 e2)⟩
          simpa using a1.splice a2 hoff
        · have hup : up t3 = t3 := by simp only [up]; rw [if_neg hn3]
          rw [hup]
          have hblk : ∀ b ∈ vb t3.u ++ t3.fp, (c.w.setRow g (splice cur.toList p.off (act.eval x).cells.toList).toArray).heap[b]? = c.w.heap[b]? := fun b hb => hheap b (fun e => disjoint_toks h.wf h3 ht (fun e2 => hn3 (by rw [e2, hn])) hb (by rw [e]; exact List.mem_append.2 (.inl hg)))
          unfold TokRep at hold ⊢
          split at hold
          · rename_i s hs
            obtain ⟨hv, hold⟩ := hold
            refine ⟨hv, ?_⟩
            split at hold
            · rename_i hso
              rw [if_pos hso]
              obtain ⟨n, hold⟩ := hold
              exact ⟨n, OwnL_mono cx n _ _ _ hblk hold⟩
            · rename_i hso
              rw [if_neg hso]
              obtain ⟨hf, us, n, hrow, hl2, hr⟩ := hold
              refine ⟨hf, us, n, ?_, hl2, fun j l v h1 h2 => RepL_mono cx (fun b hb => (hP.rd b hb).2) (fun b hb => (hP.rd b hb).1) n l v (hr j l v h1 h2)⟩
              obtain ⟨hx, hcx⟩ := hrow
              refine ⟨hx, ?_⟩
              rcases hcx with hcx | ⟨g2, cap2, cur2, hv', hg2, hh2, hrest⟩
              · exact .inl hcx
              · refine .inr ⟨g2, cap2, cur2, hv', hg2, ?_, hrest⟩
                rw [hblk g2 (by rw [hv']; simp [vb])]
                exact hh2
          · obtain ⟨hf, g2, cur2, e2, hu2, hh2, hr⟩ := hold
            refine ⟨hf, g2, cur2, e2, hu2, ?_, hr.1, fun j a b e1 e2 => repLS_box hP hib (hr.2 j a b e1 e2)⟩
            rw [hblk g2 (by rw [hu2]; simp [vb])]
            exact hh2
      · intro t2 ht2
        obtain ⟨t3, h3, rfl⟩ := List.mem_map.1 ht2
        rw [upnm]
        exact h.wf.live t3 h3
      · exact fun b hb => h.wf.size b (Nat.le_trans (Nat.le_of_eq hsame.symm) hb)
      · have hbase := updB_rep (cells := splice p.cells p.off l) hP (fun t3 h3 hn3 => ⟨up t3, List.mem_map.2 ⟨t3, h3, rfl⟩, by rw [upnm, hn3], upu t3, by simp only [up]; rw [if_pos hn3]⟩) hib (h.rep t2)
        have : (st.slots.map (updB p.nm (splice p.cells p.off l))).getD t2 junk = updB p.nm (splice p.cells p.off l) (st.slots.getD t2 junk) := by
          by_cases hlt : t2 < st.slots.length
          · simp [List.getD, hlt]
          · simp [List.getD, List.getElem?_eq_none (Nat.le_of_not_lt hlt), junk, updB]
        show RepV cx _ ((st.slots.map (updB p.nm (splice p.cells p.off l))).getD t2 junk) _
        rw [this]
        exact hbase
      · rcases hn' with ⟨t2, ht2, rfl⟩ | hn' | hn'
        · obtain ⟨t3, h3, rfl⟩ := List.mem_map.1 ht2
          rw [upnm]
          exact h.names _ (.inl ⟨t3, h3, rfl⟩)
        · exact h.names _ (.inr (.inl hn'))
        · exact h.names _ (.inr (.inr hn'))
      · exact ⟨rfl, rfl, rfl, by rw [hsame]; exact Nat.le_refl _, fun k hk => hheap k (fun e => hk (e ▸ hgb.1))⟩
    · simp at hst
  · simp at hst

end
end Go.VM

namespace Go.VM
open Go.RowKit
section
variable {cx : Cx} {P : Program}

/-! ### Stores into a row that is owned -/
def updEL {ty : Nat → Type} (nm : Nat) (s' : SlD ty) : L ty → L ty
  | some (.inr s) => if s.own == 1 && s.nm == nm then some (.inr s') else some (.inr s)
  | l => l

def updEA {ty : Nat → Type} (nm : Nat) (s' : SlD ty) : A ty → A ty
  | .inl l => .inl (updEL nm s' l)
  | .inr l => .inr (l.map (updEL nm s'))

def updEV {ty : Nat → Type} (nm : Nat) (s' : SlD ty) : V ty → V ty
  | .inl a => .inl (updEA nm s' a)
  | .inr (.inl l) => .inr (.inl (l.map (updEA nm s')))
  | .inr (.inr p) => match p.kind with
    | 0 => .inr (.inr { p with cells := p.cells.map (updEL nm s') })
    | 1 => if p.nm == nm then .inr (.inr { p with s := s' }) else .inr (.inr p)
    | _ => .inr (.inr p)

def valOk {ty : Nat → Type} : L ty → Bool
  | some (.inl (.agg _)) => false
  | some (.inl (.tuple _)) => false
  | some (.inl _) => true
  | _ => false

/-- The row with one piece changed in part; of a wide piece the change alone is kept. -/
def setE (cx : Cx) (e : Nat) (xs : List (cx.ty e)) (i off : Nat) (l : List (L cx.ty)) (x' : cx.ty e) : List (cx.ty e) :=
  match Nat.ble (cx.size e) 5 || Nat.ble (cx.size e) l.length with
  | true => xs.set i x'
  | false => xs.modify i fun y => match cx.dec e (splice (cx.enc e true y) off l) with
    | some z => z
    | none => y
theorem setE_eq {e : Nat} {xs : List (cx.ty e)} {i off : Nat} {l : List (L cx.ty)} {x' : cx.ty e} (hi : i < xs.length) (h : cx.dec e (splice (cx.enc e true (xs.getD i (cx.dflt e))) off l) = some x') : setE cx e xs i off l x' = xs.set i x' := by
  unfold setE
  split
  · rfl
  · apply List.ext_getElem?
    intro j
    rw [List.getElem?_modify, List.getElem?_set]
    by_cases hj : i = j
    · subst hj
      have hx : xs.getD i (cx.dflt e) = xs[i] := by simp [List.getD, hi]
      rw [hx] at h
      rw [if_pos rfl, if_pos hi, List.getElem?_eq_getElem hi]
      show some (if i = i then _ else _) = _
      rw [if_pos rfl, h]
    · rw [if_neg hj]
      cases xs[j]? <;> simp [hj]

/-- What a store into a row leaves. -/
def stE (P : Program) (st : St cx.ty) (t : TypeId) (a x : Operand) : Option (St cx.ty) :=
  match getV st.slots a, cellsV (getV st.slots x) with
  | .inr (.inr p), some l =>
    if p.kind == 1 && p.s.o && p.s.own == 1 && p.s.nm == p.nm && cx.flat p.s.e && !st.D.contains p.nm && !st.F.contains p.nm && l.all valOk && (P.underlying t).isSome && l.length == P.cellsOf t && decide (p.off + l.length ≤ cx.size p.s.e) then
      match cx.dec p.s.e (splice (cx.enc p.s.e true (p.s.xs.getD p.i (cx.dflt p.s.e))) p.off l) with
      | some x' => some { st with slots := st.slots.map (updEV p.nm { p.s with xs := setE cx p.s.e p.s.xs p.i p.off l x' }), pend := none }
      | none => none
    else none
  | _, _ => none

theorem splice_mid {α : Type} (F1 B F2 l : List α) (off : Nat) (h : off + l.length ≤ B.length) : splice (F1 ++ B ++ F2) (F1.length + off) l = F1 ++ splice B off l ++ F2 := by
  unfold splice
  have e1 : (F1 ++ B ++ F2).take (F1.length + off) = F1 ++ B.take off := by
    rw [List.append_assoc, List.take_length_add_append, List.take_append_of_le_length (by omega)]
  have e2 : (F1 ++ B ++ F2).drop (F1.length + off + l.length) = B.drop (off + l.length) ++ F2 := by
    rw [List.append_assoc, Nat.add_assoc, List.drop_length_add_append, List.drop_append_of_le_length (by omega)]
  rw [e1, e2]
  simp

theorem splice_map {α β : Type} (f : α → β) (l p : List α) (off : Nat) : (splice l off p).map f = splice (l.map f) off (p.map f) := by
  simp [splice, List.map_take, List.map_drop]

theorem splice_take {α : Type} (l p : List α) (off m : Nat) (h : off + p.length ≤ m) (hl : off + p.length ≤ l.length) : (splice l off p).take m = splice (l.take m) off p := by
  apply List.ext_getElem?
  intro j
  rw [List.getElem?_take, splice_get hl, splice_get (by simp; omega), List.getElem?_take]
  by_cases h1 : off ≤ j ∧ j < off + p.length
  · rw [if_pos h1, if_pos h1, if_pos (by omega)]
  · rw [if_neg h1, if_neg h1]

theorem flat_set {α β : Type} (f : α → List β) (k : Nat) (hf : ∀ x, (f x).length = k) (xs : List α) (i : Nat) (x x' : α) (hx : xs[i]? = some x) (off : Nat) (l : List β) (hl : off + l.length ≤ k) (he : f x' = splice (f x) off l) :
    (xs.set i x').flatMap f = splice (xs.flatMap f) (i * k + off) l := by
  have hi : i < xs.length := (List.getElem?_eq_some_iff.1 hx).1
  have hxe : xs[i] = x := (List.getElem?_eq_some_iff.1 hx).2
  have hsplit : xs = xs.take i ++ x :: xs.drop (i + 1) := by
    rw [← hxe]
    conv => lhs; rw [← List.take_append_drop i xs, List.drop_eq_getElem_cons hi]
  have hset : xs.set i x' = xs.take i ++ x' :: xs.drop (i + 1) := by
    rw [List.set_eq_take_append_cons_drop, if_pos hi]
  have hlen : ((xs.take i).flatMap f).length = i * k := by
    rw [flat_len _ _ hf, List.length_take, Nat.min_eq_left (by omega)]
  rw [hset]
  conv => rhs; rw [hsplit]
  simp only [List.flatMap_append, List.flatMap_cons]
  rw [← List.append_assoc, ← List.append_assoc, ← hlen, splice_mid _ _ _ _ _ (by rw [hf]; exact hl), he]

theorem stE_leaf {c : Ct cx.ty} {T' : List (Tk cx.ty)} {w' : World} {nm : Nat} {s s' : SlD cx.ty} {tk0 : Tk cx.ty} (hown : s'.own = 1) (hsn : s'.nm = nm) (hD : nm ∉ c.D) (hF : nm ∉ c.F)
    (hrd : ∀ b, Rd c b → Rd { c with T := T', w := w' } b ∧ w'.heap[b]? = c.w.heap[b]?) (_h0 : tk0 ∈ c.T) (hn0 : tk0.nm = nm) (_hc0 : tk0.c = .inl s) (huniq : ∀ t2 ∈ c.T, t2.nm = nm → t2 = tk0)
    (hnew : { tk0 with c := .inl s' } ∈ T') (hkeep : ∀ t2 ∈ c.T, t2.nm ≠ nm → ∀ s, t2.c = .inl s → t2 ∈ T') {l : L cx.ty} {u : Value} (hl : RepLS cx c l u) : RepLS cx { c with T := T', w := w' } (updEL nm s' l) u := by
  match l, hl with
  | none, _ => trivial
  | some (.inl v), hl => exact hl
  | some (.inr q), hl =>
    simp only [updEL]
    by_cases h1 : q.own = 1
    · by_cases h2 : q.nm = nm
      · rw [if_pos (by simp [h1, h2])]
        unfold RepLS at hl ⊢
        simp only [h1, if_true, h2, hD, hF, if_false, hown, hsn] at hl ⊢
        obtain ⟨hsl, tk, k1, k2, k3, k4⟩ := hl
        refine ⟨hsl, ⟨_, hnew, hn0, rfl, ?_⟩⟩
        rw [← huniq tk k1 k2]; exact k4
      · rw [if_neg (by simp [h2])]
        unfold RepLS at hl ⊢
        simp only [h1, if_true] at hl ⊢
        obtain ⟨hsl, hl⟩ := hl
        refine ⟨hsl, ?_⟩
        split at hl
        · rename_i hd; rw [if_pos hd]; trivial
        · rename_i hd
          rw [if_neg hd]
          split at hl
          · rename_i hf
            rw [if_pos hf]
            obtain ⟨n, hl⟩ := hl
            exact ⟨n, RepL_mono cx (fun b hb => (hrd b hb).2) (fun b hb => (hrd b hb).1) _ _ _ hl⟩
          · rename_i hf
            rw [if_neg hf]
            obtain ⟨tk, k1, k2, k3, k4⟩ := hl
            exact ⟨tk, hkeep tk k1 (by rw [k2]; exact h2) q k3, k2, k3, k4⟩
    · rw [if_neg (by simp [h1])]
      unfold RepLS at hl ⊢
      simp only [h1, if_false] at hl ⊢
      obtain ⟨n, hl⟩ := hl
      exact ⟨n, RepL_mono cx (fun b hb => (hrd b hb).2) (fun b hb => (hrd b hb).1) _ _ _ hl⟩

theorem RepLs.mapE {c c' : Ct cx.ty} {f : L cx.ty → L cx.ty} (hf : ∀ l u, RepLS cx c l u → RepLS cx c' (f l) u) {l : List (L cx.ty)} {us : List Value} (h : RepLs cx c l us) : RepLs cx c' (l.map f) us := by
  refine ⟨by rw [List.length_map]; exact h.1, fun j a u e1 e2 => ?_⟩
  rw [List.getElem?_map] at e1
  cases e0 : l[j]? with
  | none => rw [e0] at e1; simp at e1
  | some a0 =>
    rw [e0] at e1
    simp only [Option.map_some, Option.some.injEq] at e1
    subst e1
    exact hf _ _ (h.2 j a0 u e0 e2)

theorem stE_ok (ok : cx.Ok) {o : Oper} {t : TypeId} {a x : Operand} (ho : o.op = .store t a x) {st st' : St cx.ty} (hst : stE P st t a x = some st') {c : Ct cx.ty} {act : Act} (h : RS cx c st act) :
    ∃ w' T', (execOp act.eval o).run P c.w = .ok .skip w' ∧ RS cx { c with T := T', w := w' } st' act ∧ Kept c.N c.w w' := by
  unfold stE at hst
  split at hst
  · rename_i p l hp hl
    split at hst
    · rename_i hc
      simp only [Bool.and_eq_true, beq_iff_eq, decide_eq_true_eq, Bool.not_eq_true'] at hc
      obtain ⟨⟨⟨⟨⟨⟨⟨⟨⟨⟨hk, hso⟩, hown⟩, hsn⟩, hflat⟩, hnD⟩, hnF⟩, hlo⟩, hund⟩, hsz⟩, hoff⟩ := hc
      split at hst
      · rename_i x' hdec
        simp only [Option.some.injEq] at hst
        subst hst
        obtain ⟨d, hd⟩ := Option.isSome_iff_exists.1 hund
        have hnD : p.nm ∉ c.D := by rw [h.dead]; simpa using hnD
        have hnF : p.nm ∉ c.F := by rw [h.frz]; simpa using hnF
        have hra := eval_rep h.rep a
        rw [hp] at hra
        have hra : RepP cx c p (act.eval a) := hra
        unfold RepP at hra
        simp only [hk, hnD, hnF, if_false] at hra
        obtain ⟨tk, ht, hn, hcc, hi, g, n0, cap0, hu, hpa⟩ := hra
        rw [setE_eq hi hdec]
        have htr := h.wf.rep tk ht
        unfold TokRep at htr
        rw [hcc] at htr
        simp only [hso, if_true] at htr
        obtain ⟨hvb, nn, htr⟩ := htr
        obtain ⟨hrow, hfp⟩ := flat_of_own ok hflat htr
        obtain ⟨hrl, hrow⟩ := hrow
        have hfp0 : tk.fp = [] := by
          rw [hvb] at hfp
          simpa using hfp
        rcases hrow with ⟨hbad, _⟩ | ⟨g', cap, cur, hu', hg0, hh, hncap, hcapm, hcur, htake⟩
        · rw [hu] at hbad; simp at hbad
        rw [hu] at hu'
        simp only [Value.slice.injEq, Option.some.injEq, Addr.mk.injEq] at hu'
        obtain ⟨⟨rfl, _⟩, rfl, rfl⟩ := hu'
        have hcv := cellsV_rep (eval_rep h.rep x) hl
        have hlen : (act.eval x).cells.toList.length = l.length := hcv.1
        have hlv : l = (act.eval x).cells.toList.map lv := by
          apply List.ext_getElem?
          intro j
          rw [List.getElem?_map]
          cases e1 : l[j]? with
          | none =>
            have : l.length ≤ j := List.getElem?_eq_none_iff.1 e1
            rw [List.getElem?_eq_none (by omega)]; rfl
          | some q =>
            have hj : j < l.length := (List.getElem?_eq_some_iff.1 e1).1
            rw [List.getElem?_eq_getElem (by omega)]
            have hq := List.all_eq_true.1 hlo q (List.mem_of_getElem? e1)
            have := hcv.2 j q _ e1 (List.getElem?_eq_getElem (by omega))
            match q, hq, this with
            | some (.inl v), hq, this =>
              have this : _ = v := this
              rw [this]; rfl
        have hone : ∀ v ∈ (act.eval x).cells.toList, v.oneCell' = true := by
          intro v hv
          have hm : lv v ∈ l := by rw [hlv]; exact List.mem_map.2 ⟨v, hv, rfl⟩
          have hq := List.all_eq_true.1 hlo _ hm
          cases v <;> first | rfl | (simp [lv, valOk] at hq)
        -- the element
        have hxi : p.s.xs[p.i]? = some (p.s.xs.getD p.i (cx.dflt p.s.e)) := by
          rw [List.getElem?_eq_getElem hi]; simp [List.getD, hi]
        have henc : cx.enc p.s.e true x' = splice (cx.enc p.s.e true (p.s.xs.getD p.i (cx.dflt p.s.e))) p.off l := by
          rw [← ok.dec _ _ _ true hdec]
          have : ∀ q ∈ splice (cx.enc p.s.e true (p.s.xs.getD p.i (cx.dflt p.s.e))) p.off l, weak true q = q := by
            intro q hq
            unfold splice at hq
            have hv : ∃ v, q = some (.inl v) := by
              rcases List.mem_append.1 hq with hq | hq
              · rcases List.mem_append.1 hq with hq | hq
                · exact ok.flat _ _ _ hflat q (List.mem_of_mem_take hq)
                · rw [hlv] at hq
                  obtain ⟨v, _, rfl⟩ := List.mem_map.1 hq
                  exact ⟨v, rfl⟩
              · exact ok.flat _ _ _ hflat q (List.mem_of_mem_drop hq)
            obtain ⟨v, rfl⟩ := hv
            rfl
          conv => rhs; rw [← List.map_id (splice _ _ _)]
          exact List.map_congr_left this
        have hset := flat_set (cx.enc p.s.e true) (cx.size p.s.e) (fun x => ok.len p.s.e true x) p.s.xs p.i _ x' hxi p.off l hoff henc
        have hfv : flatVals cx p.s.e (p.s.xs.set p.i x') = splice (flatVals cx p.s.e p.s.xs) (p.i * cx.size p.s.e + p.off) (act.eval x).cells.toList := by
          rw [flat_enc ok hflat true, flat_enc ok hflat true, hlv, ← splice_map] at hset
          have inj : ∀ a b : Value, (lv a : L cx.ty) = lv b → a = b := fun a b e => by simpa [lv] using e
          exact (List.map_inj_right inj).1 hset
        have hmul : (p.i + 1) * cx.size p.s.e ≤ p.s.xs.length * cx.size p.s.e := Nat.mul_le_mul_right _ hi
        have hmul2 : p.s.xs.length * cx.size p.s.e ≤ cap0 * cx.size p.s.e := Nat.mul_le_mul_right _ hncap
        rw [Nat.add_mul, Nat.one_mul] at hmul
        have hfit : p.i * cx.size p.s.e + p.off + (act.eval x).cells.toList.length ≤ cur.toList.length := by
          have : cur.toList.length = cur.size := by simp
          omega
        have hstore := run_storeCells_at P g (p.i * cx.size p.s.e + p.off) p.s.e (act.eval x).cells.toList 0 cur c.w hh (by omega) hone
        simp only [Nat.add_zero] at hstore
        have hrun : (execOp act.eval o).run P c.w = .ok .skip (c.w.setRow g (splice cur.toList (p.i * cx.size p.s.e + p.off) (act.eval x).cells.toList).toArray) := by
          have hsize : (act.eval x).cells.size = P.cellsOf t := by rw [← hsz, ← hlen]; simp
          unfold execOp
          simp only [ho, Instr.storeAt, Instr.sureAddr, hpa, storeVar, Sem.run_bind, Sem.run_pure, Result.andThen_ok, run_sizeOf' hd, hsize, ne_eq, not_true_eq_false, if_false]
          unfold splice
          rw [hstore]
          rfl
        generalize hW : c.w.setRow g (splice cur.toList (p.i * cx.size p.s.e + p.off) (act.eval x).cells.toList).toArray = w' at hrun
        have hheap : ∀ k, k ≠ g → w'.heap[k]? = c.w.heap[k]? := fun k hk => by rw [← hW]; exact setRow_other c.w g k _ hk
        have hsame : w'.heap.size = c.w.heap.size := by rw [← hW]; simp [World.setRow]
        have hnewrow : w'.heap[g]? = some (.cells (splice cur.toList (p.i * cx.size p.s.e + p.off) (act.eval x).cells.toList).toArray p.s.e (0, 0)) := by rw [← hW]; exact setRow_heap c.w g cur _ _ _ hh
        have hg : g ∈ vb tk.u := by rw [hu]; simp [vb]
        have hgb := h.wf.bound tk ht g (List.mem_append.2 (.inl hg))
        generalize hs' : ({ p.s with xs := p.s.xs.set p.i x' } : SlD cx.ty) = s'
        have hs'own : s'.own = 1 := by rw [← hs']; exact hown
        have hs'nm : s'.nm = p.nm := by rw [← hs']; exact hsn
        have hs'o : s'.o = true := by rw [← hs']; exact hso
        have huniq : ∀ t2 ∈ c.T, t2.nm = p.nm → t2 = tk := by
          intro t2 ht2 hn2
          have hnd := h.wf.names
          rcases Classical.em (t2 = tk) with h | h
          · exact h
          · exfalso
            obtain ⟨l1, l2, hl⟩ := List.append_of_mem ht
            rw [hl] at hnd ht2
            rw [List.map_append, List.map_cons, List.nodup_append] at hnd
            rcases List.mem_append.1 ht2 with h3 | h3
            · exact hnd.2.2 t2.nm (List.mem_map.2 ⟨t2, h3, rfl⟩) tk.nm (List.mem_cons_self ..) (by rw [hn2, hn])
            · rcases List.mem_cons.1 h3 with h3 | h3
              · exact h h3
              · exact (List.nodup_cons.1 hnd.2.1).1 (List.mem_map.2 ⟨t2, h3, by rw [hn2, hn]⟩)
        let up : Tk cx.ty → Tk cx.ty := fun t2 => match t2.c with
          | .inl _ => if t2.nm = p.nm then { t2 with c := .inl s' } else t2
          | .inr cells => { t2 with c := .inr (cells.map (updEL p.nm s')) }
        have upnm : ∀ t2, (up t2).nm = t2.nm := fun t2 => by simp only [up]; split <;> (try split) <;> rfl
        have upu : ∀ t2, (up t2).u = t2.u := fun t2 => by simp only [up]; split <;> (try split) <;> rfl
        have upfp : ∀ t2, (up t2).fp = t2.fp := fun t2 => by simp only [up]; split <;> (try split) <;> rfl
        have upl : ∀ t2 s, t2.c = .inl s → t2.nm ≠ p.nm → up t2 = t2 := fun t2 s e hne => by simp only [up]; rw [e]; simp only; rw [if_neg hne]
        have up0 : up tk = { tk with c := .inl s' } := by simp only [up]; rw [hcc]; simp only; rw [if_pos hn]
        have hrd : ∀ b, Rd c b → Rd { c with T := c.T.map up, w := w' } b ∧ w'.heap[b]? = c.w.heap[b]? := by
          intro b hb
          have hbg : b ≠ g := fun e => hb.2.2 tk ht (e ▸ hg)
          refine ⟨⟨Nat.lt_of_lt_of_eq hb.1 hsame.symm, hb.2.1, fun t2 ht2 => ?_⟩, hheap b hbg⟩
          obtain ⟨t3, h3, rfl⟩ := List.mem_map.1 ht2
          rw [upu]
          exact hb.2.2 t3 h3
        have hleaf : ∀ (q : L cx.ty) (u : Value), RepLS cx c q u → RepLS cx { c with T := c.T.map up, w := w' } (updEL p.nm s' q) u := fun q u hq =>
          stE_leaf (s := p.s) hs'own hs'nm hnD hnF hrd ht hn hcc huniq (List.mem_map.2 ⟨tk, ht, up0⟩) (fun t2 h2 hne s hs => List.mem_map.2 ⟨t2, h2, upl t2 s hs hne⟩) hq
        have hagg : ∀ (q : A cx.ty) (u : Value), RepA cx c q u → RepA cx { c with T := c.T.map up, w := w' } (updEA p.nm s' q) u := by
          intro q u hq
          match q, hq with
          | .inl q, hq => exact hleaf q u hq
          | .inr q, ⟨us, hu, hq⟩ => exact ⟨us, hu, hq.mapE hleaf⟩
        have hel : ∀ {s : SlD cx.ty} {i b o : Nat}, RepEl cx c s i b o → RepEl cx { c with T := c.T.map up, w := w' } s i b o := by
          rintro s i b o ⟨hb, y, hy, n, hr⟩
          refine ⟨(hrd b hb).1, y, hy, n, fun j q hq => ?_⟩
          obtain ⟨v, hv, hr⟩ := hr j q hq
          exact ⟨v, by rw [World.cell?_of_block (hrd b hb).2]; exact hv, RepL_mono cx (fun b hb => (hrd b hb).2) (fun b hb => (hrd b hb).1) _ _ _ hr⟩
        have hval : ∀ (q : V cx.ty) (u : Value), RepV cx c q u → RepV cx { c with T := c.T.map up, w := w' } (updEV p.nm s' q) u := by
          intro q u hq
          match q, hq with
          | .inl q, hq => exact hagg q u hq
          | .inr (.inl q), ⟨us, hu, h1, h2⟩ =>
            refine ⟨us, hu, by rw [List.length_map]; exact h1, fun j a b e1 e2 => ?_⟩
            rw [List.getElem?_map] at e1
            cases e0 : q[j]? with
            | none => rw [e0] at e1; simp at e1
            | some a0 =>
              rw [e0] at e1
              simp only [Option.map_some, Option.some.injEq] at e1
              subst e1
              exact hagg _ _ (h2 j a0 b e0 e2)
          | .inr (.inr q), hq =>
            have hq : RepP cx c q u := hq
            unfold RepP at hq
            simp only [updEV]
            split at hq
            · rename_i hk0
              obtain ⟨t2, k1, k2, k3, g2, k4, k5⟩ := hq
              simp only [hk0]
              show RepP cx { c with T := c.T.map up, w := w' } { q with kind := 0, cells := q.cells.map (updEL p.nm s') } u
              unfold RepP
              simp only
              exact ⟨up t2, List.mem_map.2 ⟨t2, k1, rfl⟩, by rw [upnm]; exact k2, by simp only [up]; rw [k3], g2, by rw [upu]; exact k4, k5⟩
            · rename_i hk1
              simp only [hk1]
              by_cases hne : q.nm = p.nm
              · rw [if_pos (by simp [hne])]
                show RepP cx { c with T := c.T.map up, w := w' } { q with kind := 1, s := s' } u
                unfold RepP
                simp only [hne, hnD, hnF, if_false] at hq ⊢
                obtain ⟨t2, k1, k2, k3, k4, g2, n2, cap2, k5, k6⟩ := hq
                have e2 := huniq t2 k1 k2
                subst e2
                have hqs : q.s = p.s := by
                  rw [hcc] at k3
                  exact (Sum.inl.inj k3).symm
                refine ⟨up t2, List.mem_map.2 ⟨t2, k1, rfl⟩, by rw [upnm]; exact k2, by rw [up0], ?_, g2, n2, cap2, by rw [upu]; exact k5, ?_⟩
                · rw [← hs']; simp only [List.length_set]; rw [← hqs]; exact k4
                · rw [← hs']; simp only; rw [← hqs]; exact k6
              · rw [if_neg (by simp [hne])]
                show RepP cx { c with T := c.T.map up, w := w' } q u
                unfold RepP
                simp only [hk1] at hq ⊢
                split at hq
                · rename_i hd'; rw [if_pos hd']; trivial
                · rename_i hd'
                  rw [if_neg hd']
                  split at hq
                  · rename_i hf'
                    rw [if_pos hf']
                    obtain ⟨b, o, hu, hr⟩ := hq
                    exact ⟨b, o, hu, hel hr⟩
                  · rename_i hf'
                    rw [if_neg hf']
                    obtain ⟨t2, k1, k2, k3, k4⟩ := hq
                    exact ⟨t2, List.mem_map.2 ⟨t2, k1, upl t2 _ k3 (by rw [k2]; exact hne)⟩, k2, k3, k4⟩
            · rename_i hk2
              simp only [hk2]
              show RepP cx { c with T := c.T.map up, w := w' } q u
              unfold RepP
              simp only [hk2]
              obtain ⟨b, o, hu, hr⟩ := hq
              exact ⟨b, o, hu, hel hr⟩
            · rename_i k0 k1 k2
              have : (match q.kind with
                | 0 => (.inr (.inr { q with cells := q.cells.map (updEL p.nm s') }) : V cx.ty)
                | 1 => if (q.nm == p.nm) = true then .inr (.inr { q with s := s' }) else .inr (.inr q)
                | _ => .inr (.inr q)) = .inr (.inr q) := by
                split <;> first | rfl | (rename_i hh; first | exact (k0 hh).elim | exact (k1 hh).elim)
              rw [this]
              show RepP cx { c with T := c.T.map up, w := w' } q u
              unfold RepP
              split <;> first | trivial | (rename_i hh; first | exact (k0 hh).elim | exact (k1 hh).elim | exact (k2 hh).elim)
        refine ⟨w', c.T.map up, hrun, ⟨⟨?_, ?_, ?_, ?_, h.wf.start, ?_, ?_⟩, by simp [h.size], fun t2 => ?_, h.defers, h.dead, h.frz, fun n hn' => ?_, h.kp, h.pr.keep rfl rfl (fun b hb => (hrd b (h.wf.rdS hb)).2), PdOK.none⟩, ?_⟩
        · show ((c.T.map up).map (·.nm)).Nodup
          rw [List.map_map]
          have : ((fun t2 : Tk cx.ty => t2.nm) ∘ up) = fun t2 => t2.nm := funext upnm
          rw [this]; exact h.wf.names
        · show ((c.T.map up).flatMap _).Nodup
          rw [List.flatMap_map]
          have : (fun t2 => vb (up t2).u ++ (up t2).fp) = fun t2 : Tk cx.ty => vb t2.u ++ t2.fp := funext fun t2 => by rw [upu, upfp]
          rw [this]; exact h.wf.nodup
        · intro t2 ht2 b hb
          obtain ⟨t3, h3, rfl⟩ := List.mem_map.1 ht2
          rw [upu, upfp] at hb
          have := h.wf.bound t3 h3 b hb
          exact ⟨this.1, Nat.lt_of_lt_of_eq this.2 hsame.symm⟩
        · intro t2 ht2
          obtain ⟨t3, h3, rfl⟩ := List.mem_map.1 ht2
          have hold := h.wf.rep t3 h3
          by_cases hn3 : t3.nm = p.nm
          · have e3 := huniq t3 h3 hn3
            subst e3
            rw [up0]
            unfold TokRep
            simp only [hs'o, if_true]
            refine ⟨hvb, 1, ?_⟩
            have hro : w'.ownsRow 0 s'.e (cx.size s'.e) t3.u s'.xs.length (flatVals cx s'.e s'.xs) := by
              rw [← hs']
              simp only [List.length_set]
              refine ⟨by rw [flatVals_len ok hflat, List.length_set], .inr ⟨g, cap0, _, hu, Nat.zero_le _, hnewrow, hncap, hcapm, ?_, ?_⟩⟩
              · simp only [List.size_toArray]
                rw [splice_len hfit]
                simpa using hcur
              · simp only
                rw [splice_take cur.toList (act.eval x).cells.toList (p.i * cx.size p.s.e + p.off) _ (by omega) hfit, htake, hfv]
            have := own_flat ok (s := s') (by rw [← hs']; exact hflat) hro
            rw [hfp0, List.append_nil, hvb]
            exact this
          · have hblk : ∀ b ∈ vb t3.u ++ t3.fp, w'.heap[b]? = c.w.heap[b]? := fun b hb => hheap b (fun e => disjoint_toks h.wf h3 ht (fun e2 => hn3 (by rw [e2, hn])) hb (by rw [e]; exact List.mem_append.2 (.inl hg)))
            unfold TokRep at hold
            split at hold
            · rename_i s hs
              rw [upl t3 s hs hn3]
              unfold TokRep
              rw [hs]
              simp only
              obtain ⟨hv, hold⟩ := hold
              refine ⟨hv, ?_⟩
              split at hold
              · rename_i hso2
                rw [if_pos hso2]
                obtain ⟨n, hold⟩ := hold
                exact ⟨n, OwnL_mono cx n _ _ _ hblk hold⟩
              · rename_i hso2
                rw [if_neg hso2]
                obtain ⟨hf, us, n, hrow, hl2, hr⟩ := hold
                refine ⟨hf, us, n, ?_, hl2, fun j l v h1 h2 => RepL_mono cx (fun b hb => (hrd b hb).2) (fun b hb => (hrd b hb).1) n l v (hr j l v h1 h2)⟩
                obtain ⟨hx, hcx⟩ := hrow
                refine ⟨hx, ?_⟩
                rcases hcx with hcx | ⟨g2, cap2, cur2, hv', hg2, hh2, hrest⟩
                · exact .inl hcx
                · refine .inr ⟨g2, cap2, cur2, hv', hg2, ?_, hrest⟩
                  rw [hblk g2 (by rw [hv']; simp [vb])]
                  exact hh2
            · rename_i cells hs
              obtain ⟨hf, g2, cur2, e2, hu2, hh2, hr⟩ := hold
              have hup : up t3 = { t3 with c := .inr (cells.map (updEL p.nm s')) } := by simp only [up]; rw [hs]
              rw [hup]
              unfold TokRep
              refine ⟨hf, g2, cur2, e2, hu2, ?_, hr.mapE hleaf⟩
              rw [hblk g2 (by rw [hu2]; simp [vb])]
              exact hh2
        · intro t2 ht2
          obtain ⟨t3, h3, rfl⟩ := List.mem_map.1 ht2
          rw [upnm]
          exact h.wf.live t3 h3
        · exact fun b hb => h.wf.size b (Nat.le_trans (Nat.le_of_eq hsame.symm) hb)
        · have : (st.slots.map (updEV p.nm s')).getD t2 junk = updEV p.nm s' (st.slots.getD t2 junk) := by
            by_cases hlt : t2 < st.slots.length
            · simp [List.getD, hlt]
            · simp [List.getD, List.getElem?_eq_none (Nat.le_of_not_lt hlt), junk, updEV, updEA, updEL]
          show RepV cx _ ((st.slots.map (updEV p.nm s')).getD t2 junk) _
          rw [this]
          exact hval _ _ (h.rep t2)
        · rcases hn' with ⟨t2, ht2, rfl⟩ | hn' | hn'
          · obtain ⟨t3, h3, rfl⟩ := List.mem_map.1 ht2
            rw [upnm]
            exact h.names _ (.inl ⟨t3, h3, rfl⟩)
          · exact h.names _ (.inr (.inl hn'))
          · exact h.names _ (.inr (.inr hn'))
        · exact ⟨by rw [← hW]; rfl, by rw [← hW]; rfl, by rw [← hW]; rfl, by rw [hsame]; exact Nat.le_refl _, fun k hk => hheap k (fun e => hk (e ▸ hgb.1))⟩
      · simp at hst
    · simp at hst
  · simp at hst

end
end Go.VM
namespace Go.VM
open Go.RowKit
section
variable {cx : Cx} {P : Program}
/-- A store into a box or into a row. -/
def stA (P : Program) (st : St cx.ty) (t : TypeId) (a x : Operand) : Option (St cx.ty) :=
  match stB P st t a x with
  | some st' => some st'
  | none => stE P st t a x

theorem stA_ok (ok : cx.Ok) {o : Oper} {t : TypeId} {a x : Operand} (ho : o.op = .store t a x) {st st' : St cx.ty} (hst : stA P st t a x = some st') {c : Ct cx.ty} {act : Act} (h : RS cx c st act) :
    ∃ w' T', (execOp act.eval o).run P c.w = .ok .skip w' ∧ RS cx { c with T := T', w := w' } st' act ∧ Kept c.N c.w w' := by
  unfold stA at hst
  split at hst
  · rename_i s1 e1
    simp only [Option.some.injEq] at hst
    subst hst
    exact stB_ok ho e1 h
  · exact stE_ok ok ho hst h
end
end Go.VM

namespace Go.VM
open Go.RowKit
section
variable {cx : Cx} {P : Program}

/-! ### Calls of functions that write into what they are handed -/
def packR (rs : List Value) : Value := if h : rs.length = 1 then rs[0] else .tuple rs.toArray

/-- The contract: the first 'n' things handed are the callee's while it runs; they come back behind the results. -/
def SatW (P : Program) (cx : Cx) (f : FuncId) (nres n : Nat) (F : List (A cx.ty) → Option (Bool × List (A cx.ty))) : Prop :=
  ∀ (w : World) (l : List (A cx.ty)) (us : List Value) (fps : List (List Nat)) (cs : List (A cx.ty)), ResAs cx w (fun _ => False) l us fps → (List.flatten fps).Nodup → (∀ b ∈ List.flatten fps, b < w.heap.size) → F l = some (true, cs) →
    Calls P f us.toArray w (fun e w' => ∃ rs : List Value, e = .returned (packR rs) ∧ rs.length = nres ∧ Kept (fun b => w.heap.size ≤ b ∨ b ∈ List.flatten fps) w w' ∧
      ResV cx w' (fun _ => False) (fun b => w.heap.size ≤ b ∨ b ∈ List.flatten fps) (.inr (.inl cs)) (.tuple (rs ++ us.take n).toArray))

/-- A piece that is handed over whole, and its name. -/
def giveL (cx : Cx) (P : Program) (t : TypeId) (l : L cx.ty) : Option (L cx.ty × List Nat) :=
  match l with
  | some (.inl (.slice none 0 0)) => match sliceElem P t with
    | some e => some (ls { own := 2, nm := 0, e := e, o := true, xs := [] }, [])
    | none => none
  | some (.inl v) => some (lv v, [])
  | some (.inr s) => if s.own == 1 && s.o && cx.flat s.e then some (ls { own := 2, nm := 0, e := s.e, o := true, xs := s.xs }, [s.nm]) else none
  | none => none

def giveLs (cx : Cx) (P : Program) : List TypeId → List (L cx.ty) → Option (List (L cx.ty) × List Nat)
  | t :: ts, l :: r => match giveL cx P t l, giveLs cx P ts r with
    | some (a, n), some (as, ns) => some (a :: as, n ++ ns)
    | _, _ => none
  | [], [] => some ([], [])
  | _, _ => none

def giveA (cx : Cx) (P : Program) (t : TypeId) (a : A cx.ty) : Option (A cx.ty × List Nat) :=
  match a with
  | .inl l => match giveL cx P t l with
    | some (a, n) => some (.inl a, n)
    | none => none
  | .inr l => match giveLs cx P (leafTypes P 8 t) l with
    | some (as, n) => some (.inr as, n)
    | none => none

def giveVs (cx : Cx) (P : Program) : List TypeId → List (V cx.ty) → Option (List (A cx.ty) × List Nat)
  | t :: ts, .inl a :: r => match giveA cx P t a, giveVs cx P ts r with
    | some (a, n), some (as, ns) => some (a :: as, n ++ ns)
    | _, _ => none
  | [], [] => some ([], [])
  | _, _ => none

/-- The blocks of the things named, in their order. -/
def Gives (c : Ct cx.ty) (ns : List Nat) (fp : List Nat) : Prop := ∃ tks : List (Tk cx.ty), tks.map (·.nm) = ns ∧ (∀ tk ∈ tks, tk ∈ c.T ∧ tk.fp = [] ∧ ∃ s, tk.c = .inl s) ∧ fp = tks.flatMap blocks

theorem Gives.nil (c : Ct cx.ty) : Gives c [] [] := ⟨[], rfl, by simp, rfl⟩
theorem Gives.app {c : Ct cx.ty} {a b f g : List Nat} (h1 : Gives c a f) (h2 : Gives c b g) : Gives c (a ++ b) (f ++ g) := by
  obtain ⟨t1, p1, q1, r1⟩ := h1
  obtain ⟨t2, p2, q2, r2⟩ := h2
  exact ⟨t1 ++ t2, by simp [p1, p2], fun tk ht => (List.mem_append.1 ht).elim (q1 tk) (q2 tk), by rw [List.flatMap_append, r1, r2]⟩

theorem giveL_rep (ok : cx.Ok) {c : Ct cx.ty} (hw : Wf cx c) {t : TypeId} {l l' : L cx.ty} {n : List Nat} (ha : giveL cx P t l = some (l', n)) {u : Value} (h : RepLS cx c l u) (hd : ∀ k ∈ n, k ∉ c.D ∧ k ∉ c.F) :
    ∃ fp, ResL cx c.w (fun _ => False) l' u fp ∧ Gives c n fp := by
  unfold giveL at ha
  split at ha
  · split at ha
    · simp only [Option.some.injEq, Prod.mk.injEq] at ha
      obtain ⟨rfl, rfl⟩ := ha
      have h : u = .slice none 0 0 := h
      subst h
      refine ⟨[], ?_, Gives.nil c⟩
      unfold ResL
      simp only [ls, if_true]
      exact ⟨trivial, 1, [], [], World.ownsRow_nil _ _ _ _, rfl, rfl, rfl, fun j l c f h => by simp at h⟩
    · simp at ha
  · simp only [Option.some.injEq, Prod.mk.injEq] at ha
    obtain ⟨rfl, rfl⟩ := ha
    exact ⟨[], ⟨h, rfl⟩, Gives.nil c⟩
  · rename_i s
    split at ha
    · rename_i hc
      simp only [Bool.and_eq_true, beq_iff_eq] at hc
      simp only [Option.some.injEq, Prod.mk.injEq] at ha
      obtain ⟨rfl, rfl⟩ := ha
      have h2 := hd s.nm (by simp)
      unfold RepLS at h
      simp only [hc.1.1, if_true, h2.1, h2.2, if_false] at h
      obtain ⟨_, tk, ht, hn, hcc, hu⟩ := h
      have htr := hw.rep tk ht
      unfold TokRep at htr
      rw [hcc] at htr
      simp only [hc.1.2, if_true] at htr
      obtain ⟨hv, m, htr⟩ := htr
      have hfp0 : tk.fp = [] := by
        have := (flat_of_own ok hc.2 htr).2
        rw [← hv] at this
        exact List.append_cancel_left (this.trans (List.append_nil _).symm)
      refine ⟨blocks tk, ?_, [tk], by simp [hn], by simp only [List.mem_singleton]; rintro _ rfl; exact ⟨ht, hfp0, s, hcc⟩, by simp⟩
      unfold ResL
      simp only [ls, if_true]
      refine ⟨trivial, m, ?_⟩
      rw [← hu]
      cases m with
      | zero => simp [OwnL] at htr
      | succ m => exact htr
    · simp at ha
  · simp at ha

theorem giveLs_rep (ok : cx.Ok) {c : Ct cx.ty} (hw : Wf cx c) : ∀ (ts : List TypeId) (l l' : List (L cx.ty)) (n : List Nat) (us : List Value), giveLs cx P ts l = some (l', n) → RepLs cx c l us → (∀ k ∈ n, k ∉ c.D ∧ k ∉ c.F) →
    ∃ fps, ResLs cx c.w (fun _ => False) l' us fps ∧ Gives c n (List.flatten fps)
  | [], [], l', n, us, ha, h, _ => by
    simp only [giveLs, Option.some.injEq, Prod.mk.injEq] at ha
    obtain ⟨rfl, rfl⟩ := ha
    exact ⟨[], ⟨h.1, rfl, fun j a u f h1 => by simp at h1⟩, Gives.nil c⟩
  | t :: ts, l :: r, l', n, us, ha, h, hd => by
    simp only [giveLs] at ha
    split at ha
    · rename_i a n1 as ns e1 e2
      simp only [Option.some.injEq, Prod.mk.injEq] at ha
      obtain ⟨rfl, rfl⟩ := ha
      match us, h with
      | [], h => simp [RepLs] at h
      | u :: us, h =>
        obtain ⟨f, k1, k2⟩ := giveL_rep ok hw e1 (h.2 0 l u rfl rfl) (fun k hk => hd k (List.mem_append.2 (.inl hk)))
        obtain ⟨fps, k3, k4⟩ := giveLs_rep ok hw ts r as ns us e2 ⟨by have := h.1; simpa using this, fun j a b h1 h2 => h.2 (j + 1) a b (by simpa using h1) (by simpa using h2)⟩ (fun k hk => hd k (List.mem_append.2 (.inr hk)))
        refine ⟨f :: fps, ⟨by simp [k3.1], by simp [k3.2.1], fun j a' u' f' h1 h2 h3 => ?_⟩, by rw [List.flatten_cons]; exact k2.app k4⟩
        cases j with
        | zero =>
          simp only [List.getElem?_cons_zero, Option.some.injEq] at h1 h2 h3
          subst h1; subst h2; subst h3
          exact k1
        | succ j => exact k3.2.2 j a' u' f' (by simpa using h1) (by simpa using h2) (by simpa using h3)
    · simp at ha
  | [], _ :: _, _, _, _, ha, _, _ => by simp [giveLs] at ha
  | _ :: _, [], _, _, _, ha, _, _ => by simp [giveLs] at ha

theorem giveA_rep (ok : cx.Ok) {c : Ct cx.ty} (hw : Wf cx c) {t : TypeId} {a a' : A cx.ty} {n : List Nat} (ha : giveA cx P t a = some (a', n)) {u : Value} (h : RepA cx c a u) (hd : ∀ k ∈ n, k ∉ c.D ∧ k ∉ c.F) :
    ∃ fp, ResA cx c.w (fun _ => False) a' u fp ∧ Gives c n fp := by
  unfold giveA at ha
  split at ha
  · split at ha
    · rename_i a n e1
      simp only [Option.some.injEq, Prod.mk.injEq] at ha
      obtain ⟨rfl, rfl⟩ := ha
      exact giveL_rep ok hw e1 h hd
    · simp at ha
  · split at ha
    · rename_i as n e1
      simp only [Option.some.injEq, Prod.mk.injEq] at ha
      obtain ⟨rfl, rfl⟩ := ha
      obtain ⟨us, hu, h⟩ := h
      obtain ⟨fps, h1, h2⟩ := giveLs_rep ok hw _ _ _ _ us e1 h hd
      exact ⟨_, ⟨us, fps, hu, rfl, h1⟩, h2⟩
    · simp at ha

theorem giveVs_rep (ok : cx.Ok) {c : Ct cx.ty} (hw : Wf cx c) : ∀ (ts : List TypeId) (l : List (V cx.ty)) (l' : List (A cx.ty)) (n : List Nat) (us : List Value), giveVs cx P ts l = some (l', n) →
    us.length = l.length → (∀ (j : Nat) a u, l[j]? = some a → us[j]? = some u → RepV cx c a u) → (∀ k ∈ n, k ∉ c.D ∧ k ∉ c.F) → ∃ fps, ResAs cx c.w (fun _ => False) l' us fps ∧ Gives c n (List.flatten fps)
  | [], [], l', n, us, ha, hl, h, _ => by
    simp only [giveVs, Option.some.injEq, Prod.mk.injEq] at ha
    obtain ⟨rfl, rfl⟩ := ha
    exact ⟨[], ⟨hl, rfl, fun j a u f h1 => by simp at h1⟩, Gives.nil c⟩
  | t :: ts, .inl l :: r, l', n, us, ha, hl, h, hd => by
    simp only [giveVs] at ha
    split at ha
    · rename_i a n1 as ns e1 e2
      simp only [Option.some.injEq, Prod.mk.injEq] at ha
      obtain ⟨rfl, rfl⟩ := ha
      match us, hl, h with
      | [], hl, h => simp at hl
      | u :: us, hl, h =>
        obtain ⟨f, k1, k2⟩ := giveA_rep ok hw e1 (h 0 _ u rfl rfl) (fun k hk => hd k (List.mem_append.2 (.inl hk)))
        obtain ⟨fps, k3, k4⟩ := giveVs_rep ok hw ts r as ns us e2 (by simpa using hl) (fun j a b h1 h2 => h (j + 1) a b (by simpa using h1) (by simpa using h2)) (fun k hk => hd k (List.mem_append.2 (.inr hk)))
        refine ⟨f :: fps, ⟨by simp [k3.1], by simp [k3.2.1], fun j a' u' f' h1 h2 h3 => ?_⟩, by rw [List.flatten_cons]; exact k2.app k4⟩
        cases j with
        | zero =>
          simp only [List.getElem?_cons_zero, Option.some.injEq] at h1 h2 h3
          subst h1; subst h2; subst h3
          exact k1
        | succ j => exact k3.2.2 j a' u' f' (by simpa using h1) (by simpa using h2) (by simpa using h3)
    · simp at ha
  | [], _ :: _, _, _, _, ha, _, _, _ => by simp [giveVs] at ha
  | _ :: _, [], _, _, _, ha, _, _, _ => by simp [giveVs] at ha
  | _ :: _, .inr _ :: _, _, _, _, ha, _, _, _ => by simp [giveVs] at ha

theorem flatMap_inj_nodup {T : List (Tk cx.ty)} (h : (T.flatMap blocks).Nodup) (_hn : (T.map (·.nm)).Nodup) : ∀ tks : List (Tk cx.ty), (tks.map (·.nm)).Nodup → (∀ tk ∈ tks, tk ∈ T) → (tks.flatMap blocks).Nodup := by
  have hdis : ∀ t1 ∈ T, ∀ t2 ∈ T, t1.nm ≠ t2.nm → ∀ b ∈ blocks t1, b ∉ blocks t2 := by
    intro t1 h1 t2 h2 hne b hb1 hb2
    obtain ⟨l1, l2, hl⟩ := List.append_of_mem h1
    rw [hl] at h h2
    simp only [List.flatMap_append, List.flatMap_cons] at h
    rcases List.mem_append.1 h2 with h3 | h3
    · exact (List.nodup_append.1 h).2.2 b (List.mem_flatMap.2 ⟨t2, h3, hb2⟩) b (List.mem_append.2 (.inl hb1)) rfl
    · rcases List.mem_cons.1 h3 with h3 | h3
      · exact hne (by rw [h3])
      · exact (List.nodup_append.1 (List.nodup_append.1 h).2.1).2.2 b hb1 b (List.mem_flatMap.2 ⟨t2, h3, hb2⟩) rfl
  intro tks
  induction tks with
  | nil => simp
  | cons a r ih =>
    intro hn2 hm
    rw [List.map_cons, List.nodup_cons] at hn2
    rw [List.flatMap_cons, List.nodup_append]
    refine ⟨?_, ih hn2.2 (fun tk ht => hm tk (List.mem_cons_of_mem _ ht)), fun x hx y hy he => ?_⟩
    · obtain ⟨l1, l2, hl⟩ := List.append_of_mem (hm a (List.mem_cons_self ..))
      rw [hl] at h
      simp only [List.flatMap_append, List.flatMap_cons] at h
      exact (List.nodup_append.1 (List.nodup_append.1 h).2.1).1
    · subst he
      obtain ⟨t2, k1, k2⟩ := List.mem_flatMap.1 hy
      exact hdis a (hm a (List.mem_cons_self ..)) t2 (hm t2 (List.mem_cons_of_mem _ k1)) (fun e => hn2.1 (List.mem_map.2 ⟨t2, k1, e.symm⟩)) x hx k2

/-- What the names stand for from then on. -/
def renL {ty : Nat → Type} (ps : List (Nat × SlD ty)) (l : L ty) : L ty :=
  match l with
  | some (.inr s) => if s.own == 1 then (match ps.find? (fun p => p.1 == s.nm) with
      | some p => some (.inr p.2)
      | none => some (.inr s)) else some (.inr s)
  | l => l

def renA {ty : Nat → Type} (ps : List (Nat × SlD ty)) : A ty → A ty
  | .inl l => .inl (renL ps l)
  | .inr l => .inr (l.map (renL ps))

def renV {ty : Nat → Type} (ps : List (Nat × SlD ty)) : V ty → V ty
  | .inl a => .inl (renA ps a)
  | .inr (.inl l) => .inr (.inl (l.map (renA ps)))
  | .inr (.inr p) => match p.kind with
    | 0 => .inr (.inr { p with cells := p.cells.map (renL ps) })
    | _ => .inr (.inr p)

structure Ren (cx : Cx) (c c' : Ct cx.ty) (gs : List Nat) (ps : List (Nat × SlD cx.ty)) : Prop where
  rd : ∀ b, Rd c b → Rd c' b ∧ c'.w.heap[b]? = c.w.heap[b]?
  dead : ∀ n, n ∈ c'.D ↔ n ∈ gs ∨ n ∈ c.D
  frz : ∀ n, n ∈ c'.F ↔ n ∈ c.F
  tok : ∀ tk ∈ c.T, tk.nm ∉ gs → ∀ s, tk.c = .inl s → tk ∈ c'.T
  box : ∀ tk ∈ c.T, ∀ l, tk.c = .inr l → ∃ tk' ∈ c'.T, tk'.nm = tk.nm ∧ tk'.u = tk.u ∧ tk'.c = .inr (l.map (renL ps))
  ok : ∀ p ∈ ps, ∀ tk ∈ c.T, tk.nm = p.1 → p.2.own = 1 ∧ p.2.nm ∉ c'.D ∧ p.2.nm ∉ c'.F ∧ ∃ tk' ∈ c'.T, tk'.nm = p.2.nm ∧ tk'.c = .inl p.2 ∧ tk'.u = tk.u
  live : ∀ p ∈ ps, p.1 ∉ c.D ∧ p.1 ∉ c.F

theorem renL_rep {c c' : Ct cx.ty} {gs : List Nat} {ps : List (Nat × SlD cx.ty)} (hr : Ren cx c c' gs ps) {l : L cx.ty} {u : Value} (h : RepLS cx c l u) : RepLS cx c' (renL ps l) u := by
  have up : ∀ {n : Nat} {l : L cx.ty} {u : Value}, RepL cx c.w (Rd c) n l u → RepL cx c'.w (Rd c') n l u := fun hx => RepL_mono cx (fun b hb => (hr.rd b hb).2) (fun b hb => (hr.rd b hb).1) _ _ _ hx
  have old : ∀ {l : L cx.ty}, RepLS cx c l u → RepLS cx c' l u := by
    intro l h
    match l, h with
    | none, _ => trivial
    | some (.inl v), h => exact h
    | some (.inr s), h =>
      unfold RepLS at h ⊢
      by_cases h1 : s.own = 1
      · simp only [h1, if_true] at h ⊢
        obtain ⟨hsl, h⟩ := h
        refine ⟨hsl, ?_⟩
        by_cases h2 : s.nm ∈ c'.D
        · rw [if_pos h2]; trivial
        · rw [if_neg h2]
          have h2' : s.nm ∉ gs ∧ s.nm ∉ c.D := ⟨fun hx => h2 ((hr.dead _).2 (.inl hx)), fun hx => h2 ((hr.dead _).2 (.inr hx))⟩
          simp only [h2'.2, if_false] at h
          by_cases h3 : s.nm ∈ c.F
          · rw [if_pos ((hr.frz _).2 h3)]
            simp only [h3, if_true] at h
            obtain ⟨n, h⟩ := h
            exact ⟨n, up h⟩
          · rw [if_neg (fun hx => h3 ((hr.frz _).1 hx))]
            simp only [h3, if_false] at h
            obtain ⟨tk, k1, k2, k3, k4⟩ := h
            exact ⟨tk, hr.tok tk k1 (by rw [k2]; exact h2'.1) s k3, k2, k3, k4⟩
      · simp only [h1, if_false] at h ⊢
        obtain ⟨n, h⟩ := h
        exact ⟨n, up h⟩
  unfold renL
  split
  · rename_i s
    split
    · rename_i h1
      have h1 : s.own = 1 := by simpa using h1
      split
      · rename_i p hp'
        have hm := List.mem_of_find?_eq_some hp'
        have he : p.1 = s.nm := by simpa using List.find?_some hp'
        have hl := hr.live p hm
        rw [he] at hl
        unfold RepLS at h
        simp only [h1, if_true, hl.1, hl.2, if_false] at h
        obtain ⟨hsl, tk, k1, k2, k3, k4⟩ := h
        obtain ⟨q1, q2, q3, tk', q4, q5, q6, q7⟩ := hr.ok p hm tk k1 (by rw [k2, he])
        unfold RepLS
        simp only [q1, if_true, q2, q3, if_false]
        exact ⟨hsl, tk', q4, q5, q6, q7.trans k4⟩
      · exact old h
    · exact old h
  · exact old h

theorem renA_rep {c c' : Ct cx.ty} {gs : List Nat} {ps : List (Nat × SlD cx.ty)} (hr : Ren cx c c' gs ps) {a : A cx.ty} {u : Value} (h : RepA cx c a u) : RepA cx c' (renA ps a) u := by
  match a, h with
  | .inl l, h => exact renL_rep hr h
  | .inr l, ⟨us, hu, h⟩ => exact ⟨us, hu, h.mapE fun l u h => renL_rep hr h⟩

theorem renV_rep {c c' : Ct cx.ty} {gs : List Nat} {ps : List (Nat × SlD cx.ty)} (hr : Ren cx c c' gs ps) {v : V cx.ty} {u : Value} (h : RepV cx c v u) : RepV cx c' (renV ps v) u := by
  have hel : ∀ {s : SlD cx.ty} {i b o : Nat}, RepEl cx c s i b o → RepEl cx c' s i b o := by
    rintro s i b o ⟨hb, y, hy, n, hx⟩
    refine ⟨(hr.rd b hb).1, y, hy, n, fun j q hq => ?_⟩
    obtain ⟨v, hv, hx⟩ := hx j q hq
    exact ⟨v, by rw [World.cell?_of_block (hr.rd b hb).2]; exact hv, RepL_mono cx (fun b hb => (hr.rd b hb).2) (fun b hb => (hr.rd b hb).1) _ _ _ hx⟩
  match v, h with
  | .inl a, h => exact renA_rep hr h
  | .inr (.inl l), ⟨us, hu, h⟩ =>
    refine ⟨us, hu, by rw [List.length_map]; exact h.1, fun j a u e1 e2 => ?_⟩
    rw [List.getElem?_map] at e1
    cases e0 : l[j]? with
    | none => rw [e0] at e1; simp at e1
    | some a0 =>
      rw [e0] at e1
      simp only [Option.map_some, Option.some.injEq] at e1
      subst e1
      exact renA_rep hr (h.2 j a0 u e0 e2)
  | .inr (.inr q), h =>
    have hq : RepP cx c q u := h
    unfold RepP at hq
    simp only [renV]
    split at hq
    · rename_i hk0
      obtain ⟨t2, k1, k2, k3, g2, k4, k5⟩ := hq
      obtain ⟨t3, m1, m2, m3, m4⟩ := hr.box t2 k1 _ k3
      simp only [hk0]
      show RepP cx c' { q with kind := 0, cells := q.cells.map (renL ps) } u
      unfold RepP
      simp only
      exact ⟨t3, m1, m2.trans k2, m4, g2, by rw [m3]; exact k4, k5⟩
    · rename_i hk1
      simp only [hk1]
      show RepP cx c' q u
      unfold RepP
      simp only [hk1]
      by_cases h2 : q.nm ∈ c'.D
      · rw [if_pos h2]; trivial
      · rw [if_neg h2]
        have h2' : q.nm ∉ gs ∧ q.nm ∉ c.D := ⟨fun hx => h2 ((hr.dead _).2 (.inl hx)), fun hx => h2 ((hr.dead _).2 (.inr hx))⟩
        simp only [h2'.2, if_false] at hq
        by_cases h3 : q.nm ∈ c.F
        · rw [if_pos ((hr.frz _).2 h3)]
          simp only [h3, if_true] at hq
          obtain ⟨b, o, hu, hx⟩ := hq
          exact ⟨b, o, hu, hel hx⟩
        · rw [if_neg (fun hx => h3 ((hr.frz _).1 hx))]
          simp only [h3, if_false] at hq
          obtain ⟨t2, k1, k2, k3, k4⟩ := hq
          exact ⟨t2, hr.tok t2 k1 (by rw [k2]; exact h2'.1) _ k3, k2, k3, k4⟩
    · rename_i hk2
      simp only [hk2]
      show RepP cx c' q u
      unfold RepP
      simp only [hk2]
      obtain ⟨b, o, hu, hx⟩ := hq
      exact ⟨b, o, hu, hel hx⟩
    · rename_i k0 k1 k2
      have : (match q.kind with
        | 0 => (.inr (.inr { q with cells := q.cells.map (renL ps) }) : V cx.ty)
        | _ => .inr (.inr q)) = .inr (.inr q) := by
        split
        · rename_i hh; exact (k0 hh).elim
        · rfl
      rw [this]
      show RepP cx c' q u
      unfold RepP
      split <;> first | trivial | (rename_i hh; first | exact (k0 hh).elim | exact (k1 hh).elim | exact (k2 hh).elim)

/-- What is not handed stays as it is. -/
theorem TokRep.ren {c c' : Ct cx.ty} {gs : List Nat} {ps : List (Nat × SlD cx.ty)} (hr : Ren cx c c' gs ps) {tk tk' : Tk cx.ty} (hu : tk'.u = tk.u) (hfp : tk'.fp = tk.fp) (hc : tk'.c = match tk.c with | .inl s => .inl s | .inr l => .inr (l.map (renL ps)))
    (hb : ∀ b ∈ vb tk.u ++ tk.fp, c'.w.heap[b]? = c.w.heap[b]?) (h : TokRep cx c tk) : TokRep cx c' tk' := by
  unfold TokRep at h
  split at h
  · rename_i s hs
    rw [hs] at hc
    simp only at hc
    unfold TokRep
    rw [hc]
    simp only
    rw [hu, hfp]
    obtain ⟨hv, h⟩ := h
    refine ⟨hv, ?_⟩
    split at h
    · rename_i ho
      rw [if_pos ho]
      obtain ⟨n, h⟩ := h
      exact ⟨n, OwnL_mono cx n _ _ _ hb h⟩
    · rename_i ho
      rw [if_neg ho]
      obtain ⟨hf, us, n, hrow, hl2, hx⟩ := h
      refine ⟨hf, us, n, ?_, hl2, fun j l v h1 h2 => RepL_mono cx (fun b hb => (hr.rd b hb).2) (fun b hb => (hr.rd b hb).1) n l v (hx j l v h1 h2)⟩
      obtain ⟨hx, hcx⟩ := hrow
      refine ⟨hx, ?_⟩
      rcases hcx with hcx | ⟨g2, cap2, cur2, hv', hg2, hh2, hrest⟩
      · exact .inl hcx
      · refine .inr ⟨g2, cap2, cur2, hv', hg2, ?_, hrest⟩
        rw [hb g2 (by rw [hv']; simp [vb])]
        exact hh2
  · rename_i cells hs
    rw [hs] at hc
    simp only at hc
    obtain ⟨hf, g2, cur2, e2, hu2, hh2, hx⟩ := h
    unfold TokRep
    rw [hc]
    simp only
    rw [hu, hfp]
    refine ⟨hf, g2, cur2, e2, hu2, ?_, hx.mapE fun l u h => renL_rep hr h⟩
    rw [hb g2 (by rw [hu2]; simp [vb])]
    exact hh2

/-- A state of the table behind such a call. -/
structure GoodW (cx : Cx) (c : Ct cx.ty) (ef : Eff cx.ty) (ps : List (Nat × SlD cx.ty)) (nm0 : Nat) (u : Value) (w' : World) (T' : List (Tk cx.ty)) : Prop where
  wf : Wf cx (c.nx ef w' T')
  ren : Ren cx c (c.nx ef w' T') ef.dead ps
  rep : RepV cx (c.nx ef w' T') ef.v u
  below : Kept c.N c.w w'
  names : ∀ n, Nm (c.nx ef w' T') n → Nm c n ∨ (nm0 ≤ n ∧ n < nm0 + 64)

/-- The names of what was handed, beside what came back. -/
def pairL {ty : Nat → Type} : L ty → L ty → Option (List (Nat × SlD ty))
  | some (.inr s), some (.inr s') => if s.own == 1 && s'.own == 1 then some [(s.nm, s')] else none
  | some (.inl _), _ => some []
  | _, _ => none

def pairLs {ty : Nat → Type} : List (L ty) → List (L ty) → Option (List (Nat × SlD ty))
  | a :: r, b :: q => match pairL a b, pairLs r q with
    | some x, some y => some (x ++ y)
    | _, _ => none
  | [], [] => some []
  | _, _ => none

def pairA {ty : Nat → Type} : A ty → A ty → Option (List (Nat × SlD ty))
  | .inl a, .inl b => pairL a b
  | .inr a, .inr b => pairLs a b
  | _, _ => none

def pairVs {ty : Nat → Type} : List (V ty) → List (A ty) → Option (List (Nat × SlD ty))
  | .inl a :: r, b :: q => match pairA a b, pairVs r q with
    | some x, some y => some (x ++ y)
    | _, _ => none
  | _, [] => some []
  | _, _ => none

/-- Each pair's old thing and its new one lie in one value. -/
def PairOK (cx : Cx) (c c' : Ct cx.ty) (ps : List (Nat × SlD cx.ty)) : Prop :=
  ∀ p ∈ ps, ∃ u s, s.own = 1 ∧ s.nm = p.1 ∧ RepLS cx c (some (.inr s)) u ∧ p.2.own = 1 ∧ RepLS cx c' (some (.inr p.2)) u

theorem PairOK.app {c c' : Ct cx.ty} {a b : List (Nat × SlD cx.ty)} (h1 : PairOK cx c c' a) (h2 : PairOK cx c c' b) : PairOK cx c c' (a ++ b) :=
  fun p hp => (List.mem_append.1 hp).elim (h1 p) (h2 p)

theorem pairL_ok {c c' : Ct cx.ty} {a b : L cx.ty} {u : Value} {ps : List (Nat × SlD cx.ty)} (h1 : RepLS cx c a u) (h2 : RepLS cx c' b u) (h : pairL a b = some ps) : PairOK cx c c' ps := by
  unfold pairL at h
  split at h
  · rename_i s s'
    split at h
    · rename_i hc
      simp only [Bool.and_eq_true, beq_iff_eq] at hc
      simp only [Option.some.injEq] at h
      subst h
      intro p hp
      simp only [List.mem_singleton] at hp
      subst hp
      exact ⟨u, s, hc.1, rfl, h1, hc.2, h2⟩
    · simp at h
  · simp only [Option.some.injEq] at h
    subst h
    intro p hp
    simp at hp
  · simp at h

theorem pairLs_ok {c c' : Ct cx.ty} : ∀ (a b : List (L cx.ty)) (us : List Value) (ps : List (Nat × SlD cx.ty)), RepLs cx c a us → RepLs cx c' b us → pairLs a b = some ps → PairOK cx c c' ps
  | [], [], us, ps, _, _, h => by
    simp only [pairLs, Option.some.injEq] at h
    subst h
    intro p hp
    simp at hp
  | a :: r, b :: q, us, ps, h1, h2, h => by
    simp only [pairLs] at h
    split at h
    · rename_i x y e1 e2
      simp only [Option.some.injEq] at h
      subst h
      match us, h1, h2 with
      | [], h1, _ => simp [RepLs] at h1
      | u :: us, h1, h2 =>
        exact (pairL_ok (h1.2 0 a u rfl rfl) (h2.2 0 b u rfl rfl) e1).app (pairLs_ok r q us y ⟨by simpa using h1.1, fun j a u e1 e2 => h1.2 (j + 1) a u (by simpa using e1) (by simpa using e2)⟩ ⟨by simpa using h2.1, fun j a u e1 e2 => h2.2 (j + 1) a u (by simpa using e1) (by simpa using e2)⟩ e2)
    · simp at h
  | [], _ :: _, _, _, _, _, h => by simp [pairLs] at h
  | _ :: _, [], _, _, _, _, h => by simp [pairLs] at h

theorem pairA_ok {c c' : Ct cx.ty} {a b : A cx.ty} {u : Value} {ps : List (Nat × SlD cx.ty)} (h1 : RepA cx c a u) (h2 : RepA cx c' b u) (h : pairA a b = some ps) : PairOK cx c c' ps := by
  match a, b, h1, h2, h with
  | .inl a, .inl b, h1, h2, h => exact pairL_ok h1 h2 h
  | .inr a, .inr b, ⟨us, hu, h1⟩, ⟨us2, hu2, h2⟩, h =>
    have : us = us2 := by
      rw [hu] at hu2
      simp only [Value.agg.injEq] at hu2
      have := congrArg Array.toList hu2
      simpa using this
    subst this
    exact pairLs_ok a b us ps h1 h2 h
  | .inl _, .inr _, _, _, h => simp [pairA] at h
  | .inr _, .inl _, _, _, h => simp [pairA] at h

theorem pairVs_ok {c c' : Ct cx.ty} : ∀ (a : List (V cx.ty)) (b : List (A cx.ty)) (us us' : List Value) (ps : List (Nat × SlD cx.ty)), (∀ (j : Nat) v u, a[j]? = some v → us[j]? = some u → RepV cx c v u) → us.length = a.length → RepAs cx c' b us' → us' = us.take b.length → pairVs a b = some ps → PairOK cx c c' ps
  | [], [], us, us', ps, _, _, _, _, h => by
    simp only [pairVs, Option.some.injEq] at h
    subst h
    intro p hp
    simp at hp
  | v :: r, [], us, us', ps, _, _, _, _, h => by
    have : ps = [] := by
      unfold pairVs at h
      split at h <;> simp_all
    subst this
    intro p hp
    simp at hp
  | v :: r, b :: q, us, us', ps, h1, hl, h2, he, h => by
    match us, hl with
    | [], hl => simp at hl
    | u :: us, hl =>
      subst he
      match v, h with
      | .inl a, h =>
        simp only [pairVs] at h
        split at h
        · rename_i x y e1 e2
          simp only [Option.some.injEq] at h
          subst h
          have k1 : RepA cx c a u := h1 0 _ u rfl rfl
          have k2 : RepA cx c' b u := h2.2 0 b u rfl (by simp)
          refine (pairA_ok k1 k2 e1).app (pairVs_ok r q us (us.take q.length) y (fun j a u e1 e2 => h1 (j + 1) a u (by simpa using e1) (by simpa using e2)) (by simpa using hl) ⟨?_, fun j a u e1 e2 => h2.2 (j + 1) a u (by simpa using e1) (by simpa using e2)⟩ rfl e2)
          have := h2.1
          simpa using this
        · simp at h
      | .inr _, h => simp [pairVs] at h
  | [], _ :: _, _, _, _, _, _, _, _, h => by simp [pairVs] at h

def packV {ty : Nat → Type} (l : List (A ty)) : V ty :=
  match l with
  | [a] => .inl a
  | l => .inr (.inl l)

structure WFn (cx : Cx) where
  nres : Nat
  n : Nat
  F : List (A cx.ty) → Option (Bool × List (A cx.ty))
  /-- 0: the first things come back; 1: the first is a pointer to a box; 2: a new box comes back -/
  p : Nat := 0
  /-- of kind 6: where in the box the pointer points, and the box's type (none: at its head, the pointer's own) -/
  bx : Option (Nat × TypeId) := none

def nodupB : List Nat → Bool
  | [] => true
  | a :: r => !r.contains a && nodupB r

theorem nodupB_spec : ∀ l : List Nat, nodupB l = true → l.Nodup
  | [], _ => List.nodup_nil
  | a :: r, h => by
    simp only [nodupB, Bool.and_eq_true] at h
    exact List.nodup_cons.2 ⟨by simpa using h.1, nodupB_spec r h.2⟩

/-- The call: what it hands back, what the handed things are from then on. -/
def evCallW {β : Type} (P : Program) (f : FuncId) (W : WFn cx) (slots : List (V cx.ty)) (args : List Operand) (ts : List TypeId) (nm0 : Nat) (k : Eff cx.ty → List (Nat × SlD cx.ty) → Option β) : Option β :=
  match P.funcs[f]?, giveVs cx P ts (args.map (getV slots)) with
  | some fn, some (as, gs) => if fn.body.isSome && fn.name != "runtime.NumGoroutine" && nodupB gs then
      match W.F as with
      | some (pre, cs) => bif pre then
          (if fitsV (.inr (.inl cs) : V cx.ty) && noRoV (.inr (.inl cs) : V cx.ty) then
            match pairVs (args.map (getV slots)) ((bindAs nm0 cs).drop W.nres) with
            | some ps => if ps.all (fun p => decide (nm0 ≤ p.2.nm) && decide (p.2.nm < nm0 + 64)) then k { v := packV ((bindAs nm0 cs).take W.nres), dead := gs, frz := [], live := gs ++ ps.map (·.1), read := [] } ps else none
            | none => none
          else none)
        else none
      | none => none
    else none
  | _, _ => none

theorem repAs_take {c : Ct cx.ty} {l : List (A cx.ty)} {us : List Value} (h : RepAs cx c l us) (n : Nat) : RepAs cx c (l.take n) (us.take n) :=
  ⟨by simp [h.1], fun j a u e1 e2 => by
    rw [List.getElem?_take] at e1 e2
    split at e1
    · rename_i hj
      rw [if_pos hj] at e2
      exact h.2 j a u e1 e2
    · simp at e1⟩

theorem repAs_drop {c : Ct cx.ty} {l : List (A cx.ty)} {us : List Value} (h : RepAs cx c l us) (n : Nat) : RepAs cx c (l.drop n) (us.drop n) :=
  ⟨by simp [h.1], fun j a u e1 e2 => by
    rw [List.getElem?_drop] at e1 e2
    exact h.2 _ a u e1 e2⟩

theorem packV_rep {c : Ct cx.ty} {l : List (A cx.ty)} {us : List Value} (h : RepAs cx c l us) : RepV cx c (packV l) (packR us) := by
  unfold packV packR
  split
  · rename_i a
    have hl : us.length = 1 := h.1
    rw [dif_pos hl]
    exact h.2 0 a _ rfl (List.getElem?_eq_getElem (by omega))
  · rename_i hne
    rw [dif_neg (fun hl => ?_)]
    · exact ⟨us, rfl, h⟩
    · rw [h.1] at hl
      match l, hl, hne with
      | [a], _, hne => exact hne a rfl

theorem uniq_tok {c : Ct cx.ty} (h : Wf cx c) {a b : Tk cx.ty} (ha : a ∈ c.T) (hb : b ∈ c.T) (hn : a.nm = b.nm) : a = b := by
  rcases Classical.em (a = b) with h1 | h1
  · exact h1
  · exfalso
    have hnd := h.names
    obtain ⟨l1, l2, hl⟩ := List.append_of_mem hb
    rw [hl] at hnd ha
    rw [List.map_append, List.map_cons, List.nodup_append] at hnd
    rcases List.mem_append.1 ha with h3 | h3
    · exact hnd.2.2 a.nm (List.mem_map.2 ⟨a, h3, rfl⟩) b.nm (List.mem_cons_self ..) hn
    · rcases List.mem_cons.1 h3 with h3 | h3
      · exact h1 h3
      · exact (List.nodup_cons.1 hnd.2.1).1 (List.mem_map.2 ⟨a, h3, hn⟩)

theorem evCallW_ok (ok : cx.Ok) {β : Type} {o : Oper} {slots : List (V cx.ty)} {nm0 : Nat} {f : FuncId} {args : Array Operand} {ts : Array TypeId} {W : WFn cx} (hK : SatW P cx f W.nres W.n W.F)
    (ho : o.op = .call { callee := .value (.func f), args := args, argTypes := ts }) {k : Eff cx.ty → List (Nat × SlD cx.ty) → Option β} {r : β}
    (h : evCallW P f W slots args.toList ts.toList nm0 k = some r) : ∃ ef ps, k ef ps = some r ∧
      ∀ (c : Ct cx.ty) (ρ : Operand → Value), Wf cx c → (∀ x ∈ o.op.operands, RepV cx c (getV slots x) (ρ x)) → (∀ n ∈ ef.live, n ∉ c.D ∧ n ∉ c.F) →
        (∀ n, Nm c n → ¬ (nm0 ≤ n ∧ n < nm0 + 64)) → Runs P o ρ c.w (fun u w' => ∃ T', GoodW cx c ef ps nm0 u w' T') := by
  unfold evCallW at h
  split at h
  · rename_i fn as gs hfn hargs
    split at h
    · rename_i hc
      simp only [Bool.and_eq_true, bne_iff_ne, ne_eq] at hc
      obtain ⟨⟨hbody, hname⟩, hgs⟩ := hc
      split at h
      · rename_i pre cs hF
        cases pre with
        | false => simp at h
        | true =>
          simp only [cond_true] at h
          split at h
          · rename_i hfit
            simp only [Bool.and_eq_true] at hfit
            obtain ⟨hfit, hro⟩ := hfit
            split at h
            · rename_i ps hps
              split at h
              · rename_i hband
                refine ⟨_, ps, h, fun c ρ hw hop hlive hf => ?_⟩
                have hopj : ∀ (j : Nat) a u, (args.toList.map (getV slots))[j]? = some a → (args.toList.map ρ)[j]? = some u → RepV cx c a u := fun j a u h1 h2 => by
                  simp only [List.getElem?_map] at h1 h2
                  cases hx : args.toList[j]? with
                  | none => simp [hx] at h1
                  | some x =>
                    simp only [hx, Option.map_some, Option.some.injEq] at h1 h2
                    subst h1; subst h2
                    exact hop x (by
                      have : x ∈ args := by simpa using List.mem_of_getElem? hx
                      simp [ho, Op.operands, Call.operands, this])
                obtain ⟨fps, hres, tks, hg1, hg2, hg3⟩ := giveVs_rep ok hw ts.toList _ as gs (args.toList.map ρ) hargs (by simp) hopj (fun n hn => hlive n (List.mem_append.2 (.inl hn)))
                have hgn : gs.Nodup := nodupB_spec gs hgs
                have hfnd : (List.flatten fps).Nodup := by
                  rw [hg3]
                  exact flatMap_inj_nodup hw.nodup hw.names tks (by rw [hg1]; exact hgn) (fun tk ht => (hg2 tk ht).1)
                have hfb : ∀ b ∈ List.flatten fps, ∃ tk ∈ c.T, tk.nm ∈ gs ∧ b ∈ blocks tk := fun b hb => by
                  rw [hg3] at hb
                  obtain ⟨tk, k1, k2⟩ := List.mem_flatMap.1 hb
                  exact ⟨tk, (hg2 tk k1).1, by rw [← hg1]; exact List.mem_map.2 ⟨tk, k1, rfl⟩, k2⟩
                have hflt : ∀ b ∈ List.flatten fps, b < c.w.heap.size := fun b hb => by
                  obtain ⟨tk, k1, _, k3⟩ := hfb b hb
                  exact (hw.bound tk k1 b k3).2
                unfold Runs
                have hrun : (execOp ρ o).run P c.w = .ok (.enter f (args.map ρ)) c.w := by
                  have hb : ¬ fn.body = none := by
                    intro hbb
                    simp [hbb] at hbody
                  have hfv := hop (.func f) (by simp [ho, Op.operands, Call.operands])
                  have hfv : ρ (.func f) = .func (.func f) #[] #[] := hfv
                  unfold execOp
                  simp [ho, resolve, Deferred.ofValue, invoke, callFunc, hfv, hfn, hb, hname]
                rw [hrun]
                have hcall := hK c.w as (args.toList.map ρ) fps cs hres hfnd hflt hF
                have hargsEq : (args.toList.map ρ).toArray = args.map ρ := Array.ext' (by simp)
                rw [hargsEq] at hcall
                refine hcall.mono fun e w' ⟨rs, he, hrl, hkept, hresv⟩ => ⟨_, he, ?_⟩
                obtain ⟨fp, N, hnd, hbd, hN⟩ := ResV.bind nm0 hfit hresv
                have hother : ∀ tk ∈ c.T, tk.nm ∉ gs → ∀ b ∈ blocks tk, b ∉ List.flatten fps := fun tk ht hn b hb hb2 => by
                  obtain ⟨t2, k1, k2, k3⟩ := hfb b hb2
                  exact disjoint_toks hw ht k1 (fun e => hn (e ▸ k2)) hb k3
                have hheap : ∀ b, b < c.w.heap.size → b ∉ List.flatten fps → w'.heap[b]? = c.w.heap[b]? := fun b h1 h2 => hkept.block b (by
                  rintro (h3 | h3)
                  · omega
                  · exact h2 h3)
                have hgT : ∀ n ∈ gs, ∃ tk ∈ c.T, tk.nm = n := fun n hn => by
                  rw [← hg1] at hn
                  obtain ⟨tk, k1, k2⟩ := List.mem_map.1 hn
                  exact ⟨tk, (hg2 tk k1).1, k2⟩
                have hgfp : ∀ tk ∈ c.T, tk.nm ∈ gs → tk.fp = [] ∧ (∃ s, tk.c = .inl s) ∧ ∀ b ∈ blocks tk, b ∈ List.flatten fps := fun tk ht hn => by
                  rw [← hg1] at hn
                  obtain ⟨t2, k1, k2⟩ := List.mem_map.1 hn
                  have := uniq_tok hw (hg2 t2 k1).1 ht k2
                  subst this
                  refine ⟨(hg2 t2 k1).2.1, (hg2 t2 k1).2.2, fun b hb => ?_⟩
                  rw [hg3]
                  exact List.mem_flatMap.2 ⟨t2, k1, hb⟩
                -- the new table
                have hmem : ∀ tk, tk ∈ c.T.filter (fun tk => !gs.contains tk.nm) ↔ tk ∈ c.T ∧ tk.nm ∉ gs := fun tk => by simp [List.mem_filter]
                let upB : Tk cx.ty → Tk cx.ty := fun tk => match tk.c with
                  | .inl _ => tk
                  | .inr l => { tk with c := .inr (l.map (renL ps)) }
                have upnm : ∀ tk, (upB tk).nm = tk.nm := fun tk => by simp only [upB]; split <;> rfl
                have upu : ∀ tk, (upB tk).u = tk.u := fun tk => by simp only [upB]; split <;> rfl
                have upfp : ∀ tk, (upB tk).fp = tk.fp := fun tk => by simp only [upB]; split <;> rfl
                have upl : ∀ tk s, tk.c = .inl s → upB tk = tk := fun tk s e => by simp only [upB]; rw [e]
                have upc : ∀ tk, (upB tk).c = match tk.c with | .inl s => .inl s | .inr l => .inr (l.map (renL ps)) := fun tk => by
                  simp only [upB]
                  split
                  · rename_i s hs; rw [hs]
                  · rename_i l hs; rfl
                have upm : ∀ t2, t2 ∈ (c.T.filter (fun tk => !gs.contains tk.nm)).map upB → ∃ tk, tk ∈ c.T ∧ tk.nm ∉ gs ∧ t2 = upB tk := fun t2 h2 => by
                  obtain ⟨tk, k1, k2⟩ := List.mem_map.1 h2
                  exact ⟨tk, ((hmem tk).1 k1).1, ((hmem tk).1 k1).2, k2.symm⟩
                have upin : ∀ tk, tk ∈ c.T → tk.nm ∉ gs → upB tk ∈ (c.T.filter (fun tk => !gs.contains tk.nm)).map upB := fun tk h1 h2 => List.mem_map.2 ⟨tk, (hmem tk).2 ⟨h1, h2⟩, rfl⟩
                refine ⟨N ++ (c.T.filter (fun tk => !gs.contains tk.nm)).map upB, ?_⟩
                generalize hef : ({ v := packV ((bindAs nm0 cs).take W.nres), dead := gs, frz := [], live := gs ++ ps.map (·.1), read := [] } : Eff cx.ty) = ef
                have hefd : ef.dead = gs := by rw [← hef]
                have heff : ef.frz = [] := by rw [← hef]
                have hefv : ef.v = packV ((bindAs nm0 cs).take W.nres) := by rw [← hef]
                have hefl : ∀ n ∈ ef.live, n ∉ c.D ∧ n ∉ c.F := by rw [← hef]; exact hlive
                have hgs_nm : ∀ n ∈ gs, Nm c n := fun n hn => by
                  obtain ⟨tk, k1, k2⟩ := hgT n hn
                  exact .inl ⟨tk, k1, k2⟩
                have hblkN : ∀ tk ∈ N, ∀ b ∈ blocks tk, b ∈ fp := fun tk ht b hb => by
                  rw [← hN.fp]
                  exact List.mem_flatMap.2 ⟨tk, ht, hb⟩
                have hrd : ∀ b, Rd c b → Rd (c.nx ef w' (N ++ (c.T.filter (fun tk => !gs.contains tk.nm)).map upB)) b ∧ w'.heap[b]? = c.w.heap[b]? := by
                  intro b hb
                  obtain ⟨h1, h2, h3⟩ := hb
                  have hnf : b ∉ List.flatten fps := fun hb2 => by
                    obtain ⟨tk, k1, k2, k3⟩ := hfb b hb2
                    have := (hgfp tk k1 k2).1
                    simp only [blocks, this, List.append_nil] at k3
                    exact h3 tk k1 k3
                  refine ⟨⟨Nat.lt_of_lt_of_le h1 hkept.size, h2, fun tk ht hv => ?_⟩, hheap b h1 hnf⟩
                  rcases List.mem_append.1 ht with ht | ht
                  · have := (hbd b (hblkN tk ht b (List.mem_append.2 (.inl hv)))).1
                    rcases this with h4 | h4
                    · omega
                    · exact hnf h4
                  · obtain ⟨t2, q1, q2, rfl⟩ := upm tk ht
                    rw [upu] at hv
                    exact h3 t2 q1 hv
                have hnewD : ∀ n, nm0 ≤ n ∧ n < nm0 + 64 → n ∉ (c.nx ef w' (N ++ (c.T.filter (fun tk => !gs.contains tk.nm)).map upB)).D ∧ n ∉ (c.nx ef w' (N ++ (c.T.filter (fun tk => !gs.contains tk.nm)).map upB)).F := fun n hn => by
                  refine ⟨fun hd => ?_, fun hd => ?_⟩
                  · rcases List.mem_append.1 hd with h1 | h1
                    · rw [hefd] at h1
                      exact hf n (hgs_nm n h1) hn
                    · exact hf n (.inr (.inl h1)) hn
                  · rcases List.mem_append.1 hd with h1 | h1
                    · rw [heff] at h1; simp at h1
                    · exact hf n (.inr (.inr h1)) hn
                have hsub : List.Sublist ((c.T.filter (fun tk => !gs.contains tk.nm)).flatMap fun tk => vb tk.u ++ tk.fp) (c.T.flatMap fun tk => vb tk.u ++ tk.fp) := by
                  have : ∀ T : List (Tk cx.ty), List.Sublist ((T.filter (fun tk => !gs.contains tk.nm)).flatMap fun tk => vb tk.u ++ tk.fp) (T.flatMap fun tk => vb tk.u ++ tk.fp) := by
                    intro T
                    induction T with
                    | nil => exact List.Sublist.refl _
                    | cons x r ih =>
                      rw [List.filter_cons]
                      split
                      · rw [List.flatMap_cons, List.flatMap_cons]; exact (List.Sublist.refl _).append ih
                      · rw [List.flatMap_cons]; exact ih.trans (List.sublist_append_right _ _)
                  exact this _
                have hNboth := hN.both (c.nx ef w' (N ++ (c.T.filter (fun tk => !gs.contains tk.nm)).map upB)) rfl (fun tk ht => ⟨List.mem_append.2 (.inl ht), (hnewD tk.nm (hN.nm tk ht)).1, (hnewD tk.nm (hN.nm tk ht)).2⟩) (fun b hb => by
                  rcases hb with hb | ⟨h1, h2, h3⟩
                  · exact hb.elim
                  · refine ⟨h2, .inr ?_, fun tk ht hv => ?_⟩
                    · rcases h1 with h1 | h1
                      · exact hw.size b h1
                      · obtain ⟨tk, k1, _, k3⟩ := hfb b h1
                        exact (hw.bound tk k1 b k3).1
                    · rcases List.mem_append.1 ht with ht | ht
                      · exact h3 (hblkN tk ht b (List.mem_append.2 (.inl hv)))
                      · obtain ⟨tk, q1, q2, rfl⟩ := upm tk ht
                        rw [upu] at hv
                        rcases h1 with h1 | h1
                        · have := (hw.bound tk q1 b (List.mem_append.2 (.inl hv))).2
                          omega
                        · exact hother tk q1 q2 b (List.mem_append.2 (.inl hv)) h1)
                obtain ⟨us', hus', hreps⟩ := hNboth.1
                have hus : us' = rs ++ (args.toList.map ρ).take W.n := by
                  simp only [Value.tuple.injEq] at hus'
                  have := congrArg Array.toList hus'
                  simpa using this.symm
                subst hus
                have hren : Ren cx c (c.nx ef w' (N ++ (c.T.filter (fun tk => !gs.contains tk.nm)).map upB)) ef.dead ps := by
                  refine ⟨hrd, fun n => ?_, fun n => ?_, fun tk ht hn s hs => ?_, fun tk ht l hl => ?_, ?_, ?_⟩
                  · show n ∈ ef.dead ++ c.D ↔ _
                    exact List.mem_append
                  · show n ∈ ef.frz ++ c.F ↔ _
                    rw [heff]; simp
                  · have := upin tk ht (by rw [← hefd]; exact hn)
                    rw [upl tk s hs] at this
                    exact List.mem_append.2 (.inr this)
                  · have hn : tk.nm ∉ gs := fun hd => by
                      obtain ⟨s, hs⟩ := (hgfp tk ht hd).2.1
                      rw [hl] at hs
                      cases hs
                    refine ⟨upB tk, List.mem_append.2 (.inr (upin tk ht hn)), upnm tk, upu tk, ?_⟩
                    rw [upc, hl]
                  · have hd := repAs_drop hreps W.nres
                    have e1 : (rs ++ (args.toList.map ρ).take W.n).drop W.nres = (args.toList.map ρ).take W.n := by rw [← hrl, List.drop_left]
                    rw [e1] at hd
                    have hpo := pairVs_ok (c := c) _ _ (args.toList.map ρ) _ ps hopj (by simp) hd (by
                      rw [← hd.1, List.length_take, List.take_eq_take_min]) hps
                    have hlv : ∀ p ∈ ps, p.1 ∉ c.D ∧ p.1 ∉ c.F := fun p hp => hlive p.1 (List.mem_append.2 (.inr (List.mem_map.2 ⟨p, hp, rfl⟩)))
                    intro p hp tk ht hn
                    obtain ⟨u, s, a1, a2, a3, a4, a5⟩ := hpo p hp
                    have hb0 := List.all_eq_true.1 hband p hp
                    simp only [Bool.and_eq_true, decide_eq_true_eq] at hb0
                    have hnD := hnewD p.2.nm hb0
                    refine ⟨a4, hnD.1, hnD.2, ?_⟩
                    unfold RepLS at a3 a5
                    have hl := hlv p hp
                    simp only [a1, a2, if_true, hl.1, hl.2, if_false] at a3
                    obtain ⟨_, tk1, b1, b2, _, b4⟩ := a3
                    have := uniq_tok hw b1 ht (b2.trans hn.symm)
                    subst this
                    simp only [a4, if_true, hnD.1, hnD.2, if_false] at a5
                    obtain ⟨_, tk2, d1, d2, d3, d4⟩ := a5
                    exact ⟨tk2, d1, d2, d3, d4.trans b4.symm⟩
                  · exact fun p hp => hlive p.1 (List.mem_append.2 (.inr (List.mem_map.2 ⟨p, hp, rfl⟩)))
                refine ⟨⟨?_, ?_, ?_, ?_, hw.start, ?_, fun b hb => hw.size b (Nat.le_trans hkept.size hb)⟩, hren, ?_, ⟨hkept.os, hkept.tape, hkept.output, hkept.size, fun b hb => hkept.block b (fun h1 => hb ?_)⟩, ?_⟩
                · show ((N ++ _).map (·.nm)).Nodup
                  rw [List.map_append, List.nodup_append]
                  have e0 : ((c.T.filter (fun tk => !gs.contains tk.nm)).map upB).map (·.nm) = (c.T.filter (fun tk => !gs.contains tk.nm)).map (·.nm) := by
                    rw [List.map_map]
                    exact List.map_congr_left (fun tk _ => upnm tk)
                  rw [e0]
                  refine ⟨hN.nd, (List.Sublist.map _ List.filter_sublist).nodup hw.names, fun a ha b hb' he => ?_⟩
                  obtain ⟨t1, h1, rfl⟩ := List.mem_map.1 ha
                  obtain ⟨t2, h2, rfl⟩ := List.mem_map.1 hb'
                  exact hf t2.nm (.inl ⟨t2, ((hmem t2).1 h2).1, rfl⟩) (by have := hN.nm t1 h1; omega)
                · show ((N ++ _).flatMap _).Nodup
                  have e0 : (((c.T.filter (fun tk => !gs.contains tk.nm)).map upB).flatMap fun tk => vb tk.u ++ tk.fp) = ((c.T.filter (fun tk => !gs.contains tk.nm)).flatMap fun tk => vb tk.u ++ tk.fp) := by
                    rw [List.flatMap_map]
                    congr 1
                    exact funext fun tk => by rw [upu, upfp]
                  rw [List.flatMap_append, List.nodup_append, e0]
                  refine ⟨by rw [hN.fp]; exact hnd, hsub.nodup hw.nodup, fun a ha b hb' he => ?_⟩
                  subst he
                  rw [hN.fp] at ha
                  obtain ⟨t2, h2, h2'⟩ := List.mem_flatMap.1 hb'
                  obtain ⟨q1, q2⟩ := (hmem t2).1 h2
                  rcases (hbd a ha).1 with h1 | h1
                  · have := (hw.bound t2 q1 a h2').2
                    omega
                  · exact hother t2 q1 q2 a h2' h1
                · intro tk ht b hb'
                  rcases List.mem_append.1 ht with ht | ht
                  · have := hbd b (hblkN tk ht b hb')
                    refine ⟨?_, this.2⟩
                    rcases this.1 with h1 | h1
                    · exact hw.size b h1
                    · obtain ⟨t2, k1, _, k3⟩ := hfb b h1
                      exact (hw.bound t2 k1 b k3).1
                  · obtain ⟨t2, q1, q2, rfl⟩ := upm tk ht
                    rw [upu, upfp] at hb'
                    have := hw.bound t2 q1 b hb'
                    exact ⟨this.1, Nat.lt_of_lt_of_le this.2 hkept.size⟩
                · intro tk ht
                  rcases List.mem_append.1 ht with ht | ht
                  · exact hNboth.2 tk ht
                  · obtain ⟨t2, q1, q2, rfl⟩ := upm tk ht
                    exact TokRep.ren hren (upu t2) (upfp t2) (upc t2) (fun b hb' => hheap b (hw.bound t2 q1 b hb').2 (hother t2 q1 q2 b hb')) (hw.rep t2 q1)
                · intro tk ht
                  rcases List.mem_append.1 ht with ht | ht
                  · exact hnewD tk.nm (hN.nm tk ht)
                  · obtain ⟨t2, q1, q2, rfl⟩ := upm tk ht
                    rw [upnm]
                    refine ⟨fun hd => ?_, fun hd => ?_⟩
                    · rcases List.mem_append.1 hd with h1 | h1
                      · rw [hefd] at h1; exact q2 h1
                      · exact (hw.live t2 q1).1 h1
                    · rcases List.mem_append.1 hd with h1 | h1
                      · rw [heff] at h1; simp at h1
                      · exact (hw.live t2 q1).2 h1
                · rw [hefv]
                  have ht := repAs_take hreps W.nres
                  have : (rs ++ (args.toList.map ρ).take W.n).take W.nres = rs := by rw [← hrl, List.take_left]
                  rw [this] at ht
                  exact packV_rep ht
                · rcases h1 with h1 | h1
                  · exact hw.size b h1
                  · obtain ⟨t2, k1, _, k3⟩ := hfb b h1
                    exact (hw.bound t2 k1 b k3).1
                · intro n hn
                  rcases hn with ⟨tk, ht, rfl⟩ | hn | hn
                  · rcases List.mem_append.1 ht with ht | ht
                    · exact .inr (hN.nm tk ht)
                    · obtain ⟨t2, q1, q2, rfl⟩ := upm tk ht
                      rw [upnm]
                      exact .inl (.inl ⟨t2, q1, rfl⟩)
                  · rcases List.mem_append.1 hn with h1 | h1
                    · rw [hefd] at h1
                      exact .inl (hgs_nm n h1)
                    · exact .inl (.inr (.inl h1))
                  · rcases List.mem_append.1 hn with h1 | h1
                    · rw [heff] at h1; simp at h1
                    · exact .inl (.inr (.inr h1))
              · simp at h
            · simp at h
          · simp at h
      · simp at h
    · simp at h
  · simp at h

/-- The state behind such a call. -/
def St.appW {ty : Nat → Type} (st : St ty) (d : Option Tmp) (ef : Eff ty) (ps : List (Nat × SlD ty)) : St ty :=
  { slots := setO (st.slots.map (renV ps)) d ef.v, D := ef.dead ++ st.D, F := ef.frz ++ st.F, ctr := st.ctr + 1, lo := st.lo, ps := st.ps }

theorem RS.appW {c : Ct cx.ty} {st : St cx.ty} {a : Act} (h : RS cx c st a) {d : Option Tmp} (hd : smallO d = true) (hlo : loO st.lo d = true) {ef : Eff cx.ty} {u : Value} {w' : World} {T' : List (Tk cx.ty)} {ps : List (Nat × SlD cx.ty)} (hg : GoodW cx c ef ps (nmOf st.ctr d) u w' T') : RS cx (c.nx ef w' T') (st.appW d ef ps) (a.put d u) := by
  have hs : a.tmps.size = (st.slots.map (renV ps)).length := by rw [List.length_map]; exact h.size
  refine ⟨hg.wf, put_size hs d ef.v u, ?_, by rw [put_defers]; exact h.defers, fun n => ?_, fun n => ?_, fun n hn => ?_, fun p u' hp => ⟨(h.kp p u' hp).1, (put_lo hlo u (h.kp p u' hp).1).trans (h.kp p u' hp).2⟩, h.pr.keep rfl rfl (fun b hb => (hg.ren.rd b (h.wf.rdS hb)).2), PdOK.none⟩
  · refine put_rep hs (fun t => ?_) d hg.rep
    have : (st.slots.map (renV ps)).getD t junk = renV ps (st.slots.getD t junk) := by
      by_cases hlt : t < st.slots.length
      · simp [List.getD, hlt]
      · simp [List.getD, List.getElem?_eq_none (Nat.le_of_not_lt hlt), junk, renV, renA, renL]
    rw [this]
    exact renV_rep hg.ren (h.rep t)
  · simp [Ct.nx, St.appW, h.dead n]
  · simp [Ct.nx, St.appW, h.frz n]
  · rcases hg.names n hn with hn | hn
    · exact Nat.lt_of_lt_of_le (h.names n hn) (Nat.mul_le_mul_right _ (Nat.le_succ _))
    · exact band_lt hd hn

abbrev Kwt (cx : Cx) := FuncId → Option (WFn cx)

def wcallOf (Kw : Kwt cx) (o : Oper) : Option (FuncId × WFn cx × Call) :=
  if o.guard.isNone then
    match o.op with
    | .call cl => match cl.callee with
      | .value (.func f) => match Kw f with
        | some W => some (f, W, cl)
        | none => none
      | _ => none
    | _ => none
  else none

theorem wcallOf_eq {Kw : Kwt cx} {o : Oper} {f : FuncId} {W : WFn cx} {cl : Call} (h : wcallOf Kw o = some (f, W, cl)) : o.guard = none ∧ Kw f = some W ∧ o.op = .call { callee := .value (.func f), args := cl.args, argTypes := cl.argTypes } := by
  unfold wcallOf at h
  split at h
  · rename_i hg
    split at h
    · rename_i cl' ho
      split at h
      · rename_i f' hcal
        split at h
        · rename_i W' hk
          simp only [Option.some.injEq, Prod.mk.injEq] at h
          obtain ⟨rfl, rfl, rfl⟩ := h
          obtain ⟨cal, args, ts⟩ := cl'
          simp only at hcal
          subst hcal
          exact ⟨by simpa using hg, hk, ho⟩
        · simp at h
      · simp at h
    · simp at h
  · simp at h

/-- A guarded call that writes through a pointer. -/
def wcallG (Kw : Kwt cx) (o : Oper) : Option (Nat × Bool × FuncId × WFn cx × Call) :=
  match o.guard with
  | some (g, want) => match wcallOf Kw { o with guard := none } with
    | some (f, W, cl) => if W.p = 1 then some (g, want, f, W, cl) else none
    | none => none
  | none => none
theorem wcallG_eq {Kw : Kwt cx} {o : Oper} {g : Nat} {want : Bool} {f : FuncId} {W : WFn cx} {cl : Call} (h : wcallG Kw o = some (g, want, f, W, cl)) : o.guard = some (g, want) ∧ Kw f = some W ∧ o.op = .call { callee := .value (.func f), args := cl.args, argTypes := cl.argTypes } ∧ W.p = 1 := by
  unfold wcallG at h
  split at h
  · rename_i g' w' hg
    split at h
    · rename_i f' W' cl' hw
      split at h
      · rename_i hp
        simp only [Option.some.injEq, Prod.mk.injEq] at h
        obtain ⟨rfl, rfl, rfl, rfl, rfl⟩ := h
        obtain ⟨_, h2, h3⟩ := wcallOf_eq hw
        exact ⟨hg, h2, h3, hp⟩
      · simp at h
    · simp at h
  · simp at h

end
end Go.VM
