/- A part of the proof of FnExactSharesFault: VmA4. -/
import Derived.Test.YtmdmeakelebfcaaVmA3
namespace Go.VM
open Go.RowKit
section
variable {cx : Cx} {P : Program}

theorem vb_nodup (u : Value) : (vb u).Nodup := by
  unfold vb
  split <;> simp

/-- Some rows of the table give way to a new one. -/
theorem good_repl {c : Ct cx.ty} (h : Wf cx c) {w' : World} {nm0 : Nat} (hf : ∀ n, Nm c n → ¬ (nm0 ≤ n ∧ n < nm0 + 64)) {dn r : List Nat} (hdn : ∀ tk ∈ c.T, tk.nm ∈ dn → ∃ s, tk.c = .inl s) (hdT : ∀ n ∈ dn, ∃ tk ∈ c.T, tk.nm = n) {u' : Value} {s' : SlD cx.ty} (hs' : s'.own = 1 ∧ s'.nm = nm0)
    (hblk : ∀ b ∈ vb u', (∃ tk ∈ c.T, tk.nm ∈ dn ∧ b ∈ vb tk.u) ∨ (c.w.heap.size ≤ b ∧ b < w'.heap.size))
    (hheap : ∀ b, b < c.w.heap.size → (∀ tk ∈ c.T, tk.nm ∈ dn → b ∉ vb tk.u) → w'.heap[b]? = c.w.heap[b]?) (hsz : c.w.heap.size ≤ w'.heap.size) (hbel : Kept c.N c.w w')
    (htok : ∀ c' : Ct cx.ty, c'.w = w' → TokRep cx c' { nm := nm0, u := u', fp := [], c := .inl s' }) (hsl : ∃ a n cap, u' = .slice a n cap) :
    Good cx c { v := vs s', dead := dn, frz := [], live := dn, read := r } nm0 u' w' ({ nm := nm0, u := u', fp := [], c := .inl s' } :: c.T.filter (fun tk => !dn.contains tk.nm)) := by
  have hmem : ∀ tk, tk ∈ c.T.filter (fun tk => !dn.contains tk.nm) ↔ tk ∈ c.T ∧ tk.nm ∉ dn := fun tk => by simp [List.mem_filter]
  have hpres : Pres cx c (c.nx { v := vs s', dead := dn, frz := [], live := dn, read := r } w' ({ nm := nm0, u := u', fp := [], c := .inl s' } :: c.T.filter (fun tk => !dn.contains tk.nm))) := by
    refine ⟨fun b hb => ?_, fun n hn => List.mem_append.2 (.inr hn), fun n hn => hn, fun tk ht hD _ => ?_, fun tk ht l hl => ?_, fun tk ht _ _ _ hF => absurd hF (h.live tk ht).2⟩
    · obtain ⟨h1, h2, h3⟩ := hb
      refine ⟨⟨Nat.lt_of_lt_of_le h1 hsz, h2, fun tk ht hv => ?_⟩, hheap b h1 (fun tk ht _ => h3 tk ht)⟩
      rcases List.mem_cons.1 ht with ht | ht
      · subst ht
        rcases hblk b hv with ⟨tk, k1, _, k3⟩ | hk
        · exact h3 tk k1 k3
        · omega
      · exact h3 tk ((hmem tk).1 ht).1 hv
    · refine List.mem_cons_of_mem _ ((hmem tk).2 ⟨ht, fun hd => hD (List.mem_append.2 (.inl hd))⟩)
    · refine List.mem_cons_of_mem _ ((hmem tk).2 ⟨ht, fun hd => ?_⟩)
      obtain ⟨s, hs⟩ := hdn tk ht hd
      rw [hl] at hs
      cases hs
  have hother : ∀ tk ∈ c.T, tk.nm ∉ dn → ∀ b ∈ blocks tk, ∀ t2 ∈ c.T, t2.nm ∈ dn → b ∉ vb t2.u := fun tk ht hn b hb t2 ht2 hn2 hb2 =>
    disjoint_toks h ht ht2 (fun e => hn (e ▸ hn2)) hb (List.mem_append.2 (.inl hb2))
  refine ⟨⟨?_, ?_, ?_, ?_, h.start, ?_, fun b hb => h.size b (Nat.le_trans hsz hb)⟩, hpres, ?_, hbel, ?_⟩
  · show (List.map _ (_ :: _)).Nodup
    rw [List.map_cons, List.nodup_cons]
    refine ⟨fun hm => ?_, (List.Sublist.map _ List.filter_sublist).nodup h.names⟩
    obtain ⟨tk, ht, he⟩ := List.mem_map.1 hm
    have he : tk.nm = nm0 := he
    exact hf _ (.inl ⟨tk, ((hmem tk).1 ht).1, rfl⟩) ⟨by omega, by omega⟩
  · show (List.flatMap _ (_ :: _)).Nodup
    rw [List.flatMap_cons, List.nodup_append]
    refine ⟨by simpa using vb_nodup u', ?_, fun a ha b hb he => ?_⟩
    · have hsub : List.Sublist ((c.T.filter (fun tk => !dn.contains tk.nm)).flatMap fun tk => vb tk.u ++ tk.fp) (c.T.flatMap fun tk => vb tk.u ++ tk.fp) := by
        have : ∀ T : List (Tk cx.ty), List.Sublist ((T.filter (fun tk => !dn.contains tk.nm)).flatMap fun tk => vb tk.u ++ tk.fp) (T.flatMap fun tk => vb tk.u ++ tk.fp) := by
          intro T
          induction T with
          | nil => exact List.Sublist.refl _
          | cons x r ih =>
            rw [List.filter_cons]
            split
            · rw [List.flatMap_cons, List.flatMap_cons]; exact (List.Sublist.refl _).append ih
            · rw [List.flatMap_cons]; exact ih.trans (List.sublist_append_right _ _)
        exact this _
      exact hsub.nodup h.nodup
    · subst he
      simp only [List.append_nil] at ha
      obtain ⟨tk, ht, hb⟩ := List.mem_flatMap.1 hb
      obtain ⟨ht1, ht2⟩ := (hmem tk).1 ht
      rcases hblk a ha with ⟨t2, k1, k2, k3⟩ | hk
      · exact hother tk ht1 ht2 a hb t2 k1 k2 k3
      · have := (h.bound tk ht1 a hb).2
        omega
  · intro tk ht b hb
    rcases List.mem_cons.1 ht with ht | ht
    · subst ht
      simp only [List.append_nil] at hb
      rcases hblk b hb with ⟨t2, k1, k2, k3⟩ | hk
      · have := h.bound t2 k1 b (List.mem_append.2 (.inl k3))
        exact ⟨this.1, Nat.lt_of_lt_of_le this.2 hsz⟩
      · have := h.size
        exact ⟨by show c.N b; exact this b (by omega), hk.2⟩
    · have := h.bound tk ((hmem tk).1 ht).1 b hb
      exact ⟨this.1, Nat.lt_of_lt_of_le this.2 hsz⟩
  · intro tk ht
    rcases List.mem_cons.1 ht with ht | ht
    · subst ht
      exact htok _ rfl
    · obtain ⟨ht1, ht2⟩ := (hmem tk).1 ht
      exact TokRep.pres cx hpres (fun b hb => hheap b (h.bound tk ht1 b hb).2 (hother tk ht1 ht2 b hb)) (h.rep tk ht1)
  · intro tk ht
    rcases List.mem_cons.1 ht with ht | ht
    · subst ht
      refine ⟨fun hd => ?_, fun hd => hf _ (.inr (.inr hd)) ⟨Nat.le_refl _, by show nm0 < nm0 + 64; omega⟩⟩
      rcases List.mem_append.1 hd with hd | hd
      · obtain ⟨tk, k1, k2⟩ := hdT _ hd
        exact hf _ (.inl ⟨tk, k1, k2⟩) ⟨Nat.le_refl _, by show nm0 < nm0 + 64; omega⟩
      · exact hf _ (.inr (.inl hd)) ⟨Nat.le_refl _, by show nm0 < nm0 + 64; omega⟩
    · obtain ⟨ht1, ht2⟩ := (hmem tk).1 ht
      refine ⟨fun hd => ?_, (h.live tk ht1).2⟩
      rcases List.mem_append.1 hd with hd | hd
      · exact ht2 hd
      · exact (h.live tk ht1).1 hd
  · refine (show RepV cx _ (vs s') u' from ?_)
    refine (show RepLS cx _ (some (.inr s')) u' from repLS_tok hs'.1 ?_ ?_ (List.mem_cons_self ..) hs'.2.symm rfl rfl hsl)
    · intro hd
      rw [hs'.2] at hd
      rcases List.mem_append.1 hd with hd | hd
      · obtain ⟨tk, k1, k2⟩ := hdT _ hd
        exact hf _ (.inl ⟨tk, k1, k2⟩) ⟨Nat.le_refl _, by omega⟩
      · exact hf _ (.inr (.inl hd)) ⟨Nat.le_refl _, by omega⟩
    · intro hd
      rw [hs'.2] at hd
      exact hf _ (.inr (.inr hd)) ⟨Nat.le_refl _, by omega⟩
  · intro n hn
    rcases hn with ⟨tk, ht, rfl⟩ | hn | hn
    · rcases List.mem_cons.1 ht with ht | ht
      · subst ht; exact .inr ⟨Nat.le_refl _, by show nm0 < nm0 + 64; omega⟩
      · exact .inl (.inl ⟨tk, ((hmem tk).1 ht).1, rfl⟩)
    · rcases List.mem_append.1 hn with hn | hn
      · obtain ⟨tk, k1, k2⟩ := hdT _ hn
        exact .inl (.inl ⟨tk, k1, k2⟩)
      · exact .inl (.inr (.inl hn))
    · exact .inl (.inr (.inr hn))

/-- The cells of a slice of plain elements that may be read. -/
theorem rep_cells (ok : cx.Ok) {c : Ct cx.ty} (hw : Wf cx c) {s : SlD cx.ty} (hflat : cx.flat s.e = true) (hpos : 0 < cx.size s.e) {u : Value} (h : RepLS cx c (some (.inr s)) u) (hd : ∀ n ∈ rdn s, n ∉ c.D) :
    ∃ a cap, u = .slice a s.xs.length cap ∧ (s.xs = [] ∨ ∃ ad, a = some ad ∧ ∀ (j : Nat) v, (flatVals cx s.e s.xs)[j]? = some v → c.w.cell? (ad.add j) = some v) := by
  have key : ∀ (b off : Nat), (∀ (i : Nat) x, s.xs[i]? = some x → ∃ n, ∀ j l, (cx.enc s.e false x)[j]? = some l → ∃ v, c.w.cell? ⟨b, off + i * cx.size s.e + j, none⟩ = some v ∧ RepL cx c.w (Rd c) n l v) →
      ∀ (j : Nat) v, (flatVals cx s.e s.xs)[j]? = some v → c.w.cell? ((⟨b, off, none⟩ : Addr).add j) = some v := by
    intro b off hc j v hv
    have hlen := flatVals_len ok hflat s.xs
    have hjl : j < s.xs.length * cx.size s.e := by rw [← hlen]; exact (List.getElem?_eq_some_iff.1 hv).1
    have hi : j / cx.size s.e < s.xs.length := (Nat.div_lt_iff_lt_mul hpos).2 hjl
    have hm : j % cx.size s.e < cx.size s.e := Nat.mod_lt _ hpos
    have hj : j / cx.size s.e * cx.size s.e + j % cx.size s.e = j := by rw [Nat.mul_comm]; exact Nat.div_add_mod j _
    obtain ⟨n, hn⟩ := hc (j / cx.size s.e) _ (List.getElem?_eq_getElem hi)
    have hfg := flat_get (cx.enc s.e false) (cx.size s.e) (fun x => ok.len s.e false x) s.xs _ _ (List.getElem?_eq_getElem hi) _ hm
    rw [hj, flat_enc ok hflat false s.xs, List.getElem?_map, hv] at hfg
    obtain ⟨v', h1, h2⟩ := hn _ _ hfg.symm
    have h2 : v' = v := by cases n <;> simpa [RepL, lv] using h2
    rw [Addr.add_lit, ← h2, ← h1]
    congr 2
    omega
  unfold RepLS at h
  have ofRepL : ∀ n, RepL cx c.w (Rd c) n (some (.inr s)) u → ∃ a cap, u = .slice a s.xs.length cap ∧ (s.xs = [] ∨ ∃ ad, a = some ad ∧ ∀ (j : Nat) v, (flatVals cx s.e s.xs)[j]? = some v → c.w.cell? (ad.add j) = some v) := by
    intro n hn
    cases n with
    | zero => simp [RepL] at hn
    | succ n =>
      obtain ⟨a, cap, hu, _, hcase⟩ := hn
      refine ⟨a, cap, hu, ?_⟩
      rcases hcase with hx | ⟨b, off, ha, hS, hc⟩
      · exact .inl hx
      · refine .inr ⟨⟨b, off, none⟩, ha, key b off (fun i x hx => ⟨n, fun j l hl => ?_⟩)⟩
        obtain ⟨v, hv, hr⟩ := hc i x hx j l hl
        exact ⟨v, by rw [Nat.add_assoc]; exact hv, hr⟩
  by_cases h1 : s.own = 1
  · have h2 : s.nm ∉ c.D := hd _ (by simp [rdn, h1])
    simp only [h1, if_true, h2, if_false] at h
    obtain ⟨_, h⟩ := h
    by_cases h3 : s.nm ∈ c.F
    · simp only [h3, if_true] at h
      obtain ⟨n, h⟩ := h
      exact ofRepL n h
    · simp only [h3, if_false] at h
      obtain ⟨tk, ht, _, hc, hu⟩ := h
      rcases tok_el ok hw ht hc with ⟨h4, h5⟩ | ⟨g, cap, h4, _, h5⟩
      · exact ⟨none, 0, by rw [← hu, h4, h5]; rfl, .inl h5⟩
      · refine ⟨_, cap, by rw [← hu, h4], .inr ⟨_, rfl, key g 0 (fun i x hx => ?_)⟩⟩
        obtain ⟨n, hn⟩ := h5 i x hx
        refine ⟨n, fun j l hl => ?_⟩
        obtain ⟨v, hv, hr⟩ := hn j l hl
        exact ⟨v, by rw [Nat.zero_add]; exact hv, hr⟩
  · simp only [h1, if_false] at h
    obtain ⟨n, h⟩ := h
    exact ofRepL n h

/-- append, whatever room there is: where the result lies, and what has turned. -/
theorem run_append_any {w : World} {t ty e : TypeId} {i : TypeInfo} {z : Value} {size : Nat} (ht : P.underlying t = some (.slice e)) (hi : P.info? e = some i) (hz : i.zero = some z) (hsize : i.size = size) (hzs : z.cells.size = size) (hpos : 0 < size)
    {v : Value} {n : Nat} {xs : List Value} (hown : w.ownsRow 0 e size v n xs) {a : Option Addr} {m cap : Nat} {news : List Value} (hl : news.length = m * size) (hcells : m = 0 ∨ ∃ ad, a = some ad ∧ ∀ (j : Nat) u, news[j]? = some u → w.cell? (ad.add j) = some u)
    (h1 : ∀ u ∈ news, u.oneCell' = true) (h63 : n + m ≤ maxLen) (hbytes : (n + m) * i.bytes ≤ 140737488355328) :
    ∃ v' w', (Builtin.append_ #[t, t] ty #[v, .slice a m cap]).run P w = .ok v' w' ∧ w'.ownsRow 0 e size v' (n + m) (xs ++ news) ∧ w.grownBy w' v.ownBlock ∧ (∀ g, v'.ownBlock = some g → v.ownBlock = some g ∨ w.heap.size ≤ g) ∧ (∃ a n c, v' = .slice a n c) := by
  by_cases hm : m = 0
  · subst hm
    have hn : news = [] := List.eq_nil_of_length_eq_zero (by simpa using hl)
    subst hn
    have hso : (sizeOf e).run P w = .ok i.size w := by simp [sizeOf, typeInfo, hi]
    refine ⟨v, w, ?_, by simpa using hown, ⟨rfl, rfl, rfl, Nat.le_refl _, fun _ _ _ => rfl⟩, fun g hg => .inl hg, ?_⟩
    · rcases hown.2 with ⟨rfl, rfl⟩ | ⟨g, cap', cur, rfl, _, _, hnc, _⟩
      · cases a <;> simp [Builtin.append_, run_underlying ht, sizeOf, typeInfo, hi, Builtin.lenOf, Builtin.firstCells, loadCells, loadCellsFrom]
      · cases a <;> simp [Builtin.append_, run_underlying ht, sizeOf, typeInfo, hi, Builtin.lenOf, Builtin.firstCells, hnc, storeCells, loadCells, loadCellsFrom]
    · rcases hown.2 with ⟨rfl, rfl⟩ | ⟨g, cap', cur, rfl, _⟩
      · exact ⟨_, _, _, rfl⟩
      · exact ⟨_, _, _, rfl⟩
  · have hcells : ∃ ad, a = some ad ∧ ∀ (j : Nat) u, news[j]? = some u → w.cell? (ad.add j) = some u := hcells.resolve_left hm
    obtain ⟨ad, rfl, hnews⟩ := hcells
    obtain ⟨v', w', hr, k1, k2, _⟩ := run_append_own (P := P) w 0 t ty e i z size i.bytes ht hi hz hsize rfl hzs hpos v n xs hown ad m cap news hl hnews h1 h63 hbytes (Nat.zero_le _)
    refine ⟨v', w', hr, k1, k2, ?_, ?_⟩
    · subst hsize
      rcases hown.2 with ⟨rfl, rfl⟩ | ⟨g, cap', cur, rfl, hb, hg, hnc, hcm, hcs, htake⟩
      · have hx := run_append_nil (P := P) w t ty e i z ht hi hz ad m cap news hl hnews (by omega) (by simp [maxLen] at h63; omega) (by simp at hbytes; omega)
        rw [hr] at hx
        simp only [Result.ok.injEq] at hx
        intro g hg
        rw [hx.1] at hg
        simp only [Value.ownBlock, Option.some.injEq] at hg
        exact .inr (by omega)
      · by_cases hroom : n + m ≤ cap'
        · obtain ⟨w2, hx, _⟩ := run_append_fits (P := P) w 0 t ty e i i.size ht hi rfl g n cap' xs hown ad m cap news hl hnews h1 hroom
          rw [hr] at hx
          simp only [Result.ok.injEq] at hx
          intro g' hg'
          rw [hx.1] at hg'
          simp only [Value.ownBlock, Option.some.injEq] at hg' ⊢
          exact .inl hg'
        · have holds := hown.cells (g := g) rfl
          have hx := run_append_grow (P := P) w t ty e i z ht hi hz ⟨g, 0, none⟩ n cap' xs hown.1 holds ad m cap news hl hnews (by omega) (by simp [maxLen] at h63; omega) (growslice_fits (by omega) hbytes)
          rw [hr] at hx
          simp only [Result.ok.injEq] at hx
          intro g' hg'
          rw [hx.1] at hg'
          simp only [Value.ownBlock, Option.some.injEq] at hg'
          exact .inr (by omega)
    · rcases k1.2 with ⟨hv, _⟩ | ⟨g, cap', cur, hv, _⟩
      · exact ⟨_, _, _, hv⟩
      · exact ⟨_, _, _, hv⟩

/-- A slice as an operand: the constant nil is one. -/
def asSl {ty : Nat → Type} (e : Nat) (v : V ty) : Option (SlD ty) :=
  match v with
  | .inl (.inl (some (.inr s))) => if s.e == e then some s else none
  | .inl (.inl (some (.inl (.slice none 0 0)))) => some (ro e [])
  | _ => none

def castXs {ty : Nat → Type} (e : Nat) (s : SlD ty) : List (ty e) := if h : s.e = e then h ▸ s.xs else []

def evAppend {β : Type} (P : Program) (cx : Cx) (slots : List (V cx.ty)) (t : TypeId) (x y : Operand) (nm0 : Nat) (k : Eff cx.ty → Option β) : Option β :=
  match sliceElem P t with
  | some e => if cx.flat e && cx.dom e then
      match asSl e (getV slots y) with
      | some s2 => match getV slots x with
        | .inl (.inl (some (.inr s))) => if s.e == e && s.own == 1 && s.o then
            bif decide (s.xs.length + s2.xs.length ≤ 1000000000) then
              k { v := tokV nm0 e (castXs e s ++ castXs e s2), dead := [s.nm], frz := [], live := [s.nm], read := rdn s2 }
            else none
          else none
        | .inl (.inl (some (.inl (.slice none 0 0)))) => bif decide (s2.xs.length ≤ 1000000000) then k { v := tokV nm0 e (castXs e s2), dead := [], frz := [], live := [], read := rdn s2 } else none
        | _ => none
      | none => none
    else none
  | none => none

theorem repLS_ro {c : Ct cx.ty} {s : SlD cx.ty} {u : Value} (h1 : ¬ s.own = 1) (h : ∃ n, RepL cx c.w (Rd c) n (some (.inr s)) u) : RepLS cx c (some (.inr s)) u := by
  unfold RepLS
  simp only [h1, if_false]
  exact h

theorem cast_vals {e : Nat} {s : SlD cx.ty} (h : s.e = e) : flatVals cx e (castXs e s) = flatVals cx s.e s.xs ∧ (castXs e s).length = s.xs.length := by
  subst h
  simp [castXs]

theorem flatVals_append (e : Nat) (xs ys : List (cx.ty e)) : flatVals cx e (xs ++ ys) = flatVals cx e xs ++ flatVals cx e ys := by
  simp [flatVals, List.flatMap_append]

theorem asSl_rep {c : Ct cx.ty} {e : Nat} {v : V cx.ty} {s : SlD cx.ty} (h : asSl e v = some s) {u : Value} (hr : RepV cx c v u) : s.e = e ∧ RepLS cx c (some (.inr s)) u := by
  unfold asSl at h
  split at h
  · split at h
    · rename_i he
      simp only [Option.some.injEq] at h
      subst h
      exact ⟨by simpa using he, hr⟩
    · simp at h
  · simp only [Option.some.injEq] at h
    subst h
    have hr : u = .slice none 0 0 := hr
    subst hr
    exact ⟨rfl, repLS_ro (by simp [ro]) ⟨1, none, 0, rfl, Nat.le_refl _, .inl rfl⟩⟩
  · simp at h

theorem evAppend_ok (ok : cx.Ok) (hZ : cx.POk P) {β : Type} {o : Oper} {slots : List (V cx.ty)} {nm0 : Nat} {t : TypeId} {x y : Operand} (ho : o.op = .call { callee := .builtin .append, args := #[x, y], argTypes := #[t, t] }) {k : Eff cx.ty → Option β} {r : β}
    (h : evAppend P cx slots t x y nm0 k = some r) : ∃ ef, k ef = some r ∧ EffOK P cx o slots nm0 ef := by
  unfold evAppend at h
  split at h
  · rename_i e he
    split at h
    · rename_i hfd
      simp only [Bool.and_eq_true] at hfd
      obtain ⟨hflat, hdom⟩ := hfd
      obtain ⟨i, z, hi, hz, hsz, hby, hzs, hpos, henc⟩ := hZ.zero e hdom
      have hxm : x ∈ o.op.operands := by simp [ho, Op.operands, Call.operands]
      have hym : y ∈ o.op.operands := by simp [ho, Op.operands, Call.operands]
      have execEq : ∀ (ρ : Operand → Value) (w : World) v' w', (Builtin.append_ #[t, t] o.type #[ρ x, ρ y]).run P w = .ok v' w' → (execOp ρ o).run P w = .ok (.value v') w' := by
        intro ρ w v' w' hr
        unfold execOp
        simp only [ho, resolve, invoke, builtin, Sem.run_bind, Sem.run_pure, Result.andThen_ok, List.map_toArray, List.map_cons, List.map_nil, hr]
      split at h
      · rename_i s2 hy
        split at h
        · rename_i s hx
          split at h
          · rename_i hso
            simp only [Bool.and_eq_true, beq_iff_eq] at hso
            obtain ⟨⟨hse, hown1⟩, hso⟩ := hso
            cases hb : decide (s.xs.length + s2.xs.length ≤ 1000000000) with
            | false => rw [hb] at h; simp at h
            | true =>
              rw [hb] at h
              have hb : s.xs.length + s2.xs.length ≤ 1000000000 := by simpa using hb
              refine ⟨_, h, ⟨fun c ρ hw hop hlive hrd hf => ?_⟩⟩
              have hrx := hop x hxm; rw [hx] at hrx
              have hrx : RepLS cx c (some (.inr s)) (ρ x) := hrx
              obtain ⟨hs2e, hry⟩ := asSl_rep hy (hop y hym)
              obtain ⟨hnD, hnF⟩ := hlive s.nm (List.mem_singleton.2 rfl)
              unfold RepLS at hrx
              simp only [hown1, if_true, hnD, hnF, if_false] at hrx
              obtain ⟨_, tk, htk, hn, hc, hu⟩ := hrx
              have htr := hw.rep tk htk
              unfold TokRep at htr
              rw [hc] at htr
              simp only [hso, if_true] at htr
              obtain ⟨hvb, nn, htr⟩ := htr
              obtain ⟨hrow, hfp⟩ := flat_of_own ok (by rw [hse]; exact hflat) htr
              rw [← (cast_vals hse).1, ← (cast_vals hse).2, hse, hu] at hrow
              obtain ⟨a2, cap2, hu2, hcells⟩ := rep_cells ok hw (by rw [hs2e]; exact hflat) (by rw [hs2e]; exact hpos) hry hrd
              have hl2 : (flatVals cx e (castXs e s2)).length = s2.xs.length * cx.size e := by rw [flatVals_len ok hflat, (cast_vals hs2e).2]
              obtain ⟨v', w', hr, k1, k2, k3, k4⟩ := run_append_any (P := P) (w := c.w) (ty := o.type) (sliceElem_eq he) hi hz hsz hzs hpos hrow (a := a2) (m := s2.xs.length) (cap := cap2) (news := flatVals cx e (castXs e s2)) hl2 (by
                rcases hcells with hx0 | ⟨ad, ha, hc2⟩
                · exact .inl (by rw [hx0]; rfl)
                · exact .inr ⟨ad, ha, by rw [(cast_vals hs2e).1]; exact hc2⟩) (flatVals_one ok hflat _) (by rw [(cast_vals hse).2]; simp [maxLen]; omega) (by
                rw [(cast_vals hse).2]
                exact Nat.le_trans (Nat.mul_le_mul hb hby) (by omega))
              rw [← hu2] at hr
              unfold Runs
              rw [execEq ρ c.w v' w' hr]
              have hblk : ∀ g, (ρ x).ownBlock = some g ↔ g ∈ vb tk.u := fun g => by rw [hvb, hu]; cases (ρ x).ownBlock <;> simp [eq_comm]
              have hvb' : ∀ b, b ∈ vb v' → v'.ownBlock = some b := by
                intro b hb'
                obtain ⟨a, n, cc, rfl⟩ := k4
                cases a with
                | none => simp [vb] at hb'
                | some ad => simp [vb] at hb'; simp [Value.ownBlock, hb']
              rw [← flatVals_append] at k1
              refine ⟨_, good_repl hw hf (fun tk' ht' hn' => ?_) (fun n hn' => ?_) (s' := { own := 1, nm := nm0, e := e, o := true, xs := castXs e s ++ castXs e s2 }) ⟨rfl, rfl⟩ (fun b hb' => ?_) (fun b hb' hno => ?_) k2.size ⟨k2.os, k2.tape, k2.output, k2.size, fun k hk => k2.block k (Wf.lt cx hw hk) ?_⟩ (fun c' hcw => ?_) k4⟩
              · simp only [List.mem_singleton] at hn'
                have : tk' = tk := by
                  have hnd := hw.names
                  rcases Classical.em (tk' = tk) with h | h
                  · exact h
                  · exfalso
                    obtain ⟨l1, l2, hl⟩ := List.append_of_mem htk
                    rw [hl] at hnd ht'
                    rw [List.map_append, List.map_cons, List.nodup_append] at hnd
                    rcases List.mem_append.1 ht' with h3 | h3
                    · exact hnd.2.2 tk'.nm (List.mem_map.2 ⟨tk', h3, rfl⟩) tk.nm (List.mem_cons_self ..) (by rw [hn', hn])
                    · rcases List.mem_cons.1 h3 with h3 | h3
                      · exact h h3
                      · exact (List.nodup_cons.1 hnd.2.1).1 (List.mem_map.2 ⟨tk', h3, by rw [hn', hn]⟩)
                rw [this]
                exact ⟨s, hc⟩
              · simp only [List.mem_singleton] at hn'
                exact ⟨tk, htk, by rw [hn', hn]⟩
              · rcases k3 b (hvb' b hb') with hg | hg
                · exact .inl ⟨tk, htk, by simp [hn], (hblk b).1 hg⟩
                · refine .inr ⟨hg, ?_⟩
                  have := World.ownsRow.lt k1 b (hvb' b hb')
                  exact this.2
              · exact k2.block b hb' (fun hg => hno tk htk (by simp [hn]) ((hblk b).1 hg.symm))
              · intro hg
                have hbm := (hblk k).1 hg.symm
                exact hk (hw.bound tk htk k (List.mem_append.2 (.inl hbm))).1
              · subst hcw
                refine ⟨?_, 1, ?_⟩
                · obtain ⟨a, n, cc, rfl⟩ := k4
                  cases a <;> rfl
                · have hlen : (castXs e s ++ castXs e s2).length = (castXs e s).length + s2.xs.length := by rw [List.length_append, (cast_vals hs2e).2]
                  rw [← hlen] at k1
                  have := own_flat ok (s := { own := 1, nm := nm0, e := e, o := true, xs := castXs e s ++ castXs e s2 }) hflat k1
                  have hvv : vb v' ++ [] = v'.ownBlock.toList := by
                    obtain ⟨a, n, cc, rfl⟩ := k4
                    cases a <;> rfl
                  rw [hvv]
                  exact this
          · simp at h
        · rename_i hx
          cases hb : decide (s2.xs.length ≤ 1000000000) with
          | false => rw [hb] at h; simp at h
          | true =>
            rw [hb] at h
            have hb : s2.xs.length ≤ 1000000000 := by simpa using hb
            refine ⟨_, h, ⟨fun c ρ hw hop hlive hrd hf => ?_⟩⟩
            have hrx := hop x hxm; rw [hx] at hrx
            have hrx : ρ x = .slice none 0 0 := hrx
            obtain ⟨hs2e, hry⟩ := asSl_rep hy (hop y hym)
            obtain ⟨a2, cap2, hu2, hcells⟩ := rep_cells ok hw (by rw [hs2e]; exact hflat) (by rw [hs2e]; exact hpos) hry hrd
            have hl2 : (flatVals cx e (castXs e s2)).length = s2.xs.length * cx.size e := by rw [flatVals_len ok hflat, (cast_vals hs2e).2]
            obtain ⟨v', w', hr, k1, k2, k3, k4⟩ := run_append_any (P := P) (w := c.w) (ty := o.type) (sliceElem_eq he) hi hz hsz hzs hpos (World.ownsRow_nil c.w 0 e (cx.size e)) (a := a2) (m := s2.xs.length) (cap := cap2) (news := flatVals cx e (castXs e s2)) hl2 (by
              rcases hcells with hx0 | ⟨ad, ha, hc2⟩
              · exact .inl (by rw [hx0]; rfl)
              · exact .inr ⟨ad, ha, by rw [(cast_vals hs2e).1]; exact hc2⟩) (flatVals_one ok hflat _) (by simp [maxLen]; omega) (by
              rw [Nat.zero_add]
              exact Nat.le_trans (Nat.mul_le_mul hb hby) (by omega))
            rw [← hu2, ← hrx] at hr
            unfold Runs
            rw [execEq ρ c.w v' w' hr]
            have hvb' : ∀ b, b ∈ vb v' → v'.ownBlock = some b := by
              intro b hb'
              obtain ⟨a, n, cc, rfl⟩ := k4
              cases a with
              | none => simp [vb] at hb'
              | some ad => simp [vb] at hb'; simp [Value.ownBlock, hb']
            simp only [Nat.zero_add, List.nil_append] at k1
            refine ⟨_, good_repl hw hf (fun tk' ht' hn' => by simp at hn') (fun n hn' => by simp at hn') (s' := { own := 1, nm := nm0, e := e, o := true, xs := castXs e s2 }) ⟨rfl, rfl⟩ (fun b hb' => ?_) (fun b hb' hno => ?_) k2.size ⟨k2.os, k2.tape, k2.output, k2.size, fun k hk => k2.block k (Wf.lt cx hw hk) (by simp [Value.ownBlock])⟩ (fun c' hcw => ?_) k4⟩
            · rcases k3 b (hvb' b hb') with hg | hg
              · simp [Value.ownBlock] at hg
              · exact .inr ⟨hg, (World.ownsRow.lt k1 b (hvb' b hb')).2⟩
            · exact k2.block b hb' (by simp [Value.ownBlock])
            · subst hcw
              refine ⟨?_, 1, ?_⟩
              · obtain ⟨a, n, cc, rfl⟩ := k4
                cases a <;> rfl
              · rw [← (cast_vals hs2e).2] at k1
                have := own_flat ok (s := { own := 1, nm := nm0, e := e, o := true, xs := castXs e s2 }) hflat k1
                have hvv : vb v' ++ [] = v'.ownBlock.toList := by
                  obtain ⟨a, n, cc, rfl⟩ := k4
                  cases a <;> rfl
                rw [hvv]
                exact this
        · simp at h
      · simp at h
    · simp at h
  · simp at h

end
end Go.VM
